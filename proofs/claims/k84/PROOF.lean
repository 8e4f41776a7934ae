import PyProof.Rows.All
import Wide.All
import OpenK.AllK
import Wide.FinOn
import Lean
import PyProof.EqAt
import PyProof.EqKinds
import PyProof.TupleCall
import PyProof.RaisesMany
import KE.KSortTup
import PyProof.NeKinds
import PyProof.SetKind
import PyProof.SetRoads
import PyProof.SetNew
import PyProof.WalksS
import PyProof.CollectWalk
import PyProof.TupleKey
import PyProof.IsRules
import PyProof.InstEq
import KE.KRevIter
import PyProof.FitsBits
import PyProof.P3Eq
import PyProof.ListRange
import PyProof.MeetsSeq
import PyProof.DictRoadsH
import PyProof.DictTruth
import PyProof.MinMaxWalk
import PySem.Challenge.RW_mapdye_k84_whole_one_dyeing_led_to_anoth
abbrev be:=@PySem.wpAny_bind
abbrev ir:=@PySem.wpAny_pure
abbrev mo:=@if_neg
abbrev tz:=@if_pos
abbrev AC:=@PySem.Heap.get?_push_of_some
abbrev Da:=@Option.some.inj
abbrev Do:=@Classical.byContradiction
abbrev Fk:=@PySem.Heap.lt_size
abbrev FB:=@PySem.PassesOwn.never
abbrev FM:=@decide_eq_false
abbrev FS:=@congrArg
abbrev Gc:=@PySem.Heap.get?_push_size
abbrev GE:=@decide_eq_true
abbrev GM:=@of_decide_eq_false
abbrev GT:=@of_decide_eq_true
abbrev IR:=@PySem.W.mg_none_of
abbrev KB:=@PySem.Heap.get?_update_other
abbrev KF:=@PySem.wpAny_holding
abbrev KM:=@PySem.wpAny_newObj_type
abbrev M2:=@PySem.wpAny_truthy_bool
abbrev On:=@PySem.wpAny_setState_of
abbrev Os:=@PySem.F.plainAttrs_list
abbrev Pi:=@PySem.Heap.get?_update_self
abbrev PP:=@PySem.W.kia_one
abbrev P3:=@if_false
abbrev SB:=@PySem.wpAny_call_entry
abbrev SC:=@PySem.Around.under_plainId
abbrev SL:=@List.cons.inj
abbrev SZ:=@PySem.F.plain_min_loop
abbrev UF:=@Prod.ext
abbrev UV:=@PySem.codeAny_builtin
abbrev Wp:=@PySem.Heap.SameBut.update
abbrev aat:=@Prod.mk.inj
abbrev acf:=@PySem.plainId_quiet
abbrev acg:=@beq_eq_false_iff_ne
abbrev ach:=@PySem.mem_of_lookup
abbrev aci:=@PyProof.Rows.callWith_type1
abbrev acj:=@PySem.wpAny_Call_Name_kw
abbrev ack:=@PySem.wpAny_passesOwn
abbrev acm:=@List.Perm.append_left
abbrev acn:=@PySem.wpAny_standAt
abbrev aco:=@beq_iff_eq
abbrev acp:=@List.Pairwise.imp_of_mem
abbrev acq:=@PySem.wpAny_askSetting
abbrev acr:=@decide_eq_decide
abbrev acs:=@if_true
abbrev acu:=@PySem.W.mg_of
abbrev acv:=@PySem.call_meets
abbrev acw:=@PySem.Calls.callWith_builtin
abbrev acx:=@decide_eq_true_eq
abbrev acy:=@PySem.wpAny_of_eq
abbrev acz:=@PySem.wpAny_updateSeq
abbrev acA:=@PySem.codeAny_mono
abbrev acB:=@PySem.SeqAt.EqAt.int_int
abbrev acC:=@PySem.wpAny_comprehension_free
abbrev acD:=@decide_eq_true_iff
abbrev acE:=@PySem.SetTable.toList_insertAt
abbrev acF:=@PySem.Obj.data_mapFields
abbrev acG:=@PySem.F.slot_list_append
abbrev acH:=@PySem.F.type_list_append
abbrev acI:=@PySem.wpAny_seqItems
abbrev acJ:=@PySem.wpAny_tryCatch
abbrev acK:=@Iff.rfl
abbrev acL:=@PySem.wpAny_callSpecial?_slot
abbrev acM:=@List.length_eq_zero_iff
abbrev acN:=@PySem.wpAny_storeSet_of
abbrev acO:=@PySem.fits_of_scanBound
abbrev acP:=@List.reverse_perm
abbrev acQ:=@Nat.add_mod_right
abbrev acR:=@Nat.le_succ
abbrev acS:=@PySem.wpAny_Call_method_late
abbrev acT:=@List.drop_of_length_le
abbrev acU:=@PySem.SetTable.insertAt_perm
abbrev acV:=@PySem.F.entry_min_loop
abbrev acW:=@List.Perm.append_right
abbrev acX:=@List.all_cons
abbrev acY:=@List.any_cons
abbrev acZ:=@Bool.not_true
abbrev ac0:=@PySem.wpAny_forIn_list
abbrev ac1:=@List.isEmpty_nil
abbrev ac2:=@List.append_inj'
abbrev ac3:=@List.set_getElem_self
abbrev ac4:=@List.countP_mono_left
abbrev ac5:=@List.pairwise_flatten
abbrev ac6:=@List.count_cons_of_ne
abbrev ac7:=@PyProof.Rows.slot_tuple_getitem
abbrev ac8:=@PySem.wpAny_execs_nil
abbrev ac9:=@PySem.Calls.evalArgs_plain
abbrev ada:=@List.pairwise_append
abbrev adb:=@PySem.wpAny_ite_false
abbrev ade:=@Bool.or_eq_true
abbrev adf:=@List.mem_of_mem_take
abbrev adg:=@List.eq_nil_iff_forall_not_mem
abbrev adh:=@List.filterMap_cons
abbrev adi:=@PySem.W.plainGet_of
abbrev adj:=@PySem.wpAny_setEntries_of
abbrev adk:=@PySem.wpAny_ite_true
abbrev adl:=@List.count_set
abbrev adm:=@PySem.sizeLine_eq
abbrev adn:=@PyProof.Rows.assignInOrder_cons
abbrev ado:=@PySem.W.callWith_K
abbrev adp:=@Int.emod_lt_of_pos
abbrev adq:=@List.getElem?_drop
abbrev ads:=@PySem.Calls.Name_function_global
abbrev adt:=@PySem.MeetsSeq3.plain_eq_loop
abbrev adu:=@List.map_drop
abbrev adv:=@PyProof.Rows.callWith_type
abbrev adw:=@PyProof.Rows.evalArgs_nil3
abbrev adx:=@PySem.Value.isInt_shape
abbrev ady:=@PySem.wpAny_pyIter_list
abbrev adz:=@List.take_sublist
abbrev adA:=@Array.toList_push
abbrev adB:=@Nat.lt_trichotomy
abbrev adC:=@List.getElem?_inj
abbrev adD:=@PySem.Calls.call_function_entry
abbrev adE:=@List.count_replicate_self
abbrev adF:=@Nat.ne_of_gt
abbrev adG:=@PySem.F.args_tuple_add_2
abbrev adH:=@PySem.wpAny_typeOf
abbrev adI:=@List.map_nil
abbrev adJ:=@Nat.add_comm
abbrev adK:=@List.all_eq_true
abbrev adL:=@Nat.succ.inj
abbrev adM:=@List.ext_getElem
abbrev adN:=@PySem.Around.in1_units
abbrev adO:=@List.Perm.eq_of_pairwise
abbrev adP:=@List.not_mem_nil
abbrev adQ:=@PySem.F.entry_tuple_add
abbrev adR:=@List.of_mem_zip
abbrev adS:=@PySem.codeAny_of_tree
abbrev adT:=@Nat.not_lt_zero
abbrev adU:=@PyProof.Rows.get?_update_seq
abbrev adV:=@Int.emod_nonneg
abbrev adW:=@PySem.wpAny_specialOf
abbrev adX:=@List.idxOf_cons
abbrev adY:=@Bool.eq_iff_iff
abbrev adZ:=@PySem.W.cellsFrom_some
abbrev ad0:=@PySem.F.slot_tuple_add
abbrev ad1:=@PyProof.Rows.subscriptTail_builtinR
abbrev ad2:=@PySem.codeAny_compStart_list
abbrev ad3:=@Array.toList_filterMap
abbrev ad4:=@List.getElem_replicate
abbrev ad5:=@List.getElem?_eraseIdx
abbrev ad6:=@PySem.F.plainAttrs_set
abbrev ad7:=@PySem.wpAny_letGo
abbrev ad8:=@Bool.false_and
abbrev ad9:=@Bool.and_false
abbrev aea:=@Bool.not_false
abbrev aeb:=@PySem.wpAny_setField
abbrev aec:=@List.count_nil
abbrev aed:=@PySem.wpAny_rule
abbrev aee:=@PySem.wpAny_newList
abbrev aef:=@List.sum_cons
abbrev aeg:=@PySem.codeAny_loop
theorem ah{g:Prop}(h:∀G:Prop,(g->G)->G):g:=h g id
set_option hygiene false in
local macro_rules|`(tactic|rfl')=>`(tactic|refine ah fun G0 k0=>?_)
set_option hygiene false in
local macro_rules|`(tactic|ac_rfl)=>`(tactic|refine k0 ?_)
set_option Elab.async false
set_option linter.all false
set_option maxRecDepth 100000
abbrev aD:= @List.length_map
abbrev bB:= @List.getD_eq_getElem?_getD
abbrev bJ:= @List.getElem?_eq_getElem
abbrev bE:= @List.mem_cons_self
abbrev bV:= @List.mem_cons_of_mem
abbrev di:= @List.getElem?_eq_some_iff
abbrev bZ:= @List.length_append
abbrev bR:= @List.mem_append
abbrev cF:= @List.mem_singleton
abbrev bH:= @Nat.le_refl
abbrev aZ:= @List.mem_map
abbrev br:= @List.mem_cons
abbrev bQ:= @List.getElem?_map
abbrev cw:= @Bool.false_ne_true
abbrev cZ:= @List.mem_append_right
abbrev bT:= @List.mem_range
abbrev dA:= @List.mem_of_getElem?
abbrev b7:= @List.nodup_cons
abbrev cD:= @List.length_cons
abbrev cS:= @List.size_toArray
abbrev bU:= @List.map_map
abbrev cJ:= @List.map_append
abbrev dB:= @List.nodup_append
abbrev fj:= @List.getElem?_eq_none
abbrev fk:= @List.mem_append_left
abbrev cE:= @Nat.ne_of_lt
abbrev dD:= @List.map_cons
abbrev fG:= @List.length_range
abbrev kF:= @List.getElem?_append_right
abbrev iF:= @Array.length_toList
abbrev gX:= @Bool.false_eq_true
abbrev fO:= @List.mem_filter
abbrev lC:= @List.getElem?_append_left
abbrev f9:= @List.length_set
abbrev gY:= @List.pairwise_map
abbrev jJ:= @List.length_singleton
abbrev jK:= @List.take_append_drop
abbrev dS:= @Nat.zero_le
abbrev iH:= @Nat.lt_of_lt_of_le
abbrev gZ:= @Nat.mod_eq_of_lt
abbrev g5:= @List.getElem_mem
abbrev kG:= @Array.getElem?_toList
abbrev oJ:= @List.nodup_iff_pairwise_ne
abbrev lD:= @List.getElem?_set_self
abbrev iI:= @List.flatten_cons
abbrev iJ:= @List.append_assoc
abbrev gK:= @List.nodup_nil
abbrev qm:= @List.perm_ext_iff_of_nodup
abbrev lE:= @List.getElem?_set_ne
abbrev qo:= @Array.getElem?_eq_getElem
abbrev jo:= @List.mem_flatten
abbrev jq:= @List.length_nil
abbrev rk:= @List.drop_eq_getElem_cons
abbrev qp:= @List.length_pos_of_mem
abbrev lF:= @List.length_take
abbrev lG:= @Nat.le_of_not_lt
abbrev lH:= @List.mem_reverse
abbrev vQ:= @Array.getD_eq_getD_getElem?
abbrev qq:= @List.getElem?_range
abbrev jr:= @Nat.le_trans
abbrev rm:= @List.count_cons_self
abbrev m8:= @List.append_nil
abbrev vR:= @List.idxOf_lt_length_iff
abbrev rz:= @List.map_congr_left
abbrev qs:= @List.getElem?_set
abbrev vS:= @List.getElem?_replicate
abbrev vT:= @List.getElem?_cons_succ
abbrev lI:= @Nat.lt_irrefl
abbrev rA:= @List.ext_getElem?
abbrev rB:= @Bool.eq_false_iff
abbrev qt:= @List.perm_append_comm
abbrev AM:= @List.countP_eq_length_filter
abbrev qu:= @List.nil_append
abbrev rD:= @List.take_length
abbrev vU:= @List.getElem?_of_mem
abbrev vV:= @List.getLast?_concat
abbrev AN:= @Array.getElem?_eq_some_iff
abbrev ui:= @Int.toNat_natCast
abbrev uj:= @List.count_append
abbrev vW:= @List.replicate_succ
abbrev vX:= @List.length_reverse
abbrev vY:= @List.length_pos_iff
abbrev vZ:= @List.flatten_append
abbrev zd:= @List.length_replicate
abbrev uk:= @List.lookup_cons
abbrev rE:= @List.nodup_range
abbrev AO:= @List.set_eq_of_length_le
abbrev rF:= @List.take_succ
abbrev v3:= @Bool.and_eq_true
abbrev AQ:= @List.concat_eq_append
abbrev Et:= @List.pairwise_iff_getElem
abbrev rG:= @Nat.zero_add
abbrev Ew:= @List.getElem?_take_of_lt
abbrev Ex:= @List.pairwise_singleton
abbrev qv:= @Nat.mod_lt
abbrev Ey:= @List.drop_eq_nil_of_le
abbrev AR:= @List.pairwise_lt_range
abbrev um:= @List.map_set
abbrev AS:= @List.getElem_idxOf
abbrev AU:= @List.count_pos_iff
abbrev y8:= @List.eq_nil_or_concat
abbrev vc:= @List.flatMap_cons
abbrev y9:= @List.mem_iff_getElem
abbrev vd:= @List.filter_cons
abbrev ve:= @List.cons_append
abbrev vf:= @List.map_reverse
abbrev B0:= @List.eraseIdx_cons_succ
abbrev sO:= @List.map_take
abbrev zq108:= @List.mem_filterMap
abbrev B4:= @Array.getElem?_eq_none
abbrev za:= @Nat.lt_succ_of_lt
abbrev sP:= @Nat.mod_self
abbrev sQ:= @Nat.sub_self
abbrev vg:= @Nat.mul_le_mul
abbrev B5:= @List.length_filter_le
abbrev zb:= @Nat.lt_succ_self
abbrev zc:= @List.length_drop
abbrev B6:= @List.length_eraseIdx
abbrev B7:= @List.reverse_reverse
abbrev Gu:= @Array.perm_iff_toList_perm
abbrev B8:= @List.getD_cons_succ
abbrev B9:= @List.getElem_of_mem
abbrev vh:= @Nat.le_of_lt
abbrev Ca:= @Nat.lt_of_le_of_lt
abbrev Cb:= @Nat.lt_of_lt_of_eq
abbrev Cc:= @List.append_of_mem
abbrev Cd:= @List.pairwise_cons
namespace L2
open PySem PySem.Spec PyProof.Rows
abbrev Key:=Sum Int Str
def La:Key->Value->Bool
 | .inl k,v=>Value.isInt k v
 | .inr x,v=>Value.isStrOf x v
def Y0(w:World):Key->Int
 | .inl k=>hashInt k
 | .inr x=>hashStr w x
theorem dG:∀{k:Key}{v:Value},La k v=true->(∃i t,k=Sum.inl i/\v=Value.int i t)\/(∃x t,k=Sum.inr x/\v=Value.str x t)
 | .inl i,v,h=>by
  obtain⟨t,e⟩:=adx (k:=i) (v:=v) h;exact .inl ⟨i,t,rfl,e⟩
 | .inr x,v,h=>by
  obtain⟨t,e⟩:=Value.isStrOf_shape (x:=x) (v:=v) h;exact .inr ⟨x,t,rfl,e⟩
theorem NY(a b:Int):decide ((Sum.inl a:Key)=Sum.inl b)=(a==b):=by
 by_cases e:a=b
 ·subst e;simp
 ·have h:¬(Sum.inl a:Key)=Sum.inl b:=λq=>e (Sum.inl.inj q)
  rw[FM h];exact(acg.mpr e).symm
theorem N4(a b:Str):decide ((Sum.inr a:Key)=Sum.inr b)=decide (a=b):=by
 by_cases e:a=b
 ·subst e;simp
 ·have h:¬(Sum.inr a:Key)=Sum.inr b:=λq=>e (Sum.inr.inj q)
  rw[FM h,FM e]
theorem NZ(a:Int)(b:Str):decide ((Sum.inl a:Key)=Sum.inr b)=false:=FM (λq=>nomatch q)
theorem N3(a:Str)(b:Int):decide ((Sum.inr a:Key)=Sum.inl b)=false:=FM (λq=>nomatch q)
def yh(prog:Program)(w:World):PySem.KeyKind prog w Key where
 is:=La
 hash:=Y0 w
 inj:=λv a b g f=>by
  rcases dG g with ⟨i,t,rfl,rfl⟩ | ⟨x,t,rfl,rfl⟩
  ·rcases dG f with ⟨j,u,rfl,e⟩ | ⟨y,u,rfl,e⟩
   ·injection e with c _;rw[c]
   ·exact nomatch e
  ·rcases dG f with ⟨j,u,rfl,e⟩ | ⟨y,u,rfl,e⟩
   ·exact nomatch e
   ·injection e with c _;rw[c]
 byValue:=λk v h=>by
  rcases dG h with ⟨i,t,rfl,rfl⟩ | ⟨x,t,rfl,rfl⟩<;>rfl
 pyHash:=λd h=>by
  rcases dG d with ⟨i,t,rfl,rfl⟩ | ⟨x,t,rfl,rfl⟩
  ·exact wpAny_pyHash_int h
  ·exact wpAny_pyHash_str h
 eqBool:=λl d h=>by
  rcases dG l with ⟨i,t,rfl,rfl⟩ | ⟨x,t,rfl,rfl⟩
  ·rcases dG d with ⟨j,u,rfl,rfl⟩ | ⟨y,u,rfl,rfl⟩
   ·rw[NY] at h;exact wpAny_eqBool_int h
   ·rw[NZ] at h;exact SeqAt.EqAt.int_str i t y u _ _ _ _ h
  ·rcases dG d with ⟨j,u,rfl,rfl⟩ | ⟨y,u,rfl,rfl⟩
   ·rw[N3] at h;exact SeqAt.EqAt.str_int x t j u _ _ _ _ h
   ·rw[N4] at h;exact wpAny_eqBool_str h
 «strs»:=λk x t v h=>by
  rcases dG h with ⟨i,u,rfl,e⟩ | ⟨y,u,rfl,e⟩
  ·exact nomatch e
  ·injection e with c _
   subst c;cases v<;>rfl
inductive V where
 |bA|bl (b:Bool) |int (i:Int) |str (x:Str) |HG (b:Array UInt8) |EZ (b:UInt64) |ref (a:Addr) |ty (n:String)
 deriving DecidableEq
def RelV:V->Value->Prop
 | .bA,u=>u=Value.none
 | .bl b,u=>u=Value.bool b
 | .int i,u=>∃t,u=Value.int i t
 | .str x,u=>∃t,u=Value.str x t
 | .HG b,u=>∃t,u=Value.bytes b t
 | .EZ b,u=>∃t,u=Value.float b t
 | .ref a,u=>u=Value.ref a
 | .ty n,u=>u=Value.type n
abbrev Vals:List V->List Value->Prop:=Paired RelV
theorem Vals.length{a:List V}{b:List Value}(r:Vals a b):a.length=b.length:=Paired.length r
theorem Vals.get:∀{a:List V}{b:List Value}{i:Nat}{x:V},Vals a b->a[i]? =some x->∃u,b[i]? =some u/\RelV x u
 |_,_,_,_, .nil,e=>by simp at e
 |_,_,0,_, .cons r _,e=>by simp at e;subst e;exact⟨_,rfl,r⟩
 |_,_,i+1,x, .cons _ t,e=>by
  obtain⟨u,c,d⟩:=Vals.get (i:=i) (x:=x) t (by simpa using e)
  exact⟨u,by simpa using c,d⟩
theorem Vals.set{x:V}(r:RelV x u):∀{a:List V}{b:List Value}(i:Nat),Vals a b->Vals (a.set i x) (b.set i u)
 |_,_,_, .nil=> .nil
 |_,_,0, .cons _ t=> .cons r t
 |_,_,i+1, .cons q t=> .cons q (Vals.set r i t)
theorem Vals.append:∀{a b:List V}{c d:List Value},Vals a c->Vals b d->Vals (a++b) (c++d)
 |_,_,_,_, .nil,s=>s
 |_,_,_,_, .cons r t,s=> .cons r (Vals.append t s)
theorem Vals.take:∀{a:List V}{b:List Value}(n:Nat),Vals a b->Vals (a.take n) (b.take n)
 |_,_,0,_=> .nil
 |_,_,_+1, .nil=> .nil
 |_,_,n+1, .cons r t=> .cons r (Vals.take n t)
theorem Vals.drop:∀{a:List V}{b:List Value}(n:Nat),Vals a b->Vals (a.drop n) (b.drop n)
 |_,_,0,r=>r
 |_,_,_+1, .nil=> .nil
 |_,_,n+1, .cons _ t=>Vals.drop n t
def oT:Option V->Option Value->Prop
 |some v,some u=>RelV v u
 |none,none=>True
 |_,_=>False
def KV{a:Type}:List (a×V)->List (a×Value)->Prop:=Paired λ(p:a×V)(q:a×Value)=>p.1=q.1/\RelV p.2 q.2
def kV:Key->V
 | .inl i=> .int i
 | .inr x=> .str x
inductive HO where
  |lst (xs:List V)
  |tup (xs:List V)
  |dK (fb:List (Key×V)) |dT (fb:List (List Key×V))
  |set (S:Int->Bool) (n:Nat)
  |ins (C dx:Addr) (fs:List (Str×V))
  |own (x:Addr)
  |xd (fs:List (Str×V))
  |met (f x:Addr)
  |rng (lo hi:Int)
  |rP (o:Obj) (u:HO)
  |Ei (ps:Array Value)
  |ext (φ:Heap->Prop)
abbrev Hp:=Addr->Option HO
def upd(H:Hp)(a:Addr)(o:HO):Hp:=λb=>if b=a then some o else H b
theorem aB{a:Addr}{o:HO}:upd H a o a=some o:=by unfold upd;rw[tz rfl]
theorem aO{a b:Addr}{o:HO}(h:b≠a):upd H a o b=H b:=by unfold upd;rw[mo h]
theorem bu{H:Hp}{a b:Addr}{o:HO}(h:H a=some o)(c:H b=none):a≠b:=by
 intro e;subst e;rw[h] at c;cases c
section
variable (P:Program) (w:World)
def cV(H:Hp)(h:Heap)(a:Addr):HO->Prop
 | .lst c=>c.length<=sizeLine/\∃(b:List Value)(n:Nat),Vals c b/\h.get? a=some {cls:= .type "list",data:= .seq b.toArray n}
 | .tup c=>c.length<=sizeLine/\∃b:List Value,Vals c b/\IsTup h a b.toArray
 | .dK e=>e.length<=sizeLine/\(a==sysModules)=false/\∃j,KV e j/\h.DictOf (yh P w) a j
 | .dT e=>e.length<=sizeLine/\(a==sysModules)=false/\∃c:List (List Key×Addr×Value),
   Paired (λ(p:List Key×V)(q:List Key×Addr×Value)=>p.1=q.1/\H q.2.1=some (.tup (p.1.map kV))/\RelV p.2 q.2.2) e c/\
   ∃o k r,h.get? a=some o/\o.ExactDict/\o.data= .dict k r/\k.toList=c.map (entryOfKey (tupleKind (yh P w)))/\(c.map (·.1)).Nodup
 | .set S n=>h.SetOf (intKind P w) a S n
 | .ins C g fs=>H g=some (.own a)/\fs.length<=1000/\g≠a/\h.get? a=some (PySem.W.instObj C g)/\
   ∃d,h.Ns1 g d/\(∀f,oT (fs.lookup f) (d f))/\PySem.Within d (fs.map (·.1))
 | .own _=>∃o,h.get? a=some o
 | .xd fs=>∃d,h.Ns1 a d/\∀f,oT (fs.lookup f) (d f)
 | .rng lo s=>∃t u v,h.get? a=some {cls:= .type "range",data:= .fields #[.int lo t, .int s u, .int 1 v]}
 | .rP o u=>h.get? a=some o/\cV H h a u
 | .Ei y=>h.get? a=some {cls:= .none,data:= .fields y}
 | .met f x=>h.get? a=some (PySem.W.methodObj (.ref f) (.ref x))
 | .ext i=>i h/\(∃o,h.get? a=some o)/\∀l m:Heap,i l->(∀o,l.get? a=some o->m.get? a=some o)->i m
def jL(H:Hp)(h:Heap):Prop:=∀a o,H a=some o->cV P w H h a o
end
section
variable {P:Program} {w:World} {H H':Hp} {h h':Heap} {a:Addr} {o:HO}
theorem cV.lt(x:cV P w H h a o):a<h.objs.size:=by
 cases o with
 |lst b=>obtain⟨_,_,_,_,e⟩:=x;exact Fk e
 |tup b=>obtain⟨_,_,_,p⟩:=x;exact p.lt
 |dK c=>obtain⟨_,_,_,_,o,_,_,e,_⟩:=x;exact Fk e
 |dT c=>obtain⟨_,_,_,_,o,_,_,e,_⟩:=x;exact Fk e
 |set S n=>obtain⟨o,_,_,_,e,_⟩:=x;exact Fk e
 |ins C d fs=>obtain⟨_,_,_,e,_⟩:=x;exact Fk e
 |own y=>obtain⟨_,e⟩:=x;exact Fk e
 |xd fs=>obtain⟨_,⟨_,_,_,e,_⟩,_⟩:=x;exact Fk e
 |rng lo g=>obtain⟨_,_,_,e⟩:=x;exact Fk e
 |rP i u=>obtain⟨e,_⟩:=x;exact Fk e
 |Ei j=>exact Fk (show h.get? a=some _ from x)
 |met f y=>exact Fk (show h.get? a=some _ from x)
 |ext k=>obtain⟨_,⟨_,e⟩,_⟩:=x;exact Fk e
theorem Paired.QC:∀{c:List e}{d:List g},Paired F c d->(∀a b,F a b->G a b)->Paired G c d
 |_,_, .nil,_=> .nil
 |_,_, .cons r t,f=> .cons (f _ _ r) (Paired.QC t f)
theorem cV.qg(x:cV P w H h a o)(k:∀b u,(b=a\/H b=some (.own a))->h.get? b=some u->h'.get? b=some u)
  (E:∀b,H b=some (.own a)->H' b=some (.own a)) (F:∀b m,H b=some (.tup m)->H' b=some (.tup m)):cV P w H' h' a o:=by
 induction o with
 |lst m=>obtain⟨z,l,n,r,e⟩:=x;exact⟨z,l,n,r,k _ _ (.inl rfl) e⟩
 |tup m=>obtain⟨z,l,r,g,e,c⟩:=x;exact⟨z,l,r,g,k _ _ (.inl rfl) e,c⟩
 |dK G=>obtain⟨z,y,I,r,g,i,j,e,c⟩:=x;exact⟨z,y,I,r,g,i,j,k _ _ (.inl rfl) e,c⟩
 |dT G=>
  obtain⟨z,y,m,r,g,i,j,e,c⟩:=x;exact⟨z,y,m,Paired.QC r λp q z=>⟨z.1,F _ _ z.2.1,z.2.2⟩,g,i,j,k _ _ (.inl rfl) e,c⟩
 |set S n=>obtain⟨g,i,j,t,e,c⟩:=x;exact⟨g,i,j,t,k _ _ (.inl rfl) e,c⟩
 |ins C N fs=>
  rfl';obtain⟨d,z,ne,e,s,⟨A,i,j,L,c⟩,r⟩:=x;ac_rfl;exact⟨E _ d,z,ne,k _ _ (.inl rfl) e,s,⟨A,i,j,k _ _ (.inr d) L,c⟩,r⟩
 |own y=>obtain⟨g,e⟩:=x;exact⟨g,k _ _ (.inl rfl) e⟩
 |xd fs=>obtain⟨s,⟨A,i,j,e,c⟩,r⟩:=x;exact⟨s,⟨A,i,j,k _ _ (.inl rfl) e,c⟩,r⟩
 |rng lo Q=>obtain⟨t,u,v,e⟩:=x;exact⟨t,u,v,k _ _ (.inl rfl) e⟩
 |rP g u M=>obtain⟨e,q⟩:=x;exact⟨k _ _ (.inl rfl) e,M q⟩
 |Ei B=>
  have e:h.get? a=some {cls:= .none,data:= .fields B}:=x;show h'.get? a=some {cls:= .none,data:= .fields B};exact k a _ (.inl rfl) e
 |met f y=>
  have e:h.get? a=some (PySem.W.methodObj (.ref f) (.ref y)):=x;show h'.get? a=some (PySem.W.methodObj (.ref f) (.ref y));exact k a _ (.inl rfl) e
 |ext R=>obtain⟨p,⟨o,e⟩,st⟩:=x;exact⟨st _ _ p λo q=>k _ _ (.inl rfl) q,⟨o,k _ _ (.inl rfl) e⟩,st⟩
theorem jL.lt(x:jL P w H h)(e:H a=some o):a<h.objs.size:=(x a o e).lt
theorem jL.fresh(x:jL P w H h)(e:h.objs.size<=a):H a=none:=by
 cases q:H a with
 |none=>rfl
 |some u=>exact absurd (iH (x.lt q) e) (lI _)
theorem jL.kept(x:jL P w H h)(k:∀b u,h.get? b=some u->h'.get? b=some u):jL P w H h':=λa o e=>
 (x a o e).qg (λb u _ q=>k b u q) (λ_ q=>q) λ_ _ q=>q
theorem jL.laid(x:jL P w H h)(k:∀b u,h.get? b=some u->h'.get? b=some u)(g:h.objs.size<=a)(new:cV P w (upd H a o) h' a o):jL P w (upd H a o) h':=λb u e=>by
 have d:=x.fresh g
 by_cases f:b=a
 ·subst f;rw[aB] at e;cases e;exact new
 ·rw[aO f] at e
  exact(x b u e).qg (λc v _ q=>k c v q) (λc q=>by rw[aO (bu q d)];exact q) λc i q=>by rw[aO (bu q d)];exact q
end
def Rd(H:Hp)(a:Addr)(u:HO):Prop:=H a=some u\/∃o,H a=some (.rP o u)
theorem Rd.ok{P:Program}{w:World}{H:Hp}{a:Addr}(r:Rd H a u)(x:jL P w H h):cV P w H h a u:=by
 rcases r with r| ⟨o,r⟩
 ·exact x a u r
 ·obtain⟨_,q⟩:=x a _ r
  exact q
def Nc:Option HO->Prop
 |some (.lst _)=>True
 |some (.dK _)=>True
 |some (.dT _)=>True
 |some (.set _ _)=>True
 |some (.ins _ _ _)=>True
 |some (.ext _)=>True
 |_=>False
section
variable {P:Program} {w:World} {H:Hp} {h h':Heap} {x e:Addr} {o':HO}
theorem jL.write(ok:jL P w H h)(a:Nc (H x))(j:e=x\/H e=some (.own x))(k:∀b u,b≠e->h.get? b=some u->h'.get? b=some u)(n:∃u,h'.get? e=some u)
  (new:cV P w (upd H x o') h' x o'):jL P w (upd H x o') h':=λb u q=>by
 have l:∀c y,H c=some (.own y)->c≠x:=λc y r z=>by subst z;rw[r] at a;exact a
 have o:∀c d,H c=some (.tup d)->c≠x:=λc d r z=>by subst z;rw[r] at a;exact a
 by_cases f:b=x
 ·subst f;rw[aB] at q;cases q;exact new
 ·rw[aO f] at q
  by_cases g:b=e
  ·have m:H b=some (.own x):=by
    rcases j with z|z
    ·exact absurd (g.trans z) f
    ·rw[g];exact z
   obtain⟨v,p⟩:=n;rw[q] at m;cases m;exact⟨v,by rw[g];exact p⟩
  ·refine(ok b u q).qg (λc v i r=>k c v ?_ r) (λc r=>by rw[aO (l c b r)];exact r) λc d r=>by rw[aO (o c d r)];exact r
   rcases i with rfl|i
   ·exact g
   ·rintro rfl
    rcases j with z|z
    ·exact l c b i z
    ·rw[i] at z;cases z;exact f rfl
end
structure Un (fs ex:List Addr) (H H':Hp) (h h':Heap):Prop where
 keep:∀b o,h.get? b=some o->H b=none->b∉fs->b∉ex->h'.get? b=some o
 slot:∀b o,h.get? b=some o->H b=none->b∈fs->b∉ex->∃sl,h'.get? b=some {o with slots:=sl}
 free:∀b o,h.get? b=some o->H b=none->b∉ex->H' b=none
 there:∀b o,h.get? b=some o->b∉ex->∃o',h'.get? b=some o'
 tups:∀b xs,H b=some (.tup xs)->H' b=some (.tup xs)
 frzs:∀b o u,H b=some (.rP o u)->H' b=some (.rP o u)
 tbls:∀b ps,H b=some (.Ei ps)->∃more,H' b=some (.Ei (ps++more))
section
variable {fs fs' ex ex':List Addr} {H H1 H2:Hp} {h h1 h2 h':Heap} {a x e:Addr} {o:HO}
theorem Un.any(u:Un fs ex H H1 h h1)(q:h.get? b=some c)(n:H b=none)(d:b∉ex):∃g,h1.get? b=some {c with slots:=g}:=by
 by_cases f:b∈fs
 ·exact u.slot b c q n f d
 ·exact⟨c.slots,u.keep b c q n f d⟩
theorem Un.kept(k:∀b u,h.get? b=some u->h'.get? b=some u):Un fs ex H H h h':=
 ⟨λb c q _ _ _=>k b c q,λb c q _ _ _=>⟨c.slots,k b c q⟩,λ_ _ _ n _=>n,λb c q _=>⟨c,k b c q⟩,λ_ _ q=>q,λ_ _ _ q=>q,λ_ d q=>⟨#[],by rw[q];simp⟩⟩
theorem Un.refl:Un fs ex H H h h:=Un.kept λ_ _ q=>q
theorem Un.laid(k:∀b u,h.get? b=some u->h'.get? b=some u)(d:h.objs.size<=a)(c:H a=none):Un fs ex H (upd H a o) h h' where
 keep:=λb u q _ _ _=>k b u q
 slot:=λb u q _ _ _=>⟨u.slots,k b u q⟩
 free:=λb u q n _=>by rw[aO (cE (iH (Fk q) d))];exact n
 there:=λb u q _=>⟨u,k b u q⟩
 tups:=λb f q=>by rw[aO (bu q c)];exact q
 frzs:=λb u f q=>by rw[aO (bu q c)];exact q
 tbls:=λb g q=>⟨#[],by rw[aO (bu q c),q];simp⟩
theorem Un.write(c:Nc (H x))(j:e=x\/H e=some (.own x))(k:∀b u,b≠e->h.get? b=some u->h'.get? b=some u)(l:∃u,h'.get? e=some u):Un fs ex H (upd H x o) h h':=by
 have f:∀b,H b=none->b≠x:=λb n z=>by subst z;rw[n] at c;exact c
 have g:∀b,H b=none->b≠e:=λb n z=>by
  subst z
  rcases j with r|r
  ·exact f b n r
  ·rw[n] at r;cases r
 have d:∀b u,H b=some u->¬Nc (some u)->b≠x:=λb u q m z=>by subst z;rw[q] at c;exact m c
 refine⟨λb u q n _ _=>k b u (g b n) q,λb u q n _ _=>⟨u.slots,k b u (g b n) q⟩,λb u q n _=>by rw[aO (f b n)];exact n,λb u q _=>?_,
  λb p q=>by rw[aO (d b _ q λz=>z)];exact q,λb u p q=>by rw[aO (d b _ q λz=>z)];exact q,λb s q=>⟨#[],by rw[aO (d b _ q λz=>z),q];simp⟩⟩
 by_cases i:b=e
 ·subst i;exact l
 ·exact⟨u,k b u i q⟩
end
def Pm(h:Heap)(H:Hp):List Addr:=(List.range h.objs.size).filter λa=>(H a).isSome
def tH(h:Heap)(H:Hp):Heap:=PySem.W.hideAll h (Pm h H)
theorem Fd(h:Heap)(H:Hp):(tH h H).objs.size=h.objs.size:=PySem.W.hideAll_size _ _
theorem Ir(e:h.get? b=some o)(n:H b=none):(tH h H).get? b=some o:=
 PySem.W.hideAll_get _ e λa=>by
  have q:(H b).isSome=true:=(fO.mp a).2;rw[n] at q;simp at q
theorem LA(e:(tH h H).get? b=some o):h.get? b=some o/\H b=none:=by
 have a:h.get? b=some o:=PySem.W.of_hideAll (Pm h H) e;refine⟨a,?_⟩;cases q:H b with
 |none=>rfl
 |some x=>
  have c:b∈Pm h H:=fO.mpr ⟨bT.mpr (Fk a),by simp[q]⟩
  have z:(tH h H).get? b=none:=PySem.W.hideAll_none (Pm h H) c;rw[z] at e;cases e
def xp(g h:Heap)(L:Addr):List (Addr×Obj):=(List.range h.objs.size).filterMap λa=>if a=L\/(g.get? a).isSome=true then none else(h.get? a).map λo=>(a,o)
theorem fA(c:a≠L)(d:g.get? a=none)(b:h.get? a=some o):(a,o)∈xp g h L:=
 zq108.mpr ⟨a,bT.mpr (Fk b),by simp[c,d,b]⟩
theorem wo(c:p∈xp g h L):p.1≠L/\g.get? p.1=none/\h.get? p.1=some p.2:=by
 obtain⟨b,_,e⟩:=zq108.mp c
 split at e
 ·cases e
 ·rename_i a
  cases q:h.get? b with
  |none=>rw[q] at e;simp at e
  |some u=>
   rw[q] at e;simp only[Option.map_some,Option.some.injEq] at e;subst e;refine⟨λz=>a (.inl z),?_,q⟩;show g.get? b=none;cases r:g.get? b with
   |none=>rfl
   |some v=>exact(a (.inr (by simp[r]))).elim
theorem Aq{g h:Heap}{L:Addr}:News g L h (xp g h L):=λp d=>let ⟨a,b,c⟩:=wo d;⟨c,a,b⟩
structure Mod (K:PySem.W.Frag) (mg:Str->Option Value) (base:Heap):Prop where
 kin:K.In base
 glob:base.Ns mainGlobals mg
 blt:∃mb,base.Ns builtinsNs mb/\∀x:Str,x≠"__name__"->mb x=bootBuiltins x
 nolimit:base.NoLimit
structure Cx where
 prog:Program
 w:World
 K:PySem.W.Frag
 mg:Str->Option Value
 base:Heap
 A:Around
 N:List Str
 s₀:Shared
 H₀:Hp
 env:Env
 outer:List Env
 stack:List Env
 ex:List Addr
 fn:Str->Bool
 calm:Bool
 pn:List (Addr×Obj)
 xe:Value->Shared->Prop
def xQ(l:List Env):List Addr:=l.filterMap (·.frame)
abbrev Cx.fs(X:Cx):List Addr:=xQ X.outer
def lJ(a:Scope)(x:Str):Prop:=a.names.lookup x=some .local\/a.names.lookup x=some .cell\/a.names.lookup x=some .free
def Loc(a:Scope)(x:Str):Prop:=a.names.lookup x=some .local\/a.names.lookup x=some .cell
def Look(env:Env)(h:Heap)(m:Str->Option Value)(x:Str)(u:Value):Prop:=
 (env.kindOf x=some .local/\m x=some u)\/((env.kindOf x=some .cell\/env.kindOf x=some .free)/\∃c,env.cells.lookup x=some c/\h.IsCell c (some u))
structure Cx.Ok (X:Cx):Prop where
 mod:Mod X.K X.mg X.base
 kind:X.env.scope.kind= .function
 glob:X.env.globals=mainGlobals
 blt:X.env.builtins=builtinsNs
 above:X.s₀.heap.objs.size<=X.env.locals
 inj:∀x y c,X.env.cells.lookup x=some c->X.env.cells.lookup y=some c->x=y
 has:∀x,(X.env.kindOf x=some .cell\/X.env.kindOf x=some .free)->∃c,X.env.cells.lookup x=some c
 cab:∀x c,X.fn x=true->X.env.cells.lookup x=some c->X.s₀.heap.objs.size<=c
 hd:X.calm=true->X.A.handled=none
 frames:X.A.frames=some X.stack
 stk:X.stack=X.outer\/(X.stack=X.env::X.outer/\X.env.frame=some X.env.locals)
 exf:∀b∈X.ex,b≠X.env.locals/\∀x c,X.env.cells.lookup x=some c->c≠b
 bs:∀b o,X.base.get? b=some o->X.s₀.heap.get? b=some o/\X.H₀ b=none
 bsz:X.base.objs.size<=X.s₀.heap.objs.size
 noex:∀b o,X.base.get? b=some o->b∉X.ex
 exfs:∀b∈X.ex,b∉X.fs
 funs:X.s₀.heap.FunFrames X.base X.outer
 frf:∀b∈X.fs,X.H₀ b=none
structure Inv (X:Cx) (pins:List (Addr×Obj)) (σ:List (Option V)) (H:Hp) (s:Shared):Prop where
 ok:X.Ok
 os:s.os=X.s₀.os
 bare:AllBare s.gens
 base:Un X.fs X.ex X.H₀ H X.s₀.heap s.heap
 loc:∃m,s.heap.Ns X.env.locals m/\∀(i:Nat)(x:Str)(v:V),X.N[i]? =some x->σ[i]? =some (some v)->lJ X.env.scope x->∃u,RelV v u/\Look X.env s.heap m x u
 cell:∀x c,X.env.cells.lookup x=some c->∃v,s.heap.IsCell c v
 free:H X.env.locals=none
 freeC:∀x c,X.env.cells.lookup x=some c->H c=none
 pin:∀p∈X.pn++pins,s.heap.get? p.1=some p.2/\H p.1=none/\p.1≠X.env.locals/\p.1∉X.fs/\∀v,p.2.data≠ .cell v
 hok:jL X.prog X.w H s.heap
 len:σ.length=X.N.length
section
variable {X:Cx} {pins:List (Addr×Obj)} {σ:List (Option V)} {H H':Hp} {s:Shared} {h':Heap}
theorem Cx.Ok.Ze(ok:X.Ok)(e:X.base.get? b=some o):b∉X.fs:=λa=>by
 have:=(ok.funs.mem a).1
 rw[e] at this;cases this
theorem Inv.bs(I:Inv X pins σ H s):∀b o,X.base.get? b=some o->s.heap.get? b=some o/\H b=none:=λb o e=>
 ⟨I.base.keep b o (I.ok.bs b o e).1 (I.ok.bs b o e).2 (I.ok.Ze e) (I.ok.noex b o e),I.base.free b o (I.ok.bs b o e).1 (I.ok.bs b o e).2 (I.ok.noex b o e)⟩
theorem Inv.bk(I:Inv X pins σ H s):∀b o,X.base.get? b=some o->s.heap.get? b=some o:=λb o e=>(I.bs b o e).1
theorem Inv.mod(I:Inv X pins σ H s):Mod X.K X.mg X.base:=I.ok.mod
theorem Inv.jy(I:Inv X pins σ H s):X.K.In s.heap:=I.ok.mod.kin.keeps I.bk
theorem Inv.fr(I:Inv X pins σ H s):∃m,Fr X.base X.env.locals s.heap m:=
 let ⟨m,a,_⟩:=I.loc
 ⟨m,a,I.bk,jr I.ok.bsz I.ok.above⟩
theorem Inv.lt(I:Inv X pins σ H s):X.env.locals<s.heap.objs.size:=let ⟨_,a,_⟩:=I.loc;a.lt
theorem Inv.sz(I:Inv X pins σ H s):X.s₀.heap.objs.size<=s.heap.objs.size:=jr I.ok.above (vh I.lt)
theorem Inv.QH(I:Inv X pins σ H s)(h:s.heap.objs.size<=a):a∉X.fs:=λb=>by
 obtain⟨_,o,c,_⟩:=I.ok.funs.mem b;exact absurd (iH (Fk c) (jr I.sz h)) (lI _)
theorem Inv.EL(I:Inv X pins σ H s):∀x c,X.env.cells.lookup x=some c->c≠X.env.locals:=λx c e z=>by
 obtain⟨v,o,a,b⟩:=I.cell x c e;obtain⟨m,⟨g,h,i,d,f,_⟩,_⟩:=I.loc;rw[z,d] at a;cases a;rw[f] at b;cases b
theorem Inv.funs(I:Inv X pins σ H s):s.heap.FunFrames X.base X.outer:=by
 have all:∀(l:List Env),(∀b∈xQ l,b∈X.fs)->X.s₀.heap.FunFrames X.base l->s.heap.FunFrames X.base l:=by
  intro l
  induction l with
  |nil=>intro _ _;trivial
  |cons env r g=>
   intro f h;rfl';obtain⟨j,⟨L,o,a,k,m,n⟩,p⟩:=h;have c:L∈X.fs:=f L (by unfold xQ;rw[adh,a];exact bE)
   obtain⟨t,e⟩:=I.base.slot L o m (I.ok.frf L c) c λz=>I.ok.exfs L z c;ac_rfl;exact⟨j,⟨L,_,a,k,e,n⟩,g (λb d=>f b (by unfold xQ;rw[adh,a];exact bV _ d)) p⟩
 exact all X.outer (λ_ d=>d) I.ok.funs
theorem Inv.stack(I:Inv X pins σ H s):s.heap.FunFrames X.base X.stack:=by
 rcases I.ok.stk with e| ⟨e,a⟩
 ·rw[e];exact I.funs
 ·rw[e]
  obtain⟨m,b,_⟩:=I.loc;refine .cons (by rw[I.ok.kind];decide) a b ?_ I.funs
  exact Heap.get?_none_of_le (jr I.ok.bsz I.ok.above)
theorem Inv.BU(I:Inv X pins σ H s):∀b∈xQ X.stack,b∈X.env.locals::X.fs:=λb a=>by
 rcases I.ok.stk with e| ⟨e,c⟩
 ·rw[e] at a;exact bV _ a
 ·rw[e] at a
  unfold xQ at a;rw[adh,c] at a;exact a
theorem Inv.Eg(I:Inv X pins σ H s):∀b∈xQ X.stack,H b=none:=λb a=>by
 rcases br.mp (I.BU b a) with e|a
 ·rw[e];exact I.free
 ·obtain⟨_,o,c,_⟩:=I.ok.funs.mem a
  exact I.base.free b o c (I.ok.frf b a) λz=>I.ok.exfs b z a
theorem Inv.step{g':Array GenState}{t':Nat}{d':Drawn}{ch:List Addr}(I:Inv X pins σ H s)
  (y:∀b∈ch,(b∈X.ex\/X.s₀.heap.objs.size<=b)/\b≠X.env.locals/\(∀x c,X.env.cells.lookup x=some c->c≠b)/\∀p∈X.pn++pins,p.1≠b)
  (keep:∀b o,b≠X.env.locals->b∉X.fs->b∉ch->s.heap.get? b=some o->H b=none->h'.get? b=some o)
  (slot:∀b o,b≠X.env.locals->b∈X.fs->b∉ch->s.heap.get? b=some o->H b=none->∃G,h'.get? b=some {o with slots:=G}) (free:∀b o,b∉ch->s.heap.get? b=some o->H b=none->H' b=none)
  (there:∀b o,b∉ch->s.heap.get? b=some o->∃A,h'.get? b=some A)
  (tups:∀b h,H b=some (.tup h)->H' b=some (.tup h)) (frzs:∀b o u,H b=some (.rP o u)->H' b=some (.rP o u)) (tbls:∀b E,H b=some (.Ei E)->∃more,H' b=some (.Ei (E++more)))
  (R:∀m,s.heap.Ns X.env.locals m->h'.Ns X.env.locals m) (hok:jL X.prog X.w H' h') (S:AllBare g'):
  Inv X pins σ H' {s with heap:=h',gens:=g',drawn:=d',toks:=t'}:=by
 have M:∀b o,X.s₀.heap.get? b=some o->b≠X.env.locals:=λb o e=>cE (iH (Fk e) I.ok.above)
 have F:∀b o,X.s₀.heap.get? b=some o->b∉X.ex->b∉ch:=λb o e a j=>by
  rcases(y b j).1 with z|z
  ·exact a z
  ·exact absurd (iH (Fk e) z) (lI _)
 have f:∀x c,X.env.cells.lookup x=some c->∀v,s.heap.IsCell c v->h'.IsCell c v:=λx c e v ⟨o,t,J⟩=>by
  have B:c∉ch:=λz=>(y c z).2.2.1 x c e rfl
  by_cases N:c∈X.fs
  ·obtain⟨G,q⟩:=slot c o (I.EL x c e) N B t (I.freeC x c e)
   exact⟨_,q,J⟩
  ·exact⟨o,keep c o (I.EL x c e) N B t (I.freeC x c e),J⟩
 refine⟨I.ok,I.os,S,⟨λb o e n j a=>?_,λb o e n j a=>?_,λb o e n a=>?_,λb o e a=>?_,λb h e=>tups b h (I.base.tups b h e),λb o h e=>frzs b o h (I.base.frzs b o h e),λb E e=>?_⟩,?_,λx c e=>?_,?_,λx c e=>?_,λp O=>?_,hok,I.len⟩
 ·exact keep b o (M b o e) j (F b o e a) (I.base.keep b o e n j a) (I.base.free b o e n a)
 ·obtain⟨G,g⟩:=I.base.slot b o e n j a
  obtain⟨L,C⟩:=slot b _ (M b o e) j (F b o e a) g (I.base.free b o e n a);exact⟨L,C⟩
 ·obtain⟨A,g⟩:=I.base.there b o e a
  exact free b A (F b o e a) g (I.base.free b o e n a)
 ·obtain⟨A,g⟩:=I.base.there b o e a
  exact there b A (F b o e a) g
 ·obtain⟨T,g⟩:=I.base.tbls b E e
  obtain⟨U,C⟩:=tbls b _ g;exact⟨T++U,by rw[C,Array.append_assoc]⟩
 ·obtain⟨m,Y,Z⟩:=I.loc
  refine⟨m,R m Y,λi x v g C e3=>?_⟩;obtain⟨u,r,l⟩:=Z i x v g C e3;refine⟨u,r,?_⟩
  rcases l with l| ⟨k,c,e,z⟩
  ·exact .inl l
  ·exact .inr ⟨k,c,e,f x c e _ z⟩
 ·obtain⟨v,z⟩:=I.cell x c e
  exact⟨v,f x c e v z⟩
 ·obtain⟨m,⟨o,_,_,t,_⟩,_⟩:=I.loc
  exact free _ o (λz=>(y _ z).2.1 rfl) t I.free
 ·obtain⟨v,o,t,J⟩:=I.cell x c e
  exact free c o (λz=>(y c z).2.2.1 x c e rfl) t (I.freeC x c e)
 ·obtain⟨e,n,ne,Q,d⟩:=I.pin p O
  have B:p.1∉ch:=λz=>(y p.1 z).2.2.2 p O rfl;exact⟨keep p.1 p.2 ne Q B e n,free p.1 p.2 B e n,ne,Q,d⟩
theorem Inv.un{t':Nat}(I:Inv X pins σ H s)(u:Un X.fs [] H H' s.heap h')(hok:jL X.prog X.w H' h'):Inv X pins σ H' {s with heap:=h',toks:=t'}:=by
 rfl';obtain⟨m,⟨o,p,q,d,r⟩,_⟩:=id I.loc;obtain⟨t,h⟩:=u.any d I.free (by simp)
 ac_rfl
 exact I.step (g':=s.gens) (d':=s.drawn) (ch:= []) (λ_ z=>nomatch z) (λb o _ c _ e n=>u.keep b o e n c (by simp)) (λb o _ c _ e n=>u.slot b o e n c (by simp)) (λb o _ e n=>u.free b o e n (by simp)) (λb o _ e=>u.there b o e (by simp)) u.tups u.frzs u.tbls (λv i=>by
  rfl';obtain⟨x,j,k,f,l⟩:=i;ac_rfl;rw[d] at f;cases f;exact⟨_,j,k,h,l⟩) hok I.bare
theorem Inv.call{g':Array GenState}{t':Nat}{d':Drawn}{ch:List Addr}(I:Inv X pins σ H s)(u:Un (xQ X.stack) ch H H' s.heap h')(hok:jL X.prog X.w H' h')(j:AllBare g')
  (g:∀b∈ch,(b∈X.ex\/X.s₀.heap.objs.size<=b)/\b≠X.env.locals/\(∀x c,X.env.cells.lookup x=some c->c≠b)/\∀p∈X.pn++pins,p.1≠b):
  Inv X pins σ H' {s with heap:=h',gens:=g',drawn:=d',toks:=t'}:=by
 rfl';obtain⟨m,⟨o,A,B,h,r⟩,_⟩:=id I.loc;obtain⟨C,f⟩:=u.any h I.free λz=>(g _ z).2.1 rfl;ac_rfl
 exact I.step (ch:=ch) g (λb o f l a e n=>u.keep b o e n (λz=>(br.mp (I.BU b z)).elim f l) a) (λb o _ _ a e n=>u.any e n a) (λb o a e n=>u.free b o e n a) (λb o a e=>u.there b o e a) u.tups u.frzs u.tbls (λE q=>by
  rfl';obtain⟨F,t,v,i,y⟩:=q;ac_rfl;rw[h] at i;cases i;exact⟨_,t,v,f,y⟩) hok j
theorem Inv.turned{t':Nat}{it:Addr}(I:Inv X pins σ H s)(k:∀b o,b≠it->s.heap.get? b=some o->h'.get? b=some o)(g:H it=none)(d:it≠X.env.locals)
  (h:it∈X.ex\/X.s₀.heap.objs.size<=it) (i:∀x c,X.env.cells.lookup x=some c->c≠it) (j:∀p∈X.pn++pins,p.1≠it):Inv X pins σ H {s with heap:=h',toks:=t'}:=by
 have f:∀b u,H b=some u->b≠it:=λb u e z=>by rw[z,g] at e;cases e
 refine I.step (g':=s.gens) (d':=s.drawn) (ch:= [it]) (λb l=>?_) (λb o _ _ a e _=>k b o (λz=>a (by simp[z])) e) (λb o _ _ a e _=>⟨o.slots,k b o (λz=>a (by simp[z])) e⟩) (λ_ _ _ _ n=>n)
  (λb o a e=>⟨o,k b o (λz=>a (by simp[z])) e⟩) (λ_ _ e=>e) (λ_ _ _ e=>e) (λb B e=>⟨#[],by rw[e];simp⟩) (λm t=>?_) (λb u e=>?_) I.bare
 ·have e:b=it:=by simpa using l
  subst e;exact⟨h,d,i,j⟩
 ·obtain⟨o,w,y,A,r⟩:=t
  exact⟨o,w,y,k _ o (Ne.symm d) A,r⟩
 ·refine(I.hok b u e).qg (λc v a q=>k c v ?_ q) (λ_ q=>q) λ_ _ q=>q
  rcases a with z|z
  ·rw[z];exact f b u e
  ·exact f c _ z
theorem Inv.tok(I:Inv X pins σ H s)(t:Nat):Inv X pins σ H {s with toks:=t}:=I.un (h':=s.heap) (t':=t) Un.refl I.hok
theorem Inv.kept{t':Nat}(I:Inv X pins σ H s)(k:∀b u,s.heap.get? b=some u->h'.get? b=some u):Inv X pins σ H {s with heap:=h',toks:=t'}:=I.un (Un.kept k) (I.hok.kept k)
theorem Inv.laid{a:Addr}{o:HO}{t':Nat}(I:Inv X pins σ H s)(k:∀b u,s.heap.get? b=some u->h'.get? b=some u)(c:s.heap.objs.size<=a)(new:cV X.prog X.w (upd H a o) h' a o):
  Inv X pins σ (upd H a o) {s with heap:=h',toks:=t'}:=I.un (Un.laid k c (I.hok.fresh c)) (I.hok.laid k c new)
theorem Inv.write{x e:Addr}{o:HO}{t':Nat}(I:Inv X pins σ H s)(a:Nc (H x))(c:e=x\/H e=some (.own x))(k:∀b u,b≠e->s.heap.get? b=some u->h'.get? b=some u)(d:∃u,h'.get? e=some u)
  (new:cV X.prog X.w (upd H x o) h' x o):Inv X pins σ (upd H x o) {s with heap:=h',toks:=t'}:=I.un (Un.write a c k d) (I.hok.write a c k d new)
theorem Inv.tV(I:Inv X pins σ H s)(h:∀p∈a,s.heap.get? p.1=some p.2/\H p.1=none/\p.1≠X.env.locals/\p.1∉X.fs/\∀v,p.2.data≠ .cell v):Inv X a σ H s:=
 ⟨I.ok,I.os,I.bare,I.base,I.loc,I.cell,I.free,I.freeC,λp b=>(bR.mp b).elim (λz=>I.pin p (fk _ z)) (h p),I.hok,I.len⟩
theorem As{N:List Str}(c:N.Nodup){i j:Nat}{x:Str}(a:N[i]? =some x)(b:N[j]? =some x):i=j:=by
 obtain⟨f,d⟩:=di.mp a;obtain⟨g,e⟩:=di.mp b;exact(List.getElem_inj c).mp (d.trans e.symm)
theorem store_ok2(I:Inv X pins σ H s)(hN:X.N.Nodup)(O:X.N[i]? =some x)(B:Loc X.env.scope x)(r:RelV v u)
  (h:∀T,Inv X pins (σ.set i (some v)) H T->(∃a,Heap.SameBut a s.heap T.heap/\(a=X.env.locals\/X.env.cells.lookup x=some a))->Q () T) (hf:X.fn x=true\/X.env.scope.names.lookup x=some .local:=by first|exact .inl rfl|exact .inr rfl|assumption):wpAny M A (storeName X.env x u) Q E s:=by
 obtain⟨m,U,hl⟩:=id I.loc;have Xu:(X.env.scope.kind== .class|| (X.env.scope.kind== .module&&X.env.locals !=X.env.globals))=false:=by rw[I.ok.kind];rfl
 have Qy:i<σ.length:=by rw[I.len];exact(di.mp O).1
 have EL:=I.EL
 have g:∀{a:Addr}{L:Heap},(∃o,s.heap.get? a=some o/\H a=none)->Heap.SameBut a s.heap L->jL X.prog X.w H L:=λ {a L} ha f b ob e=>by
  obtain⟨_,_,Bl⟩:=ha;refine(I.hok b ob e).qg (λc R t q=>(f.2 c ?_).trans q) (λ_ q=>q) λ_ _ q=>q;rintro rfl
  rcases t with rfl|t
  ·rw[Bl] at e;cases e
  ·rw[Bl] at t;cases t
 rcases B with F|F
 ·refine wpAny_storeName_local F U (λL Y f=>?_) Xu
  obtain⟨oL,_,_,KZ,_⟩:=id U;refine h _ ⟨I.ok,I.os,I.bare,⟨λb o e n G B=>?_,λb o e n G B=>?_,I.base.free,λb o e B=>?_,I.base.tups,I.base.frzs,I.base.tbls⟩,⟨_,Y,λj y Z l C e3=>?_⟩,λy c e=>?_,I.free,I.freeC,λp hp=>?_,g ⟨oL,KZ,I.free⟩ f,by simpa using I.len⟩ ⟨_,f, .inl rfl⟩
  ·exact(f.2 b (cE (iH (Fk e) I.ok.above))).trans (I.base.keep b o e n G B)
  ·obtain⟨sl,l⟩:=I.base.slot b o e n G B
   exact⟨sl,(f.2 b (cE (iH (Fk e) I.ok.above))).trans l⟩
  ·obtain⟨o',l⟩:=I.base.there b o e B
   exact⟨o',(f.2 b (cE (iH (Fk e) I.ok.above))).trans l⟩
  ·by_cases J:j=i
   ·subst J
    rw[O] at l;cases l;rw[lD Qy] at C;cases C;exact⟨u,r, .inl ⟨F,by simp⟩⟩
   ·rw[lE (Ne.symm J)] at C
    obtain⟨u',r',q⟩:=hl j y Z l C e3;refine⟨u',r',?_⟩
    rcases q with ⟨k,e⟩ | ⟨k,c,e,z⟩
    ·refine .inl ⟨k,?_⟩
     have:y≠x:=λe=>J (As hN l (e▸O))
     simp[this,e]
    ·exact .inr ⟨k,c,e,z.sameBut f (EL y c e)⟩
  ·obtain⟨R,z⟩:=I.cell y c e
   exact⟨R,z.sameBut f (EL y c e)⟩
  ·obtain⟨e,n,ne,nf,d⟩:=I.pin p hp
   exact⟨(f.2 p.1 ne).trans e,n,ne,nf,d⟩
 ·have SN:X.fn x=true:=by
   rcases hf with z|z
   ·exact z
   ·rw[z] at F;cases F
  obtain⟨c,t⟩:=I.ok.has x (.inl F);obtain⟨R,z⟩:=I.cell x c t;refine wpAny_storeName_cell I.ok.kind F t z (λL tG f=>?_);obtain⟨oc,XS,XT⟩:=id z;refine h {s with heap:=L} ⟨I.ok,I.os,I.bare,⟨λb o e n G B=>?_,λb o e n G B=>?_,I.base.free,λb o e B=>?_,I.base.tups,I.base.frzs,I.base.tbls⟩,⟨m,U.sameBut f (Ne.symm (EL x c t)),λj y Z l C e3=>?_⟩,λy S e=>?_,I.free,I.freeC,λp hp=>?_,g ⟨oc,XS,I.freeC x c t⟩ f,by simpa using I.len⟩ ⟨c,f, .inr t⟩
  ·exact(f.2 b (cE (iH (Fk e) (I.ok.cab x c SN t)))).trans (I.base.keep b o e n G B)
  ·obtain⟨sl,l⟩:=I.base.slot b o e n G B
   exact⟨sl,(f.2 b (cE (iH (Fk e) (I.ok.cab x c SN t)))).trans l⟩
  ·obtain⟨o',l⟩:=I.base.there b o e B
   exact⟨o',(f.2 b (cE (iH (Fk e) (I.ok.cab x c SN t)))).trans l⟩
  ·by_cases J:j=i
   ·subst J
    rw[O] at l;cases l;rw[lD Qy] at C;cases C;exact⟨u,r, .inr ⟨.inl F,c,t,tG⟩⟩
   ·rw[lE (Ne.symm J)] at C
    obtain⟨u',r',q⟩:=hl j y Z l C e3;refine⟨u',r',?_⟩
    rcases q with q| ⟨k,S,e,z'⟩
    ·exact .inl q
    ·refine .inr ⟨k,S,e,z'.sameBut f ?_⟩
     rintro rfl;exact J (As hN l (I.ok.inj _ _ _ e t▸O))
  ·by_cases Xs:S=c
   ·subst Xs;exact⟨_,tG⟩
   ·obtain⟨w2,z2⟩:=I.cell y S e
    exact⟨w2,z2.sameBut f Xs⟩
  ·obtain⟨e,n,ne,nf,d⟩:=I.pin p hp
   refine⟨(f.2 p.1 ?_).trans e,n,ne,nf,d⟩;intro q;rw[q,XS] at e;have q':oc=p.2:=Da e;exact d R (by rw[<-q'];exact XT)
theorem mZ{x:Str}{v:V}(I:Inv X pins σ H s)(b:X.N.Nodup)(c:X.N[i]? =some x)(d:Loc X.env.scope x)(r:RelV v u)
  (h:∀a,Inv X pins (σ.set i (some v)) H a->Q () a) (e:X.fn x=true\/X.env.scope.names.lookup x=some .local:=by first|exact .inl rfl|exact .inr rfl|assumption):wpAny M A (storeName X.env x u) Q E s:=
 store_ok2 I b c d r (λa f _=>h a f) e
theorem Inv.Rf{ch:List Addr}(I:Inv X pins σ H s)(d:a.os=s.os)(u:Un (xQ X.stack) ch H H' s.heap a.heap)(hok:jL X.prog X.w H' a.heap)(f:AllBare a.gens)
  (g:∀b∈ch,(b∈X.ex\/X.s₀.heap.objs.size<=b)/\b≠X.env.locals/\(∀x c,X.env.cells.lookup x=some c->c≠b)/\∀p∈X.pn++pins,p.1≠b):Inv X pins σ H' a:=by
 obtain⟨i,g',d',t',h⟩:=a;have e:h=s.os:=d;subst e;exact I.call (g':=g') (t':=t') (d':=d') u hok f g
end
abbrev XK:=Value->Option Addr->Hp->Prop
abbrev St:=List (Option V)
abbrev VK:=V->Hp->Prop
abbrev TE:=St->Hp->VK->Prop
abbrev TT:=St->Hp->(Bool->Hp->Prop)->Prop
abbrev TA:=St->Hp->(List V->Hp->Prop)->Prop
structure Ends where
 nx:St->Hp->Prop
 rt:VK
 bk:St->Hp->Prop:=λ_ _=>False
 ct:St->Hp->Prop:=λ_ _=>False
abbrev TS:=Ends->St->Hp->Prop
def EP(X:Cx)(a:List (Addr×Obj))(c:St)(Q:VK)(u:Value)(d:Shared):Prop:=∃v b,Inv X a c b d/\RelV v u/\Q v b
def TP(X:Cx)(a:List (Addr×Obj))(d:St)(Q:Bool->Hp->Prop)(b:Bool)(e:Shared):Prop:=∃c,Inv X a d c e/\Q b c
def AP(X:Cx)(a:List (Addr×Obj))(d:St)(Q:List V->Hp->Prop)(e:List Value)(f:Shared):Prop:=∃b c,Inv X a d c f/\Vals b e/\Q b c
def SP(X:Cx)(a:List (Addr×Obj))(D:Ends)(f:Flow)(d:Shared):Prop:=
 match f with
 | .next=>∃c b,Inv X a c b d/\D.nx c b
 | .brk=>∃c b,Inv X a c b d/\D.bk c b
 | .cont=>∃c b,Inv X a c b d/\D.ct c b
 | .ret u=>∃v c b,Inv X a c b d/\RelV v u/\D.rt v b
def PE(X:Cx)(e:Expr)(t:TE):Prop:=
 ∀(a:List (Addr×Obj))(s:Shared)(b:St)(H:Hp)(Q:VK),Inv X a b H s->t b H Q->wpAny (model X.prog X.w) X.A (eval e X.env) (EP X a b Q) X.xe s
def PT(X:Cx)(e:Expr)(t:TT):Prop:=
 ∀(a:List (Addr×Obj))(s:Shared)(b:St)(H:Hp)(Q:Bool->Hp->Prop),Inv X a b H s->t b H Q->wpAny (model X.prog X.w) X.A (isTrue e X.env (eval e X.env)) (TP X a b Q) X.xe s
def PW(X:Cx)(e:Expr)(t:TT):Prop:=
 ∀(b:Sem Value)(a:List (Addr×Obj))(s:Shared)(c:St)(H:Hp)(Q:Bool->Hp->Prop),Inv X a c H s->t c H Q->wpAny (model X.prog X.w) X.A (isTrue e X.env b) (TP X a c Q) X.xe s
theorem PW.pt(h:PW X e t):PT X e t:=h _
def PA(X:Cx)(d:List Expr)(t:TA):Prop:=
 ∀(b:Pos)(a:List (Addr×Obj))(s:Shared)(c:St)(H:Hp)(Q:List V->Hp->Prop),Inv X a c H s->t c H Q->wpAny (model X.prog X.w) X.A (spliced (backTo b (starEach d X.env))) (AP X a c Q) X.xe s
def PS(X:Cx)(st:Stmt)(t:TS):Prop:=
 ∀(a:List (Addr×Obj))(s:Shared)(b:St)(H:Hp)(D:Ends),Inv X a b H s->t D b H->wpAny (model X.prog X.w) X.A (exec st X.env) (SP X a D) X.xe s
def oK(X:Cx)(st:List Stmt)(t:TS):Prop:=
 ∀(a:List (Addr×Obj))(s:Shared)(b:St)(H:Hp)(D:Ends),Inv X a b H s->t D b H->wpAny (model X.prog X.w) X.A (execs st X.env) (SP X a D) X.xe s
theorem thn{Q c:b->Shared->Prop}(h:wpAny M A t Q E s)(d:∀a s,Q a s->c a s):wpAny M A t c E s:=wpAny_mono h d λ_ _ x=>x
section
variable {X:Cx}
def QU(i:Nat):TE:=λa H Q=>∃v,a[i]? =some (some v)/\Q v H
def tC(v:V):TE:=λ_ H Q=>Q v H
theorem BF(k:X.N[i]? =some x)(n:lJ X.env.scope x)(f:(x==("__debug__":Str))=false:=by decide)(o:(x==("__classdict__":Str))=false:=by decide):PE X (.Name x d) (QU i):=by
 intro b s p H Q I h;rfl';obtain⟨v,e,h⟩:=h;obtain⟨m,t,w⟩:=I.loc;obtain⟨u,r,l⟩:=w i x v k e n;have fin:EP X b p Q u s:=⟨v,H,I,r,h⟩;ac_rfl
 rcases l with ⟨a,y⟩ | ⟨a,c,g,j⟩
 ·exact wpAny_Name (wpAny_loadName_local I.ok.kind a t y fin) f
 ·rcases a with a|a
  ·exact wpAny_Name (wpAny_loadName_cell I.ok.kind a g j fin) f
  ·exact wpAny_Name (wpAny_loadName_free I.ok.kind a g j fin o) f
theorem OF{i j pos}:PE X (.Constant (.int i) j pos) (tC (.int i)):=λ_ _ _ H _ I h=>wpAny_Constant_int ⟨.int i,H,I.tok _,⟨_,rfl⟩,h⟩
theorem TU{b j pos}:PE X (.Constant (.bool b) j pos) (tC (.bl b)):=λ_ _ _ H _ I h=>Constant_bool ⟨.bl b,H,I,rfl,h⟩
theorem OH{j pos}:PE X (.Constant .none j pos) (tC .bA):=λ_ _ _ H _ I h=>Constant_none ⟨.bA,H,I,rfl,h⟩
theorem OK{x j pos}:PE X (.Constant (.str x) j pos) (tC (.str x)):=λ_ _ _ H _ I h=>Calls.Constant_str ⟨.str x,H,I.tok _,⟨_,rfl⟩,h⟩
def Gl(X:Cx)(x:Str):Prop:=X.env.kindOf x=some .globalImplicit
theorem yb(I:Inv X a c H s)(d:Gl X x)(e:X.mg x=some u)(h:Q u s)
  (f:(x==("__debug__":Str))=false:=by decide):wpAny (model X.prog X.w) X.A (eval (.Name x b) X.env) Q E s:=
 ads I.ok.kind d (Calls.loadGlobal_global (by rw[I.ok.glob];exact I.mod.glob.keeps I.bk) e h) f
theorem kU{u:Value}(I:Inv X a c H s)(d:Gl X x)(e:X.mg x=none)(f:bootBuiltins x=some u)(h:Q u s)
  (g:x≠"__name__":=by decide) (i:(x==("__debug__":Str))=false:=by decide):wpAny (model X.prog X.w) X.A (eval (.Name x b) X.env) Q E s:=by
 obtain⟨l,j,k⟩:=I.mod.blt;exact ads I.ok.kind d (Calls.loadGlobal_builtin (by rw[I.ok.glob];exact I.mod.glob.keeps I.bk) e (by rw[I.ok.blt];exact j.keeps I.bk) ((k x g).trans f) h) i
theorem LM{v:V}(b:Gl X x)(c:X.mg x=some u)(r:RelV v u)(d:(x==("__debug__":Str))=false:=by decide):PE X (.Name x a) (tC v):=
 λ_ _ _ H _ I h=>yb I b c ⟨v,H,I,r,h⟩ d
theorem LJ(b:Gl X x)(c:X.mg x=none)(d:bootBuiltins x=some u)(r:RelV v u)(e:x≠"__name__":=by decide)(f:(x==("__debug__":Str))=false:=by decide):PE X (.Name x a) (tC v):=
 λ_ _ _ H _ I h=>kU I b c d ⟨v,H,I,r,h⟩ e f
variable {a b:Expr} {ta tb:TE} {pos:Pos}
variable {tA BV:TT} {rest:List Expr}
def abG(t u:TT):TT:=λd H Q=>t d H λc e=>if c=true then u d e Q else Q false e
def tOr(t u:TT):TT:=λd H Q=>t d H λc e=>if c=true then Q true e else u d e Q
def abO(t:TT):TT:=λd H Q=>t d H λc e=>Q (!c) e
theorem Md(f:PT X a tA):PW X (.BoolOp .And [a] pos) tA:=by
 intro i d s g H Q I h;refine isTrue_and (thn (f d s g H Q I h) λc j e=>?_);cases c with
 |true=>exact isTrue_and_nil e
 |false=>exact e
theorem OU(f:PT X a tA):PW X (.BoolOp .Or [a] pos) tA:=by
 intro i d s g H Q I h;refine isTrue_or (thn (f d s g H Q I h) λc j e=>?_);cases c with
 |false=>exact isTrue_or_nil e
 |true=>exact e
theorem OT(j:PT X a tA)(k:PW X (.BoolOp .And (b::rest) pos) BV):PW X (.BoolOp .And (a::b::rest) pos) (abG tA BV):=by
 intro l d s e H Q I h;refine isTrue_and (thn (j d s e H _ I h) λc m ⟨f,g,i⟩=>?_);cases c with
 |true=>exact k l d m e f Q g i
 |false=>exact⟨f,g,i⟩
theorem TX(j:PT X a tA)(k:PW X (.BoolOp .Or (b::rest) pos) BV):PW X (.BoolOp .Or (a::b::rest) pos) (tOr tA BV):=by
 intro l d s e H Q I h;refine isTrue_or (thn (j d s e H _ I h) λc m ⟨f,g,i⟩=>?_);cases c with
 |true=>exact⟨f,g,i⟩
 |false=>exact k l d m e f Q g i
theorem OR(e:PT X a tA):PT X (.UnaryOp .Not a pos) (abO tA):=by
 intro d s f H Q I h;exact isTrue_not (e d s f H (λc g=>Q (!c) g) I h)
def Ue(f g:TE):TE:=λd H Q=>f d H λx e=>∃c,x= .bl c/\if c=true then g d e Q else Q (.bl false) e
def Ul(d:TE):TE:=λe H Q=>d e H λx f=>∃c,x= .bl c/\Q (.bl (!c)) f
theorem OJ{op}(h:PE X a t):PE X (.BoolOp op [a] pos) t:=λc s d H Q I hw=>BoolOp_one (h c s d H Q I hw)
theorem OB(j:PE X a ta)(k:PE X (.BoolOp .And (b::rest) pos) tb):PE X (.BoolOp .And (a::b::rest) pos) (Ue ta tb):=by
 intro d s f H Q I h;refine BoolOp_and (thn (j d s f H _ I h) λv l m=>?_);rfl';obtain⟨x,g,i,o,e⟩:=m;obtain⟨c,rfl,e⟩:=e;ac_rfl;subst o;refine M2 ?_;cases c with
 |true=>exact k d l f g Q i e
 |false=>exact⟨.bl false,g,i,rfl,e⟩
theorem OI(f:PE X a ta):PE X (.UnaryOp .Not a pos) (Ul ta):=by
 intro d s g H Q I h;refine UnaryOp_ (thn (f d s g H _ I h) λv n i=>?_);rfl';obtain⟨x,k,l,m,e⟩:=i;obtain⟨c,rfl,e⟩:=e;ac_rfl;subst m;exact not_of (M2 ⟨.bl (!c),k,l,rfl,e⟩)
end
def cM(K:PySem.W.Frag)(H:Hp)(a:Addr)(c:List V):Prop:=
 Rd H a (.lst c)\/
  ∃(o:Obj)(b:Array Value)(n:Nat),K.lookup a=some o/\o.cls= .type "list"/\o.dict=none/\o.data= .seq b n/\b.size<=sizeLine/\Vals c b.toList
def eW(K:PySem.W.Frag)(H:Hp)(a:Addr)(c:List V):Prop:=
 Rd H a (.tup c)\/
  ∃(o:Obj)(b:Array Value)(n:Nat),K.lookup a=some o/\o.cls= .type "tuple"/\o.data= .seq b n/\b.size<=sizeLine/\Vals c b.toList
def UM:Value->Option V
 | .none=>some .bA
 | .bool b=>some (.bl b)
 | .int i _=>some (.int i)
 | .str x _=>some (.str x)
 | .bytes b _=>some (.HG b)
 | .float b _=>some (.EZ b)
 | .ref a=>some (.ref a)
 | .type n=>some (.ty n)
 |_=>none
theorem RelV.abs{x:V}{u:Value}(r:RelV x u):UM u=some x:=by
 cases x with
 |bA=>cases r;rfl
 |bl _=>cases r;rfl
 |int _=>obtain⟨t,rfl⟩:=r;rfl
 |str _=>obtain⟨t,rfl⟩:=r;rfl
 |HG _=>obtain⟨t,rfl⟩:=r;rfl
 |EZ _=>obtain⟨t,rfl⟩:=r;rfl
 |ref _=>cases r;rfl
 |ty _=>cases r;rfl
theorem RelV.inj(r:RelV x u)(q:RelV y u):x=y:=Da (r.abs.symm.trans q.abs)
theorem Vals.inj:∀{a b:List V}{c:List Value},Vals a c->Vals b c->a=b
 |_,_,_, .nil, .nil=>rfl
 |_,_,_, .cons r t, .cons d e=>by rw[r.inj d,Vals.inj t e]
section
variable {X:Cx} {pins:List (Addr×Obj)} {σ:St} {H:Hp} {s:Shared} {a:Addr} {xs ys:List V}
theorem cM.of{K:PySem.W.Frag}(h:H a=some (.lst xs)):cM K H a xs:= .inl (.inl h)
theorem eW.of{K:PySem.W.Frag}(h:H a=some (.tup xs)):eW K H a xs:= .inl (.inl h)
theorem Inv.list(I:Inv X pins σ H s)(h:cM X.K H a xs):∃its:List Value,Vals xs its/\PlainL s.heap a its.toArray/\xs.length<=sizeLine:=by
 rcases h with h| ⟨o,its,n,b,c,d,f,g,r⟩
 ·obtain⟨z,its,n,r,e⟩:=h.ok I.hok
  exact⟨its,r,⟨_,n,e,rfl,rfl,rfl⟩,z⟩
 ·refine⟨its.toList,r,⟨o,n,I.jy a o b,c,d,by simpa using f⟩,?_⟩
  have e:=r.length;simp only[iF] at e;omega
theorem Inv.tuple(I:Inv X pins σ H s)(h:eW X.K H a xs):∃its:List Value,Vals xs its/\IsTup s.heap a its.toArray/\xs.length<=sizeLine:=by
 rcases h with h| ⟨o,its,n,b,c,d,f,r⟩
 ·obtain⟨z,its,r,p⟩:=h.ok I.hok
  exact⟨its,r,p,z⟩
 ·refine⟨its.toList,r,⟨o,I.jy a o b,c,n,by simpa using d⟩,?_⟩
  have e:=r.length;simp only[iF] at e;omega
theorem Inv.uN(I:Inv X pins σ H s)(h:cM X.K H a xs)(h':cM X.K H a ys):xs=ys:=by
 rfl';obtain⟨c,r,⟨o,n,e,_,_,d⟩,_⟩:=I.list h;obtain⟨b,j,⟨m,p,f,_,_,g⟩,_⟩:=I.list h';ac_rfl;rw[e] at f;cases f;rw[d] at g
 injection g with k _
 have:c=b:=by simpa using FS Array.toList k
 subst this;exact r.inj j
theorem Inv.Gn(I:Inv X pins σ H s)(h:eW X.K H a xs)(h':eW X.K H a ys):xs=ys:=by
 obtain⟨c,r,⟨o,e,_,n,d⟩,_⟩:=I.tuple h;obtain⟨b,i,⟨k,f,_,l,g⟩,_⟩:=I.tuple h';rw[e] at f;cases f;rw[d] at g
 injection g with j _
 have:c=b:=by simpa using FS Array.toList j
 subst this;exact r.inj i
end
abbrev Cx.rh(X:Cx)(E:Value->Shared->Prop):Cx:={X with xe:=E}
abbrev Cx.lU(X:Cx):Cx:=X.rh λ_ _=>False
theorem Cx.Ok.rh{X:Cx}(ok:X.Ok)(E:Value->Shared->Prop):(X.rh E).Ok:=
 ⟨ok.mod,ok.kind,ok.glob,ok.blt,ok.above,ok.inj,ok.has,ok.cab,ok.hd,ok.frames,ok.stk,ok.exf,ok.bs,ok.bsz,ok.noex,ok.exfs,ok.funs,ok.frf⟩
theorem Cx.Ok.lB{X:Cx}{E:Value->Shared->Prop}(ok:(X.rh E).Ok):X.Ok:=
 ⟨ok.mod,ok.kind,ok.glob,ok.blt,ok.above,ok.inj,ok.has,ok.cab,ok.hd,ok.frames,ok.stk,ok.exf,ok.bs,ok.bsz,ok.noex,ok.exfs,ok.funs,ok.frf⟩
section
variable {X:Cx} {pins:List (Addr×Obj)} {σ:St} {H:Hp} {s:Shared} {E:Value->Shared->Prop}
theorem Inv.rh(I:Inv X pins σ H s)(E:Value->Shared->Prop):Inv (X.rh E) pins σ H s:=⟨I.ok.rh E,I.os,I.bare,I.base,I.loc,I.cell,I.free,I.freeC,I.pin,I.hok,I.len⟩
theorem Inv.lB(I:Inv (X.rh E) pins σ H s):Inv X pins σ H s:=⟨I.ok.lB,I.os,I.bare,I.base,I.loc,I.cell,I.free,I.freeC,I.pin,I.hok,I.len⟩
theorem SP.lB{D:Ends}{f:Flow}{s':Shared}(h:SP (X.rh E) pins D f s'):SP X pins D f s':=by
 cases f with
 |next=>obtain⟨aI,H',I,q⟩:=h;exact⟨aI,H',I.lB,q⟩
 |brk=>obtain⟨aI,H',I,q⟩:=h;exact⟨aI,H',I.lB,q⟩
 |cont=>obtain⟨aI,H',I,q⟩:=h;exact⟨aI,H',I.lB,q⟩
 |ret u=>obtain⟨v,aI,H',I,r,q⟩:=h;exact⟨v,aI,H',I.lB,r,q⟩
theorem oK.lU{st:List Stmt}{t:TS}(h:oK X.lU st t):oK X st t:=λa s b H D I hw=>
 wpAny_mono (h a s b H D (I.rh _) hw) (λ_ _ q=>q.lB) λ_ _ z=>False.elim z
end
section
variable {X:Cx} {st:Stmt} {rest:List Stmt} {t u:TS} {e:Expr} {te:TE} {pos:Pos}
def Uk:TS:=λD a H=>D.nx a H
def abR(t u:TS):TS:=λD a H=>t {D with nx:=u D} a H
theorem L6:oK X [] Uk:=λ_ _ a H _ I h=>ac8 ⟨a,H,I,h⟩
theorem mS(h1:PS X st t)(h2:oK X rest u):oK X (st::rest) (abR t u):=by
 intro pins s σ H D I h;refine wpAny_execs_cons (thn (h1 pins s σ H {D with nx:=u D} I h) λf s1 q=>?_)
 cases f with
 |next=>
  obtain⟨aI,H',I',q⟩:=q;exact h2 pins s1 aI H' D I' q
 |ret v=>exact q
 |brk=>exact q
 |cont=>exact q
theorem D2(h1:PS X st t):oK X [st] t:=by
 intro pins s σ H D I h;refine wpAny_execs_cons (thn (h1 pins s σ H D I h) λf s1 q=>?_);cases f with
 |next=>exact wpAny_execs_nil q
 |ret v=>exact q
 |brk=>exact q
 |cont=>exact q
theorem Inv.quiet(I:Inv X a b H s):interactive X.env=false:=by simp[interactive,I.ok.kind]
def Ui(b:TE):TS:=λD a H=>b a H λ_ c=>D.nx a c
theorem iz(c:PE X e te)(d:swapsWith e none pos.line X.env=pure false:=by rfl):PS X (.Expr e pos) (Ui te):=by
 intro a s b H D I h;exact wpAny_Expr_any (thn (c a s b H _ I h) λv j ⟨x,f,g,k,i⟩=>⟨b,f,g,i⟩) I.quiet d
def abQ(a:TE):TS:=λD b H=>a b H D.rt
theorem wY(c:PE X e te):PS X (.Return (some e) pos) (abQ te):=by
 intro a s b H D I h;exact wpAny_Return_some (thn (c a s b H _ I h) λv j ⟨x,d,f,g,i⟩=>⟨x,b,d,f,g,i⟩)
def abM(c:TT)(t u:TS):TS:=λD a H=>c a H λb d=>if b=true then t D a d else u D a d
theorem TV(m:PT X c tc)(n:oK X a t)(o:oK X b u):PS X (.If c a b pos) (abM tc t u):=by
 intro f s g H D I h;refine wpAny_If (thn (m f s g H _ I h) λd i ⟨j,k,l⟩=>?_);cases d with
 |true=>exact n f i g j D k l
 |false=>exact o f i g j D k l
def Pg:TS:=λ_ _ _=>False
theorem Jg:PS X st Pg:=λ_ _ _ _ _ _ h=>h.elim
end
abbrev TG:=V->St->Hp->(St->Hp->Prop)->Prop
abbrev zh:=List V->St->Hp->(St->Hp->Prop)->Prop
def PG(X:Cx)(a:Expr)(t:TG):Prop:=
 ∀(b:List (Addr×Obj))(s:Shared)(c:St)(H:Hp)(v:V)(u:Value)(Q:St->Hp->Prop),Inv X b c H s->RelV v u->t v c H Q->
  wpAny (model X.prog X.w) X.A (assign a X.env u) (λ_ f=>∃d e,Inv X b d e f/\Q d e) X.xe s
def AY(X:Cx)(g:List Expr)(t:zh):Prop:=
 ∀(a:List (Addr×Obj))(s:Shared)(b:St)(H:Hp)(c:List V)(d:List Value)(Q:St->Hp->Prop),Inv X a b H s->Vals c d->t c b H Q->
  wpAny (model X.prog X.w) X.A (assignInOrder ((assignEach g X.env).map (·.2)) d) (λ_ h=>∃e f,Inv X a e f h/\Q e f) X.xe s
abbrev JF:=V->V->V->Hp->(Hp->Prop)->Prop
def Py(X:Cx)(t:JF):Prop:=
 ∀(a:List (Addr×Obj))(s:Shared)(b:St)(H:Hp)(o i v:V)(c d u:Value)(Q:Hp->Prop),Inv X a b H s->RelV o c->RelV i d->RelV v u->t o i v H Q->
  wpAny (model X.prog X.w) X.A (setItem c d u) (λ_ f=>∃e,Inv X a b e f/\Q e) X.xe s
section
variable {X:Cx} {pos:Pos}
def Ku(i:Nat):TG:=λv a H Q=>Q (a.set i (some v)) H
theorem DY(b:X.N.Nodup)(c:X.N[i]? =some x)(d:Loc X.env.scope x)(e:X.fn x=true\/X.env.scope.names.lookup x=some .local:=by first|exact .inl rfl|exact .inr rfl|assumption):PG X (.Name x f) (Ku i):=by
 intro a s j H v u Q I r h;exact wpAny_assign_Name (mZ I b c d r (λk g=>⟨_,H,g,h⟩) e)
def Xe:zh:=λa b H Q=>a= []/\Q b H
def Ss(t:TG)(u:zh):zh:=λa b H Q=>∃v r,a=v::r/\t v b H λc d=>u r c d Q
theorem DZ:AY X [] Xe:=by
 intro a s b H c d Q I r h;obtain⟨e,h⟩:=h;subst e;cases r;exact assignInOrder_nil ⟨b,H,I,h⟩
theorem Ay(c:PG X e t)(d:AY X b u)
  (f:(assignEach (e::b) X.env).map (·.2)=assign e X.env::(assignEach b X.env).map (·.2):=by rfl):AY X (e::b) (Ss t u):=by
 intro a s g H w x Q I r h;obtain⟨v,y,i,h⟩:=h;subst i;cases r with
 |cons r j=>
  rw[f];refine adn (thn (c a s g H _ _ _ I r h) λ_ k l=>?_);rfl';obtain⟨n,o,p,q⟩:=l;ac_rfl;exact d a k n o _ _ Q p j q
def Xg(K:PySem.W.Frag)(n:Nat)(t:zh):TG:=λv c H Q=>∃a b,v= .ref a/\eW K H a b/\b.length=n/\t b c H Q
theorem Hi(i:X.calm=true)(h:AY X d t)
  (j:(assignEach d X.env).length=n:=by rfl) (l:(assignEach d X.env).findIdx? (·.1)=none:=by rfl):PG X (.Tuple d k pos) (Xg X.K n t):=by
 intro c s f H v u Q I r hw;rfl';obtain⟨a,p,q,w,x,hw⟩:=hw;subst q;subst r;obtain⟨y,g,z,F⟩:=I.tuple w;ac_rfl;refine assign_Tuple_tuple (I.ok.hd i) z (by simp[j,<-x,g.length]) l λA B=>?_
 have C:Inv X c f H {s with heap:=A}:=I.kept (t':=s.toks) λb o e=>B b o (cE (Fk e)) e
 exact h c _ f H p _ Q C (g) hw
def Xf(b c:TE)(t:JF):TG:=λv a H Q=>b a H λo d=>c a d λi e=>t o i v e λf=>Q a f
theorem Hh(l:PE X o g)(m:PE X i j)(n:Py X t)
  (p:∀v,assign (.Subscript o i pos) X.env v=(do
   let b <-holding [v] (eval o X.env)
   let c <-holding [v,b] (eval i X.env)
   standAt pos
   holding [v,b,c] (setItem b c v)
   release [v,b,c] []):=by intro _;rfl):PG X (.Subscript o i pos) (Xf g j t):=by
 intro a s f H v u Q I r h;rw[p];refine be (KF (thn (l a s f H _ I h) λb q d=>?_));rfl';obtain⟨x,w,z,A,B⟩:=d;ac_rfl;refine be (KF (thn (m a q f w _ z B) λc C d=>?_));rfl';obtain⟨y,E,F,G,J⟩:=d;ac_rfl;refine be (acn (be (KF (thn (n a C f E x y v b c u _ F A G r J) λ_ O d=>?_))));rfl';obtain⟨L,M,N⟩:=d;ac_rfl;exact wpAny_release ⟨f,L,M,N⟩
def QQ(b:TE)(g:TG):TS:=λD a H=>b a H λx c=>g x a c D.nx
theorem BI(f:PE X e c)(i:PG X b g)(j:swapsWithSole [b] e pos.line X.env=pure false:=by rfl)(hw:swappedStores [b] e X.env=pure none:=by rfl)
  (k:(assignEach [b] X.env).map (·.2)= [assign b X.env]:=by rfl):PS X (.Assign [b] e pos) (QQ c g):=by
 intro a s d H D I h;refine wpAny_Assign_stores (thn (f a s d H _ I h) λv l ⟨x,m,n,o,p⟩=>?_) j hw;rw[k];exact thn (i a l d m x v _ n o p) λ_ r q=>q
theorem i7(d:X.N.Nodup)(f:X.N[i]? =some x)(g:Loc X.env.scope x)(j:PE X e c)(k:swapsWith e (some (.Name x a)) pos.line X.env=pure false:=by rfl)(l:X.fn x=true\/X.env.scope.names.lookup x=some .local:=by first|exact .inl rfl|exact .inr rfl|assumption):
  PS X (.Assign [.Name x a] e pos) (QQ c (Ku i)):=by
 intro b s m H D I h;refine wpAny_Assign_Name (thn (j b s m H _ I h) λv t ⟨y,n,o,p,q⟩=>?_) k;exact mZ o d f g p (λu r=>⟨_,n,r,q⟩) l
def abP(i j:Nat)(b:TA):TS:=λD a H=>b a H λc d=>∃v w,c= [v,w]/\D.nx ((a.set i (some v)).set j (some w)) d
theorem OQ{kt k2 FZ}(C:X.calm=true)(n:X.N.Nodup)(E:X.N[i]? =some x)(F:X.N[j]? =some y)(G:i≠j)
  (r:X.env.scope.names.lookup x=some .local) (t:X.env.scope.names.lookup y=some .local) (J:PA X [a,b] m)
  (hw:swappedStores [.Tuple [.Name x k, .Name y py] kt pt] (.Tuple [a,b] k2 FZ) X.env=pure (some [x,y]))
  (L:swapsWithSole [.Tuple [.Name x k, .Name y py] kt pt] (.Tuple [a,b] k2 FZ) pos.line X.env=pure false:=by rfl):
  PS X (.Assign [.Tuple [.Name x k, .Name y py] kt pt] (.Tuple [a,b] k2 FZ) pos) (abP i j m):=by
 intro c s u H D I h;rw[exec_Assign_arm];refine be (acn ?_);rw[L];refine be (ir ?_);rw[mo (by decide)]
 refine be (Tuple_ (thn (J _ c s u H _ I h) λM d O=>?_));obtain⟨vs,z,Q,R,l⟩:=O;obtain⟨v,w,S,l⟩:=l;subst S
 obtain⟨f,g,rfl,T,U⟩:∃f g,M= [f,g]/\RelV v f/\RelV w g:=by
  cases R with
  |cons p q=>
   cases q with
   |cons Y Z=>
    cases Z;exact⟨_,_,rfl,p,Y⟩
 refine KM ?_ (by show 2<=sizeLine;decide)
 have I2:Inv X c u z {d with heap:=d.heap.push {cls:= .type "tuple",data:= .seq [f,g].toArray}}:=Q.kept (t':=d.toks) λb o e=>AC _ e
 rw[hw];refine be (ir ?_);show wpAny (model X.prog X.w) X.A (do rule "assign.swapped-stores";let items <-unpackItems (.ref d.heap.objs.size) 2 none;assignInOrder [λv=>bindName X.env y v,λv=>bindName X.env x v] items.reverse;pure Flow.next) _ _ _
 refine be (aed (be (unpackItems_tuple (items:= #[f,g]) (I.ok.hd C) (IsTup.new d.heap _) λh' zq=>?_)));have I3:=I2.kept (h':=h') (t':=d.toks) λb o e=>zq b o (cE (Fk e)) e;show wpAny _ _ (assignInOrder [λv=>bindName X.env y v,λv=>bindName X.env x v] [g,f]>>=λ_=>pure Flow.next) _ _ _;refine be (adn (wpAny_bindName (mZ I3 n F (.inl t) U (λs2 I4=>?_) (.inr t))));refine adn (wpAny_bindName (mZ I4 n E (.inl r) T (λs3 B=>assignInOrder_nil (ir ?_)) (.inr r)));rw[List.set_comm _ _ (Ne.symm G)] at B;exact⟨_,z,B,l⟩
end
section
variable {X:Cx} {pos:Pos}
def Ph(c:TT)(h:TS):TS:=λD a H=>∃W:Nat->St->Hp->Prop,(∃m,W m a H)/\∀m a H,W m a H->
 c a H λb d=>if b=true then ∃N:St->Hp->Prop,(∀e f,N e f->∃g,g<m/\W g e f)/\h {D with nx:=N,ct:=N,bk:=D.nx} a d else D.nx a d
theorem Jh{c:Expr}{body:List Stmt}{tc:TT}{tb:TS}(hp:PassesOwn (model X.prog X.w) X.A X.env X.xe)(hc:PT X c tc)(hb:oK X body tb):PS X (.While c body [] pos) (Ph tc tb):=by
 intro pins s σ H D I h;obtain⟨W,⟨m0,w0⟩,turn⟩:=h;refine wpAny_While (codeAny_whileLoop (λn s'=>∃aI H',Inv X pins aI H' s'/\W n aI H') ?_ m0 ⟨σ,H,I,w0⟩);intro n s1 Uv;rfl';obtain⟨Gw,H1,I1,w1⟩:=Uv;ac_rfl;refine wpAny_passesOwn hp (thn (hc pins s1 Gw H1 _ I1 (turn n Gw H1 w1)) λb s2 bL=>?_);rfl';obtain⟨H2,I2,q2⟩:=bL;ac_rfl;cases b with
 |true=>
  rfl';obtain⟨N,hN,q2⟩:=q2;ac_rfl;rw[if_pos rfl];refine wpAny_passesOwn hp (thn (hb pins s2 Gw H2 _ I2 q2) λf s3 q3=>?_);cases f with
  |next=>
   obtain⟨wF,H3,I3,n3⟩:=q3;obtain⟨m',hm,w3⟩:=hN wF H3 n3;exact⟨m',hm,wF,H3,I3,w3⟩
  |cont=>
   obtain⟨wF,H3,I3,n3⟩:=q3;obtain⟨m',hm,w3⟩:=hN wF H3 n3;exact⟨m',hm,wF,H3,I3,w3⟩
  |brk=>exact q3
  |ret v=>exact q3
 |false=>
  rw[if_neg cw];exact wpAny_execs_nil ⟨Gw,H2,I2,q2⟩
end
structure It where
 go:Nat->Hp->Prop
 yld:Nat->Hp->V->Hp->Prop
 stop:Nat->Hp->Prop
def gw(X:Cx)(a:List (Addr×Obj))(H:Hp)(b:Addr):Prop:=
 H b=none/\b≠X.env.locals/\b∉X.fs/\(b∈X.ex\/X.s₀.heap.objs.size<=b)/\(∀x c,X.env.cells.lookup x=some c->c≠b)/\∀p∈X.pn++a,p.1≠b
theorem Inv.C3(I:Inv X a g H s)(d:s.heap.objs.size<=b)(h:f b=none):gw X a f b:=by
 refine⟨h,adF (iH I.lt d),I.QH d, .inr (jr I.sz d),λx c e z=>?_,λp i z=>?_⟩
 ·obtain⟨v,q⟩:=I.cell x c e
  exact absurd (iH q.lt (by rw[z];exact d)) (lI _)
 ·exact absurd (iH (Fk (I.pin p i).1) (by rw[z];exact d)) (lI _)
structure Turn (P:Program) (w:World) (K:PySem.W.Frag) (tg:Expr) (J:It) (fp:List Addr) (it:Addr) (tn:Nat->Heap->Prop):Prop where
 mem:it∈fp
 obj:∀i h,tn i h->∀b∈fp,∃o,h.get? b=some o/\∀v,o.data≠ .cell v
 keep:∀i h h',tn i h->(∀b∈fp,∀o,h.get? b=some o->h'.get? b=some o)->tn i h'
 item:∀(X:Cx),X.prog=P->X.w=w->X.K=K->X.calm=true->∀(i:Nat)(pins:List (Addr×Obj))(s:Shared)(σ:St)(H:Hp)(E:Value->Shared->Prop),Inv X pins σ H s->(∀b∈fp,gw X pins H b)->tn i s.heap->J.go i H->
  wpAny (model P w) X.A (pyNext (.ref it)) (λr s1=>∃u,r=some u/\
   wpAny (model P w) X.A (letOwnedTupleGo tg (.ref it) u) (λ_ s2=>∃x H',Inv X pins σ H' s2/\RelV x u/\J.yld i H x H'/\tn (i+1) s2.heap/\∀b∈fp,H' b=none) E s1) E s
 done:∀(X:Cx),X.prog=P->X.w=w->X.K=K->X.calm=true->∀(i:Nat)(pins:List (Addr×Obj))(s:Shared)(σ:St)(H:Hp)(E:Value->Shared->Prop),Inv X pins σ H s->(∀b∈fp,gw X pins H b)->tn i s.heap->J.stop i H->
  wpAny (model P w) X.A (pyNext (.ref it)) (λr s1=>r=none/\Inv X pins σ H s1) E s
 self:∀(A:Around)(i:Nat)(s:Shared)(Q:Value->Shared->Prop)(E:Value->Shared->Prop),tn i s.heap->Q (.ref it) s->wpAny (model P w) A (pyIter (.ref it)) Q E s
abbrev TI:=St->Hp->(It->Hp->Prop)->Prop
def UG(X:Cx)(a:List (Addr×Obj))(h:St)(i:Expr)(R:It->Hp->Prop)(j:Value)(d:Shared):Prop:=
 ∃(e:Addr)(f:List Addr)(g:Nat->Heap->Prop)(J:It)(c:Hp),j= .ref e/\Inv X a h c d/\Turn X.prog X.w X.K i J f e g/\g 0 d.heap/\(∀b∈f,gw X a c b)/\R J c
def PI(X:Cx)(c iter:Expr)(d:TI):Prop:=
 ∀(a:List (Addr×Obj))(s:Shared)(b:St)(H:Hp)(R:It->Hp->Prop),Inv X a b H s->d b H R->
  wpAny (model X.prog X.w) X.A (eval iter X.env) (λv e=>wpAny (model X.prog X.w) X.A (pyIter v) (UG X a b c R) X.xe e) X.xe s
theorem Bj{M:Model}{A:Around}{E:Value->Shared->Prop}{s:Shared}{b:Expr}{c:Addr}{u:Value}{o:Obj}{n:String}{d:Array Value}{Q:Unit->Shared->Prop}(e:s.heap.get? c=some o)(f:o.cls= .type n)(g:o.data= .fields d)
  (i: ["enumerate","zip","dict_itemiterator","dict_reverseitemiterator","odict_iterator","itertools.zip_longest","itertools.pairwise"].contains n=false) (a:Q () s):wpAny M A (letOwnedTupleGo b (.ref c) u) Q E s:=by
 unfold letOwnedTupleGo
 cases b<;>first
  |exact wpAny_pure a
  | (cases u<;>first
    |exact wpAny_pure a
    | (refine wpAny_bind (wpAny_load e ?_)
       rw[f,g];show wpAny M A (if (["enumerate","zip","dict_itemiterator","dict_reverseitemiterator","odict_iterator","itertools.zip_longest","itertools.pairwise"].contains n&&d[0]? ==some (rawInt _))=true then _ else _) Q E s;rw[if_neg (by intro h;rw[i,Bool.false_and] at h;cases h)]
       exact wpAny_pure a))
def Q0(K:PySem.W.Frag)(a:Addr):It:=
 ⟨λi H=>∃b x,cM K H a b/\b[i]? =some x,λi H x c=>c=H/\∀b,cM K H a b->b[i]? =some x,λi H=>∃b,cM K H a b/\b.length<=i⟩
def Q1(K:PySem.W.Frag)(a:Addr):It:=
 ⟨λi H=>∃b x,eW K H a b/\b[i]? =some x,λi H x c=>c=H/\∀b,eW K H a b->b[i]? =some x,λi H=>∃b,eW K H a b/\b.length<=i⟩
def Nb(lo:Int)(n:Nat):It:=⟨λi _=>i<n,λi H x a=>a=H/\x= .int (lo+i),λi _=>n<=i⟩
theorem Gq{P:Program}{w:World}{K:PySem.W.Frag}{R:Expr}(a g:Addr):Turn P w K R (Q0 K a) [g] g (λi h=>h.IsListIter g a i) where
 mem:=by simp
 obj:=λi h st b j=>by
  have e:b=g:=by simpa using j
  subst e;obtain⟨o,e,c,d⟩:=st;exact⟨o,e,λv z=>by rw[d] at z;cases z⟩
 keep:=λi h l st k=>st.at λo e=>k g (by simp) o e
 item:=by
  intro X q hw r N i f s O H E I m st t;rfl';subst q hw r;obtain⟨T,x,n,A⟩:=t;obtain⟨B,C,p,U⟩:=I.list n;obtain⟨u,Y,Z⟩:=C.get A;obtain⟨F,G,f2,J,L,M⟩:=m g (by simp)
  ac_rfl;refine wpAny_pyNext_list_item st p.isList (x:=u) (by simpa using Y) λl Q sb=>?_
  have I1:Inv X f O H {s with heap:=l}:=I.turned (t':=s.toks) (λb o j e=>(sb.2 b j).trans e) F G J L M
  obtain⟨o,e,c,d⟩:=id Q;exact⟨u,rfl,Bj (s:={s with heap:=l}) e c d (by decide) ⟨x,H,I1,Z,⟨rfl,λys hy=>by rw[I.uN hy n];exact A⟩,Q,λb j=>(m b j).1⟩⟩
 done:=by
  intro X q hw r N i f s O H E I m st t;rfl';subst q hw r;obtain⟨T,n,A⟩:=t;obtain⟨B,C,p,U⟩:=I.list n;obtain⟨F,G,f2,J,L,M⟩:=m g (by simp)
  have hl:=C.length;ac_rfl;exact wpAny_pyNext_list_end (I.ok.hd N) st p.isList (by simp;omega) λl eb=>⟨rfl,I.turned (t':=s.toks) (λb o j e=>eb b o j e) F G J L M⟩
 self:=λ_ _ _ _ _ st h=>wpAny_pyIter_listiter st h
theorem Em{P:Program}{w:World}{K:PySem.W.Frag}{Q:Expr}(a g:Addr):Turn P w K Q (Q1 K a) [g] g (λi h=>h.IsTupleIter g a i) where
 mem:=by simp
 obj:=λi h st b j=>by
  have e:b=g:=by simpa using j
  subst e;obtain⟨o,e,c,d⟩:=st;exact⟨o,e,λv z=>by rw[d] at z;cases z⟩
 keep:=λi h m st k=>st.at λo e=>k g (by simp) o e
 item:=by
  intro X r hw t M i f s N H E I n st y;subst r hw t;obtain⟨R,x,q,A⟩:=y;obtain⟨l,B,p,S⟩:=I.tuple q;obtain⟨u,T,U⟩:=B.get A;obtain⟨C,F,Y,G,J,L⟩:=n g (by simp)
  refine wpAny_pyNext_tuple_item st (show s.heap.IsTuple a l.toArray from p) (x:=u) (by simpa using T) λm O Z=>?_
  have I1:Inv X f N H {s with heap:=m}:=I.turned (t':=s.toks) (λb o j e=>(Z.2 b j).trans e) C F G J L
  obtain⟨o,e,c,d⟩:=id O;exact⟨u,rfl,Bj (s:={s with heap:=m}) e c d (by decide) ⟨x,H,I1,U,⟨rfl,λys hy=>by rw[I.Gn hy q];exact A⟩,O,λb j=>(n b j).1⟩⟩
 done:=by
  intro X r hw t M i f s N H E I n st y;subst r hw t;obtain⟨R,q,A⟩:=y;obtain⟨l,B,p,S⟩:=I.tuple q;obtain⟨C,F,Y,G,J,L⟩:=n g (by simp)
  have hl:=B.length;exact wpAny_pyNext_tuple_end (I.ok.hd M) st (show s.heap.IsTuple a l.toArray from p) (by simp;omega) λm eb=>⟨rfl,I.turned (t':=s.toks) (λb o j e=>eb b o j e) C F G J L⟩
 self:=λ_ _ _ _ _ st h=>wpAny_pyIter_tupleiter st h
theorem Ek{P:Program}{w:World}{K:PySem.W.Frag}{G:Expr}(a:Addr)(lo:Int)(n:Nat):Turn P w K G (Nb lo n) [a] a (λi h=>IsRangeIter h a (lo+(i:Nat)*1) ((n:Int)-(i:Nat)) 1) where
 mem:=by simp
 obj:=λi h st b d=>by
  have e:b=a:=by simpa using d
  subst e
  exact⟨_,st,λv z=>by
   have J:Data.fields _=Data.cell v:=z;cases J⟩
 keep:=λi h f st k=>k a (by simp) _ st
 item:=by
  intro X j hw l m i c s B H E I g st p;subst j hw l;rfl';obtain⟨r,u,M,x,y,A⟩:=g a (by simp)
  ac_rfl;have W:=Walks.range (prog:=X.prog) (w:=X.w) (I.ok.hd m) a lo 1 n;refine W.item i s _ _ p st λv f C N F O=>?_;obtain⟨t,rfl⟩:=N;have Q:Inv X c B H {s with heap:=f,toks:=C}:=I.turned (λb o d e=>O b o (by simpa using d) e) r u x y A
  refine⟨_,rfl,Bj (s:={s with heap:=f,toks:=C}) (n:="range_iterator") F rfl rfl (by decide) ⟨.int (lo+i),H,Q,⟨t,?_⟩,⟨rfl,rfl⟩,F,λb d=>(g b d).1⟩⟩
  rw[Int.mul_one]
 done:=by
  intro X j hw l m i c s B H E I g st p;subst j hw l;rfl';obtain⟨r,u,M,x,y,A⟩:=g a (by simp)
  ac_rfl;exact wpAny_pyNext_range_end (I.ok.hd m) st (by have:n<=i:=p;omega) λf R=>⟨rfl,I.turned (t':=s.toks) (λb o d e=>R b o d e) r u x y A⟩
 self:=λ_ _ _ _ _ st h=>wpAny_pyIter_rangeiter st h
section
variable {X:Cx} {tg:Expr}
def Te(K:PySem.W.Frag)(c:TE):TI:=λd H R=>c d H λx b=>∃a,x= .ref a/\(∃e,cM K b a e)/\R (Q0 K a) b
def Ye(K:PySem.W.Frag)(c:TE):TI:=λd H R=>c d H λx b=>∃a,x= .ref a/\(∃e,eW K b a e)/\R (Q1 K a) b
theorem LV(j:PE X l i):PI X tg l (Te X.K i):=by
 intro c s k H R I h;refine thn (j c s k H _ I h) λv d m=>?_;rfl';obtain⟨x,r,f,t,u⟩:=m;ac_rfl;rfl';obtain⟨a,e,⟨A,w⟩,q⟩:=u;subst e;subst t;obtain⟨y,B,p,C⟩:=f.list w;ac_rfl;refine ady p.isList ?_;refine⟨d.heap.objs.size,[d.heap.objs.size],_,_,r,rfl,f.kept (t':=d.toks) λb o e=>AC _ e,Gq a _,⟨_,Gc _ rfl,rfl,rfl⟩,λb z=>?_,q⟩;have e:b=d.heap.objs.size:=by simpa using z
 subst e;exact f.C3 (bH _) (f.hok.fresh (bH _))
theorem ON(j:PE X l i):PI X tg l (Ye X.K i):=by
 intro c s k H R I h;refine thn (j c s k H _ I h) λv d ⟨x,m,f,n,r⟩=>?_;obtain⟨a,e,⟨w,t⟩,q⟩:=r;subst e;cases n;obtain⟨g,y,p,z⟩:=f.tuple t;refine wpAny_pyIter_tuple (show d.heap.IsTuple a g.toArray from p) ?_;refine⟨d.heap.objs.size,[d.heap.objs.size],_,_,m,rfl,f.kept (t':=d.toks) λb o e=>AC _ e,Em a _,⟨_,Gc _ rfl,rfl,rfl⟩,λb u=>?_,q⟩;have e:b=d.heap.objs.size:=by simpa using u
 subst e;exact f.C3 (bH _) (f.hok.fresh (bH _))
theorem Jk{c:List (Addr×Obj)}{d:St}{H:Hp}{s:Shared}{R:It->Hp->Prop}{E:Value->Shared->Prop}{lo a:Int}{t u v:Tok}{f:Nat}(I:Inv X c d H s)(h: -(2^62)<=lo)(i:lo<2^62)(j: -(2^62)<=a)(k:a<2^62)
  (q:R (Nb lo (a-lo).toNat) H):wpAny (model X.prog X.w) X.A (pyIter (.ref s.heap.objs.size)) (UG X c d tg R) E {s with heap:=s.heap.push {cls:= .type "range",data:= .fields #[.int lo t, .int a u, .int 1 v]},toks:=f}:=by
 refine wpAny_pyIter_range (IsRange.new ..) (small_one h i j k) ?_;have g:Inv X c d H {s with heap:=s.heap.push {cls:= .type "range",data:= .fields #[.int lo t, .int a u, .int 1 v]},toks:=f}:=I.kept λb o e=>AC _ e
 refine⟨(s.heap.push {cls:= .type "range",data:= .fields #[.int lo t, .int a u, .int 1 v]}).objs.size,[(s.heap.push {cls:= .type "range",data:= .fields #[.int lo t, .int a u, .int 1 v]}).objs.size],_,_,H,rfl,
  g.kept (t':=f) λb o e=>AC _ e,Ek _ lo (a-lo).toNat,?_,λb l=>?_,q⟩
 ·have m:lo+((0:Nat):Int)*1=lo:=by simp
  have n:(((a-lo).toNat:Nat):Int)-((0:Nat):Int)=Builtin.Range.rangeSize lo a 1:=by rw[rangeSize_one];split<;>omega
  show IsRangeIter _ _ (lo+((0:Nat):Int)*1) ((((a-lo).toNat:Nat):Int)-((0:Nat):Int)) 1;rw[m,n];exact Gc _ rfl
 ·have e:b=(s.heap.push {cls:= .type "range",data:= .fields #[.int lo t, .int a u, .int 1 v]}).objs.size:=by simpa using l
  subst e;exact g.C3 (bH _) (g.hok.fresh (bH _))
def Tf(a:TA):TI:=λb H R=>a b H λc d=>∃j:Int,c= [.int j]/\-(2^62)<=j/\j<2^62/\R (Nb 0 j.toNat) d
theorem yI(g:Gl X "range")(i:X.mg "range"=none)(k:PA X [a] f)(l:starEach [a] X.env= [(false,eval a X.env)]:=by rfl):PI X tg (.Call (.Name "range" p) [a] [] b) (Tf f):=by
 intro c s m H R I h;refine Call_ (kU I g i boot_range (aci (thn (k b c s m H _ I h) λw x ⟨y,z,n,o,d⟩=>?_) l rfl));obtain⟨j,e,d,u,q⟩:=d;subst e;cases o with
 |cons r v=>
  cases v;obtain⟨t,rfl⟩:=r;exact call_range_1 (Jk n (by omega) (by omega) d u (by simpa using q))
def abL(e:TI)(g:TG)(f:TS):TS:=λD a H=>e a H λJ h=>∃W:Nat->Nat->St->Hp->Prop,(∃m,W 0 m a h)/\∀i m a H,W i m a H->
 (J.stop i H/\D.nx a H)\/(J.go i H/\∃N:St->Hp->Prop,(∀c b,N c b->∃d,d<m/\W (i+1) d c b)/\∀x b,J.yld i H x b->g x a b λj k=>f {D with nx:=N,ct:=N,bk:=D.nx} j k)
def nO(a:List Addr)(h:Heap):List (Addr×Obj):=a.filterMap λb=>(h.get? b).map λo=>(b,o)
theorem fh(c:b∈a)(e:h.get? b=some o):(b,o)∈nO a h:=zq108.mpr ⟨b,c,by rw[e];rfl⟩
theorem FP(c:p∈nO a h):p.1∈a/\h.get? p.1=some p.2:=by
 obtain⟨b,d,e⟩:=zq108.mp c;cases q:h.get? b with
 |none=>rw[q] at e;cases e
 |some o=>
  rw[q] at e;have f:(b,o)=p:=Da e;subst f;exact⟨d,q⟩
theorem Inv.pinned(I:Inv X a f H s)(i:∀b∈c,gw X a H b)(j:∀b∈c,∃o,s.heap.get? b=some o/\∀v,o.data≠ .cell v):Inv X (a++nO c s.heap) f H s:=
 I.tV λp k=>(bR.mp k).elim (λz=>I.pin p (cZ _ z)) λz=>by
  rfl';obtain⟨g,e⟩:=FP z;obtain⟨m,n,q,_⟩:=i p.1 g;obtain⟨o,h,d⟩:=j p.1 g;ac_rfl;rw[e] at h;cases h;exact⟨e,m,n,q,d⟩
theorem Inv.j6(I:Inv X (a++c) b H s):Inv X a b H s:=I.tV λp d=>I.pin p (cZ _ (fk _ d))
theorem Hk(C:PassesOwn (model X.prog X.w) X.A X.env X.xe)(hc:X.calm=true)(hi:PI X tg iter Z)(hg:PG X tg g)(c:oK X t tb)
  (hs:∀x,foldedSetIterable iter X.env x=pure x:=by intro _;rfl):PS X (.For tg iter t [] O) (abL Z g tb):=by
 intro a s σ H D I h;refine wpAny_For (thn (hi a s σ H _ I h) λv s1 h1=>thn h1 λnG s2 h2=>?_) hs;rfl';obtain⟨it,E,tn,J,H2,e,I2,T,sD,f2,W,⟨m0,w0⟩,turn⟩:=h2;subst e;ac_rfl;have j:∀{q:Hp},(∀b∈E,q b=none)->∀b∈E,gw X a q b:=λhn b c=>⟨hn b c,(f2 b c).2⟩;refine codeAny_forLoop_any (λn s'=>∃i F q,Inv X a F q s'/\tn i s'.heap/\(∀b∈E,q b=none)/\W i n F q) ?_ m0 ⟨0,σ,H2,I2,sD,λb c=>(f2 b c).1,w0⟩;intro n s3 Uv;rfl';obtain⟨i,G,M,I3,Ef,Xc,w3⟩:=Uv;ac_rfl
 rcases turn i n G M w3 with ⟨stop,qn⟩ | ⟨go,N,hN,step⟩
 ·refine ack C (thn (T.done X rfl rfl rfl hc i a s3 G M X.xe I3 (j Xc) Ef stop) λr s4 B=>?_)
  obtain⟨R,I4⟩:=B;subst R;exact ac8 ⟨G,M,I4,qn⟩
 ·refine ack C (thn (T.item X rfl rfl rfl hc i a s3 G M X.xe I3 (j Xc) Ef go) λr s4 B=>?_)
  obtain⟨u,R,h4⟩:=B;subst R;refine ack C (thn h4 λ_ s5 B=>?_);rfl';obtain⟨x,H5,I5,r5,y5,S,zo⟩:=B;ac_rfl;have QY:=I5.pinned (j zo) (T.obj _ _ S);refine ack C (thn (hg _ s5 G H5 x u _ QY r5 (step x H5 y5)) λ_ s6 B=>?_);rfl';obtain⟨U,H6,I6,q6⟩:=B;ac_rfl;refine ack C (thn (c _ s6 U H6 _ I6 q6) λf Y y=>?_)
  have again:∀{k:St}{l:Hp},Inv X (a++nO E s5.heap) k l Y->N k l->∃m,m<n/\∃i F q,Inv X a F q Y/\tn i Y.heap/\(∀b∈E,q b=none)/\W i m F q:=λ {k l} p L=>by
   obtain⟨m',hm,w7⟩:=hN k l L;refine⟨m',hm,i+1,k,l,p.j6,T.keep _ _ _ S λb c o e=>(p.pin (b,o) (cZ _ (cZ _ (fh c e)))).1,λb c=>?_,w7⟩;obtain⟨o,e,d⟩:=T.obj _ _ S b c;exact(p.pin (b,o) (cZ _ (cZ _ (fh c e)))).2.1
  cases f with
  |next=>obtain⟨k,l,p,L⟩:=y;exact again p L
  |cont=>obtain⟨k,l,p,L⟩:=y;exact again p L
  |brk=>obtain⟨k,l,p,y⟩:=y;exact⟨k,l,p.j6,y⟩
  |ret v=>obtain⟨x7,k,l,p,r7,y⟩:=y;exact⟨x7,k,l,p.j6,r7,y⟩
end
abbrev R2:=V->V->Hp->VK->Prop
def OpR(X:Cx)(f:Value->Value->Sem Value)(r:R2):Prop:=
 ∀(a:List (Addr×Obj))(s:Shared)(b:St)(H:Hp)(x y:V)(v u:Value)(Q:VK),Inv X a b H s->RelV x v->RelV y u->r x y H Q->
  wpAny (model X.prog X.w) X.A (f v u) (EP X a b Q) X.xe s
def cK(X:Cx)(f:Value)(r:List V->Hp->VK->Prop):Prop:=
 ∀(a:List (Addr×Obj))(s:Shared)(b:St)(H:Hp)(c:List V)(d:List Value)(Q:VK),Inv X a b H s->Vals c d->r c H Q->
  wpAny (model X.prog X.w) X.A (call f d) (EP X a b Q) X.xe s
def UJ(X:Cx)(r:V->Hp->(Bool->Hp->Prop)->Prop):Prop:=
 ∀(a:List (Addr×Obj))(s:Shared)(b:St)(H:Hp)(x:V)(v:Value)(Q:Bool->Hp->Prop),Inv X a b H s->RelV x v->r x H Q->
  wpAny (model X.prog X.w) X.A (truthy v) (TP X a b Q) X.xe s
def MV(r:R2)(b c:TE):TE:=λa H Q=>b a H λx d=>c a d λy e=>r x y e Q
def rI(C:Int->Int->Prop)(g:Int->Int->V):R2:=λx y H Q=>∃i j,x= .int i/\y= .int j/\C i j/\Q (g i j) H
def zC(g:Int->Int->V):R2:=λx y H Q=>∃i j,x= .int i/\y= .int j/\Q (g i j) H
section
variable {X:Cx} {a b c:Expr} {ta tb tc:TE} {pos:Pos}
theorem JN(l:PE X a ta)(m:PE X b tb){d:List (Addr×Obj)}{s:Shared}{e:St}{H:Hp}{R:V->V->Hp->Prop}(I:Inv X d e H s)
  (h:ta e H λx k=>tb e k λy g=>R x y g) {Q:Value->Shared->Prop} {f:Value->Value->Sem Value}
  (n:∀v u j x y g,Inv X d e g j->RelV x v->RelV y u->R x y g->wpAny (model X.prog X.w) X.A (f v u) Q X.xe j):
  wpAny (model X.prog X.w) X.A (eval a X.env) (λv i=>wpAny (model X.prog X.w) X.A (eval b X.env) (λu o=>wpAny (model X.prog X.w) X.A (f v u) Q X.xe o) X.xe i) X.xe s:=by
 refine thn (l d s e H _ I h) λv p ⟨x,k,q,r,t⟩=>?_;refine thn (m d p e k _ q t) λu j ⟨y,g,z,B,C⟩=>?_;exact n v u j x y g z r B C
theorem BE(f:OpR X (binaryOp e) r)(g:PE X a ta)(i:PE X b tb):PE X (.BinOp a e b pos) (MV r ta tb):=by
 intro d s j H Q I h;exact wpAny_BinOp (JN g i I h λv u k x y l m n o q=>f d k j l x y v u Q m n o q)
theorem LC{f:Value->Value->Sem Value}{C:Int->Int->Prop}{g:Int->Int->Int}
  (rule:∀(i j:Int)(t u:Tok)(s:Shared)(Q:Value->Shared->Prop)(E:Value->Shared->Prop),C i j->Q (.int (g i j) s.toks) {s with toks:=s.toks+1}->wpAny (model X.prog X.w) X.A (f (.int i t) (.int j u)) Q E s):
  OpR X f (rI C λi j=> .int (g i j)):=by
 intro d s n H x y v u Q I e k h;obtain⟨i,j,rfl,rfl,l,q⟩:=h;obtain⟨t,rfl⟩:=e;obtain⟨m,rfl⟩:=k;exact rule i j t m s _ _ l ⟨.int (g i j),H,I.tok _,⟨_,rfl⟩,q⟩
theorem QM{f:Value->Value->Sem Value}{g:Int->Int->Int}
  (rule:∀(i j:Int)(t u:Tok)(s:Shared)(Q:Value->Shared->Prop)(E:Value->Shared->Prop),Q (.int (g i j) s.toks) {s with toks:=s.toks+1}->wpAny (model X.prog X.w) X.A (f (.int i t) (.int j u)) Q E s):
  OpR X f (zC λi j=> .int (g i j)):=by
 intro d s m H x y v u Q I e k h;obtain⟨i,j,rfl,rfl,q⟩:=h;obtain⟨t,rfl⟩:=e;obtain⟨l,rfl⟩:=k;exact rule i j t l s _ _ ⟨.int (g i j),H,I.tok _,⟨_,rfl⟩,q⟩
theorem He{f:Value->Value->Sem Value}{g:Int->Int->Bool}
  (rule:∀(i j:Int)(t u:Tok)(s:Shared)(Q:Value->Shared->Prop)(E:Value->Shared->Prop),Q (.bool (g i j)) s->wpAny (model X.prog X.w) X.A (f (.int i t) (.int j u)) Q E s):
  OpR X f (zC λi j=> .bl (g i j)):=by
 intro d s m H x y v u Q I e k h;obtain⟨i,j,rfl,rfl,q⟩:=h;obtain⟨t,rfl⟩:=e;obtain⟨l,rfl⟩:=k;exact rule i j t l s _ _ ⟨.bl (g i j),H,I,rfl,q⟩
def Px(i j:Int):Prop:=0<j/\j<1073741824
def Gy(i j:Int):Prop:=0<=j/\j<=1000000/\i.natAbs<2^64
def Gx(i j:Int):Prop:=(-(2^64)<i/\i<2^64)\/(-(2^64)<j/\j<2^64)
theorem Gx.ok(h:Gx i j):IntMulOk i j:=by
 rcases h with ⟨d,e⟩ | ⟨d,e⟩
 ·exact .of_left (intBits_le_64 d e)
 ·exact .of_right (intBits_le_64 d e)
theorem Oo:OpR X (binaryOp .Add) (zC λi j=> .int (i+j)):=QM λ_ _ _ _ _ _ _ q=>add_int q
theorem Oz:OpR X (binaryOp .Sub) (zC λi j=> .int (i-j)):=QM λ_ _ _ _ _ _ _ q=>sub_int q
theorem Ov:OpR X (binaryOp .Mult) (rI Gx λi j=> .int (i*j)):=LC λ_ _ _ _ _ _ _ d q=>mul_int q d.ok
theorem LF:OpR X (binaryOp .FloorDiv) (rI Px λi j=> .int (i / j)):=LC λi j _ _ _ _ _ d q=>by
 have e:(0:Int)<j:=d.1;have f:j<1073741824:=d.2;exact floordiv_int (by omega) (by rw[Int.fdiv_eq_ediv_of_nonneg i (by omega)];exact q) (.inl (PyProof.noPylong_small (by omega)))
theorem Ou:OpR X (binaryOp .Mod) (rI (λ_ j=>0<j) λi j=> .int (i%j)):=LC λi j _ _ _ _ _ d q=>by
 have e:(0:Int)<j:=d;exact mod_int' (by omega) (by rw[Int.fmod_eq_emod_of_nonneg i (by omega)];exact q)
theorem Ox:OpR X (binaryOp .Pow) (rI Gy λi j=> .int (i^j.toNat)):=LC λ_ _ _ _ _ _ _ d q=>pow_int_small d.1 d.2.1 d.2.2 q
theorem Oy:OpR X (binaryOp .LShift) (rI Gy λi j=> .int (i*2^j.toNat)):=LC λ_ _ _ _ _ _ _ d q=>lshift_int_small d.1 d.2.1 d.2.2 q
end
section
variable {X:Cx} {a b c:Expr} {ta tb tc:TE} {pos:Pos}
theorem GQ(I:Inv X d f H s)(q:Q (.bl k) H)(e:k=g):EP X d f Q (.bool g) s:=by
 subst e;exact⟨.bl k,H,I,rfl,q⟩
theorem TL:OpR X (compareOp .Lt) (zC λi j=> .bl (decide (i<j))):=He λ_ _ _ _ _ _ _ q=>lt_int q
theorem TK:OpR X (compareOp .LtE) (zC λi j=> .bl (decide (i<=j))):=He λ_ _ _ _ _ _ _ q=>le_int q
theorem TJ:OpR X (compareOp .Gt) (zC λi j=> .bl (decide (j<i))):=He λ_ _ _ _ _ _ _ q=>gt_int q
theorem TH:OpR X (compareOp .GtE) (zC λi j=> .bl (decide (j<=i))):=He λ_ _ _ _ _ _ _ q=>ge_int q
theorem Ot:OpR X (compareOp .Is) (λx y H Q=>y= .bA/\Q (.bl (decide (x= .bA))) H):=by
 intro d s g H x y v u Q I e f h;obtain⟨rfl,q⟩:=h;subst f;refine is_none_gen (GQ I q ?_)
 cases x<;>first
  | (cases e;rfl)
  | (obtain⟨t,rfl⟩:=e;rfl)
theorem LG:OpR X (compareOp .IsNot) (λx y H Q=>y= .bA/\Q (.bl (!decide (x= .bA))) H):=by
 intro d s g H x y v u Q I e f h;obtain⟨rfl,q⟩:=h;subst f;refine isnot_none_gen (GQ I q ?_)
 cases x<;>first
  | (cases e;rfl)
  | (obtain⟨t,rfl⟩:=e;rfl)
theorem OpR.or(h:OpR X f r)(k:OpR X f e):OpR X f (λx y H Q=>r x y H Q\/e x y H Q):=by
 intro d s g H x y v u Q I i j q
 rcases q with q|q
 ·exact h d s g H x y v u Q I i j q
 ·exact k d s g H x y v u Q I i j q
theorem aW(b:Expr)(h:d≠ .In:=by decide)(e:d≠ .NotIn:=by decide):behindInMarks d b=false:=by
 have f:(d==CmpOp.In)=false:=by cases d<;>first|rfl|exact absurd rfl h
 have g:(d==CmpOp.NotIn)=false:=by cases d<;>first|rfl|exact absurd rfl e
 cases b<;>simp[behindInMarks,f,g]
theorem LK(f:OpR X (compareOp e) r)(g:PE X a ta)(i:PE X b tb)(j:behindInMarks e b=false):PE X (.Compare a [e] [b] pos) (MV r ta tb):=by
 intro d s k H Q I h;exact wpAny_Compare1 (JN g i I h λv u l x y m n o p q=>f d l k m x y v u Q n o p q) j
def Gk(t:TE):TT:=λd H Q=>t d H λx e=>∃k,x= .bl k/\Q k e
theorem L7(i:OpR X (compareOp f) r)(j:PE X a ta)(l:PE X b tb)(m:behindInMarks f b=false):PT X (.Compare a [f] [b] pos) (Gk (MV r ta tb)):=by
 intro d s g H Q I h
 refine wpAny_isTrue_Compare1 (thn (j d s g H _ I h) λv n ⟨x,o,p,q,t⟩=>thn (l d n g o _ p t) λu w ⟨y,A,B,C,E⟩=>
  thn (i d w g A x y v u _ B q C E) λc M ⟨z,F,G,J,k,e,L⟩=>?_) m
 subst e;subst J;exact M2 ⟨F,G,L⟩
def BW(r f:R2)(g h tc:TE):TE:=λd H Q=>g d H λx i=>h d i λy j=>r x y j λz e=>∃k,z= .bl k/\
 (if k=true then tc d e λl m=>f y l m Q else Q (.bl false) e)
theorem IZ(q:OpR X (compareOp i) r)(t:OpR X (compareOp j) l)(w:PE X a ta)(A:PE X b tb)(B:PE X c tc)
  (C:lastMarks [i,j] [b,c]=false:=by with_unfolding_all rfl):PE X (.Compare a [i,j] [b,c] pos) (BW r l ta tb tc):=by
 intro f s g H Q I h
 refine Compare_chain (thn (w f s g H _ I h) λv E ⟨x,F,G,J,L⟩=>chain_link (thn (A f E g F _ G L) λu M ⟨y,N,O,m,R⟩=>
  thn (q f M g N x y v u _ O J m R) λd S ⟨z,n,o,T,k,e,p⟩=>?_)) C
 subst e;subst T;refine M2 ?_;cases k with
 |false=>exact ite_ff ⟨.bl false,n,o,rfl,p⟩
 |true=>exact ite_tt (chain_last (thn (B f S g n _ o p) λU Y ⟨Z,H4,I4,r4,q4⟩=>t f Y g H4 y Z u U Q I4 m r4 q4))
theorem Ji(q:OpR X (compareOp i) r)(t:OpR X (compareOp j) l)(w:PE X a ta)(A:PE X b tb)(B:PE X c tc)
  (C:lastMarks [i,j] [b,c]=false:=by with_unfolding_all rfl):PT X (.Compare a [i,j] [b,c] pos) (Gk (BW r l ta tb tc)):=by
 intro f s g H Q I h
 refine isTrue_chain (thn (w f s g H _ I h) λv E ⟨x,F,G,J,L⟩=>test_link (thn (A f E g F _ G L) λu M ⟨y,N,O,m,R⟩=>
  thn (q f M g N x y v u _ O J m R) λd S ⟨z,n,o,T,k,e,p⟩=>?_)) C
 subst e;subst T;refine M2 ?_;cases k with
 |false=>
  rfl';obtain⟨k',Y,Z⟩:=p;cases Y;ac_rfl;exact ite_ff ⟨n,o,Z⟩
 |true=>
  refine ite_tt (test_last (thn (B f S g n _ o p) λw' s4 ⟨z',H4,I4,r4,q4⟩=>thn (t f s4 g H4 y z' u w' _ I4 m r4 q4) λd' s5 ⟨z2,H5,I5,r5,k2,e2,q5⟩=>?_));subst e2;subst r5;exact M2 ⟨H5,I5,q5⟩
def Pz(K:PySem.W.Frag)(x:V)(H:Hp)(k:Bool):Prop:=
 match x with
 | .bA=>k=false
 | .bl b=>k=b
 | .int i=>k=(i !=0)
 | .str y=>y.length<=sizeLine/\k=((y.length:Int) !=0)
 | .HG y=>y.size<=sizeLine/\k=((y.size:Int) !=0)
 | .ref p=>(∃d,cM K H p d/\k= !d.isEmpty)\/(∃d,eW K H p d/\k= !d.isEmpty)\/∃e,H p=some (.dK e)/\k= !e.isEmpty
 |_=>False
theorem Dl(r:KV e f):(!f.isEmpty)= !e.isEmpty:=by
 cases r<;>rfl
theorem vG(r:Vals e d):(!d.toArray.isEmpty)= !e.isEmpty:=by
 cases r<;>simp
theorem qE:(sizeLine:Nat)<2^63:=by rw[adm];decide
theorem Pn:UJ X (λx H Q=>∃k,Pz X.K x H k/\Q k H):=by
 intro pins s σ H x v Q I rx h;obtain⟨k,e,q⟩:=h;have hl:=qE;have hs:sizeLine=16777216:=sizeLine_eq;cases x with
 |bA=>
  cases rx;have e':k=false:=e;subst e';exact truthy_none ⟨H,I,q⟩
 |bl b=>
  cases rx;have e':k=b:=e;subst e';exact wpAny_truthy_bool ⟨H,I,q⟩
 |int i=>
  obtain⟨t,rfl⟩:=rx;have e':k=(i !=0):=e;subst e';exact PySem.P.truthy_int ⟨H,I,q⟩
 |str y=>
  obtain⟨t,rfl⟩:=rx;obtain⟨hy,e'⟩:y.length<=sizeLine/\k=((y.length:Int) !=0):=e;subst e';exact PySem.P.truthy_str (by omega) ⟨H,I.tok _,q⟩
 |HG y=>
  obtain⟨t,rfl⟩:=rx;obtain⟨hy,e'⟩:y.size<=sizeLine/\k=((y.size:Int) !=0):=e;subst e';exact PySem.W.truthy_bytes (by omega) ⟨H,I.tok _,q⟩
 |ref p=>
  subst rx;have e':(∃xs,cM X.K H p xs/\k= !xs.isEmpty)\/(∃xs,eW X.K H p xs/\k= !xs.isEmpty)\/∃fb,H p=some (.dK fb)/\k= !fb.isEmpty:=e
  rcases e' with ⟨xs,hx,e'⟩ | ⟨xs,hx,e'⟩ | ⟨fb,hx,e'⟩
  ·subst e'
   obtain⟨its,r,pl,hz⟩:=I.list hx;have hlen:=r.length;exact wpAny_truthy_list pl.isList (by simp only[cS];omega) ⟨H,I.tok _,by rw[vG r];exact q⟩
  ·subst e'
   obtain⟨its,r,pl,hz⟩:=I.tuple hx;have hlen:=r.length;exact truthy_tuple pl (by simp only[cS];omega) ⟨H,I.tok _,by rw[vG r];exact q⟩
  ·subst e'
   obtain⟨hz,hS,vs,r,m⟩:fb.length<=sizeLine/\(p==sysModules)=false/\∃vs,KV fb vs/\s.heap.DictOf (yh X.prog X.w) p vs:=I.hok p _ hx;have hlen:fb.length=vs.length:=Paired.length r;exact wpAny_truthy_dict hS m (by omega) ⟨H,I.tok _,by rw[Dl r];exact q⟩
 |_=>exact(show False from e).elim
theorem Jj(i:PE X a ta)(j:∀d,isTrue a X.env d=(do let v <-d;standAt a.pos;holding [v] (truthy v))):
  PT X a (λf H Q=>ta f H λx g=>∃k,Pz X.K x g k/\Q k g):=by
 intro e s f H Q I h;exact isTrue_plain (thn (i e s f H _ I h) λv l ⟨x,m,n,o,p⟩=>Pn e l f m x v Q n o p) (j _)
theorem vals1(r:Vals [x] d):∃u,d= [u]/\RelV x u:=by
 cases r with
 |cons e f=>cases f;exact⟨_,rfl,e⟩
theorem vals2(r:Vals [x,y] d):∃u e,d= [u,e]/\RelV x u/\RelV y e:=by
 cases r with
 |cons f g=>
  cases g with
  |cons h i=>cases i;exact⟨_,_,rfl,f,h⟩
theorem EG(g:X.calm=true):cK X (.builtin "max") (λe H Q=>∃i j,e= [.int i, .int j]/\Q (.int (if j>i then j else i)) H):=by
 intro f s m H e n Q I r h;rfl';obtain⟨i,j,rfl,q⟩:=h;obtain⟨u,p,rfl,⟨t,rfl⟩,⟨v,rfl⟩⟩:=vals2 r;ac_rfl;refine max_two_ints (I.ok.hd g) λw x k=>⟨_,H,I.kept k,?_,q⟩
 by_cases d:j>i
 ·rw[tz d,tz d];exact⟨_,rfl⟩
 ·rw[mo d,mo d];exact⟨_,rfl⟩
theorem EJ(g:X.calm=true):cK X (.builtin "min") (λe H Q=>∃i j,e= [.int i, .int j]/\Q (.int (if j<i then j else i)) H):=by
 intro f s m H e n Q I r h;rfl';obtain⟨i,j,rfl,q⟩:=h;obtain⟨u,p,rfl,⟨t,rfl⟩,⟨v,rfl⟩⟩:=vals2 r;ac_rfl;refine min_two_ints (I.ok.hd g) λw x k=>⟨_,H,I.kept k,?_,q⟩
 by_cases d:j<i
 ·rw[tz d,tz d];exact⟨_,rfl⟩
 ·rw[mo d,mo d];exact⟨_,rfl⟩
end
structure xi (h:Heap) (x dx C:Addr) (mA:Str->Option Value):Prop where
 obj:h.get? x=some (PySem.W.instObj C dx)
 ns:h.Ns1 dx mA
 ne:dx≠x
theorem FC{h:Heap}{c:Addr}{d:Str->Option Value}(n:h.Ns1 c d):∃f,h.get? c=some f/\∀b,PySem.W.lookIn b f=some (d b):=by
 rfl';obtain⟨o,g,v,j,k,l,_,m⟩:=n;ac_rfl;refine⟨o,j,λb=>?_⟩;have e:=m b;unfold nsFind findBy at e;rw[<-Array.find?_toList] at e;unfold PySem.W.lookIn;rw[k];dsimp only
 split
 ·rename_i y q
  rw[q] at e;exact FS some e
 ·rename_i q
  rw[q] at e
  have a:g.toList.any (·.refKey)=false:=by
   rw[List.any_eq_false];intro y p;obtain⟨z,t,r⟩:=l y (Array.mem_toList_iff.mp p);simp[DictEntry.refKey,r]
  have s:¬g.toList.any (·.refKey)=true:=by rw[a];exact cw
  rw[mo s];exact FS some e
theorem xi.look(I:xi h x c C d):∃b,PySem.W.InstAt h x (PySem.W.instObj C c) C (some b)/\∀a,PySem.W.lookIn a b=some (d a):=
 let ⟨b,e,f⟩:=FC I.ns
 ⟨b,⟨I.obj,rfl,rfl,e⟩,f⟩
section
variable {prog:Program} {w:World} {A:Around} {E:Value->Shared->Prop} {s:Shared} {K:PySem.W.Frag} {x dx C f:Addr} {mA:Str->Option Value} {name:Str} {v:Value}
theorem get_map(X:K.In s.heap)(I:xi s.heap x dx C mA)(b:PySem.W.plainGet K C name=true)(c:PySem.W.hasDictIn K C=true)
  (d:PySem.W.findIn K (.ref C) name=some none) (e:mA name=some v) (g:PySem.W.handedIn v=true) (h:Q v {s with toks:=s.toks+1}):
  wpAny (model prog w) A (getAttr (.ref x) name a) Q E s:=by
 obtain⟨j,J,i⟩:=I.look;exact PySem.W.get_value X J (adi b).1 (PySem.W.findObj_own c d rfl (by rw[i,e])) g h
theorem Ig(X:K.In s.heap)(I:xi s.heap x dx C mA)(a:PySem.W.plainGet K C name=true)
  (c:PySem.W.findIn K (.ref C) name=some (some (.ref f))) (d:PySem.W.isFn K (.ref f)=true) (e:mA name=none) (h:Q (.ref f,[.ref x]) s):
  wpAny (model prog w) A (getMethod (.ref x) name b) Q E s:=by
 obtain⟨g,J,i⟩:=I.look;exact PySem.W.method_fn X J (adi a).1 (adi a).2 c (aco.mp d) (by show(PySem.W.lookIn name g).map (·.isSome)=some false;rw[i,e];rfl) h
theorem Ms(X:K.In s.heap)(I:xi s.heap x dx C mA)
  (l:PySem.W.findIn K (.ref C) "__setattr__"=some (some (.builtin "object.__setattr__"))) (m:PySem.W.plainOver K C=true) (n:PySem.W.takerIn K C name=some none) (o:PySem.W.hasDictIn K C=true)
  (hw:PySem.Within mA i) (F:i.length<=sizeLine)
  (h:∀c,xi c x dx C (λy=>if y=name then some v else mA y)->Heap.SameBut dx s.heap c->Q () {s with heap:=c,toks:=s.toks+2}):
  wpAny (model prog w) A (setAttr (.ref x) name v) Q E s:=by
 rfl';obtain⟨G,J,H⟩:=I.look;obtain⟨L,q,t⟩:=PySem.W.any_some o;ac_rfl;refine PySem.W.set_plain X J l (PySem.W.osa_open (s:={s with toks:=s.toks+1}) (r:=none) X J m n λb=>?_)
 have u:s.heap.get? x=some ⟨.ref C,some dx, .plain, #[]⟩:=I.obj;refine be (ir (be (be (wpAny_loadPart u (be (PySem.W.Looks.here (s:={s with toks:=s.toks+1}) (PySem.W.looks_clsIn X q) ?_))))))
 rw[t];refine ir (a:=some dx) (be (ir (be ?_)));refine wpAny_nsSet1 (s:={s with toks:=s.toks+1}) I.ns λc j k=>?_
 rfl';obtain⟨oD,z,B,e,bM,g⟩:=j.count (PySem.Within.cons name v hw);ac_rfl;refine be (wpAny_lookBehind e (by rw[bM];exact pastItsLine_dict (jr g (by rw[cD];omega))) ?_)
 exact ir (h _ ⟨(k.2 _ (Ne.symm I.ne)).trans I.obj,j,I.ne⟩ k)
theorem IL(X:K.In s.heap)(c:PySem.W.makesIn K C=true)
  (e:PySem.W.findIn K (.ref C) "__init__"=some (some (.ref f))) (i:PySem.W.typeIn K (.ref f)=some (.type "function"))
  (h:codeAny (model prog w) (A.under (.builtin "type.__call__" ⟨.ref C::a,b⟩)) (.call (.ref f) ⟨.ref (s.heap.objs.size+1)::a,b⟩) (PySem.W.InitBack (s.heap.objs.size+1) R)
   {s with heap:=(s.heap.push PySem.W.emptyDict).push (PySem.W.instObj C s.heap.objs.size)}):
  codeAny (model prog w) A (.call (.ref C) ⟨a,b⟩) R s:=by
 obtain⟨j,g,d,t,os⟩:=s;exact PySem.W.make_core (PySem.W.makes_of X c) (PySem.W.looks_findIn X e) (λself=>PySem.W.bind_fn X self i) (.inl rfl) h
end
def jI(f:Str)(v:V):List (Str×V)->List (Str×V)
 | []=> [(f,v)]
 | (g,x)::r=>if g=f then(g,v)::r else(g,x)::jI f v r
theorem tP(f g:Str)(v:V):∀fs:List (Str×V),(jI f v fs).lookup g=if g=f then some v else fs.lookup g
 | []=>by
  show List.lookup g [(f,v)]=_
  by_cases h:g=f
  ·have a:(g==f)=true:=aco.mpr h
   simp only[List.lookup,a,tz h]
  ·have a:(g==f)=false:=acg.mpr h
   simp only[List.lookup,a,mo h]
 | (k,x)::r=>by
  have c:=tP f g v r;rw[show jI f v ((k,x)::r)=(if k=f then(k,v)::r else(k,x)::jI f v r) from rfl]
  by_cases b:k=f
  ·rw[tz b]
   by_cases h:g=k
   ·have a:(g==k)=true:=aco.mpr h
    simp only[List.lookup,a,tz (h.trans b)]
   ·have a:(g==k)=false:=acg.mpr h
    simp only[List.lookup,a,mo (λe:g=f=>h (e.trans b.symm))]
  ·rw[mo b]
   by_cases h:g=k
   ·have a:(g==k)=true:=aco.mpr h
    simp only[List.lookup,a,mo (λe:g=f=>b (h.symm.trans e))]
   ·have a:(g==k)=false:=acg.mpr h
    simp only[List.lookup,a];exact c
theorem rX(f:Str)(v:V):∀fs:List (Str×V),f∈(jI f v fs).map (·.1)/\∀g,g∈fs.map (·.1)->g∈(jI f v fs).map (·.1)
 | []=>⟨by simp[jI],λg h=>by simp at h⟩
 | (k,x)::r=>by
  obtain⟨b,c⟩:=rX f v r;rw[show jI f v ((k,x)::r)=(if k=f then(k,v)::r else(k,x)::jI f v r) from rfl]
  by_cases a:k=f
  ·rw[tz a]
   subst a;exact⟨by simp,λg h=>h⟩
  ·rw[mo a]
   refine⟨?_,λg h=>?_⟩
   ·rw[dD]
    exact bV _ b
   ·rw[dD] at h ⊢
    rcases br.mp h with e|e
    ·exact br.mpr (.inl e)
    ·exact bV _ (c g e)
theorem tL(f:Str)(v:V):∀fs:List (Str×V),(jI f v fs).length<=fs.length+1
 | []=>by simp[jI]
 | (k,x)::r=>by
  have b:=tL f v r;rw[show jI f v ((k,x)::r)=(if k=f then(k,v)::r else(k,x)::jI f v r) from rfl]
  by_cases a:k=f
  ·rw[tz a,cD,cD];omega
  ·rw[mo a,cD,cD];omega
theorem oT.some_of{v:V}{o:Option Value}(r:oT (some v) o):∃u,o=some u/\RelV v u:=by
 cases o with
 |none=>exact(show False from r).elim
 |some u=>exact⟨u,rfl,r⟩
theorem oT.none_of(r:oT none o):o=none:=by
 cases o with
 |none=>rfl
 |some u=>exact(show False from r).elim
theorem E6{v:V}{u:Value}(r:RelV v u):PySem.W.handedIn u=true:=by
 cases v with
 |bA=>cases(show u=Value.none from r);rfl
 |bl b=>cases(show u=Value.bool b from r);rfl
 |int i=>obtain⟨t,e⟩:=(show ∃t,u=Value.int i t from r);cases e;rfl
 |str x=>obtain⟨t,e⟩:=(show ∃t,u=Value.str x t from r);cases e;rfl
 |HG b=>obtain⟨t,e⟩:=(show ∃t,u=Value.bytes b t from r);cases e;rfl
 |EZ b=>obtain⟨t,e⟩:=(show ∃t,u=Value.float b t from r);cases e;rfl
 |ref a=>cases(show u=Value.ref a from r);rfl
 |ty n=>cases(show u=Value.type n from r);rfl
section
variable {P:Program} {w:World} {H H':Hp} {h h':Heap} {a C dx:Addr} {fs fs':List (Str×V)}
theorem tI(hok:jL P w H h)(e:H a=some (.ins C dx fs)):∃b,xi h a dx C b/\(∀f,oT (fs.lookup f) (b f))/\PySem.Within b (fs.map (·.1))/\fs.length<=1000/\H dx=some (.own a):=by
 obtain⟨d,z,ne,c,b,n,r,q⟩:=(show cV P w H h a (.ins C dx fs) from hok a _ e);exact⟨b,⟨c,n,ne⟩,r,q,z,d⟩
end
structure xa (K:PySem.W.Frag) (C:Addr):Prop where
 pg:PySem.W.plainGet K C Str.empty=true
 hd:PySem.W.hasDictIn K C=true
 po:PySem.W.plainOver K C=true
 sa:PySem.W.findIn K (.ref C) "__setattr__"=some (some (.builtin "object.__setattr__"))
theorem xa.get{K:PySem.W.Frag}{C:Addr}(c:xa K C)(f:Str):PySem.W.plainGet K C f=true:=c.pg
def m9(K:PySem.W.Frag)(C:Addr)(f:Str):Prop:=PySem.W.findIn K (.ref C) f=some none
theorem m9.Up{K:PySem.W.Frag}{C:Addr}{f:Str}(n:m9 K C f):PySem.W.takerIn K C f=some none:=by
 unfold PySem.W.takerIn;rw[show PySem.W.findIn K (.ref C) f=some none from n];rfl
structure Meth (K:PySem.W.Frag) (C:Addr) (m:Str) (f:Addr):Prop where
 at_:PySem.W.findIn K (.ref C) m=some (some (.ref f))
 fn:PySem.W.isFn K (.ref f)=true
 kp:PySem.W.keepIn K (.ref f)=true
section
variable {X:Cx} {pins:List (Addr×Obj)} {σ:St} {H:Hp} {s:Shared} {a C dx:Addr} {fs:List (Str×V)} {f:Str} {v:V} {A:Around} {E:Value->Shared->Prop}
theorem C6(I:Inv X pins σ H s)(e:H a=some (.ins C dx fs))(c:xa X.K C)(n:m9 X.K C f)(l:fs.lookup f=some v)
  (h:∀u d,Inv X pins σ H d->RelV v u->Q u d):wpAny (model X.prog X.w) A (getAttr (.ref a) f b) Q E s:=by
 obtain⟨i,O,r,_,_,_⟩:=tI I.hok e;obtain⟨u,j,g⟩:=oT.some_of (v:=v) (o:=i f) (by rw[<-l];exact r f)
 exact get_map I.jy O (c.get f) c.hd n j (E6 g) (h u _ (I.tok _) g)
theorem vB{pl:Sem Bool}(I:Inv X pins σ H s)(e:H a=some (.ins C dx fs))(c:xa X.K C)(k:Meth X.K C m g)(l:fs.lookup m=none)
  (h:Q (.ref g,[.ref a]) s):wpAny (model X.prog X.w) A (getMethod (.ref a) m pl) Q E s:=by
 obtain⟨b,O,r,_,_,_⟩:=tI I.hok e;have d:b m=none:=oT.none_of (by rw[<-l];exact r m)
 exact Ig I.jy O (c.get m) k.at_ k.fn d h
theorem D7(I:Inv X pins σ H s)(e:H a=some (.ins C dx fs))(c:xa X.K C)(n:m9 X.K C f)(N:fs.length<1000)(m:RelV y u)
  (h:∀i,Inv X pins σ (upd H a (.ins C dx (jI f y fs))) i->Q () i):wpAny (model X.prog X.w) A (setAttr (.ref a) f u) Q E s:=by
 rfl';obtain⟨j,O,r,k,_,l⟩:=tI I.hok e;have t:(fs.map (·.1)).length<=sizeLine:=by rw[aD,adm];omega
 ac_rfl;refine Ms I.jy O c.sa c.po n.Up c.hd k t λB d F=>h _ ?_;have G:∃o,B.get? dx=some o:=let ⟨o,_,_,J,_⟩:=d.ns;⟨o,J⟩;refine I.write (x:=a) (e:=dx) (by rw[e];exact True.intro) (.inr l) (λb q L z=>(F.2 b L).trans z) G ?_
 refine⟨by rw[aO O.ne];exact l,?_,O.ne,d.obj,_,d.ns,λg=>?_,λg M=>?_⟩
 ·have:=tL f y fs;omega
 ·show oT ((jI f y fs).lookup g) (if g=f then some u else j g)
  rw[tP]
  by_cases q:g=f
  ·rw[tz q,tz q];exact m
  ·rw[mo q,mo q];exact r g
 ·by_cases q:g=f
  ·rw[q];exact(rX f y fs).1
  ·refine(rX f y fs).2 g (k g λz=>M ?_)
   show(if g=f then some u else j g)=none;rw[mo q];exact z
theorem Inv.made(I:Inv X pins σ H s):Inv X pins σ (upd (upd H s.heap.objs.size (.own (s.heap.objs.size+1))) (s.heap.objs.size+1) (.ins C s.heap.objs.size []))
  {s with heap:=(s.heap.push PySem.W.emptyDict).push (PySem.W.instObj C s.heap.objs.size)}:=by
 have c:(s.heap.push PySem.W.emptyDict).get? s.heap.objs.size=some PySem.W.emptyDict:=Gc s.heap rfl
 have d:((s.heap.push PySem.W.emptyDict).push (PySem.W.instObj C s.heap.objs.size)).get? (s.heap.objs.size+1)=some (PySem.W.instObj C s.heap.objs.size):=by
  have:=Gc (s.heap.push PySem.W.emptyDict) (o:=PySem.W.instObj C s.heap.objs.size) rfl
  rwa [Heap.size_push] at this
 have g:(s.heap.push PySem.W.emptyDict).Ns s.heap.objs.size (λ_=>none):=⟨PySem.W.emptyDict, #[],_,c,rfl,(λe h=>absurd h (by simp)),λ_=>rfl⟩
 have i:=I.laid (a:=s.heap.objs.size) (o:= .own (s.heap.objs.size+1)) (h':=s.heap.push PySem.W.emptyDict) (t':=s.toks) (λb u q=>AC _ q) (bH _) ⟨_,c⟩;refine i.laid (a:=s.heap.objs.size+1) (o:= .ins C s.heap.objs.size []) (t':=s.toks) (λb u q=>AC _ q) (Nat.le_of_eq (Heap.size_push _ _)) ?_;have ne:s.heap.objs.size≠s.heap.objs.size+1:=cE (zb _);refine⟨by rw[aO ne,aB],dS _,ne,d,λ_=>none,(Heap.Ns1.of_empty g).at λo q=>AC _ q,λ_=>True.intro,λy j=>absurd rfl j⟩
theorem JK{f:Str}{s:Shared}(d:attributeBase e f env (eval e env)=eval e env)
  (h:wpAny (model prog w) A (eval e env) (λo b=>wpAny (model prog w) A (getAttr o f true) Q E b) E s):wpAny (model prog w) A (eval (.Attribute e f c) env) Q E s:=
 Attribute_any_ h (by rw[arm_eval_Attribute,d])
end
def abK(K:PySem.W.Frag)(c:TE)(f:Str):TE:=λd H Q=>c d H λx b=>∃a C e fs v,x= .ref a/\b a=some (.ins C e fs)/\xa K C/\m9 K C f/\fs.lookup f=some v/\Q v b
def aa6(K:PySem.W.Frag)(e g:TE)(f:Str):TS:=λD b H=>g b H λy h=>e b h λx c=>∃a C d fs,x= .ref a/\c a=some (.ins C d fs)/\xa K C/\m9 K C f/\fs.length<1000/\
 D.nx b (upd c a (.ins C d (jI f y fs)))
section
variable {X:Cx} {o e value:Expr} {f:Str} {pos pos' abV:Pos} {ta tv:TE}
theorem OE(d:PE X e ta)(g:attributeBase e f X.env (eval e X.env)=eval e X.env):PE X (.Attribute e f pos) (abK X.K ta f):=by
 intro b s i H Q I h;refine JK g (thn (d b s i H _ I h) λu A j=>?_);rfl';obtain⟨x,m,p,r,a,C,E,fs,v,t,w,c,n,l,q⟩:=j;ac_rfl;subst t;obtain rfl:u=Value.ref a:=r;exact C6 p w c n l λF G y z=>⟨v,m,y,z,q⟩
theorem OP(g:PE X o ta)(i:PE X value tv)(j:swapsWith value (some (.Attribute o f pos')) pos.line X.env=pure false):PS X (.Assign [.Attribute o f pos'] value pos) (aa6 X.K ta tv f):=by
 intro b s d H D I h;refine plainObj_wpAny_Assign_Attribute (thn (i b s d H _ I h) λu k ⟨y,m,p,r,q⟩=>thn (g b k d m _ p q) λt F ⟨x,G,v,w,a,C,J,fs,z,A,c,n,l,B⟩=>?_) j;subst z;obtain rfl:t=Value.ref a:=w;exact D7 v A c n l r λL E=>⟨d,_,E,B⟩
end
section
variable {X:Cx} {pins:List (Addr×Obj)} {σ:St} {H:Hp} {s:Shared} {A:Around} {E:Value->Shared->Prop} {Q:Value->Shared->Prop} {c:Value} {b:Bool}
inductive kL (K:PySem.W.Frag) (H:Hp):V->Value->Prop where
 |bA:kL K H .bA (.type "NoneType")
 |bl (x:Bool):kL K H (.bl x) (.type "bool")
 |int (i:Int):kL K H (.int i) (.type "int")
 |str (x:Str):kL K H (.str x) (.type "str")
 |EZ (x:UInt64):kL K H (.EZ x) (.type "float")
 |lst {a:Addr} {xs:List V} (e:H a=some (.lst xs)):kL K H (.ref a) (.type "list")
 |rP {a:Addr} {o:Obj} {xs:List V} (e:H a=some (.rP o (.lst xs))):kL K H (.ref a) (.type "list")
 |tup {a:Addr} {xs:List V} (e:H a=some (.tup xs)):kL K H (.ref a) (.type "tuple")
 |dK {a:Addr} {fb:List (Key×V)} (e:H a=some (.dK fb)):kL K H (.ref a) (.type "dict")
 |dT {a:Addr} {fb:List (List Key×V)} (e:H a=some (.dT fb)):kL K H (.ref a) (.type "dict")
 |ins {a C dx:Addr} {fs:List (Str×V)} (e:H a=some (.ins C dx fs)) (cl:xa K C) (ha:PySem.W.findIn K (.ref C) "__class__"=some (some (.builtin "object.__class__")))
   (hn:PySem.W.specialIn K (.builtin "object.__class__") "__get__"=some (some (.builtin "getset_descriptor.__get__"))) (X4:PySem.W.takesIn K (.builtin "object.__class__")=some true)
   (hm:PySem.W.mroIn K C (.type "object")=some true):kL K H (.ref a) (.ref C)
theorem Fq{x:V}{u t:Value}(I:Inv X pins σ H s)(rx:RelV x u)(ty:kL X.K H x t)(e:PySem.W.kitOne X.K t c=some b)(h:∀tk,Q (.bool b) {s with toks:=tk}):
  wpAny (model X.prog X.w) A (call (.builtin "isinstance") [u,c]) Q E s:=by
 cases ty with
 |bA=>cases(show u=Value.none from rx);exact PySem.W.kia_one PySem.W.kitx_none I.jy True.intro e (λz=>nomatch z) h
 |bl y=>cases(show u=Value.bool y from rx);exact PySem.W.kia_one PySem.W.kitx_bool I.jy True.intro e (λz=>nomatch z) h
 |int i=>obtain⟨t,q⟩:=(show ∃t,u=Value.int i t from rx);cases q;exact PySem.W.kia_one PySem.W.kitx_int I.jy True.intro e (λz=>nomatch z) h
 |str y=>obtain⟨t,q⟩:=(show ∃t,u=Value.str y t from rx);cases q;exact PySem.W.kia_one PySem.W.kitx_str I.jy True.intro e (λz=>nomatch z) h
 |EZ y=>obtain⟨t,q⟩:=(show ∃t,u=Value.float y t from rx);cases q;exact PySem.W.kia_one PySem.W.kitx_float I.jy True.intro e (λz=>nomatch z) h
 | @lst a xs ea=>
  cases(show u=Value.ref a from rx);obtain⟨_,_,n,_,h1⟩:=(show cV X.prog X.w H s.heap a (.lst xs) from I.hok a _ ea);exact PySem.W.kia_one PySem.W.kitx_list I.jy ⟨_,h1,rfl⟩ e (λz=>nomatch z) h
 | @rP a ob xs ea=>
  cases(show u=Value.ref a from rx);obtain⟨_,_,_,n,_,h1⟩:=(show cV X.prog X.w H s.heap a (.rP ob (.lst xs)) from I.hok a _ ea);exact PySem.W.kia_one PySem.W.kitx_list I.jy ⟨_,h1,rfl⟩ e (λz=>nomatch z) h
 | @tup a xs ea=>
  cases(show u=Value.ref a from rx);obtain⟨_,_,_,p⟩:=(show cV X.prog X.w H s.heap a (.tup xs) from I.hok a _ ea);obtain⟨o,h1,h2,_⟩:=p;exact PySem.W.kia_one PySem.W.kitx_tuple I.jy ⟨o,h1,h2⟩ e (λz=>nomatch z) h
 | @dK a fb ea=>
  cases(show u=Value.ref a from rx);obtain⟨_,_,vs,_,p⟩:=(show cV X.prog X.w H s.heap a (.dK fb) from I.hok a _ ea);obtain⟨o,es,ep,h1,h2,_⟩:=p;exact PySem.W.kia_one PySem.W.kitx_dict I.jy ⟨o,h1,h2.1⟩ e (λz=>nomatch z) h
 | @dT a fb ea=>
  cases(show u=Value.ref a from rx);obtain⟨_,_,xs,_,o,es,ep,h1,h2,_⟩:=(show cV X.prog X.w H s.heap a (.dT fb) from I.hok a _ ea);exact PySem.W.kia_one PySem.W.kitx_dict I.jy ⟨o,h1,h2.1⟩ e (λz=>nomatch z) h
 | @ins a C dx fs ea cl ha hn X4 hm=>
  rfl';cases(show u=Value.ref a from rx);obtain⟨mA,O,_⟩:=tI I.hok ea;obtain⟨od,J,_⟩:=O.look;ac_rfl;exact PySem.W.kia_one (PySem.W.kitx_own (cl.get _) cl.hd ha hn X4 hm) I.jy J e (λz=>nomatch z) h
end
structure dq (k:Nat) (A:Around):Prop where
 hd:A.handled=none
 dp:A.depth+3*k+5<recursionLimit
 un:A.units+16*k+200<cLine
theorem dq.mono(r:dq k A)(h:j<=k):dq j A:=⟨r.hd,by have:=r.dp;omega,by have:=r.un;omega⟩
theorem dq.deeper(r:dq (k+1) A)(env:Env):dq k (A.deeper env):=
 ⟨r.hd,by have:=r.dp;show A.depth+1+3*k+5<_;omega,by have:=r.un;show A.units+3+16*k+200<_;omega⟩
theorem Dx{A:Around}{C:Addr}{a:List Value}{b:List (Str×Value)}:(A.under (.builtin "type.__call__" ⟨.ref C::a,b⟩)).depth=A.depth+1:=by
 first|rfl|simp[Around.under,Code.weight,Code.isCreation,Code.isGuard,Code.isCaller,Code.frames,Code.isFrame,guardIds]
theorem Dz{A:Around}{C:Addr}{a:List Value}{b:List (Str×Value)}:(A.under (.builtin "type.__call__" ⟨.ref C::a,b⟩)).units=A.units+1:=by
 first|rfl|simp[Around.under,Code.cUnits,Code.frames,Code.isFrame]
theorem dq.make(r:dq (k+1) A)(C:Addr)(a:List Value)(b:List (Str×Value)):dq k (A.under (.builtin "type.__call__" ⟨.ref C::a,b⟩)):=
 ⟨r.hd,by have:=r.dp;rw[Dx];omega,by have:=r.un;rw[Dz];omega⟩
theorem dq.depth{k:Nat}(r:dq k A):A.depth<recursionLimit:=by have:=r.dp;omega
theorem dq.units{k:Nat}(r:dq k A):A.units+64<cLine:=by have:=r.un;omega
def QS:TA:=λ_ H Q=>Q [] H
def Uh(b:TE)(c:TA):TA:=λa H Q=>b a H λx d=>c a d λe f=>Q (x::e) f
section
variable {X:Cx} {e:Expr} {es:List Expr} {te:TE} {t:TA} {pos:Pos}
theorem eQ:PA X [] QS:=λ_ _ _ _ H Q I h=>Calls.spliced_nil ⟨[],H,I, .nil,h⟩
theorem dr(d:PE X e te)(f:PA X es t)(g:starEach (e::es) X.env=(false,eval e X.env)::starEach es X.env:=by rfl):PA X (e::es) (Uh te t):=by
 intro b a s c H Q I h;rw[g];show wpAny _ _ (spliced ((false,eval e X.env)::backTo b (starEach es X.env))) _ _ s;refine Calls.spliced_cons (thn (d a s c H _ I h) λu i j=>?_);rfl';obtain⟨x,l,m,n,o⟩:=j;ac_rfl;exact thn (f b a i c l _ m o) λz A ⟨p,q,r,v,w⟩=>⟨x::p,q,r, .cons n v,w⟩
def abS(t:TA):TE:=λc H Q=>t c H λa b=>a.length<=sizeLine/\∀p,b p=none->Q (.ref p) (upd b p (.tup a))
def abN(t:TA):TE:=λc H Q=>t c H λa b=>a.length<=sizeLine/\∀p,b p=none->Q (.ref p) (upd b p (.lst a))
theorem OL{x1}(h:PA X es t):PE X (.Tuple es x1 pos) (abS t):=by
 intro a s g H Q I i;refine wpAny_Tuple_spliced (thn (h pos a s g H _ I i) λj c ⟨k,d,f,r,z,q⟩=>⟨r.length▸z,?_⟩);have l:d c.heap.objs.size=none:=f.hok.fresh (bH _);refine⟨.ref c.heap.objs.size,upd d c.heap.objs.size (.tup k),f.laid (t':=c.toks) (λb u e=>AC _ e) (bH _) ?_,rfl,q _ l⟩;exact⟨z,j,r,⟨_,Gc _ rfl,rfl,_,rfl⟩⟩
theorem tT(h:PA X es t):PE X (.List es pos) (abN t):=by
 intro a s g H Q I i;refine wpAny_List_spliced (thn (h pos a s g H _ I i) λj c ⟨k,d,f,r,z,q⟩=>⟨r.length▸z,?_⟩);have l:d c.heap.objs.size=none:=f.hok.fresh (bH _);refine⟨.ref c.heap.objs.size,upd d c.heap.objs.size (.lst k),f.laid (t':=c.toks) (λb u e=>AC _ e) (bH _) ?_,rfl,q _ l⟩;exact⟨z,j,0,r,Gc _ rfl⟩
end
abbrev Sp:=List V->Hp->VK->XK->Prop
abbrev uu:=List Env->Hp->Shared->XK->Value->Shared->Prop
structure Env0 (P:Program) (w:World) (K:PySem.W.Frag) (mg:Str->Option Value) (base:Heap) (A:Around) (outer:List Env) (s:Shared) (H:Hp):Prop where
 frames:A.frames=some outer
 mod:Mod K mg base
 bs:∀b o,base.get? b=some o->s.heap.get? b=some o/\H b=none
 bsz:base.objs.size<=s.heap.objs.size
 funs:s.heap.FunFrames base outer
 frf:∀b∈xQ outer,H b=none
 hok:jL P w H s.heap
 bare:AllBare s.gens
def CE(outer:List Env)(P:Program)(w:World)(H:Hp)(s:Shared)(Q:VK)(u:Value)(a:Shared):Prop:=
 ∃v b,a.os=s.os/\AllBare a.gens/\Un (xQ outer) [] H b s.heap a.heap/\jL P w b a.heap/\RelV v u/\Q v b
def CR(b:uu)(outer:List Env)(P:Program)(w:World)(H:Hp)(s:Shared)(Q:VK)(E:XK)(r:Result)(a:Shared):Prop:=
 match r with
 | .ok (.ret u)=>CE outer P w H s Q u a
 | .ok _=>False
 | .error e=>b outer H s E e a
structure FnOk (P:Program) (w:World) (K:PySem.W.Frag) (mg:Str->Option Value) (base:Heap) (CX:uu) (k:Nat) (f:Addr) (fd:FuncData) (ps:List Str) (sp:Sp):Prop where
 len:∀vs H Q E,sp vs H Q E->vs.length=ps.length
 run:∀(A:Around)(outer:List Env)(s:Shared)(H:Hp)(args:Args)(us:List Value)(vs:List V)(Q:VK)(E:XK),dq k A->Env0 P w K mg base A outer s H->BindsTo s fd args (ps.zip us)->Vals vs us->sp vs H Q E->
  codeAny (model P w) A (.call (.ref f) args) (CR CX outer P w H s Q E) s
theorem FnOk.mono{P:Program}{w:World}{K:PySem.W.Frag}{b:Str->Option Value}{base:Heap}(F:FnOk P w K b base c j f d e g)(h:j<=k):
  FnOk P w K b base c k f d e g:=⟨F.len,λA outer s H a i l Q E m=>F.run A outer s H a i l Q E (m.mono h)⟩
theorem FnOk.imp{P:Program}{w:World}{K:PySem.W.Frag}{d:Str->Option Value}{base:Heap}{e:uu}{k:Nat}{f:Addr}{g:FuncData}{i:List Str}{j b:Sp}(F:FnOk P w K d base e k f g i j)
  (h:∀a H Q E,b a H Q E->j a H Q E):FnOk P w K d base e k f g i b:=
 ⟨λa H Q E q=>F.len a H Q E (h _ _ _ _ q),λA outer s H c l a Q E m n o p r=>F.run A outer s H c l a Q E m n o p (h _ _ _ _ r)⟩
theorem Env0.make{P:Program}{w:World}{K:PySem.W.Frag}{a:Str->Option Value}{base:Heap}{A:Around}{outer:List Env}{s:Shared}{H:Hp}(e:Env0 P w K a base A outer s H)(C:Addr)(b:List Value)(c:List (Str×Value)):
  Env0 P w K a base (A.under (.builtin "type.__call__" ⟨.ref C::b,c⟩)) outer s H:=⟨by first|exact e.frames| (simpa [Around.under,Code.envs,Code.isFrame,pushEnvs] using e.frames),e.mod,e.bs,e.bsz,e.funs,e.frf,e.hok,e.bare⟩
section
variable {X:Cx} {pins:List (Addr×Obj)} {σ:St} {H:Hp} {s s':Shared}
theorem Inv.Qu(I:Inv X pins σ H s):Env0 X.prog X.w X.K X.mg X.base X.A X.stack s H:=
 ⟨I.ok.frames,I.ok.mod,I.bs,jr I.ok.bsz I.sz,I.stack,I.Eg,I.hok,I.bare⟩
theorem Inv.after(I:Inv X pins σ H s)(h:CE X.stack X.prog X.w H s Q u s'):EP X pins σ Q u s':=by
 obtain⟨v,a,os,bare,un,hok,r,q⟩:=h;obtain⟨c,g,d,t,e⟩:=s';obtain rfl:e=s.os:=os;exact⟨v,a,I.call (h':=c) (g':=g) (d':=d) (t':=t) (ch:= []) un hok bare (λb z=>absurd z (by simp)),r,q⟩
end
def Ug(a:Sp)(b:List V)(E:XK)(t:TA):TE:=λc H Q=>t c H λd e=>a (d++b) e Q E
def Gj(C:Addr)(m:Str)(d:Sp)(e:List V)(E:XK)(f:TE)(t:TA):TE:=λb H Q=>f b H λx c=>∃a g fs,x= .ref a/\c a=some (.ins C g fs)/\fs.lookup m=none/\
 t b c λh i=>d (x::(h++e)) i Q E
def Uj(C:Addr)(c:Sp)(d:List V)(E:XK)(t:TA):TE:=λe H Q=>t e H λf b=>∀x a,b x=none->b a=none->a≠x->
 c (.ref x::(f++d)) (upd (upd b a (.own x)) x (.ins C a [])) (λv g=>v= .bA/\Q (.ref x) g) E
def Binds(K:PySem.W.Frag)(d:FuncData)(b:List Str)(c:List Value):Prop:=
 ∀(s:Shared)(a:List Value),K.In s.heap->(a++c).length=b.length->BindsTo s d ⟨a,[]⟩ (b.zip (a++c))
theorem Binds.all{K:PySem.W.Frag}{c:FuncData}{b:List Str}(h:∀a:List Value,a.length=b.length->bindArgs c ⟨a,[]⟩=pure (b.zip a)):Binds K c b []:=λs a _ d=>by
 rw[m8] at d ⊢;exact .of_eq (h a d)
def Passes(c:uu)(X:Cx)(E:XK):Prop:=∀(a:List (Addr×Obj))(d:St)(H:Hp)(s:Shared)(e:Value)(b:Shared),Inv X a d H s->c X.stack H s E e b->X.xe e b
section
variable {X:Cx} {CX:uu} {k:Nat} {f C:Addr} {fd:FuncData} {ps:List Str} {sp:Sp} {bC:List V} {ds:List Value} {E:XK} {x m:Str} {p pos apos:Pos} {e o:Expr} {es:List Expr} {ta:TE} {t:TA}
theorem BN{pins:List (Addr×Obj)}{σ:St}{H:Hp}{s:Shared}{Q:VK}{us:List Value}{vs:List V}(F:FnOk X.prog X.w X.K X.mg X.base CX k f fd ps sp)(hr:dq k X.A)(hb:Binds X.K fd ps ds)(hd:Vals bC ds)(hx:Passes CX X E)
  (I:Inv X pins σ H s) (r:Vals vs us) (h:sp (vs++bC) H Q E):wpAny (model X.prog X.w) X.A (call (.ref f) us) (EP X pins σ Q) X.xe s:=by
 have r2:Vals (vs++bC) (us++ds):=r.append hd;have hl:(us++ds).length=ps.length:=by rw[<-r2.length];exact F.len _ _ _ _ h
 refine wpAny_call (codeAny_mono (F.run X.A X.stack s H ⟨us,[]⟩ (us++ds) (vs++bC) Q E hr I.Qu (hb s us I.jy hl) r2 h) λr s' hq=>?_);cases r with
 |error e=>exact hx pins σ H s e s' I hq
 |ok fl=>
  cases fl with
  |ret u=>exact I.after hq
  |next=>exact False.elim hq
  |brk=>exact False.elim hq
  |cont=>exact False.elim hq
theorem DX(F:FnOk X.prog X.w X.K X.mg X.base CX k f fd ps sp)(c:dq k X.A)(d:Gl X x)(g:X.mg x=some (.ref f))(i:PySem.W.keepIn X.K (.ref f)=true)(j:Binds X.K fd ps ds)(l:Vals bC ds)(n:Passes CX X E)
  (u:PA X (e::es) t) (v:(x==("__debug__":Str))=false:=by decide) (y:starEach (e::es) X.env=(false,eval e X.env)::starEach es X.env:=by rfl) (z:(backTo pos (starEach es X.env)).any (·.1)=false:=by rfl):
  PE X (.Call (.Name x p) (e::es) [] pos) (Ug sp bC E t):=by
 intro a s B H Q I h;refine acj (yb I d g ?_ v);refine ado (h₀:=X.base) I.ok.mod.kin i (thn (u pos a s B H _ I h) λG J ⟨L,M,b,r,q⟩=>⟨b.jy,?_⟩) y z;exact BN F c j l n b r q
theorem LQ{pl:Sem Bool}(v:PE X o ta)(c:xa X.K C)(d:Meth X.K C m f)(F:FnOk X.prog X.w X.K X.mg X.base CX k f fd ps sp)(y:dq k X.A)(z:Binds X.K fd ps ds)(B:Vals bC ds)(G:Passes CX X E)(J:PA X (e::es) t)
  (L:starEach (e::es) X.env=(false,eval e X.env)::starEach es X.env:=by rfl) (M:(backTo pos (starEach es X.env)).any (·.1)=false:=by rfl)
  (N:eval (.Call (.Attribute o m apos) (e::es) [] pos) X.env=(do
   let g <-eval o X.env
   standAt apos.atName
   let (f,first) <-holding [g] (getMethod g m pl)
   callWith pos f first (backTo pos (starEach (e::es) X.env)) (backToKw pos (keywordEach [] X.env))):=by rfl):
  PE X (.Call (.Attribute o m apos) (e::es) [] pos) (Gj C m sp bC E ta t):=by
 intro b s i H Q I h;refine PySem.W.methodCall_KW (pl:=pl) (thn (v b s i H _ I h) λu O ⟨x,R,j,S,a,Z,fs,T,U,l,q⟩=>?_) N;subst T;obtain rfl:u=Value.ref a:=S;refine vB j U c d l ?_;refine ado (first:= [.ref a]) (h₀:=X.base) I.ok.mod.kin d.kp (thn (J pos b O i R _ j q) λus p ⟨vs,H2,n,r,Y⟩=>⟨n.jy,?_⟩) L M;exact BN (us:= .ref a::us) (vs:= .ref a::vs) F y z B G n (.cons rfl r) Y
theorem I0{pl:Sem Bool}(j:PE X o ta)(c:xa X.K C)(g:Meth X.K C m f)(F:FnOk X.prog X.w X.K X.mg X.base CX k f fd ps sp)(n:dq k X.A)(r:Binds X.K fd ps ds)(v:Vals bC ds)(y:Passes CX X E)
  (z:eval (.Call (.Attribute o m apos) [] [] pos) X.env=(do
   let i <-eval o X.env
   standAt apos.atName
   let (f,first) <-holding [i] (getMethod i m pl)
   callWith pos f first (backTo pos (starEach [] X.env)) (backToKw pos (keywordEach [] X.env))):=by rfl):
  PE X (.Call (.Attribute o m apos) [] [] pos) (Gj C m sp bC E ta QS):=by
 intro b s B H Q I h;refine PySem.W.methodCall_KW (pl:=pl) (thn (j b s B H _ I h) λu M ⟨x,N,d,G,a,O,fs,J,L,l,q⟩=>?_) z;subst J;obtain rfl:u=Value.ref a:=G;refine vB d L c g l ?_;exact PySem.W.callWith_K0 (first:= [.ref a]) d.jy g.kp (BN (us:= [.ref a]) (vs:= [.ref a]) F n r v y d (.cons rfl .nil) q)
structure Mk (K:PySem.W.Frag) (C f:Addr):Prop where
 makes:PySem.W.makesIn K C=true
 init:PySem.W.findIn K (.ref C) "__init__"=some (some (.ref f))
 fn:PySem.W.isFn K (.ref f)=true
 kp:PySem.W.keepIn K (.ref C)=true
theorem Jo{pins:List (Addr×Obj)}{σ:St}{H:Hp}{s:Shared}{Q:VK}{us:List Value}{vs:List V}(M:Mk X.K C f)(F:FnOk X.prog X.w X.K X.mg X.base CX k f fd ps sp)(hr:dq (k+1) X.A)(hb:Binds X.K fd ps ds)(hd:Vals bC ds)
  (hx:Passes CX X E) (I:Inv X pins σ H s) (r:Vals vs us)
  (h:∀x dx,H x=none->H dx=none->dx≠x->sp (.ref x::(vs++bC)) (upd (upd H dx (.own x)) x (.ins C dx [])) (λv H2=>v= .bA/\Q (.ref x) H2) E):
  wpAny (model X.prog X.w) X.A (call (.ref C) us) (EP X pins σ Q) X.xe s:=by
 have hq:=h (s.heap.objs.size+1) s.heap.objs.size (I.hok.fresh (Nat.le_succ _)) (I.hok.fresh (bH _)) (cE (zb _));have I2:=Inv.made (C:=C) I;have r2:Vals (V.ref (s.heap.objs.size+1)::(vs++bC)) (Value.ref (s.heap.objs.size+1)::(us++ds)):= .cons rfl (r.append hd)
 have hl:(Value.ref (s.heap.objs.size+1)::us++ds).length=ps.length:=by
  have e:=r2.length;rw[F.len _ _ _ _ hq] at e;exact e.symm
 refine wpAny_call (IL (f:=f) I.jy M.makes M.init (beq_iff_eq.mp M.fn) (codeAny_mono (F.run _ X.stack _ _ ⟨Value.ref (s.heap.objs.size+1)::us,[]⟩ (Value.ref (s.heap.objs.size+1)::(us++ds)) _ _ E (hr.make C us [])
  (I2.Qu.make C us []) (hb _ (Value.ref (s.heap.objs.size+1)::us) I2.jy hl) r2 hq) λr s' Bo=>?_))
 cases r with
 |error e=>exact hx pins σ _ _ e s' I2 Bo
 |ok fl=>
  cases fl with
  |ret u=>
   rfl';obtain⟨v,H',I3,rv,ev,q3⟩:=I2.after Bo;subst ev;ac_rfl;exact⟨rv,⟨V.ref (s.heap.objs.size+1),H',I3,rfl,q3⟩⟩
  |next=>exact False.elim Bo
  |brk=>exact False.elim Bo
  |cont=>exact False.elim Bo
theorem LP(M:Mk X.K C f)(F:FnOk X.prog X.w X.K X.mg X.base CX k f fd ps sp)(c:dq (k+1) X.A)(d:Gl X x)(g:X.mg x=some (.ref C))(i:Binds X.K fd ps ds)(j:Vals bC ds)(l:Passes CX X E)
  (n:PA X (e::es) t) (u:(x==("__debug__":Str))=false:=by decide) (v:starEach (e::es) X.env=(false,eval e X.env)::starEach es X.env:=by rfl) (y:(backTo pos (starEach es X.env)).any (·.1)=false:=by rfl):
  PE X (.Call (.Name x p) (e::es) [] pos) (Uj C sp bC E t):=by
 intro a s z H Q I h;refine acj (yb I d g ?_ u);refine ado (h₀:=X.base) I.ok.mod.kin M.kp (thn (n pos a s z H _ I h) λB G ⟨J,L,b,r,q⟩=>⟨b.jy,?_⟩) v y;exact Jo M F c i j l b r q
end
section
variable {X:Cx} {CX:uu} {k:Nat} {f C:Addr} {fd:FuncData} {ps ks:List Str} {sp:Sp} {E:XK} {x m:Str} {p pos apos acd:Pos} {e o:Expr} {es:List Expr} {kws:List Keyword} {te ta:TE} {t tk:TA} {nm:Option Str}
variable {g:List Value->List Value->List Value} {gV:List V->List V->List V}
end
structure aG (N P:List Str) (sc:Scope):Prop where
 kind:sc.kind= .function
 co:sc.isCoroutine=false
 gen:sc.isGenerator=false
 nd:N.Nodup
 pre:N.take P.length=P
 par:∀x∈P,sc.names.lookup x=some .local\/sc.names.lookup x=some .cell
 nofree:∀y∈sc.names,y.2≠ .free
theorem xw{kindOf:Str->Option NameKind}{x:Str}:∀{binds:List (Str×Value)}{m:Str->Option Value},(∀v,(x,v)∉binds)->bindL kindOf binds m x=m x
 | [],_,_=>rfl
 | (n,v)::r,m,h=>by
  unfold bindL;rw[xw λw hw=>h w (bV _ hw)]
  split
  ·have:x≠n:=by rintro rfl;exact h v bE
   simp[this]
  ·rfl
theorem xu{kindOf:Str->Option NameKind}{x:Str}:∀{binds:List (Str×Value)}{m:Str->Option Value},(∀v,(x,v)∉binds)->bindC kindOf binds m x=m x
 | [],_,_=>rfl
 | (n,v)::r,m,h=>by
  unfold bindC;rw[xu λw hw=>h w (bV _ hw)]
  split
  ·rfl
  ·have:x≠n:=by rintro rfl;exact h v bE
   simp[this]
theorem xv{kindOf:Str->Option NameKind}{x:Str}{v:Value}:∀{P:List Str}{a:List Value}{i:Nat}{m:Str->Option Value},P.Nodup->P[i]? =some x->a[i]? =some v->kindOf x=some .local->
  bindL kindOf (P.zip a) m x=some v
 | [],_,_,_,_,h,_,_=>by simp at h
 |_::_,[],_,_,_,_,h,_=>by simp at h
 |p::P,w::a,0,m,d,b,c,e=>by
  simp at b c;subst b;subst c;show bindL kindOf ((p,w)::P.zip a) m p=_;unfold bindL;rw[xw λv f=>(b7.mp d).1 (adR f).1,tz e];simp
 |p::P,w::a,i+1,m,d,b,c,e=>by
  show bindL kindOf ((p,w)::P.zip a) m x=_;unfold bindL;exact xv (i:=i) (b7.mp d).2 (by simpa using b) (by simpa using c) e
theorem xt{kindOf:Str->Option NameKind}{x:Str}{v:Value}:∀{P:List Str}{a:List Value}{i:Nat}{m:Str->Option Value},P.Nodup->P[i]? =some x->a[i]? =some v->kindOf x≠some .local->
  bindC kindOf (P.zip a) m x=some v
 | [],_,_,_,_,h,_,_=>by simp at h
 |_::_,[],_,_,_,_,h,_=>by simp at h
 |p::P,w::a,0,m,d,b,c,e=>by
  simp at b c;subst b;subst c;show bindC kindOf ((p,w)::P.zip a) m p=_;unfold bindC;rw[xu λv f=>(b7.mp d).1 (adR f).1,mo e];simp
 |p::P,w::a,i+1,m,d,b,c,e=>by
  show bindC kindOf ((p,w)::P.zip a) m x=_;unfold bindC;exact xt (i:=i) (b7.mp d).2 (by simpa using b) (by simpa using c) e
def start(N:List Str)(a:List V):St:=a.map some++List.replicate (N.length-a.length) none
def vw(g:uu)(P:Program)(w:World)(K:PySem.W.Frag)(mg:Str->Option Value)(base:Heap)(N:List Str)(b:Str)(a:Scope)(f:Addr)(c:Value)(A:Around)(outer:List Env)(s:Shared)(H:Hp)(E:XK):Cx where
 prog:=P
 w:=w
 K:=K
 mg:=mg
 base:=base
 A:=A.deeper (envOfC b a s.heap.objs.size f c)
 N:=N
 s₀:=s
 H₀:=H
 env:=envOfC b a s.heap.objs.size f c
 outer:=outer
 stack:=envOfC b a s.heap.objs.size f c::outer
 ex:= []
 calm:=true
 fn:=λ_=>true
 pn:= []
 xe:=λe h=>wpAny (model P w) (A.deeper (envOfC b a s.heap.objs.size f c)) (leaving (envOfC b a s.heap.objs.size f c) e) (λ_ d=>g outer H s E e d) (λi d=>g outer H s E i d) h
theorem zM{a:Scope}{n:Nat}{x:Str}(h:a.names.lookup x=some .cell):∃c,(cellsFrom n a.names []).lookup x=some c:=by
 have q:=adZ a.names n [] (.inl h);exact Option.isSome_iff_exists.mp q
theorem Fo{M:uu}{P:Program}{w:World}{K:PySem.W.Frag}{I:Str->Option Value}{base:Heap}{N m:List Str}{g:Str}{d:Scope}{f:Addr}{C:Value}{A:Around}{outer:List Env}{s O:Shared}{H:Hp}{E:XK}{J:List Value}{o:List V}
  (S:aG N m d) (U:A.handled=none) (l:Env0 P w K I base A outer s H) (Z:o.length=m.length) (r:Vals o J)
  (x:InCallC s s.heap.objs.size (bindL (envOfC g d s.heap.objs.size f C).kindOf (m.zip J) λ_=>none) (cellsFrom (s.heap.objs.size+1) d.names []) (bindC (envOfC g d s.heap.objs.size f C).kindOf (m.zip J) λ_=>none) O):
  Inv (vw M P w K I base N g d f C A outer s H E) [] (start N o) H O:=by
 have fQ:m.length<=N.length:=by have:=FS List.length S.pre;rw[lF] at this;omega
 obtain⟨F,tk,rfl,Q⟩:=x.done;have L:∀b:Addr,b∉(vw M P w K I base N g d f C A outer s H E).ex:=λb z=>absurd (show b∈([]:List Addr) from z) (by simp)
 refine⟨⟨l.mod,S.kind,rfl,rfl,bH _,λy z c F j=>?_,λy t=>?_,λy c _ h=>?_,λ_=>U,Around.frames_deeper l.frames, .inr ⟨rfl,rfl⟩,λb z=>absurd z (L b),l.bs,l.bsz,λb _ _=>L b,λb z=>absurd z (L b),l.funs,l.frf⟩,
  rfl,l.bare,Un.kept Q,⟨_,x.toInCall.ns,λi y v F j h3=>?_⟩,λy c h=>⟨_,x.cell y c h⟩,l.hok.fresh (bH _),λy c h=>?_,λp B=>absurd (show p∈([]:List (Addr×Obj)) from B) (by simp),l.hok.kept Q,?_⟩
 ·exact name_of_addr x.apart (ach F) (ach j)
 ·have t:d.names.lookup y=some .cell\/d.names.lookup y=some .free:=t
  rcases t with t|t
  ·exact zM t
  ·exact absurd rfl (S.nofree _ (ach t))
 ·exact vh (x.above y c (ach h))
 ·have G:i<o.length:=by
   unfold start at j
   by_cases G:i<o.length
   ·exact G
   ·rw[kF (by simpa using G)] at j
    rw[vS] at j
    split at j<;>cases j
  have X:o[i]? =some v:=by
   unfold start at j;rw[lC (by simpa using G),bQ] at j
   cases e:o[i]? with
   |none=>rw[e] at j;cases j
   |some a=>rw[e] at j;cases j;rfl
  obtain⟨u,R,Y⟩:=r.get X
  have B:m[i]? =some y:=by
   rw[<-S.pre,Ew (by omega)];exact F
  have T:m.Nodup:=by rw[<-S.pre];exact S.nd.sublist (adz _ _)
  refine⟨u,Y,?_⟩
  rcases S.par y (dA B) with k|k
  ·exact .inl ⟨k,xv T B R k⟩
  ·obtain⟨c,e⟩:=zM (n:=s.heap.objs.size+1) k
   refine .inr ⟨.inl k,c,e,?_⟩;have q:=x.cell y c e;rw[xt T B R (by show d.names.lookup y≠_;rw[k];decide)] at q
   exact q
 ·exact l.hok.fresh (vh (x.above y c (ach h)))
 ·unfold start
  show _=N.length;rw[bZ,aD,zd];omega
theorem Sq{B:uu}{P:Program}{w:World}{K:PySem.W.Frag}{C:Str->Option Value}{base:Heap}{k:Nat}{f:Addr}{i c:Str}{d:Arguments}{g:List Stmt}{a:Scope}{U kV p X l Y oc:Value}{Z od:Option Addr}
  {DU:Array (Option Value)} {N F:List Str} {L:Sp} (lk:K.lookup f=some ⟨oc,od, .func (PySem.W.fnOf i c d g a U kV p X Z l Y),DU⟩) (dX:PySem.W.codeIn K l c=true) (S:aG N F a)
  (len:∀h H Q E,L h H Q E->h.length=F.length)
  (rR:∀(A:Around)(outer:List Env)(s:Shared)(H:Hp)(h:List V)(Q:VK)(E:XK),dq k (A.deeper (envOfC c a s.heap.objs.size f l))->L h H Q E->
   ∃t,oK (vw B P w K C base N c a f l A outer s H E) g t/\t {nx:=λ_ j=>Q .bA j,rt:=Q} (start N h) H):
  FnOk P w K C base B (k+1) f (PySem.W.fnOf i c d g a U kV p X Z l Y) F L:=by
 refine⟨len,λA outer s H args us h Q E M z hb r Dh=>?_⟩;have hl:=len _ _ _ _ Dh;have KX:K.In s.heap:=z.mod.kin.keeps λb o e=>(z.bs b o e).1;have O:s.heap.NoLimit:=z.mod.nolimit.keeps λb o e=>(z.bs b o e).1
 have SW:∀y∈F.zip us,a.names.lookup y.1=some .local\/(a.names.lookup y.1=some .cell/\((cellsFrom (s.heap.objs.size+1) a.names []).lookup y.1).isSome=true):=λ⟨n,v⟩ hy=>by
  rcases S.par n (adR hy).1 with q|q
  ·exact .inl q
  ·exact .inr ⟨q,adZ _ _ _ (.inl q)⟩
 refine codeAny_call_function M.depth (KX _ _ lk) rfl S.co S.gen rfl (PySem.W.codeRec_of KX dX) (hb _ _ _ _ ?_);refine wpAny_newFunctionEnv_cells S.kind SW λenv he s1 x=>?_;subst he;obtain⟨t,ht,hq⟩:=rR A outer s H h Q E (M.deeper _) Dh;refine⟨O.keeps x.toInCall.keep,codeAny_func ?_⟩;have I:Inv (vw B P w K C base N c a f l A outer s H E) [] (start N h) H s1:=Fo S M.hd z hl r x;refine wpAny_mono (ht [] s1 (start N h) H _ I hq) (λfl R m=>?_) λe R m=>m
 have fin:∀{G:St}{j:Hp}{v:V}{u:Value},Inv (vw B P w K C base N c a f l A outer s H E) [] G j R->RelV v u->Q v j->CE outer P w H s Q u R:=
  λ {G j v u} J T q=>⟨v,j,J.os,J.bare,J.base,J.hok,T,q⟩
 cases fl with
 |ret u=>
  obtain⟨v,G,j,J,T,q⟩:=m;exact fin J T q
 |next=>
  obtain⟨G,j,J,q⟩:=m;exact fin (v:=V.bA) (u:=Value.none) J rfl q
 |brk=>
  obtain⟨_,_,_,q⟩:=m;exact False.elim q
 |cont=>
  obtain⟨_,_,_,q⟩:=m;exact False.elim q
section
variable {X:Cx} {x:Str} {p pos:Pos} {e:Expr} {es:List Expr} {t:TA} {id T:String} {r:List V->Hp->VK->Prop}
def tCB(r:List V->Hp->VK->Prop)(t:TA):TE:=λa H Q=>t a H λb c=>r b c Q
theorem qF(c:cK X (.builtin id) r)(d:Gl X x)(f:X.mg x=none)(g:bootBuiltins x=some (.builtin id))(i:PA X (e::es) t)(j:x≠"__name__":=by decide)(k:(x==("__debug__":Str))=false:=by decide)
  (l:starEach (e::es) X.env=(false,eval e X.env)::starEach es X.env:=by rfl) (m:(backTo pos (starEach es X.env)).any (·.1)=false:=by rfl):PE X (.Call (.Name x p) (e::es) [] pos) (tCB r t):=by
 intro a s b H Q I h;refine acj (kU I d f g ?_ j k);exact PyProof.Rows.callWith_builtin1 (thn (i pos a s b H _ I h) λn o ⟨q,u,v,w,y⟩=>c a o b u q n Q v w y) l m
theorem so(c:cK X (.type T) r)(d:Gl X x)(f:X.mg x=none)(g:bootBuiltins x=some (.type T))(i:PA X (e::es) t)(j:x≠"__name__":=by decide)(k:(x==("__debug__":Str))=false:=by decide)
  (l:starEach (e::es) X.env=(false,eval e X.env)::starEach es X.env:=by rfl) (m:(backTo pos (starEach es X.env)).any (·.1)=false:=by rfl):PE X (.Call (.Name x p) (e::es) [] pos) (tCB r t):=by
 intro a s b H Q I h;refine acj (kU I d f g ?_ j k);exact aci (thn (i pos a s b H _ I h) λn o ⟨q,u,v,w,y⟩=>c a o b u q n Q v w y) l m
end
end L2
namespace HT
open PySem PyProof.Rows
def lexLt:List Int->List Int->Bool
 | [],[]=>false
 | [],_::_=>true
 |_::_,[]=>false
 |x::a,y::b=>if x=y then lexLt a b else decide (x<y)
theorem gR(x y:Int)(a b:List Int):lexLt (x::a) (y::b)=if x=y then lexLt a b else decide (x<y):=rfl
theorem pC:lexLt [] []=false:=rfl
theorem oh(y:Int)(a:List Int):lexLt [] (y::a)=true:=rfl
theorem og(x:Int)(a:List Int):lexLt (x::a) []=false:=rfl
theorem zX(A:Around)(s:Shared)(a:Int)(t:Tok)(c:Int)(u:Tok):∃e,SeqAt.EqAt A s (.int a t) (.int c u) e/\(e=true↔a=c):=
 ⟨(a==c),acB a t c u,by simp⟩
theorem AD(A:Around)(s:Shared)(a:Int)(t:Tok)(c:Int)(u:Tok)(prog:Program)(w:World)(E:Value->Shared->Prop)(Q:Value->Shared->Prop)(h:Q (.bool (decide (a<c))) s):
  wpAny (model prog w) A (richCompare .Lt (.int a t) (.int c u)) Q E s:=
 (PyProof.Rows.lt_int h:wpAny (model prog w) A (compareOp .Lt (.int a t) (.int c u)) Q E s)
section
open PySem.SeqAt
open PySem.AutoSeq1 (wpAny_loadPart')
open PySem.MeetsSeq PySem.MeetsSeq2 PySem.MeetsSeq3
theorem yZ(l b:Addr)(f o:Array Value)(n T:Nat)(U X:Option Addr)(Y Z:Array (Option Value))(v z:List Int)(N:IntsAre f.toList v)(O:IntsAre o.toList z):
  Meets (Builtin.«tuple.__lt__» ⟨[.ref l, .ref b],[]⟩)
   (λ_ R s=>s.heap.get? l=some {cls:= .type "tuple",dict:=U,data:= .seq f n,slots:=Y}/\s.heap.get? b=some {cls:= .type "tuple",dict:=X,data:= .seq o T,slots:=Z}/\
    R (.ok (.ret (.bool (lexLt v z)))) s):=
 .of_wp λprog w A R s h=>by
  obtain⟨B,g,d,C,os⟩:=s;obtain⟨hl,hb,h⟩:=h;have f2:=AutoSeq1.sub_tuple_tuple;have z1:f.size=v.length:=by rw[<-N.length];simp
  have z2:o.size=z.length:=by rw[<-O.length];simp
  wp_walk using wpAny_loadPart' hl,wpAny_loadPart' hb,ac0 _ (λk b H=>b.1=none/\H=⟨B,g,d,C,os⟩/\∃(E F:List Value)(p r:List Int),k=E.zip F/\
   IntsAre E p/\IntsAre F r/\p.length+o.size=r.length+f.size/\R (.ok (.ret (.bool (lexLt p r)))) ⟨B,g,d,C,os⟩) _
  case turn=>
   intro I k b H iZ;obtain⟨y,x⟩:=I;rfl';obtain⟨J,rfl,E,F,p,r,j,L,G,i,m⟩:=iZ;ac_rfl;cases L with
   |nil=>rw[List.zip_nil_left] at j;cases j
   |cons a t X6=>
    cases G with
    |nil=>rw[List.zip_nil_right] at j;cases j
    |cons c u X8=>
     rw[List.zip_cons_cons] at j
     injection j with M S5
     injection M with hy hx
     subst hy hx;rw[gR] at m;simp only[cD] at i;obtain⟨e,he,Q⟩:=zX A.in1 ⟨B,g,d,C,os⟩ a t c u;refine be (he prog w _ _ ?_);cases e with
     |true=>
      rw[tz (Q.mp rfl)] at m
      wp_walk
      exact⟨rfl,rfl,_,_,_,_,S5,X6,X8,by omega,m⟩
     |false=>
      rw[mo (λq=>absurd (Q.mpr q) cw)] at m;have S6:=AD A.in1 ⟨B,g,d,C,os⟩ a t c u prog w
      wp_walk using S6
      exact⟨_,rfl,by simpa using m⟩
  case fin=>
   rintro⟨b1,b2⟩ H ⟨J,rfl,E,F,p,r,j,L,G,i,m⟩;simp only at J;subst J
   have S:lexLt p r=decide (f.size<o.size):=by
    cases L with
    |nil=>
     cases G with
     |nil=>
      simp only[jq] at i;rw[pC];exact(FM (by omega)).symm
     |cons c u hw=>
      simp only[jq,cD] at i;rw[oh];exact(GE (by omega)).symm
    |cons a t S=>
     cases G with
     |nil=>
      simp only[jq,cD] at i;rw[og];exact(FM (by omega)).symm
     |cons c u hw=>
      rw[List.zip_cons_cons] at j;cases j
   rw[S] at m
   wp_walk
   exact⟨_,rfl,by simpa [Builtin.Tuple.tupleCompareSizes] using m⟩
  case h=>
   exact⟨rfl,rfl,f.toList,o.toList,v,z,rfl,N,O,by omega,h⟩
end
section
variable {prog:Program} {w:World} {A:Around} {E:Value->Shared->Prop} {s:Shared}
theorem Dw(p:IsTup s.heap l a)(q:IsTup s.heap b f)(r:IntsAre a.toList c)(t:IntsAre f.toList d)
  (u:A.units<cLine) (h:Q (.bool (lexLt c d)) s):wpAny (model prog w) A (compareOp .Lt (.ref l) (.ref b)) Q E s:=by
 rfl';obtain⟨⟨y,z,g,B⟩,i,j,n,k⟩:=id p;obtain⟨⟨J,C,data2,G⟩,m,o,H,e⟩:=id q;ac_rfl;simp only at j k o e;subst j k o e
 exact richCompare_meets_room (op:= .Lt) ⟨_,i,rfl⟩ ⟨_,m,rfl⟩ PySem.F.slot_tuple_lt PySem.F.entry_tuple_lt (PySem.F.args_tuple_lt_2 _ _) (yZ l b a f n H z C B G c d r t)
  ⟨i,m,show Value.bool (lexLt c d)≠Value.notImplemented/\Q (.bool (lexLt c d)) s from⟨(λx=>nomatch x),h⟩⟩ u
theorem JQ(r:IsTup s.heap t c.toArray)(u:IsTup s.heap b a.toArray)(h:c≠ [])
  (v:a= []->Q (.ref t) s) (x:a≠ []->Q (.ref s.heap.objs.size) {s with heap:=s.heap.push {cls:= .type "tuple",data:= .seq (c++a).toArray}})
  (y:c.length+a.length<=sizeLine):wpAny (model prog w) A (binaryOp .Add (.ref t) (.ref b)) Q E s:=by
 rfl';obtain⟨⟨cls,i,data,j⟩,f,k,n,l⟩:=id r;obtain⟨⟨C,m,data2,o⟩,g,p,q,d⟩:=id u;ac_rfl;simp only at k l p d;subst k l p d;have e:c.toArray++a.toArray=(c++a).toArray:=by simp
 by_cases hw:a= []
 ·exact concat_meets ⟨_,f,rfl⟩ ⟨_,g,rfl⟩ noFill_tuple_add seq_tuple_add ad0 adQ (adG _ _)
   (tuple_addW1 t b c.toArray a.toArray n q i m j o (by simpa using h) (by simp[hw])) ⟨f,g,v hw⟩
 ·refine concat_meets ⟨_,f,rfl⟩ ⟨_,g,rfl⟩ noFill_tuple_add seq_tuple_add ad0 adQ (adG _ _)
   (tuple_addW2 t b c.toArray a.toArray n q i m j o (by simpa using h) (by simpa using hw) (by rw[cS,cS];exact y)) ⟨f,g,?_⟩
  rw[e];exact x hw
def cv(n d:Nat):Option Int->Nat
 |none=>d
 |some v=>if v<0 then(v+(n:Int)).toNat else min v.toNat n
theorem O2(n d:Nat)(b:d<=n)(o:Option Int):cv n d o<=n:=by
 cases o with
 |none=>exact b
 |some v=>
  show(if v<0 then(v+(n:Int)).toNat else min v.toNat n)<=n
  by_cases a:v<0
  ·rw[tz a];omega
  ·rw[mo a];exact Nat.min_le_right _ _
theorem CB(v:Int)(n d:Nat):(if v<0 then max (v+(n:Int)) 0 else min v (n:Int))=((cv n d (some v):Nat):Int):=by
 show(if v<0 then max (v+(n:Int)) 0 else min v (n:Int))=(((if v<0 then(v+(n:Int)).toNat else min v.toNat n):Nat):Int)
 by_cases a:v<0
 ·simp only[tz a];omega
 ·simp only[mo a];omega
theorem Cm(lo a:Option Int)(n:Nat):Builtin.Slice.sliceAdjust lo a 1 (n:Int)=(((cv n 0 lo:Nat):Int),((cv n n a:Nat):Int)):=by
 have b:¬((1:Int)<0):=by omega
 unfold Builtin.Slice.sliceAdjust;simp only[b,P3];refine UF ?_ ?_
 ·cases lo with
  |none=>rfl
  |some v=>exact CB v n 0
 ·cases a with
  |none=>rfl
  |some v=>exact CB v n n
theorem D1(i j:Nat):Builtin.Slice.slicePlaces (i:Int) (j:Int) 1=j-i:=by
 unfold Builtin.Slice.slicePlaces;have a:(1:Int)>0:=by omega
 simp only[a,acs,Int.ediv_one]
 split<;>omega
theorem vP(p:IsPart v o)(h:Q o s):wpAny (model prog w) A (Builtin.Slice.slicePartIndex v) Q E s:=by
 cases p with
 |none=>exact slicePart_none h
 |int i t=>exact slicePart_int h
theorem ub{f:Addr}{b c:Value}{lo a:Option Int}{n:Nat}{Q:Int×Int×Nat->Shared->Prop}(g:s.heap.IsSliceOf f b c .none)(i:IsPart b lo)(j:IsPart c a)
  (h:Q (((cv n 0 lo:Nat):Int),1,cv n n a-cv n 0 lo) s):wpAny (model prog w) A (Builtin.Slice.sliceApplied (.ref f) (pure (n:Int))) Q E s:=by
 rfl';obtain⟨os,d,m,e⟩:=id g;ac_rfl;unfold Builtin.Slice.sliceApplied Builtin.Slice.sliceFields;refine be (be (wpAny_field d e (x:=b) rfl (be (wpAny_field d e (x:=c) rfl (be (wpAny_field d e (x:= .none) rfl (ir ?_)))))));refine be (slicePart_none ?_);rw[mo (by decide)]
 refine be (vP i (be (vP j (be (ir ?_)))));show wpAny _ _ (match Builtin.Slice.sliceAdjust lo a 1 (n:Int) with| (lo,a)=>pure (lo,(1:Int),Builtin.Slice.slicePlaces lo a 1)) _ _ s
 rw[Cm lo a n];show wpAny _ _ (pure (((cv n 0 lo:Nat):Int),(1:Int),Builtin.Slice.slicePlaces ((cv n 0 lo:Nat):Int) ((cv n n a:Nat):Int) 1)) _ _ s;rw[D1];exact ir h
theorem Jc(a:Array Value)(i k:Nat):((List.range k).filterMap λ(m:Nat)=>a[((i:Int)+(m:Int)*1).toNat]?).toArray=((a.toList.drop i).take k).toArray:=by
 have e:(λ(m:Nat)=>a[((i:Int)+(m:Int)*1).toNat]?)=λm=>a[i+m]? :=by
  funext m
  have:((i:Int)+(m:Int)*1).toNat=i+m:=by omega
  rw[this]
 rw[e]
 have:=pick_run a i k
 rw[List.filterMap_map] at this;have b:((λx=>a[x]?)∘λx=>i+x)=λm=>a[i+m]? :=rfl;rw[b] at this;rw[this]
theorem rQ{t e:Addr}{a:Array Value}{g i:Value}{lo b:Option Int}{Q:Value->Shared->Prop}(c:IsTup s.heap t a)(j:s.heap.IsSliceOf e g i .none)(k:IsPart g lo)(l:IsPart i b)
  (hw:¬(cv a.size 0 lo=0/\cv a.size a.size b=a.size))
  (h:Q (.ref s.heap.objs.size) {s with heap:=s.heap.push {cls:= .type "tuple",data:= .seq ((a.toList.drop (cv a.size 0 lo)).take (cv a.size a.size b-cv a.size 0 lo)).toArray}})
  (r:a.size<=sizeLine):wpAny (model prog w) A (getItem (.ref t) (.ref e)) Q E s:=by
 have d:sizeOk (.seq ((a.toList.drop (cv a.size 0 lo)).take (cv a.size a.size b-cv a.size 0 lo)).toArray):=by
  show((a.toList.drop (cv a.size 0 lo)).take (cv a.size a.size b-cv a.size 0 lo)).toArray.size<=sizeLine;rw[cS,lF,zc,iF];omega
 have u:cv a.size a.size b<=a.size:=O2 _ _ (bH _) b;obtain⟨os,n,o,v⟩:=id j;have f:s.TypeIs (.ref e) "slice":=⟨os,n,o⟩;unfold getItem
 try with_reducible refine wpAny_holding ?_
 first|refine wpAny_bind (wpAny_pure ?_) |skip
 refine wpAny_bind (wpAny_sequenceKey c.typeIs (by decide) ?_)
 refine wpAny_bind (wpAny_callSpecial?_slot (name:=Str.ofString "__getitem__") c.typeIs PyProof.Rows.slot_tuple_getitem
  (wpAny_call_entry PyProof.Rows.slot_tuple_getitem c.typeIs entry_tuple_getitem ?_ (args_tuple_getitem _ _)))
 show wpAny _ _ (Builtin.Tuple.tupleItemsOf (.ref t)>>=_) _ _ s;refine wpAny_bind (tupleItemsOf_ c ?_);refine wpAny_bind (wpAny_typeOf f ?_);rw[if_pos (by decide)]
 refine wpAny_bind (ub j k l ?_)
 have p:¬((((cv a.size 0 lo:Nat):Int)==0&&(1:Int)==1&&(cv a.size a.size b-cv a.size 0 lo)==a.size)=true):=by
  intro q;rw[v3,v3] at q;have x:((cv a.size 0 lo:Nat):Int)=0:=eq_of_beq q.1.1;have y:cv a.size a.size b-cv a.size 0 lo=a.size:=eq_of_beq q.2;exact hw ⟨by omega,by omega⟩
 show wpAny _ _ (if (((cv a.size 0 lo:Nat):Int)==0&&(1:Int)==1&&(cv a.size a.size b-cv a.size 0 lo)==a.size)=true then _ else _) _ _ s;rw[if_neg p,Jc]
 first
  |exact wpAny_bind (m:=Builtin.Tuple.tupleExact _) (wpAny_newObj_type (wpAny_pure ⟨_,rfl,wpAny_pure h⟩) d)
  |exact wpAny_bind (m:=Builtin.Tuple.tupleExact _) (wpAny_newObj_type (wpAny_bind (wpAny_pure (wpAny_pure ⟨_,rfl,wpAny_pure h⟩))) d)
  |exact wpAny_bind (wpAny_bind (m:=Builtin.Tuple.tupleExact _) (wpAny_newObj_type (wpAny_pure (wpAny_pure ⟨_,rfl,wpAny_pure h⟩)) d))
  |exact wpAny_bind (wpAny_bind (m:=Builtin.Tuple.tupleExact _) (wpAny_newObj_type (wpAny_pure ⟨_,rfl,wpAny_pure h⟩) d))
end
end HT
namespace L2
open PySem PySem.Spec PyProof.Rows
abbrev TO:=St->Hp->(Option Int->Hp->Prop)->Prop
def PO(X:Cx)(e:Option Expr)(t:TO):Prop:=
 ∀(a:List (Addr×Obj))(s:Shared)(b:St)(H:Hp)(Q:Option Int->Hp->Prop),Inv X a b H s->t b H Q->
  wpAny (model X.prog X.w) X.A (evalPart e X.env) (λu d=>∃o c,Inv X a b c d/\IsPart u o/\Q o c) X.xe s
def MU:TO:=λ_ H Q=>Q none H
def Um(t:TE):TO:=λa H Q=>t a H λx b=>∃i,x= .int i/\Q (some i) b
theorem intsAre_of:∀{b:List Value},Vals (a.map V.int) b->IntsAre b a:=by
 induction a with
 |nil=>intro b r;rw[adI] at r;cases r;exact .nil
 |cons n a c=>
  intro b r;rw[dD] at r;cases r with
  |cons d f=>
   obtain⟨t,e⟩:=d;subst e;exact .cons n t (c f)
section
variable {X:Cx} {e:Expr} {te:TE} {lo hi:Option Expr} {tl th:TO} {pos p2:Pos}
theorem L0:PO X none MU:=by
 intro a s b H Q I h;rw[evalPart_none];exact ir ⟨none,H,I, .none,h⟩
theorem L3(h:PE X e te):PO X (some e) (Um te):=by
 intro a s b H Q I hw;rw[evalPart_some];refine thn (h a s b H _ I hw) λu l c=>?_;rfl';obtain⟨x,f,g,j,k⟩:=c;obtain⟨i,rfl,q⟩:=k;obtain⟨t,rfl⟩:=j;ac_rfl;exact⟨some i,f,g, .int i t,q⟩
def EF(X:Cx)(r:V->Option Int->Option Int->Hp->VK->Prop):Prop:=
 ∀(a:List (Addr×Obj))(s:Shared)(b:St)(H:Hp)(x:V)(v c d:Value)(lo f:Option Int)(g:Addr)(Q:VK),Inv X a b H s->RelV x v->s.heap.IsSliceOf g c d .none->IsPart c lo->IsPart d f->r x lo f H Q->
  ∃T id,typeLookup (.type T) "__getitem__"=pure (some (.builtin id))/\s.TypeIs v T/\wpAny (model X.prog X.w) X.A (getItem v (.ref g)) (EP X a b Q) X.xe s
theorem EF.or(h:EF X r)(n:EF X c):EF X (λx lo b H Q=>r x lo b H Q\/c x lo b H Q):=by
 intro a s d H x v f g lo b i Q I j k l m q
 rcases q with q|q
 ·exact h a s d H x v f g lo b i Q I j k l m q
 ·exact n a s d H x v f g lo b i Q I j k l m q
def tSl(r:V->Option Int->Option Int->Hp->VK->Prop)(b:TE)(c d:TO):TE:=λa H Q=>b a H λx f=>c a f λl g=>d a g λu h=>r x l u h Q
theorem Jb(m:EF X r)(n:PE X e te)(o:PO X lo tl)(p:PO X hi th):PE X (.Subscript e (.Slice lo hi none p2) pos) (tSl r te tl th):=by
 intro a s d H Q I h;refine Subscript_ (thn (n a s d H _ I h) λv t f=>?_);rfl';obtain⟨x,y,z,A,B⟩:=f;ac_rfl;refine wpAny_Slice (thn (o a t d y _ z B) λi C ⟨l,E,F,G,J⟩=>thn (p a C d E _ F J) λj c f=>?_);rfl';obtain⟨u,k,L,M,N⟩:=f;ac_rfl;rw[evalPart_none];refine ir ?_;have O:Inv X a d k {c with heap:=c.heap.push {cls:= .type "slice",data:= .fields #[i,j, .none]}}:=L.kept (t':=c.toks) λb Y q=>AC _ q
 obtain⟨T,id,R,S,U⟩:=m a {c with heap:=c.heap.push {cls:= .type "slice",data:= .fields #[i,j, .none]}} d k x v i j l u c.heap.objs.size Q O A (Heap.IsSliceOf.new ..) G M N
 exact tail_any (ops:= [.ref c.heap.objs.size,v]) S R U (by with_unfolding_all rfl)
def vv(a:List V)(lo b:Option Int):List V:=(a.drop (HT.cv a.length 0 lo)).take (HT.cv a.length a.length b-HT.cv a.length 0 lo)
theorem sT(a:List V)(lo b:Option Int):(vv a lo b).length<=a.length:=by
 unfold vv;rw[lF,zc];omega
def aa3(K:PySem.W.Frag):V->Option Int->Option Int->Hp->VK->Prop:=λx lo c H Q=>∃a b,x= .ref a/\eW K H a b/\
 ¬(HT.cv b.length 0 lo=0/\HT.cv b.length b.length c=b.length)/\∀p,H p=none->Q (.ref p) (upd H p (.tup (vv b lo c)))
theorem O3:EF X (aa3 X.K):=by
 intro i s w H x v y z lo f A Q I l m n p h;rfl';obtain⟨a,d,rfl,u,hw,q⟩:=h;subst l;obtain⟨g,r,j,k⟩:=I.tuple u;have c:g.toArray.size=d.length:=by rw[cS];exact r.length.symm
 ac_rfl;refine⟨"tuple",_,ac7.lookup,j.typeIs,?_⟩;refine HT.rQ j m n p (by rw[c];exact hw) ?_ (by rw[c];exact k)
 rw[c];refine⟨.ref s.heap.objs.size,_,I.laid (t':=s.toks) (o:= .tup (vv d lo f)) (λb C q=>AC _ q) (bH _) ?_,rfl,q _ (I.hok.fresh (bH _))⟩;exact⟨jr (sT d lo f) k,_,(r.drop (HT.cv d.length 0 lo)).take (HT.cv d.length d.length f-HT.cv d.length 0 lo),IsTup.new _ _⟩
def T6(K:PySem.W.Frag):R2:=λx y H Q=>∃a b d c,x= .ref a/\y= .ref b/\eW K H a d/\eW K H b c/\d≠ []/\d.length+c.length<=sizeLine/\
 (c= []->Q (.ref a) H)/\(c≠ []->∀p,H p=none->Q (.ref p) (upd H p (.tup (d++c))))
theorem Vals.yq(r:Vals a b):b= []↔a= []:=by
 cases r with
 |nil=>simp
 |cons _ _=>simp
theorem LD:OpR X (binaryOp .Add) (T6 X.K):=by
 intro f s F H x y v u Q I i j h;rfl';obtain⟨a,b,l,m,rfl,rfl,n,p,r,g,t,A⟩:=h;subst i;subst j;obtain⟨B,d,C,_⟩:=I.tuple n;obtain⟨J,c,E,_⟩:=I.tuple p;ac_rfl;refine HT.JQ C E (λz=>r (d.yq.mp z)) (λz=>⟨.ref a,H,I,rfl,t (c.yq.mp z)⟩) (λz=>?_) (by rw[<-d.length,<-c.length];exact g)
 refine⟨.ref s.heap.objs.size,_,I.laid (t':=s.toks) (o:= .tup (l++m)) (λb L q=>AC _ q) (bH _) ?_,rfl,A (λw=>z (c.yq.mpr w)) _ (I.hok.fresh (bH _))⟩;exact⟨by rw[bZ];exact g,_,d.append c,IsTup.new _ _⟩
end
def jN(n:Nat)(i:Int):Option Nat:=if 0<=i then(if i<n then some i.toNat else none) else if-(n:Int)<=i then some (i+n).toNat else none
def fJ{a:Type}(b:List a)(i:Int):Option a:=(jN b.length i).bind λj=>b[j]?
theorem Dq(h:jN n i=some j):seqIndex? i n=some j/\j<n/\-(n:Int)<=i/\i<n:=by
 unfold jN at h
 by_cases b:0<=i
 ·rw[tz b] at h
  by_cases a:i<n
  ·rw[tz a] at h
   have e:i.toNat=j:=Da h;exact⟨by rw[seqIndex_of b a,e],by omega,by omega,a⟩
  ·rw[mo a] at h;cases h
 ·rw[mo b] at h
  by_cases a: -(n:Int)<=i
  ·rw[tz a] at h
   have e:(i+n).toNat=j:=Da h;exact⟨by rw[seqIndex_neg (by omega) a,e],by omega,a,by omega⟩
  ·rw[mo a] at h;cases h
theorem Co(h:fJ a i=some v):∃j,seqIndex? i a.length=some j/\a[j]? =some v/\j<a.length/\-(a.length:Int)<=i/\i<a.length:=by
 unfold fJ at h;cases e:jN a.length i with
 |none=>rw[e] at h;cases h
 |some j=>
  rw[e] at h;obtain⟨c,d,f,g⟩:=Dq e;exact⟨j,c,h,d,f,g⟩
theorem Cp{b:Type}{a:List b}{j:Nat}{v:b}(h:a[j]? =some v):fJ a (j:Int)=some v:=by
 have c:j<a.length:=(di.mp h).1
 have e:jN a.length (j:Int)=some j:=by
  unfold jN;rw[tz (by omega),tz (by omega)];simp
 unfold fJ;rw[e];exact h
def xk(b:Expr):Prop:=∀o i,subscripted b false o i=operate [o,i] (getItem o i)
def EB(X:Cx)(r:R2):Prop:=
 ∀(c a:Expr)(b:List (Addr×Obj))(s:Shared)(d:St)(H:Hp)(x y:V)(v u:Value)(Q:VK),Inv X b d H s->RelV x v->RelV y u->r x y H Q->
  subscripted a false v u=operate [v,u] (getItem v u)->wpAny (model X.prog X.w) X.A (subscriptTail c a v u) (EP X b d Q) X.xe s
def HB(X:Cx)(id:String)(r:V->List V->Hp->VK->Prop):Prop:=
 ∀(a:List (Addr×Obj))(s:Shared)(b:St)(H:Hp)(x:V)(c:List V)(v:Value)(d:List Value)(Q:VK),Inv X a b H s->RelV x v->Vals c d->r x c H Q->
  wpAny (model X.prog X.w) X.A (call (.builtin id) (v::d)) (EP X a b Q) X.xe s
section
variable {X:Cx} {a b:Expr} {ta tb:TE} {pos:Pos}
theorem EB.or(h:EB X r)(l:EB X f):EB X (λx y H Q=>r x y H Q\/f x y H Q):=by
 intro c d e s g H x y v u Q I i j q k
 rcases q with q|q
 ·exact h c d e s g H x y v u Q I i j q k
 ·exact l c d e s g H x y v u Q I i j q k
theorem LN(d:EB X r)(e:PE X a ta)(f:PE X b tb)(g:xk b):PE X (.Subscript a b pos) (MV r ta tb):=by
 intro c s i H Q I h;exact Subscript_ (JN e f I h λv u j x y k l m n q=>d a b c j i k x y v u Q l m n q (g _ _))
def aaX(K:PySem.W.Frag):R2:=λx y H Q=>∃p c i v,x= .ref p/\y= .int i/\cM K H p c/\fJ c i=some v/\Q v H
def aaY(K:PySem.W.Frag):R2:=λx y H Q=>∃p c i v,x= .ref p/\y= .int i/\eW K H p c/\fJ c i=some v/\Q v H
theorem Dr:EB X (aaX X.K):=by
 intro e f c s m H x y v u Q I B C h n;rfl';obtain⟨p,T,i,z,rfl,rfl,F,G,q⟩:=h;subst B;obtain⟨t,rfl⟩:=C;obtain⟨g,r,k,U⟩:=I.list F;obtain⟨j,d,J,Y,L,M⟩:=Co G;obtain⟨w,o,N⟩:=r.get J;have O:=r.length;have Z:=qE;have fin:EP X c m Q w s:=⟨z,H,I,N,q⟩;ac_rfl
 by_cases A:0<=i
 ·have l:i.toNat=j:=by
   rw[seqIndex_of A M] at d;exact Da d
  exact item_listR k.isList A (by omega) (by rw[l];simpa using o) fin n
 ·have l:(i+(g.toArray.size:Int)).toNat=j:=by
   rw[seqIndex_neg (by omega) L] at d
   rw[cS,<-O];exact Da d
  exact ad1 (x:=w) k.isList.typeIs slot_list_getitem.lookup
   (wpAny_getItem_list_neg (Q:=λr R=>r=w/\EP X c m Q r R) k.isList (by omega) (by rw[cS]<;>omega) (by omega) (by rw[l];simpa using o) ⟨rfl,fin⟩) n
theorem NW:EB X (aaY X.K):=by
 intro d e c s f H x y v u Q I k l h m;rfl';obtain⟨p,N,i,z,rfl,rfl,o,A,q⟩:=h;subst k;obtain⟨t,rfl⟩:=l;obtain⟨B,r,g,O⟩:=I.tuple o;obtain⟨j,C,E,R,S,T⟩:=Co A;obtain⟨w,F,G⟩:=r.get E;have J:=r.length;have U:=qE;have fin:EP X c f Q w s:=⟨z,H,I,G,q⟩;ac_rfl
 exact ad1 (x:=w) g.typeIs slot_tuple_getitem.lookup
  (getItem_tuple (j:=j) (Q:=λr L=>r=w/\EP X c f Q r L) g (by omega) (by omega) (by rw[cS,<-J];exact C) (by simpa using F) ⟨rfl,fin⟩) m
theorem DB(c:List Value)(n j:Nat)(u:Value):Obj.mapSeq (·.setIfInBounds j u) {cls:= .type "list",data:= .seq c.toArray n}={cls:= .type "list",data:= .seq (c.set j u).toArray n}:=by
 simp[Obj.mapSeq]
theorem Inv.lst{c:List (Addr×Obj)}{f:St}{H:Hp}{s:Shared}{p:Addr}{d:List V}(I:Inv X c f H s)(h:H p=some (.lst d)):
  ∃(its:List Value)(n:Nat),Vals d its/\s.heap.get? p=some {cls:= .type "list",data:= .seq its.toArray n}/\d.length<=sizeLine:=by
 obtain⟨z,its,n,r,e⟩:=I.hok p _ h;exact⟨its,n,r,e,z⟩
theorem Inv.Oc{d:List (Addr×Obj)}{j:St}{H:Hp}{s:Shared}{p:Addr}{l g:List V}{its c:List Value}{n i:Nat}{f:Obj->Obj}(I:Inv X d j H s)(h:H p=some (.lst l))
  (m:s.heap.get? p=some {cls:= .type "list",data:= .seq its.toArray n}) (k:f {cls:= .type "list",data:= .seq its.toArray n}={cls:= .type "list",data:= .seq c.toArray i}) (r:Vals g c) (o:g.length<=sizeLine) (t:Nat):
  Inv X d j (upd H p (.lst g)) {s with heap:=s.heap.update p f,toks:=t}:=by
 have e:(s.heap.update p f).get? p=some {cls:= .type "list",data:= .seq c.toArray i}:=by
  rw[Pi f m (by rw[k]<;>rfl),k]
 refine I.write (x:=p) (e:=p) (by rw[h];trivial) (.inl rfl) (λb u v q=>(KB _ _ (Ne.symm v)).trans q) ⟨_,e⟩ ?_
 exact⟨o,c,i,r,e⟩
def T8:V->V->V->Hp->(Hp->Prop)->Prop:=λo i v H Q=>∃p c k j,o= .ref p/\i= .int k/\H p=some (.lst c)/\jN c.length k=some j/\Q (upd H p (.lst (c.set j v)))
theorem set_list:Py X T8:=by
 intro c s A H o i v M N u Q I B C E h;rfl';obtain⟨p,G,k,j,rfl,rfl,m,J,q⟩:=h;subst B;obtain⟨t,rfl⟩:=C;obtain⟨d,n,r,f,L⟩:=I.lst m;obtain⟨e,R,w,x⟩:=Dq J;have g:=r.length;have S:=qE;ac_rfl
 have y:Inv X c A (upd H p (.lst (G.set j v))) {s with heap:=s.heap.update p (Obj.mapSeq (·.setIfInBounds j u))}:=
  I.Oc m f (DB d n j u) (r.set E j) (by rw[f9];exact L) s.toks
 by_cases z:0<=k
 ·have l:k.toNat=j:=by
   rw[seqIndex_of z x] at e;exact Da e
  exact PySem.W.ki_setAt f z (by omega) (by rw[cS,<-g];exact x) (by rw[l];exact⟨_,y,q⟩)
 ·have l:(k+(d.toArray.size:Int)).toNat=j:=by
   rw[seqIndex_neg (by omega) w] at e
   rw[cS,<-g];exact Da e
  exact PySem.W.ki_setBack f (by omega) (by rw[cS,<-g];exact w) (by omega) (by rw[l];exact⟨_,y,q⟩)
theorem zD(lo c:Option Int)(n:Nat):(sliceBounds lo c none n).1=((HT.cv n 0 lo:Nat):Int)/\(sliceBounds lo c none n).2.1=((HT.cv n n c:Nat):Int)/\(sliceBounds lo c none n).2.2=1:=by
 refine⟨?_,?_,rfl⟩
 ·cases lo with
  |none=>simp[sliceBounds,HT.cv]
  |some i=>
   simp only[sliceBounds,HT.cv,Option.getD_none,show(1:Int)>0 by decide,acs]
   by_cases h:i<0
   ·simp only[h,acs]<;>omega
   ·simp only[h,P3]<;>omega
 ·cases c with
  |none=>simp[sliceBounds,HT.cv]
  |some i=>
   simp only[sliceBounds,HT.cv,Option.getD_none,show(1:Int)>0 by decide,acs]
   by_cases h:i<0
   ·simp only[h,acs]<;>omega
   ·simp only[h,P3]<;>omega
theorem yP(c:List Value)(lo d:Option Int):slicePick c.toArray lo d none=((c.drop (HT.cv c.length 0 lo)).take (HT.cv c.length c.length d-HT.cv c.length 0 lo)).toArray:=by
 obtain⟨e,f,g⟩:=zD lo d c.toArray.size;unfold slicePick;rw[e,f,g];simp only[sliceRange_one,pick_run,cS]<;>rfl
def aa2(K:PySem.W.Frag):V->Option Int->Option Int->Hp->VK->Prop:=λx lo d H Q=>∃a c,x= .ref a/\cM K H a c/\∀p,H p=none->Q (.ref p) (upd H p (.lst (vv c lo d)))
theorem Mu:EF X (aa2 X.K):=by
 intro f s u H x v w y lo e z Q I i j k l h;rfl';obtain⟨a,c,rfl,n,q⟩:=h;subst i;obtain⟨p,r,g,t⟩:=I.list n;have d:=r.length;ac_rfl;refine⟨"list",_,slot_list_getitem.lookup,g.isList.typeIs,?_⟩;refine wpAny_getItem_list_slice g.isList j k l .none (by simp) ?_ (by rw[cS]<;>omega)
 rw[yP,<-d];refine⟨.ref s.heap.objs.size,_,I.laid (t':=s.toks) (o:= .lst (vv c lo e)) (λb B q=>AC _ q) (bH _) ?_,rfl,q _ (I.hok.fresh (bH _))⟩;exact⟨jr (sT c lo e) t,_,0,(r.drop (HT.cv c.length 0 lo)).take (HT.cv c.length c.length e-HT.cv c.length 0 lo),Gc _ rfl⟩
def hZ:V->Bool
 | .bA=>true
 | .bl _=>true
 | .int _=>true
 | .str _=>true
 |_=>false
def xN:V->V->Bool
 | .bA, .bA=>true
 | .bl a, .bl b=>a==b
 | .bl a, .int b=>(if a then 1 else 0)==b
 | .int a, .bl b=>a==(if b then 1 else 0)
 | .int a, .int b=>a==b
 | .str a, .str b=>a==b
 |_,_=>false
theorem Ny{A:Around}{s:Shared}{y x:V}{u v:Value}(ry:RelV y u)(rx:RelV x v)(fy:hZ y=true)(fx:hZ x=true):SeqAt.EqAt A s u v (xN y x):=by
 cases y with
 |bA=>
  cases ry;cases x with
  |bA=>cases rx;exact SeqAt.EqAt.same _
  |bl b=>cases rx;exact SeqAt.EqAt.none_bool b
  |int b=>obtain⟨t,rfl⟩:=rx;exact SeqAt.EqAt.none_int b t
  |str b=>obtain⟨t,rfl⟩:=rx;exact SeqAt.EqAt.none_str b t
  |_=>exact absurd (show false=true from fx) cw
 |bl a=>
  subst ry;cases x with
  |bA=>cases rx;exact SeqAt.EqAt.bool_none a
  |bl b=>cases rx;exact SeqAt.EqAt.bool_bool a b
  |int b=>obtain⟨t,rfl⟩:=rx;exact SeqAt.EqAt.bool_int a b t
  |str b=>obtain⟨t,rfl⟩:=rx;exact SeqAt.EqAt.bool_str a b t
  |_=>exact absurd (show false=true from fx) cw
 |int a=>
  obtain⟨t',rfl⟩:=ry;cases x with
  |bA=>cases rx;exact SeqAt.EqAt.int_none a t'
  |bl b=>cases rx;exact SeqAt.EqAt.int_bool a t' b
  |int b=>obtain⟨t,rfl⟩:=rx;exact SeqAt.EqAt.int_int a t' b t
  |str b=>obtain⟨t,rfl⟩:=rx;exact SeqAt.EqAt.int_str a t' b t
  |_=>exact absurd (show false=true from fx) cw
 |str a=>
  obtain⟨t',rfl⟩:=ry;cases x with
  |bA=>cases rx;exact SeqAt.EqAt.str_none a t'
  |bl b=>cases rx;exact SeqAt.EqAt.str_bool a t' b
  |int b=>obtain⟨t,rfl⟩:=rx;exact SeqAt.EqAt.str_int a t' b t
  |str b=>obtain⟨t,rfl⟩:=rx;exact SeqAt.EqAt.str_str a t' b t
  |_=>exact absurd (show false=true from fx) cw
 |_=>exact absurd (show false=true from fy) cw
def qJ(x:V)(u:Value):Bool:=match u with
 | .none=>xN .bA x
 | .bool b=>xN (.bl b) x
 | .int i _=>xN (.int i) x
 | .str z _=>xN (.str z) x
 |_=>false
theorem wM{x y:V}{u:Value}(r:RelV y u)(f:hZ y=true):qJ x u=xN y x:=by
 cases y with
 |bA=>cases r;rfl
 |bl b=>cases r;rfl
 |int i=>obtain⟨t,rfl⟩:=r;rfl
 |str z=>obtain⟨t,rfl⟩:=r;rfl
 |_=>exact absurd (show false=true from f) cw
theorem oV:∀{c:List V}{d:List Value},Vals c d->c.all hZ=true->d.any (qJ x)=c.any λy=>xN y x
 |_,_, .nil,_=>rfl
 |y::c,u::d, .cons r t,f=>by
  rw[acX,v3] at f;rw[acY,acY,wM r f.1,oV t f.2]
theorem j3(g:RelV x v)(h:hZ x=true):∀{d:List V}{e:List Value},Vals d e->d.all hZ=true->∀u∈e,SeqAt.EqAt A s u v (qJ x u)
 |_,_, .nil,_=>λu c=>by cases c
 |y::d,u::e, .cons r t,f=>λi c=>by
  rw[acX,v3] at f
  rcases br.mp c with rfl|c
  ·rw[wM r f.1];exact Ny r g f.1 h
  ·exact j3 g h t f.2 i c
def NU(x:V)(c:List V):Bool:=c.any λy=>xN y x
def T7(K:PySem.W.Frag)(neg:Bool):R2:=λx y H Q=>∃p c,y= .ref p/\(cM K H p c\/eW K H p c)/\hZ x=true/\c.all hZ=true/\Q (.bl (if neg then !NU x c else NU x c)) H
theorem FR:OpR X (compareOp .In) (T7 X.K false):=by
 intro f s m H x y v u Q I g j h;rfl';obtain⟨p,o,rfl,d,i,fs,q⟩:=h;subst j;ac_rfl
 rcases d with d|d
 ·obtain⟨c,r,e,l⟩:=I.list d
  refine SeqAt.in_listAt (qJ x) e.isList (λw hw=>j3 g i r fs w (by simpa using hw)) ⟨.bl _,H,I,rfl,?_⟩
  rw[show c.toArray.any (qJ x)=c.any (qJ x) by simp,oV r fs]
  exact q
 ·obtain⟨c,r,e,l⟩:=I.tuple d
  refine SeqAt.in_tupleAt (qJ x) e (λw hw=>j3 g i r fs w (by simpa using hw)) ⟨.bl _,H,I,rfl,?_⟩
  rw[show c.toArray.any (qJ x)=c.any (qJ x) by simp,oV r fs]
  exact q
theorem zB:OpR X (compareOp .NotIn) (T7 X.K true):=by
 intro f s m H x y v u Q I g j h;rfl';obtain⟨p,o,rfl,d,i,fs,q⟩:=h;subst j;ac_rfl
 rcases d with d|d
 ·obtain⟨c,r,e,l⟩:=I.list d
  refine SeqAt.notIn_listAt (qJ x) e.isList (λw hw=>j3 g i r fs w (by simpa using hw)) ⟨.bl _,H,I,rfl,?_⟩
  rw[show c.toArray.any (qJ x)=c.any (qJ x) by simp,oV r fs]
  exact q
 ·obtain⟨c,r,e,l⟩:=I.tuple d
  refine SeqAt.notIn_tupleAt (qJ x) e (λw hw=>j3 g i r fs w (by simpa using hw)) ⟨.bl _,H,I,rfl,?_⟩
  rw[show c.toArray.any (qJ x)=c.any (qJ x) by simp,oV r fs]
  exact q
theorem zi:cK X (.builtin "len") (λj H Q=>∃p d,j= [.ref p]/\(cM X.K H p d\/eW X.K H p d)/\Q (.int d.length) H):=by
 intro k s o H j t Q I r h;rfl';obtain⟨p,d,rfl,e,q⟩:=h;obtain⟨u,rfl,m⟩:=vals1 r;subst m;have w:=qE;ac_rfl
 rcases e with e|e
 ·obtain⟨f,g,i,n⟩:=I.list e
  have c:=g.length;exact Calls.call_len_list i.isList (by simp only[cS]<;>omega) ⟨.int d.length,H,I.tok _,⟨s.toks+1,by rw[cS,c]⟩,q⟩
 ·obtain⟨f,g,i,n⟩:=I.tuple e
  have c:=g.length;exact len_tuple i (by simp only[cS]<;>omega) ⟨.int d.length,H,I.tok _,⟨s.toks+1,by rw[cS,c]⟩,q⟩
theorem qL:cK X (.type "list") (λB H Q=>∃p f,B= [.ref p]/\(cM X.K H p f\/eW X.K H p f)/\∀l,H l=none->Q (.ref l) (upd H l (.lst f))):=by
 intro j s E H B G Q I r h;obtain⟨p,f,rfl,k,q⟩:=h;obtain⟨u,rfl,F⟩:=vals1 r;subst F
 have fin:∀(c:List Value),Vals f c->f.length<=sizeLine->∀(d:Heap)(g:Nat),(∀b C,s.heap.get? b=some C->d.get? b=some C)->
   d.get? s.heap.objs.size=some {cls:= .type "list",dict:=none,data:= .seq c.toArray g,slots:= #[]}->EP X j E Q (.ref s.heap.objs.size) {s with heap:=d}:=λc i m d g t e=>
  ⟨.ref s.heap.objs.size,_,I.laid (t':=s.toks) t (bH _) (show cV X.prog X.w _ d _ (.lst f) from⟨m,c,g,i,e⟩),rfl,q _ (I.hok.fresh (bH _))⟩
 rcases k with k|k
 ·obtain⟨c,i,x,m⟩:=I.list k
  have v:=i.length;obtain⟨o,y,z,n,A⟩:=x.isList;exact call_list_seq p (.inl rfl) y z A (λd g t e=>fin c i m d g t e) (by simp only[cS]<;>omega)
 ·obtain⟨c,i,x,m⟩:=I.tuple k
  have v:=i.length;obtain⟨o,y,z,n,A⟩:=x;exact call_list_seq p (.inr rfl) y z A (λd g t e=>fin c i m d g t e) (by simp only[cS]<;>omega)
def Po(K:PySem.W.Frag)(T:String)(x:V)(H:Hp):Prop:=match x with
 | .str _=>T="str"
 | .int _=>T="int"
 | .ref p=>(T="list"/\∃d,cM K H p d)\/(T="tuple"/\∃o,K.lookup p=some o/\o.cls= .type "tuple"/\o.dict=none)\/
   (T="dict"/\((∃c,H p=some (.dK c))\/∃c,H p=some (.dT c)))\/(T="set"/\∃S n,H p=some (.set S n))
 |_=>False
theorem Hx(I:Inv X g q H s)(r:RelV x v)(h:Po X.K T x H):
  s.TypeIs v T/\∀a,v= .ref a->∃l,s.heap.get? a=some l/\l.dict=none:=by
 cases x with
 |str z=>
  obtain⟨t,rfl⟩:=r;cases(show T="str" from h);exact⟨typeIs_str s z t,λ_ e=>nomatch e⟩
 |int i=>
  obtain⟨t,rfl⟩:=r;cases(show T="int" from h);exact⟨typeIs_int s i t,λ_ e=>nomatch e⟩
 |ref p=>
  subst r
  rcases h with ⟨rfl,B,u⟩ | ⟨rfl,o,d,w,j⟩ | ⟨rfl,d⟩ | ⟨rfl,S,n,d⟩
  ·obtain⟨y,_,m,_⟩:=I.list u
   refine⟨m.isList.typeIs,λa e=>?_⟩;cases e;obtain⟨o,n,e,c,j,_⟩:=m;exact⟨o,e,j⟩
  ·refine⟨⟨o,I.jy p o d,w⟩,λa e=>?_⟩
   cases e;exact⟨o,I.jy _ o d,j⟩
  ·have z:∃o,s.heap.get? p=some o/\o.ExactDict:=by
    rcases d with ⟨A,d⟩ | ⟨A,d⟩
    ·obtain⟨_,_,_,_,o,_,_,e,f,_⟩:=I.hok p _ d
     exact⟨o,e,f⟩
    ·obtain⟨_,_,_,_,o,_,_,e,f,_⟩:=I.hok p _ d
     exact⟨o,e,f⟩
   obtain⟨o,e,f⟩:=z;refine⟨⟨o,e,f.1⟩,λa k=>?_⟩;cases k;exact⟨o,e,f.2.1⟩
  ·obtain⟨o,_,_,_,e,f,_⟩:=I.hok p _ d
   refine⟨⟨o,e,f.1⟩,λa k=>?_⟩;cases k;exact⟨o,e,f.2.1⟩
 |_=>exact False.elim h
def abH(K:PySem.W.Frag)(T:String)(r:V->List V->Hp->VK->Prop)(d:TE):TE:=λe H Q=>d e H λx c=>Po K T x c/\r x [] c Q
def tBM(K:PySem.W.Frag)(T:String)(r:V->List V->Hp->VK->Prop)(e:TE)(t:TA):TE:=λc H Q=>e c H λx d=>Po K T x d/\t c d λf g=>r x f g Q
variable {o e:Expr} {es:List Expr} {to:TE} {t:TA} {name:Str} {apos aP:Pos} {T id:String} {r:V->List V->Hp->VK->Prop}
theorem Hg(i:PlainAttrs T)(slot:Slot T name id)(j:typeOf (.builtin id)=pure (.type "method_descriptor"))(k:HB X id r)(l:PE X o to)
  (m:attributeBase o name X.env (eval o X.env)=eval o X.env:=by rfl) (n:(apos.endLine==aP.line)=true:=by rfl):PE X (.Call (.Attribute o name apos) [] [] aP) (abH X.K T r to):=by
 intro c s d H Q I h;refine wpAny_Call_method0_late m n (thn (l c s d H _ I h) λv p q=>?_);rfl';obtain⟨x,w,f,g,y,z⟩:=q;obtain⟨A,B⟩:=Hx f g y;ac_rfl;exact⟨T,id,i,slot,j,A,B,acw rfl (PySem.evalArgs_none (k c p d w x [] v [] Q f g .nil z))⟩
theorem uW(l:PlainAttrs T)(slot:Slot T name id)(m:typeOf (.builtin id)=pure (.type "method_descriptor"))(n:HB X id r)(p:PE X o to)(q:PA X (e::d) t)
  (u:attributeBase o name X.env (eval o X.env)=eval o X.env:=by rfl)
  (w:((backTo f (starEach (e::d) X.env)).all (λx=>!x.1)&&(backToKw f (keywordEach [] X.env)).all (λx=>x.1.isSome)
   &&decide ((e::d).length+([]:List Keyword).length+(if ([]:List Keyword).isEmpty then 0 else 1)<30))=true:=by rfl)
  (y:(apos.endLine==f.line)=true:=by rfl) (z:starEach (e::d) X.env=(false,eval e X.env)::starEach d X.env:=by rfl) (A:(backTo f (starEach d X.env)).any (·.1)=false:=by rfl):
  PE X (.Call (.Attribute o name apos) (e::d) [] f) (tBM X.K T r to t):=by
 intro c s g H Q I h;refine acS u w y rfl (thn (p c s g H _ I h) λv B C=>?_);rfl';obtain⟨x,F,i,j,G,J⟩:=C;obtain⟨L,M⟩:=Hx i j G;ac_rfl;refine⟨T,id,l,slot,m,L,M,?_⟩;have k:=q f c B g F _ i J;rw[z] at k ⊢;refine acw (by show(false|| (backTo f (starEach d X.env)).any (·.1))=false;rw[A]<;>rfl) (ac9 ?_)
 exact thn k λN O ⟨R,S,U,Y,Z⟩=>n c O g S x R v N Q U j Y Z
end
def HA(X:Cx)(id:String)(r:V->List V->Hp->VK->Prop):Prop:=
 ∀(a:List (Addr×Obj))(s:Shared)(b:St)(H:Hp)(x:V)(c:List V)(v:Value)(d:List Value)(Q:VK),Inv X a b H s->RelV x v->Vals c d->r x c H Q->
  wpAny (model X.prog X.w) X.A (call (.builtin id) (v::d)) (EP X a b Q) X.xe s
theorem Vals.one(h:Vals [x] a):∃u,a= [u]/\RelV x u:=by
 cases h with|cons r t=>cases t;exact⟨_,rfl,r⟩
theorem Vals.two(h:Vals [x,y] a):∃u v,a= [u,v]/\RelV x u/\RelV y v:=by
 cases h with
 |cons r t=>
  obtain⟨v,rfl,q⟩:=Vals.one t;exact⟨_,v,rfl,r,q⟩
theorem Vals.zero:∀{a:List Value},Vals [] a->a= []
 |_, .nil=>rfl
theorem Vals.dropLast(h:Vals a b):Vals a.dropLast b.dropLast:=by
 induction h with
 |nil=>exact .nil
 |cons r t c=>
  cases t with
  |nil=>exact .nil
  |cons q d=>exact .cons r c
theorem Vals.rep(h:Vals a b):∀k:Nat,Vals (List.replicate k a).flatten (List.replicate k b).flatten
 |0=> .nil
 |k+1=>by
  rw[vW,vW,iI,iI];exact Vals.append h (Vals.rep h k)
theorem CY(l:List c):l.eraseIdx (l.length-1)=l.dropLast:=by
 induction l with
 |nil=>rfl
 |cons a r d=>
  cases r with
  |nil=>rfl
  |cons b r=>
   have e:(a::b::r).length-1=((b::r).length-1)+1:=by
    have f:(a::b::r).length=r.length+2:=rfl;have g:(b::r).length=r.length+1:=rfl;omega
   rw[e,B0,d]
   all_goals rfl
theorem foldl_rep(a:List Value):∀(k:Nat)(b:List Value),
  List.foldl (λc d=>c++d) b.toArray (List.replicate k a.toArray)=(b++(List.replicate k a).flatten).toArray
 |0,b=>by simp
 |k+1,b=>by
  have e:b.toArray++a.toArray=(b++a).toArray:=by simp
  have f:(b++a)++(List.replicate k a).flatten=b++(List.replicate (k+1) a).flatten:=by
   rw[vW,iI,iJ]
  rw[<-f,<-foldl_rep a k (b++a),<-e,vW,List.foldl_cons]
section
variable {X:Cx} {pins:List (Addr×Obj)} {σ:St} {H:Hp} {s:Shared} {l b:Addr} {xs ys zs:List V}
theorem Inv.Du{its its':List Value}{f:Array Value->Array Value}(I:Inv X pins σ H s)(a:H l=some (.lst xs))
  (e:s.heap.get? l=some {cls:= .type "list",data:= .seq its.toArray n}) (c:f its.toArray=its'.toArray) (d:Vals ys its') (g:ys.length<=sizeLine):
  Inv X pins σ (upd H l (.lst ys)) {s with heap:=s.heap.update l (Obj.mapSeq f),toks:=t'}:=by
 have q:=PySem.IsL.update e f;rw[c] at q;refine I.write (x:=l) (e:=l) (by rw[a];exact trivial) (.inl rfl) (λj u h i=>(KB s.heap (Obj.mapSeq f) (Ne.symm h)).trans i) ⟨_,q⟩ ?_
 exact⟨g,its',_,d,q⟩
theorem Inv.GY{its:List Value}{t':Nat}(I:Inv X pins σ H s)(a:Vals ys its)(c:ys.length<=sizeLine):
  Inv X pins σ (upd H s.heap.objs.size (.lst ys)) {s with heap:=s.heap.push {cls:= .type "list",data:= .seq its.toArray},toks:=t'}:=
 I.laid (λ_ _ q=>AC _ q) (bH _) ⟨c,its,0,a,Gc _ rfl⟩
theorem Inv.fresh(I:Inv X pins σ H s):H s.heap.objs.size=none:=I.hok.fresh (bH _)
theorem Inv.pD(I:Inv X pins σ H s)(a:H l=some (.lst xs)):xs.length<=sizeLine/\∃(its:List Value)(n:Nat),Vals xs its/\xs.length=its.length/\s.heap.get? l=some {cls:= .type "list",data:= .seq its.toArray n}:=by
 obtain⟨z,its,n,r,e⟩:=I.hok l _ a;exact⟨z,its,n,r,r.length,e⟩
theorem Au(h:n<=sizeLine):Builtin.List.listTooLong n=false:=by
 unfold Builtin.List.listTooLong;exact FM (by omega)
end
section
variable {X:Cx}
def Mf:V->List V->Hp->VK->Prop:=λx b H Q=>∃l a y,x= .ref l/\b= [y]/\H l=some (.lst a)/\a.length<sizeLine/\Q .bA (upd H l (.lst (a++ [y])))
theorem kj:HA X "list.append" Mf:=by
 intro b s j H x k v m Q I d f h;rfl';obtain⟨l,p,y,rfl,rfl,c,t,q⟩:=h;subst d;obtain⟨u,rfl,i⟩:=f.one;obtain⟨z,a,n,r,w,e⟩:=I.pD c;ac_rfl;refine acv F.slot_list_append ⟨_,e,rfl⟩ F.entry_list_append (F.args_list_append_2 _ _) (PySem.list_append l a.toArray n u (by rw[cS];omega)) ⟨e,?_⟩
 refine⟨.bA,_,I.Du (its':=a++ [u]) c e (by simp) (r.append (.cons i .nil)) ?_,rfl,q⟩
 rw[bZ,jJ];omega
def Mg:V->List V->Hp->VK->Prop:=λx d H Q=>∃l b a c,x= .ref l/\d= [.ref b]/\H l=some (.lst a)/\H b=some (.lst c)/\a.length+c.length<=sizeLine/\Q .bA (upd H l (.lst (a++c)))
theorem FH:HA X "list.extend" Mg:=by
 intro d s A H x B v C Q I g i h;obtain⟨l,b,E,G,rfl,rfl,f,j,J,q⟩:=h;cases g;obtain⟨u,rfl,k⟩:=i.one;cases k;obtain⟨z,a,n,r,L,e⟩:=I.pD f;obtain⟨M,c,m,o,p,t⟩:=I.pD j;have w:a.toArray.size+c.toArray.size<=sizeLine:=by rw[cS,cS];omega
 have y:¬(!a.toArray.isEmpty&&Builtin.List.listTooLong (a.toArray.size+c.toArray.size))=true:=by
  rw[Au w,ad9];exact cw
 refine acv F.slot_list_extend ⟨_,e,rfl⟩ F.entry_list_extend (F.args_list_extend_2 _ _)
  (AutoSeq1.list_extend_list_list_0 l a.toArray n b c.toArray m y (by rw[cS];omega) (by omega)) ⟨e,t,?_⟩
 refine⟨.bA,_,I.Du (its':=a++c) f e (by simp) (r.append o) ?_,rfl,q⟩
 rw[bZ];omega
def aa0:V->List V->Hp->VK->Prop:=λx b H Q=>∃l a y,x= .ref l/\b= []/\H l=some (.lst a)/\a[a.length-1]? =some y/\Q y (upd H l (.lst a.dropLast))
theorem Oe:HA X "list.pop" aa0:=by
 intro b s t H x w v A Q I d f h;rfl';obtain⟨l,C,y,rfl,rfl,c,i,q⟩:=h;subst d;have j:=f.zero;subst j;obtain⟨z,a,n,r,k,e⟩:=I.pD c;obtain⟨u,m,o⟩:=r.get i;ac_rfl
 have p:a.toArray[a.toArray.size-1]? =some u:=by
  show a.toArray[a.length-1]? =some u;rw[<-kG,<-k];exact m
 refine acv F.slot_list_pop ⟨_,e,rfl⟩ F.entry_list_pop (F.args_list_pop_1 _) (MeetsSeq.list_pop_last l a.toArray n u p (by rw[cS];omega)) ⟨e,?_⟩
 refine⟨y,_,I.Du (its':=a.dropLast) c e ?_ r.dropLast ?_,o,q⟩
 ·show a.toArray.eraseIdxIfInBounds (a.toArray.size-1)=a.dropLast.toArray
  rw[cS,List.eraseIdxIfInBounds_toArray,CY]
 ·rw[List.length_dropLast]
  omega
def OV:V->List V->Hp->VK->Prop:=λx a H Q=>∃l b,x= .ref l/\a= []/\H l=some (.lst b)/\Q .bA (upd H l (.lst []))
theorem IQ:HA X "list.clear" OV:=by
 intro b s i H x j v k Q I d f h;obtain⟨l,m,rfl,rfl,c,q⟩:=h;cases d;have g:=f.zero;subst g;obtain⟨z,a,n,r,o,e⟩:=I.pD c;refine acv F.slot_list_clear ⟨_,e,rfl⟩ F.entry_list_clear (F.args_list_clear_1 _) (AutoSeq1.list_clear_list_0 l a.toArray n (by rw[cS];omega)) ⟨e,?_⟩
 exact⟨.bA,_,I.Du (its':= []) (ys:= []) c e rfl .nil (dS _),rfl,q⟩
def aaV:R2:=λx y H Q=>∃l b a c,x= .ref l/\y= .ref b/\H l=some (.lst a)/\H b=some (.lst c)/\a.length+c.length<=sizeLine/\∀p,H p=none->Q (.ref p) (upd H p (.lst (a++c)))
theorem BD:OpR X (binaryOp .Add) aaV:=by
 intro c s w H x y v u Q I f g h;rfl';obtain⟨l,b,B,C,rfl,rfl,j,k,E,q⟩:=h;subst f;subst g;obtain⟨z,a,n,r,F,e⟩:=I.pD j;obtain⟨G,d,J,m,o,p⟩:=I.pD k;ac_rfl;refine PySem.P.add_list e p ?_ (by rw[cS,cS];omega)
 have t:a.toArray++d.toArray=(a++d).toArray:=by simp
 rw[t];exact⟨.ref _,_,I.GY (t':=s.toks) (r.append m) (by rw[bZ];omega),rfl,q _ I.fresh⟩
def aa1:R2:=λx y H Q=>∃l k a,x= .ref l/\y= .int k/\H l=some (.lst a)/\-(2^63)<=k/\k<2^63/\a.length*k.toNat<=sizeLine/\
 ∀p,H p=none->Q (.ref p) (upd H p (.lst (List.replicate k.toNat a).flatten))
theorem len_rep(a:List b)(k:Nat):(List.replicate k a).flatten.length=k*a.length:=by
 induction k with
 |zero=>simp
 |succ k c=>rw[vW,iI,bZ,c,Nat.succ_mul,adJ]
theorem Hf:OpR X (binaryOp .Mult) aa1:=by
 intro g s O H x y v u Q I j o h;rfl';obtain⟨l,k,S,rfl,rfl,w,A,B,i,q⟩:=h;subst j;obtain⟨t,rfl⟩:=o;obtain⟨z,b,n,r,C,e⟩:=I.pD w;have c:b.toArray.size*k.toNat<=sizeLine:=by rw[cS,<-C];exact i
 ac_rfl
 have E:¬b.toArray.size*k.toNat>(2^63-1) / 8:=by
  have:(sizeLine:Nat)<=(2^63-1) / 8:=by decide
  omega
 have G:¬(!Builtin.List.listFitsIndex k)=true:=by
  rw[fitsIndex_both A B];exact cw
 have J:¬Builtin.List.listTooLong (b.toArray.size*k.toNat)=true:=by
  rw[Au c];exact cw
 have L:List.foldl (λd f=>d++f) #[] (List.replicate (if b.toArray.isEmpty=true then 0 else k.toNat) b.toArray)=(List.replicate k.toNat b).flatten.toArray:=by
  have M:∀m:Nat,List.foldl (λd f=>d++f) #[] (List.replicate m b.toArray)=(List.replicate m b).flatten.toArray:=λm=>by
   have:=foldl_rep b m []
   rw[qu] at this;exact this
  rw[M];cases b with
  |nil=>simp
  |cons a Y=>rw[mo (by simp)]
 refine wpAny_binaryOp_repeat_ref (T:="list") (U:="int") (by decide) ⟨_,e,rfl⟩ (λN=>typeIs_int N k t) noFill_list_mul F.fills_int_mul F.slot_int_rmul repeat_list F.slot_int_index.lookup
  (acv F.slot_int_rmul (typeIs_int s k t) F.entry_int_rmul (F.args_int_rmul_2 _ _) (int___rmul___int_list k t l b.toArray n)
   ⟨e,rfl,⟨_,e,rfl⟩,acv F.slot_list_mul ⟨_,e,rfl⟩ F.entry_list_mul (F.args_list_mul_2 _ _) (AutoListH.list___mul___list_int_3 l b.toArray n k t G E J) ⟨e,?_⟩⟩)
 rw[L];exact⟨.ref _,_,I.GY (t':=s.toks) (r.rep k.toNat) (by rw[len_rep,Nat.mul_comm];exact i),rfl,q _ I.fresh⟩
end
section
variable {prog:Program} {w:World} {A:Around} {E:Value->Shared->Prop} {s:Shared}
end
section
variable {X:Cx}
end
end L2
namespace Uy
open PySem PySem.W PySem.Calls PyProof.Rows
theorem uI:∀(c:List Int)(d:List Value),WellAll P h d (c.map WData.int)->IntsAre d c:=by
 intro c
 induction c with
 |nil=>
  intro d w;rw[adI] at w;cases w;exact .nil
 |cons n c e=>
  intro d w;rw[dD] at w;cases w with
  |cons a b=>
   cases a;exact .cons _ _ (e _ b)
theorem F7{l:OpenLaw}{n:Nat}(o:l.most=some n){P:Params}{h:Heap}{args:List WData}{c:List Value}
  (j:l.row.toRowW.claim.pre args=true) (p:WellAll P h c args):
  ∃a k b,c= [Value.ref a]/\args= [WData.list (b.map WData.int)]/\h.get? a=some {cls:= .type "list",data:= .seq k.toArray}/\IntsAre k b/\b.length<=n:=by
 have i:WShape.hasAll [] args [.list .int]=true:=(pre_splitW j).1;have m:l.pre.holds [] {args:=args}=true:=(pre_splitW j).2;obtain⟨d,r,rfl,s,t⟩:=hasAllW_cons i;obtain rfl:=hasAllW_nil t;obtain⟨A,rfl,u⟩:=hasW_list s;obtain⟨b,rfl⟩:=items_int u
 have e:b.length<=n:=by
  unfold OpenLaw.pre at m
  have f:(WTm.not (.lt (.lit (.int (n:Int))) (.len (.arg 0)))).holds [] {args:= [.list (b.map .int)]}=true:=by
   have f:=(holds_andW m).1;rw[o] at f;exact f
  have g:=condW_of f (w_not (w_lt w_lit (w_len_list (w_arg rfl))));rw[aD] at g;refine lG λq=>?_;have v:(n:Int)<((b.length:Nat):Int):=by omega
  first
   | (rw[B v] at g;exact absurd g (by decide))
   | (simp at g;omega)
 cases p with
 |cons w x=>
  cases x;cases w with
  |list y z=>exact⟨_,_,b,rfl,rfl,y,uI b _ z,e⟩
theorem FY(l:OpenLaw)(args:List WData):l.row.toRowW.claim.post args (.bool true) args=true:=
 postW_of (r:=l.row.toRowW) (X:=(true==true))
  (show WShape.has [] (.bool true) .bool=true by first|rfl|decide|simp[WShape.has,WShape.arms,WShape.armsAll])
  (show(WTm.eq .res (.lit (.bool true))).value [] {args:=args,res:=some (.bool true),after:=args}=some (.bool (true==true)) from w_eq_bool (w_res rfl) w_lit) rfl
theorem A4{l:OpenLaw}{n:Nat}{q:Program}{c:List Str}{x:(Str->Option Value)->Heap->Prop}{y:World->Heap->Prop}{d:DefRec}
  (C:l.most=some n) (E:d.params.defaults= [])
  (call:∀(w:World)(e b:Shared)(m u:Str->Option Value)(j:Addr)(o:Obj)(v p g:Value)(a:Addr)(i:List Value)(s:List Int),
   Ground q c [] x w e m u b.heap->y w b.heap->
   b.heap.get? j=some o->o.data= .func (docDef d.name d.params d.body d.scope v p g)->b.heap.CodeRec p d.name->m d.name=some (.ref j)->
   b.heap.get? a=some {cls:= .type "list",data:= .seq i.toArray}->IntsAre i s->s.length<=n->b.gens= #[]->
   codeAny (model l.prog w) callerA (.call (.ref j) ⟨[.ref a],[]⟩) (λr t=>r= .ok (.ret (.bool true))/\OldK b.heap t.heap/\t.os=b.os/\AllBare t.gens) b):
  WalkO q c x y l.row.toRowW d [] (λf i=>PySem.call f i):=by
 intro w e b m u G Y j o v p g F kV H I J z L M A B as N O XZ Q R;obtain rfl:F= .none:=Dflts.none z E;obtain rfl:kV= .none:=Dflts.noKw z;rfl';obtain⟨a,i,s,rfl,rfl,T,h,k⟩:=F7 C N Q;ac_rfl;refine enter_call (acA (call w e b m u j o v p g a i s G Y H (fd_plain I) J L T h k M) λr t U=>?_);obtain⟨rfl,X,Z,h4⟩:=U;exact⟨.inl ⟨.bool true, .bool true,[],rfl,λ_=>rfl, .bool true,FY l _,λ_=>⟨List.Pairwise.nil,λ_ hm=>(nomatch hm)⟩⟩,X,Z,h4⟩
section
variable {prog:Program} {w:World} {A:Around} {E:Value->Shared->Prop} {s:Shared} {K:Frag}
end
end Uy
namespace L2
open PySem PySem.Spec PyProof.Rows
theorem sE:∀{a:List Value}{b:List Int},IntsAre a b->Vals (b.map V.int) a
 |_,_, .nil=> .nil
 |_,_, .cons n t h=> .cons ⟨t,rfl⟩ (sE h)
def JD(H:Hp):Prop:=∀b,H b=none\/∃o a,H b=some (.rP o (.lst a))
theorem IG{P:Program}{w:World}{K:PySem.W.Frag}{l E:Str->Option Value}{M:uu}{k:Nat}{G a:Addr}{N:FuncData}{x:Str}{O:Sp}{c:Shared}{j:List Value}{p:List Int}
  (Q:K.In c.heap) (R:c.heap.Ns mainGlobals l) (f:c.heap.Ns builtinsNs E) (I:∀x:Str,x≠"__name__"->E x=bootBuiltins x) (XM:c.heap.NoLimit) (hg:c.gens= #[])
  (B:c.heap.get? a=some {cls:= .type "list",data:= .seq j.toArray}) (S:IntsAre j p) (T:p.length<=sizeLine) (hr:dq k callerA)
  (F:∀base:Heap,K.In base->base.Ns mainGlobals l->FnOk P w K l base M k G N [x] O) (SH:∀(s:Shared)(u:Value),BindsTo s N ⟨[u],[]⟩ [(x,u)])
  (Dh:∀H:Hp,JD H->cM K H a (p.map V.int)->O [.ref a] H (λv _=>v= .bl true) λ_ _ _=>False)
  (Su:∀H e g,M [] H c (λ_ _ _=>False) e g->False):
  codeAny (model P w) callerA (.call (.ref G) ⟨[.ref a],[]⟩) (λr g=>r= .ok (.ret (.bool true))/\OldK c.heap g.heap/\g.os=c.os/\AllBare g.gens) c:=by
 have U:=sE S;have Y5:=S.length
 have i:∀H:Hp,JD H->cM K H a (p.map V.int)->jL P w H c.heap->(∀b,H b≠none->b=a)->(H a≠none->K.lookup a=none)->
   codeAny (model P w) callerA (.call (.ref G) ⟨[.ref a],[]⟩) (λr g=>r= .ok (.ret (.bool true))/\OldK c.heap g.heap/\g.os=c.os/\AllBare g.gens) c:=by
  intro H X hS hok Y hK;have Z:∀{b:Addr}{o:Obj},c.heap.get? b=some o->H b=none->(tH c.heap H).get? b=some o:=λe n=>Ir e n
  have Lv:∀{b:Addr}{o:Obj}{t:Array DictEntry}{y:Nat},c.heap.get? b=some o->o.data= .dict t y->H b=none:=λ {b o t y} e d=>by
   cases q:H b with
   |none=>rfl
   |some u=>
    have J:b=a:=Y b (by rw[q];simp)
    subst J;rw[B] at e;cases e;have d':Data.seq j.toArray _=Data.dict t y:=d;cases d'
  have C:∀{b:Addr}{m:Str->Option Value},c.heap.Ns b m->(tH c.heap H).Ns b m:=λ {b m} ⟨o,t,y,e,d,r⟩=>⟨o,t,y,Z e (Lv e d),d,r⟩
  have Xm:K.In (tH c.heap H):=λb o e=>Z (Q b o e) (by
   cases q:H b with
   |none=>rfl
   |some u=>
    have J:b=a:=Y b (by rw[q];simp)
    subst J;rw[hK (by rw[q];simp)] at e;cases e)
  have hM:Mod K l (tH c.heap H):=⟨Xm,C R,⟨E,C f,I⟩,let ⟨mc,h1,h2⟩:=XM;⟨mc,C h1,h2⟩⟩;have e0:Env0 P w K l (tH c.heap H) callerA [] c H:=⟨rfl,hM,λb o e=>LA e,Nat.le_of_eq (Fd _ _),trivial,λb f=>absurd (show b∈([]:List Addr) from f) (by simp),hok, .of_eq hg⟩
  refine acA ((F _ Xm (C R)).run callerA [] c H ⟨[.ref a],[]⟩ [.ref a] [.ref a] _ _ hr e0 (SH c (.ref a)) (.cons rfl .nil) (Dh H X hS)) λr g h=>?_;cases r with
  |error e=>exact(Su H e g h).elim
  |ok fl=>
   cases fl with
   |next=>exact False.elim h
   |brk=>exact False.elim h
   |cont=>exact False.elim h
   |ret u=>
    rfl';obtain⟨v,H',os,bare,un,XU,r',q⟩:=h;have q':v= .bl true:=q;subst q';ac_rfl;obtain rfl:u=Value.bool true:=r';refine⟨rfl,OldK.of_keep λb o e=>?_,os,bare⟩;cases q:H b with
    |none=>exact un.keep b o e q (by intro z;exact absurd (show b∈([]:List Addr) from z) (by simp)) (by simp)
    |some u=>
     rcases X b with z| ⟨ob,xs,z⟩
     ·rw[q] at z;cases z
     ·have z2:=un.frzs b ob _ z
      obtain⟨e1,_⟩:=hok b _ z;obtain⟨e2,_⟩:=XU b _ z2;rw[e] at e1;cases e1;exact e2
 cases L:K.lookup a with
 |some o=>
  have e:=Q a o L;rw[B] at e;cases Da e;refine i (λ_=>none) (λ_=> .inl rfl) (.inr ⟨_,j.toArray,_,L,rfl,rfl,rfl,by rw[cS,Y5];exact T,by simpa using U⟩) (λb u z=>by have A:(none:Option HO)=some u:=z;cases A) (λb z=>absurd rfl z) λz=>absurd rfl z
 |none=>
  refine i (λb=>if b=a then some (.rP {cls:= .type "list",data:= .seq j.toArray} (.lst (p.map V.int))) else none) (λb=>?_) (.inl (.inr ⟨{cls:= .type "list",data:= .seq j.toArray},tz rfl⟩)) (λb u z=>?_) (λb z=>?_) λ_=>L
  ·by_cases f:b=a
   ·exact .inr ⟨_,_,tz f⟩
   ·exact .inl (mo f)
  ·by_cases f:b=a
   ·have A:=(tz f).symm.trans z
    obtain rfl:=Da A;subst f;exact⟨B,by rw[aD];exact T,j,_,U,B⟩
   ·have A:=(mo f).symm.trans z
    cases A
  ·by_cases f:b=a
   ·exact f
   ·exact absurd (mo f) z
theorem M1{l:PySem.W.OpenLaw}{n k:Nat}{q:Program}{i:List Str}{I:(Str->Option Value)->Heap->Prop}{A:World->Heap->Prop}{d:DefRec}{K:Params->PySem.W.Frag}{CX:World->uu}{sp:World->Sp}{x:Str}
  (J:l.most=some n) (L:n<=sizeLine) (M:d.params.defaults= []) (N:dq k callerA)
  (O:∀(w:World)(h:Heap),A w h->(K w.params).In h)
  (F:∀(w:World)(m:Str->Option Value)(r:Addr)(h:Heap),(K w.params).In h->h.Ns mainGlobals m->m d.name=some (.ref r)->
   ∃y:FuncData,(∀(s:Shared)(u:Value),BindsTo s y ⟨[u],[]⟩ [(x,u)])/\
    ∀base:Heap,(K w.params).In base->base.Ns mainGlobals m->FnOk l.prog w (K w.params) m base (CX w) k r y [x] (sp w))
  (Q:∀(w:World)(H:Hp)(a:Addr)(t:List Int),t.length<=n->JD H->cM (K w.params) H a (t.map V.int)->sp w [.ref a] H (λv _=>v= .bl true) λ_ _ _=>False)
  (R:∀(w:World)(H:Hp)(s:Shared)(e:Value)(z:Shared),CX w [] H s (λ_ _ _=>False) e z->False):
  PySem.W.WalkO q i I A l.row.toRowW d [] (λf B=>PySem.call f B):=by
 refine Uy.A4 J M λw C p m mb r o pm cd S a B t G Y ho hd dX U X j c Z=>?_;have E:=O w _ Y;obtain⟨y,hb,hF⟩:=F w m r _ E G.T.g U;exact IG E G.T.g G.T.b G.T.builtins G.T.nolimit Z X j (jr c L) N hF hb (λH hO hS=>Q w H a t c hO hS) λH e z=>R w H p e z
def inClass(s:Stmt)(j:Nat):Stmt:=match s with
 | .ClassDef _ _ _ body _ _ _ _ _ _ _=>body.getD j (.Pass ⟨0,0,0,0⟩)
 |_=> .Pass ⟨0,0,0,0⟩
def j9(s:Stmt):Arguments:=match s with
 | .FunctionDef _ a _ _ _ _ _ _ _ _=>a
 |_=>{posonlyargs:= [],args:= [],vararg:=none,kwonlyargs:= [],kw_defaults:= [],kwarg:=none,defaults:= []}
def gE(s:Stmt):List Stmt:=match s with
 | .FunctionDef _ _ b _ _ _ _ _ _ _=>b
 |_=> []
def aw(s:Stmt):Scope:=match s with
 | .FunctionDef _ _ _ _ _ _ sc _ _ _=>sc
 |_=>{kind:= .function,names:= [],isGenerator:=false,isCoroutine:=false}
abbrev b9:uu:=λ_ _ _ _ _ _=>False
abbrev E0:XK:=λ_ _ _=>False
theorem yG:Passes b9 X E0:=λ_ _ _ _ _ _ _ h=>h.elim
structure zg (K:PySem.W.Frag) (x qual:Str) (st:Stmt) (f:Addr) (fd:FuncData):Prop where
 ex:∃(oc:Value)(od:Option Addr)(kV doc pm:Value)(an:Option Addr)(bF ct:Value)(DU:Array (Option Value)),
  fd=PySem.W.fnOf x qual (j9 st) (gE st) (aw st) .none kV doc pm an bF ct/\K.lookup f=some ⟨oc,od, .func fd,DU⟩/\PySem.W.codeIn K bF qual=true
 kp:PySem.W.keepIn K (.ref f)=true
section
variable {P:Program} {w:World} {K:PySem.W.Frag} {mg:Str->Option Value} {base:Heap}
theorem zg.ok{x a:Str}{st:Stmt}{f:Addr}{e:FuncData}{N c:List Str}{k:Nat}{d:Sp}(F:zg K x a st f e)(S:aG N c (aw st))(len:∀vs H Q E,d vs H Q E->vs.length=c.length)
  (g:∀(b:Value)(A:Around)(outer:List Env)(s:Shared)(H:Hp)(vs:List V)(Q:VK)(E:XK),dq k (A.deeper (envOfC a (aw st) s.heap.objs.size f b))->d vs H Q E->
   ∃t,oK (vw b9 P w K mg base N a (aw st) f b A outer s H E).lU (gE st) t/\t {nx:=λ_ i=>Q .bA i,rt:=Q} (start N vs) H):FnOk P w K mg base b9 (k+1) f e c d:=by
 rfl';obtain⟨u,v,kV,l,y,z,b,B,C,rfl,m,n⟩:=F.ex;ac_rfl;refine Sq m n S len λA outer s H vs Q E o p=>?_;obtain⟨t,h,q⟩:=g b A outer s H vs Q E o p;exact⟨t,h.lU,q⟩
theorem zg.binds{st:Stmt}{ps:List Str}(F:zg K x a st f j)
  (h:∀(kV b c:Value)(d:Option Addr)(e g:Value)(i:List Value),i.length=ps.length->bindArgs (PySem.W.fnOf x a (j9 st) (gE st) (aw st) .none kV b c d e g) ⟨i,[]⟩=pure (ps.zip i)):Binds K j ps []:=by
 rfl';obtain⟨m,n,kV,b,c,d,e,g,o,rfl,p,q⟩:=F.ex;ac_rfl;exact .all (h kV b c d e g)
theorem tF{x a:Str}{st:Stmt}{f:Addr}{i:Value}{j e:Option Addr}{m:Array (Option Value)}{kV b g d h:Value}(l:K.lookup f=some ⟨i,j, .func (PySem.W.fnOf x a (j9 st) (gE st) (aw st) .none kV b g e d h),m⟩)
  (c:PySem.W.codeIn K d a=true) (k:PySem.W.keepIn K (.ref f)=true):zg K x a st f (PySem.W.fnOf x a (j9 st) (gE st) (aw st) .none kV b g e d h):=⟨⟨i,j,kV,b,g,e,d,h,m,rfl,l,c⟩,k⟩
end
theorem cq(h:n<=1000):n<sizeLine:=Ca h (by decide)
section
variable {X:Cx}
theorem pv(i:Nat)(b:X.N[i]? =some x:=by rfl)(c:lJ X.env.scope x:=by first|exact Or.inl rfl|exact Or.inr (Or.inl rfl) |exact Or.inr (Or.inr rfl))(d:(x==("__debug__":Str))=false:=by decide)
  (e:(x==("__classdict__":Str))=false:=by decide):PE X (.Name x a) (QU i):=BF b c d e
end
theorem cj{A B:Prop}(h:B):if false=true then A else B:=by
 rw[mo cw];exact h
theorem eY{A B:Prop}(h:A):if true=true then A else B:=by
 rw[tz rfl];exact h
def bh(H a:Hp):Prop:=∀b o,H b=some o->a b=some o
theorem bh.refl(H:Hp):bh H H:=λ_ _ h=>h
theorem bh.trans{H d e:Hp}(a:bh H d)(b:bh d e):bh H e:=λc o h=>b c o (a c o h)
theorem bh.free(e:bh H a)(h:a l=Option.none):H l=Option.none:=by
 cases q:H l with
 |none=>rfl
 |some o=>
  rw[e l o q] at h;cases h
def jG(env:Env):List (Str×NameKind)->List (Str×Addr)->List (Str×Addr)
 | [],a=>a
 | (n,k)::r,a=>if k==NameKind.free then jG env r ((n,(env.cells.lookup n).getD 0)::a) else jG env r a
theorem iO(h:∀x∈b.names,x.2= .free->∃c,env.cells.lookup x.1=some c):closureFor b env=pure (jG env b.names []):=by
 simp only[closureFor]
 have j:∀(names:List (Str×NameKind))(d:List (Str×Addr)),(∀x∈names,x.2= .free->∃c,env.cells.lookup x.1=some c)->
   (forIn names d λx e=>if (x.snd==NameKind.free)=true then(do let a <-cellOf env x.fst;pure (ForInStep.yield ((x.fst,a)::e))) else pure (ForInStep.yield e))=(pure (jG env names d):Sem _):=by
  intro names
  induction names with
  |nil=>intro d _;rfl
  |cons x r l=>
   obtain⟨n,k⟩:=x;intro d h;rw[List.forIn_cons,jG];have f:=λd=>l d λy m=>h y (bV _ m);cases g:k==NameKind.free with
   |false=>
    simp only[g,gX,P3];exact f d
   |true=>
    have o:k= .free:=by simpa using g
    obtain⟨c,i⟩:=h (n,k) bE o;simp only at i;simp only[acs,cellOf,i];exact f _
 rw[j _ _ h];rfl
theorem gf:∀(names:List (Str×NameKind))(a:List (Str×Addr)),(∀x∈names,x.2= .free->∃c,env.cells.lookup x.1=some c)->(∀x c,a.lookup x=some c->env.cells.lookup x=some c)->
  ∀x c,(jG env names a).lookup x=some c->env.cells.lookup x=some c
 | [],a,_,b=>b
 | (n,k)::r,a,h,b=>by
  rw[jG]
  split
  ·rename_i g
   refine gf r _ (λy d=>h y (bV _ d)) λx c e=>?_;obtain⟨l,f⟩:=h (n,k) bE (by simpa using g)
   rw[uk] at e
   split at e
   ·rename_i i
    have j:x=n:=by simpa using i
    subst j;simp only at f;rw[f] at e ⊢;exact e
   ·exact b x c e
  ·exact gf r a (λy d=>h y (bV _ d)) b
theorem qw{env:Env}:∀(names:List (Str×NameKind))(a:List (Str×Addr))(x:Str),((x,NameKind.free)∈names\/∃c,a.lookup x=some c)->∃c,(jG env names a).lookup x=some c
 | [],a,x,h=>by
  rcases h with h|h
  ·cases h
  ·exact h
 | (n,k)::r,a,x,h=>by
  rw[jG]
  split
  ·rename_i b
   refine qw r _ x ?_
   by_cases e:x=n
   ·subst e;exact .inr ⟨(env.cells.lookup x).getD 0,by simp[uk]⟩
   ·have ne:(x==n)=false:=by simpa using e
    rcases h with h| ⟨c,h⟩
    ·rcases br.mp h with z|z
     ·cases z;exact absurd rfl e
     ·exact .inl z
    ·exact .inr ⟨c,by rw[uk,ne];exact h⟩
  ·rename_i b
   refine qw r a x ?_
   rcases h with h|h
   ·rcases br.mp h with z|z
    ·cases z;exact absurd rfl b
    ·exact .inl z
   ·exact .inr h
def oI(src:List (Option Nat))(a:St):St:=src.map λo=>o.bind λi=>(a[i]?).bind id
def dJ(a:Scope)(b:List Str):List (Option Nat)->List Str->Prop
 | [],[]=>True
 |none::r,_::n=>dJ a b r n
 |some i::r,x::n=>b[i]? =some x/\a.names.lookup x=some .free/\dJ a b r n
 |_,_=>False
theorem dJ.len:∀{src:List (Option Nat)}{NC:List Str},dJ a b src NC->src.length=NC.length
 | [],[],_=>rfl
 |none::r,_::n,h=>by have:=dJ.len (src:=r) (NC:=n) h;simp[this]
 |some i::r,_::n,h=>by have:=dJ.len (src:=r) (NC:=n) h.2.2;simp[this]
 | [],_::_,h=>h.elim
 |none::_,[],h=>h.elim
 |some _::_,[],h=>h.elim
theorem dJ.at{a:Scope}:∀{src:List (Option Nat)}{NC:List Str}{j i:Nat}{x:Str},dJ a d src NC->src[j]? =some (some i)->NC[j]? =some x->d[i]? =some x/\a.names.lookup x=some .free
 | [],[],_,_,_,_,h,_=>by simp at h
 |none::r,_::n,0,_,_,_,h,_=>by simp at h
 |none::r,_::n,j+1,i,x,h,b,c=>dJ.at (src:=r) (NC:=n) (j:=j) h (by simpa using b) (by simpa using c)
 |some k::r,y::n,0,i,x,h,b,c=>by
  have e:k=i:=by simpa using b
  have f:y=x:=by simpa using c
  subst e f;exact⟨h.1,h.2.1⟩
 |some k::r,_::n,j+1,i,x,h,b,c=>dJ.at (src:=r) (NC:=n) (j:=j) h.2.2 (by simpa using b) (by simpa using c)
 | [],_::_,_,_,_,h,_,_=>h.elim
 |none::_,[],_,_,_,h,_,_=>h.elim
 |some _::_,[],_,_,_,h,_,_=>h.elim
structure b6 (X:Cx) (scope:Scope):Prop where
 kind:scope.kind= .function
 names:∀x∈scope.names,x.2= .local->scope.names.lookup x.1=some .local
 nocell:∀x∈scope.names,x.2≠ .cell
 free:∀x∈scope.names,x.2= .free->X.env.kindOf x.1=some .cell\/X.env.kindOf x.1=some .free
theorem gL{env:Env}:∀(names:List (Str×NameKind))(x:Str),
  (names.map λ(n,k)=>if (k==NameKind.free&&env.scope.kind== .function&&env.kindOf n==some .cell) then(n,NameKind.cell) else(n,k)).lookup x=
   (names.lookup x).map λk=>if (k==NameKind.free&&env.scope.kind== .function&&env.kindOf x==some .cell) then NameKind.cell else k
 | [],_=>rfl
 | (n,k)::r,x=>by
  have c:=gL (env:=env) r x;show List.lookup x ((if (k==NameKind.free&&env.scope.kind== .function&&env.kindOf n==some .cell)=true then(n,NameKind.cell) else(n,k))::_)=_;cases b:x==n with
  |true=>
   have e:x=n:=by simpa using b
   subst e
   by_cases a:(k==NameKind.free&&env.scope.kind== .function&&env.kindOf x==some .cell)=true
   ·rw[tz a,uk,uk]
    simp only[b];show some NameKind.cell=some (if _ then _ else _);rw[tz a]
   ·rw[mo a,uk,uk]
    simp only[b];show some k=some (if _ then _ else _);rw[mo a]
  |false=>
   by_cases a:(k==NameKind.free&&env.scope.kind== .function&&env.kindOf n==some .cell)=true
   ·rw[tz a];simp only[uk,b];exact c
   ·rw[mo a];simp only[uk,b];exact c
theorem mem_lookup{names:List (Str×NameKind)}{x:Str}{k:NameKind}(h:names.lookup x=some k):(x,k)∈names:=ach h
def cO(X:Cx)(a:Scope)(NC:List Str)(ex:List Addr)(s:Shared)(H:Hp):Cx:=
 {X with N:=NC,s₀:=s,H₀:=H,env:=compEnvC a (jG X.env a.names []) s.heap.objs.size X.env,outer:=X.stack,stack:=X.stack,ex:=ex,fn:=λ_=>false,pn:= [],xe:=λ_ _=>False}
section
variable {X:Cx} {pins:List (Addr×Obj)} {σ:St} {H:Hp} {s:Shared} {scope:Scope} {NC:List Str} {ex:List Addr} {src:List (Option Nat)}
theorem b6.cells(c:b6 X scope)(ok:X.Ok):∀x∈scope.names,x.2= .free->∃c,X.env.cells.lookup x.1=some c:=λx a e=>ok.has x.1 (c.free x a e)
theorem b6.To(c:b6 X scope)(h:(compEnvC scope (jG X.env scope.names []) C X.env).kindOf x=some k)(i:k= .cell\/k= .free):scope.names.lookup x=some .free:=by
 have a:(relabel scope X.env).names.lookup x=some k:=h;unfold relabel at a;rw[gL] at a;cases e:scope.names.lookup x with
 |none=>rw[e] at a;cases a
 |some b=>
  have g:=c.nocell _ (mem_lookup e);rw[e] at a;have f:(if (b==NameKind.free&&X.env.scope.kind== .function&&X.env.kindOf x==some .cell) then NameKind.cell else b)=k:=Da a
  by_cases d:b= .free
  ·rw[d]
  ·have j:(b==NameKind.free)=false:=by simpa using d
   rw[j,ad8,ad8,mo cw] at f
   rcases i with z|z
   ·rw[f] at g;exact absurd z g
   ·rw[f] at d;exact absurd z d
theorem JU(I:Inv X pins σ H s)(c:b6 X scope)(f:∀b∈ex,gw X pins H b)(g:∀b∈ex,b<s.heap.objs.size):(cO X scope NC ex s H).Ok where
 mod:=I.ok.mod
 kind:=c.kind
 glob:=I.ok.glob
 blt:=I.ok.blt
 above:=bH _
 inj:=λx y d i j=>I.ok.inj x y d (gf _ _ (c.cells I.ok) (λ_ _ z=>by cases z) x d i) (gf _ _ (c.cells I.ok) (λ_ _ z=>by cases z) y d j)
 has:=λx k=>qw _ _ x (.inl (mem_lookup (by rcases k with h|h<;>exact c.To h (by simp))))
 cab:=λ_ _ z=>by cases z
 hd:=I.ok.hd
 frames:=I.ok.frames
 stk:= .inl rfl
 exf:=λb a=>⟨cE (g b a),λx d e=>(f b a).2.2.2.2.1 x d (gf _ _ (c.cells I.ok) (λ_ _ z=>by cases z) x d e)⟩
 bs:=I.bs
 bsz:=jr I.ok.bsz I.sz
 noex:=λb o e a=>by
  rcases(f b a).2.2.2.1 with z|z
  ·exact I.ok.noex b o e z
  ·exact absurd (iH (Fk e) (jr I.ok.bsz z)) (lI _)
 exfs:=λb a z=>(br.mp (I.BU b z)).elim (f b a).2.1 (f b a).2.2.1
 funs:=I.stack
 frf:=I.Eg
theorem zN{tk:Nat}(I:Inv X pins σ H s)(c:b6 X scope)(A:dJ scope X.N src NC)(E:∀b∈ex,gw X pins H b)(F:∀b∈ex,b<s.heap.objs.size)
  (G:h.Ns s.heap.objs.size (λ_=>none)) (J:Heap.SameBut s.heap.objs.size (s.heap.push C) h):
  Inv (cO X scope NC ex s H) [] (oI src σ) H {s with heap:=h,toks:=tk}:=by
 have f:∀b o,s.heap.get? b=some o->h.get? b=some o:=λb o e=>J.extBut b o (cE (Fk e)) (AC _ e);have t:∀x d,(jG X.env scope.names []).lookup x=some d->X.env.cells.lookup x=some d:=λx d=>gf _ _ (c.cells I.ok) (λ_ _ z=>by cases z) x d
 have a:∀d v,s.heap.IsCell d v->h.IsCell d v:=λd v ⟨o,L,k⟩=>⟨o,f d o L,k⟩;refine⟨JU I c E F,rfl,I.bare,Un.kept f,⟨_,G,λj x v M O Y=>?_⟩,λx d e=>?_,I.hok.fresh (bH _),λx d e=>I.freeC x d (t x d e),λp Q=>absurd (show p∈([]:List (Addr×Obj)) from Q) (by simp),I.hok.kept f,?_⟩
 ·have g:(oI src σ)[j]? =some (some v):=O
  unfold oI at g;rw[bQ] at g;cases w:src[j]? with
  |none=>rw[w] at g;cases g
  |some o=>
   rw[w] at g;cases o with
   |none=>cases g
   |some i=>
    have n:(σ[i]?).bind id=some v:=Da g
    have R:σ[i]? =some (some v):=by
     cases q:σ[i]? with
     |none=>rw[q] at n;cases n
     |some z=>rw[q] at n;exact FS some n
    rfl';obtain⟨T,y⟩:=A.at w M;have B:=c.free _ (mem_lookup y) rfl;obtain⟨m,hn,U⟩:=I.loc;obtain⟨u,r,l⟩:=U i x v T R (B.elim (λz=> .inr (.inl z)) (λz=> .inr (.inr z)));ac_rfl;refine⟨u,r, .inr ⟨?_,?_⟩⟩
    ·show(relabel scope X.env).names.lookup x=_\/(relabel scope X.env).names.lookup x=_
     unfold relabel;rw[gL,y]
     by_cases z:(NameKind.free==NameKind.free&&X.env.scope.kind== .function&&X.env.kindOf x==some .cell)=true
     ·left;simp only[Option.map_some,z,acs]
     ·right;simp only[Option.map_some,z];rfl
    ·obtain⟨d,k⟩:=qw (env:=X.env) scope.names [] x (.inl (mem_lookup y))
     refine⟨d,k,?_⟩
     rcases l with ⟨l,_⟩ | ⟨_,d',e,z⟩
     ·exfalso;rcases B with z|z<;>(rw[l] at z;cases z)
     ·rw[t x d k] at e;cases e;exact a d _ z
 ·obtain⟨v,z⟩:=I.cell x d (t x d e)
  exact⟨v,a d v z⟩
 ·show(oI src σ).length=NC.length
  unfold oI;rw[aD];exact A.len
theorem comp_back(I:Inv X pins σ H s)(p:∀b∈ex,gw X pins H b)(J:Inv (cO X scope NC ex s H) m l g c)
  (r:Heap.SameBut s.heap.objs.size c.heap i):Inv X pins σ g {c with heap:=i}:=by
 have h:∀b o,b≠s.heap.objs.size->c.heap.get? b=some o->i.get? b=some o:=λb o a e=>r.extBut b o a e;have ne:∀b o,s.heap.get? b=some o->b≠s.heap.objs.size:=λb o e=>cE (Fk e);have u:=J.base;refine I.Rf (ch:=ex) (show c.os=s.os from J.os) ⟨λb o e n a f=>h b o (ne b o e) (u.keep b o e n a f),λb o e n a f=>?_,u.free,λb o e f=>?_,u.tups,u.frzs,u.tbls⟩ ?_ J.bare λb a=>?_
 ·obtain⟨t,q⟩:=u.slot b o e n a f
  exact⟨t,h b _ (ne b o e) q⟩
 ·obtain⟨j,q⟩:=u.there b o e f
  exact⟨j,h b j (ne b o e) q⟩
 ·intro b o e
  have k:∀b o,g b=some o->b≠s.heap.objs.size:=λb o e z=>by
   have:=J.free
   rw[z] at e;have w:g s.heap.objs.size=none:=this;rw[w] at e;cases e
  refine(J.hok b o e).qg (λd v x q=>h d v ?_ q) (λ_ q=>q) λ_ _ q=>q
  rcases x with z|z
  ·rw[z];exact k b o e
  ·exact k d _ z
 ·obtain⟨_,y,_,A,B,C⟩:=p b a
  exact⟨A,y,B,C⟩
end
def oS(X:Cx)(b:List Expr)(t:TT):Prop:=
 ∀(a:List (Addr×Obj))(s:Shared)(d:St)(H:Hp)(Q:Bool->Hp->Prop),Inv X a d H s->t d H Q->
  wpAny (model X.prog X.w) X.A (forIn b true λc r=>if r=true then do let ok <-isTrue c X.env (eval c X.env);pure (ForInStep.yield ok) else pure (ForInStep.yield r)) (TP X a d Q) X.xe s
def abT:TT:=λ_ H Q=>Q true H
theorem L8:oS X [] abT:=λ_ _ _ H _ I h=>wpAny_tests_nil ⟨H,I,h⟩
theorem L9(h:PT X c t):oS X [c] t:=λa s b H Q I q=>wpAny_tests_one (h a s b H Q I q)
def LCW(J:It)(g:TG)(o:TT)(p:TE)(D:Addr)(Q:VK)(q:St)(H:Hp):Prop:=
 ∃W:Nat->Nat->St->Hp->Prop,(∃m,W 0 m q H)/\∀i m e a,W i m e a->
  (J.stop i a/\Q (.ref D) a)\/
  (J.go i a/\∃N:St->Hp->Prop,(∀f h,N f h->∃j,j<m/\W (i+1) j f h)/\∀x k,J.yld i a x k->g x e k λc r=>o c r λb l=>
   if b=true then p c l λv n=>∃d,n D=some (.lst d)/\d.length<sizeLine/\N c (upd n D (.lst (d++ [v]))) else N c l)
def Pf(c:TI)(g:TG)(d:TT)(e:TE)(src:List (Option Nat)):TE:=λa H Q=>c a H λJ b=>∀D,b D=none->LCW J g d e D Q (oI src a) (upd b D (.lst []))
section
variable {X:Cx} {elt iter tg:Expr} {ifs:List Expr} {scope:Scope} {pos:Pos} {wi:TI} {g:TG} {tt:TT} {te:TE} {src:List (Option Nat)} {NC:List Str}
theorem vt{RR:Value->Addr->Result->Shared->Prop}{Q:VK}
  (hc:X.calm=true) (c:b6 X scope) (fg:dJ scope X.N src NC) (I2:Inv X j σ I B) (T:Turn X.prog X.w X.K tg J F it tn) (sD:tn 0 B.heap) (f2:∀b∈F,gw X j I b)
  (hg:∀s H,PG (cO X scope NC F s H) tg g) (ht:∀s H,oS (cO X scope NC F s H) ifs tt) (he:∀s H,PE (cO X scope NC F s H) elt te)
  (hW:∀D,I D=none->∃W:Nat->Nat->St->Hp->Prop,(∃m,W 0 m (oI src σ) (upd I D (.lst [])))/\∀i m gr I,W i m gr I->
   (J.stop i I/\Q (.ref D) I)\/
   (J.go i I/\∃N:St->Hp->Prop,(∀G a,N G a->∃m',m'<m/\W (i+1) m' G a)/\∀x Y,J.yld i I x Y->g x gr Y λgu H4=>tt gu H4 λb H5=>
    if b=true then te gu H5 λv H6=>∃ys,H6 D=some (.lst ys)/\ys.length<sizeLine/\N gu (upd H6 D (.lst (ys++ [v]))) else N gu H5))
  (Sz:∀D C Y G a M,Inv X j σ Y C->(∀b∈F,gw X j Y b)->Inv (cO X scope NC F C Y) [] G a M->Q (.ref D) a->RR (.ref D) C.heap.objs.size (.ok .next) M):
  wpAny (model X.prog X.w) X.A (newList []) (λacc MT=>wpAny (model X.prog X.w) X.A (newFunctionEnv scope X.env.globals (jG X.env scope.names []) [] X.env.qual none .none (some X.env)) (λoY yW=>
   codeAny (model X.prog X.w) X.A (.compStart (.ListComp elt [⟨tg,iter,ifs,0⟩] scope pos) 0 (.ref it) acc {oY with scope:=relabel scope X.env}) (RR acc oY.locals) yW) E MT) E B:=by
 rfl';obtain⟨W,⟨m0,w0⟩,turn⟩:=hW B.heap.objs.size I2.fresh;have I3:Inv X j σ (upd I B.heap.objs.size (.lst [])) {B with heap:=B.heap.push {cls:= .type "list",data:= .seq ([]:List Value).toArray}}:=I2.GY (its:= []) (t':=B.toks) .nil (dS _)
 ac_rfl
 have Tr:∀b∈F,b<B.heap.objs.size:=λb l=>by
  obtain⟨o,e,_⟩:=T.obj _ _ sD b l;exact Fk e
 have f3:∀b∈F,gw X j (upd I B.heap.objs.size (.lst [])) b:=λb l=>⟨by rw[aO (cE (Tr b l))];exact(f2 b l).1,(f2 b l).2⟩
 refine KM ?_
 suffices key:∀C:Shared,Inv X j σ (upd I B.heap.objs.size (.lst [])) C->(∀b o,B.heap.get? b=some o->C.heap.get? b=some o)->
   wpAny (model X.prog X.w) X.A (newFunctionEnv scope X.env.globals (jG X.env scope.names []) [] X.env.qual none .none (some X.env)) (λoY yW=>
    codeAny (model X.prog X.w) X.A (.compStart (.ListComp elt [⟨tg,iter,ifs,0⟩] scope pos) 0 (.ref it) (.ref B.heap.objs.size) {oY with scope:=relabel scope X.env}) (RR (.ref B.heap.objs.size) oY.locals) yW) E C from
  key _ I3 λb o e=>AC _ e
 intro C I3 Ur;have Ef:tn 0 C.heap:=T.keep _ _ _ sD λb _ o e=>Ur b o e
 have FE:∀b∈F,b<C.heap.objs.size:=λb l=>by
  obtain⟨o,e,_⟩:=T.obj _ _ Ef b l;exact Fk e
 generalize hH3:upd I B.heap.objs.size (.lst [])=Y at I3 f3 w0;refine wpAny_newFunctionEnv c.nocell (by intro y hy;simp at hy) (λh1 Bm Br=>?_) c.kind
 have I4:=zN (src:=src) (NC:=NC) (ex:=F) (tk:=C.toks+([]:List (Str×Value)).length) I3 c fg f3 FE Bm Br;have MO:tn 0 h1:=T.keep _ _ _ Ef λb l o e=>Br.extBut b o (cE (FE b l)) (AC _ e);generalize L:cO X scope NC F C Y=k at I4
 have S:∀{a:Hp},(∀b∈F,a b=none)->∀b∈F,gw k [] a b:=λ {a} hn b l=>by
  subst L;refine⟨hn b l,cE (FE b l),λz=>?_, .inl l,λx d e=>?_,λp hp=>absurd (show p∈([]:List (Addr×Obj)) from hp) (by simp)⟩
  ·exact(I4.ok.exfs b l) z
  ·exact(I4.ok.exf b l).2 x d e
 have loop:codeAny (model X.prog X.w) X.A (.compLoop (.ListComp elt [⟨tg,iter,ifs,0⟩] scope pos) 0 (.ref it) (.ref B.heap.objs.size) k.env) (RR (.ref B.heap.objs.size) C.heap.objs.size)
   {C with heap:=h1,toks:=C.toks+([]:List (Str×Value)).length}:=by
  refine aeg rfl (λn M=>∃i G a,Inv k [] G a M/\tn i M.heap/\(∀b∈F,a b=none)/\W i n G a) (λn M hI=>?_) m0 ⟨0,_,_,I4,MO,λb l=>(f3 b l).1,w0⟩;obtain⟨i,G,a,I5,wC,zo,w5⟩:=hI;show wpAny _ X.A ((compTurn (.ListComp elt [⟨tg,iter,ifs,0⟩] scope pos) 0 (.ref it) (.ref B.heap.objs.size) k.env).onRaise (λx=>do noteFrame x k.env;theTreesLotGoes x)) _ _ M
  refine wpAny_noted ?_;rw[compTurn_list]
  have lU:∀{α:Type}{t:Sem α}{Q:α->Shared->Prop}{E:Value->Shared->Prop}{s:Shared},wpAny (model k.prog k.w) k.A t Q k.xe s->wpAny (model X.prog X.w) X.A t Q E s:=λ {α t Q E s} h=>by
   subst L;exact wpAny_mono h (λ_ _ q=>q) λ_ _ f=>f.elim
  have Im:k.calm=true:=by subst L;exact hc
  have eP:k.prog=X.prog:=by subst L;rfl
  have ew:k.w=X.w:=by subst L;rfl
  have eK:k.K=X.K:=by subst L;rfl
  have eA:k.A=X.A:=by subst L;rfl
  have SQ:PG k tg g:=by subst L;exact hg _ _
  have S7:oS k ifs tt:=L▸ht _ _;have SM:PE k elt te:=L▸he _ _;refine be (acn (be ?_))
  rcases turn i n G a w5 with ⟨stop,qn⟩ | ⟨go,N,hN,step⟩
  ·have hd:=T.done k eP ew eK Im i [] M G a (notedBy (model X.prog X.w) X.A k.env λe M=>RR (.ref B.heap.objs.size) C.heap.objs.size (.error e) M) I5 (S zo) wC stop
   rw[eA] at hd;refine thn hd λr s6 O=>?_;obtain⟨hr,I6⟩:=O;subst hr;refine ir ?_;subst L;exact Sz _ C Y G a s6 I3 f3 I6 qn
  ·have hd:=T.item k eP ew eK Im i [] M G a (notedBy (model X.prog X.w) X.A k.env λe M=>RR (.ref B.heap.objs.size) C.heap.objs.size (.error e) M) I5 (S zo) wC go
   rw[eA] at hd;refine thn hd λr s6 O=>?_;rfl';obtain⟨u,hr,h6⟩:=O;ac_rfl;subst hr;refine be (thn h6 λ_ s7 O=>?_);rfl';obtain⟨x,H7,I7,r7,y7,yQ,Kt⟩:=O;ac_rfl;have JC:=I7.pinned (S Kt) (T.obj _ _ yQ)
   have again:∀{U:St}{Z:Hp}{s8:Shared},Inv k ([]++nO F s7.heap) U Z s8->N U Z->∃m,m<n/\∃i G a,Inv k [] G a s8/\tn i s8.heap/\(∀b∈F,a b=none)/\W i m G a:=λ {U Z s8} I8 n8=>by
    obtain⟨m',hm,w8⟩:=hN U Z n8;refine⟨m',hm,i+1,U,Z,I8.j6,T.keep _ _ _ yQ λb l o e=>(I8.pin (b,o) (cZ _ (cZ _ (fh l e)))).1,λb l=>?_,w8⟩;obtain⟨o,e,d⟩:=T.obj _ _ yQ b l;exact(I8.pin (b,o) (cZ _ (cZ _ (fh l e)))).2.1
   refine be (lU (thn (SQ _ s7 G H7 x u _ JC r7 (step x H7 y7)) λ_ s8 O=>?_));rfl';obtain⟨U,Z,I8,q8⟩:=O;ac_rfl;refine be (lU (thn (S7 _ s8 U Z _ I8 q8) λb s9 O=>?_));obtain⟨H9,I9,q9⟩:=O;cases b with
   |false=>
    rw[mo cw] at q9;exact ir ⟨L▸rfl,again I9 q9⟩
   |true=>
    rw[tz rfl] at q9;refine be (be (lU (thn (SM _ s9 U H9 _ I9 q9) λy O0 O=>?_)));rfl';obtain⟨v,M9,QX,T4,ys,hD,hz,TY⟩:=O;ac_rfl;refine be (lU (thn (kj _ O0 U M9 (.ref B.heap.objs.size) [v] _ [y] (λ_ a=>N U a) QX rfl (.cons T4 .nil) ⟨_,ys,v,rfl,rfl,hD,hz,TY⟩) λ_ O1 O=>?_));rfl';obtain⟨_,QW,JB,_,TZ⟩:=O;ac_rfl;exact ir (ir ⟨L▸rfl,again JB TZ⟩)
 subst L;exact ad2 loop (T.self _ 0 _ _ _ MO loop)
theorem LO(j:X.calm=true)(c:b6 X scope)(k:dJ scope X.N src NC)(l:PI X tg iter wi)
  (n:∀b s H,PG (cO X scope NC b s H) tg g) (o:∀b s H,oS (cO X scope NC b s H) ifs tt) (p:∀b s H,PE (cO X scope NC b s H) elt te)
  (r:∀x,foldedSetIterable iter X.env x=pure x:=by intro _;rfl):PE X (.ListComp elt [⟨tg,iter,ifs,0⟩] scope pos) (Pf wi g tt te src):=by
 intro a s f H Q I h;rw[eval_ListComp];refine acC (use:=none) rfl r (iO (c.cells I.ok)) c.kind c.names (thn (l a s f H _ I h) λv S t=>thn t λU Y u=>?_);rfl';obtain⟨it,d,tn,J,H2,rfl,z,T,B,E,F⟩:=u;ac_rfl;refine vt (RR:=λe C=>compPost (model X.prog X.w) X.A X.xe none (EP X a f Q) e C) (Q:=Q) j c k z T B E (n d) (o d) (p d) F ?_;intro D s3 H3 aI G s' L M i q;obtain⟨m,O,_⟩:=i.loc;exact⟨m,O,λh' R=>⟨.ref D,G,comp_back L M i R,rfl,q⟩⟩
def Pe(b:TI)(g:TG)(c:TT)(d:TE)(src:List (Option Nat))(i:Nat):TS:=λD a H=>Pf b g c d src a H λv e=>D.nx (a.set i (some v)) e
theorem qG(hc:X.calm=true)(hN:X.N.Nodup)(jM:X.N[i]? =some x)(hx:Loc X.env.scope x)(c:b6 X scope)(fg:dJ scope X.N src NC)(hi:PI X tg iter wi)
  (hg:∀t s H,PG (cO X scope NC t s H) tg g) (ht:∀t s H,oS (cO X scope NC t s H) ifs tt) (he:∀t s H,PE (cO X scope NC t s H) elt te)
  (jx:swapsWith (.ListComp elt [⟨tg,iter,ifs,0⟩] scope pos) (some (.Name x r)) U.line X.env=pure true)
  (hf:X.fn x=true\/X.env.scope.names.lookup x=some .local:=by first|exact .inl rfl|exact .inr rfl|assumption)
  (hs:∀x,foldedSetIterable iter X.env x=pure x:=by intro _;rfl):PS X (.Assign [.Name x r] (.ListComp elt [⟨tg,iter,ifs,0⟩] scope pos) U) (Pe wi g tt te src i):=by
 intro f s u H D I h;rw[exec_Assign_Name_used _ _ _ _ jx];refine be (acn (be ?_));show wpAny _ X.A (do let _ <-comprehension (.ListComp elt [⟨tg,iter,ifs,0⟩] scope pos) scope X.env _ (newList []) false (eval iter X.env) (some (assign (.Name x r) X.env))) _ _ s
 refine be (wpAny_mono (acC (use:=some (assign (.Name x r) X.env)) (Q:=λ_ j=>SP X f D .next j) rfl hs (iO (c.cells I.ok)) c.kind c.names
  (thn (hi f s u H _ I h) λv s1 h1=>thn h1 λnG s2 h2=>?_)) (λ_ j hq=>ir (ir hq)) λ_ _ e=>e)
 rfl';obtain⟨it,F,tn,J,H2,rfl,I2,T,sD,f2,hW⟩:=h2;ac_rfl;refine vt (RR:=λG C=>compPost (model X.prog X.w) X.A X.xe (some (assign (.Name x r) X.env)) (λ_ j=>SP X f D .next j) G C) (Q:=λv k=>D.nx (u.set i (some v)) k) hc c fg I2 T sD f2 (hg F) (ht F) (he F) hW ?_;intro a l H3 aI k j n f3 L q;obtain⟨m,hn,_⟩:=L.loc;have Y:Inv X f u k j:=comp_back n f3 L (.refl ..);have Z:l.heap.objs.size≠X.env.locals:=adF n.lt
 have nc:∀y d,X.env.cells.lookup y=some d->d≠l.heap.objs.size:=λy d e z=>by
  obtain⟨v,hv⟩:=n.cell y d e
  have:=hv.lt
  rw[z] at this;exact absurd this (lI _)
 have np:∀p∈X.pn++f,p.1≠l.heap.objs.size:=λp B z=>by
  have:=Fk (n.pin p B).1
  rw[z] at this;exact absurd this (lI _)
 rfl';obtain⟨M,es,ep,O,NK,rC⟩:=id hn;have Xk:k l.heap.objs.size=none:=L.free;ac_rfl
 have IP:Inv X ((l.heap.objs.size,M)::f) u k j:=Y.tV λp B=>by
  rcases br.mp B with z|z
  ·rw[z]
   exact⟨O,Xk,Z,n.QH (bH _),λv w=>by rw[NK] at w;cases w⟩
  ·exact Y.pin p (cZ _ z)
 refine wpAny_assign_Name (mZ (x:=x) IP hN jM hx (v:= .ref a) rfl (λs5 R=>?_) hf);have S:=(R.pin (l.heap.objs.size,M) (cZ _ bE)).1;refine⟨m,⟨M,es,ep,S,NK,rC⟩,λh6 sb=>?_⟩;have QY:Inv X f (u.set i (some (.ref a))) k s5:=R.tV λp B=>R.pin p (cZ _ (bV _ B));exact⟨_,k,QY.turned (t':=s5.toks) (it:=l.heap.objs.size) (λb o hb e=>sb.extBut b o hb e) Xk Z (.inr n.sz) nc np,q⟩
end
section
variable {X:Cx} {pins:List (Addr×Obj)} {σ:St} {H:Hp} {s:Shared} {h':Heap} {fp:List Addr}
theorem Inv.En{t':Nat}(I:Inv X pins σ H s)(d:∀b∈fp,gw X pins H b)(k:∀b o,b∉fp->s.heap.get? b=some o->h'.get? b=some o):Inv X pins σ H {s with heap:=h',toks:=t'}:=by
 refine I.step (g':=s.gens) (d':=s.drawn) (ch:=fp) (λb g=>?_) (λb o _ _ a e _=>k b o a e) (λb o _ _ a e _=>⟨o.slots,k b o a e⟩) (λ_ _ _ _ n=>n)
  (λb o a e=>⟨o,k b o a e⟩) (λ_ _ e=>e) (λ_ _ _ e=>e) (λb y e=>⟨#[],by rw[e];simp⟩) (λm h=>?_) (λb u e=>?_) I.bare
 ·obtain⟨_,i,_,j,l,p⟩:=d b g
  exact⟨j,i,l,p⟩
 ·obtain⟨o,t,w,x,r⟩:=h
  exact⟨o,t,w,k _ o (λz=>(d _ z).2.1 rfl) x,r⟩
 ·have f:∀b u,H b=some u->b∉fp:=λb u e z=>by rw[(d b z).1] at e;cases e
  refine(I.hok b u e).qg (λc v a q=>k c v ?_ q) (λ_ q=>q) λ_ _ q=>q
  rcases a with z|z
  ·rw[z];exact f b u e
  ·exact f c _ z
theorem Inv.M0(I:Inv X pins σ H s)(g:∀b∈fp,gw X pins H b)(k:∀b o,b∉fp->s.heap.get? b=some o->h'.get? b=some o)(i:s.heap.objs.size<=t)
  (new:cV X.prog X.w (upd H t o) h' t o):Inv X pins σ (upd H t o) {s with heap:=h',toks:=t'}:=by
 have l:H t=none:=I.hok.fresh i;have d:∀b u,H b=some u->upd H t o b=some u:=λb u e=>by rw[aO (bu e l)];exact e
 refine I.step (g':=s.gens) (d':=s.drawn) (ch:=fp) (λb f=>?_) (λb o _ _ a e _=>k b o a e) (λb o _ _ a e _=>⟨o.slots,k b o a e⟩) (λb o _ e n=>?_)
  (λb o a e=>⟨o,k b o a e⟩) (λb G e=>d b _ e) (λb _ _ e=>d b _ e) (λb J e=>⟨#[],by rw[d b _ e];simp⟩) (λm p=>?_) (λb u e=>?_) I.bare
 ·obtain⟨_,x,_,y,A,B⟩:=g b f
  exact⟨y,x,A,B⟩
 ·rw[aO (cE (iH (Fk e) i))];exact n
 ·obtain⟨o,C,E,F,r⟩:=p
  exact⟨o,C,E,k _ o (λz=>(g _ z).2.1 rfl) F,r⟩
 ·by_cases f:b=t
  ·subst f
   rw[aB] at e;cases Da e;exact new
  ·rw[aO f] at e
   have j:∀b u,H b=some u->b∉fp:=λb u e z=>by rw[(g b z).1] at e;cases e
   refine(I.hok b u e).qg (λc v a q=>k c v ?_ q) (λh q=>d h _ q) λh _ q=>d h _ q
   rcases a with z|z
   ·rw[z];exact j b u e
   ·exact j c _ z
end
def QZ(K:PySem.W.Frag)(a:Addr):It:=
 ⟨λi H=>∃b x,cM K H a b/\b[i]? =some x,λi H y c=>∃t x,y= .ref t/\H t=none/\c=upd H t (.tup [.int i,x])/\∀b,cM K H a b->b[i]? =some x,λi H=>∃b,cM K H a b/\b.length<=i⟩
theorem Dm(e:h.get? t=some {cls:= .type "tuple",data:= .seq #[u,v]}):IsTup h t [u,v].toArray:=⟨_,e,rfl,_,rfl⟩
theorem Gp{P:Program}{w:World}{K:PySem.W.Frag}{T:List Expr}{k1}{U:Pos}(a e l:Addr)(ne:e≠l):
  Turn P w K (.Tuple T k1 U) (QZ K a) [e,l] e (λi h=>(∃g,IsEnum h e l i g)/\h.IsListIter l a i) where
 mem:=by simp
 obj:=λi h st b f=>by
  obtain⟨⟨g,m⟩,o,A,c,d⟩:=st
  rcases br.mp f with z|z
  ·subst z
   exact⟨_,m,λv w=>by cases w⟩
  ·have B:b=l:=by simpa using z
   subst B;exact⟨o,A,λv z=>by rw[d] at z;cases z⟩
 keep:=λi h t st k=>by
  obtain⟨⟨g,m⟩,Y⟩:=st;exact⟨⟨g,k e (by simp) _ m⟩,Y.at λo q=>k l (by simp) o q⟩
 item:=by
  intro X C hw F O i j s Q H E I r st G;rfl';subst C hw F;obtain⟨xs,x,y,L⟩:=G;obtain⟨M,N,p,hz⟩:=I.list y;obtain⟨u,hu,ru⟩:=N.get L;obtain⟨⟨g,m⟩,n⟩:=st;ac_rfl;refine wpAny_pyNext_enum_item m n p.isList (x:=u) (by simpa using hu) ne λt xU KQ Iz acb kk=>?_
  have k2:∀b o,b∉ [e,l]->s.heap.get? b=some o->t.get? b=some o:=λb o f q=>kk b o (λz=>f (by simp[z])) (λz=>f (by simp[z])) q
  have I1:Inv X j Q (upd H s.heap.objs.size (.tup [.int i,x])) {s with heap:=t,toks:=s.toks+1}:=
   I.M0 r k2 (bH _) ⟨by show 2<=sizeLine;decide,[.int i s.toks,u], .cons ⟨_,rfl⟩ (.cons ru .nil),Dm Iz⟩
  refine⟨_,rfl,wpAny_letOwnedTupleGo_enum xU λh2 SK R=>?_⟩
  have lt:∀b∈ [e,l],b<s.heap.objs.size:=λb f=>by
   rcases br.mp f with z|z
   ·rw[z];exact Fk m
   ·obtain⟨o,A,_⟩:=n
    have B:b=l:=by simpa using z
    rw[B];exact Fk A
  have S:∀b∈ [e,l],gw X j (upd H s.heap.objs.size (.tup [.int i,x])) b:=λb f=>⟨by rw[aO (cE (lt b f))];exact(r b f).1,(r b f).2⟩
  refine⟨.ref s.heap.objs.size,_,I1.En (t':=s.toks+1) S (λb o f q=>R.extBut b o (λz=>f (by simp[z])) q),rfl,⟨_,x,rfl,I.hok.fresh (bH _),rfl,λys hy=>by rw[I.uN hy y];exact L⟩,⟨⟨u,?_⟩,KQ.extBut R.extBut (Ne.symm ne)⟩,λb f=>(S b f).1⟩
  have z:((i+1:Nat):Int)=(i:Int)+1:=by omega
  rw[z];exact SK
 done:=by
  intro X C hw F O i j s Q H E I r st G;rfl';subst C hw F;obtain⟨xs,y,L⟩:=G;obtain⟨M,N,p,hz⟩:=I.list y;have hl:=N.length;obtain⟨⟨g,m⟩,n⟩:=st;ac_rfl;exact wpAny_pyNext_enum_end (I.ok.hd O) m n p.isList (by simp;omega) λt eb=>⟨rfl,I.En (t':=s.toks) r λb o f q=>eb b o (λz=>f (by simp[z])) q⟩
 self:=λ_ _ _ _ _ st h=>by
  obtain⟨⟨g,m⟩,_⟩:=st;exact wpAny_pyIter_enum m h
section
variable {X:Cx}
def Td(K:PySem.W.Frag)(c:TA):TI:=λd H R=>c d H λe b=>∃a,e= [.ref a]/\(∃f,b a=some (.lst f))/\R (QZ K a) b
theorem LU{k1}(v:Gl X "enumerate")(w:X.mg "enumerate"=none)(x:PA X [a] j)(y:starEach [a] X.env= [(false,eval a X.env)]:=by rfl):
  PI X (.Tuple r k1 t) (.Call (.Name "enumerate" p) [a] [] d) (Td X.K j):=by
 intro f s A H R I h;refine Call_ (kU I v w boot_enumerate (aci (thn (x d f s A H _ I h) λS c ⟨T,B,g,C,E⟩=>?_) y rfl));rfl';obtain⟨l,e,⟨Y,G⟩,q⟩:=E;subst e;obtain⟨u,rfl,J⟩:=C.one;subst J;obtain⟨z,L,n,Z,k,e⟩:=g.pD G;ac_rfl;refine call_enumerate_1 e λh' m i xW M=>?_;refine wpAny_pyIter_enum m ?_;have N:c.heap.objs.size+1≠c.heap.objs.size:=Nat.succ_ne_self _;refine⟨c.heap.objs.size+1,[c.heap.objs.size+1,c.heap.objs.size],_,_,B,rfl,g.kept (t':=c.toks) M,Gp l _ _ N,⟨⟨_,m⟩,i⟩,λb O=>?_,q⟩
 have o:c.heap.objs.size<=b:=by
  rcases br.mp O with z|z
  ·rw[z];exact acR _
  ·have Q:b=c.heap.objs.size:=by simpa using z
   rw[Q];exact bH _
 exact g.C3 o (g.hok.fresh o)
end
end L2
namespace Wb
abbrev W:=List (List Nat)
def row(w:W)(p:Nat):List Nat:=w.getD p []
inductive Reach (w:W):Nat->Nat->Prop
 |refl (p):Reach w p p
 |step {p q r}:Reach w p q->r∈row w q->Reach w p r
structure Good (w:W):Prop where
 rng:∀p q,q∈row w p->q<w.length
 irr:∀p,p∉row w p
 nod:∀p,(row w p).Nodup
 sym:∀p q,q∈row w p->p∈row w q
 con:∀p,p<w.length->Reach w 0 p
theorem bD(h:q∈row w p):p<w.length:=by
 apply Do;intro a;unfold row at h;rw[bB,fj (by omega)] at h
 simp at h
theorem D5(h:p<w.length):w[p]? =some (row w p):=by
 unfold row;rw[bB,bJ h];rfl
theorem OZ(h:w[p]? =some r):row w p=r:=by
 unfold row;rw[bB,h];rfl
theorem Mo(h:w.length<=p):row w p= []:=by
 unfold row;rw[bB,fj h];rfl
theorem Reach.trans{w:W}(h:Reach w p q)(a:Reach w q r):Reach w p r:=by
 induction a with
 |refl=>exact h
 |step _ b c=>exact .step c b
theorem Reach.symm{w:W}(a:∀p q,q∈row w p->p∈row w q)(h:Reach w p q):Reach w q p:=by
 induction h with
 |refl=>exact .refl _
 |step _ b c=>exact(Reach.step (.refl _) (a _ _ b)).trans c
def ins{a:Type}(b:List a)(i:Nat)(x:a):List a:=b.take i++x::b.drop i
theorem uH(a:List b)(i:Nat)(x:b):(ins a i x).Perm (x::a):=by
 unfold ins;have h:= @List.perm_middle _ x (a.take i) (a.drop i);rw[jK] at h;exact h
theorem DD:a∈ins b i x↔a=x\/a∈b:=by
 rw[(uH b i x).mem_iff,br]
theorem yr(h:a.Nodup)(c:x∉a):(ins a i x).Nodup:=by
 rw[(uH a i x).nodup_iff,b7];exact⟨c,h⟩
theorem xZ(a:List b)(i:Nat)(x:b):(ins a i x).length=a.length+1:=by
 rw[(uH a i x).length_eq];rfl
theorem Mp(h:p<w.length):row (w.set p r) x=if p=x then r else row w x:=by
 unfold row;rw[bB,qs]
 by_cases e:p=x
 ·rw[tz e,tz e,tz h];rfl
 ·rw[mo e,mo e,bB]
theorem Ii{ord:Nat->Nat}(g:Good w)(k:i.length=w.length)(j:∀p,p<w.length->ord p<w.length)
  (inj:∀p q,p<w.length->q<w.length->ord p=ord q->p=q) (sur:∀y,y<w.length->∃p,p<w.length/\ord p=y)
  (l:∀p,p<w.length->(row i (ord p)).Perm ((row w p).map ord)):Good i:=by
 have mem:∀p q,p<w.length->(q∈row i (ord p)↔∃a,a∈row w p/\ord a=q):=λp q d=>by
  rw[(l p d).mem_iff,aZ]
 have reach:∀{p q},Reach w p q->Reach i (ord p) (ord q):=λ {p q} h=>by
  induction h with
  |refl=>exact .refl _
  |step _ m o=>exact .step o ((mem _ _ (bD m)).mpr ⟨_,m,rfl⟩)
 refine⟨λy q c=>?_,λy c=>?_,λy=>?_,λy q c=>?_,λy c=>?_⟩
 ·obtain⟨p,d,rfl⟩:=sur y (by have:=bD c;omega)
  obtain⟨a,f,rfl⟩:=(mem p q d).mp c;rw[k];exact j a (g.rng _ _ f)
 ·obtain⟨p,d,rfl⟩:=sur y (by have:=bD c;omega)
  obtain⟨a,f,e⟩:=(mem p _ d).mp c
  have:=inj a p (g.rng _ _ f) d e
  subst this;exact g.irr _ f
 ·by_cases c:y<w.length
  ·obtain⟨p,d,rfl⟩:=sur y c
   rw[(l p d).nodup_iff];unfold List.Nodup;rw[gY];refine acp ?_ (g.nod p);intro a b f r ne e;exact ne (inj a b (g.rng _ _ f) (g.rng _ _ r) e)
  ·rw[Mo (by omega)];exact gK
 ·obtain⟨p,d,rfl⟩:=sur y (by have:=bD c;omega)
  obtain⟨a,f,rfl⟩:=(mem p q d).mp c;exact(mem a _ (g.rng _ _ f)).mpr ⟨p,g.sym _ _ f,rfl⟩
 ·rw[k] at c
  obtain⟨p,d,rfl⟩:=sur y c;obtain⟨z,s,t⟩:=sur 0 (by omega)
  have n:=reach (((g.con z s).symm g.sym).trans (g.con p d));rw[t] at n;exact n
def aN(l:List Nat)(x:Nat):Nat:=l.getD ((l.idxOf x+1)%l.length) 0
def eB(w:W)(d:Nat×Nat):Nat×Nat:=(d.2,aN (row w d.2) d.1)
def aC(w:W)(d:Nat×Nat):Prop:=d.2∈row w d.1
theorem kD(h:x∈l):l[(l.idxOf x+1)%l.length]? =some (aN l x):=by
 have a:0<l.length:=qp h;unfold aN;rw[bB,bJ (qv _ a)];rfl
theorem Gi(h:x∈l):aN l x∈l:=dA (kD h)
theorem Lo(f:a<n)(g:b<n)(e:(a+1)%n=(b+1)%n):a=b:=by
 by_cases d:a+1=n
 ·by_cases c:b+1=n
  ·omega
  ·rw[d,sP,gZ (by omega)] at e;omega
 ·by_cases c:b+1=n
  ·rw[c,sP,gZ (by omega)] at e;omega
  ·rw[gZ (by omega),gZ (by omega)] at e;omega
theorem yT(g:l.Nodup)(a:x∈l)(b:y∈l)(e:aN l x=aN l y):x=y:=by
 have o:0<l.length:=qp a;have c:=kD a;have h:=kD b;rw[e] at c;have d:=vR.mpr a;have f:=vR.mpr b;obtain⟨p,i⟩:=di.mp c;obtain⟨r,j⟩:=di.mp h;have q:=(List.getElem_inj g).mp (i.trans j.symm);have k:=Lo d f q;have m:=AS d;have n:=AS f;rw[<-m,<-n];simp only[k]
theorem IW(g:Good w)(h:aC w d):aC w (eB w d):=Gi (g.sym _ _ h)
theorem yt(g:Good w)(h:aC w d)(c:aC w e)(q:eB w d=eB w e):d=e:=by
 have a:d.2=e.2:=FS Prod.fst q;have b:aN (row w d.2) d.1=aN (row w e.2) e.1:=FS Prod.snd q;rw[<-a] at b;have f:d.1∈row w d.2:=g.sym _ _ h;have i:e.1∈row w d.2:=by rw[a];exact g.sym _ _ c
 exact UF (yT (g.nod _) f i b) a
def aX(w:W):List (Nat×Nat):=(List.range w.length).flatMap λp=>(row w p).map λq=>(p,q)
theorem aT{w:W}:d∈aX w↔aC w d:=by
 unfold aX aC;rw[List.mem_flatMap]
 constructor
 ·rintro⟨p,_,h⟩
  obtain⟨q,a,rfl⟩:=aZ.mp h;exact a
 ·intro h
  exact⟨d.1,bT.mpr (bD h),aZ.mpr ⟨d.2,h,rfl⟩⟩
theorem az [DecidableEq b]:∀{l m:List b},l.Nodup->(∀x∈l,x∈m)->l.length<=m.length
 | [],_,_,_=>dS _
 |a::r,m,g,h=>by
  have c:=b7.mp g;have d:=h a bE;have i:=az (l:=r) (m:=m.erase a) c.2 λx f=>(List.mem_erase_of_ne (λ(e:x=a)=>c.1 (by rw[<-e];exact f))).mpr (h x (bV _ f))
  rw[List.length_erase_of_mem d] at i
  have:=qp d
  simp only[cD];omega
theorem dO(g:Good w)(p:Nat):(row w p).length<=w.length:=by
 have:=az (m:=List.range w.length) (g.nod p) λx a=>bT.mpr (g.rng _ _ a)
 simpa using this
theorem z5{f:b->List c}{k:Nat}:∀{l:List b},(∀x∈l,(f x).length<=k)->(l.flatMap f).length<=l.length*k
 | [],_=>by simp
 |a::r,h=>by
  have e:=z5 (f:=f) (k:=k) (l:=r) λx d=>h x (bV _ d)
  have:=h a bE
  rw[vc,bZ,cD,Nat.succ_mul];omega
theorem iP(g:Good w):(aX w).length<=w.length*w.length:=by
 have:=z5 (f:=λp=>(row w p).map λq=>(p,q)) (k:=w.length) (l:=List.range w.length) λx _=>by rw[aD];exact dO g x
 rw[fG] at this;exact this
def ba(w:W):Nat->Nat×Nat->Nat×Nat
 |0,d=>d
 |n+1,d=>eB w (ba w n d)
theorem cG(g:Good w)(h:aC w d):∀n,aC w (ba w n d)
 |0=>h
 |n+1=>IW g (cG g h n)
theorem eZ{w:W}{d:Nat×Nat}(m:Nat):∀n,ba w (n+m) d=ba w n (ba w m d)
 |0=>by rw[rG];rfl
 |n+1=>by rw[Nat.succ_add];show eB w (ba w (n+m) d)=eB w (ba w n (ba w m d));rw[eZ m n]
theorem tJ(g:Good w)(h:aC w d)(a:aC w e):∀n,ba w n d=ba w n e->d=e
 |0,q=>q
 |n+1,q=>tJ g h a n (yt g (cG g h n) (cG g a n) q)
def walk(w:W)(d:Nat×Nat)(k:Nat):List (Nat×Nat):=(List.range k).map λi=>ba w i d
theorem sI(w:W)(d:Nat×Nat)(k:Nat):walk w d (k+1)=walk w d k++ [ba w k d]:=by
 unfold walk;rw[List.range_succ,cJ];rfl
theorem cY(w:W)(d:Nat×Nat)(k:Nat):(walk w d k).length=k:=by unfold walk;simp
theorem n0(g:Good w)(h:aC w d):∀e∈walk w d k,aC w e:=λe a=>by
 obtain⟨i,_,rfl⟩:=aZ.mp a;exact cG g h i
theorem qi(g:Good w)(h:aC w d)(a:∀j,0<j->j<k->ba w j d≠d):(walk w d k).Nodup:=by
 unfold walk List.Nodup;rw[gY];refine acp ?_ AR;intro i j f b lt e;have l:=bT.mp b;have c:ba w i d=ba w i (ba w (j-i) d):=by rw[<-eZ (j-i) i,show i+(j-i)=j by omega];exact e
 exact a (j-i) (by omega) (by omega) (tJ g h (cG g h _) i c).symm
theorem y4(g:Good w)(h:aC w d){k:Nat}(a:∀j,0<j->j<k->ba w j d≠d):k<=(aX w).length:=by
 have:=az (m:=aX w) (qi g h a) λe b=>aT.mpr (n0 g h e b)
 rwa [cY] at this
theorem kM(g:Good w){S:Nat->Prop}(c:S 0)(d:∀p q,S p->q∈row w p->S q):∀p,p<w.length->S p:=λp e=>by
 have:∀{a b},Reach w a b->S a->S b:=λ {a b} h f=>by
  induction h with
  |refl=>exact f
  |step _ i j=>exact d _ _ j i
 exact this (g.con p e) c
def lexLe(a b:Nat×Nat):Prop:=a.1<b.1\/(a.1=b.1/\a.2<=b.2)
theorem Am(h:lexLe a b)(c:lexLe b a):a=b:=by
 unfold lexLe at h c;exact UF (by omega) (by omega)
def jU(a:Nat->List Nat)(n:Nat):List (Nat×Nat):=(List.range n).flatMap λp=>((a p).filter λq=>decide (p<q)).map λq=>(p,q)
theorem pN{e c:Type}{R:c->c->Prop}{f:e->List c}:∀{l:List e},(∀x∈l,(f x).Pairwise R)->l.Pairwise (λa b=>∀x∈f a,∀y∈f b,R x y)->(l.flatMap f).Pairwise R
 | [],_,_=>List.Pairwise.nil
 |a::r,h,p=>by
  have g:=Cd.mp p;rw[vc,ada];refine⟨h a bE,pN (λx d=>h x (bV _ d)) g.2,λx d y i=>?_⟩;obtain⟨b,j,k⟩:=List.mem_flatMap.mp i;exact g.1 b j x d y k
end Wb
namespace L2
open PySem PySem.Spec PyProof.Rows
section
variable {X:Cx}
def OW(K:PySem.W.Frag):V->List V->Hp->VK->Prop:=λx b H Q=>∃(l:Addr)(a:List V)(y:V)(j:Nat)(z:V),x= .ref l/\b= [y]/\H l=some (.lst a)/\hZ y=true/\a.all hZ=true/\a[j]? =some z/\xN z y=true/\
 (∀(m:Nat) z,m<j->a[m]? =some z->xN z y=false)/\Q (.int j) H
theorem IS:HA X "list.index" (OW X.K):=by
 intro A s Y H x Z v us Q I B C h;rfl';obtain⟨l,d,y,j,z,rfl,rfl,G,J,fs,f,L,M,q⟩:=h;subst B;obtain⟨u,rfl,N⟩:=C.one;obtain⟨xW,a,n,r,hl,e⟩:=I.pD G;obtain⟨w,hw,O⟩:=r.get f;ac_rfl
 have R:j<a.toArray.size:=by
  obtain⟨b,_⟩:=di.mp hw;simpa using b
 have flat:∀(m:Nat) z,d[m]? =some z->hZ z=true:=λm z h=>(adK.mp fs) z (dA h)
 have g:a.toArray[j]=w:=by
  obtain⟨b,i⟩:=di.mp hw;simpa using i
 have fV:=qE
 have SU:j<d.length:=by
  obtain⟨b,_⟩:=di.mp f;exact b
 refine acv F.slot_list_index ⟨_,e,rfl⟩ F.entry_list_index (F.args_list_index_2 _ _) (SeqAt.list_indexAt l a.toArray n none #[] u (qJ y) j R (by omega) ?_ ?_) ⟨e,λw hw=>j3 N J r fs w (by simpa using hw),?_⟩
 ·rw[g,wM O (flat j z f)];exact L
 ·intro m S T
  have rT:m<a.length:=by simpa using S
  obtain⟨c,k⟩:∃c,d[m]? =some c:=⟨_,bJ (by omega)⟩
  obtain⟨U,o,p⟩:=r.get k
  have t:a.toArray[m]=U:=by
   obtain⟨b,i⟩:=di.mp o;simpa using i
  rw[t,wM p (flat m c k)];exact M m c T k
 ·exact⟨.int j,H,I.tok _,⟨_,rfl⟩,q⟩
end
mutual
inductive Dp (K:PySem.W.Frag) (H:Hp):V->PyData->Prop
 |bA:Dp K H .bA .none
 |bl (b:Bool):Dp K H (.bl b) (.bool b)
 |int (i:Int):Dp K H (.int i) (.int i)
 |str (x:Str) (h:PyData.strOk x=true):Dp K H (.str x) (.str x)
 |lst {a:Addr} {xs:List V} {ds:List PyData}:cM K H a xs->ju K H xs ds->Dp K H (.ref a) (.list ds)
 |tup {a:Addr} {xs:List V} {ds:List PyData}:eW K H a xs->ju K H xs ds->Dp K H (.ref a) (.tuple ds)
inductive ju (K:PySem.W.Frag) (H:Hp):List V->List PyData->Prop
 |nil:ju K H [] []
 |cons {v:V} {vs:List V} {d:PyData} {ds:List PyData}:Dp K H v d->ju K H vs ds->ju K H (v::vs) (d::ds)
end
section
variable {X:Cx} {pins:List (Addr×Obj)} {σ:St} {H:Hp} {s:Shared}
mutual
theorem Dp.reads(I:Inv X pins σ H s):∀{v:V}{d:PyData}{u:Value},Dp X.K H v d->RelV v u->(∃as,Reads s.heap u d as)/\d.canLay0=true
 |_,_,_, .bA,r=>by cases r;exact⟨⟨_, .none⟩,rfl⟩
 |_,_,_, .bl b,r=>by cases r;exact⟨⟨_, .bool b⟩,rfl⟩
 |_,_,_, .int i,r=>by obtain⟨t,rfl⟩:=r;exact⟨⟨_, .int i t⟩,rfl⟩
 |_,_,_, .str x h,r=>by obtain⟨t,rfl⟩:=r;exact⟨⟨_, .str x t⟩,by simpa [PyData.canLay0] using h⟩
 |_,_,_, .lst h a,r=>by
  cases r;obtain⟨its,rv,pl,hz⟩:=I.list h;obtain⟨⟨as,ra⟩,c⟩:=ju.reads I a rv;obtain⟨o,ho,hc,n,hd⟩:=pl.isList;exact⟨⟨_, .list ho hc hd (by simpa using ra)⟩,by simpa [PyData.canLay0] using c⟩
 |_,_,_, .tup h a,r=>by
  cases r;obtain⟨its,rv,pl,hz⟩:=I.tuple h;obtain⟨⟨as,ra⟩,c⟩:=ju.reads I a rv;obtain⟨o,ho,hc,n,hd⟩:=pl;exact⟨⟨_, .tuple ho hc hd (by simpa using ra)⟩,by simpa [PyData.canLay0] using c⟩
theorem ju.reads(I:Inv X pins σ H s):∀{vs:List V}{ds:List PyData}{us:List Value},ju X.K H vs ds->Vals vs us->(∃as,ReadsAll s.heap us ds as)/\PyData.canLayAll0 ds=true
 |_,_,_, .nil, .nil=>⟨⟨_, .nil⟩,by simp[PyData.canLayAll0]⟩
 |_,_,_, .cons a as, .cons r rs=>by
  obtain⟨⟨x,h1⟩,c1⟩:=Dp.reads I a r;obtain⟨⟨y,h2⟩,c2⟩:=ju.reads I as rs;exact⟨⟨_, .cons h1 h2⟩,by simp[PyData.canLayAll0,c1,c2]⟩
end
end
section
variable {X:Cx}
def aaW(K:PySem.W.Frag):R2:=λx y H Q=>∃d e,Dp K H x d/\Dp K H y e/\d.depth<=64/\Q (.bl (PyData.eqv d e)) H
def aaZ(K:PySem.W.Frag):R2:=λx y H Q=>∃d e,Dp K H x d/\Dp K H y e/\d.depth<=64/\Q (.bl (!PyData.eqv d e)) H
theorem Oq(n:X.A.units+64<cLine):OpR X (compareOp .Eq) (aaW X.K):=by
 intro a s o H x y v u Q I b c h;rfl';obtain⟨d,e,g,i,r,q⟩:=h;obtain⟨⟨as,j⟩,k⟩:=g.reads I b;obtain⟨⟨bs,l⟩,m⟩:=i.reads I c;ac_rfl;exact SeqAt.compareEq_reads j l k m (by have:=Nat.min_le_left d.depth e.depth;omega) ⟨.bl _,H,I,rfl,q⟩
theorem Ow(n:X.A.units+64<cLine):OpR X (compareOp .NotEq) (aaZ X.K):=by
 intro a s o H x y v u Q I b c h;rfl';obtain⟨d,e,g,i,r,q⟩:=h;obtain⟨⟨as,j⟩,k⟩:=g.reads I b;obtain⟨⟨bs,l⟩,m⟩:=i.reads I c;ac_rfl;exact SeqAt.compareNe_reads j l k m (by have:=Nat.min_le_left d.depth e.depth;omega) ⟨.bl _,H,I,rfl,q⟩
end
def nD(n:Nat):PyData:= .int n
def oq(r:List Nat):PyData:= .list (r.map nD)
theorem kO{e:Type}{f:e->PyData}(g:∀a b,PyData.eqv (f a) (f b)=true↔a=b):∀c d:List e,PyData.eqvAll (c.map f) (d.map f)=true↔c=d
 | [],[]=>by simp[PyData.eqvAll]
 | [],_::_=>by simp[PyData.eqvAll]
 |_::_,[]=>by simp[PyData.eqvAll]
 |a::c,b::d=>by
  have h:=kO g c d;simp[PyData.eqvAll,g,h]
theorem NA(a b:Nat):PyData.eqv (nD a) (nD b)=true↔a=b:=by
 simp[nD,PyData.eqv];omega
theorem uG(a b:List Nat):PyData.eqv (oq a) (oq b)=true↔a=b:=by
 unfold oq;rw[PyData.eqv];exact kO NA a b
theorem i6{f:c->PyData}{k:Nat}(d:∀a,(f a).depth<=k):∀b:List c,PyData.depthAll (b.map f)<=k
 | []=>by simp[PyData.depthAll]
 |a::b=>by
  have:=d a
  have e:=i6 d b;simp[PyData.depthAll];omega
theorem pj(a:List Nat):(oq a).depth<=2:=by
 unfold oq;rw[PyData.depth]
 have:=i6 (f:=nD) (k:=1) (λn=>by simp[nD,PyData.depth]) a
 omega
def ud(w:List (List Nat)):PyData:= .list (w.map oq)
theorem zZ(a b:List (List Nat)):PyData.eqv (ud a) (ud b)=true↔a=b:=by
 unfold ud;rw[PyData.eqv];exact kO uG a b
theorem CN(a:List (List Nat)):(ud a).depth<=3:=by
 unfold ud;rw[PyData.depth]
 have:=i6 (f:=oq) (k:=2) pj a
 omega
end L2
namespace L2
open PySem PySem.Spec PyProof.Rows
theorem Vals.of_get:∀{a:List V}{b:List Value},a.length=b.length->(∀(k:Nat) x u,a[k]? =some x->b[k]? =some u->RelV x u)->Vals a b
 | [],[],_,_=> .nil
 | [],_::_,h,_=>by simp at h
 |_::_,[],h,_=>by simp at h
 |x::a,u::b,h,r=> .cons (r 0 x u rfl rfl) (Vals.of_get (by simpa using h) λk y w c d=>r (k+1) y w (by simpa using c) (by simpa using d))
section
variable {X:Cx}
theorem A7:cK X (.builtin "isinstance") (λa H Q=>∃(x:V)(n:String)(t:Value)(b:Bool),a= [x, .ty n]/\kL X.K H x t/\PySem.W.kitOne X.K t (.type n)=some b/\Q (.bl b) H):=by
 intro c s k H a l Q I d h;rfl';obtain⟨x,n,t,b,rfl,g,e,q⟩:=h;obtain⟨o,p,rfl,i,j⟩:=d.two;subst j;ac_rfl;exact Fq I i g e λr=>⟨.bl b,H,I.tok _,rfl,q⟩
def nQ(i:Int)(n:Nat):List V:=(List.range n).map λ(k:Nat)=>V.int (i+(k:Int))
theorem oX(r:X.calm=true):cK X (.type "list") (λg H Q=>∃(p:Addr)(i j:Int),g= [.ref p]/\H p=some (.rng i j)/\-(2^62)<=i/\i<2^62/\-(2^62)<=j/\j<2^62/\(j-i).toNat<=1000/\
  ∀q,H q=none->Q (.ref q) (upd H q (.lst (nQ i (j-i).toNat)))):=by
 intro l s S H g T Q I y h;rfl';obtain⟨p,i,j,rfl,B,C,E,F,G,Y,q⟩:=h;obtain⟨u,rfl,J⟩:=y.one;subst J;obtain⟨t,u,v,e⟩:=(show cV X.prog X.w H s.heap p (.rng i j) from I.hok p _ B);ac_rfl;refine call_list_range (n:=(j-i).toNat) (I.ok.hd r) e (small_one C E F G) ?_ (by omega) λZ tk f c L M m=>?_
 ·rw[rangeSize_one];split<;>omega
 ·have ck:1000<=sizeLine:=by decide
  refine⟨.ref s.heap.objs.size,_,I.laid L (bH _) (o:= .lst (nQ i (j-i).toNat)) ⟨by unfold nQ;simp;omega,f.toList,c,?_,by simpa using M⟩,rfl,q _ (I.hok.fresh (bH _))⟩
  refine Vals.of_get (by unfold nQ;simp[m.1]) λk x w d hw=>?_
  unfold nQ at d;rw[bQ] at d;obtain⟨N,O⟩:=m.2 k w (by rw[<-kG];exact hw)
  have R:(List.range (j-i).toNat)[k]? =some k:=by
   cases q:(List.range (j-i).toNat)[k]? with
   |none=>rw[q] at d;cases d
   |some z=>
    obtain⟨a,b⟩:=di.mp q;rw[List.getElem_range] at b;rw[b]
  rw[R] at d;obtain rfl:=Da d;exact⟨N,by rw[O,Int.mul_one]⟩
end
theorem xD(b g h k f:Expr)(i l:List Expr)(a:Scope)(d:Pos)(j e:Value)(env:Env):
  compTurn (.ListComp b [⟨g,h,i,0⟩,⟨k,f,l,0⟩] a d) 0 j e env=(do
   standAt h.pos
   match <-pyNext j with
   |none=>pure (.done .next)
   |some v=>
    letOwnedTupleGo g j v
    assign g env v
    let ok <-forIn i true λc r=>if r=true then do let ok <-isTrue c env (eval c env);pure (ForInStep.yield ok) else pure (ForInStep.yield r)
    if ok=true then
     let x <-eval f env
     standAt f.pos
     let x <-foldedSetIterable f env x
     let m <-holding [x] (pyIter x)
     let _ <-runOwn (.compStart (.ListComp b [⟨g,h,i,0⟩,⟨k,f,l,0⟩] a d) 1 m e env) env
     again (.compLoop (.ListComp b [⟨g,h,i,0⟩,⟨k,f,l,0⟩] a d) 0 j e env)
    else again (.compLoop (.ListComp b [⟨g,h,i,0⟩,⟨k,f,l,0⟩] a d) 0 j e env)):=by rfl
theorem xE(b j k f h:Expr)(l i:List Expr)(a:Scope)(e:Pos)(g d:Value)(env:Env):
  compTurn (.ListComp b [⟨j,k,l,0⟩,⟨f,h,i,0⟩] a e) 1 g d env=(do
   standAt h.pos
   match <-pyNext g with
   |none=>pure (.done .next)
   |some v=>
    letOwnedTupleGo f g v
    assign f env v
    let ok <-forIn i true λc r=>if r=true then do let ok <-isTrue c env (eval c env);pure (ForInStep.yield ok) else pure (ForInStep.yield r)
    if ok=true then
     (do let _ <-call (.builtin "list.append") [d,<-eval b env])
     again (.compLoop (.ListComp b [⟨j,k,l,0⟩,⟨f,h,i,0⟩] a e) 1 g d env)
    else again (.compLoop (.ListComp b [⟨j,k,l,0⟩,⟨f,h,i,0⟩] a e) 1 g d env)):=by rfl
section
variable {X XC:Cx} {elt i0 t0 i1 t1:Expr} {f0 f1:List Expr} {scope:Scope} {pos:Pos} {wi g7:TI} {g g1:TG} {tt eH:TT} {te:TE} {src:List (Option Nat)} {NC:List Str}
theorem wb{b a:Value}{env:Env}{R:Result->Shared->Prop}{s:Shared}{A:Around}
  (c:codeAny (model X.prog X.w) A (.compLoop (.ListComp elt [⟨t0,i0,f0,0⟩,⟨t1,i1,f1,0⟩] scope pos) 1 b a env) R s)
  (d:∀(Q:Value->Shared->Prop)(E:Value->Shared->Prop),Q b s->wpAny (model X.prog X.w) A (pyIter b) Q E s):
  codeAny (model X.prog X.w) A (.compStart (.ListComp elt [⟨t0,i0,f0,0⟩,⟨t1,i1,f1,0⟩] scope pos) 1 b a env) R s:=by
 refine codeAny_of_tree ?_;refine wpAny_notedAt ?_;unfold compStart;refine wpAny_bind (wpAny_askSetting (wpAny_ite ?_))
 split
 ·first
   |exact wpAny_bind (wpAny_pure (wpAny_pure ⟨rfl,c⟩))
   |exact wpAny_pure ⟨rfl,c⟩
 ·refine wpAny_bind (wpAny_rule ?_)
  exact wpAny_bind (wpAny_standAt (wpAny_bind (d _ _ (wpAny_pure ⟨rfl,c⟩))))
theorem CC{a:List (Addr×Obj)}{s:Shared}{σ:St}{H:Hp}{Z D:Addr}{F:List Addr}{g:Nat->Heap->Prop}{J:It}{R:Result->Shared->Prop}{N:St->Hp->Prop}
  (NS:XC.xe=λ_ _=>False) (hc:XC.calm=true) (I:Inv XC a σ H s) (T:Turn XC.prog XC.w XC.K t1 J F Z g) (st:g 0 s.heap) (f2:∀b∈F,gw XC a H b)
  (hg:PG XC t1 g1) (ht:oS XC f1 eH) (he:PE XC elt te)
  (hW:∃W:Nat->Nat->St->Hp->Prop,(∃m,W 0 m σ H)/\∀i m gr O,W i m gr O->(J.stop i O/\N gr O)\/
   (J.go i O/\∃L:St->Hp->Prop,(∀j c,L j c->∃m',m'<m/\W (i+1) m' j c)/\∀x H3,J.yld i O x H3->g1 x gr H3 λgu H4=>eH gu H4 λb H5=>
    if b=true then te gu H5 λv H6=>∃S,H6 D=some (.lst S)/\S.length<sizeLine/\L gu (upd H6 D (.lst (S++ [v]))) else L gu H5))
  (hR:∀j c B,Inv XC a j c B->N j c->R (.ok .next) B):
  codeAny (model XC.prog XC.w) XC.A (.compStart (.ListComp elt [⟨t0,i0,f0,0⟩,⟨t1,i1,f1,0⟩] scope pos) 1 (.ref Z) (.ref D) XC.env) R s:=by
 obtain⟨W,⟨m0,w0⟩,turn⟩:=hW
 have lU:∀{α:Type}{t:Sem α}{Q:α->Shared->Prop}{E:Value->Shared->Prop}{s:Shared},wpAny (model XC.prog XC.w) XC.A t Q XC.xe s->wpAny (model XC.prog XC.w) XC.A t Q E s:=λ {α t Q E s} h=>
  wpAny_mono h (λ_ _ q=>q) λ_ _ f=>by rw[NS] at f;exact f.elim
 have l:∀{c:Hp},(∀b∈F,c b=none)->∀b∈F,gw XC a c b:=λhn b C=>⟨hn b C,(f2 b C).2⟩
 have loop:codeAny (model XC.prog XC.w) XC.A (.compLoop (.ListComp elt [⟨t0,i0,f0,0⟩,⟨t1,i1,f1,0⟩] scope pos) 1 (.ref Z) (.ref D) XC.env) R s:=by
  refine aeg rfl (λn B=>∃i j c,Inv XC a j c B/\g i B.heap/\(∀b∈F,c b=none)/\W i n j c) (λn B hI=>?_) m0 ⟨0,σ,H,I,st,λb C=>(f2 b C).1,w0⟩;rfl';obtain⟨i,j,c,I5,wC,zo,w5⟩:=hI;ac_rfl;show wpAny _ XC.A ((compTurn (.ListComp elt [⟨t0,i0,f0,0⟩,⟨t1,i1,f1,0⟩] scope pos) 1 (.ref Z) (.ref D) XC.env).onRaise (λx=>do noteFrame x XC.env;theTreesLotGoes x)) _ _ B
  refine wpAny_noted ?_;rw[xE];refine be (acn (be ?_))
  rcases turn i n j c w5 with ⟨stop,qn⟩ | ⟨go,L,hN,step⟩
  ·refine thn (T.done XC rfl rfl rfl hc i a B j c _ I5 (l zo) wC stop) λr s6 k=>?_
   obtain⟨hr,I6⟩:=k;subst hr;exact ir (hR j c s6 I6 qn)
  ·refine thn (T.item XC rfl rfl rfl hc i a B j c _ I5 (l zo) wC go) λr s6 k=>?_
   rfl';obtain⟨u,hr,h6⟩:=k;ac_rfl;subst hr;refine be (thn h6 λ_ s7 k=>?_);rfl';obtain⟨x,H7,I7,r7,y7,yQ,Kt⟩:=k;ac_rfl;have JC:=I7.pinned (l Kt) (T.obj _ _ yQ)
   have nextT:∀{z:St}{G:Hp}{M:Shared},Inv XC (a++nO F s7.heap) z G M->L z G->∃m,m<n/\∃i j c,Inv XC a j c M/\g i M.heap/\(∀b∈F,c b=none)/\W i m j c:=λ {z G M} Y n8=>by
    obtain⟨m',hm,w8⟩:=hN z G n8;refine⟨m',hm,i+1,z,G,Y.j6,T.keep _ _ _ yQ λb C o e=>(Y.pin (b,o) (cZ _ (cZ _ (fh C e)))).1,λb C=>?_,w8⟩;obtain⟨o,e,d⟩:=T.obj _ _ yQ b C;exact(Y.pin (b,o) (cZ _ (cZ _ (fh C e)))).2.1
   refine be (lU (thn (hg _ s7 j H7 x u _ JC r7 (step x H7 y7)) λ_ M k=>?_));rfl';obtain⟨z,G,Y,q8⟩:=k;ac_rfl;refine be (lU (thn (ht _ M z G _ Y q8) λb s9 k=>?_));obtain⟨H9,I9,q9⟩:=k;cases b with
   |false=>
    rw[mo cw] at q9;exact ir ⟨rfl,nextT I9 q9⟩
   |true=>
    rw[tz rfl] at q9;refine be (be (lU (thn (he _ s9 z H9 _ I9 q9) λy O0 k=>?_)));rfl';obtain⟨v,M9,QX,T4,S,hD,hz,TY⟩:=k;ac_rfl;refine be (lU (thn (kj _ O0 z M9 (.ref D) [v] _ [y] (λ_ c=>L z c) QX rfl (.cons T4 .nil) ⟨_,S,v,rfl,rfl,hD,hz,TY⟩) λ_ O1 k=>?_));rfl';obtain⟨_,QW,JB,_,TZ⟩:=k;ac_rfl;exact ir (ir ⟨rfl,nextT JB TZ⟩)
 exact wb (X:=XC) loop λQ E q=>T.self _ 0 _ _ _ st q
def tIn(p:TG)(q:TT)(r:TE)(D:Addr)(J:It)(N:St->Hp->Prop):St->Hp->Prop:=λs H=>
 ∃W:Nat->Nat->St->Hp->Prop,(∃m,W 0 m s H)/\∀i m d a,W i m d a->(J.stop i a/\N d a)\/
  (J.go i a/\∃e:St->Hp->Prop,(∀h j,e h j->∃k,k<m/\W (i+1) k h j)/\∀x l,J.yld i a x l->p x d l λc t=>q c t λb n=>
   if b=true then r c n λv o=>∃f,o D=some (.lst f)/\f.length<sizeLine/\e c (upd o D (.lst (f++ [v]))) else e c n)
def QT(g:TG)(l:TT)(n:TI)(o:TG)(p:TT)(q:TE)(D:Addr)(J:It)(Q:VK)(r:St)(H:Hp):Prop:=
 ∃W:Nat->Nat->St->Hp->Prop,(∃m,W 0 m r H)/\∀i m d a,W i m d a->
  (J.stop i a/\Q (.ref D) a)\/
  (J.go i a/\∃N:St->Hp->Prop,(∀e f,N e f->∃h,h<m/\W (i+1) h e f)/\∀x j,J.yld i a x j->g x d j λc s=>l c s λb k=>
   if b=true then n c k λt u=>tIn o p q D t N c u else N c k)
def QR(c:TI)(g:TG)(d:TT)(e:TI)(f:TG)(h:TT)(i:TE)(src:List (Option Nat)):TE:=λa H Q=>c a H λJ b=>∀D,b D=none->QT g d e f h i D J Q (oI src a) (upd b D (.lst []))
theorem A8{j:List (Addr×Obj)}{σ:St}{l:Shared}{S:Hp}{it:Addr}{F:List Addr}{Z:Nat->Heap->Prop}{J:It}{RR:Value->Addr->Result->Shared->Prop}{E:Value->Shared->Prop}{Q:VK}
  (hc:X.calm=true) (c:b6 X scope) (fg:dJ scope X.N src NC) (I2:Inv X j σ S l) (T:Turn X.prog X.w X.K t0 J F it Z) (sD:Z 0 l.heap) (f2:∀b∈F,gw X j S b)
  (hg:∀ex s H,PG (cO X scope NC ex s H) t0 g) (ht:∀ex s H,oS (cO X scope NC ex s H) f0 tt) (wj:∀ex s H,PI (cO X scope NC ex s H) t1 i1 g7) (KP:∀ex s H,PG (cO X scope NC ex s H) t1 g1)
  (K3:∀ex s H,oS (cO X scope NC ex s H) f1 eH) (he:∀ex s H,PE (cO X scope NC ex s H) elt te) (Dg:∀env x,foldedSetIterable i1 env x=pure x)
  (hW:∀D,S D=none->QT g tt g7 g1 eH te D J Q (oI src σ) (upd S D (.lst [])))
  (Sz:∀D B H3 G v I,Inv X j σ H3 B->(∀b∈F,gw X j H3 b)->Inv (cO X scope NC F B H3) [] G v I->Q (.ref D) v->RR (.ref D) B.heap.objs.size (.ok .next) I):
  wpAny (model X.prog X.w) X.A (newList []) (λacc MT=>wpAny (model X.prog X.w) X.A (newFunctionEnv scope X.env.globals (jG X.env scope.names []) [] X.env.qual none .none (some X.env)) (λoY yW=>
   codeAny (model X.prog X.w) X.A (.compStart (.ListComp elt [⟨t0,i0,f0,0⟩,⟨t1,i1,f1,0⟩] scope pos) 0 (.ref it) acc {oY with scope:=relabel scope X.env}) (RR acc oY.locals) yW) E MT) E l:=by
 rfl';obtain⟨W,⟨m0,w0⟩,turn⟩:=hW l.heap.objs.size I2.fresh;have I3:Inv X j σ (upd S l.heap.objs.size (.lst [])) {l with heap:=l.heap.push {cls:= .type "list",data:= .seq ([]:List Value).toArray}}:=I2.GY (its:= []) (t':=l.toks) .nil (dS _)
 ac_rfl
 have Tr:∀b∈F,b<l.heap.objs.size:=λb k=>by
  obtain⟨o,e,_⟩:=T.obj _ _ sD b k;exact Fk e
 have f3:∀b∈F,gw X j (upd S l.heap.objs.size (.lst [])) b:=λb k=>⟨by rw[aO (cE (Tr b k))];exact(f2 b k).1,(f2 b k).2⟩
 refine KM ?_
 suffices key:∀B:Shared,Inv X j σ (upd S l.heap.objs.size (.lst [])) B->(∀b o,l.heap.get? b=some o->B.heap.get? b=some o)->
   wpAny (model X.prog X.w) X.A (newFunctionEnv scope X.env.globals (jG X.env scope.names []) [] X.env.qual none .none (some X.env)) (λoY yW=>
    codeAny (model X.prog X.w) X.A (.compStart (.ListComp elt [⟨t0,i0,f0,0⟩,⟨t1,i1,f1,0⟩] scope pos) 0 (.ref it) (.ref l.heap.objs.size) {oY with scope:=relabel scope X.env}) (RR (.ref l.heap.objs.size) oY.locals) yW) E B from
  key _ I3 λb o e=>AC _ e
 intro B I3 Ur;have Ef:Z 0 B.heap:=T.keep _ _ _ sD λb _ o e=>Ur b o e
 have FE:∀b∈F,b<B.heap.objs.size:=λb k=>by
  obtain⟨o,e,_⟩:=T.obj _ _ Ef b k;exact Fk e
 generalize hH3:upd S l.heap.objs.size (.lst [])=H3 at I3 f3 w0;refine wpAny_newFunctionEnv c.nocell (by intro y hy;simp at hy) (λh1 Bm Br=>?_) c.kind
 have I4:=zN (src:=src) (NC:=NC) (ex:=F) (tk:=B.toks+([]:List (Str×Value)).length) I3 c fg f3 FE Bm Br;have MO:Z 0 h1:=T.keep _ _ _ Ef λb k o e=>Br.extBut b o (cE (FE b k)) (AC _ e);generalize C:cO X scope NC F B H3=a at I4
 have L:∀{v:Hp},(∀b∈F,v b=none)->∀b∈F,gw a [] v b:=λ {v} hn b k=>by
  subst C;refine⟨hn b k,cE (FE b k),λz=>?_, .inl k,λx d e=>?_,λp hp=>absurd (show p∈([]:List (Addr×Obj)) from hp) (by simp)⟩
  ·exact(I4.ok.exfs b k) z
  ·exact(I4.ok.exf b k).2 x d e
 have Im:a.calm=true:=by subst C;exact hc
 have eP:a.prog=X.prog:=by subst C;rfl
 have ew:a.w=X.w:=by subst C;rfl
 have eK:a.K=X.K:=by subst C;rfl
 have eA:a.A=X.A:=by subst C;rfl
 have NS:a.xe=λ_ _=>False:=by subst C;rfl
 have SQ:PG a t0 g:=by subst C;exact hg _ _ _
 have S7:oS a f0 tt:=C▸ht _ _ _;have hiC:PI a t1 i1 g7:=C▸wj _ _ _;have XH:PG a t1 g1:=C▸KP _ _ _;have X3:oS a f1 eH:=C▸K3 _ _ _;have SM:PE a elt te:=C▸he _ _ _
 have lU:∀{α:Type}{t:Sem α}{Q:α->Shared->Prop}{E:Value->Shared->Prop}{s:Shared},wpAny (model a.prog a.w) a.A t Q a.xe s->wpAny (model X.prog X.w) X.A t Q E s:=λ {α t Q E s} h=>by
  rw[<-eP,<-ew,<-eA];exact wpAny_mono h (λ_ _ q=>q) λ_ _ f=>by rw[NS] at f;exact f.elim
 have loop:codeAny (model X.prog X.w) X.A (.compLoop (.ListComp elt [⟨t0,i0,f0,0⟩,⟨t1,i1,f1,0⟩] scope pos) 0 (.ref it) (.ref l.heap.objs.size) a.env) (RR (.ref l.heap.objs.size) B.heap.objs.size)
   {B with heap:=h1,toks:=B.toks+([]:List (Str×Value)).length}:=by
  refine aeg rfl (λn I=>∃i G v,Inv a [] G v I/\Z i I.heap/\(∀b∈F,v b=none)/\W i n G v) (λn I hI=>?_) m0 ⟨0,_,_,I4,MO,λb k=>(f3 b k).1,w0⟩;rfl';obtain⟨i,G,v,I5,wC,zo,w5⟩:=hI;ac_rfl;show wpAny _ X.A ((compTurn (.ListComp elt [⟨t0,i0,f0,0⟩,⟨t1,i1,f1,0⟩] scope pos) 0 (.ref it) (.ref l.heap.objs.size) a.env).onRaise (λx=>do noteFrame x a.env;theTreesLotGoes x)) _ _ I
  refine wpAny_noted ?_;rw[xD];refine be (acn (be ?_))
  rcases turn i n G v w5 with ⟨stop,qn⟩ | ⟨go,N,hN,step⟩
  ·have hd:=T.done a eP ew eK Im i [] I G v (notedBy (model X.prog X.w) X.A a.env λe I=>RR (.ref l.heap.objs.size) B.heap.objs.size (.error e) I) I5 (L zo) wC stop
   rw[eA] at hd;refine thn hd λr s6 O=>?_;obtain⟨hr,I6⟩:=O;subst hr;refine ir ?_;subst C;exact Sz _ B _ G v s6 I3 f3 I6 qn
  ·have hd:=T.item a eP ew eK Im i [] I G v (notedBy (model X.prog X.w) X.A a.env λe I=>RR (.ref l.heap.objs.size) B.heap.objs.size (.error e) I) I5 (L zo) wC go
   rw[eA] at hd;refine thn hd λr s6 O=>?_;obtain⟨u,hr,h6⟩:=O;subst hr;refine be (thn h6 λ_ s7 O=>?_);rfl';obtain⟨x,H7,I7,r7,y7,yQ,Kt⟩:=O;ac_rfl;have JC:=I7.pinned (L Kt) (T.obj _ _ yQ)
   have nextT:∀{U:St}{Y:Hp}{s8:Shared},Inv a ([]++nO F s7.heap) U Y s8->N U Y->∃m,m<n/\∃i G v,Inv a [] G v s8/\Z i s8.heap/\(∀b∈F,v b=none)/\W i m G v:=λ {U Y s8} I8 n8=>by
    obtain⟨m',hm,w8⟩:=hN U Y n8;refine⟨m',hm,i+1,U,Y,I8.j6,T.keep _ _ _ yQ λb k o e=>(I8.pin (b,o) (cZ _ (cZ _ (fh k e)))).1,λb k=>?_,w8⟩;obtain⟨o,e,d⟩:=T.obj _ _ yQ b k;exact(I8.pin (b,o) (cZ _ (cZ _ (fh k e)))).2.1
   refine be (lU (thn (SQ _ s7 G H7 x u _ JC r7 (step x H7 y7)) λ_ s8 O=>?_));rfl';obtain⟨U,Y,I8,q8⟩:=O;ac_rfl;refine be (lU (thn (S7 _ s8 U Y _ I8 q8) λb s9 O=>?_));obtain⟨H9,I9,q9⟩:=O;cases b with
   |false=>
    rw[mo cw] at q9;exact ir ⟨C▸rfl,nextT I9 q9⟩
   |true=>
    rw[tz rfl] at q9;refine be (lU (thn (hiC _ s9 U H9 _ I9 q9) λv1 O0 h10=>?_));refine be (acn (be (acy (Dg _ v1) (be (KF (lU (thn h10 λnG O1 h11=>?_)))))));rfl';obtain⟨K7,fp1,tn1,J1,QW,rfl,JB,T1,abE,f11,hin⟩:=h11;ac_rfl;refine be (wpAny_runOwn ?_);have tr:∀(cd:Code)(R:Result->Shared->Prop),codeAny (model a.prog a.w) a.A cd R O1->codeAny (model X.prog X.w) X.A cd R O1:=λcd R h=>by rw[eP,ew,eA] at h;exact h
    exact tr _ _ (CC NS Im JB T1 abE f11 XH X3 SM hin λG v I I12 n12=>ir ⟨C▸rfl,nextT I12 n12⟩)
 subst C;exact ad2 loop (T.self _ 0 _ _ _ MO loop)
theorem OG(e:X.calm=true)(c:b6 X scope)(f:dJ scope X.N src NC)(i:PI X t0 i0 wi)
  (j:∀a s H,PG (cO X scope NC a s H) t0 g) (k:∀a s H,oS (cO X scope NC a s H) f0 tt) (l:∀a s H,PI (cO X scope NC a s H) t1 i1 g7) (n:∀a s H,PG (cO X scope NC a s H) t1 g1)
  (o:∀a s H,oS (cO X scope NC a s H) f1 eH) (p:∀a s H,PE (cO X scope NC a s H) elt te)
  (q:∀x,foldedSetIterable i0 X.env x=pure x:=by intro _;rfl) (r:∀env x,foldedSetIterable i1 env x=pure x:=by intro _ _;rfl):
  PE X (.ListComp elt [⟨t0,i0,f0,0⟩,⟨t1,i1,f1,0⟩] scope pos) (QR wi g tt g7 g1 eH te src):=by
 intro b s t H Q I h;rw[eval_ListComp];refine acC (use:=none) rfl q (iO (c.cells I.ok)) c.kind c.names (thn (i b s t H _ I h) λv O u=>thn u λR S w=>?_);obtain⟨U,Y,Z,J,H2,rfl,y,T,z,A,B⟩:=w
 exact A8 e c f y T z A j k l n o p r B λD s3 H3 aI C s' E F d G=>by
  obtain⟨m,L,_⟩:=d.loc;exact⟨m,L,λh' M=>⟨.ref D,C,comp_back E F d M,rfl,G⟩⟩
end
end L2
namespace KS
open PySem PySem.W PyProof.Rows
def ev{b:Type}(lt:Nat->Nat->Bool):KasT b->b
 | .ret a=>a
 | .ask i j k=>ev lt (k (lt i j))
theorem mG(lt:Nat->Nat->Bool)(f:a->KasT b):∀t:KasT a,ev lt (t.bind f)=ev lt (f (ev lt t))
 | .ret _=>rfl
 | .ask i j k=>mG lt f (k (lt i j))
structure Ord (lt:Nat->Nat->Bool):Prop where
 irr:∀a,lt a a=false
 neg:∀a b c,lt a c=true->lt a b=true\/lt b c=true
 tr:∀a b c,lt a b=true->lt b c=true->lt a c=true
section
variable {lt:Nat->Nat->Bool} (O:Ord lt)
def Le(lt:Nat->Nat->Bool)(a b:Nat):Prop:=lt b a=false
include O
theorem Ord.as(h:lt a b=true):Le lt a b:=by
 unfold Le;cases q:lt b a with
 |false=>rfl
 |true=>have:=O.tr _ _ _ h q;rw[O.irr] at this;cases this
theorem Ord.gB(h:Le lt a b)(d:Le lt b c):Le lt a c:=by
 unfold Le at*;cases q:lt c a with
 |false=>rfl
 |true=>rcases O.neg _ b _ q with z|z
        ·rw[d] at z;cases z
        ·rw[h] at z;cases z
theorem Ord.rf(a:Nat):Le lt a a:=O.irr a
omit O
def P(p:Array Nat)(i:Nat):Nat:=p.getD i 0
theorem Ci(h:p[i]? =q[j]?):P p i=P q j:=by unfold P;rw[vQ,vQ,h]
def ur(lt:Nat->Nat->Bool)(p:Array Nat)(k:Nat):Prop:=∀i j,i<=j->j<k->Le lt (P p i) (P p j)
def xb(lt:Nat->Nat->Bool)(p:Array Nat)(k:Nat):Prop:=∀i j,i<=j->j<k->Le lt (P p j) (P p i)
theorem ux(a:j<=p.size)(k:Nat):P (kas_rev p i j) k=if i<=k/\k<j then P p (i+j-1-k) else P p k:=by
 have e:=getElem?_mirror_all (xs:=p) (i:=i) a k;unfold kas_rev
 split
 ·rename_i h;rw[tz h] at e;exact Ci e
 ·rename_i h;rw[mo h] at e;exact Ci e
theorem gk(p:Array Nat)(i j:Nat):(kas_rev p i j).Perm p:=mirror_perm _ _ _ _
theorem uZ(p:Array Nat)(i j:Nat):(kas_rev p i j).size=p.size:=mirror_size _ _ _ _
include O
theorem JG{p:Array Nat}:ur lt p 1:=λi j a b=>by
 have e:i=j:=by omega
 subst e;exact O.rf _
theorem A1{p:Array Nat}:∀(f n:Nat),1<=n->ur lt p n->ur lt p (ev lt (kas_asc p f n))/\n<=ev lt (kas_asc p f n)/\ev lt (kas_asc p f n)<=n+f/\
  (ev lt (kas_asc p f n)<n+f->lt (P p (ev lt (kas_asc p f n))) (P p (ev lt (kas_asc p f n)-1))=true)
 |0,n,g,h=>⟨h,bH _,bH _,λz=>absurd z (lI _)⟩
 |f+1,n,g,h=>by
  have e:ev lt (kas_asc p (f+1) n)=ev lt (if lt (P p n) (P p (n-1))=true then KasT.ret n else kas_asc p f (n+1)):=rfl;rw[e];cases c:lt (P p n) (P p (n-1)) with
  |true=>
   rw[tz rfl];exact⟨h,bH _,by show n<=_;omega,λ_=>c⟩
  |false=>
   rw[mo cw]
   have k:ur lt p (n+1):=λi j l q=>by
    by_cases m:j<n
    ·exact h i j l m
    ·by_cases o:i=j
     ·subst o;exact O.rf _
     ·have:j=n:=by omega
      subst this;exact O.gB (h i (j-1) (by omega) (by omega)) c
   obtain⟨a,b,d,e⟩:=A1 f (n+1) (by omega) k
   exact⟨a,by omega,by omega,λz=>e (by omega)⟩
theorem wK:∀(f:Nat)(p:Array Nat)(n q:Nat),1<=n->q+1<=n->n+f<=p.size->xb lt p n->(∀i,n-(q+1)<=i->i<n->Le lt (P p i) (P p (n-1)))->
  ∃l k m,ev lt (kas_desc f p n q)=(l,k,m)/\l.Perm p/\n<=k/\k<=n+f/\m+1<=k/\xb lt l k/\(∀i,k-(m+1)<=i->i<k->Le lt (P l i) (P l (k-1)))
 |0,p,n,q,E,y,F,h,s=>⟨p,n,q,rfl, .refl _,bH _,bH _,y,h,s⟩
 |f+1,p,n,q,E,y,F,h,s=>by
  have e:ev lt (kas_desc (f+1) p n q)=ev lt (if lt (P p n) (P p (n-1))=true then(if q>0 then kas_desc f (kas_rev p (n-(q+1)) n) (n+1) 0 else kas_desc f p (n+1) 0)
    else KasT.ask (P p (n-1)) (P p n) λd=>if d=true then KasT.ret (p,n,q) else kas_desc f p (n+1) (q+1)):=rfl
  rw[e];cases c:lt (P p n) (P p (n-1)) with
  |true=>
   rw[tz rfl]
   have x:xb lt p (n+1):=λi j o r=>by
    by_cases z:j<n
    ·exact h i j o z
    ·by_cases t:i=j
     ·subst t;exact O.rf _
     ·have:j=n:=by omega
      subst this;exact O.gB (O.as c) (h i (j-1) (by omega) (by omega))
   by_cases A:q>0
   ·rw[tz A]
    have B:∀i,i<n+1->Le lt (P (kas_rev p (n-(q+1)) n) i) (P p i)/\Le lt (P p i) (P (kas_rev p (n-(q+1)) n) i):=λi t=>by
     rw[ux (by omega)]
     split
     ·rename_i C
      have G:=s i C.1 C.2;have H:=s (n-(q+1)+n-1-i) (by omega) (by omega)
      have I:=h i (n-1) (by omega) (by omega)
      have J:=h (n-(q+1)+n-1-i) (n-1) (by omega) (by omega)
      exact⟨O.gB H I,O.gB G J⟩
     ·exact⟨O.rf _,O.rf _⟩
    have L:xb lt (kas_rev p (n-(q+1)) n) (n+1):=λi j o r=>O.gB (B j r).1 (O.gB (x i j o r) (B i (by omega)).2)
    obtain⟨l,k,m,u,a,b,d,g,w,v⟩:=wK f (kas_rev p (n-(q+1)) n) (n+1) 0 (by omega) (by omega) (by rw[uZ];omega) L (λi o r=>by
     have:i=n+1-1:=by omega
     rw[this];exact O.rf _)
    exact⟨l,k,m,u,a.trans (gk _ _ _),by omega,by omega,g,w,v⟩
   ·rw[mo A]
    obtain⟨l,k,m,u,a,b,d,g,w,v⟩:=wK f p (n+1) 0 (by omega) (by omega) (by omega) x (λi o r=>by
     have:i=n+1-1:=by omega
     rw[this];exact O.rf _)
    exact⟨l,k,m,u,a,by omega,by omega,g,w,v⟩
  |false=>
   rw[mo cw];have M:ev lt (KasT.ask (P p (n-1)) (P p n) λd=>if d=true then KasT.ret (p,n,q) else kas_desc f p (n+1) (q+1))=ev lt (if lt (P p (n-1)) (P p n)=true then KasT.ret (p,n,q) else kas_desc f p (n+1) (q+1)):=rfl;rw[M];cases N:lt (P p (n-1)) (P p n) with
   |true=>
    rw[tz rfl];exact⟨p,n,q,rfl, .refl _,bH _,by omega,y,h,s⟩
   |false=>
    rw[mo cw]
    have x:xb lt p (n+1):=λi j o r=>by
     by_cases z:j<n
     ·exact h i j o z
     ·by_cases t:i=j
      ·subst t;exact O.rf _
      ·have:j=n:=by omega
       subst this;exact O.gB N (h i (j-1) (by omega) (by omega))
    obtain⟨l,k,m,u,a,b,d,g,w,v⟩:=wK f p (n+1) (q+1) (by omega) (by omega) (by omega) x (λi o r=>by
     show Le lt (P p i) (P p n)
     by_cases t:i=n
     ·subst t;exact O.rf _
     ·exact O.gB (s i (by omega) (by omega)) c)
    exact⟨l,k,m,u,a,by omega,by omega,g,w,v⟩
theorem Mj{p:Array Nat}(a:n<=p.size)(h:xb lt p n):ur lt (kas_rev p 0 n) n:=λi j c b=>by
 rw[ux a,ux a,tz ⟨dS _,by omega⟩,tz ⟨dS _,b⟩]
 exact h _ _ (by omega) (by omega)
theorem Eh{p:Array Nat}{n nrem:Nat}(e:1<=n)(f:n<=nrem)(g:nrem<=p.size)(h:xb lt p n):
  ∃m d,ev lt (kas_tail3 n nrem p)=(m,d)/\d.Perm p/\1<=m/\m<=nrem/\ur lt d m:=by
 unfold kas_tail3;rw[mG];obtain⟨a,b,c,_⟩:=A1 O (p:=kas_rev p 0 n) (nrem-n) n e (Mj O (by omega) h)
 exact⟨_,_,rfl,gk _ _ _,by omega,by omega,a⟩
theorem tq{p:Array Nat}{n nrem:Nat}(G:1<=n)(H:n<nrem)(I:nrem<=p.size)(h:xb lt p (n+1)):
  ∃m e,ev lt (kas_descPart n nrem p)=(m,e)/\e.Perm p/\1<=m/\m<=nrem/\ur lt e m:=by
 unfold kas_descPart;rw[mG]
 obtain⟨e,c,f,A,a,b,d,g,w,v⟩:=wK O (nrem-(n+1)) p (n+1) 0 (by omega) (by omega) (by omega) h (λi u o=>by
  have:i=n+1-1:=by omega
  rw[this];exact O.rf _)
 rw[A];dsimp only;have J:e.size=p.size:=a.size_eq
 by_cases x:f>0
 ·rw[tz x]
  have y:∀i,i<c->Le lt (P (kas_rev e (c-(f+1)) c) i) (P e i)/\Le lt (P e i) (P (kas_rev e (c-(f+1)) c) i):=λi L=>by
   rw[ux (by omega)]
   split
   ·rename_i z
    have B:=v i z.1 z.2;have k:=v (c-(f+1)+c-1-i) (by omega) (by omega)
    have C:=w i (c-1) (by omega) (by omega)
    have l:=w (c-(f+1)+c-1-i) (c-1) (by omega) (by omega)
    exact⟨O.gB k C,O.gB B l⟩
   ·exact⟨O.rf _,O.rf _⟩
  have E:xb lt (kas_rev e (c-(f+1)) c) c:=λi j u o=>O.gB (y j o).1 (O.gB (w i j u o) (y i (by omega)).2)
  obtain⟨m,q,r,k,l,s,t⟩:=Eh O (n:=c) (nrem:=nrem) (p:=kas_rev e (c-(f+1)) c) (by omega) (by omega) (by rw[uZ];omega) E
  exact⟨m,q,r,k.trans ((gk _ _ _).trans a),l,s,t⟩
 ·rw[mo x]
  rfl';obtain⟨m,q,r,k,l,s,t⟩:=Eh O (n:=c) (nrem:=nrem) (p:=e) (by omega) (by omega) (by omega) w
  ac_rfl;exact⟨m,q,r,k.trans a,l,s,t⟩
theorem HL{p:Array Nat}(I:1<=nrem)(u:nrem<=p.size):∃m f,ev lt (kas_count nrem p)=(m,f)/\f.Perm p/\1<=m/\m<=nrem/\ur lt f m:=by
 unfold kas_count;rw[mG];rfl';obtain⟨a,b,c,d⟩:=A1 O (p:=p) (nrem-1) 1 (bH _) (JG O);ac_rfl;generalize ev lt (kas_asc p (nrem-1) 1)=n at a b c d
 by_cases q:n=nrem
 ·rw[tz (by simpa using q)]
  exact⟨_,_,rfl, .refl _,by omega,by omega,a⟩
 ·rw[mo (by simpa using q)]
  have r:=d (by omega)
  by_cases s:n>1
  ·rw[tz s]
   have e:ev lt (KasT.ask (P p 0) (P p (n-1)) λc=>if c=true then KasT.ret (n,p) else kas_descPart n nrem (kas_rev p 0 n))=ev lt (if lt (P p 0) (P p (n-1))=true then KasT.ret (n,p) else kas_descPart n nrem (kas_rev p 0 n)):=rfl;show ∃m f,ev lt (KasT.ask (P p 0) (P p (n-1)) λc=>if c=true then KasT.ret (n,p) else kas_descPart n nrem (kas_rev p 0 n))=(m,f)/\_;rw[e];cases w:lt (P p 0) (P p (n-1)) with
   |true=>
    rw[tz rfl];exact⟨_,_,rfl, .refl _,by omega,by omega,a⟩
   |false=>
    rw[mo cw];have t:∀i j,i<n->j<n->Le lt (P p i) (P p j):=λi j h g=>O.gB (a i (n-1) (by omega) (by omega)) (O.gB w (a 0 j (by omega) g))
    have l:xb lt (kas_rev p 0 n) (n+1):=λi j x y=>by
     rw[ux (by omega),ux (by omega)]
     by_cases g:j<n
     ·rw[tz ⟨dS _,g⟩,tz ⟨dS _,by omega⟩]
      exact t _ _ (by omega) (by omega)
     ·have o:j=n:=by omega
      subst o;rw[mo (by omega)]
      by_cases h:i<j
      ·rw[tz ⟨dS _,h⟩]
       exact O.gB (O.as r) (t _ _ (by omega) (by omega))
      ·rw[mo (by omega)]
       have:i=j:=by omega
       subst this;exact O.rf _
    rfl';obtain⟨m,z,A,B,C,E,F⟩:=tq O (n:=n) (nrem:=nrem) (p:=kas_rev p 0 n) (by omega) (by omega) (by rw[uZ];omega) l
    ac_rfl;exact⟨m,z,A,B.trans (gk _ _ _),C,E,F⟩
  ·rw[mo s]
   have G:n=1:=by omega
   subst G
   have l:xb lt p (1+1):=λi j x y=>by
    by_cases h:i=j
    ·subst h;exact O.rf _
    ·have g:j=1:=by omega
     have H:i=0:=by omega
     subst g H;exact O.as r
   exact tq O (n:=1) (nrem:=nrem) (p:=p) (by omega) (by omega) u l
theorem uX(h:ur lt p k):∀(f l r:Nat),r<=l+f->l<=r->r<=k->(∀i,i<l->Le lt (P p i) (P p k))->(∀i,r<=i->i<k->lt (P p k) (P p i)=true)->
  ev lt (kas_place p k f l r)<=k/\(∀i,i<ev lt (kas_place p k f l r)->Le lt (P p i) (P p k))/\(∀i,ev lt (kas_place p k f l r)<=i->i<k->lt (P p k) (P p i)=true)
 |0,l,r,m,n,a,b,d=>by
  have e:l=r:=by omega
  subst e;exact⟨a,b,d⟩
 |f+1,l,r,m,n,a,b,d=>by
  by_cases g:l>=r
  ·have e:ev lt (kas_place p k (f+1) l r)=l:=by
    show ev lt (if l>=r then KasT.ret l else _)=l;rw[tz g];rfl
   have o:l=r:=by omega
   rw[e];subst o;exact⟨a,b,d⟩
  ·have e:ev lt (kas_place p k (f+1) l r)=ev lt (if lt (P p k) (P p ((l+r) / 2))=true then kas_place p k f l ((l+r) / 2) else kas_place p k f ((l+r) / 2+1) r):=by
    show ev lt (if l>=r then KasT.ret l else _)=_;rw[mo g];rfl
   rw[e];cases c:lt (P p k) (P p ((l+r) / 2)) with
   |true=>
    rw[tz rfl];refine uX h f l ((l+r) / 2) (by omega) (by omega) (by omega) b λi j q=>?_
    rcases O.neg _ (P p i) _ c with z|z
    ·exact z
    ·have:=h ((l+r) / 2) i j q
     unfold Le at this;rw[this] at z;cases z
   |false=>
    rw[mo cw];exact uX h f ((l+r) / 2+1) r (by omega) (by omega) a (λi j=>O.gB (h i ((l+r) / 2) (by omega) (by omega)) c) d
theorem GD:∀(f:Nat)(p:Array Nat)(k:Nat),k+f<=p.size->ur lt p k->∃g,ev lt (kas_bin f p k)=g/\g.Perm p/\ur lt g (k+f)
 |0,p,k,_,h=>⟨p,rfl, .refl _,h⟩
 |f+1,p,k,B,h=>by
  have e:ev lt (kas_bin (f+1) p k)=ev lt (kas_bin f (bubble p k (k-ev lt (kas_place p k k 0 k))) (k+1)):=by
   show ev lt ((kas_place p k k 0 k).bind λl=>kas_bin f (bubble p k (k-l)) (k+1))=_;rw[mG]
  rw[e];obtain⟨a,b,c⟩:=uX O h k 0 k (by omega) (dS _) (bH _) (λi t=>absurd t (adT _)) (λi r d=>absurd d (by omega))
  generalize ev lt (kas_place p k k 0 k)=l at a b c
  have s:∀x,P (bubble p k (k-l)) x=if x=l then P p k else if l<x/\x<=k then P p (x-1) else P p x:=λx=>by
   have q:=getElem?_bubble (xs:=p) (src:=k) (by omega) (k-l) (by omega) x
   have n:k-(k-l)=l:=by omega
   rw[n] at q
   split
   ·rename_i o;rw[tz o] at q;exact Ci q
   ·rename_i o
    rw[mo o] at q
    split
    ·rename_i d;rw[tz d] at q;exact Ci q
    ·rename_i d;rw[mo d] at q;exact Ci q
  have u:ur lt (bubble p k (k-l)) (k+1):=λi j r d=>by
   rw[s,s]
   by_cases n:i=l
   ·rw[tz n]
    by_cases m:j=l
    ·rw[tz m];exact O.rf _
    ·rw[mo m,tz ⟨by omega,by omega⟩]
     exact O.as (c (j-1) (by omega) (by omega))
   ·rw[mo n]
    by_cases m:j=l
    ·rw[tz m,mo (by omega)]
     exact b i (by omega)
    ·rw[mo m]
     by_cases v:l<i
     ·rw[tz ⟨v,by omega⟩,tz ⟨by omega,by omega⟩]
      exact h _ _ (by omega) (by omega)
     ·rw[mo (by omega)]
      by_cases w:l<j
      ·rw[tz ⟨w,by omega⟩]
       exact h _ _ (by omega) (by omega)
      ·rw[mo (by omega)]
       exact h _ _ r (by omega)
  obtain⟨g,y,z,A⟩:=GD f (bubble p k (k-l)) (k+1) (by rw[bubble_size];omega) u
  exact⟨g,y,z.trans (bubble_perm _ _ _),by rw[show k+(f+1)=k+1+f by omega];exact A⟩
theorem D9{n:Nat}(t:1<=n):∃p,ev lt (kas_sort n)=p/\p.toList.Perm (List.range n)/\p.toList.Pairwise (Le lt):=by
 have f:∀p:Array Nat,p.size=n->ur lt p n->p.toList.Pairwise (Le lt):=λp B h=>by
  rw[Et];intro i j u v C;have w:i<p.size:=by simpa using u
  have x:j<p.size:=by simpa using v
  have q:=h i j (by omega) (by omega)
  unfold P at q;simpa [Array.getD,w,x] using q
 unfold kas_sort;rw[mG];rfl';obtain⟨m,e,z,a,b,c,d⟩:=HL O (p:=List.toArray (List.range n)) t (by simp)
 ac_rfl;rw[z];dsimp only;have g:e.size=n:=by rw[a.size_eq];simp
 have k:e.toList.Perm (List.range n):=by simpa using Gu.mp a
 by_cases l:m<n
 ·rw[tz l]
  obtain⟨o,A,r,s⟩:=GD O (n-max m 1) e (max m 1) (by omega) (by rw[show max m 1=m by omega];exact d)
  refine⟨o,A,(Gu.mp r).trans k,f o (by rw[r.size_eq,g]) ?_⟩
  rw[show max m 1+(n-max m 1)=n by omega] at s
  exact s
 ·rw[mo l]
  have:m=n:=by omega
  subst this;exact⟨e,rfl,k,f e g d⟩
end
def gO{c:Type}(n:Nat)(Q:c->Prop):KasT c->Prop
 | .ret a=>Q a
 | .ask i j k=>i<n/\j<n/\∀b,gO n Q (k b)
theorem iN{c:Type}{n:Nat}{Q d:c->Prop}(h:∀a,Q a->d a):∀t:KasT c,gO n Q t->gO n d t
 | .ret a,z=>h a z
 | .ask _ _ k,z=>⟨z.1,z.2.1,λb=>iN h (k b) (z.2.2 b)⟩
theorem allI_bind:∀t:KasT c,gO n (λa=>gO n Q (f a)) t->gO n Q (t.bind f)
 | .ret _,z=>z
 | .ask _ _ k,z=>⟨z.1,z.2.1,λb=>allI_bind (k b) (z.2.2 b)⟩
def qI(n:Nat)(p:Array Nat):Prop:=0<n/\∀x∈p.toList,x<n
theorem qI.at{p:Array Nat}(h:qI n p)(i:Nat):p.getD i 0<n:=by
 rw[vQ];cases q:p[i]? with
 |none=>exact h.1
 |some x=>
  refine h.2 x ?_;rw[<-kG] at q;exact dA q
theorem qI.perm(h:qI n p)(a:q.Perm p):qI n q:=⟨h.1,λx b=>h.2 x ((Gu.mp a).mem_iff.mp b)⟩
theorem xq(h:qI n p):∀f m,gO n (λ_=>True) (kas_asc p f m)
 |0,_=>trivial
 |f+1,m=>⟨h.at _,h.at _,λb=>by cases b with|true=>exact trivial|false=>exact xq h f (m+1)⟩
theorem qA:∀(f:Nat)(p:Array Nat)(m q:Nat),qI n p->gO n (λr=>qI n r.1) (kas_desc f p m q)
 |0,p,m,q,h=>h
 |f+1,p,m,q,h=>⟨h.at _,h.at _,λb=>by
  cases b with
  |true=>
   show gO n _ (if q>0 then kas_desc f (kas_rev p (m-(q+1)) m) (m+1) 0 else kas_desc f p (m+1) 0)
   split
   ·exact qA f _ _ _ (h.perm (gk _ _ _))
   ·exact qA f _ _ _ h
  |false=>
   refine⟨h.at _,h.at _,λd=>?_⟩;cases d with
   |true=>exact h
   |false=>exact qA f _ _ _ h⟩
theorem AL(h:qI n p)(m a:Nat):gO n (λr=>qI n r.2) (kas_tail3 m a p):=
 allI_bind _ (iN (λ_ _=>h.perm (gk _ _ _)) _ (xq (h.perm (gk _ _ _)) _ _))
theorem qM(h:qI n p)(m a:Nat):gO n (λr=>qI n r.2) (kas_descPart m a p):=
 allI_bind _ (iN (λr b=>by
  show gO n _ (if r.2.2>0 then _ else _)
  split
  ·exact AL (b.perm (gk _ _ _)) _ _
  ·exact AL b _ _) _ (qA _ _ _ _ h))
theorem EM{n:Nat}{p:Array Nat}(h:qI n p)(a:Nat):gO n (λr=>qI n r.2) (kas_count a p):=
 allI_bind _ (iN (λm _=>by
  show gO n _ (if (m==a)=true then _ else _)
  split
  ·exact h
  ·split
   ·refine⟨h.at _,h.at _,λb=>?_⟩
    cases b with
    |true=>exact h
    |false=>exact qM (h.perm (gk _ _ _)) _ _
   ·exact qM h _ _) _ (xq h _ _))
theorem sq(h:qI n p)(k:Nat):∀f l r,gO n (λ_=>True) (kas_place p k f l r)
 |0,_,_=>trivial
 |f+1,l,r=>by
  show gO n _ (if l>=r then _ else _)
  split
  ·exact trivial
  ·refine⟨h.at _,h.at _,λb=>?_⟩
   cases b with
   |true=>exact sq h k f _ _
   |false=>exact sq h k f _ _
theorem Cv:∀(f:Nat)(p:Array Nat)(k:Nat),qI n p->gO n (λ_=>True) (kas_bin f p k)
 |0,_,_,_=>trivial
 |f+1,p,k,h=>allI_bind _ (iN (λl _=>Cv f _ _ (h.perm (bubble_perm _ _ _))) _ (sq h k _ _ _))
theorem AJ{n:Nat}(a:0<n):gO n (λ_=>True) (kas_sort n):=
 allI_bind _ (iN (λr b=>by
  show gO n _ (if r.1<n then _ else _)
  split
  ·exact Cv _ _ _ b
  ·exact trivial) _ (EM (n:=n) (p:=List.toArray (List.range n)) ⟨a,λx c=>bT.mp (by simpa using c)⟩ n))
theorem Gr{lt:Nat->Nat->Bool}{n:Nat}
  (c:∀i j (C:Bool->Shared->Prop),i<n->j<n->C (lt i j) s->a i j C s):∀t:KasT b,gO n (λ_=>True) t->Q (ev lt t) s->t.kasWp a Q s
 | .ret _,_,h=>h
 | .ask i j k,z,h=>c i j _ z.1 z.2.1 (Gr c (k (lt i j)) (z.2.2 _) h)
section
variable {prog:Program} {w:World} {A:Around} {E:Value->Shared->Prop} {s:Shared}
theorem Ea(c:s.heap.get? a=some (seqObj "list" b.toArray n))(i:b.length<2)
  (h:G (.done (.ret .none)) {s with heap:=sortedHeap s.heap a b b.toArray}):wpAny (model prog w) A (Builtin.«list.sort» ⟨[.ref a],[]⟩) G E s:=by
 rw[list_sort_plain];have l:a<s.heap.objs.size:=Fk c;refine be (listItems_at c rfl (be (listUpdate_at c rfl ?_)));obtain⟨j,d⟩:∃k,(s.heap.update a (Obj.mapSeq λ_=> #[])).get? a=some (seqObj "list" #[] k):=⟨_,adU c (λ_=> #[])⟩;refine be (seqEpoch_at d rfl (be (wpAny_newTuple (be (aee (KF ?_))))));have e:(((s.heap.update a (Obj.mapSeq λ_=> #[])).push (seqObj "tuple" b.toArray 0)).push (seqObj "list" #[] 0)).get? a=some (seqObj "list" #[] j):=AC _ (AC _ d);show wpAny (model prog w) A _ G E {s with heap:=((s.heap.update a (Obj.mapSeq λ_=> #[])).push (seqObj "tuple" b.toArray 0)).push (seqObj "list" #[] 0)}
 dsimp only;have lz:b.toArray.size<2:=i;rw[tz lz,tz lz];refine be (ir ?_);rw[StateT.run_pure];refine be (ir ?_);dsimp only
 have f:(arrOf (SortSt.mk' general' (b.toArray.zip b.toArray) #[] 7 none)).map (·.2)=b.toArray:=by
  show(b.toArray.zip b.toArray).map (·.2)=b.toArray;apply Array.toList_inj.mp;simp[List.map_snd_zip]
 refine be (seqEpoch_at e rfl (be (listUpdate_at e rfl ?_ (hsz2:=by rw[f];rw[adm];omega))))
 simp only[bne_self_eq_false,gX,P3];have g:=h;unfold sortedHeap at g;rw[f];exact ir g
theorem qZ(e:s.heap.IsList l a.toArray)(f:a.length<2)(h:G (.ref (s.heap.objs.size+1)) {s with heap:=sortedAll s.heap a a.toArray}):
  wpAny (model prog w) A (call (.builtin "sorted") [.ref l]) G E s:=by
 refine adD kind_sorted plain_sorted entry_sorted (args_sorted1 (.ref l)) ?_;unfold Builtin.«sorted»;have b:a.length<=sizeLine:=by rw[adm];omega
 refine be (m:=checkCount "sorted" 1 1 _) (ir (be (collect_list e (be (aee ?_ b)) b)));have c:((s.heap.push (seqObj "list" #[] 0)).update s.heap.objs.size (Obj.mapSeq (·++a.toArray))).objs.size=s.heap.objs.size+1:=by rw[Heap.size_update,size_push']
 have d:(((s.heap.push (seqObj "list" #[] 0)).update s.heap.objs.size (Obj.mapSeq (·++a.toArray))).push (seqObj "list" a.toArray 0)).get? (s.heap.objs.size+1)=some (seqObj "list" a.toArray 0):=by
  rw[<-c];exact Gc _ rfl
 show wpAny (model prog w) _ _ _ E {s with heap:=((s.heap.push (seqObj "list" #[] 0)).update s.heap.objs.size (Obj.mapSeq (·++a.toArray))).push (seqObj "list" a.toArray 0)}
 rw[c];exact be (KF (SB slot_list_sort ⟨_,d,rfl⟩ entry_list_sort (Ea d f ⟨_,rfl,ir ⟨_,rfl,h⟩⟩) (args_list_sort _)))
end
end KS
namespace L2
open PySem PySem.Spec PyProof.Rows
section
variable {X:Cx} {pins:List (Addr×Obj)} {σ:St} {H:Hp} {s:Shared} {h':Heap}
theorem Inv.Ld{t':Nat}{o:HO}(I:Inv X pins σ H s)(k:∀b o,b≠X.env.locals->s.heap.get? b=some o->h'.get? b=some o)(g:∀m,s.heap.Ns X.env.locals m->h'.Ns X.env.locals m)
  (i:s.heap.get? t=none) (j:H t=none) (new:cV X.prog X.w (upd H t o) h' t o):Inv X pins σ (upd H t o) {s with heap:=h',toks:=t'}:=by
 have d:∀b u,H b=some u->upd H t o b=some u:=λb u e=>by rw[aO (bu e j)];exact e
 have h:∀b u,H b=some u->b≠X.env.locals:=λb u e z=>by rw[z,I.free] at e;cases e
 refine I.step (g':=s.gens) (d':=s.drawn) (ch:= []) (λb a=>by cases a) (λb o a _ _ e _=>k b o a e) (λb o a _ _ e _=>⟨o.slots,k b o a e⟩) (λb o _ e n=>?_)
  (λb o _ e=>?_) (λb y e=>d b _ e) (λb _ _ e=>d b _ e) (λb A e=>⟨#[],by rw[d b _ e];simp⟩) g (λb u e=>?_) I.bare
 ·rw[aO (λz=>by rw[z,i] at e;cases e)];exact n
 ·by_cases a:b=X.env.locals
  ·obtain⟨m,l,_⟩:=I.loc
   obtain⟨p,_,_,r,_⟩:=g m l;rw[a];exact⟨p,r⟩
  ·exact⟨o,k b o a e⟩
 ·by_cases a:b=t
  ·subst a
   rw[aB] at e;cases Da e;exact new
  ·rw[aO a] at e
   refine(I.hok b u e).qg (λc v x q=>k c v ?_ q) (λf q=>d f _ q) λf _ q=>d f _ q
   rcases x with z|z
   ·rw[z];exact h b u e
   ·exact h c _ z
end
def FW(k:Nat×Nat):List V:= [.int (k.1:Nat), .int (k.2:Nat)]
def HC(H:Hp)(L:List (Addr×(Nat×Nat))):Prop:=∀p∈L,H p.1=some (.tup (FW p.2))
def kg(a b:Nat×Nat):Bool:=if a.1=b.1 then decide (a.2<b.2) else decide (a.1<b.1)
theorem uJ(x y:Nat×Nat):kg x y=true↔x.1<y.1\/(x.1=y.1/\x.2<y.2):=by
 unfold kg
 by_cases e:x.1=y.1
 ·rw[tz e,acD]
  omega
 ·rw[mo e,acD]
  omega
theorem IH(x y z:Nat×Nat)(h:kg x z=true):kg x y=true\/kg y z=true:=by
 rw[uJ] at*;rw[uJ];omega
theorem Lg(x y z:Nat×Nat)(h:kg x y=true)(a:kg y z=true):kg x z=true:=by
 rw[uJ] at*;omega
theorem II(L:List (Addr×(Nat×Nat))):KS.Ord λi j=>kg (L.getD i (0,(0,0))).2 (L.getD j (0,(0,0))).2 where
 irr:=λa=>by unfold kg;rw[tz rfl];simp
 neg:=λa b c h=>IH _ _ _ h
 tr:=λa b c h d=>Lg _ _ _ h d
theorem Lf(h:kg b a=false):Wb.lexLe a b:=by
 unfold kg at h;unfold Wb.lexLe
 by_cases e:b.1=a.1
 ·rw[tz e] at h
  have:=GM h
  right;omega
 ·rw[mo e] at h
  have:=GM h
  left;omega
theorem N0 
  (n:IsTup s.heap x [.int a i, .int b j].toArray) (o:IsTup s.heap y [.int c k, .int d l].toArray)
  (h:C (if a=c then decide (b<d) else decide (a<c)) s):wpAny (model prog w) A (keyLt' (tuples' true) (.ref x) (.ref y)) C E s:=by
 rfl';obtain⟨u,f,_,v,q⟩:=n;obtain⟨z,g,_,B,r⟩:=o;ac_rfl;refine PySem.W.kat_lt f q g r ?_;refine PySem.W.kat_cons (acB a i c k prog w _ _ ?_)
 by_cases e:a=c
 ·rw[tz e] at h
  rw[show(a==c)=true by simpa using e]
  refine PySem.W.kat_yes (PySem.W.kat_cons (acB b j d l prog w _ _ ?_))
  by_cases m:b=d
  ·rw[show(b==d)=true by simpa using m]
   refine PySem.W.kat_yes (PySem.W.kat_nil ?_);rw[show decide (b<d)=false by simp;omega] at h
   simpa using h
  ·rw[show(b==d)=false by simpa using m]
   refine PySem.W.kat_no (PySem.W.kat_one _ _ ?_);exact lt_int h
 ·rw[mo e] at h
  rw[show(a==c)=false by simpa using e]
  exact PySem.W.kat_no (oneLt_int h)
section
variable {X:Cx}
theorem xR{b:Type}{L:List b}{d:b}{c:List Nat}(h:c.Perm (List.range L.length)):(c.map λi=>L.getD i d).Perm L:=by
 have e:(List.range L.length).map (λi=>L.getD i d)=L:=by
  apply rA;intro i;rw[bQ]
  by_cases a:i<L.length
  ·rw[bJ (by simpa using a),bJ a]
   simp[a]
  ·rw[fj (by simp;omega),fj (by omega)];rfl
 have:=h.map (λi=>L.getD i d)
 rw[e] at this;exact this
theorem sF:∀{as:List Addr}{us:List Value},Vals (as.map V.ref) us->us=as.map Value.ref
 | [],_, .nil=>rfl
 |a::as,_, .cons r t=>by cases r;rw[sF t];rfl
theorem sx:∀as:List Addr,Vals (as.map V.ref) (as.map Value.ref)
 | []=> .nil
 |a::as=> .cons rfl (sx as)
theorem Ha(x:cV P w H h a o):∃u,h.get? a=some u:=by
 induction o with
 |lst c=>obtain⟨_,_,_,_,e⟩:=x;exact⟨_,e⟩
 |tup c=>obtain⟨_,_,_,b,e,_⟩:=x;exact⟨_,e⟩
 |dK d=>obtain⟨_,_,_,_,b,_,_,e,_⟩:=x;exact⟨_,e⟩
 |dT d=>obtain⟨_,_,_,_,b,_,_,e,_⟩:=x;exact⟨_,e⟩
 |set S n=>obtain⟨b,_,_,_,e,_⟩:=x;exact⟨_,e⟩
 |ins C g fs=>obtain⟨_,_,_,e,_⟩:=x;exact⟨_,e⟩
 |own y=>exact x
 |xd fs=>obtain⟨_,⟨i,_,_,e,_⟩,_⟩:=x;exact⟨_,e⟩
 |rng lo j=>obtain⟨_,_,_,e⟩:=x;exact⟨_,e⟩
 |rP b u k=>exact⟨_,x.1⟩
 |Ei l=>exact⟨_,x⟩
 |met f y=>exact⟨_,x⟩
 |ext m=>exact x.2.1
theorem Ax(I:Inv X b c H s)(h:H a=some (.tup (FW k))):
  ∃t u,IsTup s.heap a [.int (k.1:Nat) t, .int (k.2:Nat) u].toArray:=by
 rfl';obtain⟨e,r,p,_⟩:=I.tuple (eW.of h);obtain⟨g,i,rfl,⟨t,rfl⟩,⟨u,rfl⟩⟩:=Vals.two r;ac_rfl;exact⟨t,u,p⟩
theorem zj(hu:X.A.units+64<cLine):cK X (.builtin "sorted") (λxs H Q=>∃(p:Addr)(L:List (Addr×(Nat×Nat))),xs= [.ref p]/\cM X.K H p (L.map λe=>V.ref e.1)/\HC H L/\L.length<64/\
  ∀(q:Addr)(M:List (Addr×(Nat×Nat))),H q=none->M.Perm L->(M.map (·.2)).Pairwise Wb.lexLe->Q (.ref q) (upd H q (.lst (M.map λe=>V.ref e.1)))):=by
 intro pins s σ H xs us Q I rv h;rfl';obtain⟨p,L,rfl,O,R,hz,q⟩:=h;obtain⟨u,rfl,ru⟩:=rv.one;subst ru;obtain⟨d,r,pl,_⟩:=I.list O;have hl:=r.length;rw[aD] at hl;have ck:64<=sizeLine:=by decide
 ac_rfl
 have ei:d=L.map λe=>Value.ref e.1:=by
  have:=sF (as:=L.map (·.1)) (us:=d) (by rw[bU];exact r)
  rw[this,bU];rfl
 by_cases G:L.length<2
 ·refine KS.qZ pl.isList (by omega) ?_
  obtain⟨e,J⟩:=sortedAll_at s.heap d d.toArray;have fr:H (s.heap.objs.size+1)=none:=I.hok.fresh (acR _);refine⟨.ref (s.heap.objs.size+1),_,I.laid (t':=s.toks) (λb o f=>sortedAll_old f) (acR _) (o:= .lst (L.map λe=>V.ref e.1)) ⟨by rw[aD];omega,d,e,r,J⟩,rfl,q _ L fr (.refl _) ?_⟩
  match L,G with
  | [],_=>exact .nil
  | [_],_=>exact Ex _ _
 ·obtain⟨m,F⟩:=I.fr
  have N:=Aq (g:=X.base) (h:=s.heap) (L:=X.env.locals);refine PySem.W.kat_sorted F N pl.isList (by omega) (by omega) λD e1 B F' S hD=>?_
  have kept:∀b o,b≠X.env.locals->s.heap.get? b=some o->B.get? b=some o:=λb o f e=>by
   cases k:X.base.get? b with
   |some u=>
    have:=I.bk b u k
    rw[e] at this;cases this;exact F'.keep b _ k
   |none=>exact(S (b,o) (bV _ (fA f k e))).1
  have nL:∀b u,H b=some u->b≠X.env.locals:=λb u e z=>by rw[z,I.free] at e;cases e
  have U:∀i,i<L.length->∃t u,d.getD i Value.none= .ref (L.getD i (0,(0,0))).1/\IsTup B (L.getD i (0,(0,0))).1 [.int ((L.getD i (0,(0,0))).2.1:Nat) t, .int ((L.getD i (0,(0,0))).2.2:Nat) u].toArray:=λi l=>by
   have hm:L.getD i (0,(0,0))∈L:=by
    rw[bB,bJ l];exact g5 l
   rfl';obtain⟨t,u,o,Y,Z,n,hd⟩:=Ax I (R _ hm);ac_rfl;refine⟨t,u,?_,o,kept _ _ (nL _ _ (R _ hm)) Y,Z,n,hd⟩;rw[ei,bB,bQ,bB,bJ l];rfl
  have tups:PySem.W.KatTups B d (L.map λe=>Value.int (e.2.1:Nat) 0)\/∃fs:List Value,PySem.W.KatTups B d fs/\fs.length=L.length/\∀v∈fs,∃i t,v= .int i t:=by
   right
   have go:∀(M:List (Addr×(Nat×Nat))),(∀e∈M,e∈L)->∃fs:List Value,PySem.W.KatTups B (M.map λe=>Value.ref e.1) fs/\fs.length=M.length/\∀v∈fs,∃i t,v= .int i t:=by
    intro M
    induction M with
    |nil=>exact λ_=>⟨[],PySem.W.KatTups.nil,rfl,λv w=>by cases w⟩
    |cons e M ih=>
     intro hM;rfl';obtain⟨fs,a,b,c⟩:=ih λx hx=>hM x (bV _ hx);have J:=R e (hM e bE);obtain⟨t,u,o,Y,Z,n,hd⟩:=Ax I J;ac_rfl;refine⟨.int (e.2.1:Nat) t::fs,PySem.W.KatTups.cons (kept _ _ (nL _ _ J) Y) Z hd rfl a,by simp[b],λv w=>?_⟩
     rcases br.mp w with z|z
     ·exact⟨_,_,z⟩
     ·exact c v z
   rw[ei];exact go L λ_ h=>h
  obtain⟨fs,kt,kl,ki⟩:=tups.elim (λz=>⟨_,z,by simp,λv w=>by obtain⟨e,_,rfl⟩:=aZ.mp w;exact⟨_,_,rfl⟩⟩) id
  refine PySem.W.kat_kind (T:= .type "int") kt (by omega) (λv w=>by obtain⟨i,t,rfl⟩:=ki v w;exact .now) (by decide) ?_
  have f:(Value.type "int" !=Value.type "tuple")=true:=by decide
  rw[f];have hn:d.length=L.length:=by omega
  rw[hn];obtain⟨E,Sk,pp,ps⟩:=KS.D9 (II L) (n:=L.length) (by omega)
  refine KS.Gr (lt:=λi j=>kg (L.getD i (0,(0,0))).2 (L.getD j (0,(0,0))).2) (n:=L.length) (λi j C l hj hC=>?_) _ (KS.AJ (by omega)) ?_
  ·obtain⟨t1,t2,g1,k1⟩:=U i l
   obtain⟨u1,u2,g2,k2⟩:=U j hj;unfold PySem.W.kas_ask;rw[g1,g2];refine N0 k1 k2 ?_
   have e:(if ((L.getD i (0,(0,0))).2.1:Int)=((L.getD j (0,(0,0))).2.1:Int) then decide (((L.getD i (0,(0,0))).2.2:Int)<((L.getD j (0,(0,0))).2.2:Int)) else decide (((L.getD i (0,(0,0))).2.1:Int)<((L.getD j (0,(0,0))).2.1:Int)))
     =kg (L.getD i (0,(0,0))).2 (L.getD j (0,(0,0))).2:=by
    unfold kg;simp only[Int.ofNat_inj,Int.ofNat_lt]
   rw[e];exact hC
  ·show PySem.W.KasFin _ _ _ _ _ _ _ _
   rw[Sk];refine PySem.W.KasFin.intro F' S (.head λp O=>cE (hD p O)) λG c F2 N2=>?_
   have Fs:∀b o,b≠X.env.locals->s.heap.get? b=some o->G.get? b=some o:=λb o f e=>by
    cases k:X.base.get? b with
    |some u=>
     have:=I.bk b u k
     rw[e] at this;cases this;exact F2.keep b _ k
    |none=>exact(N2 (b,o) (bV _ (fA f k e))).1
   obtain⟨_,Kz,Sw⟩:=S (D,seqObj "list" #[] e1) bE
   have KC:s.heap.get? D=none:=by
    cases qd:s.heap.get? D with
    |none=>rfl
    |some o=>exact absurd (hD (D,o) (fA Kz Sw qd)) (lI _)
   have Ky:H D=none:=by
    cases qd:H D with
    |none=>rfl
    |some o=>exact absurd Kz (λ_=>by
      obtain⟨o',gH⟩:=Ha (I.hok D o qd);rw[KC] at gH;cases gH)
   have Tw:∀m',s.heap.Ns X.env.locals m'->G.Ns X.env.locals m':=λm' rT=>by
    rw[rT.eq_nsMap,<-F.ns.eq_nsMap];exact F2.ns
   have KD:(E.toList.map λi=>L.getD i (0,(0,0))).Perm L:=xR pp;have KA:=(N2 (D,_) bE).1;refine⟨.ref D,_,I.Ld (t':=s.toks) Fs Tw KC Ky (o:= .lst ((E.toList.map λi=>L.getD i (0,(0,0))).map λe=>V.ref e.1)) ⟨by rw[aD,KD.length_eq];omega,(E.toList.map λi=>d.getD i Value.none),c,?_,KA⟩,rfl,q D _ Ky KD ?_⟩
   ·have e:(E.toList.map λi=>d.getD i Value.none)=((E.toList.map λi=>L.getD i (0,(0,0))).map (·.1)).map Value.ref:=by
     rw[bU,bU];refine rz λi l=>?_;obtain⟨_,_,g,_⟩:=U i (bT.mp (pp.mem_iff.mp l));exact g
    rw[e,show(λe:Addr×(Nat×Nat)=>V.ref e.1)=V.ref∘(·.1) from rfl,<-bU];exact sx _
   ·rw[bU,gY]
    exact ps.imp λhle=>Lf hle
end
end L2
set_option maxHeartbeats 4000000
namespace L2
open PySem PySem.Spec PyProof.Rows
def XdO(a:Addr)(fs:List (Str×V)):HO:= .ext λh=>fs.length<=1000/\∃b,h.Ns1 a b/\(∀f,oT (fs.lookup f) (b f))/\PySem.Within b (fs.map (·.1))
section
variable {P:Program} {w:World} {H:Hp} {h:Heap} {a C:Addr} {d:Option Addr} {fs:List (Str×V)}
end
section
variable {X:Cx} {pins:List (Addr×Obj)} {σ:St} {H:Hp} {s:Shared}
variable {a C:Addr} {fs:List (Str×V)} {f:Str} {v:V} {A:Around} {E:Value->Shared->Prop}
end
section
variable {X:Cx} {o e value:Expr} {f:Str} {pos pos' abV:Pos} {ta tv:TE}
end
theorem b6.of(f:Scope)(e:X.env.scope=f)(k:d.kind= .function)(a:∀x∈d.names,x.2= .local->d.names.lookup x.1=some .local)(b:∀x∈d.names,x.2≠ .cell)
  (c:∀x∈d.names,x.2= .free->f.names.lookup x.1=some .cell\/f.names.lookup x.1=some .free):b6 X d:=⟨k,a,b,λx g h=>by rw[<-e] at c;exact c x g h⟩
structure dU (K:PySem.W.Frag) (mg:Str->Option Value) (x:Str) (st:Stmt) (ps:List Str) where
 f:Addr
 fd:FuncData
 F:zg K x x st f fd
 b:Binds K fd ps []
 m:mg x=some (.ref f)
theorem bf(h:H p=none)(o:HO):bh H (upd H p o):=λb u q=>by rw[aO (bu q h)];exact q
theorem small(h:n<=1000):n<=sizeLine:=vh (cq h)
open PySem.Calls
abbrev Qv(C t:Addr)(a:Value)(d:Option Addr):Obj:={cls:= .ref C,dict:=d,data:= .fields #[.ref t,a, .none, .none, .bool false, .none]}
def UB(C a:Addr)(d:Option Addr):HO:= .ext λh=>∃t b,h.get? a=some (Qv C t b d)
section
variable {P:Program} {w:World} {H:Hp} {h:Heap} {a C:Addr} {d:Option Addr}
end
def UH(h:Heap)(T:Addr):Prop:=∃o a,h.get? T=some o/\o.data= .fields a/\a[3]? =some .none
section
variable {M:Model} {A:Around} {E:Value->Shared->Prop} {s:Shared}
end
def UI(X:Cx)(H:Hp)(h:Heap)(a:Value):Prop:=a= .none\/∃T,a= .ref T/\X.s₀.heap.objs.size<=T/\T≠X.env.locals/\(∀x c,X.env.cells.lookup x=some c->c≠T)/\(∀p∈X.pn,p.1≠T)/\H T=none/\UH h T
def UC(X:Cx)(H:Hp)(s:Shared)(a:Addr):Prop:=∃C t b d,H a=some (UB C a d)/\s.heap.get? a=some (Qv C t b d)/\UI X H s.heap b
section
variable {X:Cx} {pins:List (Addr×Obj)} {σ:St} {H H':Hp} {s s':Shared} {a:Addr}
end
def UK(X:Cx)(b:St)(H:Hp)(a:Addr):Prop:=∀s,Inv X [] b H s->UC X H s a->X.xe (.ref a) s
theorem tU [DecidableEq a] (f:a->b):∀(l:List b)(L:List a),l.Perm (L.map f)->∃M:List a,M.Perm L/\l=M.map f
 | [],L,h=>by
  have:=h.length_eq
  rw[aD] at this
  have:L= []:=acM.mp this.symm
  subst this;exact⟨[], .refl _,rfl⟩
 |x::r,L,h=>by
  obtain⟨e,d,rfl⟩:=aZ.mp (h.mem_iff.mp bE);have c:=List.perm_cons_erase d;have g:(f e::r).Perm (f e::(L.erase e).map f):=h.trans (c.map f);obtain⟨M,i,rfl⟩:=tU f r (L.erase e) ((List.perm_cons _).mp g);exact⟨e::M,(i.cons e).trans c.symm,rfl⟩
section
variable {X:Cx}
end
section
open PySem.SeqAt
open PySem.AutoSeq1 (wpAny_loadPart')
open PySem.MeetsSeq PySem.MeetsSeq2 PySem.MeetsSeq3
theorem Dk{c:List Value}{d:List Int}(h:IntsAre c d){i:Nat}{a:Int}(e:d[i]? =some a):∃t,c[i]? =some (.int a t):=by
 induction h generalizing i with
 |nil=>simp at e
 |cons b t _ f=>
  cases i with
  |zero=>simp at e;subst e;exact⟨t,rfl⟩
  |succ i=>simp at e;obtain⟨u,g⟩:=f e;exact⟨u,by simpa using g⟩
theorem Ln(l b:Addr)(a j:Array Value)(n F:Nat)(G H:Option Addr)(I J:Array (Option Value))(m f:List Int)(B:IntsAre a.toList m)(C:IntsAre j.toList f)(k:Nat):
  ∀i:Nat,a.size-i=k->i<=a.size->i<=j.size->Meets (Builtin.«list.__eq__.loop» ⟨[.ref l, .ref b,rawInt i,rawInt 0],[]⟩)
   (λA R s=>s.heap.get? l=some {cls:= .type "list",dict:=G,data:= .seq a n,slots:=I}/\s.heap.get? b=some {cls:= .type "list",dict:=H,data:= .seq j F,slots:=J}/\
    R (.ok (.ret (.bool (HT.lexLt (m.drop i) (f.drop i))))) s):=by
 have z1:a.size=m.length:=by rw[<-B.length];simp
 have z2:j.size=f.length:=by rw[<-C.length];simp
 induction k with
 |zero=>
  intro i L M N prog w A R s h;obtain⟨x,g,d,y,os⟩:=s;obtain⟨o,p,h⟩:=h
  wp_walk using wpAny_loadPart' o,wpAny_loadPart' p
  have r:a[((i:Nat):Int).toNat]? =none:=by simp;omega
  rw[r];have O:m.drop i= []:=acT (by omega)
  rw[O] at h
  have Q:HT.lexLt [] (f.drop i)=decide (a.size<j.size):=by
   by_cases c:i<f.length
   ·rw[rk c,HT.oh]
    exact(GE (by omega)).symm
   ·rw[acT (by omega),HT.pC]
    exact(FM (by omega)).symm
  rw[Q] at h
  wp_walk using wpAny_loadPart' o,wpAny_loadPart' p
  exact h
 |succ k S=>
  intro i L M N prog w A R s h;obtain⟨x,g,d,y,os⟩:=s;obtain⟨o,p,h⟩:=h
  wp_walk using wpAny_loadPart' o,wpAny_loadPart' p
  have z:i<m.length:=by omega
  obtain⟨t,T⟩:=Dk B (bJ z);have r:a[((i:Nat):Int).toNat]? =some (.int m[i] t):=by rw[ui,<-kG];exact T
  have U:((i:Int)+1)=((i+1:Nat):Int):=by push_cast;rfl
  rw[r]
  by_cases c:i<f.length
  ·obtain⟨u,X⟩:=Dk C (bJ c)
   have v:j[((i:Nat):Int).toNat]? =some (.int f[i] u):=by rw[ui,<-kG];exact X
   rw[v];rw[rk z,rk c,HT.gR] at h;obtain⟨e,Y,E⟩:=HT.zX A.in1 ⟨x,g,d,y,os⟩ m[i] t f[i] u;refine be (Y prog w _ _ ?_);cases e with
   |true=>
    rw[tz (E.mp rfl)] at h
    wp_walk
    rw[U]
    exact⟨acf adt _,UV entry_eq_loop (by
     rw[SC adt _];exact S (i+1) (by omega) (by omega) (by omega) prog w A R _ ⟨o,p,h⟩)⟩
   |false=>
    rw[mo (λq=>absurd (E.mpr q) cw)] at h
    wp_walk using wpAny_loadPart' o,wpAny_loadPart' p
    rw[r,v];have Z:=HT.AD A.in1 ⟨x,g,d,y,os⟩ m[i] t f[i] u prog w
    wp_walk using Z
    exact h
  ·have v:j[((i:Nat):Int).toNat]? =none:=by simp;omega
   rw[v];rw[rk z,acT (show f.length<=i by omega),HT.og] at h
   wp_walk using wpAny_loadPart' o,wpAny_loadPart' p
   show R (.ok (.ret (.bool (decide (a.size<j.size))))) _;rw[FM (by omega)]
   exact h
end
section
open PySem.SeqAt
open PySem.AutoSeq1 (wpAny_loadPart')
open PySem.MeetsSeq PySem.MeetsSeq2 PySem.MeetsSeq3
theorem zr(l b:Addr)(a c:Array Value)(n i:Nat)(j k:Option Addr)(m o:Array (Option Value))(e f:List Int)(r:IntsAre a.toList e)(t:IntsAre c.toList f):
  Meets (Builtin.«list.__lt__» ⟨[.ref l, .ref b],[]⟩)
   (λ_ R s=>s.heap.get? l=some {cls:= .type "list",dict:=j,data:= .seq a n,slots:=m}/\s.heap.get? b=some {cls:= .type "list",dict:=k,data:= .seq c i,slots:=o}/\
    R (.ok (.ret (.bool (HT.lexLt e f)))) s):=by
 intro prog w A R s h;obtain⟨u,g,d,v,os⟩:=s;obtain⟨p,q,h⟩:=h;have x:=AutoSeq1.sub_list_list
 wp_walk using wpAny_loadPart' p,wpAny_loadPart' q
 exact⟨acf adt _,UV entry_eq_loop (by
  rw[SC adt _];exact Ln l b a c n i j k m o e f r t _ 0 rfl (dS _) (dS _) prog w A R _ ⟨p,q,h⟩)⟩
end
section
variable {prog:Program} {w:World} {A:Around} {E:Value->Shared->Prop} {s:Shared}
theorem DR(o:s.heap.IsList l a)(p:s.heap.IsList b d)(q:IntsAre a.toList e)(r:IntsAre d.toList f)(t:A.units<cLine)
  (h:Q (HT.lexLt e f) s):wpAny (model prog w) A (oneLt' true (.ref l) (.ref b)) Q E s:=by
 rfl';obtain⟨⟨v,x,i,y⟩,g,j,n,k⟩:=id o;obtain⟨⟨I,z,data2,B⟩,C,m,G,c⟩:=id p;ac_rfl;simp only at j k m c;subst j k m c;rw[oneLt'_eq];simp only[acs];refine be (wpAny_cRoomFor t ?_);refine be (wpAny_callSpecialIfBound?_slot ⟨_,g,rfl⟩ PySem.F.slot_list_lt (acv PySem.F.slot_list_lt ⟨_,g,rfl⟩ PySem.F.entry_list_lt (PySem.F.args_list_lt_2 _ _) (zr l b a d n G x z y B e f q r) ⟨g,C,?_⟩));exact M2 h
end
theorem tM:∀a:List Int,HT.lexLt a a=false
 | []=>rfl
 |x::b=>by rw[HT.gR,tz rfl];exact tM b
theorem wU:∀a b c:List Int,HT.lexLt a b=true->HT.lexLt b c=true->HT.lexLt a c=true
 | [],[],_,h,_=>by cases h
 | [],_::_,[],_,h=>by cases h
 | [],_::_,_::_,_,_=>rfl
 |_::_,[],_,h,_=>by cases h
 |_::_,_::_,[],_,h=>by cases h
 |x::i,y::j,z::k,g,e=>by
  rw[HT.gR] at*
  by_cases f:x=y
  ·rw[tz f] at g
   by_cases d:y=z
   ·rw[tz d] at e
    rw[tz (f.trans d)];exact wU i j k g e
   ·rw[mo d] at e
    rw[mo (by rw[f];exact d),f];exact e
  ·rw[mo f] at g
   have l:=GT g
   by_cases d:y=z
   ·rw[mo (by rw[<-d];exact f),<-d];exact g
   ·rw[mo d] at e
    have m:=GT e;rw[mo (by omega)]
    exact GE (by omega)
theorem ye:∀a b:List Int,HT.lexLt a b=false->HT.lexLt b a=false->a=b
 | [],[],_,_=>rfl
 | [],_::_,h,_=>by cases h
 |_::_,[],_,h=>by cases h
 |x::f,y::g,c,d=>by
  rw[HT.gR] at*
  by_cases e:x=y
  ·rw[tz e] at c
   rw[tz e.symm] at d;rw[e,ye f g c d]
  ·rw[mo e] at c
   rw[mo (λz=>e z.symm)] at d
   have:=GM c
   have:=GM d
   omega
theorem Li(a b c:List Int)(h:HT.lexLt a c=true):HT.lexLt a b=true\/HT.lexLt b c=true:=by
 cases e:HT.lexLt a b with
 |true=>exact .inl rfl
 |false=>
  right
  cases d:HT.lexLt b a with
  |true=>exact wU _ _ _ d h
  |false=>rw[<-ye a b e d];exact h
def my(r:List Nat):List Int:=r.map λ(n:Nat)=>(n:Int)
def mM(a b:List Nat):Prop:=HT.lexLt (my b) (my a)=false
def Q4(H:Hp)(L:List (Addr×List Nat)):Prop:=∀p∈L,H p.1=some (.lst ((my p.2).map V.int))
theorem MY(h:(my a).map V.int=(my b).map V.int):a=b:=by
 unfold my at h;rw[bU,bU] at h
 induction a generalizing b with
 |nil=>cases b with
  |nil=>rfl
  |cons y b=>simp at h
 |cons x a d=>
  cases b with
  |nil=>simp at h
  |cons y b=>
   rw[dD,dD] at h
   injection h with e f
   have c:V.int (x:Int)=V.int (y:Int):=e
   injection c with c
   rw[d f,show x=y by omega]
section
variable {X:Cx}
end
end L2
namespace PySem.SetTable
def oU(a:Array Nat):Prop:=∀i j (b:j<a.size),i<j->a[i]! <a[j]!
theorem Kw{a:Array Nat}{i d:Nat}(h:i<a.size):a.getD i d=a[i]! :=by
 simp[Array.getD,h]
theorem xT(R:oU h)(j:Nat):∀(f lo g:Nat),g-lo<=f->lo<=g->g<=h.size->(∀i,i<lo->h[i]! <j)->(∀i,g<=i->i<h.size->j<=h[i]!)->
  lo<=below.go h j f lo g/\below.go h j f lo g<=g/\(∀i,i<below.go h j f lo g->h[i]! <j)/\∀i,below.go h j f lo g<=i->i<h.size->j<=h[i]!
 |0,lo,g,m,n,k,a,b=>by
  have:lo=g:=by omega
  subst this;rw[below.go];exact⟨bH _,bH _,a,b⟩
 |f+1,lo,g,m,n,k,a,b=>by
  rw[below.go]
  by_cases c:lo<g
  ·rw[tz c]
   have l:(lo+g) / 2<h.size:=by omega
   dsimp only;rw[Kw l]
   by_cases d:h[(lo+g) / 2]! <j
   ·rw[tz d]
    have:=xT R j f ((lo+g) / 2+1) g (by omega) (by omega) k (λi p=>by
     by_cases e:i=(lo+g) / 2
     ·rw[e];exact d
     ·have:=R i ((lo+g) / 2) l (by omega);omega) b
    exact⟨by omega,this.2.1,this.2.2⟩
   ·rw[mo d]
    have:=xT R j f lo ((lo+g) / 2) (by omega) (by omega) (by omega) a (λi q o=>by
     by_cases e:i=(lo+g) / 2
     ·rw[e];omega
     ·have:=R ((lo+g) / 2) i o (by omega);omega)
    exact⟨this.1,by omega,this.2.2⟩
  ·rw[mo c]
   have:lo=g:=by omega
   subst this;exact⟨bH _,bH _,a,b⟩
theorem jc{xs:Array Nat}(R:oU xs)(j:Nat):below xs j<=xs.size/\(∀i,i<below xs j->xs[i]! <j)/\∀i,below xs j<=i->i<xs.size->j<=xs[i]! :=by
 have:=xT R j xs.size 0 xs.size (by omega) (dS _) (bH _) (λi h=>by omega) (λi a b=>by omega)
 exact⟨this.2.1,this.2.2⟩
theorem below_at(R:oU a)(h:a[i]? =some j):below a j=i:=by
 obtain⟨b,e⟩:=AN.mp h;have g:a[i]! =j:=by simp[b,e]
 obtain⟨k,d,f⟩:=jc R j;apply Nat.le_antisymm
 ·apply Do
  intro c
  have:=d i (by omega)
  omega
 ·apply Do
  intro c;have l:=f (below a j) (bH _) (by omega)
  have m:=R (below a j) i b (by omega)
  omega
theorem sA{t:SetTable}(R:oU t.place){i j:Nat}(h:t.place[i]? =some j):t.slot j= .live i:=by
 unfold slot;rw[below_at R h];simp[h]
theorem D8{t:SetTable}(R:oU t.place)(a:t.dummies= #[]){j:Nat}(h:∀i:Nat,t.place[i]? ≠some j):t.slot j= .empty:=by
 unfold slot
 have b:(t.place[below t.place j]? ==some j)=false:=by
  rw[acg];exact h _
 dsimp only;rw[mo (by rw[b];exact cw)]
 unfold has;rw[a];rfl
def oM(mask:Nat)(p:Probe):Probe:=
 if p.more>0 then {p with j:=p.j+1,more:=p.more-1} else
 let (i,perturb):=leap mask p.i p.perturb
 {p with j:=i,more:=runEnd mask i-i,i,perturb}
def wB(mask:Nat)(h:Int):Probe:={j:=bits h%(mask+1),more:=runEnd mask (bits h%(mask+1))-bits h%(mask+1),i:=bits h%(mask+1),perturb:=bits h,dummy:=none}
theorem Ju(t:SetTable)(h:Int):t.probeStart h=wB t.mask h:=rfl
def qK(mask:Nat)(h:Int):Nat->Probe
 |0=>wB mask h
 |k+1=>oM mask (qK mask h k)
def bN(mask:Nat)(h:Int)(k:Nat):Nat:=(qK mask h k).j
theorem JO(h:Int):bits h<2^64:=by
 unfold bits;have a:0<=h%(2^64:Int):=adV _ (by decide)
 have b:h%(2^64:Int)<2^64:=adp _ (by decide)
 omega
def eI(mask:Nat)(i p:Nat):Nat->Nat×Nat
 |0=>(i,p)
 |r+1=>leap mask (eI mask i p r).1 (eI mask i p r).2
theorem lV(mask i p:Nat):∀r,(eI mask i p r).2=p / 32^r
 |0=>by simp[eI]
 |r+1=>by
  show(eI mask i p r).2 / 32=_;rw[lV mask i p r,Nat.div_div_eq_div_mul,Nat.pow_succ]
def N7(mask:Nat)(i:Nat):Nat:=(i*5+1)%(mask+1)
def kS(mask:Nat)(i:Nat):Nat->Nat
 |0=>i
 |r+1=>N7 mask (kS mask i r)
theorem mK(mask i:Nat)(a:Nat):∀b,kS mask i (a+b)=kS mask (kS mask i a) b
 |0=>rfl
 |b+1=>by
  show N7 mask (kS mask i (a+b))=_;rw[mK mask i a b];rfl
theorem u0{mask i p a:Nat}(h:(eI mask i p a).2=0):∀r,eI mask i p (a+r)=(kS mask (eI mask i p a).1 r,0)
 |0=>by rw[Nat.add_zero,kS];exact UF rfl h
 |r+1=>by
  show leap mask (eI mask i p (a+r)).1 (eI mask i p (a+r)).2=_;rw[u0 h r];unfold leap;simp[kS,N7]
def v5(mask:Nat):Prop:=mask=7\/mask=31\/mask=127\/mask=511
def TM(mask:Nat):Nat->Nat->List Nat
 |_,0=> []
 |i,n+1=>i::TM mask (N7 mask i) n
theorem DH{mask s:Nat}:∀{i n:Nat},s∈TM mask i n->∃r,r<n/\kS mask i r=s
 |i,0,h=>by cases h
 |i,n+1,h=>by
  rcases br.mp h with rfl|h
  ·exact⟨0,by omega,rfl⟩
  ·obtain⟨r,a,e⟩:=DH h
   refine⟨r+1,by omega,?_⟩
   have:=mK mask i 1 r
   rw[show 1+r=r+1 by omega] at this
   rw[this];exact e
theorem TN{mask:Nat}(h:v5 mask):(∀s,s<=mask->∃r,r<=mask/\kS mask 0 r=s)/\kS mask 0 (mask+1)=0:=by
 have key:∀m,(List.range (m+1)).all (λs=>(TM m 0 (m+1)).contains s)=true->∀s,s<=m->∃r,r<=m/\kS m 0 r=s:=λm a s b=>by
  have:=adK.mp a s (bT.mpr (by omega))
  obtain⟨r,c,e⟩:=DH (List.contains_iff_mem.mp this);exact⟨r,by omega,e⟩
 rcases h with rfl|rfl|rfl|rfl
 ·exact⟨key 7 (by decide+kernel),by decide+kernel⟩
 ·exact⟨key 31 (by decide+kernel),by decide+kernel⟩
 ·exact⟨key 127 (by decide+kernel),by decide+kernel⟩
 ·exact⟨key 511 (by decide+kernel),by decide+kernel⟩
theorem cover{mask:Nat}(h:v5 mask){i s:Nat}(d:i<=mask)(e:s<=mask):∃r,r<=mask/\kS mask i r=s:=by
 obtain⟨o,per⟩:=TN h;obtain⟨a,f,rfl⟩:=o i d;obtain⟨b,g,rfl⟩:=o s e
 by_cases c:a<=b
 ·refine⟨b-a,by omega,?_⟩
  rw[<-mK,show a+(b-a)=b by omega]
 ·refine⟨mask+1-a+b,by omega,?_⟩
  rw[<-mK,show a+(mask+1-a+b)=mask+1+b by omega,mK,per]
def cW(mask:Nat)(p:Probe):Nat->Probe
 |0=>p
 |k+1=>oM mask (cW mask p k)
theorem mD(mask:Nat)(p:Probe)(a:Nat):∀b,cW mask p (a+b)=cW mask (cW mask p a) b
 |0=>rfl
 |b+1=>by
  show oM mask (cW mask p (a+b))=_;rw[mD mask p a b];rfl
theorem nX(mask:Nat)(h:Int):∀k,qK mask h k=cW mask (wB mask h) k
 |0=>rfl
 |k+1=>by
  show oM mask _=oM mask _;rw[nX mask h k]
theorem uz(mask:Nat)(p:Probe):∀c,c<=p.more->cW mask p c={p with j:=p.j+c,more:=p.more-c}
 |0,_=>rfl
 |c+1,a=>by
  show oM mask (cW mask p c)=_;rw[uz mask p c (by omega)]
  unfold oM;rw[tz (by show p.more-c>0;omega)]
  show({p with j:=p.j+c+1,more:=p.more-c-1}:Probe)={p with j:=p.j+(c+1),more:=p.more-(c+1)}
  rw[show p.more-c-1=p.more-(c+1) by omega,show p.j+c+1=p.j+(c+1) by omega]
def Pd(mask:Nat)(p:Probe)(a:Nat×Nat):Probe:={p with j:=a.1,more:=runEnd mask a.1-a.1,i:=a.1,perturb:=a.2}
theorem more_le(mask i:Nat):runEnd mask i-i<=9:=by
 unfold runEnd
 split<;>omega
theorem rJ(mask:Nat)(p:Probe):cW mask p (p.more+1)=Pd mask p (leap mask p.i p.perturb):=by
 show oM mask (cW mask p p.more)=_;rw[uz mask p p.more (bH _)];unfold oM;rw[mo (by show ¬p.more-p.more>0;omega)]
 rfl
theorem xo(mask:Nat)(p:Probe):∀r,∃k,k<=p.more+1+10*r/\cW mask p k=Pd mask p (eI mask p.i p.perturb (r+1))
 |0=>⟨p.more+1,by omega,rJ mask p⟩
 |r+1=>by
  obtain⟨k,a,e⟩:=xo mask p r;have b:=more_le mask (eI mask p.i p.perturb (r+1)).1;refine⟨k+((runEnd mask (eI mask p.i p.perturb (r+1)).1-(eI mask p.i p.perturb (r+1)).1)+1),by omega,?_⟩
  rw[mD,e];exact rJ mask (Pd mask p (eI mask p.i p.perturb (r+1)))
theorem D6(mask i p:Nat)(r:Nat):(eI mask i p (r+1)).1<=mask:=by
 show(((eI mask i p r).1*5+1+(eI mask i p r).2 / 32)%(mask+1))<=mask
 have:=qv ((eI mask i p r).1*5+1+(eI mask i p r).2 / 32) (show 0<mask+1 by omega)
 omega
theorem Hr{mask i:Nat}(h:i<=mask):i+(runEnd mask i-i)<=mask:=by
 unfold runEnd
 split<;>omega
structure uw (mask:Nat) (p:Probe):Prop where
 le:p.j+p.more<=mask
 more:p.more<=9
 per:p.perturb<2^64
 dum:p.dummy=none
theorem uw.oM{mask:Nat}{p:Probe}(o:uw mask p):uw mask (oM mask p):=by
 unfold SetTable.oM
 split
 ·next h=>exact⟨by show p.j+1+(p.more-1)<=mask;have:=o.le;omega,by show p.more-1<=9;have:=o.more;omega,o.per,o.dum⟩
 ·refine⟨Hr (by have:=qv (p.i*5+1+p.perturb / 32) (show 0<mask+1 by omega);show(p.i*5+1+p.perturb / 32)%(mask+1)<=mask;omega),more_le _ _,?_,o.dum⟩
  show p.perturb / 32<2^64
  have:=o.per
  omega
theorem uw.start(mask:Nat)(h:Int):uw mask (wB mask h):=⟨Hr (mask:=mask) (i:=bits h%(mask+1)) (by have:=qv (bits h) (show 0<mask+1 by omega);omega),more_le _ _,JO h,rfl⟩
theorem uw.cW{mask:Nat}{p:Probe}(o:uw mask p):∀k,uw mask (cW mask p k)
 |0=>o
 |k+1=>(o.cW k).oM
theorem meets{mask:Nat}(f:v5 mask){p:Probe}(o:uw mask p){s:Nat}(a:s<=mask):∃k,k<10*turns mask/\(cW mask p k).j=s:=by
 have z:(eI mask p.i p.perturb 13).2=0:=by
  rw[lV];exact Nat.div_eq_of_lt (iH o.per (by decide))
 obtain⟨r,c,e⟩:=cover f (D6 mask p.i p.perturb 12) a;obtain⟨k,d,b⟩:=xo mask p (12+r);refine⟨k,?_,?_⟩
 ·have:=o.more
  unfold turns;omega
 ·rw[b]
  show(eI mask p.i p.perturb (12+r+1)).1=s;rw[show 12+r+1=13+r by omega,u0 z]
  exact e
theorem AA(R:oU t.place)(o:t.dummies= #[])(hashAt:Nat->Int)(h:Int):∀(K d:Nat)(p:Probe),p.dummy=none->K<d->(∀i:Nat,t.place[i]? ≠some (cW t.mask p K).j)->
  ∃e,e<=K/\(∀f,f<e->∃i:Nat,t.place[i]? =some (cW t.mask p f).j/\hashAt i≠h)/\
   (((∀i:Nat,t.place[i]? ≠some (cW t.mask p e).j)/\probe.go t hashAt h d p=some (.empty (cW t.mask p e).j none))\/
    (∃i:Nat,t.place[i]? =some (cW t.mask p e).j/\hashAt i=h/\probe.go t hashAt h d p=some (.candidate (cW t.mask p e).j i (cW t.mask p (e+1)))))
 |K,0,p,_,v,_=>by omega
 |K,d+1,p,q,v,r=>by
  by_cases c:∃i:Nat,t.place[i]? =some p.j
  ·obtain⟨i,g⟩:=c
   have s:=sA R g
   by_cases l:hashAt i=h
   ·refine⟨0,dS _,λf u=>by omega, .inr ⟨i,g,l,?_⟩⟩
    rw[probe.go,s];dsimp only;rw[tz (by simpa using l)]
    rfl
   ·cases K with
    |zero=>exact absurd g (r i)
    |succ K=>
     have n:(oM t.mask p).dummy=none:=by
      unfold oM
      split<;>exact q
     have m:∀k,cW t.mask (oM t.mask p) k=cW t.mask p (k+1):=λk=>by
      have:=mD t.mask p 1 k
      rw[show 1+k=k+1 by omega] at this
      exact this.symm
     obtain⟨e,w,a,b⟩:=AA R o hashAt h K d (oM t.mask p) n (by omega) (by rw[m];exact r)
     have x:probe.go t hashAt h (d+1) p=probe.go t hashAt h d (oM t.mask p):=by
      rw[probe.go,s];dsimp only;rw[mo (by simpa using l)]
      rfl
     refine⟨e+1,by omega,λf u=>?_,?_⟩
     ·cases f with
      |zero=>exact⟨i,g,l⟩
      |succ f=>
       have:=a f (by omega)
       rw[m] at this;exact this
     ·rw[m,m] at b
      rw[x];exact b
  ·have c:∀i:Nat,t.place[i]? ≠some p.j:=λi g=>c ⟨i,g⟩
   refine⟨0,dS _,λf u=>by omega, .inl ⟨c,?_⟩⟩
   rw[probe.go,D8 R o c];dsimp only;rw[q];rfl
structure TOk (t:SetTable) (hs:List Int):Prop where
 few:v5 t.mask
 dum:t.dummies= #[]
 rise:oU t.place
 size:t.place.size=hs.length
 le:∀(i j:Nat),t.place[i]? =some j->j<=t.mask
 room:t.place.size<=t.mask
 path:∀(i:Nat)(h:Int),hs[i]? =some h->∃k,t.place[i]? =some (bN t.mask h k)/\∀k',k'<k->∃i':Nat,t.place[i']? =some (bN t.mask h k')
theorem BQ(mask:Nat)(h:Int)(k:Nat):bN mask h k<=mask:=by
 unfold bN;rw[nX]
 have:=((uw.start mask h).cW k).le
 omega
theorem TOk.empty(T:TOk t a):∃s,s<=t.mask/\∀i:Nat,t.place[i]? ≠some s:=by
 apply Do;intro c
 have all:∀s∈List.range (t.mask+1),s∈t.place.toList:=λs a=>by
  apply Do;intro n;refine c ⟨s,by have:=bT.mp a;omega,λi b=>n ?_⟩
  rw[<-kG] at b;exact dA b
 have:=Wb.az rE all
 rw[fG,iF] at this
 have:=T.room
 omega
theorem TOk.probe(T:TOk t g)(hashAt:Nat->Int)(h:Int)(k:Nat):
  ∃d,k<=d/\(∀e,k<=e->e<d->∃i:Nat,t.place[i]? =some (bN t.mask h e)/\hashAt i≠h)/\
   (((∀i:Nat,t.place[i]? ≠some (bN t.mask h d))/\t.probe hashAt h (qK t.mask h k)=some (.empty (bN t.mask h d) none))\/
    (∃i:Nat,t.place[i]? =some (bN t.mask h d)/\hashAt i=h/\t.probe hashAt h (qK t.mask h k)=some (.candidate (bN t.mask h d) i (qK t.mask h (d+1))))):=by
 obtain⟨s,j,l⟩:=T.empty;have o:=(uw.start t.mask h).cW k;rw[<-nX] at o;obtain⟨K,m,n⟩:=meets T.few o j;have f:∀c,cW t.mask (qK t.mask h k) c=qK t.mask h (k+c):=λc=>by rw[nX,nX,<-mD]
 obtain⟨d,p,a,b⟩:=AA T.rise T.dum hashAt h K (10*turns t.mask) (qK t.mask h k) o.dum m (by rw[n];exact l)
 refine⟨k+d,by omega,λe q r=>?_,?_⟩
 ·have:=a (e-k) (by omega)
  rw[f,show k+(e-k)=e by omega] at this
  exact this
 ·rw[f,f] at b
  exact b
theorem lQ{xs:Array a}(x:a)(e:p<=xs.size)(i:Nat):(insertAt xs p x)[i]? =if i<p then xs[i]? else if i=p then some x else xs[i-1]? :=by
 rw[<-kG,acE];have lt:(xs.toList.take p).length=p:=by rw[lF,iF];omega
 by_cases c:i<p
 ·rw[tz c,lC (by omega),Ew c,kG]
 ·rw[mo c]
  by_cases d:i=p
  ·subst d
   rw[tz rfl,kF (by omega),lt,sQ];rfl
  ·rw[mo d,kF (by omega),lt]
   obtain⟨m,b⟩:∃m,i-p=m+1:=⟨i-p-1,by omega⟩
   rw[b,vT,adq,kG]
   congr 1;omega
theorem fW(xs:Array a)(p:Nat)(x:a):(insertAt xs p x).size=xs.size+1:=by
 rw[<-iF,(acU xs p x).length_eq];simp
theorem jY{a:Array Nat}{i j:Nat}(h:a[i]? =some j):a[i]! =j:=by
 obtain⟨b,e⟩:=AN.mp h;simp[b,e]
theorem Jl{xs:Array Nat}(R:oU xs){j:Nat}(h:∀i:Nat,xs[i]? ≠some j):oU (insertAt xs (below xs j) j):=by
 obtain⟨t,w,x⟩:=jc R j;have g:=lQ (xs:=xs) j t;intro a b y A;rw[fW] at y
 have m:∀i,i<xs.size+1->∃v,(insertAt xs (below xs j) j)[i]? =some v/\((i<below xs j/\xs[i]? =some v)\/(i=below xs j/\v=j)\/(below xs j<i/\xs[i-1]? =some v)):=λi r=>by
  rw[g i]
  by_cases c:i<below xs j
  ·rw[tz c,qo (by omega)]
   exact⟨_,rfl, .inl ⟨c,rfl⟩⟩
  ·rw[mo c]
   by_cases d:i=below xs j
   ·rw[tz d];exact⟨j,rfl, .inr (.inl ⟨d,rfl⟩)⟩
   ·rw[mo d,qo (by omega)]
    exact⟨_,rfl, .inr (.inr ⟨by omega,rfl⟩)⟩
 obtain⟨G,B,C⟩:=m a (by omega)
 obtain⟨H,E,s⟩:=m b (by omega)
 rw[jY B,jY E];have lo:∀i v,i<below xs j->xs[i]? =some v->v<j:=λi v n f=>by have:=w i n;rw[jY f] at this;exact this
 have r:∀i v,below xs j<=i->xs[i]? =some v->j<v:=λi v n f=>by
  have:=x i n (AN.mp f).1
  rw[jY f] at this
  have:v≠j:=λz=>h i (by rw[f,z])
  omega
 have o:∀i k v u,xs[i]? =some v->xs[k]? =some u->i<k->v<u:=λi k v u n f F=>by
  have:=R i k (AN.mp f).1 F
  rw[jY n,jY f] at this;exact this
 rcases C with ⟨q,p⟩ | ⟨q,rfl⟩ | ⟨q,p⟩
 ·rcases s with ⟨l,e⟩ | ⟨l,rfl⟩ | ⟨l,e⟩
  ·exact o _ _ _ _ p e A
  ·exact lo _ _ q p
  ·have:=lo _ _ q p;have:=r (b-1) _ (by omega) e;omega
 ·rcases s with ⟨l,e⟩ | ⟨l,rfl⟩ | ⟨l,e⟩
  ·omega
  ·omega
  ·exact r (b-1) _ (by omega) e
 ·rcases s with ⟨l,e⟩ | ⟨l,rfl⟩ | ⟨l,e⟩
  ·omega
  ·omega
  ·exact o _ _ _ _ p e (by omega)
theorem Mc{xs:Array Nat}(R:oU xs){j s:Nat}:(∃i:Nat,(insertAt xs (below xs j) j)[i]? =some s)↔s=j\/∃i:Nat,xs[i]? =some s:=by
 obtain⟨a,_,_⟩:=jc R j;have g:=lQ (xs:=xs) j a
 constructor
 ·rintro⟨i,h⟩
  rw[g i] at h
  split at h
  ·exact .inr ⟨i,h⟩
  ·split at h
   ·exact .inl (Da h).symm
   ·exact .inr ⟨_,h⟩
 ·rintro(rfl| ⟨i,h⟩)
  ·exact⟨below xs s,by rw[g,mo (by omega),tz rfl]⟩
  ·by_cases c:i<below xs j
   ·exact⟨i,by rw[g,tz c];exact h⟩
   ·exact⟨i+1,by rw[g,mo (by omega),mo (by omega)];exact h⟩
theorem TOk.put(T:TOk t l){h:Int}{k:Nat}(v:∀i:Nat,t.place[i]? ≠some (bN t.mask h k))(w:∀a,a<k->∃i:Nat,t.place[i]? =some (bN t.mask h a))(room:t.place.size+1<=t.mask):
  (t.put (bN t.mask h k)).2=below t.place (bN t.mask h k)/\below t.place (bN t.mask h k)<=l.length/\
  TOk (t.put (bN t.mask h k)).1 (l.take (below t.place (bN t.mask h k))++h::l.drop (below t.place (bN t.mask h k))):=by
 obtain⟨x,z,A⟩:=jc T.rise (bN t.mask h k);have g:=lQ (xs:=t.place) (bN t.mask h k) x;have sz:=T.size;have o:=λs=>Mc (s:=s) (j:=bN t.mask h k) T.rise;refine⟨rfl,by omega,T.few,?_,Jl T.rise v,?_,?_,?_,?_⟩
 ·show(if has t.dummies _=true then _ else t.dummies)= #[]
  rw[T.dum];rfl
 ·show(insertAt t.place _ _).size=_
  rw[fW,bZ,lF,cD,zc];omega
 ·intro i j p
  have p:(insertAt t.place (below t.place (bN t.mask h k)) (bN t.mask h k))[i]? =some j:=p
  rcases(o j).mp ⟨i,p⟩ with rfl| ⟨u,e⟩
  ·exact BQ _ _ _
  ·exact T.le _ _ e
 ·show(insertAt t.place _ _).size<=_
  rw[fW];exact room
 ·intro i e b
  show ∃f,(insertAt t.place (below t.place (bN t.mask h k)) (bN t.mask h k))[i]? =some (bN t.mask e f)/\∀a,a<f->∃u:Nat,(insertAt t.place (below t.place (bN t.mask h k)) (bN t.mask h k))[u]? =some (bN t.mask e a);have lt:(l.take (below t.place (bN t.mask h k))).length=below t.place (bN t.mask h k):=by rw[lF];omega
  by_cases c:i<below t.place (bN t.mask h k)
  ·rw[lC (by omega),Ew c] at b
   obtain⟨f,q,r⟩:=T.path i e b;exact⟨f,by rw[g,tz c];exact q,λa n=>(o _).mpr (.inr (r a n))⟩
  ·rw[kF (by omega),lt] at b
   by_cases d:i=below t.place (bN t.mask h k)
   ·rw[d,sQ] at b
    cases(Da b);exact⟨k,by rw[d,g,mo (by omega),tz rfl],λa n=>(o _).mpr (.inr (w a n))⟩
   ·obtain⟨m,y⟩:∃m,i-below t.place (bN t.mask h k)=m+1:=⟨i-below t.place (bN t.mask h k)-1,by omega⟩
    rw[y,vT,adq] at b;obtain⟨f,q,r⟩:=T.path _ e b;refine⟨f,?_,λa n=>(o _).mpr (.inr (r a n))⟩;rw[g,mo c,mo d,show i-1=below t.place (bN t.mask h k)+m by omega]
    exact q
theorem vM(mask i p:Nat):∀r,eI mask i p (r+1)=eI mask (leap mask i p).1 (leap mask i p).2 r
 |0=>rfl
 |r+1=>by
  show leap mask (eI mask i p (r+1)).1 (eI mask i p (r+1)).2=_;rw[vM mask i p r];rfl
def Own(o:Array (Option Nat))(s:Nat):Prop:=(o.getD s (some 0)).isNone=false
theorem xP{mask:Nat}(e:Array (Option Nat)):∀(f:Nat)(p:Probe),p.j=p.i->p.more=runEnd mask p.i-p.i->p.i<=runEnd mask p.i->(∃r,r<f/\¬Own e (eI mask p.i p.perturb r).1)->
  ∃h,layClean.free mask e f p.i p.perturb=some (cW mask p h).j/\¬Own e (cW mask p h).j/\∀g,g<h->Own e (cW mask p g).j
 |0,p,_,_,_,⟨r,t,_⟩=>by omega
 |f+1,p,u,B,C,⟨r,t,o⟩=>by
  have run:∀c,c<=p.more->(cW mask p c).j=p.i+c:=λc s=>by rw[uz mask p c s];show p.j+c=_;rw[u]
  cases l:(List.range (runEnd mask p.i+1-p.i)).find? λk=>(e.getD (p.i+k) (some 0)).isNone with
  |some k=>
   obtain⟨v,as,bs,m,w⟩:=List.find?_eq_some_iff_append.mp l;have E:k<runEnd mask p.i+1-p.i:=bT.mp (by rw[m];simp)
   have x:as.length=k:=by
    have y:as.length<(List.range (runEnd mask p.i+1-p.i)).length:=by rw[m];simp
    have:=qq (n:=runEnd mask p.i+1-p.i) (i:=as.length) (by simpa using y)
    rw[m,kF (bH _),sQ] at this;exact(Da this).symm
   refine⟨k,?_,?_,λg z=>?_⟩
   ·rw[layClean.free,l,run k (by omega)]
   ·rw[run k (by omega)]
    unfold Own;rw[v];exact Bool.noConfusion
   ·rw[run g (by omega)]
    have A:g∈as:=by
     have:=qq (n:=runEnd mask p.i+1-p.i) (i:=g) (by omega)
     rw[m,lC (by omega)] at this
     exact dA this
    have:=w g A
    unfold Own;exact Bool.not_eq_true' _▸this
  |none=>
   have all:=List.find?_eq_none.mp l
   have own:∀c,c<=p.more->Own e (p.i+c):=λc s=>by
    have:=all c (bT.mpr (by omega))
    unfold Own;exact rB.mpr this
   cases r with
   |zero=>exact absurd (own 0 (dS _)) o
   |succ r=>
    have lp:=rJ mask p
    obtain⟨h,a,b,c⟩:=xP e f (Pd mask p (leap mask p.i p.perturb)) rfl rfl (by
     show(leap mask p.i p.perturb).1<=runEnd mask (leap mask p.i p.perturb).1;unfold runEnd;split<;>omega) ⟨r,by omega,by rw[vM] at o;exact o⟩
    rw[<-lp] at a b c;have q:∀k,cW mask (cW mask p (p.more+1)) k=cW mask p (p.more+1+k):=λk=>(mD mask p (p.more+1) k).symm;refine⟨p.more+1+h,?_,?_,λg z=>?_⟩
    ·rw[layClean.free,l,<-q,<-a,lp];rfl
    ·rw[<-q];exact b
    ·by_cases d:g<=p.more
     ·rw[run g d];exact own g d
     ·have:=c (g-(p.more+1)) (by omega)
      rw[q,show p.more+1+(g-(p.more+1))=g by omega] at this
      exact this
structure Laid (mask:Nat) (hs:List Int) (owner:Array (Option Nat)) (ss:List Nat):Prop where
 size:owner.size=mask+1
 len:ss.length=hs.length
 nd:ss.Nodup
 le:∀s∈ss,s<=mask
 get:∀s,s<=mask->∀k,owner.getD s (some 0)=some k↔ss[k]? =some s
 path:∀(k:Nat)(h:Int),hs[k]? =some h->∃c,ss[k]? =some (bN mask h c)/\∀c',c'<c->bN mask h c'∈ss
theorem Laid.own{mask:Nat}{c:List Int}{a:Array (Option Nat)}{b:List Nat}(L:Laid mask c a b){s:Nat}(h:s<=mask):Own a s↔s∈b:=by
 unfold Own
 constructor
 ·intro e
  cases o:a.getD s (some 0) with
  |none=>rw[o] at e;cases e
  |some k=>exact dA ((L.get s h k).mp o)
 ·intro e
  obtain⟨k,d⟩:=vU e;rw[(L.get s h k).mpr d];rfl
theorem Ft{mask:Nat}(f:v5 mask){l:List Int}{g:Array (Option Nat)}{m:List Nat}(L:Laid mask l g m)(room:l.length<=mask)(h:Int):
  ∃j,layClean.free mask g (turns mask) (bits h%(mask+1)) (bits h)=some j/\Laid mask (l++ [h]) (g.setIfInBounds j (some l.length)) (m++ [j]):=by
 have o:=uw.start mask h
 obtain⟨s,C,F⟩:∃s,s<=mask/\s∉m:=by
  apply Do;intro c
  have all:∀s∈List.range (mask+1),s∈m:=λs l=>by
   apply Do;intro n;exact c ⟨s,by have:=bT.mp l;omega,n⟩
  have:=Wb.az rE all
  rw[fG,L.len] at this;omega
 have z:(eI mask (wB mask h).i (wB mask h).perturb 13).2=0:=by
  rw[lV];exact Nat.div_eq_of_lt (iH o.per (by decide))
 obtain⟨r,N,e⟩:=cover f (D6 mask (wB mask h).i (wB mask h).perturb 12) C
 have O:(wB mask h).i<=mask:=by
  have:=qv (bits h) (show 0<mask+1 by omega)
  show bits h%(mask+1)<=mask;omega
 obtain⟨p,a,b,c⟩:=xP g (turns mask) (wB mask h) rfl rfl (by unfold runEnd;split<;>omega) ⟨13+r,by unfold turns;omega,by
  rw[u0 z];show ¬Own g (kS mask _ r);rw[e,L.own C];exact F⟩
 have E:∀k,(cW mask (wB mask h) k).j=bN mask h k:=λk=>by unfold bN;rw[nX]
 rw[E] at a b;have u:=BQ mask h p;rw[L.own u] at b;refine⟨bN mask h p,a,?_,?_,?_,?_,?_,?_⟩
 ·rw[Array.size_setIfInBounds];exact L.size
 ·rw[bZ,bZ,L.len];rfl
 ·exact dB.mpr ⟨L.nd,by simp,λx t y G z=>b (by rw[<-cF.mp G,<-z];exact t)⟩
 ·intro x t
  rcases bR.mp t with t|t
  ·exact L.le x t
  ·rw[cF.mp t];exact u
 ·intro x t k
  have w:(g.setIfInBounds (bN mask h p) (some l.length)).getD x (some 0)=if bN mask h p=x then some l.length else g.getD x (some 0):=by
   rw[vQ,vQ,Array.getElem?_setIfInBounds]
   by_cases d:bN mask h p=x
   ·rw[tz d,tz d,tz (by rw[L.size];omega)];rfl
   ·rw[mo d,mo d]
  rw[w]
  by_cases d:bN mask h p=x
  ·rw[tz d]
   constructor
   ·intro e
    cases(Da e);rw[<-L.len,kF (bH _),sQ,<-d];rfl
   ·intro e
    by_cases q:k<m.length
    ·rw[lC q] at e
     exact absurd (by rw[d];exact dA e) b
    ·have:k<(m++ [bN mask h p]).length:=(di.mp e).1
     rw[bZ] at this
     have:k<m.length+1:=this
     rw[show k=m.length by omega,L.len]
  ·rw[mo d,L.get x t k]
   constructor
   ·intro e
    rw[lC (di.mp e).1];exact e
   ·intro e
    by_cases q:k<m.length
    ·rw[lC q] at e;exact e
    ·have:k<(m++ [bN mask h p]).length:=(di.mp e).1
     rw[bZ] at this
     have:k<m.length+1:=this
     rw[show k=m.length by omega,kF (bH _),sQ] at e
     exact absurd (Da e) d
 ·intro k H v
  by_cases q:k<l.length
  ·rw[lC q] at v
   obtain⟨I,w,J⟩:=L.path k H v;exact⟨I,by rw[lC (by rw[L.len];exact q)];exact w,λA B=>fk _ (J A B)⟩
  ·have:k<(l++ [h]).length:=(di.mp v).1
   rw[bZ] at this
   have:k<l.length+1:=this
   have M:k=l.length:=by omega
   subst M;rw[kF (bH _),sQ] at v;cases(Da v);refine⟨p,by rw[<-L.len,kF (bH _),sQ];rfl,λA B=>fk _ ?_⟩
   have:=c A B
   rw[E] at this;exact(L.own (BQ _ _ _)).mp this
theorem Fu(mask:Nat):Laid mask [] (Array.replicate (mask+1) none) [] where
 size:=by simp
 len:=rfl
 nd:=gK
 le:=λs h=>by cases h
 get:=λs a k=>by
  rw[vQ,Array.getElem?_replicate,tz (by omega)]
  simp
 path:=λk h e=>by cases e
def Ah(mask:Nat)(a:Option (Array (Option Nat)×Nat))(h:Int):Option (Array (Option Nat)×Nat):=do
 let (owner,k) <-a
 let j <-layClean.free mask owner (turns mask) (bits h%(mask+1)) (bits h)
 pure (owner.setIfInBounds j (some k),k+1)
theorem Ai{mask:Nat}(f:v5 mask):∀(b done:List Int)(a:Array (Option Nat))(d:List Nat),Laid mask done a d->done.length+b.length<=mask+1->
  ∃c i,b.foldl (Ah mask) (some (a,done.length))=some (c,done.length+b.length)/\Laid mask (done++b) c i
 | [],done,a,d,L,_=>⟨a,d,rfl,by rw[m8];exact L⟩
 |h::b,done,a,d,L,l=>by
  rw[cD] at l;obtain⟨j,e,m⟩:=Ft f L (by omega) h
  have n:Ah mask (some (a,done.length)) h=some (a.setIfInBounds j (some done.length),done.length+1):=by
   unfold Ah;simp[e]
  obtain⟨c,i,g,k⟩:=Ai f b (done++ [h]) _ _ m (by rw[bZ];show done.length+1+b.length<=_;omega)
  refine⟨c,i,?_,by rw[iJ] at k;exact k⟩
  rw[List.foldl_cons,n];rw[bZ] at g;have g:b.foldl (Ah mask) (some (a.setIfInBounds j (some done.length),done.length+1))=some (c,done.length+1+b.length):=g;rw[g,cD]
  congr 2;omega
theorem Bw{mask:Nat}(f:v5 mask)(b:List Int)(room:b.length<=mask+1):∃a c,layClean mask b.toArray=some a/\Laid mask b a c:=by
 rfl';obtain⟨a,c,e,L⟩:=Ai f b [] _ _ (Fu mask) (by simpa using room)
 ac_rfl;refine⟨a,c,?_,by simpa using L⟩
 have:layClean mask b.toArray=(b.foldl (Ah mask) (some (Array.replicate (mask+1) none,0))).map (·.1):=by
  unfold layClean;rw[List.foldl_toArray];rfl
 have e:b.foldl (Ah mask) (some (Array.replicate (mask+1) none,0))=some (a,[].length+b.length):=e;rw[this,e];rfl
def eD(mask:Nat)(a:Array (Option Nat)):List (Nat×Nat):=(List.range (mask+1)).filterMap λj=>(a.getD j none).map (j,·)
theorem IJ{mask:Nat}{b:List Int}{a:Array (Option Nat)}{c:List Nat}(L:Laid mask b a c){j k:Nat}:(j,k)∈eD mask a↔c[k]? =some j:=by
 unfold eD;rw[zq108]
 have dflt:∀s,s<=mask->a.getD s none=a.getD s (some 0):=λs b=>by
  rw[vQ,vQ,qo (by rw[L.size];omega)];rfl
 constructor
 ·rintro⟨s,d,e⟩
  have d:=bT.mp d;rw[dflt s (by omega)] at e
  cases o:a.getD s (some 0) with
  |none=>rw[o] at e;cases e
  |some f=>
   rw[o] at e;have e:=Da e;have h:s=j:=(aat e).1;have i:f=k:=(aat e).2;rw[<-h,<-i];exact(L.get s (by omega) f).mp o
 ·intro e
  have g:=L.le j (dA e);refine⟨j,bT.mpr (by omega),?_⟩
  rw[dflt j g,(L.get j g k).mpr e];rfl
theorem Fz(mask:Nat)(c:Array (Option Nat)):((eD mask c).map (·.1)).Pairwise (·<·):=by
 unfold eD;rw[gY,List.pairwise_filterMap];refine AR.imp λ {a b} h x d y e=>?_;cases f:c.getD a none with
 |none=>rw[f] at d;cases d
 |some i=>
  cases g:c.getD b none with
  |none=>rw[g] at e;cases e
  |some j=>
   rw[f] at d;rw[g] at e;cases(Da d);cases(Da e);exact h
theorem Lb{mask:Nat}(f:v5 mask)(l:List Int)(room:l.length<=mask)(finger moves:Nat)(led plain:Bool):
  ∃t g,laid mask finger moves led plain l.toArray=some (t,g)/\t.mask=mask/\t.led=led/\t.plain=plain/\t.moves=moves/\g.toList.Perm (List.range l.length)/\TOk t (g.toList.map λk=>l.getD k 0):=by
 rfl';obtain⟨d,u,e,L⟩:=Bw f l (by omega)
 have m:=λ {j k:Nat}=>IJ (j:=j) (k:=k) L;have v:=Fz mask d;ac_rfl
 have G:((eD mask d).map (·.2)).Nodup:=by
  rw[oJ,gY];rw[gY] at v;refine v.imp_of_mem λ {a b} H q r z=>?_;obtain⟨I,J⟩:=a;obtain⟨M,bk⟩:=b;have A:=m.mp H;have N:=m.mp q;have z:J=bk:=z;rw[z,N] at A
  have:=Da A
  have r:I<M:=r;omega
 have perm:((eD mask d).map (·.2)).Perm (List.range l.length):=by
  refine(qm G rE).mpr λk=>?_;rw[aZ,bT]
  constructor
  ·rintro⟨⟨j,k'⟩,h,rfl⟩
   have:=(di.mp (m.mp h)).1
   rw[L.len] at this;exact this
  ·intro n
   have O:k<u.length:=by rw[L.len];exact n
   exact⟨(u[k],k),m.mpr (bJ O),rfl⟩
 have Q:(eD mask d).length=l.length:=by
  have:=perm.length_eq
  simpa using this
 refine⟨{mask,place:=((eD mask d).map (·.1)).toArray,dummies:= #[],finger,led,moves,plain},((eD mask d).map (·.2)).toArray,?_,rfl,rfl,rfl,rfl,by simpa using perm,?_⟩
 ·unfold laid
  rw[e];rfl
 have w:∀(i j:Nat),((eD mask d).map (·.1)).toArray[i]? =some j↔∃k,(eD mask d)[i]? =some (j,k):=λi j=>by
  rw[List.getElem?_toArray,bQ];cases o:(eD mask d)[i]? with
  |none=>simp
  |some x=>
   obtain⟨a,b⟩:=x;simp
 have y:∀s,s∈u->∃i:Nat,((eD mask d).map (·.1)).toArray[i]? =some s:=λs R=>by
  obtain⟨k,n⟩:=vU R;obtain⟨i,p⟩:=vU (m.mpr n);exact⟨i,(w i s).mpr ⟨k,p⟩⟩
 refine⟨f,rfl,?_,?_,?_,?_,?_⟩
 ·intro a b q r
  have q:b<((eD mask d).map (·.1)).length:=q
  have:=Et.mp v a b (by omega) q r
  simp[show a<(eD mask d).length by simpa using(show a<((eD mask d).map (·.1)).length by omega),show b<(eD mask d).length by simpa using q]
  simpa using this
 ·simp
 ·intro i j h
  obtain⟨k,n⟩:=(w i j).mp h;exact L.le j (dA (m.mp (dA n)))
 ·show((eD mask d).map (·.1)).toArray.size<=mask
  simp[Q];exact room
 ·intro i B p
  rw[bQ] at p;cases o:(eD mask d)[i]? with
  |none=>
   have:(((eD mask d).map (·.2)).toArray.toList)[i]? =none:=by simp[o]
   rw[this] at p;cases p
  |some x=>
   obtain⟨j,k⟩:=x;have S:(((eD mask d).map (·.2)).toArray.toList)[i]? =some k:=by simp[o]
   rw[S] at p;have C:=m.mp (dA o);have n:k<l.length:=by rw[<-L.len];exact(di.mp C).1
   have T:l[k]? =some B:=by
    rw[<-Da p];show _=some (l.getD k 0);rw[bB,bJ n];rfl
   obtain⟨c,E,U⟩:=L.path k B T;rw[C] at E;refine⟨c,(w i _).mpr ⟨k,by rw[o,Da E]⟩,λX Y=>y _ (U X Y)⟩
end PySem.SetTable
namespace PySem
open SetTable PyProof.Rows
def cI(w:World):Bool:=w.params.followText "set-order"
structure fM (bt:Bool) (o:Obj) (es:Array (Int×Value)) (ep:Nat) (t:SetTable):Prop where
 ex:o.ExactSet
 dat:o.data= .set es ep t
 tok:TOk t (es.toList.map (·.1))
 pl:t.plain=true
 ld:t.led= !bt
 few:5*es.size<3*t.mask
theorem TOk.fits(T:TOk t a):t.fits a.length=true:=by
 simp only[SetTable.fits,SetTable.fill,T.dum,T.size,v3,aco,acx,true_and]
 have:=T.room
 rw[T.size] at this;simpa using this
theorem fM.fits(S:fM w o a b t):t.fits a.size=true:=by
 have:=TOk.fits S.tok
 simpa using this
theorem z4{mask n:Nat}(f:v5 mask)(h:5*n<3*mask):n+1<=mask:=by
 rcases f with rfl|rfl|rfl|rfl<;>omega
theorem Fx(T:TOk t (f.toList.map (·.1)))(few:5*f.size<3*t.mask)(h:Int)(x:Value):
  ∃p g,layNew t f h x=(SetTable.insertAt f p (h,x),g,false,false)/\TOk g ((SetTable.insertAt f p (h,x)).toList.map (·.1))/\g.mask=t.mask/\g.plain=t.plain/\g.led=t.led:=by
 obtain⟨d,_,a,b⟩:=TOk.probe T (λ_=>h+1) h 0;obtain⟨m,n⟩:=b.resolve_right (λ⟨i,_,c,_⟩=>by have c:h+1=h:=c;omega)
 have fs:t.freeSlot h=some (bN t.mask h d,false):=by
  unfold SetTable.freeSlot;rw[Ju,show wB t.mask h=qK t.mask h 0 from rfl,n];rfl
 have sz:t.place.size=f.size:=by rw[T.size];simp
 obtain⟨o,u,j⟩:=TOk.put T (h:=h) (k:=d) m (λq r=>let ⟨i,s,_⟩:=a q (dS _) r;⟨i,s⟩) (by rw[sz];exact z4 T.few few)
 have e:(SetTable.insertAt f (below t.place (bN t.mask h d)) (h,x)).toList.map (·.1)=(f.toList.map (·.1)).take (below t.place (bN t.mask h d))++h::(f.toList.map (·.1)).drop (below t.place (bN t.mask h d)):=by
  rw[acE];simp
 rw[<-e] at j;refine⟨below t.place (bN t.mask h d),(t.put (bN t.mask h d)).1,?_,j,rfl,rfl,rfl⟩
 have l:(t.put (bN t.mask h d)).1.fits (SetTable.insertAt f (below t.place (bN t.mask h d)) (h,x)).size=true:=by
  have:=TOk.fits j
  rw[aD,iF] at this;exact this
 unfold layNew;rw[fs];show(SetTable.insertAt f (t.put (bN t.mask h d)).2 (h,x),(t.put (bN t.mask h d)).1.orStandIn (SetTable.insertAt f (t.put (bN t.mask h d)).2 (h,x)).size,false,!(t.put (bN t.mask h d)).1.fits (SetTable.insertAt f (t.put (bN t.mask h d)).2 (h,x)).size)=_;rw[o];unfold SetTable.orStandIn;rw[tz l,l];rfl
theorem E5{mask n:Nat}(f:v5 mask)(a:3*mask<=5*n)(b:5*(n-1)<3*mask)(c:n<=306):v5 (sizeAbove (grown n)-1)/\5*n<3*(sizeAbove (grown n)-1)/\n<=sizeAbove (grown n)-1/\sizeAbove (grown n)<=512:=by
 rcases f with rfl|rfl|rfl|rfl
 ·have:n=5:=by omega
  subst this;exact⟨.inr (.inl rfl),by decide,by decide,by decide⟩
 ·have:n=19:=by omega
  subst this;exact⟨.inr (.inr (.inl rfl)),by decide,by decide,by decide⟩
 ·have:n=77:=by omega
  subst this;exact⟨.inr (.inr (.inr rfl)),by decide,by decide,by decide⟩
 ·omega
theorem yL{t:SetTable}{c:Array (Int×Value)}(T:TOk t (c.toList.map (·.1)))(d:t.tooFull=true)(near:5*(c.size-1)<3*t.mask)(small:c.size<=306):
  ∃f a,t.relaid (c.map (·.1)) (grown c.size)=some (f,a)/\a.toList.Perm (List.range c.size)/\(a.filterMap (c[·]?)).toList.Perm c.toList/\(a.filterMap (c[·]?)).size=c.size/\
   TOk f ((a.filterMap (c[·]?)).toList.map (·.1))/\f.plain=t.plain/\f.led=t.led/\5*c.size<3*f.mask/\sizeAbove (grown c.size)<=512:=by
 have sz:t.place.size=c.size:=by rw[T.size];simp
 have m:3*t.mask<=5*c.size:=by
  unfold SetTable.tooFull SetTable.fill at d;rw[T.dum,sz] at d;simp at d;omega
 rfl';obtain⟨o,p,q,r⟩:=E5 T.few m near small;obtain⟨f,a,e,em,s,u,_,g,v⟩:=Lb o (c.toList.map (·.1)) (by simpa using q) t.finger (t.movedTo (sizeAbove (grown c.size)-1)) t.led t.plain
 rw[aD,iF] at g;ac_rfl
 have i:(a.filterMap (c[·]?)).toList.Perm c.toList:=by
  rw[ad3];exact(g.filterMap _).trans (by rw[filterMap_getElem?_range])
 have w:(a.filterMap (c[·]?)).size=c.size:=by rw[<-iF,i.length_eq,iF]
 refine⟨f,a,?_,g,i,w,?_,u,s,by rw[em];exact p,r⟩
 ·unfold SetTable.relaid
  rw[show c.map (·.1)=(c.toList.map (·.1)).toArray by apply Array.toList_inj.mp;simp]
  exact e
 ·have:(a.filterMap (c[·]?)).toList.map (·.1)=a.toList.map λk=>(c.toList.map (·.1)).getD k 0:=by
   rw[ad3];have lt:∀k∈a.toList,k<c.size:=λk h=>bT.mp (g.mem_iff.mp h);generalize a.toList=l at lt
   induction l with
   |nil=>rfl
   |cons k l x=>
    have h:=lt k (bE ..);rw[List.filterMap_cons_some (b:=c[k]) (by simp[h]),dD,dD,x λj y=>lt j (bV _ y)]
    simp[h]
  rw[this];exact v
theorem BL(T:TOk t (b.toList.map (·.1)))(f:t.tooFull=true)(near:5*(b.size-1)<3*t.mask)(small:b.size<=306):
  ∃g d,relayAll t b (grown b.size)=(g,d,false)/\g.toList.Perm b.toList/\TOk d (g.toList.map (·.1))/\d.plain=t.plain/\d.led=t.led/\5*b.size<3*d.mask:=by
 rfl';obtain⟨d,a,e,j,k,q,h,l,m,n,_⟩:=yL T f near small;ac_rfl;refine⟨_,d,?_,k,h,l,m,n⟩;unfold relayAll;rw[e];dsimp only;have c:coversAll a b.size=true:=List.isPerm_iff.mpr j
 have o:d.fits (a.filterMap (b[·]?)).size=true:=by
  have:=TOk.fits h
  rw[aD,iF] at this;exact this
 rw[c,o];rfl
end PySem
set_option maxHeartbeats 1000000
namespace PySem
open SetTable PyProof.Rows
section
variable {prog:Program} {w:World} {A:Around} {E:Value->Shared->Prop} {s:Shared}
theorem lu{h:Heap}{a:Addr}{o:Obj}{f:Array (Int×Value)}{d:Nat}{t:SetTable}(g:h.get? a=some o)(e:o.data= .set f d t)(b:Array (Int×Value))(c:SetTable):
  (h.update a (Obj.putSet b c)).get? a=some {o with data:= .set b (d+1) c}:=by
 have:=Pi (Obj.putSet b c) g (by rw[putSet_of b c e];rfl)
 rw[putSet_of b c e] at this;exact this
theorem BX(h:s.heap.get? a=some o)(S:fM (cI w) o b Y t)(B:ElemsOf (intKind prog w) b.toList)
  (C:(intKind prog w).is k x=true) (room:b.size<=305)
  (Z:(∃e∈b.toList,(intKind prog w).is k e.2=true)->Q false s)
  (F:¬(∃e∈b.toList,(intKind prog w).is k e.2=true)->∀n G H uF t',Heap.SameBut a s.heap n->n.get? a=some G->fM (cI w) G H uF t'->H.toList.Perm (b.toList++ [((intKind prog w).hash k,x)])->Q true {s with heap:=n}):
  wpAny (model prog w) A (setAddHashed a x ((intKind prog w).hash k)) Q E s:=by
 have i:=S.dat;have I:=S.fits;obtain⟨d,rfl⟩:=adx C;have J:(Value.int k d).scannable=true:=rfl;have hb:b.size<scanBound:=by show b.size<4096;omega
 unfold setAddHashed setAddHashedIn;refine KF (be (On h i I ?_));dsimp only;rw[byScan_of J hb B];simp only[↓reduceIte];unfold setAddByScan;refine be ?_;refine be (aed ?_);refine be (wpAny_setScan_of C h i I B ?_);cases L:List.findIdx? (λe=>(intKind prog w).is k e.2) b.toList with
 |some j=>
  dsimp only;obtain⟨hj,q,_⟩:=List.findIdx?_eq_some_iff_getElem.mp L;exact ir (ir (Z ⟨b.toList[j],g5 hj,q⟩))
 |none=>
  dsimp only
  have M:¬∃e∈b.toList,(intKind prog w).is k e.2=true:=by
   rintro⟨e,he,hp⟩
   have:=List.findIdx?_eq_none_iff.mp L e he
   rw[hp] at this;exact Bool.noConfusion this
  rfl';obtain⟨p,f,eL,l,m1,u,N⟩:=Fx S.tok S.few ((intKind prog w).hash k) (.int k d);ac_rfl;rw[eL];dsimp only;refine be (ir ?_);rw[show f.plain=true by rw[u];exact S.pl]
  simp only[↓reduceIte];refine be ?_;rw[hashByValue_scannable 8 J];refine ir ?_;simp only[plainKind, ↓reduceIte];have g:(SetTable.insertAt b p ((intKind prog w).hash k,Value.int k d)).size=b.size+1:=SetTable.fW ..;have v:=acU b p ((intKind prog w).hash k,Value.int k d);rw[adA] at v;refine be (acN h i ?_ (by rw[g];refine acO ?_;show b.size+1<4096;omega))
  have y:=lu h i (SetTable.insertAt b p ((intKind prog w).hash k,Value.int k d)) f;have O:=Wp s.heap a (Obj.putSet (SetTable.insertAt b p ((intKind prog w).hash k,Value.int k d)) f)
  by_cases c:f.tooFull=true
  ·rw[c]
   simp only[aea,Bool.and_true, ↓reduceIte];rfl';obtain⟨z,R,eR,T,T2,p2,l2,U⟩:=BL l c (by rw[g,m1];have:=S.few;omega) (by rw[g];omega)
   ac_rfl;rw[eR];dsimp only;have X:z.size=b.size+1:=by rw[<-iF,T.length_eq,iF,g]
   refine be (ir ?_);refine be (acN y rfl ?_ (by rw[X];refine acO ?_;show b.size+1<4096;omega))
   have rV:=lu y rfl z R;refine ir (ir (F M _ _ z _ R (O.trans (Wp _ a _)) rV ⟨S.ex,rfl,T2,by rw[p2,u];exact S.pl,by rw[l2,N];exact S.ld,by rw[X];rw[g] at U;exact U⟩ (T.trans v)))
  ·have m:f.tooFull=false:=by simpa using c
   rw[m];simp only[aea,ad9,gX, ↓reduceIte];refine ir (ir (F M _ _ _ _ f O y ⟨S.ex,rfl,l,by rw[u];exact S.pl,by rw[N];exact S.ld,?_⟩ v))
   unfold SetTable.tooFull SetTable.fill at m;rw[l.dum,l.size] at m;simp at m;omega
theorem xC{Q₁:Value->Shared->Prop}
  (h:Q₁ (.ref s.heap.objs.size) {s with heap:=s.heap.push {cls:= .type "set",dict:=none,data:= .set #[] 0 (.fresh 0 0 (!cI w))}}):
  codeAny (model prog w) A (.call (.builtin "set.__new__") ⟨[.type "set"],[]⟩) (wants Q₁ E) s:=by
 refine adS ?_;refine be (acy F.newCall_set_0 (ir ⟨acf F.plain_set_new _,UV F.entry_set_new ?_⟩));rw[SC F.plain_set_new _];unfold Builtin.«set.__new__» Builtin.Frozenset.newClass;have a:=sub_set_self;obtain⟨b,g,d,c,os⟩:=s;dsimp only
 wp_walk
 refine acq (ir ?_);dsimp only;simp only[newObj];refine be (wpAny_alloc (ir ?_));exact ir h
theorem sS 
  (h:Q (.ref s.heap.objs.size) {s with heap:=s.heap.push {cls:= .type "set",dict:=none,data:= .set #[] 0 (.fresh 0 0 (!cI w))}}):
  wpAny (model prog w) A (call (.type "set") []) Q E s:=by
 obtain⟨c,t,i⟩:=F.called_set.mro;have j:=F.called_set.made;have u:=F.called_set.sub;refine wpAny_call (adS ?_);show wpAny _ _ (callAny (.type "set") _) _ _ _;refine ir ⟨Code.quiet_builtin _ (by decide+kernel),UV F.entry_type_call ?_⟩
 rw[Around.under_plain (weight_type_call_type "set" [] []) rfl];have v:=F.called_set.notType;have x:=F.called_set.canCreate;have k:=F.typeCall_set_0
 repeat (any_goals (first|assumption|wp_step))
 refine acA (xC (E:=E) (Q₁:=λobj a=>obj= .ref s.heap.objs.size/\a={s with heap:=s.heap.push {cls:= .type "set",dict:=none,data:= .set #[] 0 (.fresh 0 0 (!cI w))}}) ⟨rfl,rfl⟩) λr a b=>?_
 cases r with
 |error e=>exact b
 |ok l=>
  cases l with
  |ret obj=>
   obtain⟨rfl,rfl⟩:=b;have m:(s.heap.push {cls:= .type "set",dict:=none,data:= .set #[] 0 (.fresh 0 0 (!cI w))}).get? s.heap.objs.size=some {cls:= .type "set",dict:=none,data:= .set #[] 0 (.fresh 0 0 (!cI w))}:=Gc _ rfl;have n:Shared.TypeIs {s with heap:=s.heap.push {cls:= .type "set",dict:=none,data:= .set #[] 0 (.fresh 0 0 (!cI w))}} (.ref s.heap.objs.size) "set":=⟨_,m,rfl⟩
   have o:=F.called_set.init.lookup;have p:=F.called_set.init.bind (.ref s.heap.objs.size)
   repeat (any_goals (first|assumption|wp_step))
   refine acA (codeAny_call_builtin (R:=wants (λr g=>r= .none/\Q (.ref s.heap.objs.size) g) E) F.called_set.init.plain F.entry_set_init (check_set_init n ?_)) λd g f=>?_
   ·unfold Builtin.«set.__init__» noKeywords
    wp_walk
    exact⟨rfl,h⟩
   ·cases d with
    |error e=>exact f
    |ok q=>
     cases q with
     |ret r=>
      obtain⟨rfl,y⟩:=f
      repeat (any_goals (first|assumption|wp_step))
     |_=>exact f.elim
  |_=>exact b.elim
theorem fM.new(w:World):fM (cI w) {cls:= .type "set",dict:=none,data:= .set #[] 0 (.fresh 0 0 (!cI w))} #[] 0 (.fresh 0 0 (!cI w)) where
 ex:=⟨rfl,rfl,rfl⟩
 dat:=rfl
 tok:=⟨.inl rfl,rfl,λi j a=>by simp[SetTable.fresh] at a,rfl,λi j h=>by simp[SetTable.fresh] at h,by simp[SetTable.fresh],λi h e=>by simp at e⟩
 pl:=rfl
 ld:=rfl
 few:=by simp[SetTable.fresh]
end
namespace F
theorem we:entryFor table "set.__iter__"=some Builtin.«frozenset.__iter__»:=
 entryFor_alias (id':="frozenset.__iter__") (by kernel_rfl) rfl (by decide+kernel) (by kernel_rfl)
theorem jH:Manifest.owners.lookup (String.ofList ['r','o','t','a','r','e','t','i','_','t','e','s'].reverse)=some Manifest.sig_set_iterator:=by kernel_rfl
theorem bS:Slot "set_iterator" "__next__" "set_iterator.__next__":=
 .of (owner:="set_iterator") (n:="__next__") (by rw[typeLookup_type,builtinLookup_eq_fast];kernel_rfl) (by decide+kernel) (by decide+kernel) (by decide+kernel)
  (by first|exact .inl (by decide+kernel) |exact .inr (by decide+kernel)) (by rw[isSubtype_type];kernel_rfl)
theorem gF:entryFor table "set_iterator.__next__"=some Builtin.«set_iterator.__next__»:=entryFor_of_tree (by kernel_rfl)
theorem gy(a:Value):argsOk "set_iterator.__next__" ⟨[a],[]⟩:=by
 unfold argsOk;rw[signature?_of (id:="set_iterator.__next__") (n:= ['_','_','t','x','e','n','_','_']) (o:= ['r','o','t','a','r','e','t','i','_','t','e','s']) (by kernel_rfl) jH];kernel_rfl
theorem gU:Slot "set_iterator" "__iter__" "set_iterator.__iter__":=
 .of (owner:="set_iterator") (n:="__iter__") (by rw[typeLookup_type,builtinLookup_eq_fast];kernel_rfl) (by decide+kernel) (by decide+kernel) (by decide+kernel)
  (by first|exact .inl (by decide+kernel) |exact .inr (by decide+kernel)) (by rw[isSubtype_type];kernel_rfl)
theorem lO:entryFor table "set_iterator.__iter__"=some Builtin.«dict_keyiterator.__iter__»:=
 entryFor_alias (id':="dict_keyiterator.__iter__") (by kernel_rfl) rfl (by decide+kernel) (by kernel_rfl)
theorem kH(a:Value):argsOk "set_iterator.__iter__" ⟨[a],[]⟩:=by
 unfold argsOk;rw[signature?_of (id:="set_iterator.__iter__") (n:= ['_','_','r','e','t','i','_','_']) (o:= ['r','o','t','a','r','e','t','i','_','t','e','s']) (by kernel_rfl) jH];kernel_rfl
end F
theorem vI:∀(l:List a)(i:Nat)(h:i<l.length),(l[i]::l.eraseIdx i).Perm l
 |y::l,0,_=> .refl _
 |y::l,i+1,h=>by
  have:=vI l i (by simpa using h)
  simp only[List.getElem_cons_succ,B0];exact(List.Perm.swap ..).trans (this.cons y)
theorem D0(next:Nat->Nat):∀(a k:Nat)(left:List b)(out:Array b),left.length<=a->(pickOrder.go next a k left out).toList.Perm (out.toList++left)
 |0,k,left,out,h=>by
  have:left= []:=acM.mp (by omega)
  subst this;simp[pickOrder.go]
 |a+1,k,[],out,h=>by
  simp[pickOrder.go]
 |a+1,k,y::left,out,h=>by
  have lt:next k%(y::left).length<(y::left).length:=qv _ (by simp)
  unfold pickOrder.go;rw[bJ lt];dsimp only;refine(D0 next a (k+1) _ _ (by rw[List.length_eraseIdx_of_lt lt];simp at h ⊢;omega)).trans ?_
  rw[adA,iJ];refine acm _ ?_;exact vI _ _ lt
def fZ(w:World)(a:Addr)(c:Nat)(b:Array (Int×Value)):Array (Int×Value):=if cI w=true then pickOrder (w.params.setOrder a c) b else b
theorem yF(w:World)(a:Addr)(c:Nat)(b:Array (Int×Value)):(fZ w a c b).toList.Perm b.toList:=by
 unfold fZ
 split
 ·unfold pickOrder
  simpa using D0 (w.params.setOrder a c) b.size 0 b.toList #[] (by simp)
 ·exact .refl _
theorem kq(w:World)(a:Addr)(c:Nat)(b:Array (Int×Value)):(fZ w a c b).size=b.size:=by
 rw[<-iF,(yF w a c b).length_eq,iF]
def eF(w:World)(t:SetTable)(i:Nat):Nat:=if cI w=true then 0 else if i=0 then 0 else t.place[i-1]! +1
section
variable {prog:Program} {w:World} {A:Around} {E:Value->Shared->Prop} {s:Shared}
theorem Cu(T:TOk t a)(d:cI w=false){i:Nat}(f:i<=a.length):below t.place (eF w t i)=i:=by
 have sz:=T.size;obtain⟨g,c,e⟩:=jc T.rise (eF w t i);unfold eF at*;rw[mo (by rw[d];exact cw)] at*
 by_cases z:i=0
 ·rw[tz z] at*
  rcases Nat.eq_zero_or_pos (below t.place 0) with h|h
  ·rw[h,z]
  ·exact absurd (c 0 h) (adT _)
 ·rw[mo z] at*
  generalize below t.place (t.place[i-1]! +1)=b at*
  rcases adB b i with h|h|h
  ·have:=e (i-1) (by omega) (by omega)
   omega
  ·exact h
  ·have:=c i h
   have:=T.rise (i-1) i (by omega) (by omega)
   omega
theorem m6(f:s.heap.get? a=some o)(S:fM (cI w) o c d t)(k:i<=c.size)
  (h:Q (((fZ w a d c)[i]?).map λe=>(e.2,eF w t (i+1))) s):wpAny (model prog w) A (setNext a (eF w t i) i d) Q E s:=by
 have g:=S.dat;have j:=S.fits;unfold setNext;refine be (On f g j ?_);dsimp only;unfold setsByText;refine be (be (acq (ir ?_)));cases b:cI w with
 |true=>
  refine adk (GE (show w.params.followText "set-order"=true from b)) ?_;rw[mo (by simp)]
  unfold setWalk setsByText;refine be (be (On f g j ?_));dsimp only;refine be (be (acq (ir ?_)));refine adk (GE (show w.params.followText "set-order"=true from b)) ?_;refine be (acq (ir (ir ?_)));unfold fZ eF at h;rw[tz b,tz b] at h;unfold eF;rw[tz b];exact h
 |false=>
  refine adb (FM (show ¬w.params.followText "set-order"=true from by rw[show w.params.followText "set-order"=false from b];exact cw)) ?_
  refine adb ?_ ?_
  ·refine FM ?_
   show ¬((!t.plain&&decide (c.size>1))=true);rw[S.pl];simp
  refine be ?_;show wpAny _ _ (if (!t.led&& !c.isEmpty)=true then _ else _) _ _ _;rw[mo (by rw[S.ld,b];simp)]
  refine ir ?_;have l:=Cu (w:=w) S.tok b (i:=i) (by simpa using k)
  rw[l];refine ir ?_;have sz:t.place.size=c.size:=by rw[S.tok.size];simp
  unfold fZ at h;rw[mo (by rw[b];exact cw)] at h
  by_cases lt:i<c.size
  ·have lp:i<t.place.size:=by omega
   rw[qo lt] at h ⊢;rw[qo lp];dsimp only
   have e:eF w t (i+1)=t.place[i]+1:=by
    unfold eF;rw[mo (by rw[b];exact cw),mo (by omega)]
    simp[lp]
   rw[Option.map_some,e] at h;exact h
  ·rw[B4 (by omega)] at h ⊢
   exact h
end
def iK(w:World)(h:Heap)(I a:Addr)(t:SetTable)(i n b:Nat):Prop:=
 ∃o,h.get? I=some o/\o.cls= .type "set_iterator"/\o.data= .fields #[.int (eF w t i:Nat) 0, .int i 0, .ref a, .int n 0, .int b 0]
section
variable {prog:Program} {w:World} {A:Around} {E:Value->Shared->Prop} {s:Shared}
theorem iK.typeIs(x:iK w s.heap I a t i n b):s.TypeIs (.ref I) "set_iterator":=let ⟨o,c,d,_⟩:=x;⟨o,c,d⟩
theorem uf(b:s.heap.get? a=some o)(S:fM (cI w) o c g t)
  (h:Q (.ref s.heap.objs.size) {s with heap:=s.heap.push {cls:= .type "set_iterator",data:= .fields #[.int (eF w t 0:Nat) 0, .int (0:Nat) 0, .ref a, .int c.size 0, .int g 0]}}):
  wpAny (model prog w) A (pyIter (.ref a)) Q E s:=by
 have d:=S.dat;have f:=S.fits;have i:s.TypeIs (.ref a) "set":=⟨o,b,S.ex.1⟩;refine wpAny_pyIter_slot i F.slot_set_iter (SB F.slot_set_iter i F.we ?_ (F.args_set_iter_1 _));unfold Builtin.«frozenset.__iter__» Builtin.Frozenset.slot0 slotArgs;simp only[ac1,acZ,gX, ↓reduceIte,bind_assoc,jq,bne_self_eq_false];unfold Builtin.Frozenset.addrOf Builtin.Frozenset.sizeOf;refine be (ir ?_)
 try dsimp only
 refine be (ir ?_);refine be (be (adj b d f (ir ?_)));unfold setDrawn setsByText;refine be (be (On b d f ?_));dsimp only;refine be (be (acq (ir ?_)));refine ir ?_;refine adb ?_ ?_
 ·refine FM ?_
  show ¬((!w.params.followText "set-order"&&(!t.plain&&decide (c.size>1)))=true);rw[S.pl];simp
 refine be (ir ?_);refine be ?_;unfold setEpoch;refine be (On b d f (ir ?_));refine be (KM (ir ⟨_,rfl,"set_iterator",_,⟨_,Gc _ rfl,rfl⟩,F.bS.lookup,?_⟩));have e:eF w t 0=0:=by unfold eF;simp
 rw[e] at h;exact h
theorem ug(b:iK w s.heap I a t i c.size d)(j:s.heap.get? a=some o)(S:fM (cI w) o c d t)
  (k:(fZ w a d c)[i]? =some x) (n:∀f,iK w f I a t (i+1) c.size d->Heap.SameBut I s.heap f->Q (some x.2) {s with heap:=f}):wpAny (model prog w) A (pyNext (.ref I)) Q E s:=by
 obtain⟨u,g,p,e⟩:=id b
 have q:i<c.size:=by
  have:=(AN.mp k).1
  rwa [kq] at this
 unfold pyNext
 refine be (wpAny_attempt (acL (name:=Str.ofString "__next__") b.typeIs F.bS
  (SB F.bS b.typeIs F.gF ?_ (F.gy _))))
 unfold Builtin.«set_iterator.__next__»;refine be (m:=slotArgs "__next__" 0 _) (ir ?_);refine be (wpAny_fieldsOf g e ?_);dsimp only;refine be (adj j S.dat S.fits ?_);rw[mo (by simp)]
 refine be ?_;rw[ui,ui,ui];refine m6 j S (vh q) ?_;rw[k];dsimp only[Option.map_some];refine be (aeb g e (by simp) ?_)
 have l:=Pi (Obj.mapFields (·.setIfInBounds 0 (rawInt (eF w t (i+1):Nat)))) g (Obj.isFreed_of_fields (acF e _));have h:=acF e (·.setIfInBounds 0 (rawInt (eF w t (i+1):Nat)));refine be (aeb l h (by simp) ?_)
 have r:=Pi (Obj.mapFields (·.setIfInBounds 1 (rawInt ((i:Int)+1)))) l (Obj.isFreed_of_fields (acF h _));refine ir ⟨_,rfl,ir (n _ ⟨_,r,?_,?_⟩ ((Wp ..).trans (Wp ..)))⟩
 ·exact(Obj.cls_mapFields ..).trans ((Obj.cls_mapFields ..).trans p)
 ·rw[acF h];simp[rawInt]
theorem oO(j:A.handled=none)(c:iK w s.heap I a t d.size d.size e)(f:s.heap.get? a=some o)(S:fM (cI w) o d e t)
  (k:∀g,Heap.ExtBut I s.heap g->Q none {s with heap:=g}):wpAny (model prog w) A (pyNext (.ref I)) Q E s:=by
 obtain⟨l,h,n,i⟩:=id c;unfold pyNext
 refine be (wpAny_attempt (acL (name:=Str.ofString "__next__") c.typeIs F.bS
  (SB F.bS c.typeIs F.gF ?_ (F.gy _))))
 unfold Builtin.«set_iterator.__next__»;refine be (m:=slotArgs "__next__" 0 _) (ir ?_);refine be (wpAny_fieldsOf h i ?_);dsimp only;refine be (adj f S.dat S.fits ?_);rw[mo (by simp)]
 refine be ?_;rw[ui,ui,ui];refine m6 f S (bH _) ?_;rw[B4 (by rw[kq];exact bH _)]
 dsimp only[Option.map_none];refine be (aeb h i (by simp) ?_)
 show wpAny _ _ (newExc (.type "StopIteration") []>>=_) _ _ _;refine be ?_;simp only[newExc,newTuple];refine be (KM ?_ (by size_fits))
 refine be (m:=firstArgMember _ _) (acy (a:=Value.none) (by first|rfl| (simp only[firstArgMember];rfl)) ?_)
 refine KM ?_ (by size_fits)
 simp only[raiseNew];refine be (wpAny_handled ?_);rw[show A.in1.handled=none from j];refine be (ir (wpAny_throw ?_));refine be (wpAny_isInstance (T:="StopIteration") (b:=true) ⟨_,Gc _ rfl,rfl⟩ isSubtype_stop ?_);exact ir (k _ (((Wp ..).extBut.push _).push _))
theorem Walks.sets(p:A.handled=none)(I a:Addr)(q:a≠I)(S:fM (cI w) o c f t):
  Walks prog w A I [I,a] [I] c.size (λi v=>∃x,(fZ w a f c)[i]? =some x/\v=x.2) (λi h=>iK w h I a t i c.size f/\h.get? a=some o) where
 sub:=λb d=>by simp at d;simp[d]
 frame:=λi h j st k=>⟨let ⟨u,y,r⟩:=st.1;⟨u,k I (by simp) _ y,r⟩,k a (by simp) _ st.2⟩
 item:=λi s Q E z st g=>by
  have l:(fZ w a f c)[i]? =some ((fZ w a f c)[i]'(by rw[kq];exact z)):=qo _
  refine ug st.1 st.2 S l λj B n=>?_;exact g _ j s.toks ⟨_,l,rfl⟩ ⟨B,(n.2 a q).trans st.2⟩ λb o d e=>n.extBut b o (λh=>d (by simp[h])) e
 done:=λs Q E st g=>oO p st.1 st.2 S λj C=>g j s.toks λb o d e=>C b o (λh=>d (by simp[h])) e
 self:=λi s Q E st g=>by
  refine wpAny_pyIter_slot st.1.typeIs F.gU (SB F.gU st.1.typeIs F.lO ?_ (F.kH _));unfold Builtin.«dict_keyiterator.__iter__»;refine be (m:=slotArgs "__iter__" 0 _) (ir ?_);exact ir ⟨_,rfl,"set_iterator",_,st.1.typeIs,F.bS.lookup,g⟩
end
section
variable {prog:Program} {w:World} {A:Around} {E:Value->Shared->Prop} {s:Shared}
theorem sM(hh:A.handled=none)(J:s.heap.get? a=some o)(S:fM (cI w) o c d t)
  (hQ:∀k tk,s.heap.objs.size<k.objs.size->(∀b o,s.heap.get? b=some o->k.get? b=some o)->Q ((fZ w a d c).toList.map (·.2)) {s with heap:=k,toks:=tk}) (hn:c.size<=sizeLine:=by size_fits):
  wpAny (model prog w) A (collect (.ref a)) Q E s:=by
 have m:a<s.heap.objs.size:=Fk J;unfold collect;refine be (wpAny_runValue (UV F.entry_proto_collect ?_));rw[SC F.plain_proto_collect _];show wpAny _ A.in1 (newList []>>=λl=>again (.builtin "list.__iadd__" ⟨[l, .ref a],[]⟩)) _ _ s;refine be (KM ?_);refine ir ⟨acf F.plain_list_iadd _,UV F.entry_list_iadd ?_⟩;rw[SC F.plain_list_iadd _];have n:(s.heap.push {cls:= .type "list",data:= .seq ([]:List Value).toArray}).get? a=some o:=AC _ J;show wpAny _ A.in1 (Builtin.List.listExtendWith (.ref s.heap.objs.size) (.ref a) (.ref s.heap.objs.size)) _ _ {s with heap:=s.heap.push {cls:= .type "list",data:= .seq ([]:List Value).toArray}}
 unfold Builtin.List.listExtendWith;have hT:Shared.TypeIs {s with heap:=s.heap.push {cls:= .type "list",data:= .seq ([]:List Value).toArray}} (.ref a) "set":=⟨o,n,S.ex.1⟩
 refine be (adH hT ?_);have h1:Builtin.List.listSameRef (.ref s.heap.objs.size) (.ref a)=false:=by simp[Builtin.List.listSameRef,adF m]
 have f:(Value.type "set"==Value.type "list")=false:=by decide
 have h3:(Value.type "set"==Value.type "tuple")=false:=by decide
 simp only[h1,f,h3,Bool.or_false,gX,P3];refine be (uf n S ?_);generalize L:(s.heap.push {cls:= .type "list",data:= .seq ([]:List Value).toArray}).objs.size=I;have p:I=s.heap.objs.size+1:=by rw[<-L,size_push']
 have q:a≠I:=by rw[p];exact cE (za m)
 have M:s.heap.objs.size≠I:=by rw[p];exact cE (zb _)
 have N:s.heap.objs.size≠a:=adF m;have r:((s.heap.push {cls:= .type "list",data:= .seq ([]:List Value).toArray}).push {cls:= .type "set_iterator",data:= .fields #[.int (eF w t 0:Nat) 0, .int (0:Nat) 0, .ref a, .int c.size 0, .int d 0]}).get? s.heap.objs.size=some {cls:= .type "list",data:= .seq ([]:List Value).toArray}:=AC _ (Gc _ rfl);have O:((s.heap.push {cls:= .type "list",data:= .seq ([]:List Value).toArray}).push {cls:= .type "set_iterator",data:= .fields #[.int (eF w t 0:Nat) 0, .int (0:Nat) 0, .ref a, .int c.size 0, .int d 0]}).get? I=some {cls:= .type "set_iterator",data:= .fields #[.int (eF w t 0:Nat) 0, .int (0:Nat) 0, .ref a, .int c.size 0, .int d 0]}:=by rw[<-L];exact Gc _ rfl
 have u:((s.heap.push {cls:= .type "list",data:= .seq ([]:List Value).toArray}).push {cls:= .type "set_iterator",data:= .fields #[.int (eF w t 0:Nat) 0, .int (0:Nat) 0, .ref a, .int c.size 0, .int d 0]}).get? a=some o:=AC _ n;have R:∀b o,s.heap.get? b=some o->((s.heap.push {cls:= .type "list",data:= .seq ([]:List Value).toArray}).push {cls:= .type "set_iterator",data:= .fields #[.int (eF w t 0:Nat) 0, .int (0:Nat) 0, .ref a, .int c.size 0, .int d 0]}).get? b=some o:=λb o e=>AC _ (AC _ e);generalize ((s.heap.push {cls:= .type "list",data:= .seq ([]:List Value).toArray}).push {cls:= .type "set_iterator",data:= .fields #[.int (eF w t 0:Nat) 0, .int (0:Nat) 0, .ref a, .int c.size 0, .int d 0]})=f at r O u R ⊢;have v:Shared.TypeIs {s with heap:=f} (.ref a) "set":=⟨o,u,S.ex.1⟩
 refine be (KF ?_);unfold Builtin.List.listLengthHint;refine be (adW v F.slot_set_len.lookup ?_)
 (generalize y:("set.__len__":String)=T;(fail_if_success (clear y T));wp_delta;rw[show splitId T=some ("set","__len__") from by subst y;decide+kernel];subst y)
 refine be (wpAny_isInstance (b:=true) v sub_set_self ?_);dsimp only;refine adb (by decide) ?_
 refine adk (by decide+kernel) ?_
 refine be (adH v ?_);refine ir ?_;refine adk (by decide+kernel) ?_
 refine be (aed ?_);refine be ?_;show wpAny _ A.in1 (updateSeq s.heap.objs.size (·.push .none)>>=λ_=>updateSeq s.heap.objs.size (·.pop)) _ _ _;refine be (acz r rfl ?_);have U:=Pi (Obj.mapSeq (·.push Value.none)) r rfl;refine acz U rfl ?_;have SD:=Pi (Obj.mapSeq (·.pop)) U rfl
 have z:∀b o,b≠s.heap.objs.size->f.get? b=some o->
   ((f.update s.heap.objs.size (Obj.mapSeq (·.push Value.none))).update s.heap.objs.size (Obj.mapSeq (·.pop))).get? b=some o:=
  λb o g e=>(KB _ _ (Ne.symm g)).trans ((KB _ _ (Ne.symm g)).trans e)
 have W:=(Walks.sets (prog:=prog) (A:=A.in1) hh I a q S).toS;have B:s.heap.objs.size∉ [I,a]:=by simp[M,N]
 refine ir ⟨acf F.plain_extend_loop _,codeAny_extend_loopS W hn _ B _ c.size 0 _ _ _ rfl (dS _)
  ⟨⟨_,z _ _ (Ne.symm M) O,rfl,rfl⟩,z _ _ (Ne.symm N) u⟩ SD (ItemsOf.nil _) λh i c' X Y Z=>?_⟩
 show wpAny _ A (load s.heap.objs.size>>=_) _ _ h;refine be (wpAny_load Y ?_)
 have gM:h={s with heap:=h.heap,toks:=h.toks}:=by
  obtain⟨lP,g',d',tk',TQ⟩:=h;obtain⟨_,C,G,H,_⟩:=X;have C:g'=s.gens:=C;have G:d'=s.drawn:=G;have H:TQ=s.os:=H;subst C G H;rfl
 have ea:i.toList=(fZ w a d c).toList.map (·.2):=by
  refine rA λj=>?_;rw[kG,bQ,kG];have sz:i.size=(fZ w a d c).size:=by rw[Z.1,kq]
  by_cases lt:j<i.size
  ·obtain⟨x,hx,hv⟩:=Z.2 j i[j] (qo lt)
   rw[hx,qo lt,hv];rfl
  ·rw[B4 (by omega),B4 (by omega)];rfl
 rw[gM];show wpAny _ _ (pure i.toList) Q E _;rw[ea];refine ir (hQ _ _ (Fk Y) λb o e=>?_);have g:=Fk e;have b1:b≠s.heap.objs.size:=cE g;have b2:b≠I:=by rw[p];exact cE (za g)
 exact X.heap b o (by simp[b1,b2]) (z b o b1 (R b o e))
theorem ya(p:k.Perm j):∀{e:List Int},IntsAre j e->∃f,IntsAre k f/\f.Perm e:=by
 induction p with
 |nil=>intro e h;exact⟨e,h, .refl _⟩
 |cons x _ o=>
  intro e h;cases h with
  |cons n t h=>
   obtain⟨f,a,b⟩:=o h;exact⟨n::f, .cons n t a,b.cons n⟩
 |swap x y l=>
  intro e h;cases h with
  |cons n t h=>
   cases h with
   |cons m u h=>exact⟨_, .cons m u (.cons n t h), .swap ..⟩
 |trans _ _ g i=>
  intro e h;obtain⟨f,a,b⟩:=i h;obtain⟨q,c,d⟩:=g a;exact⟨q,c,d.trans b⟩
theorem Eb(z:A.handled=none)(B:s.heap.get? a=some o)(S:fM (cI w) o d f t)(C:IntsAre (d.toList.map (·.2)) i)(j:d.size<64)
  (h:∀k F q (out:Array Value) (e:Nat) (g:List Int),(∀b o,s.heap.get? b=some o->k.get? b=some o)->s.heap.objs.size<=q->k.get? q=some {cls:= .type "list",data:= .seq out e}->IntsAre out.toList g->g.Perm i->g.Pairwise (·<=·)->Q (.ref q) {s with heap:=k,toks:=F}):
  wpAny (model prog w) A (call (.builtin "sorted") [.ref a]) Q E s:=by
 have G:=(yF w a f d).map (λe:Int×Value=>e.2);obtain⟨l,H,I⟩:∃l,IntsAre ((fZ w a f d).toList.map (·.2)) l/\l.Perm i:=ya G C;have sz:((fZ w a f d).toList.map (·.2)).length=d.size:=by rw[aD,iF,kq]
 refine adD kind_sorted plain_sorted entry_sorted (args_sorted1 _) ?_;unfold Builtin.«sorted»;refine be (m:=checkCount "sorted" 1 1 _) (ir ?_);have v:64<=sizeLine:=by decide
 refine be (sM z B S (λc T n p=>?_) (by omega))
 refine be (aee ?_ (by rw[sz];omega))
 have r:(c.push (seqObj "list" ((fZ w a f d).toList.map (·.2)).toArray 0)).get? c.objs.size=some (seqObj "list" ((fZ w a f d).toList.map (·.2)).toArray 0):=Gc _ rfl;refine be (KF (SB slot_list_sort ⟨_,r,rfl⟩ entry_list_sort (list_sort_tree r H (by rw[sz];exact j) λout g J L M=>⟨_,rfl,?_⟩) (args_list_sort _)))
 obtain⟨u,N⟩:∃u,((c.push (seqObj "list" ((fZ w a f d).toList.map (·.2)).toArray 0)).update c.objs.size (Obj.mapSeq λ_=> #[])).get? c.objs.size=some (seqObj "list" #[] u):=⟨_,adU r (λ_=> #[])⟩;have U:((c.push (seqObj "list" ((fZ w a f d).toList.map (·.2)).toArray 0)).update c.objs.size (Obj.mapSeq λ_=> #[])).objs.size=c.objs.size+1:=by rw[Heap.size_update,size_push']
 have O:((((c.push (seqObj "list" ((fZ w a f d).toList.map (·.2)).toArray 0)).update c.objs.size (Obj.mapSeq λ_=> #[])).push (seqObj "tuple" ((fZ w a f d).toList.map (·.2)).toArray 0)).push (seqObj "list" #[] 0)).get? c.objs.size=some (seqObj "list" #[] u):=
  AC _ (AC _ N)
 have R:=adU O (λ_=>out);refine ir ⟨_,rfl,h _ _ c.objs.size out _ g (λb o e=>?_) (vh n) R J (L.trans I) M⟩;have x:=p b o e;have y:b≠c.objs.size:=cE (Fk x);show((((((c.push (seqObj "list" ((fZ w a f d).toList.map (·.2)).toArray 0)).update c.objs.size (Obj.mapSeq λ_=> #[])).push (seqObj "tuple" ((fZ w a f d).toList.map (·.2)).toArray 0)).push (seqObj "list" #[] 0)).update c.objs.size (Obj.mapSeq λ_=>out))).get? b=some o;rw[Heap.get?_update_ne _ _ _ _ y];refine AC _ (AC _ ?_);rw[Heap.get?_update_ne _ _ _ _ y];exact AC _ x
end
section
variable {prog:Program} {w:World} {A:Around} {E:Value->Shared->Prop} {s:Shared}
theorem ItemsAre.ints(h:ItemsAre (intKind prog w) c b):∀v∈b,∃i t,v= .int i t:=by
 induction h with
 |nil=>intro v a;simp at a
 | @cons k f c b d _ e=>
  intro v a
  rcases br.mp a with rfl|a
  ·obtain⟨t,rfl⟩:=adx d
   exact⟨k,t,rfl⟩
  ·exact e v a
theorem qj(f:IsTupleKey (intKind prog w) s.heap j a)(h:Q false s):wpAny (model prog w) A (ofAClassStatement 8 (.ref a)) Q E s:=by
 have k:=f.typeIs;obtain⟨o,c,n,l,_,m,p⟩:=f;unfold ofAClassStatement;refine be (adH k ?_);dsimp only;simp only[beq_self_eq_true, ↓reduceIte];refine be (ir ?_);simp only[acZ,gX, ↓reduceIte];refine be (acI l m ?_);dsimp only;refine be ?_;rw[<-Array.forIn_toList];refine ac0 _ (λb r d=>r.1=none/\d=s/\∀v∈b,∃i t,v=Value.int i t) _ ?_ ?_ _ _ ⟨rfl,rfl,p.ints⟩
 ·rintro v b r d ⟨e,rfl,g⟩
  obtain⟨i,t,rfl⟩:=g v bE;refine be (acy (show ofAClassStatement 7 (.int i t)=pure false from by unfold ofAClassStatement;rfl) ?_)
  simp only[gX,P3];exact ir ⟨rfl,rfl,λu q=>g u (bV _ q)⟩
 ·rintro⟨x,y⟩ d ⟨e,rfl,_⟩
  simp only at e;subst e;exact ir h
theorem Er(j:IsTupleKey (intKind prog w) s.heap n b)(stored:List Value)(o:∀y∈stored,∃f a,y=Value.ref a/\IsTupleKey (intKind prog w) s.heap f a)(h:Q false s):
  wpAny (model prog w) A (searchCouldBeSeen (.ref b) stored) Q E s:=by
 unfold searchCouldBeSeen;refine be ?_;refine ac0 _ (λd r g=>r.1=none/\g=s/\∀y∈d,∃f a,y=Value.ref a/\IsTupleKey (intKind prog w) s.heap f a) _ ?_ ?_ _ _ ⟨rfl,rfl,o⟩
 ·rintro y d r g ⟨i,rfl,k⟩
  obtain⟨f,a,rfl,l⟩:=k y bE;have m:∀y∈d,∃f a,y=Value.ref a/\IsTupleKey (intKind prog w) g.heap f a:=λy p=>k y (bV _ p);have e:(carriedByValue (Value.ref b)&&carriedByValue (Value.ref a))=false:=by simp[carriedByValue]
  dsimp only;rw[e,Bool.or_false]
  by_cases c:(b==a)=true
  ·rw[tz c]
   exact ir ⟨rfl,rfl,m⟩
  ·rw[mo c]
   refine be (wpAny_eqIsQuiet_tuple j ?_);simp only[acZ,gX,P3];refine be (wpAny_eqIsQuiet_tuple l ?_);simp only[acZ,gX,P3];refine be (qj j ?_);simp only[gX,P3];refine be (qj l ?_);simp only[gX,P3];exact ir ⟨rfl,rfl,m⟩
 ·rintro⟨q,t⟩ g ⟨i,rfl,_⟩
  simp only at i;subst i;exact ir h
theorem zG(f:IsTupleKey (intKind prog w) s.heap j a)(h:Q true s):wpAny (model prog w) A (hashByValue 8 (.ref a)) Q E s:=by
 rfl';have l:=f.typeIs;obtain⟨o,c,n,m,_,p,q⟩:=f;ac_rfl;unfold hashByValue;refine be (adW l F.slot_tuple_hash.lookup ?_);dsimp only;refine be (acI m p ?_);refine be ?_;show wpAny _ _ (forIn c _ _) _ _ s;rw[<-Array.forIn_toList];refine ac0 _ (λb r d=>r.1=none/\d=s/\∀v∈b,∃i t,v=Value.int i t) _ ?_ ?_ _ _ ⟨rfl,rfl,q.ints⟩
 ·rintro v b r d ⟨e,rfl,g⟩
  obtain⟨i,t,rfl⟩:=g v bE;refine be (acy (show hashByValue 7 (.int i t)=pure true from by unfold hashByValue;rfl) ?_)
  simp only[acZ,gX,P3];exact ir ⟨rfl,rfl,λu x=>g u (bV _ x)⟩
 ·rintro⟨z,B⟩ d ⟨e,rfl,_⟩
  simp only at e;subst e;exact ir h
def JE(prog:Program)(w:World)(h:Heap)(b:Array (Int×Value)):Prop:=∀(i:Nat)(e:Int×Value),b[i]? =some e->∃k a,e=(tupleKeyHash (intKind prog w) k, .ref a)/\IsTupleKey (intKind prog w) h k a
def MP(a:Array (Int×Value))(i:Nat):Int:=(a[i]?.map (·.1)).getD 0
theorem Kr(h:v5 m):m%2=1:=by rcases h with rfl|rfl|rfl|rfl<;>rfl
theorem AE{a:Array Nat}(R:oU a){i j v:Nat}(b:a[i]? =some v)(c:a[j]? =some v):i=j:=by
 rw[<-below_at R b,<-below_at R c]
theorem rj(hu:A.units<cLine)(ho:s.heap.get? a=some o)(S:fM (cI w) o q M t)(P:JE prog w s.heap q)(hk:IsTupleKey (intKind prog w) s.heap u b)
  (NN:(∃(i:Nat)(c:Addr),q[i]? =some (tupleKeyHash (intKind prog w) u, .ref c)/\IsTupleKey (intKind prog w) s.heap u c)->∀r:Option Nat,(B=false->r.isSome=true)->Q (.there r) s)
  (Bl:(∀(i:Nat)(e:Int×Value),q[i]? =some e->∀c,e.2= .ref c->¬IsTupleKey (intKind prog w) s.heap u c)->∀g,(∀i:Nat,t.place[i]? ≠some (bN t.mask (tupleKeyHash (intKind prog w) u) g))->(∀j,j<g->∃i:Nat,t.place[i]? =some (bN t.mask (tupleKeyHash (intKind prog w) u) j))->
   Q (.free (bN t.mask (tupleKeyHash (intKind prog w) u) g) false) s):
  wpAny (model prog w) A (setSearch a (.ref b) (tupleKeyHash (intKind prog w) u) B) Q E s:=by
 generalize hh:tupleKeyHash (intKind prog w) u=h at*;have T:=S.tok;obtain⟨s0,hs0,Xz⟩:=T.empty;obtain⟨K,hK,Z⟩:=meets T.few (uw.start t.mask h) hs0;have Z:bN t.mask h K=s0:=by unfold bN;rw[nX];exact Z
 have kb:K<6000:=by
  have:10*turns t.mask<=5260:=by
   rcases T.few with e|e|e|e<;>rw[e]<;>decide
  omega
 have sz:t.place.size=q.size:=by rw[T.size];simp
 have hN:(t.mask%2==0)=false:=by rw[Kr T.few];rfl
 have N:∀(n:Nat)(k:Nat)(l:Nat)(O:Option Probe),K+1-k<=n->n<l->k<=K->O.getD (t.probeStart h)=qK t.mask h k->(∀j,j<k->∃i:Nat,t.place[i]? =some (bN t.mask h j))->
   (∀(i:Nat) c,q[i]? =some (h, .ref c)->IsTupleKey (intKind prog w) s.heap u c->∀C,t.place[i]? =some (bN t.mask h C)->k<=C)->
   wpAny (model prog w) A (setSearchFrom a (.ref b) h B l O) Q E s:=by
  intro n
  induction n with
  |zero=>intro k l O h1 h2 h3;omega
  |succ n ih=>
   intro k l O h1 h2 h3 h4 h5 h6;obtain⟨f,rfl⟩:∃f,l=f+1:=⟨l-1,by omega⟩
   unfold setSearchFrom;refine be (On ho S.dat S.fits ?_);dsimp only;unfold SetTable.gaveWay;rw[hN];simp only[gX,P3]
   have Xj:∀(i:Nat)(e:Int×Value),q[i]? =some e->MP q i=e.1:=λi e d=>by
    show(q[i]?.map (·.1)).getD 0=e.1;rw[d];rfl
   generalize I:t.probe _ h (O.getD (t.probeStart h))=r;have I:t.probe (MP q) h (qK t.mask h k)=r:=by rw[<-h4];exact I
   generalize MP q=hA at Xj I;obtain⟨g,hk0,hp,alt⟩:=TOk.probe T hA h k
   have k0K:g<=K:=by
    apply Do;intro c;obtain⟨i,d,_⟩:=hp K h3 (by omega)
    rw[Z] at d;exact Xz i d
   have Oj:∀j,j<g->∃i:Nat,t.place[i]? =some (bN t.mask h j):=λj h'=>by
    by_cases c:j<k
    ·exact h5 j c
    ·obtain⟨i,d,_⟩:=hp j (by omega) h'
     exact⟨i,d⟩
   have F:∀(i:Nat) c,q[i]? =some (h, .ref c)->IsTupleKey (intKind prog w) s.heap u c->∀C,t.place[i]? =some (bN t.mask h C)->g<=C:=λi c d hc C R=>by
    have hkx:=h6 i c d hc C R;apply Do;intro z;obtain⟨p,G,rU⟩:=hp C hkx (by omega)
    have:i=p:=AE T.rise R G
    subst this;exact rU (Xj i _ d)
   rcases alt with ⟨KN,M⟩ | ⟨i,d,hhi,M⟩
   ·rw[M] at I
    subst I;dsimp only;refine ir (Bl (λi e d c hc XJ=>?_) g KN Oj);obtain⟨j,a',U,X⟩:=P i e d;subst U;cases hc
    have:j=u:=X.inj XJ
    subst this;rw[hh] at d;obtain⟨ky,Yb,hy2⟩:=T.path i h (by rw[bQ,kG,d];rfl)
    have lt:=F i _ d XJ ky Yb
    by_cases c1:g<ky
    ·obtain⟨p,G⟩:=hy2 g c1
     exact KN p G
    ·have:ky=g:=by omega
     subst this;exact KN i Yb
   ·rw[M] at I
    subst I;dsimp only
    have Yg:i<q.size:=by
     have:=(AN.mp d).1
     omega
    obtain⟨j,c,U,X⟩:=P i q[i] (qo Yg);have L:q[i]? =some (tupleKeyHash (intKind prog w) j, .ref c):=by rw[qo Yg,U]
    have H:wpAny (model prog w) A (match q[i]? with
      |some (fst,y)=>do
       let m <-holding [y] (eqBool y (Value.ref b))
       let J <-setState a
       if (B&&m)=true then pure (SetFound.there none)
        else
         match J.2.snd.sameMemory t.moves t.mask with
         |some same=>
          match if same=true then J.2.snd.slot (bN t.mask h g) else Slot.empty with
          |Slot.live p=>
           match J.fst[p]? with
           |some (fst,y')=>do
            let v <-isSame y' y
            let Y <-pure (if v=true then some p else none)
            match Y with
             |none=>do
              rule "set.search.anew"
              setSearchFrom a (Value.ref b) h B f none
             |some p=>
              if m=true then pure (SetFound.there (some p))
              else setSearchFrom a (Value.ref b) h B f (some (qK t.mask h (g+1)))
           |none=>do
            let Y <-pure none
            match Y with
             |none=>do
              rule "set.search.anew"
              setSearchFrom a (Value.ref b) h B f none
             |some p=>
              if m=true then pure (SetFound.there (some p))
              else setSearchFrom a (Value.ref b) h B f (some (qK t.mask h (g+1)))
          |x=>do
           let Y <-pure none
           match Y with
            |none=>do
             rule "set.search.anew"
             setSearchFrom a (Value.ref b) h B f none
            |some p=>
             if m=true then pure (SetFound.there (some p))
             else setSearchFrom a (Value.ref b) h B f (some (qK t.mask h (g+1)))
         |x=>unsupported "set.changed-during-lookup:is-the-new-block-at-the-old-address"
      |x=>unsupported "internal:set-entry") Q E s:=by
     rw[L];dsimp only;refine be (KF (wpAny_eqBool_tuple hu X hk ?_));refine be (On ho S.dat S.fits ?_);dsimp only;have sm:t.sameMemory t.moves t.mask=some true:=by unfold SetTable.sameMemory;simp
     have rU:j≠u->wpAny (model prog w) A (setSearchFrom a (Value.ref b) h B f (some (qK t.mask h (g+1)))) Q E s:=λne=>by
      by_cases kk:g=K
      ·subst kk
       rw[Z] at d;exact absurd d (Xz i)
      refine ih (g+1) f _ (by omega) (by omega) (by omega) rfl (λNX h''=>?_) λp c' G tG C R=>?_
      ·by_cases z:NX=g
       ·subst z;exact⟨i,d⟩
       ·exact Oj NX (by omega)
      ·have l1:=F p c' G tG C R
       have:C≠g:=λz=>by
        subst z
        have:p=i:=AE T.rise R d
        subst this;rw[L] at G;cases G;exact ne (X.inj tG)
       omega
     have there:j=u->∀r:Option Nat,(B=false->r.isSome=true)->Q (.there r) s:=λe=>by
      subst e;rw[hh] at L;exact NN ⟨i,c,L,X⟩
     by_cases e:j=u
     ·rw[GE e,Bool.and_true]
      cases B with
      |true=>exact ir (there e none λz=>absurd z (by decide))
      |false=>
       simp only[gX,P3];rw[sm];dsimp only;rw[tz rfl,sA T.rise d];dsimp only;rw[L];dsimp only;refine be (wpAny_isSame_ref_self ?_);refine be (ir ?_);simp only[acs];exact ir (there e (some i) λ_=>rfl)
     ·rw[FM e,ad9]
      simp only[gX,P3];rw[sm];dsimp only;rw[tz rfl,sA T.rise d];dsimp only;rw[L];dsimp only;refine be (wpAny_isSame_ref_self ?_);refine be (ir ?_);simp only[acs];exact rU e
    by_cases led:(!t.led)=true
    ·rw[tz led]
     refine be (Er hk _ (λy hy=>?_) ?_)
     ·obtain⟨e,he,rfl⟩:=aZ.mp hy
      have he:=(Array.mem_filter.mp (Array.mem_toList_iff.mp he)).1;obtain⟨p,G,rfl⟩:=Array.mem_iff_getElem.mp he;obtain⟨NX,c',U,XI⟩:=P p q[p] (qo G);exact⟨NX,c',by rw[U],XI⟩
     ·simp only[gX,P3]
      exact H
    ·rw[mo led]
     exact H
 refine N (K+1) 0 100000 none (bH _) (by omega) (dS _) rfl (λj h'=>by omega) λi c d hc C _=>dS _
end
section
variable {prog:Program} {w:World} {A:Around} {E:Value->Shared->Prop} {s:Shared}
theorem vq(b:Addr)(a:Array (Int×Value)):byScan (.ref b) a=false:=rfl
theorem zF(k:A.units<cLine)(g:s.heap.get? a=some o)(S:fM (cI w) o f j t)(P:JE prog w s.heap f)(l:IsTupleKey (intKind prog w) s.heap d b)
  (m:(∃(i:Nat)(c:Addr),f[i]? =some (tupleKeyHash (intKind prog w) d, .ref c)/\IsTupleKey (intKind prog w) s.heap d c)->∀r:Option Nat,r.isSome=true->Q r s)
  (n:(∀(i:Nat)(e:Int×Value),f[i]? =some e->∀c,e.2= .ref c->¬IsTupleKey (intKind prog w) s.heap d c)->Q none s):
  wpAny (model prog w) A (setFind a (.ref b) (tupleKeyHash (intKind prog w) d)) Q E s:=by
 unfold setFind setFindIn;refine be (On g S.dat S.fits ?_);dsimp only;rw[vq];simp only[gX,P3];refine be (rj k g S P l (λh r p=>?_) λh q _ _=>?_)
 ·exact ir (m h r (p rfl))
 ·exact ir (n h)
theorem BY(hu:A.units<cLine)(n:s.heap.get? a=some o)(S:fM (cI w) o d ep t)(P:JE prog w s.heap d)(L:IsTupleKey (intKind prog w) s.heap g b)(room:d.size<=305)
  (hy:(∃(i:Nat)(c:Addr),d[i]? =some (tupleKeyHash (intKind prog w) g, .ref c)/\IsTupleKey (intKind prog w) s.heap g c)->Q false s)
  (M:(∀(i:Nat)(e:Int×Value),d[i]? =some e->∀c,e.2= .ref c->¬IsTupleKey (intKind prog w) s.heap g c)->∀z N O uF t',Heap.SameBut a s.heap z->z.get? a=some N->fM (cI w) N O uF t'->O.toList.Perm (d.toList++ [(tupleKeyHash (intKind prog w) g, .ref b)])->Q true {s with heap:=z}):
  wpAny (model prog w) A (setAddHashed a (.ref b) (tupleKeyHash (intKind prog w) g)) Q E s:=by
 have u:=S.dat;have R:=S.fits;have T:=S.tok;have sz:t.place.size=d.size:=by rw[T.size];simp
 unfold setAddHashed setAddHashedIn;refine KF (be (On n u R ?_));dsimp only;rw[vq];simp only[gX,P3];refine be (rj hu n S P L (λh r hr=>?_) λh k B Oj=>?_)
 ·exact ir (hy h)
 ·dsimp only
  refine be (On n u R ?_);dsimp only;obtain⟨p1,p2,l⟩:=TOk.put T B Oj (by rw[sz];exact z4 T.few S.few)
  rw[p1]
  have e:(SetTable.insertAt d (below t.place (bN t.mask (tupleKeyHash (intKind prog w) g) k)) (tupleKeyHash (intKind prog w) g,Value.ref b)).toList.map (·.1)=(d.toList.map (·.1)).take (below t.place (bN t.mask (tupleKeyHash (intKind prog w) g) k))++tupleKeyHash (intKind prog w) g::(d.toList.map (·.1)).drop (below t.place (bN t.mask (tupleKeyHash (intKind prog w) g) k)):=by
   rw[acE];simp
  rw[<-e] at l;have C:(t.put (bN t.mask (tupleKeyHash (intKind prog w) g) k)).1.plain=true:=S.pl;have ld:(t.put (bN t.mask (tupleKeyHash (intKind prog w) g) k)).1.led= !cI w:=S.ld;have mk:(t.put (bN t.mask (tupleKeyHash (intKind prog w) g) k)).1.mask=t.mask:=rfl;generalize hx:((tupleKeyHash (intKind prog w) g,Value.ref b):Int×Value)=x at*;generalize hp:below t.place (bN t.mask (tupleKeyHash (intKind prog w) g) k)=p at*;generalize (t.put (bN t.mask (tupleKeyHash (intKind prog w) g) k)).1=m at*;rw[tz C];refine be (zG L ?_);simp only[acs,aea,Bool.true_and];have q:(SetTable.insertAt d p x).size=d.size+1:=SetTable.fW ..;have F:=acU d p x;rw[adA] at F;refine be (acN n u ?_ (by rw[q];refine acO ?_;show d.size+1<4096;omega))
  have v:=lu n u (SetTable.insertAt d p x) m;have U:=Wp s.heap a (Obj.putSet (SetTable.insertAt d p x) m)
  have G:m.fits (SetTable.insertAt d p x).size=true:=by
   have:=TOk.fits l
   rw[aD,iF] at this;exact this
  by_cases j:m.tooFull=true
  ·rw[tz j]
   refine ah λG0 k=>?_;obtain⟨y,f,X,_,pf,Y,T2,H,l2,Z,I⟩:=yL l j (by rw[q,mk];have:=S.few;omega) (by rw[q];omega)
   refine k ?_;rw[q] at X Z I;refine be ?_;unfold setRelay;refine be (On v rfl G ?_);dsimp only;have big:512<=sizeLine:=by decide
   rw[mo (by omega),X]
   have MS:(f.filterMap ((SetTable.insertAt d p x)[·]?)).size=d.size+1:=by rw[Y,q]
   refine be (acy (a:=(f.filterMap ((SetTable.insertAt d p x)[·]?),y)) ?_ ?_)
   ·show(if ((f.filterMap ((SetTable.insertAt d p x)[·]?)).size !=(SetTable.insertAt d p x).size)=true then _ else pure (f.filterMap ((SetTable.insertAt d p x)[·]?),y))=_
    rw[mo (by rw[Y];simp)]
   ·dsimp only
    refine acN v rfl ?_ (by rw[MS];refine acO ?_;show d.size+1<4096;omega)
    have rV:=lu v rfl (f.filterMap ((SetTable.insertAt d p x)[·]?)) y;exact ir (M h _ _ _ _ y (U.trans (Wp _ a _)) rV ⟨S.ex,rfl,T2,by rw[H];exact C,by rw[l2];exact ld,by rw[MS];exact Z⟩ (pf.trans F))
  ·rw[mo j]
   refine ir (M h _ _ _ _ m U v ⟨S.ex,rfl,l,C,ld,?_⟩ F);have J:m.tooFull=false:=by simpa using j
   unfold SetTable.tooFull SetTable.fill at J;rw[l.dum,l.size] at J;simp at J;omega
variable {a b:Addr} {o:Obj} {es:Array (Int×Value)} {ep:Nat} {t:SetTable} {ks:List Int}
open Classical in
noncomputable def pB(prog:Program)(w:World)(h:Heap)(es:Array (Int×Value))(ks:List Int):Bool:=decide (∃(i:Nat)(c:Addr),es[i]? =some (tupleKeyHash (intKind prog w) ks, .ref c)/\IsTupleKey (intKind prog w) h ks c)
theorem KH(h:∀(i:Nat)(e:Int×Value),es[i]? =some e->∀c,e.2= .ref c->¬IsTupleKey (intKind prog w) s.heap ks c):pB prog w s.heap es ks=false:=by
 classical
 unfold pB;exact FM λ⟨i,c,d,f⟩=>h i _ d c rfl f
theorem Il(h:∃(i:Nat)(c:Addr),es[i]? =some (tupleKeyHash (intKind prog w) ks, .ref c)/\IsTupleKey (intKind prog w) s.heap ks c):pB prog w s.heap es ks=true:=by
 classical
 unfold pB;exact GE h
theorem ue(k:A.units+64<cLine)(d:s.heap.get? a=some o)(S:fM (cI w) o es ep t)(P:JE prog w s.heap es)(e:IsTupleKey (intKind prog w) s.heap ks b)
  (h:∀f,Q (pB prog w s.heap es ks) {s with toks:=f}):wpAny (model prog w) A (contains (.ref a) (.ref b)) Q E s:=by
 have c:s.TypeIs (.ref a) "set":=⟨o,d,S.ex.1⟩;unfold contains
 try with_reducible refine KF ?_
 refine be (adW c F.slot_set_contains.lookup ?_);show wpAny _ _ (if (some (Value.builtin "set.__contains__")==some Value.none)=true then _ else _) _ E s;rw[mo (by rw[beq_builtin_none];exact cw)]
 refine be (wpAny_callSpecialUnlessNone?_slot (name:=Str.ofString "__contains__") c F.slot_set_contains
  (SB F.slot_set_contains c entry_set_contains ?_ (F.args_set_contains_2 _ _)))
 unfold Builtin.«frozenset.__contains__» Builtin.Frozenset.oneOther;simp only[ac1,bind_assoc];unfold Builtin.Frozenset.addrOf Builtin.Frozenset.withSetAsKey setContains;refine be (ir ?_)
 try dsimp only
 refine be (ir ?_)
 try dsimp only
 refine be (acJ ?_);refine KF ?_;refine be (wpAny_pyHash_tuple ?_ e ?_)
 ·show A.units+1<cLine;omega
 refine be (zF (s:={s with toks:=s.toks+(ks.length+1)}) ?_ d S P e (λg r i=>?_) λj=>?_)
 ·show A.units+1<cLine;omega
 ·refine ir ?_
  show wpAny _ _ (ret (Value.bool r.isSome)) _ _ _;rw[i]
  have:=h (s.toks+(ks.length+1))
  rw[Il g] at this;exact ir ⟨_,rfl,M2 this⟩
 ·refine ir ?_
  have:=h (s.toks+(ks.length+1))
  rw[KH j] at this;exact ir ⟨_,rfl,M2 this⟩
end
end PySem
set_option maxHeartbeats 4000000
namespace L2
open PySem PySem.Spec PyProof.Rows
inductive FV where
 |int (i:Int) |bl (b:Bool)
inductive XD where
 |tW (b:Bool) (ps:List (Int×Int)) |tS (ks:List (Int×Int)) (vs:List FV)
inductive D where
 |bA|bl (b:Bool) |int (i:Int) |str (x:Str) |lst (l:List D) |tup (l:List D) |jF (ns:List Int) |rng (lo hi:Int) |obj (a:Addr) |eM (w:List (List Nat)) |set (b:Bool) (l:List Int) |x (k:XD) |err (C:Addr) (ks:List Str) (l:List D)
structure DC where
 K:PySem.W.Frag
 C:Addr
def aq(n:Nat):D:= .int n
def ay(r:List Nat):D:= .lst (r.map aq)
def aU(w:List (List Nat)):D:= .lst (w.map ay)
def vj(a:Array (Int×Value))(b:List Int):Prop:=(∀e∈a.toList,∃k t,e=(hashInt k,Value.int k t))/\b.Nodup/\∃c,IntsAre (a.toList.map (·.2)) c/\c.Perm b
def gx(b:Bool)(a:Addr)(d:List Int)(h:Heap):Prop:=∃o c e t,h.get? a=some o/\fM b o c e t/\vj c d
def cR(p:Int×Int):Int:=reduceHash (Builtin.Tuple.tupleHashOf [hashInt p.1,hashInt p.2])
inductive iL (H:Hp):List (Int×Addr)->List (Int×Int)->Prop
 |nil:iL H [] []
 |cons {a:Addr} {p:Int×Int} {es:List (Int×Addr)} {ps:List (Int×Int)}:H a=some (.tup [.int p.1, .int p.2])->iL H es ps->iL H ((cR p,a)::es) (p::ps)
theorem iL.mono{H a:Hp}(s:bh H a):∀{b:List (Int×Addr)}{c:List (Int×Int)},iL H b c->iL a b c
 |_,_, .nil=> .nil
 |_,_, .cons h t=> .cons (s _ _ h) (t.mono s)
def fS(b:Bool)(a:Addr)(d:List (Int×Addr))(h:Heap):Prop:=∃o c f t,h.get? a=some o/\fM b o c f t/\c.toList.Perm (d.map λe=>(e.1,Value.ref e.2))
def M8:FV->Value->Prop
 | .int i,v=>∃t,v= .int i t
 | .bl b,v=>v= .bool b
inductive Hy:List DictEntry->List (Int×Addr)->List FV->Prop
 |nil:Hy [] [] []
 |cons {e:DictEntry} {l:List DictEntry} {h:Int} {a:Addr} {v:FV} {es:List (Int×Addr)} {vs:List FV}:e.hash=h->e.key= .ref a->M8 v e.val->Hy l es vs->Hy (e::l) ((h,a)::es) (v::vs)
def g9(a:Addr)(c:List (Int×Addr))(d:List FV)(h:Heap):Prop:=(a==sysModules)=false/\∃o b e,h.get? a=some o/\o.ExactDict/\o.data= .dict b e/\Hy b.toList c d
def HD(H:Hp)(a:Addr)(d:Heap->Prop):XD->Prop
 | .tW b e=>e.Nodup/\∃c,d=fS b a c/\iL H c e
 | .tS ks f=>ks.Nodup/\∃c,d=g9 a c f/\iL H c ks
theorem HD.mono{H c:Hp}(s:bh H c):∀{k:XD},HD H a d k->HD c a d k
 | .tW _ _,⟨n,b,e,p⟩=>⟨n,b,e,p.mono s⟩
 | .tS _ _,⟨n,b,e,p⟩=>⟨n,b,e,p.mono s⟩
def M7(H:Hp)(d:Option Addr)(a:List Str)(b:List V):Prop:=(d=none/\a= []/\b= [])\/∃c,d=some c/\H c=some (XdO c (a.zip b))/\a.length=b.length
theorem M7.mono{H d:Hp}(s:bh H d)(h:M7 H e f g):M7 d e f g:=h.imp id λ⟨i,a,b,c⟩=>⟨i,a,s _ _ b,c⟩
mutual
inductive Dv (Z:DC) (H:Hp):V->D->Prop
 |bA:Dv Z H .bA .bA
 |bl (b:Bool):Dv Z H (.bl b) (.bl b)
 |int (i:Int):Dv Z H (.int i) (.int i)
 |str (x:Str) (h:PyData.strOk x=true):Dv Z H (.str x) (.str x)
 |lst {a:Addr} {xs:List V} {ds:List D}:H a=some (.lst xs)->DvAll Z H xs ds->Dv Z H (.ref a) (.lst ds)
 |tup {a:Addr} {xs:List V} {ds:List D}:H a=some (.tup xs)->DvAll Z H xs ds->Dv Z H (.ref a) (.tup ds)
 |obj (a:Addr):Dv Z H (.ref a) (.obj a)
 |rng {a:Addr} {lo hi:Int}:H a=some (.rng lo hi)->Dv Z H (.ref a) (.rng lo hi)
 |jF {a:Addr} {ns:List Int}:cM Z.K H a (ns.map V.int)->ns.length<=63->Dv Z H (.ref a) (.jF ns)
 |eM {p dx R:Addr} {w:List (List Nat)}:H p=some (.ins Z.C dx [("rows", .ref R)])->Dv Z H (.ref R) (aU w)->Wb.Good w->1<=w.length->w.length<=14->Dv Z H (.ref p) (.eM w)
 |set {a:Addr} {b:Bool} {ns:List Int}:H a=some (.ext (gx b a ns))->Dv Z H (.ref a) (.set b ns)
 |x {a:Addr} {φ:Heap->Prop} {k:XD}:H a=some (.ext φ)->HD H a φ k->Dv Z H (.ref a) (.x k)
 |err {a C:Addr} {od:Option Addr} {ks:List Str} {xs:List V} {ds:List D}:H a=some (UB C a od)->M7 H od ks xs->DvAll Z H xs ds->Dv Z H (.ref a) (.err C ks ds)
inductive DvAll (Z:DC) (H:Hp):List V->List D->Prop
 |nil:DvAll Z H [] []
 |cons {v:V} {vs:List V} {d:D} {ds:List D}:Dv Z H v d->DvAll Z H vs ds->DvAll Z H (v::vs) (d::ds)
end
theorem cM.mono{K:PySem.W.Frag}{H b:Hp}(s:bh H b)(h:cM K H a c):cM K b a c:=by
 rcases h with (h| ⟨o,h⟩) |h
 ·exact .inl (.inl (s _ _ h))
 ·exact .inl (.inr ⟨o,s _ _ h⟩)
 ·exact .inr h
section
variable {Z:DC} {H H' G G':Hp}
theorem Dv.ofInt(h:Dv Z H v (.int i)):v= .int i:=by cases h;rfl
theorem Dv.DP(h:Dv Z H v (.bl b)):v= .bl b:=by cases h;rfl
theorem Dv.jA(h:Dv Z H v (.lst b)):∃a c,v= .ref a/\H a=some (.lst c)/\DvAll Z H c b:=by cases h with|lst h e=>exact⟨_,_,rfl,h,e⟩
theorem Dv.sh{v:V}{ds:List D}(h:Dv Z H v (.tup ds)):∃a xs,v= .ref a/\H a=some (.tup xs)/\DvAll Z H xs ds:=by cases h with|tup h e=>exact⟨_,_,rfl,h,e⟩
theorem Dv.Ly{v:V}{ns:List Int}(h:Dv Z H v (.jF ns)):∃a,v= .ref a/\cM Z.K H a (ns.map V.int)/\ns.length<=63:=by cases h with|jF h z=>exact⟨_,rfl,h,z⟩
theorem DvAll.Lx(h:DvAll Z H a []):a= []:=by cases h;rfl
theorem DvAll.Bz(h:DvAll Z H c (d::e)):∃v f,c=v::f/\Dv Z H v d/\DvAll Z H f e:=by cases h with|cons a b=>exact⟨_,_,rfl,a,b⟩
theorem DvAll.ofOne(h:DvAll Z H c [d]):∃v,c= [v]/\Dv Z H v d:=by
 obtain⟨v,e,rfl,a,b⟩:=h.Bz;rw[b.Lx];exact⟨v,rfl,a⟩
theorem DvAll.Lz(h:DvAll Z H f [d,e]):∃v u,f= [v,u]/\Dv Z H v d/\Dv Z H u e:=by
 obtain⟨v,g,rfl,a,b⟩:=h.Bz;obtain⟨u,rfl,c⟩:=b.ofOne;exact⟨v,u,rfl,a,c⟩
theorem Dv.mono(s:bh H H')(h:Dv Z H v d):Dv Z H' v d:=
 Dv.rec (motive_1:=λv d _=>Dv Z H' v d) (motive_2:=λc e _=>DvAll Z H' c e) .bA .bl .int .str (λh _ a=> .lst (s _ _ h) a) (λh _ a=> .tup (s _ _ h) a) .obj (λh=> .rng (s _ _ h)) (λh z=> .jF (h.mono s) z) (λh _ g a b r=> .eM (s _ _ h) r g a b) (λh=> .set (s _ _ h)) (λh k=> .x (s _ _ h) (k.mono s)) (λh k _ a=> .err (s _ _ h) (k.mono s) a) .nil (λ_ _ a b=> .cons a b) h
theorem DvAll.ind{p:List V->List D->Prop}(n:p [] [])(c:∀{v:V}{e:List V}{d:D}{f:List D},Dv Z H v d->DvAll Z H e f->p e f->p (v::e) (d::f)){f:List D}(h:DvAll Z H e f):p e f:=
 DvAll.rec (motive_1:=λ_ _ _=>True) (motive_2:=λe f _=>p e f) trivial (λ_=>trivial) (λ_=>trivial) (λ_ _=>trivial) (λ_ _ _=>trivial) (λ_ _ _=>trivial) (λ_=>trivial) (λ_=>trivial) (λ_ _=>trivial) (λ_ _ _ _ _ _=>trivial) (λ_=>trivial) (λ_ _=>trivial) (λ_ _ _ _=>trivial) n (λa b _ q=>c a b q) h
theorem DvAll.mono(s:bh H H')(h:DvAll Z H c d):DvAll Z H' c d:=h.ind .nil λa _ b=> .cons (a.mono s) b
theorem DvAll.length{a:List V}{b:List D}(h:DvAll Z H a b):a.length=b.length:=h.ind (p:=λa b=>a.length=b.length) rfl λ_ _ e=>FS (·+1) e
theorem DvAll.get{b:List V}{i:Nat}{d:D}(h:DvAll Z H b c)(e:c[i]? =some d):∃v,b[i]? =some v/\Dv Z H v d:=by
 revert i
 refine h.ind (p:=λb c=>∀{i:Nat},c[i]? =some d->∃v,b[i]? =some v/\Dv Z H v d) (λe=>by cases e) λa _ f i e=>?_
 cases i with
 |zero=>cases e;exact⟨_,rfl,a⟩
 |succ i=>exact f e
theorem DvAll.C4{b:List V}{c:List D}{i:Nat}{v:V}(h:DvAll Z H b c)(e:b[i]? =some v):∃d,c[i]? =some d/\Dv Z H v d:=by
 revert i
 refine h.ind (p:=λb c=>∀{i:Nat},b[i]? =some v->∃d,c[i]? =some d/\Dv Z H v d) (λe=>by cases e) λa _ f i e=>?_
 cases i with
 |zero=>cases e;exact⟨_,rfl,a⟩
 |succ i=>exact f e
theorem DvAll.append(h:DvAll Z H c d)(k:DvAll Z H e f):DvAll Z H (c++e) (d++f):=h.ind (p:=λc d=>DvAll Z H (c++e) (d++f)) k λa _ b=> .cons a b
theorem DvAll.take:∀{b:List V}{c:List D}(n:Nat),DvAll Z H b c->DvAll Z H (b.take n) (c.take n)
 |_,_,0,_=>DvAll.nil
 |_,_,n+1, .nil=>DvAll.nil
 |_,_,n+1, .cons a as=>DvAll.cons a (as.take n)
theorem DvAll.drop:∀{b:List V}{c:List D}(n:Nat),DvAll Z H b c->DvAll Z H (b.drop n) (c.drop n)
 |_,_,0,h=>h
 |_,_,n+1, .nil=>by simpa using DvAll.nil
 |_,_,n+1, .cons a as=>by simpa using as.drop n
theorem DvAll.set{v:V}(h:Dv Z H v d):∀{b:List V}{c:List D}(n:Nat),DvAll Z H b c->DvAll Z H (b.set n v) (c.set n d)
 |_,_,_, .nil=> .nil
 |_,_,0, .cons a as=> .cons h as
 |_,_,n+1, .cons a as=> .cons a (DvAll.set h n as)
theorem DvAll.ints:∀(a:List Int),DvAll Z H (a.map V.int) (a.map D.int)
 | []=> .nil
 |n::a=> .cons (.int n) (DvAll.ints a)
theorem DvAll.snoc{e:List D}(a:DvAll Z H c e)(b:Dv Z H v d):DvAll Z H (c++ [v]) (e++ [d]):=a.append (.cons b .nil)
structure Ext (G H G' H':Hp):Prop where
 gg:bh G G'
 sub:bh G' H'
 hh:bh H H'
 off:∀b,H b≠none->G b=none->G' b=none
theorem Ext.refl(s:bh G H):Ext G H G H:=⟨.refl _,s, .refl _,λ_ _ h=>h⟩
theorem Ext.trans{c d f i:Hp}(a:Ext G H c d)(b:Ext c d f i):Ext G H f i:=
 ⟨a.gg.trans b.gg,b.sub,a.hh.trans b.hh,λx h g=>b.off x (λz=>by
  cases e:H x with
  |none=>exact h e
  |some o=>rw[a.hh x o e] at z;cases z) (a.off x h g)⟩
theorem Ext.new{o:HO}(s:bh G H)(h:H p=none):Ext G H (upd G p o) (upd H p o):=by
 have a:G p=none:=s.free h;refine⟨bf a o,λb u e=>?_,bf h o,λb c a=>?_⟩
 ·by_cases z:b=p
  ·subst z;rw[aB] at e ⊢;exact e
  ·rw[aO z] at e ⊢;exact s b u e
 ·have:b≠p:=λz=>c (by rw[z];exact h)
  rw[aO this];exact a
end
abbrev DN:=List (Option D)
structure eU (Z:DC) (G:Hp) (σ:St) (ρ:DN):Prop where
 len:ρ.length=σ.length
 at_:∀(i:Nat)(d:D),ρ[i]? =some (some d)->∃v,σ[i]? =some (some v)/\Dv Z G v d
section
variable {Z:DC} {G G' H H':Hp} {σ:St} {ρ:DN}
theorem eU.mono(e:eU Z G σ ρ)(s:bh G G'):eU Z G' σ ρ:=⟨e.len,λi d h=>let ⟨v,a,b⟩:=e.at_ i d h;⟨v,a,b.mono s⟩⟩
theorem eU.set{v:V}(e:eU Z G σ ρ)(h:Dv Z G v d):eU Z G (σ.set i (some v)) (ρ.set i (some d)):=by
 refine⟨by rw[f9,f9];exact e.len,λj c a=>?_⟩
 by_cases z:i=j
 ·subst z
  by_cases b:i<ρ.length
  ·rw[lD b] at a
   cases Da a;exact⟨v,by rw[lD (e.len▸b)],h⟩
  ·rw[AO (lG b)] at a
   rw[fj (lG b)] at a;cases a
 ·rw[lE z] at a ⊢
  exact e.at_ j c a
end
abbrev bp:=DN->(D->Prop)->Prop
abbrev dQ:=DN->(Bool->Prop)->Prop
abbrev js:=DN->(List D->Prop)->Prop
abbrev gz:=D->D->(D->Prop)->Prop
abbrev fB:=D->DN->(DN->Prop)->Prop
abbrev jt:=DN->(List D->Prop)->Prop
def e8(Z:DC)(t:bp):TE:=λe H Q=>∃(G:Hp)(a:DN)(P:D->Prop),bh G H/\eU Z G e a/\t a P/\∀d,P d->∀v b c,Ext G H b c->Dv Z b v d->Q v c
def liftT(Z:DC)(t:dQ):TT:=λd H Q=>∃(G:Hp)(a:DN)(P:Bool->Prop),bh G H/\eU Z G d a/\t a P/\∀b,P b->∀e c,Ext G H e c->Q b c
def Fy(Z:DC)(t:js):TA:=λf H Q=>∃(G:Hp)(a:DN)(P:List D->Prop),bh G H/\eU Z G f a/\t a P/\∀b,P b->∀c d e,Ext G H d e->DvAll Z d c b->Q c e
def bY(Z:DC)(r:gz):R2:=λx y H Q=>∃(G:Hp)(a b:D)(P:D->Prop),bh G H/\Dv Z G x a/\Dv Z G y b/\r a b P/\∀d,P d->∀v c e,Ext G H c e->Dv Z c v d->Q v e
def iU(Z:DC)(r:List D->(D->Prop)->Prop):List V->Hp->VK->Prop:=λe H Q=>∃(G:Hp)(a:List D)(P:D->Prop),bh G H/\DvAll Z G e a/\r a P/\∀d,P d->∀v b c,Ext G H b c->Dv Z b v d->Q v c
abbrev cg:=List D->(D->Prop)->Prop
def aV(Z:DC)(a:cg):Sp:=λb H Q _=>iU Z a b H Q
def DE(Z:DC)(X:Cx)(e:Expr)(t:bp):Prop:=PE X e (e8 Z t)
def DT(Z:DC)(X:Cx)(e:Expr)(t:dQ):Prop:=PT X e (liftT Z t)
def DA(Z:DC)(X:Cx)(a:List Expr)(t:js):Prop:=PA X a (Fy Z t)
theorem PE.imp(h:PE X e t)(f:∀b H Q,c b H Q->t b H Q):PE X e c:=λa s b H Q I q=>h a s b H Q I (f _ _ _ q)
theorem PT.imp(h:PT X e t)(f:∀b H Q,c b H Q->t b H Q):PT X e c:=λa s b H Q I q=>h a s b H Q I (f _ _ _ q)
theorem PW.imp(h:PW X e t)(f:∀b H Q,c b H Q->t b H Q):PW X e c:=λd a s b H Q I q=>h d a s b H Q I (f _ _ _ q)
theorem PA.imp(h:PA X d t)(f:∀b H Q,e b H Q->t b H Q):PA X d e:=λc a s b H Q I q=>h c a s b H Q I (f _ _ _ q)
theorem OpR.imp{f:Value->Value->Sem Value}(h:OpR X f r)(g:∀x y H Q,d x y H Q->r x y H Q):OpR X f d:=λc s e H x y v u Q I a b q=>h c s e H x y v u Q I a b (g _ _ _ _ q)
theorem cK.imp{f:Value}(h:cK X f r)(g:∀c H Q,d c H Q->r c H Q):cK X f d:=λb s e H c i Q I a q=>h b s e H c i Q I a (g _ _ _ q)
def vx(i:Nat):bp:=λa P=>∃d,a[i]? =some (some d)/\P d
def dC(d:D):bp:=λ_ P=>P d
section
variable {Z:DC} {X:Cx}
theorem aa(i:Nat)(f:X.N[i]? =some x:=by rfl)(b:lJ X.env.scope x:=by first|exact Or.inl rfl|exact Or.inr (Or.inl rfl) |exact Or.inr (Or.inr rfl))(c:(x==("__debug__":Str))=false:=by decide)
  (g:(x==("__classdict__":Str))=false:=by decide):DE Z X (.Name x a) (vx i):=by
 refine(BF f b c g).imp λk H Q h=>?_;rfl';obtain⟨G,m,P,s,e,⟨d,c,p⟩,q⟩:=h;ac_rfl;exact let ⟨v,b,dv⟩:=e.at_ i d c;⟨v,b,q d p v G H (.refl s) dv⟩
theorem au{i j pos}:DE Z X (.Constant (.int i) j pos) (dC (.int i)):=by
 refine OF.imp λc H Q a=>?_;rfl';obtain⟨G,f,P,s,e,p,q⟩:=a;ac_rfl;exact q _ p _ G H (.refl s) (.int i)
theorem iQ{b j pos}:DE Z X (.Constant (.bool b) j pos) (dC (.bl b)):=by
 refine TU.imp λd H Q a=>?_;rfl';obtain⟨G,g,P,s,e,p,q⟩:=a;ac_rfl;exact q _ p _ G H (.refl s) (.bl b)
theorem cX{j pos}:DE Z X (.Constant .none j pos) (dC .bA):=by
 refine OH.imp λc H Q a=>?_;rfl';obtain⟨G,f,P,s,e,p,q⟩:=a;ac_rfl;exact q _ p _ G H (.refl s) .bA
theorem nA{x j pos}(h:PyData.strOk x=true:=by decide+kernel):DE Z X (.Constant (.str x) j pos) (dC (.str x)):=by
 refine OK.imp λc H Q a=>?_;rfl';obtain⟨G,f,P,s,e,p,q⟩:=a;ac_rfl;exact q _ p _ G H (.refl s) (.str x h)
theorem qx(d:Gl X x)(b:∃c,X.mg x=some (.int i c))(f:(x==("__debug__":Str))=false:=by decide):DE Z X (.Name x a) (dC (.int i)):=by
 obtain⟨c,b⟩:=b;exact(LM d b (v:= .int i) ⟨c,rfl⟩ f).imp λg H Q ⟨G,h,P,s,e,p,q⟩=>q _ p _ G H (.refl s) (.int i)
def HP(r:gz)(d e:bp):bp:=λc P=>d c λa=>e c λb=>r a b P
variable {a b c:Expr} {ta tb tc:bp} {pos:Pos}
theorem By:∀f H Q,e8 Z (HP r ta tb) f H Q->MV (bY Z r) (e8 Z ta) (e8 Z tb) f H Q:=by
 intro f H Q k;rfl';obtain⟨G,j,P,s,e,h,q⟩:=k;ac_rfl;refine⟨G,j,_,s,e,h,λa m v n E g dv=>?_⟩;refine⟨n,j,_,g.sub,e.mono g.gg,m,λb o u p F i t=>?_⟩;exact⟨p,a,b,P,i.sub,dv.mono i.gg,t,o,λd w x y z A B=>q d w x y z ((g.trans i).trans A) B⟩
theorem aF(e:OpR X (binaryOp d) (bY Z r))(f:DE Z X a ta)(g:DE Z X b tb):DE Z X (.BinOp a d b pos) (HP r ta tb):=(BE e f g).imp By
theorem ni(e:OpR X (compareOp d) (bY Z r))(f:DE Z X a ta)(g:DE Z X b tb)(h:behindInMarks d b=false):DE Z X (.Compare a [d] [b] pos) (HP r ta tb):=(LK e f g h).imp By
def Ba(t:bp):dQ:=λe P=>t e λd=>∃k,d= .bl k/\P k
theorem Ao:∀d H Q,liftT Z (Ba t) d H Q->Gk (e8 Z t) d H Q:=by
 intro d H Q f;rfl';obtain⟨G,i,P,s,e,h,q⟩:=f;ac_rfl;refine⟨G,i,_,s,e,h,?_⟩;rintro _ ⟨k,rfl,p⟩ v j l m dv;cases dv.DP;exact⟨k,rfl,q k p j l m⟩
theorem aK(f:OpR X (compareOp d) (bY Z r))(g:DE Z X a ta)(i:DE Z X b tb)(j:behindInMarks d b=false):DT Z X (.Compare a [d] [b] pos) (Ba (HP r ta tb)):=
 (L7 f g i j).imp λe H Q h=>by
  obtain h:=Ao e H Q h;exact By e H _ h
def A9(r e:gz)(f g tc:bp):bp:=λd P=>f d λx=>g d λy=>r x y λz=>∃k,z= .bl k/\(if k=true then tc d λh=>e y h P else P (.bl false))
theorem yf:∀f H Q,e8 Z (A9 r o ta tb tc) f H Q->BW (bY Z r) (bY Z o) (e8 Z ta) (e8 Z tb) (e8 Z tc) f H Q:=by
 intro f H Q y;rfl';obtain⟨G,g,P,s,e,h,q⟩:=y;ac_rfl;refine⟨G,g,_,s,e,h,λa A v B Y i dv=>?_⟩;refine⟨B,g,_,i.sub,e.mono i.gg,A,λb C u E X j p=>?_⟩;refine⟨E,a,b,_,j.sub,dv.mono j.gg,p,C,?_⟩;rintro _ ⟨k,rfl,t⟩ v' w F l I;cases I.DP;refine⟨k,rfl,?_⟩;have x:=(i.trans j).trans l;cases k with
 |false=>exact cj (q _ t _ w F x (.bl false))
 |true=>
  refine eY ⟨w,g,_,l.sub,e.mono x.gg,t,λc J w' L H4 m M=>?_⟩;exact⟨L,b,c,P,m.sub,(p.mono l.gg).mono m.gg,M,J,λd N n O R S T=>q d N n O R ((x.trans m).trans S) T⟩
theorem HS(g:OpR X (compareOp d) (bY Z r))(h:OpR X (compareOp e) (bY Z f))(i:DE Z X a ta)(j:DE Z X b tb)(k:DE Z X c tc)
  (l:lastMarks [d,e] [b,c]=false:=by with_unfolding_all rfl):DE Z X (.Compare a [d,e] [b,c] pos) (A9 r f ta tb tc):=(IZ g h i j k l).imp yf
theorem HZ(i:OpR X (compareOp d) (bY Z r))(j:OpR X (compareOp e) (bY Z f))(k:DE Z X a ta)(l:DE Z X b tb)(m:DE Z X c tc)
  (n:lastMarks [d,e] [b,c]=false:=by with_unfolding_all rfl):DT Z X (.Compare a [d,e] [b,c] pos) (Ba (A9 r f ta tb tc)):=
 (Ji i j k l m n).imp λg H Q h=>by
  obtain h:=Ao g H Q h;exact yf g H _ h
def yY:D->Bool
 | .bA=>false
 | .bl b=>b
 | .int i=>i !=0
 | .str x=>x.length !=0
 | .lst l=>!l.isEmpty
 | .tup l=>!l.isEmpty
 | .jF l=>!l.isEmpty
 | .rng lo d=>decide (lo<d)
 | .obj _=>true
 | .eM _=>true
 | .set _ l=>!l.isEmpty
 | .x _=>true
 | .err _ _ _=>true
def Ym:D->Bool
 | .bl _=>true
 | .int _=>true
 | .lst _=>true
 | .tup _=>true
 | .bA=>true
 |_=>false
def Wn(t:bp):dQ:=λe P=>t e λd=>Ym d=true/\P (yY d)
theorem vE(h:DvAll Z G d e):d.isEmpty=e.isEmpty:=by cases h<;>rfl
theorem eO(ha:DE Z X a ta)(he:∀whole,isTrue a X.env whole=(do let v <-whole;standAt a.pos;holding [v] (truthy v)):=by intro _;rfl):DT Z X a (Wn ta):=by
 refine(Jj ha he).imp ?_;intro σ H Q aQ;rfl';obtain⟨G,ρ,P,s,e,h,q⟩:=aQ;ac_rfl;refine⟨G,ρ,_,s,e,h,?_⟩;rintro d ⟨hd,p⟩ v G1 H1 x1 dv;refine⟨yY d,?_,q _ p G1 H1 x1⟩;cases dv with
 |bA=>rfl
 |bl b=>rfl
 |int i=>rfl
 |lst h a=>exact .inl ⟨_,cM.of (x1.sub _ _ h),by rw[vE a];rfl⟩
 |tup h a=>exact .inr (.inl ⟨_,eW.of (x1.sub _ _ h),by rw[vE a];rfl⟩)
 |_=>cases hd
def V4(t u:dQ):dQ:=λd P=>t d λc=>if c=true then u d P else P false
def dOr(t u:dQ):dQ:=λd P=>t d λc=>if c=true then P true else u d P
def Wf(t:dQ):dQ:=λd P=>t d λc=>P (!c)
variable {tA BV:dQ} {rest:List Expr}
def DW(Z:DC)(X:Cx)(e:Expr)(t:dQ):Prop:=PW X e (liftT Z t)
theorem DW.dt(h:DW Z X e t):DT Z X e t:=PW.pt h
theorem tD(d:DT Z X a tA):DW Z X (.BoolOp .And [a] pos) tA:=Md d
theorem qC(d:DT Z X a tA):DW Z X (.BoolOp .Or [a] pos) tA:=OU d
theorem wL(k:DT Z X a tA)(f:DW Z X (.BoolOp .And (b::rest) pos) BV):DW Z X (.BoolOp .And (a::b::rest) pos) (V4 tA BV):=by
 refine(OT k f).imp ?_;intro t H Q l;rfl';obtain⟨G,g,P,s,e,h,q⟩:=l;ac_rfl;refine⟨G,g,_,s,e,h,λc i j n d=>?_⟩;cases c with
 |true=>exact eY ⟨j,g,P,d.sub,e.mono d.gg,i,λb f o p r=>q b f o p (d.trans r)⟩
 |false=>exact cj (q _ i j n d)
theorem nF(k:DT Z X a tA)(f:DW Z X (.BoolOp .Or (b::rest) pos) BV):DW Z X (.BoolOp .Or (a::b::rest) pos) (dOr tA BV):=by
 refine(TX k f).imp ?_;intro t H Q l;rfl';obtain⟨G,g,P,s,e,h,q⟩:=l;ac_rfl;refine⟨G,g,_,s,e,h,λc i j n d=>?_⟩;cases c with
 |false=>exact cj ⟨j,g,P,d.sub,e.mono d.gg,i,λb f o p r=>q b f o p (d.trans r)⟩
 |true=>exact eY (q _ i j n d)
theorem gh(d:DT Z X a tA):DT Z X (.UnaryOp .Not a pos) (Wf tA):=by
 refine(OR d).imp ?_;rintro l H Q ⟨G,f,P,s,e,h,q⟩;exact⟨G,f,_,s,e,h,λc g i j k=>q _ g i j k⟩
def RV(e f:bp):bp:=λd P=>e d λx=>∃c,x= .bl c/\if c=true then f d P else P (.bl false)
def R5(d:bp):bp:=λe P=>d e λx=>∃c,x= .bl c/\P (.bl (!c))
theorem wH{op}(h:DE Z X a ta):DE Z X (.BoolOp op [a] pos) ta:=OJ h
theorem nh(k:DE Z X a ta)(f:DE Z X (.BoolOp .And (b::rest) pos) tb):DE Z X (.BoolOp .And (a::b::rest) pos) (RV ta tb):=by
 refine(OB k f).imp ?_;intro u H Q l;rfl';obtain⟨G,g,P,s,e,h,q⟩:=l;ac_rfl;refine⟨G,g,_,s,e,h,?_⟩;rintro _ ⟨c,rfl,i⟩ v j n d dv;cases dv.DP;refine⟨c,rfl,?_⟩;cases c with
 |true=>exact eY ⟨j,g,P,d.sub,e.mono d.gg,i,λb f v o p r t=>q b f v o p (d.trans r) t⟩
 |false=>exact cj (q _ i _ j n d (.bl false))
theorem GI(d:DE Z X a ta):DE Z X (.UnaryOp .Not a pos) (R5 ta):=by
 refine(OI d).imp ?_;intro n H Q f;rfl';obtain⟨G,i,P,s,e,h,q⟩:=f;ac_rfl;refine⟨G,i,_,s,e,h,?_⟩;rintro _ ⟨c,rfl,j⟩ v k l m dv;cases dv.DP;exact⟨c,rfl,q _ j _ k l m (.bl _)⟩
def sX:js:=λ_ P=>P []
def uA(e:bp)(t:js):js:=λd P=>e d λx=>t d λf=>P (x::f)
variable {es:List Expr} {t:js} {e:Expr}
theorem ag:DA Z X [] sX:=by
 refine eQ.imp λg H Q d=>?_;rfl';obtain⟨G,i,P,s,e,p,q⟩:=d;ac_rfl;exact q _ p _ G H (.refl s) .nil
theorem ae(d:DE Z X e ta)(j:DA Z X es t)(k:starEach (e::es) X.env=(false,eval e X.env)::starEach es X.env:=by rfl):DA Z X (e::es) (uA ta t):=by
 refine(dr d j k).imp ?_;intro w H Q l;rfl';obtain⟨G,g,P,s,e,h,q⟩:=l;ac_rfl;refine⟨G,g,_,s,e,h,λa d v n y f dv=>?_⟩;exact⟨n,g,_,f.sub,e.mono f.gg,d,λz o A p r i u=>q _ o _ p r (f.trans i) (.cons (dv.mono i.gg) u)⟩
def J3(t:js):bp:=λf P=>t f λd=>d.length<=sizeLine/\P (.tup d)
def Qn(t:js):bp:=λf P=>t f λd=>d.length<=sizeLine/\P (.lst d)
theorem cz{d}(h:DA Z X es t):DE Z X (.Tuple es d pos) (J3 t):=by
 refine(OL h).imp ?_;intro n H Q i;rfl';obtain⟨G,k,P,s,e,h,q⟩:=i;ac_rfl;refine⟨G,k,_,s,e,h,?_⟩;rintro r ⟨l,m⟩ u v w d f;exact⟨by rw[f.length];exact l,λp g=>q _ m _ _ _ (d.trans (.new d.sub g)) (.tup aB (f.mono (bf (d.sub.free g) _)))⟩
theorem cL(h:DA Z X es t):DE Z X (.List es pos) (Qn t):=by
 refine(tT h).imp ?_;intro n H Q i;rfl';obtain⟨G,k,P,s,e,h,q⟩:=i;ac_rfl;refine⟨G,k,_,s,e,h,?_⟩;rintro r ⟨l,m⟩ u v w d f;exact⟨by rw[f.length];exact l,λp g=>q _ m _ _ _ (d.trans (.new d.sub g)) (.lst aB (f.mono (bf (d.sub.free g) _)))⟩
def xG(r:List D->(D->Prop)->Prop)(t:js):bp:=λd P=>t d λf=>r f P
theorem uK:∀f H Q,e8 Z (xG r t) f H Q->Fy Z t f H λg i=>iU Z r g i Q:=by
 intro f H Q k;rfl';obtain⟨G,m,P,s,e,h,q⟩:=k;ac_rfl;exact⟨G,m,_,s,e,h,λn o g p i j u=>⟨p,n,P,j.sub,u,o,λd w v x y z dv=>q d w v x y (j.trans z) dv⟩⟩
theorem J5(F:FnOk X.prog X.w X.K X.mg X.base b9 k f g i (aV Z d))(m:dq k X.A)(n:Gl X x)(o:X.mg x=some (.ref f))(r:PySem.W.keepIn X.K (.ref f)=true)(u:Binds X.K g i [])
  (v:DA Z X (e::es) t) (y:(x==("__debug__":Str))=false:=by decide) (z:starEach (e::es) X.env=(false,eval e X.env)::starEach es X.env:=by rfl) (B:(backTo pos (starEach es X.env)).any (·.1)=false:=by rfl):
  DE Z X (.Call (.Name x p) (e::es) [] pos) (xG d t):=
 (DX F m n o r u .nil yG v y z B).imp λC H Q h=>by
  rfl';have h:=uK C H Q h;obtain⟨G,I,P,s,e,h,q⟩:=h;ac_rfl;exact⟨G,I,P,s,e,h,λJ L j M l N O=>by show aV Z d (j++ []) l Q E0;rw[m8];exact q J L j M l N O⟩
theorem aH{id:String}{x:Str}{p:Pos}{r:List D->(D->Prop)->Prop}(d:cK X (.builtin id) (iU Z r))(f:Gl X x)(g:X.mg x=none)(h:bootBuiltins x=some (.builtin id))(i:DA Z X (e::es) t)(j:x≠"__name__":=by decide)(k:(x==("__debug__":Str))=false:=by decide)
  (l:starEach (e::es) X.env=(false,eval e X.env)::starEach es X.env:=by rfl) (m:(backTo pos (starEach es X.env)).any (·.1)=false:=by rfl):
  DE Z X (.Call (.Name x p) (e::es) [] pos) (xG r t):=(qF d f g h i j k l m).imp uK
theorem fo(d:cK X (.type T) (iU Z r))(f:Gl X x)(g:X.mg x=none)(h:bootBuiltins x=some (.type T))(i:DA Z X (e::es) t)(j:x≠"__name__":=by decide)(k:(x==("__debug__":Str))=false:=by decide)
  (l:starEach (e::es) X.env=(false,eval e X.env)::starEach es X.env:=by rfl) (m:(backTo pos (starEach es X.env)).any (·.1)=false:=by rfl):
  DE Z X (.Call (.Name x p) (e::es) [] pos) (xG r t):=(so d f g h i j k l m).imp uK
end
end L2
namespace L2
open PySem PySem.Spec PyProof.Rows
section
variable {Z:DC} {X:Cx}
def Qi:gz:=λx y P=>match x,y with
 | .int i, .int j=>P (.int (i+j))
 | .lst a, .lst b=>a.length+b.length<=sizeLine/\P (.lst (a++b))
 | .tup a, .tup b=>a≠ []/\a.length+b.length<=sizeLine/\b≠ []/\P (.tup (a++b))
 |_,_=>False
def dI(c:Int->Int->Prop)(g:Int->Int->Int):gz:=λx y P=>match x,y with
 | .int i, .int j=>c i j/\P (.int (g i j))
 |_,_=>False
def R0(g:Int->Int->Int):gz:=λx y P=>match x,y with
 | .int i, .int j=>P (.int (g i j))
 |_,_=>False
def Wm:gz:=R0 λi j=>i-j
def Qo:gz:=λx y P=>match x,y with
 | .int i, .int j=>Gx i j/\P (.int (i*j))
 | .lst a, .int k=> -(2^63)<=k/\k<2^63/\a.length*k.toNat<=sizeLine/\P (.lst (List.replicate k.toNat a).flatten)
 |_,_=>False
def V6:gz:=dI Px λi j=>i / j
def We:gz:=dI (λ_ j=>0<j) λi j=>i%j
def Wi:gz:=dI Gy λi j=>i^j.toNat
theorem wV(h:OpR X f (rI c λi j=> .int (g i j))):OpR X f (bY Z (dI c g)):=by
 refine h.imp ?_;intro x y H Q e;rfl';obtain⟨G,a,b,P,s,l,m,d,q⟩:=e;ac_rfl;unfold dI at d
 split at d
 ·exact⟨_,_,l.ofInt,m.ofInt,d.1,q _ d.2 _ G H (.refl s) (.int _)⟩
 ·exact d.elim
theorem N9(h:OpR X f (zC λi j=> .int (g i j))):OpR X f (bY Z (R0 g)):=by
 refine h.imp ?_;intro x y H Q d;rfl';obtain⟨G,a,b,P,s,k,l,c,q⟩:=d;ac_rfl;unfold R0 at c
 split at c
 ·exact⟨_,_,k.ofInt,l.ofInt,q _ c _ G H (.refl s) (.int _)⟩
 ·exact c.elim
theorem wX:OpR X (binaryOp .Sub) (bY Z Wm):=N9 Oz
theorem iq:OpR X (binaryOp .FloorDiv) (bY Z V6):=wV LF
theorem cB:OpR X (binaryOp .Mod) (bY Z We):=wV Ou
theorem Hb:OpR X (binaryOp .Pow) (bY Z Wi):=wV Ox
theorem bP(e:X.K=Z.K:=by rfl):OpR X (binaryOp .Add) (bY Z Qi):=by
 refine(Oo.or (BD.or (LD))).imp ?_;rintro x y H Q ⟨G,a,b,P,s,h,i,c,q⟩;unfold Qi at c
 split at c
 ·exact .inl ⟨_,_,h.ofInt,i.ofInt,q _ c _ G H (.refl s) (.int _)⟩
 ·obtain⟨r,t,rfl,j,d⟩:=h.jA
  obtain⟨u,k,rfl,l,f⟩:=i.jA;obtain⟨m,n⟩:=c;refine .inr (.inl ⟨_,_,_,_,rfl,rfl,s _ _ j,s _ _ l,by rw[d.length,f.length];exact m,λp g=>?_⟩)
  exact q _ n _ _ _ (.new s g) (.lst aB ((d.append f).mono (bf (s.free g) _)))
 ·obtain⟨r,t,rfl,j,d⟩:=h.sh
  obtain⟨u,k,rfl,l,f⟩:=i.sh;obtain⟨v,m,o,n⟩:=c;refine .inr (.inr ⟨_,_,_,_,rfl,rfl,eW.of (s _ _ j),eW.of (s _ _ l),?_,by rw[d.length,f.length];exact m,?_⟩)
  ·rintro rfl;cases d;exact v rfl
  ·refine⟨?_,λ_ p g=>q _ n _ _ _ (.new s g) (.tup aB ((d.append f).mono (bf (s.free g) _)))⟩
   rintro rfl;cases f;exact(o rfl).elim
 ·exact c.elim
theorem DvAll.rep(h:DvAll Z G a b):∀k:Nat,DvAll Z G (List.replicate k a).flatten (List.replicate k b).flatten
 |0=> .nil
 |k+1=>by rw[vW,vW,iI,iI];exact h.append (DvAll.rep h k)
theorem kW:OpR X (binaryOp .Mult) (bY Z Qo):=by
 refine(Ov.or Hf).imp ?_;intro x y H Q h;rfl';obtain⟨G,a,b,P,s,d,e,c,q⟩:=h;ac_rfl;unfold Qo at c
 split at c
 ·exact .inl ⟨_,_,d.ofInt,e.ofInt,c.1,q _ c.2 _ G H (.refl s) (.int _)⟩
 ·obtain⟨r,t,rfl,j,f⟩:=d.jA
  obtain⟨k,l,m,n⟩:=c;refine .inr ⟨_,_,_,rfl,e.ofInt,s _ _ j,k,l,by rw[f.length];exact m,λp g=>?_⟩
  exact q _ n _ _ _ (.new s g) (.lst aB ((f.rep _).mono (bf (s.free g) _)))
 ·exact c.elim
mutual
def D.py:D->Option PyData
 | .bA=>some .none
 | .bl b=>some (.bool b)
 | .int i=>some (.int i)
 | .str x=>some (.str x)
 | .lst l=>(f6 l).map PyData.list
 | .tup l=>(f6 l).map PyData.tuple
 | .jF _=>none
 | .rng _ _=>none
 | .obj _=>none
 | .eM _=>none
 | .set _ _=>none
 | .x _=>none
 | .err _ _ _=>none
def f6:List D->Option (List PyData)
 | []=>some []
 |d::ds=>(D.py d).bind λa=>(f6 ds).map λas=>a::as
end
theorem Dv.dp{K:PySem.W.Frag}{G:Hp}{v:V}{d:D}(h:Dv Z G v d):∀{e:PyData},d.py=some e->Dp K G v e:=by
 refine Dv.rec (motive_1:=λv d _=>∀{e:PyData},d.py=some e->Dp K G v e) (motive_2:=λn f _=>∀{g:List PyData},f6 f=some g->ju K G n g) ?_ ?_ ?_ ?_ ?_ ?_ ?_ ?_ ?_ ?_ ?_ ?_ ?_ ?_ ?_ h
 ·intro e h;rw[D.py] at h;cases h;exact .bA
 ·intro b e h;rw[D.py] at h;cases h;exact .bl b
 ·intro i e h;rw[D.py] at h;cases h;exact .int i
 ·intro x k e h;rw[D.py] at h;cases h;exact .str x k
 ·intro a o f q _ j e h
  rw[D.py] at h;cases c:f6 f with
  |none=>rw[c] at h;cases h
  |some l=>rw[c] at h;cases h;exact .lst (cM.of q) (j c)
 ·intro a o f q _ j e h
  rw[D.py] at h;cases c:f6 f with
  |none=>rw[c] at h;cases h
  |some l=>rw[c] at h;cases h;exact .tup (eW.of q) (j c)
 ·intro a e h;simp[D.py] at h
 ·intro a lo u _ e h;simp[D.py] at h
 ·intro a r _ _ e h;simp[D.py] at h
 ·intro p z R w _ _ _ _ _ _ e h;simp[D.py] at h
 ·intro a b r _ e h;simp[D.py] at h
 ·intro a A k _ _ e h;simp[D.py] at h
 ·intro a C B E o f _ _ _ _ e h;simp[D.py] at h
 ·intro g h;rw[f6] at h;cases h;exact .nil
 ·intro v n d f _ _ s t g h
  rw[f6] at h;cases c:d.py with
  |none=>rw[c] at h;cases h
  |some x=>
   rw[c] at h;cases m:f6 f with
   |none=>rw[m] at h;cases h
   |some y=>rw[m] at h;cases h;exact .cons (s c) (t m)
theorem eW.mono{K:PySem.W.Frag}{H b:Hp}(s:bh H b)(h:eW K H a c):eW K b a c:=by
 rcases h with (h| ⟨o,h⟩) |h
 ·exact .inl (.inl (s _ _ h))
 ·exact .inl (.inr ⟨o,s _ _ h⟩)
 ·exact .inr h
theorem Dp.mono{K:PySem.W.Frag}{G H:Hp}(s:bh G H)(h:Dp K G v d):Dp K H v d:=
 Dp.rec (motive_1:=λv d _=>Dp K H v d) (motive_2:=λc e _=>ju K H c e) .bA .bl .int .str (λh _ a=> .lst (h.mono s) a) (λh _ a=> .tup (h.mono s) a) .nil (λ_ _ a b=> .cons a b) h
def Qj(neg:Bool):gz:=λx y P=>∃a b,x.py=some a/\y.py=some b/\a.depth<=64/\P (.bl (if neg then !PyData.eqv a b else PyData.eqv a b))
abbrev sU:gz:=Qj false
abbrev wc:gz:=Qj true
theorem fL(e:X.A.units+64<cLine):OpR X (compareOp .Eq) (bY Z sU):=by
 refine(Oq e).imp ?_;intro x y H Q f;rfl';obtain⟨G,a,b,P,s,h,i,⟨c,d,j,k,l,m⟩,q⟩:=f;ac_rfl;exact⟨c,d,(h.dp j).mono s,(i.dp k).mono s,l,q _ m _ G H (.refl s) (.bl _)⟩
theorem pF(e:X.A.units+64<cLine):OpR X (compareOp .NotEq) (bY Z wc):=by
 refine(Ow e).imp ?_;intro x y H Q f;rfl';obtain⟨G,a,b,P,s,h,i,⟨c,d,j,k,l,m⟩,q⟩:=f;ac_rfl;exact⟨c,d,(h.dp j).mono s,(i.dp k).mono s,l,q _ m _ G H (.refl s) (.bl _)⟩
theorem sV(h:P (.bl (decide (i=j)))):sU (.int i) (.int j) P:=⟨.int i, .int j,rfl,rfl,by simp[PyData.depth],by
 have:PyData.eqv (.int i) (.int j)=decide (i=j):=by
  rw[PyData.eqv]
  by_cases z:i=j<;>simp[z]
 simpa [this] using h⟩
theorem CG(h:P (.bl (!decide (i=j)))):wc (.int i) (.int j) P:=⟨.int i, .int j,rfl,rfl,by simp[PyData.depth],by
 have:PyData.eqv (.int i) (.int j)=decide (i=j):=by
  rw[PyData.eqv]
  by_cases z:i=j<;>simp[z]
 simpa [this] using h⟩
def zO(p:Int->Int->Bool):gz:=λx y P=>match x,y with
 | .int i, .int j=>P (.bl (p i j))
 |_,_=>False
theorem tN(h:OpR X f (zC λi j=> .bl (p i j))):OpR X f (bY Z (zO p)):=by
 refine h.imp ?_;intro x y H Q d;rfl';obtain⟨G,a,b,P,s,g,k,c,q⟩:=d;ac_rfl;unfold zO at c
 split at c
 ·exact⟨_,_,g.ofInt,k.ofInt,q _ c _ G H (.refl s) (.bl _)⟩
 ·exact c.elim
end
end L2
namespace L2
open PySem PySem.Spec PyProof.Rows
section
variable {Z:DC} {X:Cx}
abbrev dLt:gz:=zO λi j=>decide (i<j)
abbrev dLe:gz:=zO λi j=>decide (i<=j)
abbrev dGt:gz:=zO λi j=>decide (j<i)
abbrev dGe:gz:=zO λi j=>decide (j<=i)
theorem nJ:OpR X (compareOp .Lt) (bY Z dLt):=tN TL
theorem yu:OpR X (compareOp .LtE) (bY Z dLe):=tN TK
theorem Lw:OpR X (compareOp .Gt) (bY Z dGt):=tN TJ
theorem TB:OpR X (compareOp .GtE) (bY Z dGe):=tN TH
def Fp:D->Bool
 | .bA=>true
 |_=>false
def Ql(neg:Bool):gz:=λx y P=>match y with
 | .bA=>P (.bl (if neg then !Fp x else Fp x))
 |_=>False
theorem Ac(h:Dv Z G v d):decide (v= .bA)=Fp d:=by cases h<;>rfl
theorem uP:OpR X (compareOp .Is) (bY Z (Ql false)):=by
 refine Ot.imp ?_;rintro x y H Q ⟨G,a,b,P,s,d,e,c,q⟩;cases e<;>first|exact c.elim|skip
 exact⟨rfl,by rw[Ac d];exact q _ c _ G H (.refl s) (.bl _)⟩
theorem uQ:OpR X (compareOp .IsNot) (bY Z (Ql true)):=by
 refine LG.imp ?_;rintro x y H Q ⟨G,a,b,P,s,d,e,c,q⟩;cases e<;>first|exact c.elim|skip
 exact⟨rfl,by rw[Ac d];exact q _ c _ G H (.refl s) (.bl _)⟩
def dF:D->Bool
 | .bA=>true
 | .bl _=>true
 | .int _=>true
 | .str _=>true
 |_=>false
def iG:D->D->Bool
 | .bA, .bA=>true
 | .bl a, .bl b=>a==b
 | .bl a, .int b=>(if a then 1 else 0)==b
 | .int a, .bl b=>a==(if b then 1 else 0)
 | .int a, .int b=>a==b
 | .str a, .str b=>a==b
 |_,_=>false
def inD(x:D)(l:List D):Bool:=l.any λy=>iG y x
theorem tE(h:Dv Z G v d):hZ v=dF d:=by cases h<;>rfl
theorem pA(h:DvAll Z G b c):b.all hZ=c.all dF:=h.ind (p:=λb c=>b.all hZ=c.all dF) rfl λa _ e=>by rw[acX,acX,tE a,e]
theorem Bg(h:Dv Z G v d)(k:Dv Z G u e):xN v u=iG d e:=by cases h<;>first|rfl| (cases k<;>rfl)
theorem Fm(h:Dv Z G v d):∀{b:List V}{c:List D},DvAll Z G b c->NU v b=inD d c
 |_,_, .nil=>rfl
 |_,_, .cons a as=>by
  unfold NU inD;rw[acY,acY,Bg a h];exact FS _ (Fm h as)
def JX(neg:Bool):gz:=λx y P=>match y with
 | .lst l=>dF x=true/\l.all dF=true/\P (.bl (if neg then !inD x l else inD x l))
 | .tup l=>dF x=true/\l.all dF=true/\P (.bl (if neg then !inD x l else inD x l))
 |_=>False
theorem Mi:∀x y H Q,bY Z (JX neg) x y H Q->T7 X.K neg x y H Q:=by
 rintro x y H Q ⟨G,a,b,P,s,c,k,d,q⟩;cases k<;>first|exact d.elim|skip
 ·rename_i p f l h e
  obtain⟨g,i,j⟩:=d;refine⟨p,f,rfl, .inl (cM.of (s _ _ h)),by rw[tE c];exact g,by rw[pA e];exact i,?_⟩
  rw[Fm c e];exact q _ j _ G H (.refl s) (.bl _)
 ·rename_i p f l h e
  obtain⟨g,i,j⟩:=d;refine⟨p,f,rfl, .inr (eW.of (s _ _ h)),by rw[tE c];exact g,by rw[pA e];exact i,?_⟩
  rw[Fm c e];exact q _ j _ G H (.refl s) (.bl _)
theorem se:OpR X (compareOp .In) (bY Z (JX false)):=FR.imp Mi
theorem iV:OpR X (compareOp .NotIn) (bY Z (JX true)):=zB.imp Mi
def Wd:gz:=λx y P=>match x,y with
 | .lst l, .int i=>∃d,fJ l i=some d/\P d
 | .tup l, .int i=>∃d,fJ l i=some d/\P d
 | .jF l, .int i=>∃n,fJ l i=some n/\P (.int n)
 |_,_=>False
theorem A3(h:DvAll Z G b a)(e:fJ a i=some d):∃v,fJ b i=some v/\Dv Z G v d:=by
 unfold fJ at e ⊢;rw[h.length];cases z:jN a.length i with
 |none=>rw[z] at e;cases e
 |some j=>rw[z] at e;exact h.get e
theorem JH(f:a->b)(l:List a)(i:Int):fJ (l.map f) i=(fJ l i).map f:=by
 unfold fJ;rw[aD];cases jN l.length i with
 |none=>rfl
 |some j=>show(l.map f)[j]? =_;rw[bQ];rfl
variable {a b c e:Expr} {ta tb tc te:bp} {pos:Pos}
theorem aE(p:DE Z X a ta)(r:DE Z X b tb)(t:X.K=Z.K:=by rfl)(u:xk b:=by exact λ_ _=>rfl):DE Z X (.Subscript a b pos) (HP Wd ta tb):=by
 refine(LN (Dr.or NW) p r u).imp λw H Q h=>?_;rfl';obtain⟨G,x,P,s,e,h,q⟩:=By w H Q h;ac_rfl;refine⟨G,x,P,s,e,h,λd y v z A B dv=>?_⟩;rfl';obtain⟨C,E,F,I,J,L,M⟩:=q d y v z A B dv;ac_rfl;refine⟨C,E,F,I,J,L,λN k O R S T U=>?_⟩;obtain⟨G,a,b,P,s,l,m,f,q⟩:=M N k O R S T U;unfold Wd at f
 split at f
 ·obtain⟨d,i,j⟩:=f
  obtain⟨_,_,rfl,h,e⟩:=l.jA;obtain⟨v,n,dv⟩:=A3 e i;exact .inl ⟨_,_,_,v,rfl,m.ofInt,cM.of (s _ _ h),n,q _ j _ G _ (.refl s) dv⟩
 ·obtain⟨d,i,j⟩:=f
  obtain⟨_,_,rfl,h,e⟩:=l.sh;obtain⟨v,n,dv⟩:=A3 e i;exact .inr ⟨_,_,_,v,rfl,m.ofInt,eW.of (s _ _ h),n,q _ j _ G _ (.refl s) dv⟩
 rotate_left
 ·exact f.elim
 ·obtain⟨d,i,j⟩:=f
  rfl';obtain⟨_,rfl,h,_⟩:=l.Ly;ac_rfl;refine .inl ⟨_,_,_, .int d,rfl,m.ofInt,by rw[t];exact h.mono s,by rw[JH,i];rfl,q _ j _ G _ (.refl s) (.int d)⟩
def cutD{f:Type}(d:List f)(lo g:Option Int):List f:=(d.drop (HT.cv d.length 0 lo)).take (HT.cv d.length d.length g-HT.cv d.length 0 lo)
theorem GF(h:DvAll Z G d f)(lo g:Option Int):DvAll Z G (vv d lo g) (cutD f lo g):=by
 unfold vv cutD;rw[h.length];exact(h.drop _).take _
theorem HM(f:d->h)(l:List d)(lo g:Option Int):cutD (l.map f) lo g=(cutD l lo g).map f:=by
 unfold cutD;rw[aD,sO,adu]
abbrev EA:=DN->(Option Int->Prop)->Prop
def J0:EA:=λ_ P=>P none
def R6(t:bp):EA:=λf P=>t f λd=>match d with
 | .int i=>P (some i)
 |_=>False
def Tq(Z:DC)(t:EA):TO:=λg H Q=>∃(G:Hp)(d:DN)(P:Option Int->Prop),bh G H/\eU Z G g d/\t d P/\∀o,P o->∀h f,Ext G H h f->Q o f
def DO(Z:DC)(X:Cx)(e:Option Expr)(t:EA):Prop:=PO X e (Tq Z t)
theorem PO.imp{e:Option Expr}(h:PO X e t)(f:∀g H Q,i g H Q->t g H Q):PO X e i:=λd s g H Q I q=>h d s g H Q I (f _ _ _ q)
theorem jd:DO Z X none J0:=by
 refine L0.imp λg H Q d=>?_;rfl';obtain⟨G,i,P,s,e,p,q⟩:=d;ac_rfl;exact q _ p G H (.refl s)
theorem je(h:DE Z X e te):DO Z X (some e) (R6 te):=by
 refine(L3 h).imp ?_;intro n H Q g;rfl';obtain⟨G,j,P,s,e,h,q⟩:=g;ac_rfl;refine⟨G,j,_,s,e,h,λd f v k l m dv=>?_⟩;cases dv<;>first|exact f.elim|skip
 exact⟨_,rfl,q _ f k l m⟩
def dSl(g:bp)(h i:EA):bp:=λf P=>g f λx=>h f λlo=>i f λd=>match x with
 | .lst l=>P (.lst (cutD l lo d))
 | .tup l=>¬(HT.cv l.length 0 lo=0/\HT.cv l.length l.length d=l.length)/\P (.tup (cutD l lo d))
 | .jF l=>P (.lst ((cutD l lo d).map D.int))
 |_=>False
variable {lo hi:Option Expr} {tl th:EA} {p2:Pos}
theorem gP(r:DE Z X e te)(m:DO Z X lo tl)(g:DO Z X hi th)(t:X.K=Z.K:=by rfl):DE Z X (.Subscript e (.Slice lo hi none p2) pos) (dSl te tl th):=by
 refine(Jb (Mu.or O3) r m g).imp ?_;intro C H Q w;rfl';obtain⟨G,n,P,s,o,h,q⟩:=w;ac_rfl;refine⟨G,n,_,s,o,h,λd z v A F j dv=>?_⟩;refine⟨A,n,_,j.sub,o.mono j.gg,z,λl m B I k=>?_⟩;refine⟨B,n,_,k.sub,(o.mono j.gg).mono k.gg,m,λu g J L f=>?_⟩;have x:=(j.trans k).trans f;have dv:=(dv.mono k.gg).mono f.gg;cases dv<;>first|exact g.elim|skip
 ·rename_i h e
  exact .inl ⟨_,_,rfl,cM.of (f.sub _ _ h),λp i=>q _ g _ _ _ (x.trans (.new f.sub i)) (.lst aB ((GF e l u).mono (bf (f.sub.free i) _)))⟩
 ·rename_i h e
  refine .inr ⟨_,_,rfl,eW.of (f.sub _ _ h),by rw[e.length];exact g.1,λp i=>q _ g.2 _ _ _ (x.trans (.new f.sub i)) (.tup aB ((GF e l u).mono (bf (f.sub.free i) _)))⟩
 ·rename_i h _
  refine .inl ⟨_,_,rfl,by rw[t];exact h.mono f.sub,λp i=>q _ g _ _ _ (x.trans (.new f.sub i)) (.lst aB ?_)⟩
  show DvAll Z _ (cutD _ l u) _;rw[HM];exact .ints _
def Cq:cg:=λd P=>match d with
 | [.lst l]=>P (.int l.length)
 | [.tup l]=>P (.int l.length)
 | [.jF l]=>P (.int l.length)
 |_=>False
theorem bz(f:X.K=Z.K:=by rfl):cK X (.builtin "len") (iU Z Cq):=by
 refine zi.imp ?_;rintro g H Q ⟨G,i,P,s,dv,d,q⟩;unfold Cq at d
 split at d
 ·obtain⟨_,rfl,a⟩:=dv.ofOne
  obtain⟨_,_,rfl,h,e⟩:=a.jA;exact⟨_,_,rfl, .inl (cM.of (s _ _ h)),by rw[e.length];exact q _ d _ G H (.refl s) (.int _)⟩
 ·obtain⟨_,rfl,a⟩:=dv.ofOne
  obtain⟨_,_,rfl,h,e⟩:=a.sh;exact⟨_,_,rfl, .inr (eW.of (s _ _ h)),by rw[e.length];exact q _ d _ G H (.refl s) (.int _)⟩
 ·obtain⟨_,rfl,a⟩:=dv.ofOne
  obtain⟨_,rfl,h,_⟩:=a.Ly;exact⟨_,_,rfl, .inl (by rw[f];exact h.mono s),by rw[aD];exact q _ d _ G H (.refl s) (.int _)⟩
 ·exact d.elim
def JL:cg:=λd P=>match d with
 | [.lst l]=>P (.lst l)
 | [.tup l]=>P (.lst l)
 |_=>False
theorem mE:cK X (.type "list") (iU Z JL):=by
 refine qL.imp ?_;rintro g H Q ⟨G,i,P,s,dv,d,q⟩;unfold JL at d
 split at d
 ·obtain⟨_,rfl,a⟩:=dv.ofOne
  obtain⟨_,_,rfl,h,e⟩:=a.jA;exact⟨_,_,rfl, .inl (cM.of (s _ _ h)),λp f=>q _ d _ _ _ (.new s f) (.lst aB (e.mono (bf (s.free f) _)))⟩
 ·obtain⟨_,rfl,a⟩:=dv.ofOne
  obtain⟨_,_,rfl,h,e⟩:=a.sh;exact⟨_,_,rfl, .inr (eW.of (s _ _ h)),λp f=>q _ d _ _ _ (.new s f) (.lst aB (e.mono (bf (s.free f) _)))⟩
 ·exact d.elim
def Yk:String->D->Bool
 |"int", .int _=>true
 |"int", .bl _=>true
 |"bool", .bl _=>true
 |"list", .lst _=>true
 |"tuple", .tup _=>true
 |_,_=>false
def TF(n:String):Bool:=n=="int"||n=="bool"||n=="list"||n=="tuple"
def QK:D->Bool
 | .bA=>true
 | .bl _=>true
 | .int _=>true
 | .str _=>true
 | .lst _=>true
 | .tup _=>true
 |_=>false
def Wc(n:String)(t:bp):bp:=λf P=>t f λd=>QK d=true/\P (.bl (Yk n d))
theorem N5{K:PySem.W.Frag}{H:Hp}{v:V}{d:D}{n:String}(hn:TF n=true)(hd:QK d=true)(h:Dv Z H v d):∃t,kL K H v t/\PySem.W.kitOne K t (.type n)=some (Yk n d):=by
 unfold TF at hn;rw[Bool.or_eq_true,Bool.or_eq_true,Bool.or_eq_true,beq_iff_eq,beq_iff_eq,beq_iff_eq,beq_iff_eq] at hn;cases h with
 |bA=>refine⟨_, .bA,?_⟩;rcases hn with ((rfl|rfl) |rfl) |rfl<;>kernel_rfl
 |bl b=>refine⟨_, .bl b,?_⟩;rcases hn with ((rfl|rfl) |rfl) |rfl<;>kernel_rfl
 |int b=>refine⟨_, .int b,?_⟩;rcases hn with ((rfl|rfl) |rfl) |rfl<;>kernel_rfl
 |str b=>refine⟨_, .str b,?_⟩;rcases hn with ((rfl|rfl) |rfl) |rfl<;>kernel_rfl
 |lst h a=>refine⟨_, .lst h,?_⟩;rcases hn with ((rfl|rfl) |rfl) |rfl<;>kernel_rfl
 |tup h a=>refine⟨_, .tup h,?_⟩;rcases hn with ((rfl|rfl) |rfl) |rfl<;>kernel_rfl
 |_=>cases hd
end
section
variable {Z:DC} {X:Cx} {a b c e:Expr} {ta tb tc te:bp} {pos:Pos}
theorem qz(n:String)(l:DE Z X a ta)(m:Gl X "isinstance")(o:X.mg "isinstance"=none)(g:Gl X x)(r:X.mg x=none)(u:bootBuiltins x=some (.type n))(ok:TF n=true:=by decide)
  (w:x≠"__name__":=by decide) (y:(x==("__debug__":Str))=false:=by decide) (i:starEach [a, .Name x f] X.env=(false,eval a X.env)::starEach [.Name x f] X.env:=by rfl)
  (z:(backTo pos (starEach [.Name x f] X.env)).any (·.1)=false:=by rfl) (A:starEach [.Name x f] X.env=(false,eval (.Name x f) X.env)::starEach [] X.env:=by rfl):
  DE Z X (.Call (.Name "isinstance" p) [a, .Name x f] [] pos) (Wc n ta):=by
 have B:PE X (.Name x f) (tC (.ty n)):=LJ g r u rfl w y;refine(qF A7 m o (by decide+kernel) (dr l (dr B eQ A) i) (by decide) (by decide) i z).imp ?_
 intro O H Q C;rfl';obtain⟨G,F,P,s,e,h,q⟩:=C;ac_rfl;refine⟨G,F,_,s,e,h,?_⟩;rintro d ⟨I,J⟩ v L j k dv;obtain⟨t,M,N⟩:=N5 (K:=X.K) (H:=j) ok I (dv.mono k.sub);exact⟨v,n,t,_,rfl,M,N,q _ J _ L j k (.bl _)⟩
def uM(Z:DC)(g:fB):TG:=λv j H Q=>∃(G:Hp)(f:DN)(d:D)(P:DN->Prop),bh G H/\eU Z G j f/\Dv Z G v d/\g d f P/\∀h,P h->∀i,eU Z G i h->Q i H
def DG(Z:DC)(X:Cx)(e:Expr)(g:fB):Prop:=PG X e (uM Z g)
theorem PG.imp{e:Expr}(h:PG X e t)(f:∀v g H Q,i v g H Q->t v g H Q):PG X e i:=λd s g H v u Q I r q=>h d s g H v u Q I r (f _ _ _ _ q)
def wI(i:Nat):fB:=λd f P=>P (f.set i (some d))
theorem bI(i:Nat)(f:X.N.Nodup)(g:X.N[i]? =some x:=by rfl)(j:Loc X.env.scope x:=by exact Or.inl rfl)(k:X.fn x=true\/X.env.scope.names.lookup x=some .local:=by first|exact .inl rfl|exact .inr rfl|assumption):DG Z X (.Name x l) (wI i):=by
 refine(DY f g j k).imp λv o H Q m=>?_;rfl';obtain⟨G,r,d,P,s,e,dv,h,q⟩:=m;ac_rfl;exact q _ h _ (e.set dv)
abbrev n6:=List D->DN->(DN->Prop)->Prop
def N8(Z:DC)(g:n6):zh:=λj k H Q=>∃(G:Hp)(d:DN)(f:List D)(P:DN->Prop),bh G H/\eU Z G k d/\DvAll Z G j f/\g f d P/\∀h,P h->∀i,eU Z G i h->Q i H
def M6(Z:DC)(X:Cx)(d:List Expr)(g:n6):Prop:=AY X d (N8 Z g)
theorem AY.imp(h:AY X i t)(f:∀v g H Q,j v g H Q->t v g H Q):AY X i j:=λd s g H v u Q I r q=>h d s g H v u Q I r (f _ _ _ _ q)
def J8:n6:=λd f P=>d= []/\P f
def GJ(g:fB)(f:n6):n6:=λh i P=>match h with
 |d::r=>g d i λj=>f r j P
 | []=>False
theorem xJ:M6 Z X [] J8:=by
 refine DZ.imp λv g H Q d=>?_;rfl';obtain⟨G,j,k,P,s,e,dv,⟨h,p⟩,q⟩:=d;subst h;cases dv;ac_rfl;exact⟨rfl,q _ p _ e⟩
theorem jW(i:DG Z X e g)(j:M6 Z X d f)(k:(assignEach (e::d) X.env).map (·.2)=assign e X.env::(assignEach d X.env).map (·.2):=by rfl):M6 Z X (e::d) (GJ g f):=by
 refine(Ay i j k).imp ?_;intro v t H Q l;rfl';obtain⟨G,n,w,P,s,e,dv,h,q⟩:=l;ac_rfl;cases dv with
 |nil=>exact h.elim
 |cons a as=>
  refine⟨_,_,rfl,G,n,_,_,s,e,a,h,λo p x r=>?_⟩;exact⟨G,o,_,P,s,r,as,p,q⟩
def J9(n:Nat)(f:n6):fB:=λd g P=>match d with
 | .tup l=>l.length=n/\f l g P
 |_=>False
theorem Bb(n:Nat)(i:X.calm=true)(h:M6 Z X f g)(j:(assignEach f X.env).length=n:=by rfl)(l:(assignEach f X.env).findIdx? (·.1)=none:=by rfl):DG Z X (.Tuple f k pos) (J9 n g):=by
 refine(Hi i h j l).imp ?_;rintro v r H Q ⟨G,m,d,P,s,e,dv,h,q⟩;cases dv<;>first|exact h.elim|skip
 rename_i a o t p f
 exact⟨a,o,rfl,eW.of (s _ _ p),by rw[f.length];exact h.1,G,m,_,P,s,e,f,h.2,q⟩
def vk(Z:DC)(G:Hp)(J:It)(g:List D):Prop:=∀h f,bh G h->bh h f->∀i:Nat,(i<g.length->J.go i f)/\(g.length<=i->J.stop i f)/\
 ∀x j,i<g.length->J.yld i f x j->∃k d,Ext h f k j/\g[i]? =some d/\Dv Z k x d
def yg(Z:DC)(i:jt):TI:=λj H R=>∃(G:Hp)(d:DN)(P:List D->Prop),bh G H/\eU Z G j d/\i d P/\∀f,P f->∀J g h,Ext G H g h->vk Z g J f->R J h
def DI(Z:DC)(X:Cx)(d e:Expr)(f:jt):Prop:=PI X d e (yg Z f)
theorem PI.imp{i e:Expr}(h:PI X i e t)(f:∀g H Q,j g H Q->t g H Q):PI X i e j:=λd s g H Q I q=>h d s g H Q I (f _ _ _ q)
def Sd(t:bp):jt:=λf P=>t f λd=>match d with
 | .lst l=>P l
 |_=>False
def Sf(t:bp):jt:=λf P=>t f λd=>match d with
 | .tup l=>P l
 |_=>False
theorem K9{K:PySem.W.Frag}{G:Hp}{a:Addr}{f:List V}{j:List D}(h:G a=some (.lst f))(e:DvAll Z G f j):vk Z G (Q0 K a) j:=by
 intro o r k m i;have g:=cM.of (K:=K) (m _ _ (k _ _ h));have l:=e.length;refine⟨λn=>⟨f,f[i],g,bJ (by omega)⟩,λn=>⟨f,g,by omega⟩,?_⟩
 rintro x s n ⟨rfl,p⟩;obtain⟨d,q,dv⟩:=e.C4 (p _ g);exact⟨o,d, .refl m,q,dv.mono k⟩
theorem NV{K:PySem.W.Frag}{G:Hp}{a:Addr}{f:List V}{j:List D}(h:G a=some (.tup f))(e:DvAll Z G f j):vk Z G (Q1 K a) j:=by
 intro o r k m i;have g:=eW.of (K:=K) (m _ _ (k _ _ h));have l:=e.length;refine⟨λn=>⟨f,f[i],g,bJ (by omega)⟩,λn=>⟨f,g,by omega⟩,?_⟩
 rintro x s n ⟨rfl,p⟩;obtain⟨d,q,dv⟩:=e.C4 (p _ g);exact⟨o,d, .refl m,q,dv.mono k⟩
theorem bc(h:DE Z X e te):DI Z X j e (Sd te):=by
 refine(LV h).imp ?_;intro r H Q k;rfl';obtain⟨G,m,P,s,n,h,q⟩:=k;ac_rfl;refine⟨G,m,_,s,n,h,λd f v o p g dv=>?_⟩;cases dv<;>first|exact f.elim|skip
 rename_i i e
 exact⟨_,rfl,⟨_,cM.of (g.sub _ _ i)⟩,q _ f _ o p g (K9 i e)⟩
theorem Nu(h:DE Z X e te):DI Z X j e (Sf te):=by
 refine(ON h).imp ?_;intro r H Q k;rfl';obtain⟨G,m,P,s,n,h,q⟩:=k;ac_rfl;refine⟨G,m,_,s,n,h,λd f v o p g dv=>?_⟩;cases dv<;>first|exact f.elim|skip
 rename_i i e
 exact⟨_,rfl,⟨_,eW.of (g.sub _ _ i)⟩,q _ f _ o p g (NV i e)⟩
def eC(lo:Int)(n:Nat):List D:=(List.range n).map λ(k:Nat)=>D.int (lo+(k:Int))
theorem vK{lo:Int}{n i:Nat}(h:i<n):(eC lo n)[i]? =some (.int (lo+i)):=by
 unfold eC;rw[bQ,qq h];rfl
theorem Ae(lo:Int)(n:Nat):vk Z G (Nb lo n) (eC lo n):=by
 intro f h j g i;have l:(eC lo n).length=n:=by unfold eC;simp
 rw[l];refine⟨λd=>d,λd=>d,?_⟩;rintro x k d ⟨rfl,rfl⟩;exact⟨f,_, .refl g,vK d, .int _⟩
def Qr(t:js):jt:=λd P=>t d λf=>match f with
 | [.int j]=>(-(2^62)<=j/\j<2^62)/\P (eC 0 j.toNat)
 |_=>False
variable {t:js}
theorem EU(g:Gl X "range")(i:X.mg "range"=none)(j:DA Z X [a] t)(k:starEach [a] X.env= [(false,eval a X.env)]:=by rfl):DI Z X f (.Call (.Name "range" p) [a] [] pos) (Qr t):=by
 refine(yI g i j k).imp ?_;intro w H Q l;rfl';obtain⟨G,n,P,s,o,h,q⟩:=l;ac_rfl;refine⟨G,n,_,s,o,h,λy d z r u v dv=>?_⟩
 split at d
 ·obtain⟨_,rfl,a⟩:=dv.ofOne
  exact⟨_,by rw[a.ofInt],d.1.1,d.1.2,q _ d.2 _ r u v (Ae 0 _)⟩
 ·exact d.elim
def hV(l:List D):List D:=l.mapIdx λi x=> .tup [.int (i:Int),x]
def Nt(t:js):jt:=λd P=>t d λf=>match f with
 | [.lst l]=>P (hV l)
 |_=>False
theorem K8{K:PySem.W.Frag}{G:Hp}{a:Addr}{f:List V}{g:List D}(h:G a=some (.lst f))(e:DvAll Z G f g):vk Z G (QZ K a) (hV g):=by
 intro r s m j i;have k:=cM.of (K:=K) (j _ _ (m _ _ h));have l:=e.length;rw[show(hV g).length=g.length by unfold hV;simp]
 refine⟨λn=>⟨f,f[i],k,bJ (by omega)⟩,λn=>⟨f,k,by omega⟩,?_⟩
 rintro x u n ⟨t,y,rfl,o,rfl,p⟩;obtain⟨d,q,dv⟩:=e.C4 (p _ k);refine⟨_,_, .new j o,by unfold hV;rw[List.getElem?_mapIdx,q];rfl,?_⟩
 exact .tup aB (.cons (.int _) (.cons ((dv.mono m).mono (bf (j.free o) _)) .nil))
theorem kc{k1}(j:Gl X "enumerate")(k:X.mg "enumerate"=none)(l:DA Z X [a] t)(m:starEach [a] X.env= [(false,eval a X.env)]:=by rfl):DI Z X (.Tuple g k1 i) (.Call (.Name "enumerate" p) [a] [] pos) (Nt t):=by
 refine(LU j k l m).imp ?_;intro x H Q n;rfl';obtain⟨G,r,P,s,u,h,q⟩:=n;ac_rfl;refine⟨G,r,_,s,u,h,λz d A v w f dv=>?_⟩
 split at d
 ·obtain⟨_,rfl,a⟩:=dv.ofOne
  obtain⟨_,_,rfl,h,e⟩:=a.jA;exact⟨_,rfl,⟨_,f.sub _ _ h⟩,q _ d _ v w f (K8 h e)⟩
 ·exact d.elim
def AK(src:List (Option Nat))(d:DN):DN:=src.map λo=>o.bind λi=>(d[i]?).bind id
theorem eU.src(e:eU Z G l f)(src:List (Option Nat)):eU Z G (oI src l) (AK src f):=by
 refine⟨by unfold oI AK;simp,λi d h=>?_⟩
 unfold AK at h;unfold oI;rw[bQ] at h ⊢;cases k:src[i]? with
 |none=>rw[k] at h;cases h
 |some o=>
  rw[k] at h;cases o with
  |none=>cases h
  |some j=>
   have g:(f[j]?).bind id=some d:=Da h;cases m:f[j]? with
   |none=>rw[m] at g;cases g
   |some z=>
    rw[m] at g;rfl';have p:z=some d:=g;subst p;obtain⟨v,q,dv⟩:=e.at_ j d m;ac_rfl;exact⟨v,by show some ((l[j]?).bind id)=_;rw[q];rfl,dv⟩
def lcW(g:fB)(i:dQ)(j:bp):List D->DN->List D->(DN->List D->Prop)->Prop
 | [],k,f,N=>N k f
 |x::l,k,f,N=>g x k λh=>i h λb=>if b=true then j h λd=>f.length<sizeLine/\lcW g i j l h (f++ [d]) N else lcW g i j l h f N
def R3(f:jt)(g:fB)(h:dQ)(i:bp)(src:List (Option Nat)):bp:=λd P=>f d λj=>lcW g h i j (AK src d) [] λ_ out=>P (.lst out)
def qP(g:fB)(h:dQ)(i:jt)(j:fB)(k:dQ)(l:bp):List D->DN->List D->(List D->Prop)->Prop
 | [],_,d,P=>P d
 |x::m,n,d,P=>g x n λf=>h f λb=>if b=true then i f λo=>lcW j k l o f d λp q=>qP g h i j k l m p q P else qP g h i j k l m f d P
def Qm(f:jt)(g:fB)(h:dQ)(i:jt)(j:fB)(k:dQ)(l:bp)(src:List (Option Nat)):bp:=λd P=>f d λm=>qP g h i j k l m (AK src d) [] λout=>P (.lst out)
def xI:dQ:=λ_ P=>P true
def zf(Z:DC)(X:Cx)(d:List Expr)(t:dQ):Prop:=oS X d (liftT Z t)
theorem oS.imp{t j:TT}(h:oS X d t)(f:∀i H Q,j i H Q->t i H Q):oS X d j:=λg s i H Q I q=>h g s i H Q I (f _ _ _ q)
theorem dM:zf Z X [] xI:=by
 refine L8.imp λg H Q d=>?_;rfl';obtain⟨G,i,P,s,e,p,q⟩:=d;ac_rfl;exact q _ p G H (.refl s)
theorem jf(h:DT Z X c d):zf Z X [c] d:=L9 h
def CS(Z:DC)(f g:Hp)(h:Addr)(j:DN)(d:List D)(k:St)(H:Hp):Prop:=
 ∃(G:Hp)(i:List V),bh f G/\bh G H/\bh g H/\(∀b,g b≠none->f b=none->G b=none)/\G h=none/\H h=some (.lst i)/\DvAll Z G i d/\eU Z G k j
theorem jn(s:bh H d){b:Addr}(h:H b≠none):d b≠none:=λz=>by
 cases e:H b with
 |none=>exact h e
 |some o=>rw[s b o e] at z;cases z
theorem tu{d:Type}{l:List d}{i:Nat}{x:d}(h:l[i]? =some x):l.drop i=x::l.drop (i+1):=by
 obtain⟨f,e⟩:=di.mp h;rw[rk f,e]
theorem Aj(hA:n f=none)(B:Hp)(it:vk Z B J p)(i:Nat)(M:DN)(k:List D)(σ:St)(H:Hp)
  (c:CS Z m n f M k σ H) (hG:∀G,bh m G->bh B G) (hi:i<p.length) (h:lcW g w A (p.drop i) M k N):
  J.go i H/\∀x C,J.yld i H x C->uM Z g x σ C λq H4=>liftT Z w q H4 λb O=>
   if b=true then e8 Z A q O λv Q=>∃l,Q f=some (.lst l)/\l.length<sizeLine/\(∃r s,CS Z m n f r s q (upd Q f (.lst (l++ [v])))/\lcW g w A (p.drop (i+1)) r s N)
   else ∃r s,CS Z m n f r s q O/\lcW g w A (p.drop (i+1)) r s N:=by
 rfl';obtain⟨S,l,T,s2,U,off,gA,Y,a,en⟩:=c;obtain⟨go,_,yld⟩:=it S H (hG _ T) s2 i;ac_rfl;refine⟨go hi,λx C y=>?_⟩;rfl';obtain⟨G3,d,E,hd,dv⟩:=yld x C hi y;rw[tu hd] at h;ac_rfl;refine⟨G3,M,d,_,E.sub,en.mono E.gg,dv,h,λF I q L=>?_⟩;refine⟨G3,F,_,E.sub,L,I,λb hb G5 O u=>?_⟩;have j:=E.trans u;have t:∀{G X:Hp},Ext S H G X->G f=none:=λx=>x.off f (by rw[Y];exact λz=>nomatch z) gA
 have DQ:∀{G X:Hp},Ext S H G X->∀b,n b≠none->m b=none->G b=none:=λx b I h2=>x.off b (jn U I) (off b I h2);cases b with
 |false=>
  refine cj ⟨F,k,⟨G5,l,T.trans j.gg,j.sub,U.trans j.hh,DQ j,t j,j.hh _ _ Y,a.mono j.gg,L.mono u.gg⟩,?_⟩;simpa using hb
 |true=>
  refine eY ⟨G5,F,_,u.sub,L.mono u.gg,(by simpa using hb),λd' jv v G6 Q x6 dv6=>?_⟩
  have x:=j.trans x6;refine⟨l,x.hh _ _ Y,by rw[a.length];exact jv.1,F,_,⟨G6,l++ [v],T.trans x.gg,λb o e=>?_,λb o e=>?_,DQ x,t x,aB,(a.mono x.gg).snoc dv6,(L.mono u.gg).mono x6.gg⟩,jv.2⟩
  ·rw[aO (bu e (t x))];exact x.sub _ _ e
  ·rw[aO (bu e hA)];exact(U.trans x.hh) _ _ e
theorem CS.done(c:CS Z i h d p f q j)(g:Ext G H i h)(r:h d=none):∃k,Ext G H k j/\Dv Z k (.ref d) (.lst f):=by
 rfl';obtain⟨u,v,w,x,y,off,l,A,B,F⟩:=c;ac_rfl;refine⟨upd u d (.lst v),⟨(g.gg.trans w).trans (bf l _),λb o e=>?_,g.hh.trans y,λb m C=>?_⟩, .lst aB (B.mono (bf l _))⟩
 ·by_cases z:b=d
  ·subst z;rw[aB] at e;cases e;exact A
  ·rw[aO z] at e;exact x _ _ e
 ·have n:=jn g.hh m
  rw[aO (λz=>n (by rw[z];exact r))]
  exact off b n (g.off b m C)
theorem CS.begin(s:bh d f)(i:f g=none)(l:eU Z d k j):CS Z d f g j [] k (upd f g (.lst [])):=
 ⟨d,[], .refl _,λb o e=>by rw[aO (bu e (s.free i))];exact s _ _ e,bf i _,λ_ _ h=>h,s.free i,aB, .nil,l⟩
variable {tg iter elt:Expr} {ifs:List Expr} {scope:Scope} {NC:List Str} {src:List (Option Nat)} {wi:jt} {g:fB} {tt:dQ}
theorem GX:∀o H Q,e8 Z (R3 wi g tt te src) o H Q->Pf (yg Z wi) (uM Z g) (liftT Z tt) (e8 Z te) src o H Q:=by
 intro o H Q C;rfl';obtain⟨G,E,P,s,y,h,q⟩:=C;ac_rfl;refine⟨G,E,_,s,y,h,λf F J z I p A L r=>?_⟩;refine⟨λi m u k=>m=f.length-i/\i<=f.length/\∃l d,CS Z z I L l d u k/\lcW g tt te (f.drop i) l d λ_ out=>P (.lst out),⟨_,rfl,dS _,_,[], .begin p.sub r ((y.mono p.gg).src src),F⟩,?_⟩;intro i m u k M;rfl';obtain⟨rfl,U,l,d,c,v⟩:=M;ac_rfl
 by_cases B:i<f.length
 ·obtain⟨N,turn⟩:=Aj r z A i l d u k c (λ_ s=>s) B v
  exact .inr ⟨N,_,λY a n=>⟨f.length-(i+1),by omega,rfl,B,n⟩,turn⟩
 ·have e:f.drop i= []:=Ey (by omega)
  rfl';rw[e] at v;obtain⟨O,x,dv⟩:=c.done p r;obtain⟨R,b,S,T,_⟩:=c;ac_rfl;exact .inl ⟨(A R k S T i).2.1 (by omega),q _ v _ O k x dv⟩
theorem nj(f:X.calm=true)(c:b6 X scope)(h:dJ scope X.N src NC)(i:DI Z X tg iter wi)
  (j:∀d s H,DG Z (cO X scope NC d s H) tg g) (k:∀d s H,zf Z (cO X scope NC d s H) ifs tt) (l:∀d s H,DE Z (cO X scope NC d s H) elt te)
  (m:∀x,foldedSetIterable iter X.env x=pure x:=by intro _;rfl):DE Z X (.ListComp elt [⟨tg,iter,ifs,0⟩] scope pos) (R3 wi g tt te src):=(LO f c h i j k l m).imp GX
variable {t0 i0 t1 i1:Expr} {f0 f1:List Expr} {g7:jt} {g1:fB} {eH:dQ}
theorem Lk:∀σ H Q,e8 Z (Qm wi g tt g7 g1 eH te src) σ H Q->QR (yg Z wi) (uM Z g) (liftT Z tt) (yg Z g7) (uM Z g1) (liftT Z eH) (e8 Z te) src σ H Q:=by
 intro σ H Q aQ;rfl';obtain⟨G,ρ,P,s,en,h,q⟩:=aQ;ac_rfl;refine⟨G,ρ,_,s,en,h,λp hd J F u x1 it l hA=>?_⟩;refine⟨λi m gr I=>m=p.length-i/\i<=p.length/\∃w j,CS Z F u l w j gr I/\qP g tt g7 g1 eH te (p.drop i) w j λout=>P (.lst out),⟨_,rfl,dS _,_,[], .begin x1.sub hA ((en.mono x1.gg).src src),hd⟩,?_⟩;intro i m gr I iZ;rfl';obtain⟨rfl,hi,w,j,c,hl⟩:=iZ;ac_rfl
 by_cases fV:i<p.length
 ·have c0:=c
  rfl';obtain⟨S,r,T,s2,s3,off,gA,wg,bC,en2⟩:=c;obtain⟨go,_,yld⟩:=it S I T s2 i;ac_rfl;refine .inr ⟨go fV,λU L=>∃Y a,CS Z F u l Y a U L/\qP g tt g7 g1 eH te (p.drop (i+1)) Y a λout=>P (.lst out),λU L n=>⟨p.length-(i+1),by omega,rfl,fV,n⟩,λx H3 y=>?_⟩
  rfl';obtain⟨G3,d,x3,Io,dv⟩:=yld x H3 fV y;rw[tu Io] at hl;ac_rfl;refine⟨G3,w,d,_,x3.sub,en2.mono x3.gg,dv,hl,λt M gu Bf=>?_⟩;refine⟨G3,t,_,x3.sub,Bf,M,λb X G5 H5 x5=>?_⟩;have A:=x3.trans x5;have Av:∀{G N:Hp},Ext S I G N->G l=none:=λx=>x.off l (by rw[wg];exact λz=>nomatch z) gA
  have DQ:∀{G N:Hp},Ext S I G N->∀b,u b≠none->F b=none->G b=none:=λx b M h2=>x.off b (jn s3 M) (off b M h2);cases b with
  |false=>exact cj ⟨t,j,⟨G5,r,T.trans A.gg,A.sub,s3.trans A.hh,DQ A,Av A,A.hh _ _ wg,bC.mono A.gg,Bf.mono x5.gg⟩,by simpa using X⟩
  |true=>
   refine eY ⟨G5,t,_,x5.sub,Bf.mono x5.gg,(by simpa using X),λO hes J1 G6 H6 x6 K7=>?_⟩
   have x:=A.trans x6;have c6:CS Z G6 H6 l t j gu H6->True:=λ_=>trivial
   refine⟨λk m uo B=>m=O.length-k/\k<=O.length/\∃(M5:DN)(Ck:List D),(∃(G:Hp)(r:List V),bh G6 G/\bh G B/\bh u B/\(∀b,u b≠none->F b=none->G b=none)/\G l=none/\B l=some (.lst r)/\DvAll Z G r Ck/\eU Z G uo M5)/\
    lcW g1 eH te (O.drop k) M5 Ck λw xn=>qP g tt g7 g1 eH te (p.drop (i+1)) w xn λout=>P (.lst out),
    ⟨_,rfl,dS _,t,j,⟨G6,r, .refl _,x.sub,s3.trans x.hh,DQ x,Av x,x.hh _ _ wg,bC.mono x.gg,(Bf.mono x5.gg).mono x6.gg⟩,hes⟩,?_⟩
   intro k m uo B iZ;rfl';obtain⟨rfl,hk,M5,Ck,⟨G7,Pp,a1,a2,a3,a4,a5,a6,a7,a8⟩,Iu⟩:=iZ;ac_rfl;have g16:bh F G6:=T.trans x.gg
   by_cases KU:k<O.length
   ·obtain⟨go1,_,abW⟩:=K7 G7 B a1 a2 k
    refine .inr ⟨go1 KU,λU L=>∃(Y:DN)(a:List D),(∃(G:Hp)(r:List V),bh G6 G/\bh G L/\bh u L/\(∀b,u b≠none->F b=none->G b=none)/\G l=none/\L l=some (.lst r)/\DvAll Z G r a/\eU Z G U Y)/\
     lcW g1 eH te (O.drop (k+1)) Y a λw xn=>qP g tt g7 g1 eH te (p.drop (i+1)) w xn λout=>P (.lst out),λU L n=>⟨O.length-(k+1),by omega,rfl,KU,n⟩,λy H8 hy=>?_⟩
    rfl';obtain⟨G8,d8,x8,hd8,dv8⟩:=abW y H8 KU hy;rw[tu hd8] at Iu;ac_rfl;refine⟨G8,M5,d8,_,x8.sub,a8.mono x8.gg,dv8,Iu,λPw h9 σ9 Nx=>?_⟩;refine⟨G8,Pw,_,x8.sub,Nx,h9,λb X UD M9 M3=>?_⟩;have C:=x8.trans M3;have oA:∀{G N:Hp},Ext G7 B G N->G l=none:=λx=>x.off l (by rw[a6];exact λz=>nomatch z) a5
    have oB:∀{G N:Hp},Ext G7 B G N->∀b,u b≠none->F b=none->G b=none:=λx b M h2=>x.off b (jn a3 M) (a4 b M h2);cases b with
    |false=>exact cj ⟨Pw,Ck,⟨UD,Pp,a1.trans C.gg,C.sub,a3.trans C.hh,oB C,oA C,C.hh _ _ a6,a7.mono C.gg,Nx.mono M3.gg⟩,by simpa using X⟩
    |true=>
     refine eY ⟨UD,Pw,_,M3.sub,Nx.mono M3.gg,(by simpa using X),λd' jv v G11 QW x11 W0=>?_⟩
     have E:=C.trans x11;refine⟨Pp,E.hh _ _ a6,by rw[a7.length];exact jv.1,Pw,_,⟨G11,Pp++ [v],a1.trans E.gg,λb o e=>?_,λb o e=>?_,oB E,oA E,aB,(a7.mono E.gg).snoc W0,(Nx.mono M3.gg).mono x11.gg⟩,jv.2⟩
     ·rw[aO (bu e (oA E))];exact E.sub _ _ e
     ·rw[aO (bu e hA)];exact(a3.trans E.hh) _ _ e
   ·have e:O.drop k= []:=Ey (by omega)
    rw[e] at Iu;exact .inl ⟨(K7 G7 B a1 a2 k).2.1 (by omega),M5,Ck,⟨G7,Pp,g16.trans a1,a2,a3,a4,a5,a6,a7,a8⟩,Iu⟩
 ·have e:p.drop i= []:=Ey (by omega)
  rfl';rw[e] at hl;obtain⟨G',x,dv⟩:=c.done x1 hA;obtain⟨S,r,T,s2,_⟩:=c;ac_rfl;exact .inl ⟨(it S I T s2 i).2.1 (by omega),q _ hl _ G' I x dv⟩
theorem Nm(f:X.calm=true)(c:b6 X scope)(h:dJ scope X.N src NC)(i:DI Z X t0 i0 wi)
  (j:∀d s H,DG Z (cO X scope NC d s H) t0 g) (k:∀d s H,zf Z (cO X scope NC d s H) f0 tt) (l:∀d s H,DI Z (cO X scope NC d s H) t1 i1 g7) (m:∀d s H,DG Z (cO X scope NC d s H) t1 g1)
  (n:∀d s H,zf Z (cO X scope NC d s H) f1 eH) (o:∀d s H,DE Z (cO X scope NC d s H) elt te)
  (p:∀x,foldedSetIterable i0 X.env x=pure x:=by intro _;rfl) (q:∀env x,foldedSetIterable i1 env x=pure x:=by intro _ _;rfl):
  DE Z X (.ListComp elt [⟨t0,i0,f0,0⟩,⟨t1,i1,f1,0⟩] scope pos) (Qm wi g tt g7 g1 eH te src):=(OG f c h i j k l m n o p q).imp Lk
end
inductive fc (R:V->D->List Addr->Prop):List V->List D->List Addr->Prop
 |nil:fc R [] [] []
 |cons {v:V} {vs:List V} {d:D} {ds:List D} {f fs:List Addr}:R v d f->fc R vs ds fs->fc R (v::vs) (d::ds) (f++fs)
def Yl:D->Bool
 | .lst _=>true
 |_=>false
def Own(Z:DC)(G H:Hp):Nat->V->D->List Addr->Prop
 |0,v,d,c=>Dv Z G v d/\c= []
 |n+1,v,d,c=>(∃a e g i,v= .ref a/\d= .lst g/\H a=some (.lst e)/\c=a::i/\fc (Own Z G H n) e g i)\/(1<=n/\∃a e g,v= .ref a/\d= .tup g/\G a=some (.tup e)/\fc (λv d f=>(Yl d=true/\Own Z G H n v d f)\/(Yl d=false/\Dv Z G v d/\f= [])) e g c)\/(∃a h,v= .ref a/\H a=some (.ext h)/\c= [a]/\((n=98/\∃b j,d= .set b j/\h=gx b a j)\/(n=97/\∃k,d= .x k/\HD G a h k)))
theorem Own.lst{Z:DC}{G H:Hp}{n:Nat}{v:V}{c:List D}{f:List Addr}(o:Own Z G H (n+1) v (.lst c) f):∃a d g h,v= .ref a/\D.lst c= .lst g/\H a=some (.lst d)/\f=a::h/\fc (Own Z G H n) d g h:=by
 rcases o with o| ⟨_,a,d,c,_,e,_⟩ | ⟨a,i,_,_,_,⟨_,b,j,e,_⟩ | ⟨_,k,e,_⟩⟩
 ·exact o
 ·cases e
 ·cases e
 ·cases e
theorem Own.QO{b:Bool}(o:Own Z G H 99 v (.set b c) d):∃a,v= .ref a/\H a=some (.ext (gx b a c))/\d= [a]:=by
 rcases o with ⟨_,_,_,_,_,e,_⟩ | ⟨_,a,j,l,_,e,_⟩ | ⟨a,m,f,g,h,⟨_,b,c,e,i⟩ | ⟨_,k,e,_⟩⟩
 ·cases e
 ·cases e
 ·cases e;subst i;exact⟨a,f,g,h⟩
 ·cases e
theorem Own.xA(o:Own Z G H 98 v (.x k) d):∃a c,v= .ref a/\H a=some (.ext c)/\d= [a]/\HD G a c k:=by
 rcases o with ⟨_,_,_,_,_,e,_⟩ | ⟨_,a,j,l,_,e,_⟩ | ⟨a,c,f,g,h,⟨_,b,m,e,n⟩ | ⟨_,k,e,i⟩⟩
 ·cases e
 ·cases e
 ·cases e
 ·cases e;exact⟨a,c,f,g,h,i⟩
theorem Own.one(o:Own Z G H 1 v d b):∃a c e f,v= .ref a/\d= .lst e/\H a=some (.lst c)/\b=a::f/\fc (Own Z G H 0) c e f:=by
 rcases o with o| ⟨z,_⟩ | ⟨_,_,_,_,_,⟨z,_⟩ | ⟨z,_⟩⟩
 ·exact o
 ·exact absurd z (by decide)
 ·exact absurd z (by decide)
 ·exact absurd z (by decide)
theorem fc.imp(o:fc R i j c)(h:∀v d f,(∀b∈f,b∈c)->R v d f->g v d f):fc g i j c:=by
 induction o with
 |nil=>exact .nil
 |cons a _ k=>exact .cons (h _ _ _ (λb e=>fk _ e) a) (k λv d f l r=>h v d f (λb e=>cZ _ (l b e)) r)
theorem fc.length{a:List V}{b:List D}(o:fc R a b c):a.length=b.length:=by
 induction o with
 |nil=>rfl
 |cons _ _ d=>exact FS (·+1) d
section
variable {Z:DC} {G G' H H':Hp}
theorem Own.keep:∀{v:V}{d:D}{g:List Addr},Own Z G H n v d g->bh G G'->(∀b∈g,H' b=H b)->Own Z G' H' n v d g:=by
 induction n with
 |zero=>exact λh s _=>⟨h.1.mono s,h.2⟩
 |succ n u=>
  intro v d g h s k
  rcases h with ⟨a,j,l,w,c,m,e,i,o⟩ | ⟨p,a,j,l,c,m,e,o⟩ | ⟨a,x,c,e,i,y⟩
  ·subst i
   exact .inl ⟨a,j,l,w,c,m,by rw[k a (bE ..)];exact e,rfl,o.imp λv d f t r=>u r s λb q=>k b (bV _ (t b q))⟩
  ·exact .inr (.inl ⟨p,a,j,l,c,m,s _ _ e,o.imp λv d f t r=>r.imp (λr=>⟨r.1,u r.2 s λb q=>k b (t b q)⟩) λr=>⟨r.1,r.2.1.mono s,r.2.2⟩⟩)
  ·exact .inr (.inr ⟨a,x,c,by rw[k a (by rw[i];exact bE ..)];exact e,i,y.imp id λ⟨p,k,z,A⟩=>⟨p,k,z,A.mono s⟩⟩)
theorem fc.Qt(o:fc R e g h)(k:∀v d f,(∀b∈f,b∈h)->R v d f->Dv Z G' v d):DvAll Z G' e g:=by
 induction o with
 |nil=>exact .nil
 |cons a _ i=>exact .cons (k _ _ _ (λb c=>fk _ c) a) (i λv d f j r=>k v d f (λb c=>cZ _ (j b c)) r)
theorem Own.Qs(o:HO->Prop)(y:∀j,o (.lst j))(t:∀u,o (.ext u)):∀{v:V}{d:D}{l:List Addr},Own Z G H n v d l->bh G G'->(∀b∈l,∀x,o x->H b=some x->G' b=some x)->Dv Z G' v d:=by
 induction n with
 |zero=>exact λh s _=>h.1.mono s
 |succ n w=>
  intro v d l h s k
  rcases h with ⟨a,j,z,B,i,c,g,e,m⟩ | ⟨_,a,j,z,i,c,g,m⟩ | ⟨a,u,i,g,e,A⟩
  ·subst e i c
   exact .lst (k a (bE ..) _ (y _) g) (m.Qt λv d f e r=>w r s λb p=>k b (bV _ (e b p)))
  ·subst i c
   exact .tup (s _ _ g) (m.Qt λv d f e r=>r.elim (λr=>w r.2 s λb p=>k b (e b p)) λr=>r.2.1.mono s)
  ·subst i e
   rcases A with ⟨_,b,C,c,q⟩ | ⟨_,E,c,q⟩
   ·subst c q
    exact .set (k a (bE ..) _ (t _) g)
   ·subst c
    exact .x (k a (bE ..) _ (t _) g) (q.mono s)
theorem Own.dv{d:D}(h:Own Z G H n v d a)(s:bh G G')(k:∀b∈a,∀o,H b=some o->G' b=some o):Dv Z G' v d:=h.Qs (λ_=>True) (λ_=>trivial) (λ_=>trivial) s λb c x _ e=>k b c x e
theorem fc.flat(o:fc (Own Z G H 0) b c d):DvAll Z G b c/\d= []:=by
 induction o with
 |nil=>exact⟨.nil,rfl⟩
 |cons a _ e=>exact⟨.cons a.1 e.1,by rw[a.2,e.2];rfl⟩
theorem DvAll.own(h:DvAll Z G c d):fc (Own Z G H 0) c d []:=h.ind (p:=λc d=>fc (Own Z G H 0) c d []) .nil λa _ b=> .cons (f:= []) (fs:= []) ⟨a,rfl⟩ b
theorem Dv.flat{v:V}{d:D}(h:Dv Z G v d)(f:dF d=true):Dv Z G' v d:=by
 cases h with
 |bA=>exact .bA
 |bl b=>exact .bl b
 |int i=>exact .int i
 |str x k=>exact .str x k
 |_=>cases f
end
mutual
def lS:D->Bool
 | .bA=>true
 | .bl _=>true
 | .int _=>true
 | .str _=>true
 | .tup l=>mN l
 |_=>false
def mN:List D->Bool
 | []=>true
 |d::ds=>lS d&&mN ds
end
theorem Dv.lS(k:∀b g,G b=some (.tup g)->e b=some (.tup g))(h:Dv Z G v d):L2.lS d=true->Dv Z e v d:=by
 have c:∀{p:Prop}{d:D},L2.lS d=false->L2.lS d=true->p:=λa b=>by rw[a] at b;cases b
 refine Dv.rec (motive_1:=λv d _=>L2.lS d=true->Dv Z e v d) (motive_2:=λl j _=>mN j=true->DvAll Z e l j) (λ_=> .bA) (λb _=> .bl b) (λi _=> .int i) (λx h _=> .str x h) (λ_ _ _=>c (by rw[L2.lS]<;>simp)) (λh _ m f=> .tup (k _ _ h) (m (by rw[L2.lS] at f;exact f))) (λ_=>c (by rw[L2.lS]<;>simp)) (λ_=>c (by rw[L2.lS]<;>simp)) (λ_ _=>c (by rw[L2.lS]<;>simp)) (λ_ _ _ _ _ _=>c (by rw[L2.lS]<;>simp)) (λ_=>c (by rw[L2.lS]<;>simp)) (λ_ _=>c (by rw[L2.lS]<;>simp)) (λ_ _ _ _=>c (by rw[L2.lS]<;>simp)) (λ_=> .nil) (λ_ _ n o f=>?_) h
 rw[mN,v3] at f;exact .cons (n f.1) (o f.2)
theorem DvAll.lS(k:∀b g,G b=some (.tup g)->e b=some (.tup g))(h:DvAll Z G d c):mN c=true->DvAll Z e d c:=by
 refine h.ind (p:=λd c=>mN c=true->DvAll Z e d c) (λ_=> .nil) λa _ i f=>?_;rw[mN,v3] at f;exact .cons (a.lS k f.1) (i f.2)
def LH:HO->Bool
 | .lst _=>true
 | .ext _=>true
 |_=>false
theorem Own.dvL(h:Own Z G H n v d c)(s:bh G a)(k:∀b∈c,∀o,LH o=true->H b=some o->a b=some o):Dv Z a v d:=h.Qs (λo=>LH o=true) (λ_=>rfl) (λ_=>rfl) s k
structure Bs where
 G₀:Hp
 H₀:Hp
 Gf:Hp
structure SIx (Z:DC) (B:Bs) (md:List Nat) (ρ:DN) (σ:St) (H G:Hp) (fp:Nat->List Addr):Prop where
 ex:Ext B.G₀ B.H₀ G H
 fl:bh B.Gf G
 len:ρ.length=σ.length
 at_:∀(i:Nat)(d:D),ρ[i]? =some (some d)->∃v,σ[i]? =some (some v)/\Own Z G H (md.getD i 0) v d (fp i)
 nd:∀i,(fp i).Nodup
 ap:∀i j b,i≠j->b∈fp i->b∉fp j
 nw:∀i b,b∈fp i->B.H₀ b=none/\H b≠none/\G b=none
def SI(Z:DC)(B:Bs)(a:List Nat)(b:DN)(c:St)(H:Hp):Prop:=∃G d,SIx Z B a b c H G d
def dH:List Nat->DN->DN
 |_,[]=> []
 | [],o::a=>o::a
 |0::b,o::a=>o::dH b a
 | (_+1)::b,_::a=>none::dH b a
theorem su:∀(a:List Nat)(b:DN),(dH a b).length=b.length
 |a,[]=>by cases a<;>rfl
 | [],o::b=>rfl
 |0::a,o::b=>by rw[dH,cD,su a b,cD]
 | (_+1)::a,_::b=>by rw[dH,cD,su a b,cD]
theorem uY:∀(c:List Nat)(e:DN)(i:Nat),(dH c e)[i]? =some (some d)->c.getD i 0=0/\e[i]? =some (some d)
 |c,[],i,h=>by cases c<;>simp[dH] at h
 | [],o::e,i,h=>⟨by simp,h⟩
 |0::c,o::e,0,h=>⟨rfl,by simpa [dH] using h⟩
 |0::c,o::e,i+1,h=>by
  rw[dH,vT] at h;obtain⟨a,b⟩:=uY c e i h;exact⟨by rw[B8];exact a,by rw[vT];exact b⟩
 | (_+1)::c,_::e,0,h=>by simp[dH] at h
 | (_+1)::c,_::e,i+1,h=>by
  rw[dH,vT] at h;obtain⟨a,b⟩:=uY c e i h;exact⟨by rw[B8];exact a,by rw[vT];exact b⟩
def zE(b:List Nat):Bool->DN->DN
 |true,a=>a
 |false,a=>dH b a
def wN:Bool->D->Prop
 |true,d=>lS d=true
 |false,_=>True
section
variable {Z:DC} {B:Bs} {md:List Nat} {ρ:DN} {σ:St} {H G:Hp} {fp:Nat->List Addr}
theorem F0(h:(dH md ρ)[i]? =some (some d)):md.getD i 0=0/\ρ[i]? =some (some d):=uY md ρ i h
theorem SIx.CV(S:SIx Z B md ρ σ H G fp):eU Z G σ (dH md ρ):=by
 refine⟨by rw[su];exact S.len,λi d h=>?_⟩
 obtain⟨z,h⟩:=F0 h;obtain⟨v,a,o⟩:=S.at_ i d h;rw[z] at o;exact⟨v,a,o.1⟩
theorem SIx.zW(S:SIx Z B md ρ σ H G fp):eU Z H σ ρ:=by
 refine⟨S.len,λi d h=>?_⟩;obtain⟨v,a,o⟩:=S.at_ i d h;exact⟨v,a,o.dv S.ex.sub λb _ u e=>e⟩
theorem SIx.grow{c f:Hp}(S:SIx Z B md ρ σ H G fp)(x:Ext G H c f):SIx Z B md ρ σ f c fp where
 ex:=S.ex.trans x
 fl:=S.fl.trans x.gg
 len:=S.len
 at_:=λi d h=>by
  obtain⟨v,j,o⟩:=S.at_ i d h;refine⟨v,j,o.keep x.gg λb a=>?_⟩;cases e:H b with
  |none=>exact absurd e (S.nw i b a).2.1
  |some u=>exact x.hh _ _ e
 nd:=S.nd
 ap:=S.ap
 nw:=λi b a=>let ⟨k,g,l⟩:=S.nw i b a;⟨k,jn x.hh g,x.off b g l⟩
theorem Ext.all(s:bh G H)(x:Ext H H b a):Ext G H G a:=⟨.refl _,s.trans x.hh,x.hh,λ_ _ h=>h⟩
open Classical in
noncomputable def iX(G H:Hp)(fp:Nat->List Addr):Hp:=λb=>if ∃i,b∈fp i then(match H b with|some (.lst xs)=>some (.lst xs) |some (.ext φ)=>some (.ext φ) |_=>none) else G b
open Classical in
noncomputable def rY(G:Hp)(fp:Nat->List Addr):Hp:=λb=>if ∃i,b∈fp i then none else G b
theorem Jz(i:Nat)(h:b∈fp i)(a:LH o=true)(e:H b=some o):iX G H fp b=some o:=by
 unfold iX;rw[tz ⟨i,h⟩,e];cases o<;>first|rfl|cases a
theorem sL(h:¬∃i,b∈fp i):iX G H fp b=G b:=mo h
theorem SIx.Kl(S:SIx Z B md ρ σ H G fp):bh G (iX G H fp)/\bh (iX G H fp) H/\eU Z (iX G H fp) σ ρ:=by
 have c:bh G (iX G H fp):=λb o e=>by
  by_cases h:∃i,b∈fp i
  ·obtain⟨i,f⟩:=h
   rw[(S.nw i b f).2.2] at e;cases e
  ·rw[sL h];exact e
 refine⟨c,λb o e=>?_,S.len,λi d h=>?_⟩
 ·by_cases h:∃i,b∈fp i
  ·unfold iX at e
   rw[tz h] at e
   split at e
   ·next l a=>rw[a];exact e
   ·next m a=>rw[a];exact e
   ·cases e
  ·rw[sL h] at e;exact S.ex.sub _ _ e
 ·obtain⟨v,g,o⟩:=S.at_ i d h
  exact⟨v,g,o.dvL c λb j u k a=>Jz i j k a⟩
theorem SIx.QJ(S:SIx Z B md ρ σ H G fp)(x:Ext (iX G H fp) H a g):Ext G H (rY a fp) g/\∀b d,a b=some (.tup d)->rY a fp b=some (.tup d):=by
 obtain⟨j,l,_⟩:=S.Kl;refine⟨⟨λb o e=>?_,λb o e=>?_,x.hh,λb f k=>?_⟩,λb d e=>?_⟩
 ·have h:¬∃i,b∈fp i:=by
   rintro⟨i,c⟩;rw[(S.nw i b c).2.2] at e;cases e
  unfold rY;rw[mo h];exact x.gg _ _ (j _ _ e)
 ·unfold rY at e
  split at e
  ·cases e
  ·exact x.sub _ _ e
 ·unfold rY
  split
  ·rfl
  ·next h=>exact x.off b f (by rw[sL h];exact k)
 ·have h:¬∃i,b∈fp i:=by
   rintro⟨i,c⟩;have f:=(S.nw i b c).2.1;cases hw:iX G H fp b with
   |none=>rw[x.off b f hw] at e;cases e
   |some o=>
    have:=x.gg _ _ hw
    rw[e] at this;cases Da this;unfold iX at hw;rw[tz ⟨i,c⟩] at hw
    split at hw<;>cases hw
  unfold rY;rw[mo h];exact e
theorem SIx.ev(S:SIx Z B md ρ σ H G fp)(m:Bool)(h:t (zE md m ρ) P)
  (f:∀d,P d->wN m d/\∀v b a,SIx Z B md ρ σ a b fp->Ext G H b a->Dv Z b v d->Q v a):e8 Z t σ H Q:=by
 cases m with
 |false=>exact⟨G,_,P,S.ex.sub,S.CV,h,λd c v b a x dv=>(f d c).2 v b a (S.grow x) x dv⟩
 |true=>
  obtain⟨j,i,e⟩:=S.Kl;refine⟨iX G H fp,_,P,i,e,h,λd c v b a x dv=>?_⟩;obtain⟨g,k⟩:=S.QJ x;exact(f d c).2 v _ a (S.grow g) g (dv.lS k (f d c).1)
theorem SIx.W6(S:SIx Z B md ρ σ H G fp)(h:t ρ P)(c:∀b,P b->∀a,SIx Z B md ρ σ a G fp->Q b a):liftT Z t σ H Q:=
 ⟨H,ρ,P, .refl _,S.zW,h,λb d e a x=>c b d a (S.grow (Ext.all S.ex.sub x))⟩
theorem SIx.qe(S:SIx Z B md ρ σ H G fp)(l:md.getD i 0=0)(dv:Dv Z G v d):SIx Z B md (ρ.set i (some d)) (σ.set i (some v)) H G (λj=>if j=i then[] else fp j) where
 ex:=S.ex
 fl:=S.fl
 len:=by rw[f9,f9];exact S.len
 at_:=λj c h=>by
  by_cases z:i=j
  ·subst z
   by_cases a:i<ρ.length
   ·rw[lD a] at h
    cases Da h;exact⟨v,lD (by rw[<-S.len];exact a),by rw[l,tz rfl];exact⟨dv,rfl⟩⟩
   ·rw[AO (lG a),fj (lG a)] at h;cases h
  ·rw[lE z] at h ⊢
   rw[mo (Ne.symm z)];exact S.at_ j c h
 nd:=λj=>by split;exact gK;exact S.nd j
 ap:=λj k b ne e f=>by
  split at e
  ·cases e
  ·split at f
   ·cases f
   ·exact S.ap j k b ne e f
 nw:=λj b g=>by
  split at g
  ·cases g
  ·exact S.nw j b g
theorem SIx.vO{f:List Addr}(S:SIx Z B md ρ σ H G fp)(m:md.getD i 0=n)(o:Own Z G H n v d f)(nd:f.Nodup)(nw:∀b∈f,B.H₀ b=none/\H b≠none/\G b=none)(ap:∀b∈f,∀j,j≠i->b∉fp j):
  SIx Z B md (ρ.set i (some d)) (σ.set i (some v)) H G (λj=>if j=i then f else fp j) where
 ex:=S.ex
 fl:=S.fl
 len:=by rw[f9,f9];exact S.len
 at_:=λj c h=>by
  by_cases z:i=j
  ·subst z
   by_cases e:i<ρ.length
   ·rw[lD e] at h
    cases Da h;exact⟨v,lD (by rw[<-S.len];exact e),by rw[m,tz rfl];exact o⟩
   ·rw[AO (lG e),fj (lG e)] at h;cases h
  ·rw[lE z] at h ⊢
   rw[mo (Ne.symm z)];exact S.at_ j c h
 nd:=λj=>by split;exact nd;exact S.nd j
 ap:=λj k b ne g a=>by
  split at g
  ·next z=>
   rw[mo (λw=>ne (z.trans w.symm))] at a;exact ap b g k (λw=>ne (z.trans w.symm)) a
  ·next z=>
   split at a
   ·exact ap b a j z g
   ·exact S.ap j k b ne g a
 nw:=λj b l=>by
  split at l
  ·exact nw b l
  ·exact S.nw j b l
noncomputable def plus(G H:Hp)(F:Addr->Prop):Hp:=λb=>open Classical in if F b then H b else G b
theorem mR(h:F b):plus G H F b=H b:=by unfold plus;rw[tz h]
theorem iW(h:¬F b):plus G H F b=G b:=by unfold plus;rw[mo h]
theorem j4(s:bh G H):bh (plus G H F) H:=λb o e=>by
 by_cases h:F b
 ·rw[mR h] at e;exact e
 ·rw[iW h] at e;exact s _ _ e
theorem fI(s:bh G H):bh G (plus G H F):=λb o e=>by
 by_cases h:F b
 ·rw[mR h];exact s _ _ e
 ·rw[iW h];exact e
theorem SIx.evR(S:SIx Z B md ρ σ H G fp)(h:t ρ P)(g:∀d,P d->∀v a c,Ext B.G₀ B.H₀ a c->Dv Z a v d->Q v c):e8 Z t σ H Q:=by
 let F:Addr->Prop:=λb=>∃i,b∈fp i
 have s:=S.ex.sub
 have j:Ext B.G₀ B.H₀ (plus G H F) H:=⟨S.ex.gg.trans (fI s),j4 s,S.ex.hh,λb f k=>by
  rw[iW (λ⟨i,l⟩=>f (S.nw i b l).1)];exact S.ex.off b f k⟩
 refine⟨plus G H F,ρ,P,j4 s,⟨S.len,λi d h=>?_⟩,h,λd m v a c x dv=>g d m v a c (j.trans x) dv⟩;obtain⟨v,n,o⟩:=S.at_ i d h;exact⟨v,n,o.dv (fI s) λb f u e=>by rw[mR ⟨i,f⟩];exact e⟩
end
structure eS where
 nx:DN->Prop
 rt:D->Prop
 bk:DN->Prop:=λ_=>False
 ct:DN->Prop:=λ_=>False
 xc:DN->D->Prop:=λ_ _=>False
abbrev cN:=eS->DN->Prop
structure Meets (Z:DC) (X:Cx) (B:Bs) (md:List Nat) (rn:Nat) (E:eS) (Dn:Ends):Prop where
 nx:∀ρ,E.nx ρ->∀σ H,SI Z B md ρ σ H->Dn.nx σ H
 rt:∀d,E.rt d->∀v f G' H',Ext B.G₀ B.H₀ G' H'->Own Z G' H' rn v d f->f.Nodup->(∀b∈f,B.H₀ b=none/\H' b≠none/\G' b=none)->Dn.rt v H'
 bk:∀ρ,E.bk ρ->∀σ H,SI Z B md ρ σ H->Dn.bk σ H
 ct:∀ρ,E.ct ρ->∀σ H,SI Z B md ρ σ H->Dn.ct σ H
 xc:∀ρ d,E.xc ρ d->∀σ H G fp a,SIx Z B md ρ σ H G fp->Dv Z G (.ref a) d->UK X σ H a
def rZ(Z:DC)(X:Cx)(a:List Nat)(c:Nat)(t:cN):TS:=λd e H=>∃(B:Bs)(b:DN)(E:eS),SI Z B a b e H/\t E b/\Meets Z X B a c E d
def DSt(Z:DC)(X:Cx)(a:List Nat)(b:Nat)(st:Stmt)(t:cN):Prop:=PS X st (rZ Z X a b t)
def uv(Z:DC)(X:Cx)(a:List Nat)(b:Nat)(c:List Stmt)(t:cN):Prop:=oK X c (rZ Z X a b t)
theorem PS.imp{X:Cx}{st:Stmt}{t c:TS}(h:PS X st t)(f:∀D b H,c D b H->t D b H):PS X st c:=λa s b H D I q=>h a s b H D I (f _ _ _ q)
theorem oK.imp{X:Cx}{st:List Stmt}{t c:TS}(h:oK X st t)(f:∀D b H,c D b H->t D b H):oK X st c:=λa s b H D I q=>h a s b H D I (f _ _ _ q)
section
variable {Z:DC} {X:Cx} {md:List Nat} {rn:Nat} {st:Stmt} {Ge:List Stmt} {t u:cN} {e:Expr} {te:bp} {pos:Pos}
def uB:cN:=λE a=>E.nx a
def dSeq(t u:cN):cN:=λE a=>t {E with nx:=u E} a
theorem aL:uv Z X md rn [] uB:=by
 refine L6.imp λD b H a=>?_;obtain⟨B,c,E,S,h,M⟩:=a;exact M.nx _ h _ _ S
theorem af(a:DSt Z X md rn st t)(b:uv Z X md rn Ge u):uv Z X md rn (st::Ge) (dSeq t u):=by
 refine(mS a b).imp λD k H c=>?_;rfl';obtain⟨B,f,E,S,h,M⟩:=c;ac_rfl;exact⟨B,f,_,S,h,⟨λg i m n j=>⟨B,g,E,j,i,M⟩,M.rt,M.bk,M.ct,M.xc⟩⟩
theorem ao(a:DSt Z X md rn st t):uv Z X md rn [st] t:=D2 a
theorem jX:DSt Z X md rn st (λ_ _=>False):=by
 refine Jg.imp λD b H a=>?_;obtain⟨B,c,E,S,h,M⟩:=a;exact h
def Qq(a:bp):cN:=λE b=>a b E.rt
theorem aJ(a:DE Z X e te):DSt Z X md 0 (.Return (some e) pos) (Qq te):=by
 refine(wY a).imp λD l H c=>?_;rfl';obtain⟨B,n,E,⟨G,o,S⟩,h,M⟩:=c;ac_rfl;exact S.evR h λd g v i j x dv=>M.rt d g v [] i j x ⟨dv,rfl⟩ gK (λb k=>by cases k)
def R8(i:Nat):cN:=λE a=>∃d,a[i]? =some (some d)/\E.rt d
theorem tB(i:Nat)(f:md.getD i 0=rn:=by rfl)(g:X.N[i]? =some x:=by rfl)(a:lJ X.env.scope x:=by first|exact Or.inl rfl|exact Or.inr (Or.inl rfl) |exact Or.inr (Or.inr rfl))(b:(x==("__debug__":Str))=false:=by decide)(j:(x==("__classdict__":Str))=false:=by decide):
  DSt Z X md rn (.Return (some (.Name x c)) pos) (R8 i):=by
 refine(wY (BF g a b j)).imp λD n H k=>?_;rfl';obtain⟨B,q,E,⟨G,m,S⟩,⟨d,b,h⟩,M⟩:=k;obtain⟨v,a,o⟩:=S.at_ i d b;rw[f] at o;ac_rfl;exact⟨v,a,M.rt d h v (m i) G H S.ex o (S.nd i) (S.nw i)⟩
def zR(c:dQ)(t u:cN):cN:=λE a=>c a λb=>if b=true then t E a else u E a
theorem bq(j:DT Z X c tc)(k:uv Z X md rn a t)(d:uv Z X md rn b u):DSt Z X md rn (.If c a b pos) (zR tc t u):=by
 refine(TV j k d).imp ?_;intro D n H l;rfl';obtain⟨B,f,E,⟨G,g,S⟩,h,M⟩:=l;ac_rfl;refine S.W6 h λb d p i=>?_;cases b with
 |true=>exact eY ⟨B,f,E,⟨G,g,i⟩,(d),M⟩
 |false=>exact cj ⟨B,f,E,⟨G,g,i⟩,(d),M⟩
def CI(b:List Nat)(m:Bool)(i:Nat)(c:bp):cN:=λE a=>c (zE b m a) λd=>wN m d/\E.nx (a.set i (some d))
theorem aS(m:Bool)(i:Nat)(g:X.N.Nodup)(j:DE Z X e k)(l:c.getD i 0=0:=by rfl)(n:X.N[i]? =some x:=by rfl)(o:Loc X.env.scope x:=by first|exact Or.inl rfl|exact Or.inr rfl)(p:swapsWith e (some (.Name x a)) b.line X.env=pure false:=by rfl)
  (q:X.fn x=true\/X.env.scope.names.lookup x=some .local:=by first|exact .inl rfl|exact .inr rfl|assumption):DSt Z X c z (.Assign [.Name x a] e b) (CI c m i k):=by
 refine(i7 g n o j p q).imp ?_;intro D A H r;rfl';obtain⟨B,F,E,⟨G,I,S⟩,h,M⟩:=r;ac_rfl;exact S.ev m h λd f=>⟨f.1,λv w J y x dv=>M.nx _ f.2 _ _ ⟨w,_,y.qe l dv⟩⟩
theorem qB(i:Nat){NC:List Str}{src:List (Option Nat)}(q:X.calm=true)(r:X.N.Nodup)(c:b6 X a)(w:dJ a X.N src NC)(y:DI Z X k iter n)
  (z:∀j s H,DG Z (cO X a NC j s H) k g) (A:∀j s H,zf Z (cO X a NC j s H) f o) (C:∀j s H,DE Z (cO X a NC j s H) b te)
  (F:swapsWith (.ListComp b [⟨k,iter,f,0⟩] a pos) (some (.Name x l)) m.line X.env=pure true:=by rfl) (I:md.getD i 0=0:=by rfl) (J:X.N[i]? =some x:=by rfl) (L:Loc X.env.scope x:=by first|exact Or.inl rfl|exact Or.inr rfl)
  (O:X.fn x=true\/X.env.scope.names.lookup x=some .local:=by first|exact .inl rfl|exact .inr rfl|assumption)
  (Q:∀x,foldedSetIterable iter X.env x=pure x:=by intro _;rfl):DSt Z X md rn (.Assign [.Name x l] (.ListComp b [⟨k,iter,f,0⟩] a pos) m) (CI md false i (R3 n g o te src)):=by
 refine(qG q r J L c w y z A C F O Q).imp ?_;intro D R H T;rfl';obtain⟨B,u,E,⟨G,fp,S⟩,h,M⟩:=T;ac_rfl;refine GX R H _ (S.ev false h λd p=>⟨p.1,λv Y H' e x dv=>M.nx _ p.2 _ _ ⟨Y,_,e.qe I dv⟩⟩)
end
end L2
namespace L2
open PySem PySem.Spec PyProof.Rows
section
variable {Z:DC} {X:Cx} {B:Bs} {md:List Nat} {rn:Nat} {ρ:DN} {σ:St} {H G:Hp} {fp:Nat->List Addr}
def GW(Z:DC)(a:List Nat)(g:fB):TG:=λv f H Q=>∃(B:Bs)(b:DN)(d:D)(P:DN->Prop)(G:Hp)(h:Nat->List Addr),SIx Z B a b f H G h/\Dv Z G v d/\g d b P/\∀c,P c->∀e i,SIx Z B a c e H G i->Q e H
def Lj(Z:DC)(a:List Nat)(g:n6):zh:=λf h H Q=>∃(B:Bs)(b:DN)(c:List D)(P:DN->Prop)(G:Hp)(i:Nat->List Addr),SIx Z B a b h H G i/\DvAll Z G f c/\g c b P/\∀d,P d->∀e j,SIx Z B a d e H G j->Q e H
def Hz(Z:DC)(X:Cx)(a:List Nat)(e:Expr)(g:fB):Prop:=PG X e (GW Z a g)
def Gz(Z:DC)(X:Cx)(a:List Nat)(b:List Expr)(g:n6):Prop:=AY X b (Lj Z a g)
theorem aM(i:Nat)(b:X.N.Nodup)(c:e.getD i 0=0:=by rfl)(f:X.N[i]? =some x:=by rfl)(g:Loc X.env.scope x:=by first|exact Or.inl rfl|exact Or.inr rfl)(j:X.fn x=true\/X.env.scope.names.lookup x=some .local:=by first|exact .inl rfl|exact .inr rfl|assumption):Hz Z X e (.Name x a) (wI i):=by
 refine(DY b f g j).imp λv m H Q k=>?_;rfl';obtain⟨B,o,d,P,G,p,S,dv,h,q⟩:=k;ac_rfl;exact q _ h _ _ (S.qe c dv)
theorem eX:Gz Z X md [] J8:=by
 refine DZ.imp λv c H Q a=>?_;rfl';obtain⟨B,e,f,P,G,g,S,dv,⟨h,p⟩,q⟩:=a;subst h;cases dv;ac_rfl;exact⟨rfl,q _ p _ _ S⟩
theorem bG(d:Hz Z X md e g)(f:Gz Z X md b c)(i:(assignEach (e::b) X.env).map (·.2)=assign e X.env::(assignEach b X.env).map (·.2):=by rfl):Gz Z X md (e::b) (GJ g c):=by
 refine(Ay d f i).imp ?_;intro v s H Q j;rfl';obtain⟨B,l,u,P,G,m,S,dv,h,q⟩:=j;ac_rfl;cases dv with
 |nil=>exact h.elim
 |cons a as=>exact⟨_,_,rfl,B,l,_,_,G,m,S,a,h,λn o w p r=>⟨B,n,_,P,G,p,r,as,o,q⟩⟩
theorem hU(n:Nat)(f:X.calm=true)(h:Gz Z X md b e)(g:(assignEach b X.env).length=n:=by rfl)(i:(assignEach b X.env).findIdx? (·.1)=none:=by rfl):Hz Z X md (.Tuple b k c) (J9 n e):=by
 refine(Hi f h g i).imp ?_;rintro v p H Q ⟨B,j,d,P,G,l,S,dv,h,q⟩;cases dv<;>first|exact h.elim|skip
 rename_i a m r o b
 exact⟨a,m,rfl,eW.of (S.ex.sub _ _ o),by rw[b.length];exact h.1,B,j,_,P,G,l,S,b,h.2,q⟩
def V5(b:List Nat)(c:bp)(g:fB):cN:=λE a=>c (dH b a) λd=>g d a E.nx
theorem wJ(i:DE Z X e c)(j:Hz Z X md a g)(k:swapsWithSole [a] e b.line X.env=pure false:=by rfl)(hw:swappedStores [a] e X.env=pure none:=by rfl)
  (l:(assignEach [a] X.env).map (·.2)= [assign a X.env]:=by rfl):DSt Z X md rn (.Assign [a] e b) (V5 md c g):=by
 refine(BI i j k hw l).imp ?_;intro D w H m;rfl';obtain⟨B,o,E,⟨G,p,S⟩,h,M⟩:=m;ac_rfl;exact S.ev false h λd q=>⟨trivial,λv f z r x dv=>⟨B,o,d,E.nx,f,p,r,dv,q,λA s C t u=>M.nx _ s _ _ ⟨f,t,u⟩⟩⟩
def ke(g:fB)(a:cN)(E:eS):List D->DN->Prop
 | [],b=>E.nx b
 |x::c,b=>g x b λd=>a {nx:=ke g a E c,ct:=ke g a E c,bk:=E.nx,rt:=E.rt,xc:=E.xc} d
def Qk(b:List Nat)(m:Bool)(c:jt)(g:fB)(d:cN):cN:=λE a=>c (zE b m a) λe=>ke g d E e a
theorem z7(S:SIx Z B md h c H G fp)(O:vk Z G J k)(Q:ke g r E k h)(M:Meets Z X B md rn E q):
  ∃W:Nat->Nat->St->Hp->Prop,(∃m,W 0 m c H)/\∀i m c H,W i m c H->
   (J.stop i H/\q.nx c H)\/(J.go i H/\∃N:St->Hp->Prop,(∀j a,N j a->∃F,F<m/\W (i+1) F j a)/\∀x a,J.yld i H x a->GW Z md g x c a λI v=>rZ Z X md rn r {q with nx:=N,ct:=N,bk:=q.nx} I v):=by
 let p:Bs:={B with Gf:=G}
 have back:∀h c H,SI Z p md h c H->SI Z B md h c H:=λh c H ⟨s,t,f⟩=>⟨s,t,⟨f.ex,S.fl.trans f.fl,f.len,f.at_,f.nd,f.ap,f.nw⟩⟩;have R:SIx Z p md h c H G fp:=⟨S.ex, .refl _,S.len,S.at_,S.nd,S.ap,S.nw⟩;refine⟨λi m c H=>m=k.length-i/\i<=k.length/\∃h,SI Z p md h c H/\ke g r E (k.drop i) h,⟨_,rfl,dS _,h,⟨G,fp,R⟩,Q⟩,?_⟩;intro i m I v T;rfl';obtain⟨rfl,hi,Y,⟨s,t,f⟩,u⟩:=T;obtain⟨go,stop,yld⟩:=O s v f.fl f.ex.sub i;ac_rfl
 by_cases z:i<k.length
 ·refine .inr ⟨go z,λj a=>∃l,SI Z p md l j a/\ke g r E (k.drop (i+1)) l,λj a n=>⟨k.length-(i+1),by omega,rfl,z,n⟩,λx a y=>?_⟩
  rfl';obtain⟨L,d,x3,Io,dv⟩:=yld x a z y;rw[tu Io] at u;ac_rfl;refine⟨p,Y,d,_,L,t,f.grow x3,dv,u,λA h4 gu C S4=>?_⟩;exact⟨p,A,_,⟨L,C,S4⟩,h4,⟨λl o j a b=>⟨l,b,o⟩,M.rt,λl o j a b=>M.nx _ o _ _ (back _ _ _ b),λl o j a b=>⟨l,b,o⟩,λl d o j a G' Bi a' b uE=>M.xc l d o j a G' Bi a' ⟨b.ex,S.fl.trans b.fl,b.len,b.at_,b.nd,b.ap,b.nw⟩ uE⟩⟩
 ·have e:k.drop i= []:=Ey (by omega)
  rw[e] at u;exact .inl ⟨stop (by omega),M.nx _ u _ _ (back _ _ _ ⟨s,t,f⟩)⟩
variable {tg iter:Expr} {body:List Stmt} {wi:jt} {g:fB} {tb:cN} {pos:Pos}
theorem cC(a:X.calm=true)(b:PassesOwn (model X.prog X.w) X.A X.env X.xe)(c:DI Z X tg iter wi)(d:Hz Z X md tg g)(e:uv Z X md rn body tb)
  (f:∀x,foldedSetIterable iter X.env x=pure x:=by intro _;rfl):DSt Z X md rn (.For tg iter body [] pos) (Qk md false wi g tb):=by
 refine(Hk b a c d e f).imp ?_;intro D n H i;rfl';obtain⟨B,p,E,⟨G,q,S⟩,h,M⟩:=i;ac_rfl;exact⟨G,_,_,S.ex.sub,S.CV,h,λr k J s t l m=>z7 (S.grow l) m k M⟩
def Oa(Z:DC)(d:jt):TI:=λe H R=>∃(G:Hp)(a:DN)(P:List D->Prop),bh G H/\eU Z G e a/\d a P/\∀b,P b->∀J f c,Ext G H f c->(∀h,vk Z h J b)->R J c
def UA(Z:DC)(X:Cx)(a e:Expr)(b:jt):Prop:=PI X a e (Oa Z b)
theorem hJ(a:X.calm=true)(b:PassesOwn (model X.prog X.w) X.A X.env X.xe)(c:UA Z X tg iter wi)(d:Hz Z X md tg g)(e:uv Z X md rn body tb)
  (f:∀x,foldedSetIterable iter X.env x=pure x:=by intro _;rfl):DSt Z X md rn (.For tg iter body [] pos) (Qk md true wi g tb):=by
 refine(Hk b a c d e f).imp ?_;intro D o H i;rfl';obtain⟨B,k,E,⟨G,q,S⟩,h,M⟩:=i;ac_rfl;exact⟨H,k,_, .refl _,S.zW,h,λr l J s t m n=>z7 (S.grow (Ext.all S.ex.sub m)) (n _) l M⟩
variable {a b e:Expr} {ta te:bp} {t:js}
theorem fq(d:Gl X "range")(f:X.mg "range"=none)(i:DA Z X [a] t)(j:starEach [a] X.env= [(false,eval a X.env)]:=by rfl):UA Z X tg (.Call (.Name "range" p) [a] [] pos) (Qr t):=by
 refine(yI d f i j).imp ?_;intro v H Q k;rfl';obtain⟨G,m,P,s,n,h,q⟩:=k;ac_rfl;refine⟨G,m,_,s,n,h,λx c y o r u dv=>?_⟩
 split at c
 ·obtain⟨_,rfl,a⟩:=dv.ofOne
  exact⟨_,by rw[a.ofInt],c.1.1,c.1.2,q _ c.2 _ o r u λ_=>Ae 0 _⟩
 ·exact c.elim
def GH(c:dQ)(i:cN):cN:=λE d=>∃W:Nat->DN->Prop,(∃m,W m d)/\∀m d,W m d->c d λb=>if b=true then i {nx:=λh=>∃f,f<m/\W f h,ct:=λh=>∃f,f<m/\W f h,bk:=E.nx,rt:=E.rt,xc:=E.xc} d else E.nx d
theorem mF(y:PassesOwn (model X.prog X.w) X.A X.env X.xe)(z:DT Z X c tc)(k:uv Z X md rn body tb):DSt Z X md rn (.While c body [] pos) (GH tc tb):=by
 refine(Jh y z k).imp ?_;intro D r H o;rfl';obtain⟨B,l,E,S,⟨W,⟨F,I⟩,turn⟩,M⟩:=o;ac_rfl;refine⟨λm r H=>∃l,SI Z B md l r H/\W m l,⟨F,l,S,I⟩,?_⟩;intro m O Q o;rfl';obtain⟨s,⟨u,v,J⟩,L⟩:=o;ac_rfl;refine J.W6 (turn m s L) λb k h x=>?_;cases b with
 |false=>exact cj (M.nx _ (k) _ _ ⟨u,v,x⟩)
 |true=>
  refine eY ⟨λn h=>∃d f,f<m/\SI Z B md d n h/\W f d,λn h ⟨d,f,i,j,N⟩=>⟨f,i,d,j,N⟩,B,s,_,⟨u,v,x⟩,(k),?_⟩;exact⟨λd ⟨f,i,j⟩ n h q=>⟨d,f,i,q,j⟩,M.rt,M.nx,λd ⟨f,i,j⟩ n h q=>⟨d,f,i,q,j⟩,M.xc⟩
abbrev g6:=DN->(List D->Prop)->Prop
def uL(Z:DC)(n:Nat)(t:g6):TE:=λj H Q=>∃(G:Hp)(h:DN)(P:List D->Prop),bh G H/\eU Z G j h/\t h P/\∀i,P i->∀v f d c,Ext G H d c->Own Z d c n v (.lst i) f->f.Nodup->(∀b∈f,H b=none/\c b≠none/\d b=none)->Q v c
def DF(Z:DC)(X:Cx)(n:Nat)(e:Expr)(t:g6):Prop:=PE X e (uL Z n t)
theorem Ext.side(x:Ext G H d c)(f:c p=none):Ext G H d (upd c p o):=
 ⟨x.gg,λb u e=>by rw[aO (bu e (x.sub.free f))];exact x.sub _ _ e,x.hh.trans (bf f _),x.off⟩
theorem ji(x:Ext G H d f)(i:f p=none)(dv:DvAll Z d c h):
  Own Z d (upd f p (.lst c)) 1 (.ref p) (.lst h) [p]/\([p]:List Addr).Nodup/\∀b∈([p]:List Addr),H b=none/\(upd f p (.lst c)) b≠none/\d b=none:=by
 refine⟨.inl ⟨p,c,h,[],rfl,rfl,aB,rfl,dv.own⟩,by simp,λb j=>?_⟩
 have:b=p:=by simpa using j
 subst this;exact⟨x.hh.free i,(aB▸λz=>nomatch z),x.sub.free i⟩
def Qw(t:js):g6:=λd P=>t d λc=>c.length<=sizeLine/\P c
theorem eN(h:DA Z X c t):DF Z X 1 (.List c pos) (Qw t):=by
 refine(tT h).imp ?_;intro v H Q j;rfl';obtain⟨G,l,P,s,e,h,q⟩:=j;ac_rfl;refine⟨G,l,_,s,e,h,?_⟩;rintro x ⟨m,n⟩ y z A d f;refine⟨by rw[f.length];exact m,λp i=>?_⟩
 obtain⟨o,r,u⟩:=ji d i f;exact q _ n _ _ _ _ (d.side i) o r u
def Sl(c:bp):g6:=λf P=>c f λd=>match d with
 | .lst l=>P l
 | .tup l=>P l
 |_=>False
theorem pk{x:Str}{p:Pos}(F:x="list")(n:Gl X x)(o:X.mg x=none)(r:bootBuiltins x=some (.type "list"))(u:DE Z X a ta)(w:x≠"__name__":=by decide)(y:(x==("__debug__":Str))=false:=by decide)
  (m:starEach [a] X.env=(false,eval a X.env)::starEach [] X.env:=by rfl) (z:(backTo pos (starEach [] X.env)).any (·.1)=false:=by rfl):DF Z X 1 (.Call (.Name x p) [a] [] pos) (Sl ta):=by
 refine(so qL n o r (dr u eQ m) w y m z).imp ?_;intro I H Q A;rfl';obtain⟨G,E,P,s,e,h,q⟩:=A;ac_rfl;refine⟨G,E,_,s,e,h,λd i v L M c dv=>?_⟩;cases dv<;>first|exact i.elim|skip
 ·rename_i h e
  refine⟨_,_,rfl, .inl (cM.of (c.sub _ _ h)),λp f=>?_⟩;obtain⟨j,k,l⟩:=ji c f e;exact q _ i _ _ _ _ (c.side f) j k l
 ·rename_i h e
  refine⟨_,_,rfl, .inr (eW.of (c.sub _ _ h)),λp f=>?_⟩;obtain⟨j,k,l⟩:=ji c f e;exact q _ i _ _ _ _ (c.side f) j k l
def W9(t:js)(f:bp):g6:=λd P=>t d λc=>c.length<=sizeLine/\f d λk=>match k with
 | .int k=> -(2^63)<=k/\k<2^63/\c.length*k.toNat<=sizeLine/\P (List.replicate k.toNat c).flatten
 |_=>False
theorem Nr(h:DA Z X l t)(w:DE Z X b te):DF Z X 1 (.BinOp (.List l m) .Mult b pos) (W9 t te):=by
 refine(BE Hf (tT h) w).imp ?_;intro Y H Q y;rfl';obtain⟨G,n,P,s,e,h,q⟩:=y;ac_rfl;refine⟨G,n,_,s,e,h,?_⟩;rintro A ⟨C,E⟩ c F I d f;refine⟨by rw[f.length];exact C,λp o=>?_⟩
 have i:Ext G H (upd F p (.lst c)) (upd I p (.lst c)):=d.trans (.new d.sub o);refine⟨_,n,_,i.sub,e.mono i.gg,E,λk r v J g j dv=>?_⟩;cases dv<;>first|exact r.elim|skip
 obtain⟨L,M,N,O⟩:=r;have R:DvAll Z J c A:=f.mono ((bf (d.sub.free o) _).trans j.gg);refine⟨_,_,_,rfl,rfl,j.hh _ _ aB,L,M,by rw[f.length];exact N,λm u=>?_⟩
 have x:=i.trans j;obtain⟨S,T,U⟩:=ji x u (R.rep _);exact q _ O _ _ _ _ (x.side u) S T U
def Ko(d:jt)(g:fB)(f:dQ)(h:bp)(src:List (Option Nat)):g6:=λc P=>d c λi=>lcW g f h i (AK src c) [] λ_ out=>P out
theorem tO:∀u H Q,uL Z 1 (Ko wi g r te src) u H Q->Pf (yg Z wi) (uM Z g) (liftT Z r) (e8 Z te) src u H Q:=by
 intro u H Q O;rfl';obtain⟨G,S,P,s,w,h,q⟩:=O;ac_rfl;refine⟨G,S,_,s,w,h,λj T J C U f E k x=>?_⟩;refine⟨λi m y l=>m=j.length-i/\i<=j.length/\∃o d,CS Z C U k o d y l/\lcW g r te (j.drop i) o d λ_ out=>P out,⟨_,rfl,dS _,_,[], .begin f.sub x ((w.mono f.gg).src src),T⟩,?_⟩;rintro i m y l ⟨rfl,hi,o,d,c,A⟩
 by_cases F:i<j.length
 ·obtain⟨Y,turn⟩:=Aj x C E i o d y l c (λ_ s=>s) F A
  exact .inr ⟨Y,_,λaI H' n=>⟨j.length-(i+1),by omega,rfl,F,n⟩,turn⟩
 ·have e:j.drop i= []:=Ey (by omega)
  rfl';rw[e] at A;obtain⟨I,a,L,M,t,off,B,N,X,w⟩:=c;ac_rfl;refine .inl ⟨(E I l L M i).2.1 (by omega),q _ A (.ref k) [k] I l ⟨f.gg.trans L,M,f.hh.trans t,λb p hg=>off b (jn f.hh p) (f.off b p hg)⟩ (.inl ⟨k,a,d,[],rfl,rfl,N,rfl,X.own⟩) (by simp) λb p=>?_⟩
  have:b=k:=by simpa using p
  subst this;exact⟨f.hh.free x,(by rw[N];exact λz=>nomatch z),B⟩
variable {elt:Expr} {ifs:List Expr} {scope:Scope} {NC:List Str} {src:List (Option Nat)} {tt:dQ}
def Qp(d:List Nat)(i:Nat)(t:g6):cN:=λE c=>t (dH d c) λf=>E.nx (c.set i (some (.lst f)))
theorem Ap{t:g6}(p:md.getD i 0=n)(S:SIx Z B md ρ σ H G fp)(h:t (dH md ρ) λl=>E.nx (ρ.set i (some (.lst l))))(M:Meets Z X B md rn E k):uL Z n t σ H λv m=>k.nx (σ.set i (some v)) m:=by
 refine⟨G,_,_,S.ex.sub,S.CV,h,λl q v f r m x o s d=>?_⟩;refine M.nx _ q _ _ ⟨r,_,(S.grow x).vO p o s (λb c=>⟨S.ex.hh.free (d b c).1,(d b c).2⟩) λb c j _ u=>(S.nw j b u).2.1 (d b c).1⟩
theorem cA(i:Nat){t:g6}(j:X.N.Nodup)(k:DF Z X n e t)(l:f.getD i 0=n:=by rfl)(m:X.N[i]? =some x:=by rfl)(o:Loc X.env.scope x:=by first|exact Or.inl rfl|exact Or.inr rfl)(p:swapsWith e (some (.Name x c)) d.line X.env=pure false:=by rfl)
  (q:X.fn x=true\/X.env.scope.names.lookup x=some .local:=by first|exact .inl rfl|exact .inr rfl|assumption):DSt Z X f u (.Assign [.Name x c] e d) (Qp f i t):=by
 refine(i7 j m o k p q).imp ?_;intro D v H r;rfl';obtain⟨B,y,E,⟨G,z,S⟩,h,M⟩:=r;ac_rfl;exact Ap l S h M
theorem zS(i:Nat)(k:X.calm=true)(l:X.N.Nodup)(c:b6 X scope)(m:dJ scope X.N src NC)(n:DI Z X tg iter wi)
  (o:∀d s H,DG Z (cO X scope NC d s H) tg g) (p:∀d s H,zf Z (cO X scope NC d s H) ifs tt) (q:∀d s H,DE Z (cO X scope NC d s H) elt te)
  (r:swapsWith (.ListComp elt [⟨tg,iter,ifs,0⟩] scope pos) (some (.Name x f)) j.line X.env=pure true:=by rfl) (u:md.getD i 0=1:=by rfl) (v:X.N[i]? =some x:=by rfl) (w:Loc X.env.scope x:=by first|exact Or.inl rfl|exact Or.inr rfl)
  (y:X.fn x=true\/X.env.scope.names.lookup x=some .local:=by first|exact .inl rfl|exact .inr rfl|assumption)
  (z:∀x,foldedSetIterable iter X.env x=pure x:=by intro _;rfl):DSt Z X md rn (.Assign [.Name x f] (.ListComp elt [⟨tg,iter,ifs,0⟩] scope pos) j) (Qp md i (Ko wi g tt te src)):=by
 refine(qG k l v w c m n o p q r y z).imp ?_;intro D A H C;rfl';obtain⟨B,J,E,⟨G,L,S⟩,h,M⟩:=C;ac_rfl;exact tO A H _ (Ap u S h M)
end
section
variable {Z:DC} {X:Cx} {B:Bs} {md:List Nat} {rn:Nat} {ρ:DN} {σ:St} {H G:Hp} {fp:Nat->List Addr} {a e k o:Expr} {ta te tk tp:bp} {pos apos aP p2:Pos}
theorem SIx.mut{b:Addr}(S:SIx Z B md ρ σ H G fp)(r:σ[i]? =some (some v))(n:b∈fp i)(o:Own Z G (upd H b c) (md.getD i 0) v m (fp i)):SIx Z B md (ρ.set i (some m)) σ (upd H b c) G fp where
 ex:=by
  obtain⟨d,p,f⟩:=S.nw i b n;exact⟨S.ex.gg,λx u e=>by rw[aO (bu e f)];exact S.ex.sub _ _ e,λx u e=>by rw[aO (bu e d)];exact S.ex.hh _ _ e,S.ex.off⟩
 fl:=S.fl
 len:=by rw[f9];exact S.len
 at_:=λj w h=>by
  by_cases z:i=j
  ·subst z
   by_cases g:i<ρ.length
   ·rw[lD g] at h
    cases Da h;exact⟨v,r,o⟩
   ·rw[AO (lG g),fj (lG g)] at h;cases h
  ·rw[lE z] at h
   obtain⟨u,s,t⟩:=S.at_ j w h;exact⟨u,s,t.keep (.refl _) λx l=>aO λq=>S.ap i j b z n (q▸l)⟩
 nd:=S.nd
 ap:=S.ap
 nw:=λj x l=>by
  obtain⟨d,p,f⟩:=S.nw j x l;refine⟨d,?_,f⟩
  by_cases z:x=b
  ·rw[z,aB];exact λq=>nomatch q
  ·rw[aO z];exact p
theorem SIx.one(S:SIx Z B md ρ σ H G fp)(j:md.getD i 0=1)(h:ρ[i]? =some (some d)):∃l b c,d= .lst c/\σ[i]? =some (some (.ref l))/\H l=some (.lst b)/\DvAll Z G b c/\
  ∀f g,DvAll Z G f g->SIx Z B md (ρ.set i (some (.lst g))) σ (upd H l (.lst f)) G fp:=by
 rfl';obtain⟨v,m,o⟩:=S.at_ i d h;rw[j] at o;obtain⟨l,b,c,u,rfl,rfl,q,n,r⟩:=o.one;obtain⟨dv,rfl⟩:=r.flat;ac_rfl;refine⟨l,b,c,rfl,m,q,dv,λf g s=>S.mut m (by rw[n];simp) ?_⟩
 rw[j,n];exact .inl ⟨l,f,g,[],rfl,rfl,aB,rfl,s.own⟩
theorem ty_list{K:PySem.W.Frag}{l:Addr}{b:List V}(h:H l=some (.lst b)):Po K "list" (.ref l) H:= .inl ⟨rfl,_,cM.of h⟩
def JV(f:List Nat)(m:Bool)(i:Nat)(g:bp):cN:=λE b=>∃c,b[i]? =some (some (.lst c))/\g (zE f m b) λd=>wN m d/\c.length<sizeLine/\E.nx (b.set i (some (.lst (c++ [d]))))
theorem fu(m:Bool)(i:Nat)(t:DE Z X e te)(g:md.getD i 0=1:=by rfl)(u:X.N[i]? =some x:=by rfl)(w:lJ X.env.scope x:=by first|exact Or.inl rfl|exact Or.inr (Or.inl rfl) |exact Or.inr (Or.inr rfl))(f:(x==("__debug__":Str))=false:=by decide)(y:(x==("__classdict__":Str))=false:=by decide)
  (z:attributeBase (.Name x b) "append" X.env (eval (.Name x b) X.env)=eval (.Name x b) X.env:=by rfl)
  (A:((backTo aP (starEach [e] X.env)).all (λx=>!x.1)&&(backToKw aP (keywordEach [] X.env)).all (λx=>x.1.isSome)&&decide (([e]:List Expr).length+([]:List Keyword).length+(if ([]:List Keyword).isEmpty then 0 else 1)<30))=true:=by rfl)
  (C:(apos.endLine==aP.line)=true:=by rfl) (j:starEach [e] X.env=(false,eval e X.env)::starEach [] X.env:=by rfl) (F:(backTo aP (starEach [] X.env)).any (·.1)=false:=by rfl)
  (I:swapsWith (.Call (.Attribute (.Name x b) "append" apos) [e] [] aP) none pos.line X.env=pure false:=by rfl):
  DSt Z X md rn (.Expr (.Call (.Attribute (.Name x b) "append" apos) [e] [] aP) pos) (JV md m i te):=by
 refine(iz (uW Os acG acH kj (pv i u w f y) (dr t eQ j) z A C j F) I).imp ?_;intro D o H J;rfl';obtain⟨B,ρ,E,⟨G,L,S⟩,⟨ds,p,h⟩,M⟩:=J;ac_rfl;rfl';obtain⟨l,xs,_,_,q,O,_⟩:=S.one g p;ac_rfl;refine⟨_,q,ty_list O,S.ev m h λd f=>⟨f.1,λv Q H' R x dv=>?_⟩⟩;rfl';obtain⟨_,T,U⟩:=f;obtain⟨l',Y,lN,a,r,k,s,put⟩:=R.one g p;cases a;ac_rfl;rw[q] at r;cases r;exact⟨l,Y,v,rfl,rfl,k,by rw[s.length];exact T,M.nx _ U _ _ ⟨Q,L,put _ _ (s.snoc dv)⟩⟩
theorem Ng{j n:Nat}(d:b.length=n)(h:jN n i=some j)(e:b[j]? =some v):fJ b i=some v:=by unfold fJ;rw[d,h];exact e
def GG(f:List Nat)(m:Bool)(i:Nat)(g h:bp):cN:=λE b=>h (zE f m b) λd=>wN m d/\∃c,b[i]? =some (some (.lst c))/\g b λl=>∃k j,l= .int k/\jN c.length k=some j/\E.nx (b.set i (some (.lst (c.set j d))))
theorem fH(m:Bool)(i:Nat)(z:DE Z X k tk)(A:DE Z X e te)(r:md.getD i 0=1:=by rfl)(C:X.N[i]? =some x:=by rfl)(F:lJ X.env.scope x:=by first|exact Or.inl rfl|exact Or.inr (Or.inl rfl) |exact Or.inr (Or.inr rfl))(g:(x==("__debug__":Str))=false:=by decide)(I:(x==("__classdict__":Str))=false:=by decide)
  (J:∀v,assign (.Subscript (.Name x b) k c) X.env v=(do
   let n <-holding [v] (eval (.Name x b) X.env)
   let q <-holding [v,n] (eval k X.env)
   standAt c
   holding [v,n,q] (setItem n q v)
   release [v,n,q] []):=by intro _;rfl)
  (L:swapsWithSole [.Subscript (.Name x b) k c] e pos.line X.env=pure false:=by rfl) (hw:swappedStores [.Subscript (.Name x b) k c] e X.env=pure none:=by rfl)
  (p:(assignEach [.Subscript (.Name x b) k c] X.env).map (·.2)= [assign (.Subscript (.Name x b) k c) X.env]:=by rfl):DSt Z X md rn (.Assign [.Subscript (.Name x b) k c] e pos) (GG md m i tk te):=by
 refine(BI A (Hh (pv i C F g I) z set_list J) L hw p).imp ?_;intro D σ H O;rfl';obtain⟨B,ρ,E,⟨G,Q,S⟩,h,M⟩:=O;ac_rfl;refine S.ev m h λd g=>⟨g.1,λv G' H' t x dv=>?_⟩;rfl';obtain⟨_,ds,p,h⟩:=g;obtain⟨l,xs,_,_,u,e3,_⟩:=t.one r p;ac_rfl;refine⟨_,u,t.ev true h ?_⟩;rintro _ ⟨k,j,rfl,R,T⟩;refine⟨rfl,λv1 U H1 Y a o=>?_⟩;rfl';cases o.ofInt;obtain⟨l',sN,lN,e1,w,Be,y,put⟩:=Y.one r p;cases e1;ac_rfl;rw[u] at w;cases w;exact⟨l,sN,k,j,rfl,rfl,Be,by rw[y.length];exact R,M.nx _ T _ _ ⟨U,Q,put _ _ (y.set (dv.mono a.gg) j)⟩⟩
def Wh(f:List Nat)(i j:Nat):cN:=λE b=>∃c d,b[j]? =some (some (.lst (c++ [d])))/\E.nx ((b.set j (some (.lst c))).set i (some d))
theorem GO(i j:Nat)(u:X.N.Nodup)(w:f.getD i 0=0:=by rfl)(z:f.getD j 0=1:=by rfl)(A:X.N[i]? =some x:=by rfl)(C:Loc X.env.scope x:=by first|exact Or.inl rfl|exact Or.inr rfl)
  (I:X.N[j]? =some y:=by rfl) (J:lJ X.env.scope y:=by first|exact Or.inl rfl|exact Or.inr (Or.inl rfl) |exact Or.inr (Or.inr rfl)) (L:(y==("__debug__":Str))=false:=by decide) (O:(y==("__classdict__":Str))=false:=by decide)
  (Q:attributeBase (.Name y py) "pop" X.env (eval (.Name y py) X.env)=eval (.Name y py) X.env:=by rfl) (R:(b.endLine==r.line)=true:=by rfl)
  (T:swapsWith (.Call (.Attribute (.Name y py) "pop" b) [] [] r) (some (.Name x q)) g.line X.env=pure false:=by rfl)
  (U:X.fn x=true\/X.env.scope.names.lookup x=some .local:=by first|exact .inl rfl|exact .inr rfl|assumption):DSt Z X f rn (.Assign [.Name x q] (.Call (.Attribute (.Name y py) "pop" b) [] [] r) g) (Wh f i j):=by
 refine(i7 u A C (Hg Os PySem.F.slot_list_pop PySem.F.type_list_pop Oe (pv j I J L O) Q R) T U).imp ?_;intro D σ H Y;rfl';obtain⟨B,ρ,E,⟨G,fp,S⟩,⟨n,d,e,h⟩,M⟩:=Y;ac_rfl;rfl';obtain⟨l,c,lN,k,o,s,p,put⟩:=S.one z e;cases k;have t:c.length=n.length+1:=by rw[p.length];simp
 obtain⟨v,kf,dv⟩:=p.get (i:=c.length-1) (d:=d) (by rw[t];simp)
 ac_rfl;refine⟨_,o,ty_list s,l,c,v,rfl,rfl,s,kf,M.nx _ h _ _ ⟨G,_,(put c.dropLast n ?_).qe w dv⟩⟩
 have:=p.take n.length
 rw[List.take_left'] at this
 ·rw[List.dropLast_eq_take,t];exact this
 ·rfl
theorem SIx.Hq(S:SIx Z B md ρ σ H G fp)(h:ρ[j]? =some (some d)):∃v,σ[j]? =some (some v)/\Dv Z (plus G H λb=>b∈fp j) v d/\SIx Z B md (ρ.set j none) σ H (plus G H λb=>b∈fp j) (λk=>if k=j then[] else fp k):=by
 have s:=S.ex.sub;obtain⟨v,m,o⟩:=S.at_ j d h;refine⟨v,m,o.dv (fI s) λb g u e=>by rw[mR g];exact e,?_⟩
 refine⟨⟨S.ex.gg.trans (fI s),j4 s,S.ex.hh,λb g n=>?_⟩,S.fl.trans (fI s),by rw[f9];exact S.len,λk c f=>?_,λk=>by split;exact gK;exact S.nd k,λk p b ne f i=>?_,λk b g=>?_⟩
 ·rw[iW (λz=>g (S.nw j b z).1)];exact S.ex.off b g n
 ·by_cases z:j=k
  ·subst z
   by_cases l:j<ρ.length
   ·rw[lD l] at f;cases f
   ·rw[AO (lG l),fj (lG l)] at f;cases f
  ·rw[lE z] at f
   obtain⟨u,q,r⟩:=S.at_ k c f;exact⟨u,q,by rw[mo (Ne.symm z)];exact r.keep (fI s) λ_ _=>rfl⟩
 ·split at f
  ·cases f
  ·split at i
   ·cases i
   ·exact S.ap k p b ne f i
 ·split at g
  ·cases g
  ·next z=>
   obtain⟨t,x,y⟩:=S.nw k b g;exact⟨t,x,by rw[iW (λw=>S.ap k j b z g w)];exact y⟩
def RW(f:List Nat)(i j:Nat):cN:=λE b=>∃c d,b[i]? =some (some (.lst c))/\b[j]? =some (some d)/\c.length<sizeLine/\E.nx ((b.set j none).set i (some (.lst (c++ [d]))))
theorem Ke(i j:Nat)(q:i≠j:=by decide)(r:md.getD i 0=1:=by rfl)(s:X.N[j]? =some y:=by rfl)(c:lJ X.env.scope y:=by first|exact Or.inl rfl|exact Or.inr (Or.inl rfl) |exact Or.inr (Or.inr rfl))(f:(y==("__debug__":Str))=false:=by decide)(t:(y==("__classdict__":Str))=false:=by decide)(u:X.N[i]? =some x:=by rfl)(w:lJ X.env.scope x:=by first|exact Or.inl rfl|exact Or.inr (Or.inl rfl) |exact Or.inr (Or.inr rfl))(z:(x==("__debug__":Str))=false:=by decide)(A:(x==("__classdict__":Str))=false:=by decide)
  (C:attributeBase (.Name x b) "append" X.env (eval (.Name x b) X.env)=eval (.Name x b) X.env:=by rfl)
  (F:((backTo aP (starEach [.Name y py] X.env)).all (λx=>!x.1)&&(backToKw aP (keywordEach [] X.env)).all (λx=>x.1.isSome)&&decide (([.Name y py]:List Expr).length+([]:List Keyword).length+(if ([]:List Keyword).isEmpty then 0 else 1)<30))=true:=by rfl)
  (I:(apos.endLine==aP.line)=true:=by rfl) (m:starEach [.Name y py] X.env=(false,eval (.Name y py) X.env)::starEach [] X.env:=by rfl) (J:(backTo aP (starEach [] X.env)).any (·.1)=false:=by rfl)
  (L:swapsWith (.Call (.Attribute (.Name x b) "append" apos) [.Name y py] [] aP) none pos.line X.env=pure false:=by rfl):
  DSt Z X md rn (.Expr (.Call (.Attribute (.Name x b) "append" apos) [.Name y py] [] aP) pos) (RW md i j):=by
 refine(iz (uW Os acG acH kj (pv i u w z A) (dr (pv j s c f t) eQ m) C F I m J) L).imp ?_;intro D σ H O;rfl';obtain⟨B,R,E,⟨G,fp,S⟩,⟨T,d,U,Y,a,h⟩,M⟩:=O;ac_rfl;rfl';obtain⟨v,e,dv,k⟩:=S.Hq Y;have o:(R.set j none)[i]? =some (some (.lst T)):=by rw[lE (Ne.symm q)];exact U
 obtain⟨l,xs,lN,e1,e2,n,p,put⟩:=k.one r o;cases e1;ac_rfl;exact⟨_,e2,ty_list n,_,e,l,xs,v,rfl,rfl,n,by rw[p.length];exact a,M.nx _ h _ _ ⟨_,_,put _ _ (p.snoc dv)⟩⟩
end
structure Uz (mg:Str->Option Value):Prop where
 len:mg "len"=none
 range:mg "range"=none
 max:mg "max"=none
 min:mg "min"=none
 enumerate:mg "enumerate"=none
 zip:mg "zip"=none
 sorted:mg "sorted"=none
 all:mg "all"=none
 isinstance:mg "isinstance"=none
 int:mg "int"=none
 bool:mg "bool"=none
 list:mg "list"=none
 tuple:mg "tuple"=none
 sum:mg "sum"=none
 reversed:mg "reversed"=none
theorem A5:bootBuiltins "max"=some (.builtin "max"):=by decide+kernel
theorem GC:bootBuiltins "min"=some (.builtin "min"):=by decide+kernel
theorem Ct:bootBuiltins "bool"=some (.type "bool"):=by decide+kernel
theorem GB:bootBuiltins "int"=some (.type "int"):=by decide+kernel
theorem eo:bootBuiltins "list"=some (.type "list"):=by decide+kernel
theorem HE:bootBuiltins "tuple"=some (.type "tuple"):=by decide+kernel
theorem ng:bootBuiltins "sorted"=some (.builtin "sorted"):=by decide+kernel
theorem bx:bootBuiltins "len"=some (.builtin "len"):=by decide+kernel
theorem zK:bootBuiltins "range"=some (.type "range"):=by decide+kernel
section
variable {P:Program} {w:World} {K:PySem.W.Frag} {mg:Str->Option Value} {base:Heap} {Z:DC}
def w6(N:List Str)(a:List D):DN:=a.map some++List.replicate (N.length-a.length) none
def fY(Z:DC)(n:Nat)(g:cg):Sp:=λh H Q _=>∃(G:Hp)(e:List D)(P:D->Prop),bh G H/\DvAll Z G h e/\g e P/\∀d,P d->∀v f c a,Ext G H c a->Own Z c a n v d f->f.Nodup->(∀b∈f,H b=none/\a b≠none/\c b=none)->Q v a
theorem Own.pure(x:Ext G H c a)(o:Own Z c a n v d f)(i:∀b∈f,H b=none/\a b≠none/\c b=none):∃h,Ext G H h a/\Dv Z h v d:=by
 refine⟨plus c a λb=>b∈f,⟨x.gg.trans (fI x.sub),j4 x.sub,x.hh,λb g j=>?_⟩,o.dv (fI x.sub) λb g u e=>by rw[mR g];exact e⟩
 rw[iW (λz=>g (i b z).1)];exact x.off b g j
theorem BS:∀a H Q E,aV Z b a H Q E->fY Z n b a H Q E:=by
 intro a H Q E c;rfl';obtain⟨G,g,P,s,dv,h,q⟩:=c;ac_rfl;exact⟨G,g,P,s,dv,h,λd i v f t j x o u k=>let ⟨l,m,p⟩:=o.pure x k;q d i v l j m p⟩
theorem iS(l:Nat){x a:Str}{st:Stmt}{f:Addr}{n:FuncData}{N g:List Str}{k:Nat}{m:cg}(F:zg K x a st f n)(S:aG N g (aw st))(o:List Nat)(u:∀i,i<g.length->o.getD i 0=0)(len:∀c P,m c P->c.length=g.length)
  (y:∀(j:Value)(A:Around)(outer:List Env)(s:Shared)(H:Hp)(E:XK)(c:List D)(R:D->Prop),dq k (A.deeper (envOfC a (aw st) s.heap.objs.size f j))->m c R->
   ∃t,uv Z (vw b9 P w K mg base N a (aw st) f j A outer s H E).lU o l (gE st) t/\t {nx:=λ_=>l=0/\R .bA,rt:=R} (w6 N c)):FnOk P w K mg base b9 (k+1) f n g (fY Z l m):=by
 refine F.ok S (λB H Q E h=>?_) (λj A outer s H B Q E C h=>?_)
 ·obtain⟨G,c,R,s,dv,h,q⟩:=h
  rw[dv.length];exact len _ _ h
 rfl';obtain⟨G,c,R,J,dv,h,q⟩:=h;have L:=q;obtain⟨t,M,O⟩:=y j A outer s H E c R C h;have hl:=len _ _ h;ac_rfl;refine⟨_,M,⟨G,H,G⟩,_,_,⟨G,λ_=> [],?_⟩,O,⟨λρ p aI T ⟨U,fp,X⟩=>q _ p.2 _ [] U T X.ex (by rw[p.1];exact⟨.bA,rfl⟩) gK (λb Y=>by cases Y),L,λ_ z=>z.elim,λ_ z=>z.elim,λ_ _ z=>z.elim⟩⟩
 refine⟨.refl J, .refl _,by unfold w6 start;simp[dv.length],λi d e=>?_,λ_=>gK,(λ_ _ _ _ z=>by cases z),(λ_ _ z=>by cases z)⟩
 unfold w6 at e
 have r:i<c.length:=by
  apply Do;intro z;rw[kF (by simpa using lG z),vS] at e
  split at e<;>cases e
 rw[lC (by simpa using r),bQ] at e
 have jv:c[i]? =some d:=by
  cases z:c[i]? with
  |none=>rw[z] at e;cases e
  |some d'=>rw[z] at e;cases e;rfl
 obtain⟨v,hv,uE⟩:=dv.get jv;refine⟨v,?_,by rw[u i (by omega)];exact⟨uE,rfl⟩⟩
 unfold start;rw[lC (by simpa [dv.length] using r),bQ,hv];rfl
theorem aY{x c:Str}{st:Stmt}{f:Addr}{m:FuncData}{N e:List Str}{k:Nat}{j:cg}(F:zg K x c st f m)(S:aG N e (aw st))(l:List Nat)(n:∀i,i<e.length->l.getD i 0=0)(len:∀d P,j d P->d.length=e.length)
  (o:∀(g:Value)(A:Around)(outer:List Env)(s:Shared)(H:Hp)(E:XK)(d:List D)(R:D->Prop),dq k (A.deeper (envOfC c (aw st) s.heap.objs.size f g))->j d R->
   ∃t,uv Z (vw b9 P w K mg base N c (aw st) f g A outer s H E).lU l 0 (gE st) t/\t {nx:=λ_=>0=0/\R .bA,rt:=R} (w6 N d)):FnOk P w K mg base b9 (k+1) f m e (aV Z j):=
 (iS 0 F S l n len λg A outer s H E d R p h=>let ⟨t,a,b⟩:=o g A outer s H E d R p h;⟨t,a,b⟩).imp BS
end
section
variable {Z:DC} {X:Cx} {a b c e o:Expr} {ta tb te:bp} {t:js} {es:List Expr} {pos apos:Pos}
def Rb:cg:=λd P=>∃i j,d= [.int i, .int j]/\P (.int (if j<i then j else i))
def Q8:cg:=λd P=>∃i j,d= [.int i, .int j]/\P (.int (if j>i then j else i))
theorem Eo(h:DvAll Z G d [.int i, .int j]):d= [.int i, .int j]:=by
 cases h with
 |cons a as=>
  cases as with
  |cons b bs=>cases bs;cases a;cases b;rfl
theorem Cz(d:X.calm=true):cK X (.builtin "max") (iU Z Q8):=by
 refine(EG d).imp ?_;intro k H Q f;rfl';obtain⟨G,m,P,s,dv,⟨i,j,rfl,h⟩,q⟩:=f;ac_rfl;exact⟨i,j,Eo dv,q _ h _ G H (.refl s) (.int _)⟩
theorem JT(d:X.calm=true):cK X (.builtin "min") (iU Z Rb):=by
 refine(EJ d).imp ?_;intro k H Q f;rfl';obtain⟨G,m,P,s,dv,⟨i,j,rfl,h⟩,q⟩:=f;ac_rfl;exact⟨i,j,Eo dv,q _ h _ G H (.refl s) (.int _)⟩
theorem pq:∀{d:List V}{f:List Int},DvAll Z G d (f.map D.int)->d=f.map V.int
 |d,[],h=>by cases h;rfl
 |d,b::bs,h=>by
  cases h with
  |cons a as=>cases a;rw[pq as];rfl
def pairD(k:Nat×Nat):D:= .tup [.int (k.1:Nat), .int (k.2:Nat)]
theorem zT:∀{d:List V}{f:List (Nat×Nat)},DvAll Z G d (f.map pairD)->∃L:List (Addr×(Nat×Nat)),d=L.map (λe=>V.ref e.1)/\L.map (·.2)=f/\HC G L
 |d,[],h=>by cases h;exact⟨[],rfl,rfl,λp g=>by cases g⟩
 |d,n::f,h=>by
  cases h with
  |cons a as=>
   obtain⟨L,j,k,l⟩:=zT as;unfold pairD at a;cases a with
   | @tup p m w g e=>
    refine⟨(p,n)::L,by rw[j];rfl,by rw[<-k];rfl,λq i=>?_⟩
    rcases br.mp i with rfl|i
    ·have:m=FW n:=by
      cases e with
      |cons r s=>
       cases s with
       |cons u v=>cases r;cases u;cases v;rfl
     rw[<-this];exact g
    ·exact l q i
theorem HC.dv:∀{L:List (Addr×(Nat×Nat))},HC G L->DvAll Z G (L.map λe=>V.ref e.1) ((L.map (·.2)).map pairD)
 | [],_=> .nil
 |x::L,h=> .cons (.tup (h x (bE ..)) (.cons (.int _) (.cons (.int _) .nil))) (HC.dv λp d=>h p (bV _ d))
def Nk(g h:bp):bp:=λf P=>g f λd=>∃l,d= .lst l/\h f λy=>dF y=true/\l.all dF=true/\∃(j:Nat)(z:D),l[j]? =some z/\iG z y=true/\(∀(m:Nat) z,m<j->l[m]? =some z->iG z y=false)/\P (.int (j:Nat))
theorem qy(E:DE Z X o ta)(I:DE Z X e tb)
  (J:attributeBase o "index" X.env (eval o X.env)=eval o X.env:=by rfl)
  (L:((backTo d (starEach [e] X.env)).all (λx=>!x.1)&&(backToKw d (keywordEach [] X.env)).all (λx=>x.1.isSome)&&decide (([e]:List Expr).length+([]:List Keyword).length+(if ([]:List Keyword).isEmpty then 0 else 1)<30))=true:=by rfl)
  (M:(apos.endLine==d.line)=true:=by rfl) (r:starEach [e] X.env=(false,eval e X.env)::starEach [] X.env:=by rfl) (N:(backTo d (starEach [] X.env)).any (·.1)=false:=by rfl):
  DE Z X (.Call (.Attribute o "index" apos) [e] [] d) (Nk ta tb):=by
 refine(uW Os PySem.F.slot_list_index PySem.F.type_list_index IS E (dr I eQ r) J L M r N).imp ?_;intro σ H Q O;rfl';obtain⟨G,A,P,s,B,h,q⟩:=O;ac_rfl;refine⟨G,A,_,s,B,h,?_⟩;rintro _ ⟨l,rfl,S⟩ v T H1 f dv;cases dv with
 | @lst p U ds C e=>
  refine⟨ty_list (f.sub _ _ C),T,A,_,f.sub,B.mono f.gg,S,λy Y u a b i k=>?_⟩;rfl';obtain⟨c,t,j,z,h3,h4,h5,h6⟩:=Y;have n:=e.mono i.gg;obtain⟨w,hw,dw⟩:=n.get h3;ac_rfl;refine⟨p,U,u,j,w,rfl,rfl,i.hh _ _ (f.sub _ _ C),by rw[tE k];exact c,by rw[pA n];exact t,hw,by rw[Bg dw k];exact h4,λm z' hm hz=>?_,q _ h6 _ a b (f.trans i) (.int _)⟩
  obtain⟨d',jv,uE⟩:=n.C4 hz;rw[Bg uE k];exact h5 m d' hm jv
end
structure GA (Z:DC):Prop where
 cl:xa Z.K Z.C
 nR:m9 Z.K Z.C "rows"
section
variable {Z:DC} {X:Cx} {a b c e o:Expr} {ta tb te:bp} {t:js} {es:List Expr} {pos apos:Pos}
def R9(f:bp):bp:=λg P=>f g λd=>∃w,d= .eM w/\P (aU w)
theorem sZ(T:GA Z)(i:DE Z X o ta)(d:X.K=Z.K:=by rfl)(j:attributeBase o "rows" X.env (eval o X.env)=eval o X.env:=by rfl):DE Z X (.Attribute o "rows" apos) (R9 ta):=by
 refine(OE i j).imp ?_;intro B H Q k;rfl';obtain⟨G,m,P,s,n,h,q⟩:=k;ac_rfl;refine⟨G,m,_,s,n,h,?_⟩;rintro _ ⟨w,rfl,r⟩ v u x f dv;cases dv with
 | @eM p y R w z A g F I=>exact⟨p,Z.C,y,_, .ref R,rfl,f.sub _ _ z,by rw[d];exact T.cl,by rw[d];exact T.nR,rfl,q _ r _ u x f A⟩
def EO(g:cg)(h:bp)(t:js):bp:=λf P=>h f λd=>∃w,d= .eM w/\t f λi=>g (.eM w::i) P
theorem An(y:([("rows",V.ref 0)]:List (Str×V)).lookup m=none):∀j H Q,e8 Z (EO i ta t) j H Q->Gj Z.C m (aV Z i) [] E0 (e8 Z ta) (Fy Z t) j H Q:=by
 intro j H Q A;rfl';obtain⟨G,u,P,s,x,h,q⟩:=A;ac_rfl;refine⟨G,u,_,s,x,h,?_⟩;rintro _ ⟨w,rfl,k⟩ v E b f dv;have l:=dv;cases dv with
 | @eM p F R w I c g e o=>
  refine⟨p,F,_,rfl,f.sub _ _ I,?_,E,u,_,f.sub,x.mono f.gg,k,λX J L M N n O=>?_⟩
  ·have S:(m==("rows":Str))=false:=by
    cases z:(m==("rows":Str)) with
    |false=>rfl
    |true=>simp[List.lookup,z] at y
   simp[List.lookup,S]
  ·show aV Z i (V.ref p::(L++ [])) N Q E0
   rw[m8];exact⟨M,_,P,n.sub, .cons (l.mono n.gg) O,J,λd k v T U Y r=>q d k v T U ((f.trans n).trans Y) r⟩
variable {sd:cg} {k:Nat} {f:Addr} {fd:FuncData} {ps:List Str} {m:Str}
theorem CL(T:GA Z)(h:DE Z X o ta)(i:Meth Z.K Z.C m f)(F:FnOk X.prog X.w X.K X.mg X.base b9 k f fd ps (aV Z sd))(j:dq k X.A)(l:Binds X.K fd ps [])(n:DA Z X (e::es) t)(d:X.K=Z.K:=by rfl)
  (p:([("rows",V.ref 0)]:List (Str×V)).lookup m=none:=by decide) (q:starEach (e::es) X.env=(false,eval e X.env)::starEach es X.env:=by rfl) (r:(backTo pos (starEach es X.env)).any (·.1)=false:=by rfl)
  (s:eval (.Call (.Attribute o m apos) (e::es) [] pos) X.env=(do
   let g <-eval o X.env
   standAt apos.atName
   let (f,first) <-holding [g] (getMethod g m pl)
   callWith pos f first (backTo pos (starEach (e::es) X.env)) (backToKw pos (keywordEach [] X.env))):=by rfl):DE Z X (.Call (.Attribute o m apos) (e::es) [] pos) (EO sd ta t):=
 (LQ (pl:=pl) h (by rw[d];exact T.cl) (by rw[d];exact i) F j l .nil yG n q r s).imp (An p)
theorem dY(T:GA Z)(l:DE Z X o ta)(n:Meth Z.K Z.C m f)(F:FnOk X.prog X.w X.K X.mg X.base b9 k f fd ps (aV Z sd))(r:dq k X.A)(u:Binds X.K fd ps [])(i:X.K=Z.K:=by rfl)
  (x:([("rows",V.ref 0)]:List (Str×V)).lookup m=none:=by decide)
  (y:eval (.Call (.Attribute o m apos) [] [] pos) X.env=(do
   let j <-eval o X.env
   standAt apos.atName
   let (f,first) <-holding [j] (getMethod j m pl)
   callWith pos f first (backTo pos (starEach [] X.env)) (backToKw pos (keywordEach [] X.env))):=by rfl):DE Z X (.Call (.Attribute o m apos) [] [] pos) (EO sd ta sX):=
 (I0 (pl:=pl) l (by rw[i];exact T.cl) (by rw[i];exact n) F r u .nil yG y).imp λz H Q h=>by
  rfl';obtain⟨G,E,P,s,I,h,q⟩:=An x z H Q h;ac_rfl;refine⟨G,E,P,s,I,h,λd J v L M N dv=>?_⟩;rfl';obtain⟨p,O,fs,R,S,U,Y,t,P',a,b,c,e⟩:=q d J v L M N dv;ac_rfl;exact⟨p,O,fs,R,S,U,e _ c _ Y _ (.refl a) .nil⟩
def Ed(Z:DC):Sp:=λi H Q _=>∃(p h:Addr)(v:V)(G:Hp)(w:List (List Nat)),i= [.ref p,v]/\H p=some (.ins Z.C h [])/\bh G H/\G p=none/\Dv Z G v (aU w)/\Wb.Good w/\1<=w.length/\w.length<=14/\
 ∀(R:Addr)(d g:Hp),bh G d->bh d g->(∀b o,H b=some o->b≠p->g b=some o)->(∀b,H b≠none->G b=none->d b=none)->g p=some (.ins Z.C h [("rows", .ref R)])->Dv Z d (.ref R) (aU w)->Q .bA g
def R4(t:js):bp:=λd P=>t d λg=>∃w,g= [aU w]/\Wb.Good w/\1<=w.length/\w.length<=14/\P (.eM w)
theorem CK(M:Mk Z.K Z.C f)(F:FnOk X.prog X.w X.K X.mg X.base b9 k f fd ps (Ed Z))(N:dq (k+1) X.A)(n:Gl X x)(O:X.mg x=some (.ref Z.C))(j:Binds X.K fd ps [])
  (S:DA Z X (e::es) t) (T:X.K=Z.K:=by rfl) (U:(x==("__debug__":Str))=false:=by decide) (Y:starEach (e::es) X.env=(false,eval e X.env)::starEach es X.env:=by rfl) (a:(backTo pos (starEach es X.env)).any (·.1)=false:=by rfl):
  DE Z X (.Call (.Name x p) (e::es) [] pos) (R4 t):=by
 refine(LP (by rw[T];exact M) F N n O j .nil yG S U Y a).imp ?_
 intro σ H Q c;rfl';obtain⟨G,ρ,P,s,en,h,q⟩:=c;ac_rfl;refine⟨G,ρ,_,s,en,h,?_⟩;rintro _ ⟨w,rfl,g,y,B,hp⟩ vs G1 H1 d r p l i Xy ne;cases r with
 | @cons v _ _ _ dv r=>
  cases r;have zq:upd H1 l (.own p) p=none:=by rw[aO (Ne.symm ne)];exact i
  have u:=(bf Xy (.own p)).trans (bf zq (.ins Z.C l []));refine⟨p,l,v,G1,w,rfl,aB,d.sub.trans u,d.sub.free i,dv,g,y,B,λR E H2 g1 g2 kp off NQ Bd=>⟨rfl,?_⟩⟩;have I:E p=none:=off p (by rw[aB];exact λz=>nomatch z) (d.sub.free i)
  refine q _ hp _ (upd E p (.ins Z.C l [("rows", .ref R)])) H2 ⟨(d.gg.trans g1).trans (bf I _),λb o e=>?_,λb o e=>?_,λb j n=>?_⟩ (.eM aB (Bd.mono (bf I _)) g y B)
  ·by_cases z:b=p
   ·subst z;rw[aB] at e;cases e;exact NQ
   ·rw[aO z] at e;exact g2 _ _ e
  ·have J:=d.hh _ _ e
   exact kp b o (u _ _ J) (bu J i)
  ·have L:=jn d.hh j
   have nb:b≠p:=λz=>L (by rw[z];exact i)
   rw[aO nb];exact off b (jn u L) (d.off b j n)
end
section
variable {Z:DC} {X:Cx} {pos:Pos}
theorem fc.snoc:∀{b:List V}{c:List D}{fs:List Addr}{v:V}{d:D}{f:List Addr},fc R b c fs->R v d f->fc R (b++ [v]) (c++ [d]) (fs++f)
 |_,_,_,v,d,f, .nil,r=>by simpa using fc.cons r .nil
 |_,_,_,v,d,f, .cons a as,r=>by rw[iJ];exact .cons a (as.snoc r)
variable {tg iter elt:Expr} {scope:Scope} {NC:List Str} {src:List (Option Nat)} {wi:jt} {g:fB} {tf:g6} {md:List Nat} {rn:Nat}
end
abbrev jZ:=inClass
structure ED (Z:DC) (m qual:Str) (st:Stmt) (ps:List Str) where
 f:Addr
 fd:FuncData
 F:zg Z.K m qual st f fd
 b:Binds Z.K fd ps []
 m:Meth Z.K Z.C m f
def uc(K:PySem.W.Frag):Sp:=λc H Q _=>∃(a:Addr)(b:List Int),c= [.ref a]/\cM K H a (b.map V.int)/\b.length<=63/\∀d,Q (.bl true) d
def Hv:cg:=λb P=>∃a:List Int,b= [.jF a]/\a.length<=63/\P (.bl true)
theorem N6{Z:DC}:∀b H Q E,uc Z.K b H Q E->aV Z Hv b H Q E:=by
 rintro b H Q E ⟨a,c,rfl,f,e,q⟩;exact⟨H,[.jF c],λd=>d= .bl true, .refl _, .cons (.jF f e) .nil,⟨c,rfl,e,rfl⟩,λd g v i h x dv=>by subst g;cases dv;exact q h⟩
theorem Us(k:Nat){l:PySem.W.OpenLaw}{q:Program}{e:List Str}{o:(Str->Option Value)->Heap->Prop}{m:World->Heap->Prop}{d:DefRec}{K:Params->PySem.W.Frag}(p:3*k<150)(r:l.most=some 63)(t:d.params.defaults= [])
  (v:∀(w:World)(h:Heap),m w h->(K w.params).In h)
  (F:∀(w:World)(g:Str->Option Value)(i:Addr)(h:Heap),(K w.params).In h->h.Ns mainGlobals g->g d.name=some (.ref i)->
   ∃j:FuncData,(∀(s:Shared)(u:Value),BindsTo s j ⟨[u],[]⟩ [("_law_script",u)])/\∀base:Heap,(K w.params).In base->base.Ns mainGlobals g->FnOk l.prog w (K w.params) g base b9 k i j ["_law_script"] (uc (K w.params))):
  PySem.W.WalkO q e o m l.row.toRowW d [] (λf A=>PySem.call f A):=
 L2.M1 (n:=63) (k:=50) (x:="_law_script") (CX:=λ_=>b9) (sp:=λw=>uc (K w.params)) r (by decide) t ⟨rfl,by decide,by decide⟩ v (λw g i h a b c=>by
  obtain⟨j,B,C⟩:=F w g i h a b c;exact⟨j,B,λbase x y=>(C base x y).mono (by omega)⟩) (λ_ _ a E G _ H=>⟨a,E,rfl,H,G,λ_=>rfl⟩) λ_ _ _ _ _ z=>z
theorem bg{c:Bool}{A B:Prop}(a:c=true->A)(b:c=false->B):if c=true then A else B:=by
 cases c with
 |true=>exact eY (a rfl)
 |false=>exact cj (b rfl)
theorem jg{ρ:DN}(c:j->D)(p:j->Bool)(f:j->D):∀(e:List j)(d:DN)(a:List D)(N:DN->List D->Prop),(∀y∈e,∀(Y:D->Prop)(r:Prop),(p y=true->Y (f y))->(p y=false->r)->k (ρ.set i (some (c y))) λb=>if b=true then q (ρ.set i (some (c y))) Y else r)->
  (∃o,d=ρ.set i o)->a.length+e.length<=sizeLine->(∀d,N d (a++(e.filter p).map f))->lcW (wI i) k q (e.map c) d a N
 | [],d,a,N,_,_,_,h=>by
  show N d a;simpa using h d
 |y::e,d,a,N,l,⟨o,s⟩,g,h=>by
  show k (d.set i (some (c y))) _;rw[s,List.set_set];rw[cD] at g;refine l y (bE ..) _ _ (λm=>⟨by omega,?_⟩) (λm=>?_)
  ·refine jg c p f e _ (a++ [f y]) N (λz g=>l z (bV _ g)) ⟨_,rfl⟩ (by simp;omega) λn=>?_
   have:=h n
   rw[vd,m] at this;simpa using this
  ·refine jg c p f e _ a N (λz g=>l z (bV _ g)) ⟨_,rfl⟩ (by omega) λn=>?_
   have:=h n
   rw[vd,m] at this;simpa using this
theorem ib{ρ:DN}(a:c->D)(f:c->D)(b:List c)(N:DN->List D->Prop)(j:∀y∈b,∀(Y:D->Prop),Y (f y)->g (ρ.set i (some (a y))) Y)(k:ρ[i]? =some none)(l:b.length<=sizeLine)(h:∀d,N d (b.map f)):lcW (wI i) xI g (b.map a) ρ [] N:=by
 refine jg (ρ:=ρ) a (λ_=>true) f b ρ [] N (λy m Y o n _=>?_) ⟨none,?_⟩ (by simpa using l) λd=>by rw[List.filter_eq_self.mpr (λ_ _=>rfl),qu];exact h d
 ·unfold xI
  dsimp only;rw[tz rfl];exact j y m Y (n rfl)
 ·obtain⟨p,e⟩:=di.mp k
  rw[<-e,ac3]
theorem z6(I:Nat->DN->Prop):∀(b:List D)(k:Nat)(a:DN),I k a->(∀(j:Nat)(d:D)(a:DN),b[j]? =some d->I (k+j) a->∀A:DN->Prop,(∀a,I (k+j+1) a->A a)->g d a λn=>m {nx:=A,ct:=A,bk:=E.nx,rt:=E.rt,xc:=E.xc} n)->
  (∀a,I (k+b.length) a->E.nx a)->ke g m E b a
 | [],k,a,c,e,f=>f a c
 |d::b,k,a,c,e,f=>by
  refine e 0 d a rfl c _ λo p=>?_
  exact z6 I b (k+1) o p (λj q h r i A s=>by
   refine e (j+1) q h (by simpa using r) (by rw[show k+(j+1)=k+1+j by omega];exact i) A λl t=>s l ?_
   rw[show k+1+j+1=k+(j+1)+1 by omega];exact t) (λh i=>f h (by rw[cD,show k+(b.length+1)=k+1+b.length by omega];exact i))
theorem bO(I:Nat->DN->Prop)(e:I 0 a)(f:∀(j:Nat)(d:D)(a:DN),b[j]? =some d->I j a->∀A:DN->Prop,(∀a,I (j+1) a->A a)->g d a λi=>c {nx:=A,ct:=A,bk:=E.nx,rt:=E.rt,xc:=E.xc} i)
  (k:∀a,I b.length a->E.nx a):ke g c E b a:=z6 I b 0 a e (λj d a l h A m=>f j d a l (by simpa using h) A λn o=>m n (by simpa using o)) (λa h=>k a (by simpa using h))
theorem Ks{g:fB}{c:cN}{E:eS}{lo:Int}{n:Nat}{a:DN}(I:Nat->DN->Prop)(f:I 0 a)(i:∀(j:Nat)(a:DN),j<n->I j a->∀A:DN->Prop,(∀a,I (j+1) a->A a)->g (.int (lo+j)) a λk=>c {nx:=A,ct:=A,bk:=E.nx,rt:=E.rt,xc:=E.xc} k)
  (m:∀a,I n a->E.nx a):ke g c E (eC lo n) a:=by
 have l:(eC lo n).length=n:=by unfold eC;simp
 refine bO I f (λj d a b h A o=>?_) (λa h=>m a (by rw[l] at h;exact h))
 have e:j<n:=by
  have:=(di.mp b).1
  rw[l] at this;exact this
 rw[vK e] at b;cases Da b;exact i j a e h A o
theorem kE(I:Nat->DN->Prop)(g:Nat)(h:I g a)(i:∀m a,I m a->c a λb=>if b=true then f {nx:=λe=>∃d,d<m/\I d e,ct:=λe=>∃d,d<m/\I d e,bk:=E.nx,rt:=E.rt,xc:=E.xc} a else E.nx a):GH c f E a:=⟨I,⟨g,h⟩,i⟩
def UE(K:PySem.W.Frag)(a:Addr)(n:Nat):It:=
 ⟨λi H=>i<n/\∃b,cM K H a b/\b.length=n,λi H x c=>c=H/\∀b,cM K H a b->b[n-1-i]? =some x,λi H=>n<=i⟩
theorem Jx{P:Program}{w:World}{K:PySem.W.Frag}{U:Expr}(a g:Addr)(n:Nat):Turn P w K U (UE K a n) [g] g (λi h=>i<=n/\h.IsRevIter g a ((n:Int)-1-(i:Int))) where
 mem:=by simp
 obj:=λi h st b j=>by
  have e:b=g:=by simpa using j
  subst e;obtain⟨_,o,e,c,d⟩:=st;exact⟨o,e,λv z=>by rw[d] at z;cases z⟩
 keep:=λi h l st k=>⟨st.1,st.2.at λo e=>k g (by simp) o e⟩
 item:=by
  intro X r hw t L i f s M H E I m st q;rfl';subst r hw t;obtain⟨N,O,Q,hl⟩:=q;obtain⟨Z,R,p,hz⟩:=I.list Q;have S:=R.length;have T:O[n-1-i]? =some (O[n-1-i]'(by omega)):=bJ (by omega)
  obtain⟨u,hu,ru⟩:=R.get T;obtain⟨A,B,f2,C,F,G⟩:=m g (by simp)
  have e:(n:Int)-1-(i:Int)=((n-1-i:Nat):Int):=by omega
  obtain⟨_,st⟩:=st;rw[e] at st;ac_rfl;refine wpAny_pyNext_rev_item st p.isList (x:=u) (by simpa using hu) λl J sb=>?_
  have I1:Inv X f M H {s with heap:=l}:=I.turned (t':=s.toks) (λb o j e=>(sb.2 b j).trans e) A B C F G
  have e2:((n-1-i:Nat):Int)-1=(n:Int)-1-((i+1:Nat):Int):=by omega
  rw[e2] at J;obtain⟨o,e,c,d⟩:=id J;exact⟨u,rfl,Bj (s:={s with heap:=l}) e c d (by decide) ⟨_,H,I1,ru,⟨rfl,λys hy=>by rw[I.uN hy Q];exact T⟩,⟨N,J⟩,λb j=>(m b j).1⟩⟩
 done:=by
  intro X r hw t L i f s M H E I m st q;rfl';subst r hw t;obtain⟨N,st⟩:=st;have q:n<=i:=q;have e:(n:Int)-1-(i:Int)= -1:=by omega
  rw[e] at st;obtain⟨A,B,f2,C,F,G⟩:=m g (by simp)
  ac_rfl;exact wpAny_pyNext_rev_end (I.ok.hd L) st λl eb=>⟨rfl,I.turned (t':=s.toks) (λb o j e=>eb b o j e) A B C F G⟩
 self:=λ_ _ _ _ _ st h=>wpAny_pyIter_revIter st.2 h
theorem A6:bootBuiltins "reversed"=some (.type "reversed"):=by decide+kernel
section
variable {Z:DC} {X:Cx} {a b c e:Expr} {ta tb te:bp} {t:js} {pos:Pos}
def Yd(K:PySem.W.Frag)(g:TA):TI:=λh H R=>g h H λi d=>∃a f,i= [.ref a]/\cM K d a f/\R (UE K a f.length) d
theorem OM(v:Gl X "reversed")(w:X.mg "reversed"=none)(x:PA X [a] m)(y:starEach [a] X.env= [(false,eval a X.env)]:=by rfl):
  PI X r (.Call (.Name "reversed" p) [a] [] pos) (Yd X.K m):=by
 intro f s z H R I h;refine Call_ (kU I v w A6 (aci (thn (x pos f s z H _ I h) λM d ⟨N,A,j,B,C⟩=>?_) y rfl));rfl';obtain⟨l,n,e,F,q⟩:=C;subst e;obtain⟨u,rfl,G⟩:=B.one;subst G;obtain⟨k,J,p,Q⟩:=j.list F;have g:=J.length;ac_rfl;refine call_reversed_list p.isList ?_;have i:(d.heap.push (revObj l ((k.toArray.size:Int)-1))).IsRevIter d.heap.objs.size l ((n.length:Int)-1-((0:Nat):Int)):=⟨_,Gc _ rfl,rfl,by simp[revObj,g]⟩
 refine wpAny_pyIter_revIter i ?_;refine⟨d.heap.objs.size,[d.heap.objs.size],_,_,A,rfl,j.kept (t':=d.toks) λb o e=>AC _ e,Jx l _ n.length,⟨dS _,i⟩,λb L=>?_,q⟩;have e:b=d.heap.objs.size:=by simpa using L
 subst e;exact j.C3 (bH _) (j.hok.fresh (bH _))
def Se(t:js):jt:=λd P=>t d λf=>match f with
 | [.lst l]=>P l.reverse
 |_=>False
theorem Bc(v:Gl X "reversed")(w:X.mg "reversed"=none)(f:DA Z X [a] t)(y:starEach [a] X.env= [(false,eval a X.env)]:=by rfl):DI Z X u (.Call (.Name "reversed" p) [a] [] pos) (Se t):=by
 refine(OM v w f y).imp ?_;rintro M H Q ⟨G,z,P,s,A,h,q⟩;refine⟨G,z,_,s,A,h,λB g N C E m dv=>?_⟩;cases dv with
 |nil=>exact g.elim
 |cons a as=>
  cases as with
  |cons _ _=>cases a<;>exact g.elim
  |nil=>
   cases a<;>first|exact g.elim|skip
   rename_i p j B f e
   refine⟨_,j,rfl,cM.of (m.sub _ _ f),q _ g _ C E m ?_⟩;intro F O n o i;have r:=cM.of (K:=X.K) (o _ _ (n _ _ f));have l:=e.length;rw[vX];refine⟨λk=>⟨by omega,j,r,rfl⟩,λk=>(show j.length<=i by omega),?_⟩
   rintro x R k ⟨rfl,I⟩;obtain⟨d,J,L⟩:=e.C4 (I _ r);refine⟨F,d, .refl o,?_,L.mono n⟩;rw[List.getElem?_reverse k,<-l];exact J
variable {md:List Nat} {rn:Nat} {k:Expr} {tk:bp}
variable {apos aP:Pos}
def Nj(i:Nat):cN:=λE d=>∃f,d[i]? =some (some (.lst f))/\E.nx (d.set i (some (.lst [])))
theorem HX(i:Nat)(j:md.getD i 0=1:=by rfl)
  (m:X.N[i]? =some x:=by rfl) (n:lJ X.env.scope x:=by first|exact Or.inl rfl|exact Or.inr (Or.inl rfl) |exact Or.inr (Or.inr rfl)) (o:(x==("__debug__":Str))=false:=by decide) (p:(x==("__classdict__":Str))=false:=by decide)
  (q:attributeBase (.Name x d) "clear" X.env (eval (.Name x d) X.env)=eval (.Name x d) X.env:=by rfl) (r:(apos.endLine==aP.line)=true:=by rfl)
  (s:swapsWith (.Call (.Attribute (.Name x d) "clear" apos) [] [] aP) none pos.line X.env=pure false:=by rfl):DSt Z X md rn (.Expr (.Call (.Attribute (.Name x d) "clear" apos) [] [] aP) pos) (Nj i):=by
 refine(iz (Hg Os PySem.F.slot_list_clear PySem.F.type_list_clear IQ (pv i m n o p) q r) s).imp ?_;intro D C H u;rfl';obtain⟨B,I,E,⟨G,w,S⟩,⟨J,y,h⟩,M⟩:=u;ac_rfl;rfl';obtain⟨l,z,L,O,A,g,Q,put⟩:=S.one j y;ac_rfl;exact⟨_,A,ty_list g,l,z,rfl,rfl,g,M.nx _ h _ _ ⟨G,w,put [] [] .nil⟩⟩
variable {es:List Expr}
def Kn(g:cg)(t:js):g6:=λh P=>t h λas=>g as λd=>∃f,d= .lst f/\P f
theorem J6{k:Nat}(F:FnOk X.prog X.w X.K X.mg X.base b9 k f l m (fY Z n g))(u:dq k X.A)(y:Gl X x)(z:X.mg x=some (.ref f))(B:PySem.W.keepIn X.K (.ref f)=true)(d:Binds X.K l m [])
  (C:DA Z X (e::es) t) (E:(x==("__debug__":Str))=false:=by decide) (I:starEach (e::es) X.env=(false,eval e X.env)::starEach es X.env:=by rfl) (J:(backTo pos (starEach es X.env)).any (·.1)=false:=by rfl):
  DF Z X n (.Call (.Name x p) (e::es) [] pos) (Kn g t):=by
 refine(DX F u y z B d .nil yG C E I J).imp ?_;intro σ H Q L;rfl';obtain⟨G,N,P,s,O,h,q⟩:=L;ac_rfl;refine⟨G,N,_,s,O,h,λR S T U Y j a=>?_⟩;show fY Z n g (T++ []) Y Q E0;rw[m8];refine⟨U,R,_,j.sub,a,S,?_⟩;intro _ c v f G2 H2 x2 o nd r;rfl';obtain⟨lN,rfl,hp⟩:=c;ac_rfl;exact q _ hp v f G2 H2 (j.trans x2) o nd λb d=>⟨j.hh.free (r b d).1,(r b d).2⟩
end
section
variable {X:Cx} {elt t0 i0 t1 i1:Expr} {f0 f1:List Expr} {scope:Scope} {pos:Pos} {wi g7:TI} {g g1:TG} {tt eH:TT} {te:TE} {src:List (Option Nat)} {NC:List Str}
end
section
variable {Z:DC} {X:Cx} {md:List Nat} {rn:Nat} {elt t0 i0 t1 i1:Expr} {f0 f1:List Expr} {scope:Scope} {pos:Pos} {wi g7:jt} {g g1:fB} {tt eH:dQ} {te:bp} {src:List (Option Nat)} {NC:List Str}
end
section
variable {Z:DC} {X:Cx} {md:List Nat} {rn:Nat} {e:Expr} {pos:Pos}
def JY(i:Nat)(t:g6):cN:=λE a=>t a λb=>b.all dF=true/\E.nx (a.set i (some (.lst b)))
theorem DvAll.flat:∀{c:List V}{b:List D},DvAll Z G c b->b.all dF=true->DvAll Z d c b
 |_,_, .nil,_=> .nil
 |_,_, .cons a as,h=>by
  rw[acX,v3] at h;exact .cons (a.flat h.1) (as.flat h.2)
theorem CO(i:Nat)(n:X.N.Nodup)(p:DF Z X 1 e t)(q:r.getD i 0=1:=by rfl)(s:X.N[i]? =some x:=by rfl)(u:Loc X.env.scope x:=by first|exact Or.inl rfl|exact Or.inr rfl)(w:swapsWith e (some (.Name x c)) d.line X.env=pure false:=by rfl)
  (y:X.fn x=true\/X.env.scope.names.lookup x=some .local:=by first|exact .inl rfl|exact .inr rfl|assumption):DSt Z X r rn (.Assign [.Name x c] e d) (JY i t):=by
 refine(i7 n s u p w y).imp ?_;intro D σ H z;rfl';obtain⟨B,C,E,⟨G,fp,S⟩,h,M⟩:=z;ac_rfl;refine⟨H,C,_, .refl _,S.zW,h,?_⟩;rintro F ⟨I,J⟩ v f G' H' x o nd l;have L:=Ext.all S.ex.sub x;have O:=S.grow L;obtain⟨a,Q,lN,fK,rfl,R,T,m,U⟩:=o.lst;cases R;obtain⟨dv,rfl⟩:=U.flat;have g:H a=none:=(l a (by rw[m];simp)).1
 refine M.nx _ J _ _ ⟨G,_,O.vO (f:= [a]) q (.inl ⟨a,Q,F,[],rfl,rfl,T,rfl,(dv.flat I).own⟩) (by simp) (λb k=>?_) λb k j _ Y=>?_⟩
 ·have:b=a:=by simpa using k
  subst this;exact⟨S.ex.hh.free g,(l b (by rw[m];simp)).2.1,S.ex.sub.free g⟩
 ·have:b=a:=by simpa using k
  subst this;exact(S.nw j b Y).2.1 g
end
theorem rN{l:List D}{j:Nat}{d:D}(h:(hV l)[j]? =some d):∃x,l[j]? =some x/\d= .tup [.int (j:Int),x]:=by
 unfold hV at h;rw[List.getElem?_mapIdx] at h;cases e:l[j]? with
 |none=>rw[e] at h;cases h
 |some x=>rw[e] at h;cases h;exact⟨x,rfl,rfl⟩
theorem xM(l:List D):(hV l).length=l.length:=by unfold hV;simp
theorem b8{a b:Type}{f:a->b}{l:List a}{j:Nat}{y:b}(h:(l.map f)[j]? =some y):∃x,l[j]? =some x/\y=f x:=by
 rw[bQ] at h;cases e:l[j]? with
 |none=>rw[e] at h;cases h
 |some x=>rw[e] at h;cases h;exact⟨x,rfl,rfl⟩
theorem cP(r:List Nat):(r.map aq).all dF=true:=by simp[aq,dF]
theorem ia{r:List Nat}{p:Nat}:inD (aq p) (r.map aq)=decide (p∈r):=by
 unfold inD;rw[List.any_map]
 have:((λy=>iG y (aq p))∘aq)=λq:Nat=>decide (q=p):=by
  funext q
  simp[aq,iG,Function.comp]
  by_cases z:q=p
  ·simp[z]
  ·have:¬(q:Int)=(p:Int):=by omega
   simp[z,this]
 rw[this]
 by_cases h:p∈r
 ·rw[GE h,List.any_eq_true];exact⟨p,h,by simp⟩
 ·rw[FM h]
  apply rB.mpr;intro z;rw[List.any_eq_true] at z;obtain⟨q,a,e⟩:=z
  exact h (by have:q=p:=by simpa using e
              rw[<-this];exact a)
theorem gd{l:List D}{p:Nat}{d:D}(h:l[p]? =some d):fJ l (p:Int)=some d:=Cp h
theorem y6(h:p<w.length):(w.map ay)[p]? =some (ay (Wb.row w p)):=by
 rw[bQ,Wb.D5 h];rfl
section
variable {Z:DC} {X:Cx} {md:List Nat} {rn:Nat} {e:Expr} {te:bp} {pos:Pos}
def RY(b:bp):cN:=λE a=>b a λ_=>E.nx a
theorem tx(a:DE Z X e te)(b:swapsWith e none pos.line X.env=pure false:=by rfl):DSt Z X md rn (.Expr e pos) (RY te):=by
 refine(iz a b).imp ?_;intro D k H c;rfl';obtain⟨B,g,E,⟨G,i,S⟩,h,M⟩:=c;ac_rfl;exact⟨H,g,_, .refl _,S.zW,h,λd j v m n x dv=>M.nx _ j _ _ ⟨G,i,S.grow (Ext.all S.ex.sub x)⟩⟩
end
theorem QV(h:A):xI a (λb=>if b=true then A else B):=by
 unfold xI;dsimp only;rw[tz rfl];exact h
theorem Af{c:Bool}{A B:Prop}(e:c=false)(h:B):if c=true then A else B:=by rw[mo (by rw[e];exact cw)];exact h
theorem kR(I:DN->Prop)(e:n->D)(p:n->Bool)(f:n->D):∀(j:List n)(i:DN)(a:List D)(N:DN->List D->Prop),(∀y∈j,∀i,I i->∀(Y:DN->D->Prop)(v:DN->Prop),(∀c,I c->p y=true->Y c (f y))->(∀c,I c->p y=false->v c)->g (e y) i λc=>l c λb=>if b=true then m c (Y c) else v c)->
  I i->a.length+j.length<=sizeLine->(∀i,I i->N i (a++(j.filter p).map f))->lcW g l m (j.map e) i a N
 | [],i,a,N,_,o,_,h=>by
  show N i a;simpa using h i o
 |y::j,i,a,N,q,o,k,h=>by
  rw[cD] at k;refine q y (bE ..) i o (λc d=>a.length<sizeLine/\lcW g l m (j.map e) c (a++ [d]) N) (λc=>lcW g l m (j.map e) c a N) (λc r s=>⟨by omega,?_⟩) (λc r s=>?_)
  ·refine kR I e p f j _ (a++ [f y]) N (λz k=>q z (bV _ k)) r (by simp;omega) λt u=>?_
   have:=h t u
   rw[vd,s] at this;simpa using this
  ·refine kR I e p f j _ a N (λz k=>q z (bV _ k)) r (by omega) λt u=>?_
   have:=h t u
   rw[vd,s] at this;simpa using this
theorem fX(h:b.length=1):∃d,b= [d]:=by
 cases b with
 |nil=>cases h
 |cons a l=>
  cases l with
  |nil=>exact⟨a,rfl⟩
  |cons _ _=>cases h
theorem n9(h:b.length=2):∃e c,b= [e,c]:=by
 cases b with
 |nil=>cases h
 |cons a l=>
  obtain⟨c,rfl⟩:=fX (adL h);exact⟨a,c,rfl⟩
theorem yc(h:b.length=3):∃f c d,b= [f,c,d]:=by
 cases b with
 |nil=>cases h
 |cons a l=>
  obtain⟨c,d,rfl⟩:=n9 (adL h);exact⟨a,c,d,rfl⟩
theorem yd(h:b.length=4):∃g c d e,b= [g,c,d,e]:=by
 cases b with
 |nil=>cases h
 |cons a l=>
  obtain⟨c,d,e,rfl⟩:=yc (adL h);exact⟨a,c,d,e,rfl⟩
theorem QB(h:b.length=5):∃i c d e f,b= [i,c,d,e,f]:=by
 cases b with
 |nil=>cases h
 |cons a l=>
  rfl';obtain⟨c,d,e,f,rfl⟩:=yd (adL h);ac_rfl;exact⟨a,c,d,e,f,rfl⟩
section
variable {Z:DC} {X:Cx}
end
theorem b6.nest(k:f.kind= .function)(a:∀x∈f.names,x.2= .local->f.names.lookup x.1=some .local)(b:∀x∈f.names,x.2≠ .cell)
  (d:∀x∈f.names,x.2= .free->c.names.lookup x.1=some .free):b6 (cO X c g i s H) f where
 kind:=k
 names:=a
 nocell:=b
 free:=λx j e=>by
  have h:(cO X c g i s H).env.kindOf x.1=(c.names.lookup x.1).map λk=>if (k==NameKind.free&&X.env.scope.kind== .function&&X.env.kindOf x.1==some .cell) then NameKind.cell else k:=gL c.names x.1;rw[h,d x j e,Option.map_some]
  split
  ·exact .inl rfl
  ·exact .inr rfl
section
variable {Z:DC} {X:Cx} {e:Expr} {es:List Expr} {t:js} {pos:Pos}
theorem aA{a:cg}{k j:Nat}{x:Str}{st:Stmt}{c:List Str}{p:Pos}(d:dU X.K X.mg x st c)(F:FnOk X.prog X.w X.K X.mg X.base b9 k d.f d.fd c (aV Z a))(g:dq j X.A)(h:DA Z X (e::es) t)(i:Gl X x:=by rfl)(l:k<=j:=by first|decide|omega)
  (n:(x==("__debug__":Str))=false:=by decide) (o:starEach (e::es) X.env=(false,eval e X.env)::starEach es X.env:=by rfl) (q:(backTo pos (starEach es X.env)).any (·.1)=false:=by rfl):
  DE Z X (.Call (.Name x p) (e::es) [] pos) (xG a t):=J5 F (g.mono l) i d.m d.F.kp d.b h n o q
theorem uD{n:Nat}{a:cg}{k j:Nat}{x:Str}{st:Stmt}{c:List Str}{p:Pos}(d:dU X.K X.mg x st c)(F:FnOk X.prog X.w X.K X.mg X.base b9 k d.f d.fd c (fY Z n a))(g:dq j X.A)(h:DA Z X (e::es) t)(i:Gl X x:=by rfl)(l:k<=j:=by first|decide|omega)
  (o:(x==("__debug__":Str))=false:=by decide) (q:starEach (e::es) X.env=(false,eval e X.env)::starEach es X.env:=by rfl) (r:(backTo pos (starEach es X.env)).any (·.1)=false:=by rfl):
  DF Z X n (.Call (.Name x p) (e::es) [] pos) (Kn a t):=J6 F (g.mono l) i d.m d.F.kp d.b h o q r
theorem lK(f:Scope)(e:X.env.scope=f:=by rfl)(k:d.kind= .function:=by rfl)(a:∀x∈d.names,x.2= .local->d.names.lookup x.1=some .local:=by decide+kernel)(b:∀x∈d.names,x.2≠ .cell:=by decide+kernel)
  (c:∀x∈d.names,x.2= .free->f.names.lookup x.1=some .cell\/f.names.lookup x.1=some .free:=by decide+kernel):b6 X d:=b6.of f e k a b c
theorem Vw{NC:List Str}(k:f.kind= .function:=by rfl)(a:∀x∈f.names,x.2= .local->f.names.lookup x.1=some .local:=by decide+kernel)(b:∀x∈f.names,x.2≠ .cell:=by decide+kernel)
  (d:∀x∈f.names,x.2= .free->c.names.lookup x.1=some .free:=by decide+kernel):b6 (cO X c NC g s H) f:=b6.nest k a b d
end
section
variable {K:PySem.W.Frag} {h:Heap} {mg:Str->Option Value}
abbrev eJ(K:PySem.W.Frag)(x:Str)(d:Addr):Prop:=PySem.W.nsIn K mainGlobals x=some (some (.ref d))
abbrev dE(K:PySem.W.Frag)(x a:Str)(st:Stmt)(d:Addr)(b c:Option Addr)(e:Array (Option Value))(f kV g i j k:Value):Prop:=K.lookup d=some ⟨f,b, .func (PySem.W.fnOf x a (j9 st) (gE st) (aw st) .none kV g i c j k),e⟩
def dU.of{x:Str}{st:Stmt}{e:List Str}{d:Addr}{o f:Option Addr}{p:Array (Option Value)}{q kV r g n i:Value}(X:K.In h)(G:h.Ns mainGlobals mg)(a:eJ K x d)(l:dE K x x st d o f p q kV r g n i)(c:PySem.W.codeIn K n x=true)(k:PySem.W.keepIn K (.ref d)=true)
  (b:∀(kV j g:Value)(f:Option Addr)(s i:Value)(m:List Value),m.length=e.length->bindArgs (PySem.W.fnOf x x (j9 st) (gE st) (aw st) .none kV j g f s i) ⟨m,[]⟩=pure (e.zip m)):dU K mg x st e:=
 ⟨d,_,tF l c k,(tF l c k).binds b,acu X G a⟩
def ED.of{Z:DC}{m e:Str}{st:Stmt}{g:List Str}{d:Addr}{r i:Option Addr}{s:Array (Option Value)}{t kV u j q n:Value}(a:PySem.W.findIn Z.K (.ref Z.C) m=some (some (.ref d)))(f:PySem.W.isFn Z.K (.ref d)=true)(l:dE Z.K m e st d r i s t kV u j q n)(c:PySem.W.codeIn Z.K q e=true)(k:PySem.W.keepIn Z.K (.ref d)=true)
  (b:∀(kV o j:Value)(i:Option Addr)(v n:Value)(p:List Value),p.length=g.length->bindArgs (PySem.W.fnOf m e (j9 st) (gE st) (aw st) .none kV o j i v n) ⟨p,[]⟩=pure (g.zip p)):ED Z m e st g:=
 ⟨d,_,tF l c k,(tF l c k).binds b,⟨a,f,k⟩⟩
end
end L2
namespace Wb
def fP(w:W):Nat:=(w.map List.length).sum
theorem uC(w:W):fP w=((List.range w.length).map λp=>(row w p).length).sum:=by
 unfold fP
 congr 1
 refine adM (by simp) λi b c=>?_
 rw[List.getElem_map,List.getElem_map,List.getElem_range];have a:i<w.length:=by simpa using b
 have:=D5 a
 rw[bJ a] at this;rw[Da this]
theorem df(w:W):(aX w).length=fP w:=by
 rw[uC];unfold aX;rw[List.length_flatMap]
 congr 1
 apply rz;intro p _;rw[aD]
theorem bW(g:Good w):(aX w).Nodup:=by
 unfold aX List.Nodup;refine pN (λp _=>?_) ?_
 ·rw[gY]
  exact(g.nod p).imp λne e=>ne (FS Prod.snd e)
 ·refine List.Pairwise.imp ?_ AR
  intro a b lt x c y d e;obtain⟨_,_,rfl⟩:=aZ.mp c;obtain⟨_,_,rfl⟩:=aZ.mp d
  have:=FS Prod.fst e
  simp at this;omega
theorem qh(w:W):jU (row w) w.length=(aX w).filter λd=>decide (d.1<d.2):=by
 unfold jU aX;rw[List.filter_flatMap]
 congr 1
 funext p
 rw[List.filter_map];rfl
theorem yX(g:Good w):2*(jU (row w) w.length).length<=fP w:=by
 rw[qh,<-df];have f:=List.length_eq_countP_add_countP (λd:Nat×Nat=>decide (d.1<d.2)) (l:=aX w)
 have p:((aX w).filter λd=>decide (d.1<d.2)).length<=((aX w).filter λd=>decide (d.2<d.1)).length:=by
  have:=az (l:=((aX w).filter λd=>decide (d.1<d.2)).map λd=>(d.2,d.1)) (m:=(aX w).filter λd=>decide (d.2<d.1)) ?_ ?_
  ·rwa [aD] at this
  ·unfold List.Nodup
   rw[gY];refine List.Pairwise.imp ?_ ((bW g).filter _);intro a b ne e;have i:=FS Prod.fst e;have j:=FS Prod.snd e;exact ne (UF j i)
  ·intro x k
   obtain⟨d,n,rfl⟩:=aZ.mp k;obtain⟨o,c⟩:=fO.mp n;refine fO.mpr ⟨aT.mpr (g.sym _ _ (aT.mp o)),?_⟩;simpa using c
 have q:((aX w).filter λd=>decide (d.2<d.1)).length<=(aX w).countP λd=>!decide (d.1<d.2):=by
  rw[<-AM];apply ac4;intro d _ h;simp at h ⊢;omega
 rw[AM] at f
 have r:(aX w).countP (λd=>!decide (d.1<d.2))=List.countP (λa=>decide ¬(decide (a.1<a.2)=true)) (aX w):=by
  congr 1
  funext d
  by_cases h:d.1<d.2<;>simp[h]
 omega
structure RI (w:W) (bs:List Bool) (ws ex:List Nat) (c:Nat):Prop where
 len:bs.length=w.length
 z:bs[0]? =some true
 wt:∀x∈ws,bs[x]? =some true
 cl:∀x,bs[x]? =some true->x∈ws\/x∈ex\/∀q∈row w x,bs[q]? =some true
 cnt:bs.count false+ws.length<=c
theorem RI.pop(h:RI w bs (b++ [p]) [] (c+1)):RI w bs b [p] c:=
 ⟨h.len,h.z,λx a=>h.wt x (fk _ a),λx a=>by
  rcases h.cl x a with q|q|q
  ·rcases bR.mp q with q|q
   ·exact .inl q
   ·exact .inr (.inl q)
  ·cases q
  ·exact .inr (.inr q),by have:=h.cnt;rw[bZ] at this;simp at this;omega⟩
theorem RI.push(h:RI w bs f g c)(j:bs[q]? =some false):RI w (bs.set q true) (f++ [q]) g c:=by
 obtain⟨b,i⟩:=di.mp j
 have d:∀x,bs[x]? =some true->(bs.set q true)[x]? =some true:=λx a=>by
  rw[qs]
  by_cases e:q=x
  ·rw[tz e,tz b]
  ·rw[mo e];exact a
 refine⟨by rw[f9];exact h.len,d _ h.z,λx a=>?_,λx a=>?_,?_⟩
 ·rcases bR.mp a with z|z
  ·exact d _ (h.wt x z)
  ·have:x=q:=by simpa using z
   rw[this,qs,tz rfl,tz b]
 ·by_cases e:q=x
  ·exact .inl (by rw[e];simp)
  ·rw[qs,mo e] at a
   rcases h.cl x a with z|z|z
   ·exact .inl (fk _ z)
   ·exact .inr (.inl z)
   ·exact .inr (.inr λy k=>d _ (z y k))
 ·have l:=h.cnt
  have:0<bs.count false:=AU.mpr (by rw[<-i];exact g5 b)
  rw[adl b,i,bZ];simp;omega
theorem RI.close(h:RI w bs a [p] c)(b:∀q∈row w p,bs[q]? =some true):RI w bs a [] c:=
 ⟨h.len,h.z,h.wt,λx d=>by
  rcases h.cl x d with q|q|q
  ·exact .inl q
  ·have:x=p:=by simpa using q
   rw[this];exact .inr (.inr b)
  ·exact .inr (.inr q),h.cnt⟩
theorem RI.all(g:Good w)(h:RI w bs [] [] c):bs=List.replicate w.length true:=by
 have:=kM g (S:=λx=>bs[x]? =some true) h.z λp q b d=>by
  rcases h.cl p b with z|z|z
  ·cases z
  ·cases z
  ·exact z q d
 refine rA λi=>?_
 by_cases a:i<w.length
 ·rw[this i a,vS,tz a]
 ·rw[fj (by rw[h.len];omega),fj (by simp;omega)]
structure zI (w:W):Prop where
 rng:∀p q,q∈row w p->q<w.length
 irr:∀p,p∉row w p
 nod:∀p,(row w p).Nodup
 sym:∀p q,q∈row w p->p∈row w q
theorem Good.near(g:Good w):zI w:=⟨g.rng,g.irr,g.nod,g.sym⟩
theorem zI.good(n:zI w)(h:∀p,p<w.length->Reach w 0 p):Good w:=⟨n.rng,n.irr,n.nod,n.sym,h⟩
end Wb
namespace L2
open PySem PySem.Spec PyProof.Rows
section
variable {X:Cx} {Z:DC} {pins:List (Addr×Obj)} {σ:St} {H:Hp} {s:Shared}
open Classical in
open Classical in
theorem zJ{f:Nat->Int}(g:Int->Int->Bool)(hg:∀a b,g a b=decide (b<a)):∀k,argBest (λi j=>g (f i) (f j)) k<=k/\∀i,i<=k->f i<=f (argBest (λi j=>g (f i) (f j)) k)
 |0=>⟨bH _,λi h=>by obtain rfl:i=0:=by omega
                    exact Int.le_refl _⟩
 |k+1=>by
  obtain⟨h1,h2⟩:=zJ (f:=f) g hg k;unfold argBest;simp only[hg] at h1 h2 ⊢
  by_cases c:f (argBest (λi j=>decide (f j<f i)) k)<f (k+1)
  ·rw[tz (GE c)]
   refine⟨bH _,λi hi=>?_⟩
   by_cases z:i=k+1
   ·subst z;exact Int.le_refl _
   ·have:=h2 i (by omega);omega
  ·rw[mo (by simpa using c)]
   refine⟨by omega,λi hi=>?_⟩
   by_cases z:i=k+1
   ·subst z;omega
   ·exact h2 i (by omega)
theorem EH(R:X.calm=true):cK X (.builtin "max") (λL H Q=>∃(p:Addr)(c:List Int),L= [.ref p]/\H p=some (.lst (c.map V.int))/\c≠ []/\∀n∈c,(∀m∈c,m<=n)->Q (.int n) H):=by
 intro M s σ H L us Q I S h;rfl';obtain⟨p,c,rfl,U,Y,q⟩:=h;obtain⟨u,rfl,Z⟩:=S.one;subst Z;obtain⟨d,r,z,hz⟩:=I.list (cM.of U);have hl:=r.length;rw[aD] at hl;have XW:0<c.length:=vY.mpr Y;ac_rfl
 have C:∀i:Nat,(g:i<c.length)->∃t,d[i]? =some (.int c[i] t):=λi g=>by
  obtain⟨w,hw,u4⟩:=r.get (i:=i) (x:= .int c[i]) (by rw[bQ,bJ g];rfl)
  obtain⟨t,rfl⟩:=u4;exact⟨t,hw⟩
 refine call_max_walk (ady z.isList ?_)
 have rU:p≠s.heap.objs.size:=by
  obtain⟨o,E,_⟩:=z.isList;exact cE (Fk E)
 let f:Nat->Int:=λi=>c.getD i 0
 have B:∀k,(y:k<c.length)->f k=c[k]:=λk y=>by
  show c.getD k 0=_;rw[bB,bJ y];rfl
 refine⟨_,_,_,d.toArray.size,_,_,λi j=>(λa b=>decide (b<a)) (f i) (f j),rfl,Walks.list (show X.A.in1.handled=none from I.ok.hd R) s.heap.objs.size p rU d.toArray,⟨⟨_,Gc _ rfl,rfl,rfl⟩,z.isList.push _⟩,?_,?_,?_,?_⟩
 ·intro b hb
  have:b=s.heap.objs.size\/b=p:=by simpa using hb
  obtain⟨o,E,_⟩:=z.isList;have lt:=Fk E;have e:(s.heap.push {cls:= .type "list_iterator",data:= .fields #[.ref p, .int 0 0]}).objs.size=s.heap.objs.size+1:=by simp[Heap.push]
  rcases this with rfl|rfl
  ·exact Cb (zb _) e.symm
  ·exact Cb (za lt) e.symm
 ·rw[cS];omega
 ·intro i j u v s' Q' E' Fj kf hq
  have F:d[i]? =some u:=by simpa using Fj
  have l:d[j]? =some v:=by simpa using kf
  have g:i<c.length:=by have:=(di.mp F).1;omega
  have N:j<c.length:=by have:=(di.mp l).1;omega
  obtain⟨t1,h1⟩:=C i g;obtain⟨t2,h2⟩:=C j N;rw[h1] at F;rw[h2] at l;cases Da F;cases Da l;have Bo:Q' (.bool (decide (c[j]<c[i]))) s':=by rw[<-B i g,<-B j N];exact hq
  exact(PyProof.Rows.gt_int Bo:wpAny _ _ (compareOp .Gt _ _) _ _ _)
 ·intro v h' tk O kk
  have kept:∀b o,s.heap.get? b=some o->h'.get? b=some o:=λb o e=>kk b o (by simp;exact cE (Fk e)) (AC _ e)
  obtain⟨y,G⟩:=zJ (f:=f) (λa b=>decide (b<a)) (λ_ _=>rfl) (d.toArray.size-1);generalize argBest (λi j=>(λa b=>decide (b<a)) (f i) (f j)) (d.toArray.size-1)=k at O y G;rw[cS] at y G;have J:k<c.length:=by omega
  have l:d[k]? =some v:=by simpa using O
  obtain⟨t,ht⟩:=C k J;rw[ht] at l;cases Da l;refine⟨.int c[k],H,I.kept kept,⟨t,rfl⟩,q _ (g5 J) λm rT=>?_⟩;obtain⟨i,g,rfl⟩:=y9.mp rT
  have:=G i (by omega)
  rw[B i g,B k J] at this;exact this
def Q9:cg:=λb P=>∃a:List Int,b= [.lst (a.map D.int)]/\a≠ []/\∀n∈a,(∀m∈a,m<=n)->P (.int n)
theorem JR(b:X.calm=true):cK X (.builtin "max") (iU Z Q9):=by
 refine(EH b).imp ?_;intro l H Q c;rfl';obtain⟨G,o,P,s,dv,⟨f,rfl,g,i⟩,q⟩:=c;obtain⟨v,rfl,a⟩:=dv.ofOne;obtain⟨p,r,rfl,h,e⟩:=a.jA;ac_rfl;rw[pq e] at h;exact⟨p,f,rfl,s _ _ h,g,λn j k=>q _ (i n j k) _ G H (.refl s) (.int n)⟩
end
section
variable {X:Cx} {Z:DC}
theorem EK:cK X (.type "range") (λa H Q=>∃i:Int,a= [.int i]/\∀q,H q=none->Q (.ref q) (upd H q (.rng 0 i))):=by
 intro c s f H a g Q I d h;obtain⟨i,rfl,q⟩:=h;obtain⟨j,rfl,⟨k,rfl⟩⟩:=d.one;refine call_range_1 ?_;exact⟨.ref s.heap.objs.size,_,I.laid (λb o e=>AC _ e) (bH _) (o:= .rng 0 i) ⟨_,_,_,Gc _ rfl⟩,rfl,q _ (I.hok.fresh (bH _))⟩
def Rc:cg:=λa P=>∃i:Int,a= [.int i]/\P (.rng 0 i)
theorem CA:cK X (.type "range") (iU Z Rc):=by
 refine EK.imp ?_;intro f H Q b;rfl';obtain⟨G,h,P,s,dv,⟨i,rfl,d⟩,q⟩:=b;obtain⟨v,rfl,a⟩:=dv.ofOne;ac_rfl;refine⟨i,by rw[a.ofInt],λp e=>q _ d _ _ _ (.new s e) (.rng aB)⟩
def Nh:cg:=λa P=>∃i j:Int,a= [.rng i j]/\(-(2^62)<=i/\i<2^62/\-(2^62)<=j/\j<2^62/\(j-i).toNat<=1000)/\P (.lst (eC i (j-i).toNat))
theorem yK(i:Int)(n:Nat):DvAll Z G (nQ i n) (eC i n):=by
 unfold nQ eC
 induction List.range n with
 |nil=>exact .nil
 |cons k l a=>exact .cons (.int _) a
theorem HH(b:X.calm=true):cK X (.type "list") (iU Z Nh):=by
 refine(oX b).imp ?_;intro o H Q c;rfl';obtain⟨G,t,P,s,dv,⟨i,j,rfl,⟨e,f,g,k,l⟩,m⟩,q⟩:=c;obtain⟨v,rfl,a⟩:=dv.ofOne;ac_rfl;cases a with
 |rng h=>exact⟨_,i,j,rfl,s _ _ h,e,f,g,k,l,λp n=>q _ m _ _ _ (.new s n) (.lst aB (yK i _))⟩
end
section
variable {Z:DC} {X:Cx} {md:List Nat} {rn:Nat} {a b e k:Expr} {pos:Pos} {ta tb te tk:bp} {t:g6}
def W7(g h:bp):g6:=λf P=>g f λi=>∃c,i= .lst c/\h f λj=>∃d,j= .lst d/\c.length+d.length<=sizeLine/\P (c++d)
theorem Np(l:DE Z X a ta)(m:DE Z X b tb):DF Z X 1 (.BinOp a .Add b pos) (W7 ta tb):=by
 refine(BE BD l m).imp ?_;intro J H Q n;rfl';obtain⟨G,f,P,s,e,h,q⟩:=n;ac_rfl;refine⟨G,f,_,s,e,h,?_⟩;rintro _ ⟨M,rfl,h⟩ N r O c u;refine⟨r,f,_,c.sub,e.mono c.gg,h,?_⟩;rintro _ ⟨R,rfl,v,w⟩ S T U d y;obtain⟨Y,k,rfl,z,g⟩:=u.jA;obtain⟨t,A,rfl,B,i⟩:=y.jA;have C:=g.mono d.gg;have x:=c.trans d;refine⟨_,_,_,_,rfl,rfl,d.hh _ _ (c.sub _ _ z),d.sub _ _ B,by rw[g.length,i.length];exact v,λp j=>?_⟩
 obtain⟨E,F,I⟩:=ji x j (C.append i);exact q _ w _ _ _ _ (x.side j) E F I
variable {tg iter elt:Expr} {ifs:List Expr} {scope:Scope} {NC:List Str} {src:List (Option Nat)} {wi:jt} {g:fB} {tt:dQ}
theorem ET(f:X.calm=true)(c:b6 X scope)(h:dJ scope X.N src NC)(i:DI Z X tg iter wi)
  (j:∀d s H,DG Z (cO X scope NC d s H) tg g) (l:∀d s H,zf Z (cO X scope NC d s H) ifs tt) (m:∀d s H,DE Z (cO X scope NC d s H) elt te)
  (n:∀x,foldedSetIterable iter X.env x=pure x:=by intro _;rfl):DF Z X 1 (.ListComp elt [⟨tg,iter,ifs,0⟩] scope pos) (Ko wi g tt te src):=(LO f c h i j l m n).imp tO
variable {B:Bs} {ρ:DN} {σ:St} {H G:Hp} {fp:Nat->List Addr}
theorem SIx.evF(S:SIx Z B md ρ σ H G fp)(h:t ρ P)
  (m:∀c,P c->c.all dF=true/\∀v i d,SIx Z B md ρ σ d i fp->Ext G H i d->Dv Z i v (.lst c)->Q v d):uL Z 1 t σ H Q:=by
 refine⟨H,ρ,P, .refl _,S.zW,h,?_⟩;intro c n v f i d x o F p;obtain⟨q,k⟩:=m c n;obtain⟨a,r,I,J,rfl,s,u,w,y⟩:=o.lst;cases s;obtain⟨dv,rfl⟩:=y.flat;have j:H a=none:=(p a (by rw[w];simp)).1
 have A:G a=none:=S.ex.sub.free j
 have l:Ext G H (upd G a (.lst r)) d:=by
  refine⟨bf A _,λb o e=>?_,x.hh,λb C E=>?_⟩
  ·by_cases z:b=a
   ·subst z
    rw[aB] at e;rw[<-e];exact u
   ·rw[aO z] at e
    exact x.hh _ _ (S.ex.sub _ _ e)
  ·rw[aO (λz=>C (by rw[z];exact j))];exact E
 exact k _ _ _ (S.grow l) l (.lst aB (dv.flat q))
def J2(i:Nat)(h:bp)(t:g6):cN:=λE c=>t c λd=>d.all dF=true/\∃f,c[i]? =some (some (.lst f))/\h c λl=>∃k j,l= .int k/\jN f.length k=some j/\E.nx (c.set i (some (.lst (f.set j (.lst d)))))
theorem EX(i:Nat)(A:DE Z X k tk)(C:DF Z X 1 e t)(r:md.getD i 0=1:=by rfl)(F:X.N[i]? =some x:=by rfl)(I:lJ X.env.scope x:=by first|exact Or.inl rfl|exact Or.inr (Or.inl rfl) |exact Or.inr (Or.inr rfl))(n:(x==("__debug__":Str))=false:=by decide)(J:(x==("__classdict__":Str))=false:=by decide)
  (L:∀v,assign (.Subscript (.Name x c) k f) X.env v=(do
   let o <-holding [v] (eval (.Name x c) X.env)
   let q <-holding [v,o] (eval k X.env)
   standAt f
   holding [v,o,q] (setItem o q v)
   release [v,o,q] []):=by intro _;rfl)
  (O:swapsWithSole [.Subscript (.Name x c) k f] e pos.line X.env=pure false:=by rfl) (hw:swappedStores [.Subscript (.Name x c) k f] e X.env=pure none:=by rfl)
  (p:(assignEach [.Subscript (.Name x c) k f] X.env).map (·.2)= [assign (.Subscript (.Name x c) k f) X.env]:=by rfl):DSt Z X md rn (.Assign [.Subscript (.Name x c) k f] e pos) (J2 i tk t):=by
 refine(BI C (Hh (pv i F I n J) A set_list L) O hw p).imp ?_;intro D σ H Q;rfl';obtain⟨B,ρ,E,⟨G,R,S⟩,h,M⟩:=Q;ac_rfl;refine S.evF h λd n=>⟨n.1,λv G' H' u x dv=>?_⟩;rfl';obtain⟨_,ds,p,h⟩:=n;obtain⟨l,xs,_,_,w,e3,_⟩:=u.one r p;ac_rfl;refine⟨_,w,u.ev true h ?_⟩;rintro _ ⟨k,j,rfl,T,U⟩;refine⟨rfl,λv1 Y H1 a b g=>?_⟩;rfl';cases g.ofInt;obtain⟨l',sN,lN,e1,y,Be,z,put⟩:=a.one r p;cases e1;ac_rfl;rw[w] at y;cases y;exact⟨l,sN,k,j,rfl,rfl,Be,by rw[z.length];exact T,M.nx _ U _ _ ⟨Y,R,put _ _ (z.set (dv.mono b.gg) j)⟩⟩
end
section
variable {Z:DC} {X:Cx} {md:List Nat} {rn:Nat} {b:Expr} {pos PC:Pos} {tb:bp}
def RS(e:List Nat)(i:Nat)(f:bp):cN:=λE a=>∃c,a[i]? =some (some (.lst c))/\f (dH e a) λg=>∃d,g= .lst d/\c.length+d.length<=sizeLine/\E.nx (a.set i (some (.lst (c++d))))
theorem Kb(i:Nat)(s:X.N.Nodup)(a:DE Z X b t)(k:m.getD i 0=1:=by rfl)(n:X.N[i]? =some x:=by rfl)(u:Loc X.env.scope x:=by first|exact Or.inl rfl|exact Or.inr rfl)(w:swapsWith (.BinOp (.Name x py) .Add b y) (some (.Name x g)) c.line X.env=pure false:=by rfl)
  (z:lJ X.env.scope x:=by first|exact Or.inl rfl|exact Or.inr (Or.inl rfl) |exact Or.inr (Or.inr rfl)) (e:(x==("__debug__":Str))=false:=by decide) (A:(x==("__classdict__":Str))=false:=by decide)
  (C:X.fn x=true\/X.env.scope.names.lookup x=some .local:=by first|exact .inl rfl|exact .inr rfl|assumption):DSt Z X m rn (.Assign [.Name x g] (.BinOp (.Name x py) .Add b y) c) (RS m i t):=by
 refine(i7 s n u (BE BD (pv i n z e A) a) w C).imp ?_;rintro D σ H ⟨B,ρ,E,⟨G,fp,S⟩,⟨l1,F,h⟩,M⟩;obtain⟨l,xs,_,I,J,L,o,_⟩:=S.one k F;cases I;refine⟨_,J,S.ev false h λd e=>⟨trivial,λv O H' S' x dv=>?_⟩⟩;obtain⟨l2,rfl,Q,R⟩:=e;obtain⟨p2,ys,rfl,T,q⟩:=dv.jA;refine⟨_,_,_,_,rfl,rfl,x.hh _ _ L,x.sub _ _ T,by rw[o.length,q.length];exact Q,λp r=>?_⟩
 obtain⟨U,Y,f⟩:=ji x r ((o.mono x.gg).append q);exact M.nx _ R _ _ ⟨O,_,(S.grow (x.side r)).vO k U Y (λb a=>⟨S.ex.hh.free (f b a).1,(f b a).2⟩) λb a j _ hj=>(S.nw j b hj).2.1 (f b a).1⟩
end
end L2
namespace xg
open PySem L2 Wb
def top(i:Nat):Stmt:=PySem.Challenge.pw_mapdye_k84_whole_one_dyeing_led_to_anoth.main.body.getD i (.Pass ⟨0,0,0,0⟩)
abbrev mv:Stmt:=top 12
abbrev pT:Stmt:=top 13
abbrev yN:Stmt:=top 14
abbrev pR:Stmt:=top 15
abbrev mj:Stmt:=top 16
abbrev yM:Stmt:=top 18
abbrev nV:Stmt:=top 19
abbrev mh:Stmt:=top 20
abbrev gD:Stmt:=top 21
abbrev iD:Stmt:=top 22
abbrev gq:Stmt:=top 24
abbrev jT:Stmt:=top 25
abbrev pQ:Stmt:=top 28
abbrev kz:Stmt:=top 29
abbrev mw:Stmt:=top 30
abbrev kC:Stmt:=top 31
abbrev mi:Stmt:=top 32
abbrev dP:Stmt:=top 33
abbrev kA:Stmt:=top 34
abbrev kB:Stmt:=top 35
abbrev jE:Stmt:=top 37
abbrev lg:Stmt:=top 41
abbrev BO:Stmt:=top 42
abbrev jB:Stmt:=top 44
abbrev jD:Stmt:=top 45
abbrev lY:Stmt:=top 46
abbrev lZ:Stmt:=top 47
abbrev iC:Stmt:=top 48
abbrev i8:Stmt:=top 49
abbrev pP:Stmt:=top 50
abbrev ja:Stmt:=top 51
abbrev f7:Stmt:=top 52
abbrev mf:Stmt:=top 54
abbrev jS:Stmt:=top 55
abbrev lX:Stmt:=top 56
abbrev nU:Stmt:=top 57
abbrev nS:Stmt:=top 58
abbrev fF:Stmt:=top 59
abbrev jC:Stmt:=top 60
abbrev i9:Stmt:=top 61
abbrev F6:Stmt:=top 62
abbrev fE:Stmt:=L2.jZ (top 36) 0
abbrev pO:Stmt:=L2.jZ (top 36) 1
abbrev jR:Stmt:=L2.jZ (top 36) 2
abbrev kZ:Stmt:=L2.jZ (top 36) 3
abbrev vN:Stmt:=L2.jZ (top 36) 4
abbrev lW:Stmt:=L2.jZ (top 36) 5
theorem qa:aG ["web","side","sides","p","q"] ["web","side"] (aw mv):=⟨rfl,rfl,rfl,by decide+kernel,rfl,by decide+kernel,by decide+kernel⟩
theorem AI:aG ["web","walked","told","side","sides","step"] ["web"] (aw pT):=⟨rfl,rfl,rfl,by decide+kernel,rfl,by decide+kernel,by decide+kernel⟩
theorem AH:aG ["web"] ["web"] (aw yN):=⟨rfl,rfl,rfl,by decide+kernel,rfl,by decide+kernel,by decide+kernel⟩
theorem t9:aG ["web","points","ties","rounds"] ["web"] (aw pR):=⟨rfl,rfl,rfl,by decide+kernel,rfl,by decide+kernel,by decide+kernel⟩
theorem p9:aG ["web"] ["web"] (aw mj):=⟨rfl,rfl,rfl,by decide+kernel,rfl,by decide+kernel,by decide+kernel⟩
theorem AG:aG ["web","dyeing","p","dye","turns","pair","met","waiting","q"] ["web","dyeing","p","dye"] (aw yM):=⟨rfl,rfl,rfl,by decide+kernel,rfl,by decide+kernel,by decide+kernel⟩
theorem qX:aG ["dyeing","points","one","other","told","p"] ["dyeing","points","one","other"] (aw nV):=⟨rfl,rfl,rfl,by decide+kernel,rfl,by decide+kernel,by decide+kernel⟩
theorem p7:aG ["taken","many","dye"] ["taken","many"] (aw mh):=⟨rfl,rfl,rfl,by decide+kernel,rfl,by decide+kernel,by decide+kernel⟩
theorem jm:aG ["web","dyeing","around","q","r"] ["web","dyeing","around"] (aw gD):=⟨rfl,rfl,rfl,by decide+kernel,rfl,by decide+kernel,by decide+kernel⟩
theorem qW:aG ["web","dyeing","p","many","around","told","deeds","dye","exchange","q","x"] ["web","dyeing","p","many"] (aw iD):=⟨rfl,rfl,rfl,by decide+kernel,rfl,by decide+kernel,by decide+kernel⟩
theorem lh:aG ["web","turns","left","order","counts","least"] ["web"] (aw gq):=⟨rfl,rfl,rfl,by decide+kernel,rfl,by decide+kernel,by decide+kernel⟩
theorem qY:aG ["web","order","dyeing","deeds","p","done"] ["web"] (aw jT):=⟨rfl,rfl,rfl,by decide+kernel,rfl,by decide+kernel,by decide+kernel⟩
theorem t8:aG ["thing","many"] ["thing","many"] (aw pQ):=⟨rfl,rfl,rfl,by decide+kernel,rfl,by decide+kernel,by decide+kernel⟩
theorem oE:aG ["rows","p","row","q"] ["rows"] (aw kz):=⟨rfl,rfl,rfl,by decide+kernel,rfl,by decide+kernel,by decide+kernel⟩
theorem qc:aG ["rows","p","row"] ["rows"] (aw mw):=⟨rfl,rfl,rfl,by decide+kernel,rfl,by decide+kernel,by decide+kernel⟩
theorem oH:aG ["rows","p","row","place","q"] ["rows"] (aw kC):=⟨rfl,rfl,rfl,by decide+kernel,rfl,by decide+kernel,by decide+kernel⟩
theorem p8:aG ["rows","p","row","q"] ["rows"] (aw mi):=⟨rfl,rfl,rfl,by decide+kernel,rfl,by decide+kernel,by decide+kernel⟩
theorem iE:aG ["rows","reached","waiting","p","q"] ["rows"] (aw dP):=⟨rfl,rfl,rfl,by decide+kernel,rfl,by decide+kernel,by decide+kernel⟩
theorem oF:aG ["rows","q","reached"] ["rows"] (aw kA):=⟨rfl,rfl,rfl,by decide+kernel,rfl,by decide+kernel,by decide+kernel⟩
theorem oG:aG ["rows","fault"] ["rows"] (aw kB):=⟨rfl,rfl,rfl,by decide+kernel,rfl,by decide+kernel,by decide+kernel⟩
theorem mY:aG ["web","most"] ["web","most"] (aw jE):=⟨rfl,rfl,rfl,by decide+kernel,rfl,by decide+kernel,by decide+kernel⟩
theorem ua:aG ["walk","p","near","one","other","dyeing","told","q","dye"] ["walk","p","near","one","other"] (aw lg):=⟨rfl,rfl,rfl,by decide+kernel,rfl,by decide+kernel,by decide+kernel⟩
theorem Ht:aG ["web","one","other","many","turns","walk","behind","p"] ["web","one","other","many"] (aw BO):=⟨rfl,rfl,rfl,by decide+kernel,rfl,by decide+kernel,by decide+kernel⟩
theorem mU:aG ["_law_script","_law_k"] ["_law_script","_law_k"] (aw jB):=⟨rfl,rfl,rfl,by decide+kernel,rfl,by decide+kernel,by decide+kernel⟩
theorem mX:aG ["_law_cell","_law_k","_law_number"] ["_law_cell","_law_k"] (aw jD):=⟨rfl,rfl,rfl,by decide+kernel,rfl,by decide+kernel,by decide+kernel⟩
theorem pW:aG ["_law_script","_law_at","_law_many","_law_cell","_law_found","_law_first","_law_k","_law_number"] ["_law_script","_law_at","_law_many"] (aw lY):=⟨rfl,rfl,rfl,by decide+kernel,rfl,by decide+kernel,by decide+kernel⟩
theorem pY:aG ["_law_turns","_law_sides","_law_found","_law_p","_law_q","_law_row","_law_side","_law_turn"] ["_law_turns"] (aw lZ):=⟨rfl,rfl,rfl,by decide+kernel,rfl,by decide+kernel,by decide+kernel⟩
theorem oz:aG ["_law_land","_law_number","_law_first","_law_found","_law_k"] ["_law_land","_law_number"] (aw iC):=⟨rfl,rfl,rfl,by decide+kernel,rfl,by decide+kernel,by decide+kernel⟩
theorem pX:aG ["_law_turns","_law_land","_law_places_here","_law_made","_law_around","_law_at","_law_turn","_law_place"] ["_law_turns","_law_land","_law_places_here"] (aw i8):=⟨rfl,rfl,rfl,by decide+kernel,rfl,by decide+kernel,by decide+kernel⟩
theorem t7:aG ["_law_draws_here","_law_turns","_law_number","_law_rows","_law_land"] ["_law_draws_here"] (aw pP):=⟨rfl,rfl,rfl,by decide+kernel,rfl,by decide+kernel,by decide+kernel⟩
theorem p4:aG ["_law_turns","_law_draws_here","_law_names","_law_k","_law_at","_law_found","_law_p","_law_turn"] ["_law_turns","_law_draws_here"] (aw ja):=⟨rfl,rfl,rfl,by decide+kernel,rfl,by decide+kernel,by decide+kernel⟩
theorem ou:aG ["_law_turns","_law_draws_here","_law_dyes_here","_law_none","_law_found","_law_p","_law_taken","_law_free"] ["_law_turns","_law_draws_here","_law_dyes_here","_law_none"] (aw f7):=⟨rfl,rfl,rfl,by decide+kernel,rfl,by decide+kernel,by decide+kernel⟩
theorem p6:aG ["_law_found"] ["_law_found"] (aw mf):=⟨rfl,rfl,rfl,by decide+kernel,rfl,by decide+kernel,by decide+kernel⟩
theorem qU:aG ["_law_turns","_law_number","_law_rows","_law_land"] ["_law_turns","_law_number"] (aw jS):=⟨rfl,rfl,rfl,by decide+kernel,rfl,by decide+kernel,by decide+kernel⟩
theorem pV:aG ["_law_script","_law_turns","_law_number"] ["_law_script"] (aw lX):=⟨rfl,rfl,rfl,by decide+kernel,rfl,by decide+kernel,by decide+kernel⟩
theorem qV:aG ["_law_turns","_law_dyeing_here"] ["_law_turns","_law_dyeing_here"] (aw nU):=⟨rfl,rfl,rfl,by decide+kernel,rfl,by decide+kernel,by decide+kernel⟩
theorem qT:aG ["_law_many"] ["_law_many"] (aw nS):=⟨rfl,rfl,rfl,by decide+kernel,rfl,by decide+kernel,by decide+kernel⟩
theorem mV:aG ["_law_turns","_law_dyeing_here","_law_draws_here","_law_dyes_here","_law_found","_law_p","_law_taken","_law_free"] ["_law_turns","_law_dyeing_here","_law_draws_here","_law_dyes_here"] (aw fF):=⟨rfl,rfl,rfl,by decide+kernel,rfl,by decide+kernel,by decide+kernel⟩
theorem mW:aG ["_law_move","_law_points","_law_many"] ["_law_move","_law_points","_law_many"] (aw jC):=⟨rfl,rfl,rfl,by decide+kernel,rfl,by decide+kernel,by decide+kernel⟩
theorem pZ:aG ["_law_turns","_law_one","_law_other","_law_many","_law_moves","_law_here","_law_move"] ["_law_turns","_law_one","_law_other","_law_many","_law_moves"] (aw i9):=⟨rfl,rfl,rfl,by decide+kernel,rfl,by decide+kernel,by decide+kernel⟩
theorem Hs:aG ["_law_script","_law_turns","_law_many","_law_dyes_here","_law_one","_law_other","_law_web_here","_law_handed","_law_least","_law_dyes_let","_law_moves","_law_back"] ["_law_script"] (aw F6):=⟨rfl,rfl,rfl,by decide+kernel,rfl,by decide+kernel,by decide+kernel⟩
theorem mT:aG ["self","turns","rows","fault"] ["self","turns"] (aw fE):=⟨rfl,rfl,rfl,by decide+kernel,rfl,by decide+kernel,by decide+kernel⟩
theorem t5:aG ["self"] ["self"] (aw pO):=⟨rfl,rfl,rfl,by decide+kernel,rfl,by decide+kernel,by decide+kernel⟩
theorem qR:aG ["self"] ["self"] (aw jR):=⟨rfl,rfl,rfl,by decide+kernel,rfl,by decide+kernel,by decide+kernel⟩
theorem t6:aG ["self"] ["self"] (aw kZ):=⟨rfl,rfl,rfl,by decide+kernel,rfl,by decide+kernel,by decide+kernel⟩
theorem pU:aG ["self","p","q","row"] ["self","p","q"] (aw lW):=⟨rfl,rfl,rfl,by decide+kernel,rfl,by decide+kernel,by decide+kernel⟩
set_option genInjectivity false in
structure Txt (Z:DC) (mg:Str->Option Value) where
 B:Uz mg
 x_set:mg "set"=none
 d_round_from:dU Z.K mg "round_from" mv ["web","side"]
 d_lands:dU Z.K mg "lands" pT ["web"]
 d_count:dU Z.K mg "count" yN ["web"]
 d_is_plane:dU Z.K mg "is_plane" pR ["web"]
 d_need_plane:dU Z.K mg "need_plane" mj ["web"]
 d_chain:dU Z.K mg "chain" yM ["web","dyeing","p","dye"]
 d_exchanged:dU Z.K mg "exchanged" nV ["dyeing","points","one","other"]
 d_least_free:dU Z.K mg "least_free" mh ["taken","many"]
 d_freeing_exchange:dU Z.K mg "freeing_exchange" gD ["web","dyeing","around"]
 d_dye_given:dU Z.K mg "dye_given" iD ["web","dyeing","p","many"]
 d_order_of_five:dU Z.K mg "order_of_five" gq ["web"]
 d_five_dyes:dU Z.K mg "five_dyes" jT ["web"]
 d_is_among:dU Z.K mg "is_among" pQ ["thing","many"]
 d_alien_fault:dU Z.K mg "alien_fault" kz ["rows"]
 d_self_fault:dU Z.K mg "self_fault" mw ["rows"]
 d_twice_fault:dU Z.K mg "twice_fault" kC ["rows"]
 d_lone_fault:dU Z.K mg "lone_fault" mi ["rows"]
 d_reached_from_first:dU Z.K mg "reached_from_first" dP ["rows"]
 d_apart_fault:dU Z.K mg "apart_fault" kA ["rows"]
 d_first_fault:dU Z.K mg "first_fault" kB ["rows"]
 d_need_at_most:dU Z.K mg "need_at_most" jE ["web","most"]
 d_led_with:dU Z.K mg "led_with" lg ["walk","p","near","one","other"]
 d_led:dU Z.K mg "led" BO ["web","one","other","many"]
 d__law_cell_at:dU Z.K mg "_law_cell_at" jB ["_law_script","_law_k"]
 d__law_reserve:dU Z.K mg "_law_reserve" jD ["_law_cell","_law_k"]
 d__law_draws:dU Z.K mg "_law_draws" lY ["_law_script","_law_at","_law_many"]
 d__law_lands:dU Z.K mg "_law_lands" lZ ["_law_turns"]
 d__law_places:dU Z.K mg "_law_places" iC ["_law_land","_law_number"]
 d__law_grown:dU Z.K mg "_law_grown" i8 ["_law_turns","_law_land","_law_places_here"]
 d__law_web:dU Z.K mg "_law_web" pP ["_law_draws_here"]
 d__law_named:dU Z.K mg "_law_named" ja ["_law_turns","_law_draws_here"]
 d__law_dyeing:dU Z.K mg "_law_dyeing" f7 ["_law_turns","_law_draws_here","_law_dyes_here","_law_none"]
 d__law_whole:dU Z.K mg "_law_whole" mf ["_law_found"]
 d__law_full:dU Z.K mg "_law_full" jS ["_law_turns","_law_number"]
 d__law_drawn:dU Z.K mg "_law_drawn" lX ["_law_script"]
 d__law_sure:dU Z.K mg "_law_sure" nU ["_law_turns","_law_dyeing_here"]
 d__law_dyes:dU Z.K mg "_law_dyes" nS ["_law_many"]
 d__law_changed:dU Z.K mg "_law_changed" fF ["_law_turns","_law_dyeing_here","_law_draws_here","_law_dyes_here"]
 d__law_is_move:dU Z.K mg "_law_is_move" jC ["_law_move","_law_points","_law_many"]
 d__law_leads:dU Z.K mg "_law_leads" i9 ["_law_turns","_law_one","_law_other","_law_many","_law_moves"]
 d_law:dU Z.K mg "law" F6 ["_law_script"]
 W:GA Z
 mC:mg "Web"=some (.ref Z.C)
 i_f:Addr
 i_fd:FuncData
 i_F:zg Z.K "__init__" "Web.__init__" fE i_f i_fd
 mkW:Mk Z.K Z.C i_f
 m___init__b:Binds Z.K i_fd ["self","turns"] []
 m_many:ED Z "many" "Web.many" pO ["self"]
 m_turns:ED Z "turns" "Web.turns" jR ["self"]
 m_ties:ED Z "ties" "Web.ties" kZ ["self"]
 m_tied:ED Z "tied" "Web.tied" vN ["self","a","b"]
 m_behind:ED Z "behind" "Web.behind" lW ["self","p","q"]
 t___name__:∃tk,mg "__name__"=some (.str "law_mapdye_k84_whole_one_dyeing_led_to_anoth" tk)
 c_MOST_POINTS:∃tk,mg "MOST_POINTS"=some (.int 14 tk)
 c_MOST_LED:∃tk,mg "MOST_LED"=some (.int 10 tk)
 c_FEWEST_DYES:∃tk,mg "FEWEST_DYES"=some (.int 7 tk)
variable {P:Program} {w:World} {mg:Str->Option Value} {base:Heap} {Z:DC} (T:Txt Z mg)
def Mw:cg:=λa P=>∃(i n:Int),a= [.int i, .int n]/\P (.bl (decide (0<=i/\i<n)))
theorem BB:FnOk P w Z.K mg base b9 1 T.d_is_among.f T.d_is_among.fd ["thing","many"] (aV Z Mw):=by
 have d:=t8.nd;refine aY T.d_is_among.F t8 [0,0] (by decide) (λb R h=>by obtain⟨_,_,rfl,_⟩:=h;rfl) (λe A outer s H E b R c h=>?_)
 have g:=c.units;refine⟨_,(ao (aJ (nh (qz "int" (aa 0) rfl T.B.isinstance rfl T.B.int GB) (nh (GI (qz "bool" (aa 0) rfl T.B.isinstance rfl T.B.bool Ct)) (wH (HS yu nJ au (aa 0) (aa 1))))))),?_⟩;obtain⟨i,n,rfl,q⟩:=h;refine⟨_,rfl,rfl,true,rfl,eY ⟨_,rfl,rfl,false,rfl,true,rfl,eY ⟨_,rfl,?_⟩⟩⟩;refine⟨_,rfl,bg (λa=>⟨_,rfl,?_⟩) (λa=>?_)⟩
 ·have a:0<=i:=GT a
  show R (.bl (decide (i<n)));rw[show decide (i<n)=decide (0<=i/\i<n) by simp[a]]
  exact q
 ·have a:¬0<=i:=GM a
  rw[show decide (0<=i/\i<n)=false by simp[a]] at q
  exact q
def w4:cg:=λa P=>∃(w:W),a= [aU w]/\zI w/\1<=w.length/\w.length<=14/\P .bA
theorem Ep{w:W}(h:(hV (w.map ay))[j]? =some d):j<w.length/\d= .tup [.int (j:Int),ay (row w j)]:=by
 obtain⟨x,b,rfl⟩:=rN h;obtain⟨r,a,rfl⟩:=b8 b;have c:j<w.length:=(di.mp a).1;refine⟨c,?_⟩;rw[OZ a]
theorem wu:FnOk P w Z.K mg base b9 2 T.d_alien_fault.f T.d_alien_fault.fd ["rows"] (aV Z w4):=by
 have c:=oE.nd;refine aY T.d_alien_fault.F oE [0,0,0,0] (by decide) (λn R h=>by obtain⟨_,rfl,_⟩:=h;rfl) (λy A outer s H E n R m h=>?_)
 have z:=m.units
 refine⟨_,(af (cC rfl FB (kc rfl T.B.enumerate (ae (aa 0) ag)) (hU 2 rfl (bG (aM 1 c) (bG (aM 2 c) eX))) (ao (cC rfl FB (bc (aa 2)) (aM 3 c) (ao (bq (gh (eO (aA T.d_is_among (BB T) m (ae (aa 3) (ae (aH bz rfl T.B.len bx (ae (aa 0) ag)) ag))))) (ao (aJ (cz (ae nA (ae (aa 1) (ae (aa 3) ag)))))) aL)))))
   (ao (aJ cX))),?_⟩
 obtain⟨a,rfl,g,C,G,q⟩:=h;refine⟨_,rfl,bO (λ_ e=>∃i l b,e= [some (aU a),i,l,b]) ⟨_,_,_,rfl⟩ ?_ ?_⟩
 ·rintro j d _ o ⟨i,l,b,rfl⟩ A p
  obtain⟨I,rfl⟩:=Ep o;refine⟨rfl,rfl,?_⟩;refine⟨_,rfl,bO (λ_ e=>∃b,e= [some (aU a),some (.int (j:Int)),some (ay (row a j)),b]) ⟨_,rfl⟩ ?_ ?_⟩
  ·rintro k J _ r ⟨t,rfl⟩ L u
   obtain⟨x,v,rfl⟩:=b8 r;refine⟨_,rfl,_,rfl,_,_,rfl,⟨rfl,?_⟩⟩;have M:x<a.length:=g.rng _ _ (dA v);rw[show decide ((0:Int)<=(x:Int)/\(x:Int)<((a.map ay).length:Int))=true by simp;omega]
   exact cj (u _ ⟨_,rfl⟩)
  ·rintro _ ⟨t,rfl⟩
   exact p _ ⟨_,_,_,rfl⟩
 ·rintro _ ⟨i,l,b,rfl⟩
  exact q
theorem yB:FnOk P w Z.K mg base b9 1 T.d_self_fault.f T.d_self_fault.fd ["rows"] (aV Z w4):=by
 have i:=qc.nd;refine aY T.d_self_fault.F qc [0,0,0] (by decide) (λk R h=>by obtain⟨_,rfl,_⟩:=h;rfl) (λt A outer s H E k R l h=>?_)
 have u:=l.units
 refine⟨_,(af (cC rfl FB (kc rfl T.B.enumerate (ae (aa 0) ag)) (hU 2 rfl (bG (aM 1 i) (bG (aM 2 i) eX))) (ao (bq (aK se (aa 1) (aa 2) (by with_unfolding_all rfl)) (ao (aJ (cz (ae nA (ae (aa 1) (ae (aa 1) ag)))))) aL)))
   (ao (aJ cX))),?_⟩
 obtain⟨a,rfl,g,v,x,q⟩:=h;refine⟨_,rfl,bO (λ_ m=>∃b c,m= [some (aU a),b,c]) ⟨_,_,rfl⟩ ?_ ?_⟩
 ·rintro j d _ n ⟨b,c,rfl⟩ A o
  obtain⟨y,rfl⟩:=Ep n;refine⟨rfl,rfl,?_⟩;refine⟨_,rfl,_,rfl,rfl,cP _,_,rfl,?_⟩
  have e:inD (.int (j:Int)) ((row a j).map aq)=false:=by
   have:=ia (r:=row a j) (p:=j)
   rw[FM (g.irr j)] at this;exact this
  rw[mo cw,e];exact cj (o _ ⟨_,_,rfl⟩)
 ·rintro _ ⟨b,c,rfl⟩
  exact q
theorem j8(l:List a)(k:Nat)(h:k<=l.length):cutD l none (some (k:Int))=l.take k:=by
 unfold cutD;have b:HT.cv l.length 0 none=0:=rfl
 have c:HT.cv l.length l.length (some (k:Int))=k:=by
  simp only[HT.cv]
  split<;>omega
 rw[b,c];simp
theorem wy:FnOk P w Z.K mg base b9 1 T.d_twice_fault.f T.d_twice_fault.fd ["rows"] (aV Z w4):=by
 have i:=oH.nd;refine aY T.d_twice_fault.F oH [0,0,0,0,0] (by decide) (λt R h=>by obtain⟨_,rfl,_⟩:=h;rfl) (λQ A outer s H E t R u h=>?_)
 have S:=u.units
 refine⟨_,(af (cC rfl FB (kc rfl T.B.enumerate (ae (aa 0) ag)) (hU 2 rfl (bG (aM 1 i) (bG (aM 2 i) eX))) (ao (cC rfl FB (kc rfl T.B.enumerate (ae (aa 2) ag)) (hU 2 rfl (bG (aM 3 i) (bG (aM 4 i) eX))) (ao (bq (aK se (aa 4) (gP (aa 2) jd (je (aa 3))) (by with_unfolding_all rfl)) (ao (aJ (cz (ae nA (ae (aa 1) (ae (aa 4) ag)))))) aL)))))
   (ao (aJ cX))),?_⟩
 obtain⟨a,rfl,g,U,X,q⟩:=h;refine⟨_,rfl,bO (λ_ l=>∃n o b c,l= [some (aU a),n,o,b,c]) ⟨_,_,_,_,rfl⟩ ?_ ?_⟩
 ·rintro j d _ v ⟨n,o,b,c,rfl⟩ A C
  obtain⟨Y,rfl⟩:=Ep v;refine⟨rfl,rfl,?_⟩;refine⟨_,rfl,bO (λ_ l=>∃b c,l= [some (aU a),some (.int (j:Int)),some (ay (row a j)),b,c]) ⟨_,_,rfl⟩ ?_ ?_⟩
  ·rintro k d' _ G ⟨I,J,rfl⟩ A' L
   obtain⟨y,M,rfl⟩:=rN G;obtain⟨x,r,rfl⟩:=b8 M;have h8:k<(row a j).length:=(di.mp r).1;refine⟨rfl,rfl,?_⟩;refine⟨_,rfl,_,rfl,_,rfl,?_⟩;have N:cutD ((row a j).map aq) none (some (k:Int))=((row a j).take k).map aq:=by rw[j8 _ _ (by simp;omega),sO]
   refine(?_:JX false (aq x) (.lst (cutD ((row a j).map aq) none (some (k:Int)))) _);rw[N];refine⟨rfl,cP _,_,rfl,?_⟩
   have e:inD (aq x) (((row a j).take k).map aq)=false:=by
    rw[ia,FM];intro z;obtain⟨m,p⟩:=vU z
    have O:m<k:=by
     have:=(di.mp p).1
     rw[lF] at this;omega
    rw[Ew O] at p;exact absurd ((adC (by omega) (g.nod j)).mp (p.trans r.symm)) (by omega)
   rw[mo cw,e];exact cj (L _ ⟨_,_,rfl⟩)
  ·rintro _ ⟨I,J,rfl⟩
   exact C _ ⟨_,_,_,_,rfl⟩
 ·rintro _ ⟨n,o,b,c,rfl⟩
  exact q
theorem yz:FnOk P w Z.K mg base b9 1 T.d_lone_fault.f T.d_lone_fault.fd ["rows"] (aV Z w4):=by
 have c:=p8.nd;refine aY T.d_lone_fault.F p8 [0,0,0,0] (by decide) (λo R h=>by obtain⟨_,rfl,_⟩:=h;rfl) (λJ A outer s H E o R t h=>?_)
 have L:=t.units
 refine⟨_,(af (cC rfl FB (kc rfl T.B.enumerate (ae (aa 0) ag)) (hU 2 rfl (bG (aM 1 c) (bG (aM 2 c) eX))) (ao (cC rfl FB (bc (aa 2)) (aM 3 c) (ao (bq (aK iV (aa 1) (aE (aa 0) (aa 3)) (by with_unfolding_all rfl)) (ao (aJ (cz (ae nA (ae (aa 1) (ae (aa 3) ag)))))) aL)))))
   (ao (aJ cX))),?_⟩
 obtain⟨a,rfl,g,M,N,q⟩:=h;refine⟨_,rfl,bO (λ_ i=>∃l m b,i= [some (aU a),l,m,b]) ⟨_,_,_,rfl⟩ ?_ ?_⟩
 ·rintro j d _ u ⟨l,m,b,rfl⟩ A v
  obtain⟨O,rfl⟩:=Ep u;refine⟨rfl,rfl,?_⟩;refine⟨_,rfl,bO (λ_ i=>∃b,i= [some (aU a),some (.int (j:Int)),some (ay (row a j)),b]) ⟨_,rfl⟩ ?_ ?_⟩
  ·rintro k Q _ y ⟨z,rfl⟩ S C
   obtain⟨x,G,rfl⟩:=b8 y;have n:=dA G;have I:x<a.length:=g.rng _ _ n;refine⟨_,rfl,_,rfl,_,rfl,_,gd (y6 I),rfl,cP _,_,rfl,?_⟩
   have e:inD (.int (j:Int)) ((row a x).map aq)=true:=by
    have:=ia (r:=row a x) (p:=j)
    rw[GE (g.sym _ _ n)] at this;exact this
   rw[tz rfl,e];exact cj (C _ ⟨_,rfl⟩)
  ·rintro _ ⟨z,rfl⟩
   exact v _ ⟨_,_,_,rfl⟩
 ·rintro _ ⟨l,m,b,rfl⟩
  exact q
def v9(bs:List Bool):List D:=bs.map D.bl
theorem JP{bs:List Bool}{i:Nat}{b:Bool}(h:bs[i]? =some b):(v9 bs)[i]? =some (.bl b):=by unfold v9;rw[bQ,h];rfl
theorem Cy(bs:List Bool)(i:Nat)(b:Bool):(v9 bs).set i (.bl b)=v9 (bs.set i b):=by unfold v9;rw[um]
theorem Cw(bs:List Bool):(v9 bs).length=bs.length:=aD _
theorem Ag{n k:Nat}(h:k<n):jN n (k:Int)=some k:=by unfold jN;rw[tz (by omega),tz (by omega)];simp
def Gb:cg:=λa P=>∃(w:W),a= [aU w]/\zI w/\1<=w.length/\w.length<=14/\∀bs m,RI w bs [] [] m->(∀x,bs[x]? =some true->Reach w 0 x)->P (.lst (v9 bs))
def Met(w:W)(bs:List Bool):Prop:=∀x,bs[x]? =some true->Reach w 0 x
theorem nM:FnOk P w Z.K mg base b9 1 T.d_reached_from_first.f T.d_reached_from_first.fd ["rows"] (aV Z Gb):=by
 have v:=iE.nd;refine aY T.d_reached_from_first.F iE [0,1,1,0,0] (by decide) (λds R h=>by obtain⟨_,rfl,_⟩:=h;rfl) (λbF A outer s H E ds R hr h=>?_)
 have hu:=hr.units
 refine⟨_,(af (zS 1 (NC:= ["row"]) (src:= [none]) rfl v (lK (aw dP)) trivial (bc (aa 0)) (λ_ _ _=>(bI 0 (show(["row"]:List Str).Nodup from by decide+kernel))) (λ_ _ _=>dM) (λ_ _ _=>iQ))
   (af (fH false 1 au iQ)
   (af (cA 2 v (eN (ae au ag)))
   (af (mF FB (eO (aa 2)) (af (GO 3 2 v)
   (ao (cC rfl FB (bc (aE (aa 0) (aa 3))) (aM 4 v) (ao (bq (gh (eO (aE (aa 1) (aa 4)))) (af (fH false 1 (aa 4) iQ)
   (ao (fu false 2 (aa 4)))) aL))))))
   (ao (aJ (aa 1))))))),?_⟩
 obtain⟨c,rfl,g,h1,dW,q⟩:=h;refine⟨_,rfl,ib (ρ:= [none]) ay (λ_=> .bl false) c _ (λy b Y h=>h) rfl (small (by omega)) λaR=>?_⟩
 have e0:c.map (λ_=>D.bl false)=v9 (List.replicate c.length false):=by unfold v9;rw[List.map_replicate,List.map_const']
 rw[e0];refine⟨trivial,_,rfl,0,0,rfl,by rw[Cw,zd];exact Ag (k:=0) (by omega),?_⟩
 rw[Cy];refine⟨by show 1<=sizeLine;decide,?_⟩
 refine kE (λm ρ=>∃(bs:List Bool)(l:List Nat)(X B:Option D),ρ= [some (aU c),some (.lst (v9 bs)),some (.lst (l.map aq)),X,B]/\RI c bs l [] m/\Met c bs/\m<=14/\bs.count false+l.length=m) c.length ?_ ?_
 ·refine⟨_,[0],none,none,rfl,⟨by simp,?_,?_,λx d=>?_,?_⟩,λx d=>?_,dW,?_⟩
  ·rw[qs,tz rfl,tz (by rw[zd];omega)]
  ·intro x d
   have:x=0:=by simpa using d
   rw[this,qs,tz rfl,tz (by rw[zd];omega)]
  ·by_cases e:0=x
   ·exact .inl (by rw[<-e];simp)
   ·rw[qs,mo e,vS] at d
    split at d<;>cases d
  ·rw[adl (by rw[zd];omega),adE,ad4]
   simp;omega
  ·by_cases e:0=x
   ·rw[<-e];exact .refl _
   ·rw[qs,mo e,vS] at d
    split at d<;>cases d
  ·rw[adl (by rw[zd];omega),adE,ad4]
   simp;omega
 ·rintro m _ ⟨bs,l,X,B,rfl,C,mt,hc,Xv⟩
  refine⟨_,rfl,rfl,?_⟩
  rcases y8 l with rfl| ⟨M,p,e⟩
  ·exact cj ⟨_,rfl,q bs m C mt⟩
  ·rw[AQ] at e
   subst e;rw[show yY (.lst ((M++ [p]).map aq))=true by simp[yY]]
   refine eY ?_;rw[bZ] at Xv;simp only[jJ] at Xv;obtain⟨o,rfl⟩:∃o,m=o+1:=⟨m-1,by omega⟩
   have N:=C.pop;have hp:bs[p]? =some true:=C.wt p (by simp)
   have O:p<c.length:=by rw[<-C.len];exact(di.mp hp).1
   refine⟨M.map aq,aq p,by rw[cJ];rfl,?_⟩
   refine⟨_,rfl,_,rfl,_,gd (y6 O),bO (λj ρ=>∃(a:List Bool)(i:List Nat)(B:Option D),ρ= [some (aU c),some (.lst (v9 a)),some (.lst (i.map aq)),some (aq p),B]/\RI c a i [p] o/\Met c a/\(∀k y,k<j->(row c p)[k]? =some y->a[y]? =some true)/\a.count false+i.length=o) ?_ ?_ ?_⟩
   ·exact⟨bs,M,_,rfl,N,mt,(λk n r=>by omega),by omega⟩
   ·rintro j x _ d ⟨a,i,o5,rfl,t,G,I,Q⟩ A hA
    obtain⟨n,J,rfl⟩:=b8 d;have S:=g.rng _ _ (dA J);have U:n<a.length:=by rw[t.len];exact S
    have u:a[n]? =some (a[n]):=bJ U;refine⟨_,rfl,_,rfl,_,gd (JP u),rfl,?_⟩;generalize a[n]=bn at u;cases bn with
    |true=>
     refine cj (hA _ ⟨a,i,_,rfl,t,G,λk y r b=>?_,Q⟩)
     by_cases e:k=j
     ·rw[e,J] at b;cases b;exact u
     ·exact I k y (by omega) b
    |false=>
     refine eY ?_;refine⟨trivial,_,rfl,_,rfl,_,n,rfl,by rw[Cw];exact Ag U,?_⟩
     rw[Cy];have L:=t.push u;have ab7:=L.cnt;refine⟨_,rfl,_,rfl,trivial,cq (by rw[aD];omega),?_⟩
     have er:i.map aq++ [aq n]=(i++ [n]).map aq:=by rw[cJ];rfl
     rw[er];refine hA _ ⟨a.set n true,i++ [n],_,rfl,L,λy b=>?_,λk y r b=>?_,?_⟩
     ·by_cases e:n=y
      ·rw[<-e];exact .step (mt p hp) (dA J)
      ·rw[qs,mo e] at b;exact G y b
     ·rw[qs]
      by_cases e:n=y
      ·rw[tz e,tz U]
      ·rw[mo e]
       refine I k y ?_ b;apply Do;intro z
       have:k=j:=by omega
       rw[this,J] at b;cases b;exact e rfl
     ·obtain⟨hl,he⟩:=di.mp u
      have:0<a.count false:=AU.mpr (by rw[<-he];exact g5 hl)
      rw[adl hl,he,bZ];simp;omega
   ·rintro _ ⟨a,i,o5,rfl,t,G,I,Q⟩
    have L:=t.close λy b=>by
     obtain⟨k,r⟩:=vU b;exact I k y (by rw[aD];exact(di.mp r).1) r
    exact⟨o,by omega,a,i,_,_,rfl,L,G,by omega,Q⟩
def Ec:cg:=λa P=>∃(w:W),a= [aU w]/\zI w/\1<=w.length/\w.length<=14/\(Good w->P .bA)/\(¬Good w->∀q,P (.tup [.str "apart", .int 0,aq q]))
theorem wx:FnOk P w Z.K mg base b9 2 T.d_apart_fault.f T.d_apart_fault.fd ["rows"] (aV Z Ec):=by
 have n:=oF.nd;refine aY T.d_apart_fault.F oF [0,0,0] (by decide) (λu R h=>by obtain⟨_,rfl,_⟩:=h;rfl) (λO A outer s H E u R o h=>?_)
 have Q:=o.units
 refine⟨_,(af (cC rfl FB (kc rfl T.B.enumerate (ae (aA T.d_reached_from_first (nM T) o (ae (aa 0) ag)) ag)) (hU 2 rfl (bG (aM 1 n) (bG (aM 2 n) eX))) (ao (bq (gh (eO (aa 2))) (ao (aJ (cz (ae nA (ae au (ae (aa 1) ag)))))) aL)))
   (ao (aJ cX))),?_⟩
 obtain⟨q,rfl,g,v,z,C,G⟩:=h;refine⟨_,rfl,q,rfl,g,v,z,λbs m r mt=>bO (λk I=>(∀x,x<k->bs[x]? =some true)/\∃c i,I= [some (aU q),c,i]) ⟨λx t=>absurd t (adT x),_,_,rfl⟩ ?_ ?_⟩
 ·rintro j d _ J ⟨l,c,i,rfl⟩ A L
  obtain⟨y,M,rfl⟩:=rN J;obtain⟨b,a,rfl⟩:=b8 M;refine⟨rfl,rfl,?_⟩;cases b with
  |true=>
   refine⟨_,rfl,rfl,cj (L _ ⟨λx t=>?_,_,_,rfl⟩)⟩
   by_cases e:x=j
   ·rw[e];exact a
   ·exact l x (by omega)
  |false=>
   refine⟨_,rfl,rfl,eY ⟨_,rfl,by show 3<=sizeLine;decide,G (λN=>?_) j⟩⟩
   have:=r.all N
   rw[this,vS] at a
   split at a<;>cases a
 ·rintro _ ⟨l,c,i,rfl⟩
  refine C (g.good λp S=>mt p (l p ?_))
  have:=r.len
  unfold v9 hV;simp;omega
theorem oj:FnOk P w Z.K mg base b9 3 T.d_first_fault.f T.d_first_fault.fd ["rows"] (aV Z Ec):=by
 have b:=oG.nd;refine aY T.d_first_fault.F oG [0,0] (by decide) (λj R h=>by obtain⟨_,rfl,_⟩:=h;rfl) (λm A outer s H E j R a h=>?_)
 have n:=a.units
 refine⟨_,(af (aS false 1 b (aA T.d_alien_fault (wu T) a (ae (aa 0) ag)))
   (af (bq (aK uP (aa 1) cX (aW _)) (ao (aS false 1 b (aA T.d_self_fault (yB T) a (ae (aa 0) ag)))) aL)
   (af (bq (aK uP (aa 1) cX (aW _)) (ao (aS false 1 b (aA T.d_twice_fault (wy T) a (ae (aa 0) ag)))) aL)
   (af (bq (aK uP (aa 1) cX (aW _)) (ao (aS false 1 b (aA T.d_lone_fault (yz T) a (ae (aa 0) ag)))) aL)
   (af (bq (aK uP (aa 1) cX (aW _)) (ao (aS false 1 b (aA T.d_apart_fault (wx T) a (ae (aa 0) ag)))) aL)
   (ao (aJ (aa 1)))))))),?_⟩
 obtain⟨c,rfl,g,d,e,k,l⟩:=h;refine⟨_,rfl,c,rfl,g,d,e,trivial,?_⟩;refine⟨_,rfl,_,rfl,eY ⟨_,rfl,c,rfl,g,d,e,trivial,?_⟩⟩;refine⟨_,rfl,_,rfl,eY ⟨_,rfl,c,rfl,g,d,e,trivial,?_⟩⟩;refine⟨_,rfl,_,rfl,eY ⟨_,rfl,c,rfl,g,d,e,trivial,?_⟩⟩;refine⟨_,rfl,_,rfl,eY ⟨_,rfl,c,rfl,g,d,e,λi=>⟨trivial,_,rfl,k i⟩,λi q=>⟨trivial,_,rfl,l i q⟩⟩⟩
theorem mQ{P:Program}{w:World}{base:Heap}{Z:DC}(T:Txt Z m):FnOk P w Z.K m base b9 4 T.i_f T.i_fd ["self","turns"] (Ed Z):=by
 have Kv:=oj (P:=P) (w:=w) (base:=base) T;have n:=mT.nd;refine T.i_F.ok mT (λL H Q E h=>?_) (λbF A outer s H L Q E r h=>?_)
 ·obtain⟨p,u,v,G,a,rfl,_⟩:=h;rfl
 obtain⟨p,u,v,G,a,rfl,x,M,N,dv,g,O,S,q⟩:=h;have hu:=r.units
 refine⟨_,mS (t:=rZ Z _ [0,0,0,0] 0 _)
   (bq (gh (HZ yu yu au (aH bz rfl T.B.len bx (ae (aa 1) ag)) (qx rfl T.c_MOST_POINTS))) (ao jX) aL)
  (mS (t:=rZ Z _ [0,0,0,0] 0 _)
   (qB 2 (NC:= ["row"]) (src:= [none]) rfl n (lK (aw fE)) trivial (bc (aa 1)) (λ_ _ _=>(bI 0 (show(["row"]:List Str).Nodup from by decide+kernel))) (λ_ _ _=>dM) (λ_ _ _=>(fo mE rfl T.B.list eo (ae (aa 0) ag))))
  (mS (t:=rZ Z _ [0,0,0,0] 0 _)
   (aS false 3 n (aA T.d_first_fault (oj T) r (ae (aa 2) ag)))
  (mS (t:=rZ Z _ [0,0,0,0] 0 _)
   (bq (aK uQ (aa 3) cX (aW _)) (ao jX) aL)
  (D2 (OP (pv 0) (pv 2) rfl))))),?_⟩
 have F:(a.map ay).length=a.length:=aD _;refine⟨⟨G,H,G⟩,[some (.obj p),some (aU a),none,none],{nx:=λρ=>ρ= [some (.obj p),some (aU a),none,none],rt:=λ_=>False},⟨G,λ_=> [],?_⟩,?_,⟨?_,λ_ z=>z.elim,λ_ z=>z.elim,λ_ z=>z.elim,λ_ _ z=>z.elim⟩⟩
 ·refine⟨.refl M, .refl _,rfl,λi d c=>?_,λ_=>gK,(λ_ _ _ _ z=>by cases z),(λ_ _ z=>by cases z)⟩
  match i,c with
  |0,c=>cases c;exact⟨_,rfl, .obj p,rfl⟩
  |1,c=>cases c;exact⟨_,rfl,dv,rfl⟩
  |2,c=>cases c
  |3,c=>cases c
  |i+4,c=>cases c
 ·have U:D.bl (decide ((1:Int)<=((a.map ay).length:Int)))= .bl true:=FS D.bl (GE (by rw[F];omega))
  have X:D.bl (decide (((a.map ay).length:Int)<=14))= .bl true:=FS D.bl (GE (by rw[F];omega))
  exact⟨_,rfl,true,U,eY ⟨true,X,cj rfl⟩⟩
 rintro _ rfl Gw H1 S1;refine⟨⟨G,H,G⟩,_,{nx:=λρ=>ρ= [some (.obj p),some (aU a),some (aU a),none],rt:=λ_=>False},S1,?_,⟨?_,λ_ z=>z.elim,λ_ z=>z.elim,λ_ z=>z.elim,λ_ _ z=>z.elim⟩⟩
 ·exact⟨_,rfl,ib (ρ:= [none]) ay ay a _ (λy hy Y h=>⟨_,rfl,h⟩) rfl (small (by omega)) λaR=>⟨trivial,rfl⟩⟩
 rintro _ rfl gr H2 S2;refine⟨⟨G,H,G⟩,_,{nx:=λρ=>ρ= [some (.obj p),some (aU a),some (aU a),some .bA],rt:=λ_=>False},S2,?_,⟨?_,λ_ z=>z.elim,λ_ z=>z.elim,λ_ z=>z.elim,λ_ _ z=>z.elim⟩⟩
 ·exact⟨_,rfl,a,rfl,g.near,O,S,λ_=>⟨trivial,rfl⟩,λz=>absurd g z⟩
 rintro _ rfl wF H3 S3;refine⟨⟨G,H,G⟩,_,{nx:=λρ=>ρ= [some (.obj p),some (aU a),some (aU a),some .bA],rt:=λ_=>False},S3,?_,⟨?_,λ_ z=>z.elim,λ_ z=>z.elim,λ_ z=>z.elim,λ_ _ z=>z.elim⟩⟩
 ·exact⟨_,rfl,_,rfl,cj rfl⟩
 rintro _ rfl gu H4 ⟨I,fp,f⟩;obtain⟨v0,oN,o0⟩:=f.at_ 0 _ rfl;obtain⟨v2,rW,o2⟩:=f.at_ 2 _ rfl;obtain⟨d0,_⟩:=o0;obtain⟨J,_⟩:=o2;cases d0;have k:=J;cases J with
 | @lst R xs ds hR e=>
  have l:=f.ex.hh _ _ x;refine⟨_,rW,_,oN,p,Z.C,u,[],rfl,l,T.W.cl,T.W.nR,by decide,?_⟩
  have g4:I p=none:=f.ex.off p (by show H p≠none;rw[x];exact λz=>nomatch z) N
  refine q R I _ f.ex.gg (λb o j=>?_) (λb o j nb=>?_) f.ex.off aB k
  ·rw[aO (bu j g4)];exact f.ex.sub _ _ j
  ·rw[aO nb];exact f.ex.hh _ _ j
def O8:cg:=λa P=>∃(w:W),a= [.eM w]/\P (.int (w.length:Int))
theorem jQ:FnOk P w Z.K mg base b9 1 T.m_many.f T.m_many.fd ["self"] (aV Z O8):=by
 have d:=t5.nd;refine aY T.m_many.F t5 [0] (by decide) (λb R h=>by obtain⟨_,rfl,_⟩:=h;rfl) (λe A outer s H E b R c h=>?_)
 have g:=c.units;refine⟨_,(ao (aJ (aH bz rfl T.B.len bx (ae (sZ T.W (aa 0)) ag)))),?_⟩;obtain⟨a,rfl,q⟩:=h;refine⟨_,rfl,a,rfl,?_⟩;refine(?_:R (.int ((a.map ay).length:Int)));rw[aD];exact q
def MM:cg:=λa P=>∃(w:W),a= [.eM w]/\w.length<=14/\P (aU w)
theorem gI:FnOk P w Z.K mg base b9 1 T.m_turns.f T.m_turns.fd ["self"] (aV Z MM):=by
 have d:=qR.nd;refine aY T.m_turns.F qR [0] (by decide) (λb R h=>by obtain⟨_,rfl,_⟩:=h;rfl) (λe A outer s H E b R c h=>?_)
 have g:=c.units;refine⟨_,(ao (aJ (nj (NC:= ["row"]) (src:= [none]) rfl (lK (aw jR)) trivial (bc (sZ T.W (aa 0))) (λ_ _ _=>(bI 0 (show(["row"]:List Str).Nodup from by decide+kernel))) (λ_ _ _=>dM) (λ_ _ _=>(fo mE rfl T.B.list eo (ae (aa 0) ag)))))),?_⟩
 obtain⟨a,rfl,i,q⟩:=h;exact⟨_,rfl,a,rfl,ib (ρ:= [none]) ay ay a _ (λy j Y h=>⟨_,rfl,h⟩) rfl (small (by omega)) λk=>q⟩
end xg
namespace L2
open PySem PySem.Spec PyProof.Rows
section
variable {Z:DC} {X:Cx} {md:List Nat} {rn:Nat} {e:Expr} {pos p2:Pos} {te:bp} {t:g6} {lo hi:Option Expr} {tl th:EA}
def R7(t:g6):cN:=λE a=>t a λb=>E.rt (.lst b)
theorem CQ(g:DF Z X rn e t):DSt Z X md rn (.Return (some e) pos) (R7 t):=by
 refine(wY g).imp λD C H j=>?_;rfl';obtain⟨B,l,E,⟨G,m,S⟩,h,M⟩:=j;ac_rfl
 let F:Addr->Prop:=λb=>∃i,b∈m i
 have s:=S.ex.sub
 have n:Ext B.G₀ B.H₀ (plus G H F) H:=⟨S.ex.gg.trans (fI s),j4 s,S.ex.hh,λb a p=>by
  rw[iW (λ⟨i,q⟩=>a (S.nw i b q).1)];exact S.ex.off b a p⟩
 refine⟨plus G H F,l,_,j4 s,⟨S.len,λi d h=>?_⟩,h,λJ r v f w y x o z c=>M.rt _ r v f w y (n.trans x) o z λb a=>⟨S.ex.hh.free (c b a).1,(c b a).2⟩⟩;obtain⟨v,A,o⟩:=S.at_ i d h;exact⟨v,A,o.dv (fI s) λb a u e=>by rw[mR ⟨i,a⟩];exact e⟩
end
open PySem.MeetsSeq
section
variable {X:Cx}
def Mh:V->List V->Hp->VK->Prop:=λx b H Q=>∃(l:Addr)(a:List Int)(k:Int)(j:Nat),x= .ref l/\b= [.int k]/\H l=some (.lst (a.map V.int))/\a[j]? =some k/\(∀m,m<j->a[m]? ≠some k)/\Q .bA (upd H l (.lst ((a.eraseIdx j).map V.int)))
def Ti(k:Int):Value->Bool
 | .int a _=>a==k
 |_=>false
theorem FI:HA X "list.remove" Mh:=by
 intro G s σ H x vs v us Q I N O h;rfl';obtain⟨l,b,k,j,rfl,rfl,J,L,S,q⟩:=h;subst N;obtain⟨u,rfl,T⟩:=O.one;obtain⟨U,rfl⟩:=T;obtain⟨z,a,n,r,hl,e⟩:=I.pD J;have len:=r.length;rw[aD] at len;have C:j<b.length:=(di.mp L).1;ac_rfl
 have B:∀(m:Nat)(d:m<b.length),∃t,a[m]? =some (.int b[m] t):=λm d=>by
  obtain⟨w,hw,Y⟩:=r.get (i:=m) (x:= .int b[m]) (by rw[bQ,bJ d];rfl)
  obtain⟨t,rfl⟩:=Y;exact⟨t,hw⟩
 have Z:∀y,y∈a.toArray->EqGives y (.int k U) (Ti k y):=λy E=>by
  have E:y∈a:=by simpa using E
  obtain⟨m,d,rfl⟩:=y9.mp E;obtain⟨t,g⟩:=B m (by omega)
  have:a[m]= .int b[m] t:=by
   rw[bJ d] at g;exact Da g
  rw[this];exact EqGives.int _ _ _ _
 have A:∀(m:Nat)(d:m<a.toArray.size),Ti k a.toArray[m]=decide (b[m]? =some k):=λm d=>by
  have rT:m<a.length:=by simpa using d
  obtain⟨t,g⟩:=B m (by omega)
  have e1:a.toArray[m]= .int (b[m]'(by omega)) t:=by
   rw[bJ rT] at g;simpa using Da g
  rw[e1,bJ (by omega)]
  show((b[m]'(by omega))==k)=_
  by_cases c:b[m]'(by omega)=k
  ·simp[c]
  ·simp[c]
 have M:a.toArray.size=b.length:=by simp[len]
 refine acv F.slot_list_remove ⟨_,e,rfl⟩ F.entry_list_remove (F.args_list_remove_2 _ _) (list_remove l a.toArray n _ (Ti k) Z j (by omega) (by rw[A _ (by omega),L];simp) (λm d De=>by rw[A m d];exact FM (S m De)) (by rw[M];simpa using z)) ⟨e,?_⟩
 refine⟨.bA,_,I.Du (its':=a.eraseIdx j) (f:=λxs=>xs.eraseIdxIfInBounds j) J e ?_ ?_ ?_,rfl,q⟩
 ·unfold Array.eraseIdxIfInBounds
  rw[dif_pos (by rw[M];exact C)]
  simp
 ·refine Vals.of_get (by rw[aD,B6,B6,len]) λm x u o p=>?_
  rw[bQ,ad5] at o;rw[ad5] at p
  by_cases c:m<j
  ·rw[tz c] at o p
   have d:m<b.length:=by omega
   obtain⟨t,g⟩:=B m d;rw[g] at p;rw[bJ d] at o;cases o;cases p;exact⟨t,rfl⟩
  ·rw[mo c] at o p
   have d:m+1<b.length:=by
    by_cases c2:m+1<b.length
    ·exact c2
    ·rw[fj (by omega)] at o;cases o
   obtain⟨t,g⟩:=B (m+1) d;rw[g] at p;rw[bJ d] at o;cases o;cases p;exact⟨t,rfl⟩
 ·have h1:(b.eraseIdx j).length<=b.length:=by rw[B6];split<;>omega
  rw[aD] at z ⊢;omega
end
section
variable {Z:DC} {X:Cx} {md:List Nat} {rn:Nat} {e k:Expr} {pos apos aP:Pos} {te tp:bp}
end
theorem gx.ok{P:Program}{w:World}{H:Hp}{a:Addr}(x:gx b a d h):cV P w H h a (.ext (gx b a d)):=by
 refine⟨x,let ⟨o,_,_,_,c,_⟩:=x;⟨o,c⟩,λg i p k=>?_⟩;obtain⟨o,e,f,t,c,r⟩:=p;exact⟨o,e,f,t,k o c,r⟩
theorem vj.elems(i:vj a b):ElemsOf (intKind P w) a.toList:=λe c=>by
 obtain⟨k,t,rfl⟩:=i.1 e c;exact⟨⟨k,by simp[intKind,Value.isInt],rfl⟩,rfl⟩
theorem Ab:∀{b:List (Int×Value)}{c:List Int},(∀e∈b,∃k t,e=(hashInt k,Value.int k t))->IntsAre (b.map (·.2)) c->∀k,k∈c↔∃e∈b,Value.isInt k e.2=true
 | [],_,_,h,k=>by cases h;simp
 |e::b,c,d,h,k=>by
  obtain⟨j,t,rfl⟩:=d e (bE ..);cases h with
  |cons n g h=>
   have f:=Ab (λe a=>d e (bV _ a)) h k;rw[br,f]
   constructor
   ·rintro(rfl| ⟨e,a,q⟩)
    ·exact⟨_,bE ..,by simp[Value.isInt]⟩
    ·exact⟨e,bV _ a,q⟩
   ·rintro⟨e,a,q⟩
    rcases br.mp a with rfl|a
    ·left;simp[Value.isInt] at q;exact q.symm
    ·exact .inr ⟨e,a,q⟩
theorem vj.mem(i:vj d f)(k:Int):k∈f↔∃e∈d.toList,(intKind P w).is k e.2=true:=by
 obtain⟨a,_,g,b,c⟩:=i;rw[<-c.mem_iff];exact Ab a b k
theorem Aa:∀{a:List Value}{b:List Int},IntsAre a b->a.length=b.length
 |_,_, .nil=>rfl
 |_,_, .cons _ _ h=>FS (·+1) (Aa h)
theorem vj.size{a:Array (Int×Value)}(i:vj a d):a.size=d.length:=by
 obtain⟨_,_,e,b,c⟩:=i;rw[<-c.length_eq,<-Aa b,aD,iF]
theorem _root_.PySem.fM.Mt(S:fM b o a c t):a.size<=306:=by
 have:=S.few
 rcases S.tok.few with h|h|h|h<;>omega
theorem gx.setOf(x:gx b a c h):h.SetOf (intKind P w) a (λk=>decide (k∈c)) c.length:=by
 obtain⟨o,d,e,t,f,S,i⟩:=x;refine⟨o,d,e,t,f,S.ex,S.dat,i.elems,λk=>?_,?_,S.fits,i.size⟩
 ·rw[acx];exact i.mem k
 ·have:=S.Mt
  show d.size<4096;omega
def z9(a:List Int)(k:Int):List Int:=if k∈a then a else a++ [k]
section
variable {X:Cx}
theorem Inv.Hu(I:Inv X c e H s)(h:H a=some (.ext (gx b a d))):gx b a d s.heap:=(I.hok a _ h).1
theorem LR(d:Gl X "set")(f:X.mg "set"=none):PE X (.Call (.Name "set" p) [] [] a) (λg H Q=>∀q,H q=none->Q (.ref q) (upd H q (.ext (gx (cI X.w) q [])))):=by
 intro c s g H Q I h;refine acj (kU I d f (u:= .type "set") (by decide+kernel) ?_ (by decide) (by decide))
 refine adv rfl (adw (sS ?_));have i:=I.hok.fresh (bH _);refine⟨.ref s.heap.objs.size,_,I.laid (t':=s.toks) (λb o e=>AC _ e) (bH _) (o:= .ext (gx (cI X.w) s.heap.objs.size [])) (gx.ok ⟨_,_,_,_,Gc _ rfl,fM.new X.w,?_⟩),rfl,h _ i⟩;exact⟨λe j=>by simp at j,gK,[],by simpa using IntsAre.nil, .refl _⟩
theorem FU:OpR X (compareOp .NotIn) (λx y H Q=>∃k p b a,x= .int k/\y= .ref p/\H p=some (.ext (gx b p a))/\Q (.bl (!decide (k∈a))) H):=by
 intro c s g H x y v u Q I d e h;obtain⟨k,p,b,a,rfl,rfl,f,q⟩:=h;obtain⟨t,rfl⟩:=d;cases e;exact wpAny_notInSet_of (knd:=intKind X.prog X.w) (k:=k) (by simp[intKind,Value.isInt]) rfl (I.Hu f).setOf ⟨.bl _,H,I.tok _,rfl,q⟩
def T5(w:World):V->List V->Hp->VK->Prop:=λx c H Q=>∃l b a k,x= .ref l/\c= [.int k]/\H l=some (.ext (gx b l a))/\b=cI w/\a.length<=300/\Q .bA (upd H l (.ext (gx b l (z9 a k))))
theorem Lr:HB X "set.add" (T5 X.w):=by
 intro m s σ H x M v us Q I N O h;obtain⟨l,b,a,k,rfl,rfl,g,rfl,hz,q⟩:=h;cases N;obtain⟨u,rfl,R⟩:=O.one;obtain⟨d,rfl⟩:=R;obtain⟨o,p,ep,t,r,S,i⟩:=I.Hu g;have T:s.TypeIs (.ref l) "set":=⟨o,r,S.ex.1⟩;refine SB F.slot_set_add T F.entry_set_add ?_ (F.args_set_add_2 _ _);unfold Builtin.«set.add» Builtin.Frozenset.oneOther;simp only[ac1,bind_assoc];unfold Builtin.Frozenset.addrOf setAdd;refine be (ir ?_)
 try dsimp only
 refine be (ir ?_)
 try dsimp only
 refine be ?_;refine KF ?_;have A:(intKind X.prog X.w).is k (.int k d)=true:=by simp[intKind,Value.isInt]
 refine be ((intKind X.prog X.w).pyHash A ?_);refine BX (s:={s with toks:=s.toks+1}) r S i.elems A (by rw[i.size];omega) (λU=>?_) λY h' B C Z t' sb E S' j=>?_
 ·show wpAny _ _ (ret Value.none) _ _ _
  have f:k∈a:=(i.mem k).mpr U;rw[z9,tz f] at q
  have e:upd H l (.ext (gx (cI X.w) l a))=H:=by
   funext c
   by_cases z:c=l
   ·subst z;rw[aB];exact g.symm
   ·rw[aO z]
  rw[e] at q;exact ir ⟨_,rfl, .bA,H,I.tok _,rfl,q⟩
 ·show wpAny _ _ (ret Value.none) _ _ _
  have f:k∉a:=λz=>Y ((i.mem k).mp z);rw[z9,mo f] at q
  have i':vj C (a++ [k]):=by
   obtain⟨a1,a2,ms,G,J⟩:=i;refine⟨λe he=>?_,?_,?_⟩
   ·rcases bR.mp (j.mem_iff.mp he) with h|h
    ·exact a1 e h
    ·rw[cF] at h;exact⟨k,d,h⟩
   ·rw[dB]
    refine⟨a2,by simp,λx hx y L z=>f ?_⟩
    rw[cF] at L;rw[<-L,<-z];exact hx
   ·have a5:IntsAre ((p.toList++ [((intKind X.prog X.w).hash k,Value.int k d)]).map (·.2)) (ms++ [k]):=by
     rw[cJ];clear J j;generalize p.toList.map (·.2)=M at G
     induction G with
     |nil=>exact .cons k d .nil
     |cons n t _ ih=>exact .cons n t ih
    obtain⟨DJ,b1,b2⟩:=ya (j.map (·.2)) a5;exact⟨DJ,b1,b2.trans (J.append_right _)⟩
  have I':=I.write (h':=h') (t':=s.toks+1) (x:=l) (e:=l) (o:= .ext (gx (cI X.w) l (a++ [k]))) (by rw[g];trivial) (.inl rfl) (λb u hb e=>sb.extBut b u hb e) ⟨B,E⟩ (gx.ok ⟨B,C,Z,t',E,S',i'⟩)
  exact ir ⟨_,rfl, .bA,_,I',rfl,q⟩
def abJ(r:V->List V->Hp->VK->Prop)(d:TE)(t:TA):TE:=λa H Q=>d a H λx c=>(∃p b e,x= .ref p/\c p=some (.ext (gx b p e)))/\t a c λf g=>r x f g Q
variable {o e:Expr} {es:List Expr} {to:TE} {t:TA} {name:Str} {apos aP:Pos} {id:String} {r:V->List V->Hp->VK->Prop}
theorem OD(m:PlainAttrs "set")(slot:Slot "set" name id)(n:typeOf (.builtin id)=pure (.type "method_descriptor"))(q:HB X id r)(u:PE X o to)(w:PA X (e::d) t)
  (y:attributeBase o name X.env (eval o X.env)=eval o X.env:=by rfl)
  (z:((backTo f (starEach (e::d) X.env)).all (λx=>!x.1)&&(backToKw f (keywordEach [] X.env)).all (λx=>x.1.isSome)
   &&decide ((e::d).length+([]:List Keyword).length+(if ([]:List Keyword).isEmpty then 0 else 1)<30))=true:=by rfl)
  (A:(apos.endLine==f.line)=true:=by rfl) (B:starEach (e::d) X.env=(false,eval e X.env)::starEach d X.env:=by rfl) (C:(backTo f (starEach d X.env)).any (·.1)=false:=by rfl):
  PE X (.Call (.Attribute o name apos) (e::d) [] f) (abJ r to t):=by
 intro c s g H Q I h;refine acS y z A rfl (thn (u c s g H _ I h) λv E ⟨x,F,i,G,J,L⟩=>?_);obtain⟨p,b,ns,rfl,M⟩:=J;cases G;obtain⟨j,_,_,_,k,S,_⟩:=i.Hu M;refine⟨"set",id,m,slot,n,⟨j,k,S.ex.1⟩,λa N=>?_,?_⟩
 ·cases N;exact⟨j,k,S.ex.2.1⟩
 have l:=w f c E g F _ i L;rw[B] at l ⊢;refine acw (by show(false|| (backTo f (starEach d X.env)).any (·.1))=false;rw[C]<;>rfl) (ac9 ?_)
 exact thn l λO R ⟨T,U,Y,Z,q2⟩=>q c R g U (.ref p) T (.ref p) O Q Y rfl Z q2
theorem zk(m:X.calm=true):cK X (.builtin "sorted") (λf H Q=>∃(p:Addr)(b:List Int),f= [.ref p]/\H p=some (.ext (gx (cI X.w) p b))/\b.length<64/\∀(q:Addr)(a:List Int),H q=none->a.Perm b->a.Pairwise (·<=·)->Q (.ref q) (upd H q (.lst (a.map V.int)))):=by
 intro g s L H f M Q I n h;obtain⟨p,b,rfl,v,x,q⟩:=h;obtain⟨u,rfl,y⟩:=n.one;cases y;obtain⟨o,N,O,t,z,S,i⟩:=I.Hu v;obtain⟨_,_,A,B,j⟩:=id i;refine Eb (I.ok.hd m) z S B (by rw[i.size];exact x) λR C c out e a d k E F l G=>?_
 have fr:H c=none:=I.hok.fresh k;have T:64<=sizeLine:=by decide
 have J:=(l.trans j).length_eq;exact⟨.ref c,_,I.laid (t':=C) d k (o:= .lst (a.map V.int)) ⟨by rw[aD];omega,out.toList,e,sE F,by simpa using E⟩,rfl,q c a fr (l.trans j) G⟩
end
section
variable {Z:DC} {X:Cx} {B:Bs} {md:List Nat} {rn:Nat} {ρ:DN} {σ:St} {H G:Hp} {fp:Nat->List Addr} {a e k o:Expr} {ta te tk tp:bp} {pos apos aP p2:Pos}
def Wa(neg:Bool):gz:=λa b P=>∃k d c,a= .int k/\b= .set d c/\P (.bl (if neg=true then !decide (k∈c) else decide (k∈c)))
theorem FO:OpR X (compareOp .NotIn) (bY Z (Wa true)):=by
 refine FU.imp ?_;rintro x y H Q ⟨G,a,b,P,s,c,d,⟨k,i,f,rfl,rfl,h⟩,q⟩;cases c;cases d with
 |set g=>exact⟨k,_,_,f,rfl,rfl,s _ _ g,q _ h _ G H (.refl s) (.bl _)⟩
def Sa(w:World)(i:Nat):cN:=λE b=>E.nx (b.set i (some (.set (cI w) [])))
theorem Kh(i:Nat)(n:X.N.Nodup)(q:Gl X "set")(r:X.mg "set"=none)(s:t.getD i 0=99:=by rfl)(u:X.N[i]? =some x:=by rfl)(v:Loc X.env.scope x:=by first|exact Or.inl rfl|exact Or.inr rfl)(y:swapsWith (.Call (.Name "set" p) [] [] A) (some (.Name x d)) m.line X.env=pure false:=by rfl)
  (C:X.fn x=true\/X.env.scope.names.lookup x=some .local:=by first|exact .inl rfl|exact .inr rfl|assumption):DSt Z X t J (.Assign [.Name x d] (.Call (.Name "set" p) [] [] A) m) (Sa X.w i):=by
 refine(i7 n u v (LR q r) y C).imp ?_;rintro D L H ⟨B,O,E,⟨G,Q,S⟩,h,M⟩;intro c g;have F:G c=none:=S.ex.sub.free g;have x:Ext G H G (upd H c (.ext (gx (cI X.w) c []))):=⟨.refl _,S.ex.sub.trans (bf g _),bf g _,λ_ _ z=>z⟩;refine M.nx _ h _ _ ⟨G,_,(S.grow x).vO s (f:= [c]) (.inr (.inr ⟨c,_,rfl,aB,rfl, .inl ⟨rfl,_,[],rfl,rfl⟩⟩)) (by simp) (λb l=>?_) λb l j _ I=>?_⟩
 ·rw[cF] at l;subst l
  exact⟨S.ex.hh.free g,(by rw[aB];exact λz=>nomatch z),F⟩
 ·rw[cF] at l;subst l
  exact(S.nw j _ I).2.1 g
def RU(w:World)(f:List Nat)(m:Bool)(i:Nat)(g:bp):cN:=λE b=>∃c,b[i]? =some (some (.set (cI w) c))/\g (zE f m b) λd=>∃k,d= .int k/\c.length<=300/\E.nx (b.set i (some (.set (cI w) (z9 c k))))
theorem Kd(m:Bool)(i:Nat)(y:DE Z X e te)(f:md.getD i 0=99:=by rfl)(z:X.N[i]? =some x:=by rfl)(A:lJ X.env.scope x:=by first|exact Or.inl rfl|exact Or.inr (Or.inl rfl) |exact Or.inr (Or.inr rfl))(g:(x==("__debug__":Str))=false:=by decide)(C:(x==("__classdict__":Str))=false:=by decide)
  (I:attributeBase (.Name x c) "add" X.env (eval (.Name x c) X.env)=eval (.Name x c) X.env:=by rfl)
  (J:((backTo aP (starEach [e] X.env)).all (λx=>!x.1)&&(backToKw aP (keywordEach [] X.env)).all (λx=>x.1.isSome)&&decide (([e]:List Expr).length+([]:List Keyword).length+(if ([]:List Keyword).isEmpty then 0 else 1)<30))=true:=by rfl)
  (L:(apos.endLine==aP.line)=true:=by rfl) (n:starEach [e] X.env=(false,eval e X.env)::starEach [] X.env:=by rfl) (O:(backTo aP (starEach [] X.env)).any (·.1)=false:=by rfl)
  (Q:swapsWith (.Call (.Attribute (.Name x c) "add" apos) [e] [] aP) none pos.line X.env=pure false:=by rfl):
  DSt Z X md rn (.Expr (.Call (.Attribute (.Name x c) "add" apos) [e] [] aP) pos) (RU X.w md m i te):=by
 refine(iz (OD ad6 PySem.F.slot_set_add PySem.F.type_set_add Lr (pv i z A g C) (dr y eQ n) I J L n O) Q).imp ?_;rintro D σ H ⟨B,ρ,E,⟨G,R,S⟩,⟨T,p,h⟩,M⟩;obtain⟨v0,j,q⟩:=S.at_ i _ p;rw[f] at q;obtain⟨l,rfl,U,_⟩:=q.QO;refine⟨_,j,⟨l,_,_,rfl,U⟩,S.ev m h λd g=>?_⟩;obtain⟨k,rfl,Y,a⟩:=g;refine⟨by cases m<;>trivial,λv o H' r x dv=>?_⟩
 cases dv;obtain⟨v1,s,t⟩:=r.at_ i _ p;rw[j] at s;cases s;rw[f] at t;obtain⟨l',e',KW,u⟩:=t.QO;cases e';refine⟨l,_,T,k,rfl,rfl,KW,rfl,Y,M.nx _ a _ _ ⟨o,R,r.mut j (b:=l) (by rw[u];simp) ?_⟩⟩
 rw[f,u];exact .inr (.inr ⟨l,_,rfl,aB,rfl, .inl ⟨rfl,_,_,rfl,rfl⟩⟩)
def V7(g:List Nat)(i:Nat)(h:bp):cN:=λE b=>∃c,b[i]? =some (some (.lst c))/\h (dH g b) λd=>∃f,d= .lst f/\c.length+f.length<=sizeLine/\E.nx (b.set i (some (.lst (c++f))))
theorem GL(i:Nat)(t:DE Z X e te)(g:md.getD i 0=1:=by rfl)(u:X.N[i]? =some x:=by rfl)(w:lJ X.env.scope x:=by first|exact Or.inl rfl|exact Or.inr (Or.inl rfl) |exact Or.inr (Or.inr rfl))(f:(x==("__debug__":Str))=false:=by decide)(y:(x==("__classdict__":Str))=false:=by decide)
  (z:attributeBase (.Name x c) "extend" X.env (eval (.Name x c) X.env)=eval (.Name x c) X.env:=by rfl)
  (A:((backTo aP (starEach [e] X.env)).all (λx=>!x.1)&&(backToKw aP (keywordEach [] X.env)).all (λx=>x.1.isSome)&&decide (([e]:List Expr).length+([]:List Keyword).length+(if ([]:List Keyword).isEmpty then 0 else 1)<30))=true:=by rfl)
  (C:(apos.endLine==aP.line)=true:=by rfl) (j:starEach [e] X.env=(false,eval e X.env)::starEach [] X.env:=by rfl) (I:(backTo aP (starEach [] X.env)).any (·.1)=false:=by rfl)
  (J:swapsWith (.Call (.Attribute (.Name x c) "extend" apos) [e] [] aP) none pos.line X.env=pure false:=by rfl):
  DSt Z X md rn (.Expr (.Call (.Attribute (.Name x c) "extend" apos) [e] [] aP) pos) (V7 md i te):=by
 refine(iz (uW Os PySem.F.slot_list_extend PySem.F.type_list_extend FH (pv i u w f y) (dr t eQ j) z A C j I) J).imp ?_;rintro D σ H ⟨B,ρ,E,⟨G,L,S⟩,⟨ds,m,h⟩,M⟩;obtain⟨l,xs,_,_,n,O,_⟩:=S.one g m;refine⟨_,n,ty_list O,S.ev false h λd f=>⟨trivial,λv Q H' p x dv=>?_⟩⟩;obtain⟨zs,rfl,R,T⟩:=f;obtain⟨l',U,lN,Y,q,a,r,put⟩:=p.one g m;cases Y;rw[n] at q;cases q;cases dv with
 | @lst b k _ o s=>
  exact⟨l,b,U,k,rfl,rfl,a,p.ex.sub _ _ o,by rw[r.length,s.length];exact R,M.nx _ T _ _ ⟨Q,L,put _ _ (r.append s)⟩⟩
end
theorem fS.ok{P:Program}{w:World}{H:Hp}{a:Addr}(x:fS b a d h):cV P w H h a (.ext (fS b a d)):=by
 refine⟨x,let ⟨o,_,_,_,c,_⟩:=x;⟨o,c⟩,λg i p k=>?_⟩;obtain⟨o,e,f,t,c,r⟩:=p;exact⟨o,e,f,t,k o c,r⟩
theorem iL.mem:∀{b:List (Int×Addr)}{c:List (Int×Int)},iL H b c->∀e∈b,∃p∈c,e.1=cR p/\H e.2=some (.tup [.int p.1, .int p.2])
 |_,_, .nil,e,a=>nomatch a
 |_,_, .cons (p:=p) h t,e,a=>by
  rcases br.mp a with rfl|a
  ·exact⟨p,bE ..,rfl,h⟩
  ·obtain⟨q,d,f⟩:=t.mem e a
   exact⟨q,bV _ d,f⟩
theorem iL.QD:∀{c:List (Int×Addr)}{d:List (Int×Int)},iL H c d->∀p∈d,∃a,(cR p,a)∈c/\H a=some (.tup [.int p.1, .int p.2])
 |_,_, .nil,p,b=>nomatch b
 |_,_, .cons (a:=a) h t,p,b=>by
  rcases br.mp b with rfl|b
  ·exact⟨a,bE ..,h⟩
  ·obtain⟨e,f,g⟩:=t.QD p b
   exact⟨e,bV _ f,g⟩
theorem iL.len:∀{a:List (Int×Addr)}{b:List (Int×Int)},iL H a b->a.length=b.length
 |_,_, .nil=>rfl
 |_,_, .cons _ t=>FS (·+1) t.len
theorem iL.snoc(h:H a=some (.tup [.int p.1, .int p.2])):∀{b:List (Int×Addr)}{c:List (Int×Int)},iL H b c->iL H (b++ [(cR p,a)]) (c++ [p])
 |_,_, .nil=> .cons h .nil
 |_,_, .cons h' t=> .cons h' (iL.snoc h t)
section
variable {X:Cx} {pins:List (Addr×Obj)} {σ:St} {H:Hp} {s:Shared}
theorem Inv.vJ{a:Addr}{p:Int×Int}(I:Inv X pins σ H s)(h:H a=some (.tup [.int p.1, .int p.2])):IsTupleKey (intKind X.prog X.w) s.heap [p.1,p.2] a:=by
 rfl';obtain⟨c,r,⟨o,d,e,n,f⟩,_⟩:=I.tuple (eW.of h);obtain⟨i,j,rfl,⟨t,rfl⟩,⟨u,rfl⟩⟩:=Vals.two r;ac_rfl;exact⟨o,_,n,d,e,f, .cons (by simp[intKind,Value.isInt]) (.cons (by simp[intKind,Value.isInt]) .nil)⟩
theorem Inv.qe(I:Inv X pins σ H s)(h:H a=some (.ext (fS b a c))):fS b a c s.heap:=(I.hok a _ h).1
theorem nN(P:Program)(w:World)(p:Int×Int):tupleKeyHash (intKind P w) [p.1,p.2]=cR p:=rfl
theorem Inv.pes(I:Inv X pins σ H s)(g:iL H b f)(h:a.toList.Perm (b.map λe=>(e.1,Value.ref e.2))):JE X.prog X.w s.heap a:=λi e c=>by
 rfl';have k:e∈a.toList:=by rw[<-kG] at c;exact dA c
 obtain⟨d,l,rfl⟩:=aZ.mp (h.mem_iff.mp k);obtain⟨p,_,m,n⟩:=g.mem d l;ac_rfl;exact⟨[p.1,p.2],d.2,by rw[nN,m],I.vJ n⟩
theorem Inv.pB{h:List (Int×Addr)}{j:List (Int×Int)}{b:Array (Int×Value)}(I:Inv X pins σ H s)(k:iL H h j)(l:b.toList.Perm (h.map λe=>(e.1,Value.ref e.2)))(p:Int×Int):
  (∃(i:Nat)(c:Addr),b[i]? =some (tupleKeyHash (intKind X.prog X.w) [p.1,p.2], .ref c)/\IsTupleKey (intKind X.prog X.w) s.heap [p.1,p.2] c)↔p∈j:=by
 constructor
 ·rintro⟨i,c,d,f⟩
  have g:(tupleKeyHash (intKind X.prog X.w) [p.1,p.2],Value.ref c)∈b.toList:=by rw[<-kG] at d;exact dA d
  obtain⟨m,r,t⟩:=aZ.mp (l.mem_iff.mp g);obtain⟨q,u,x,n⟩:=k.mem m r
  have:m.2=c:=by have:=(aat t).2;injection this
  rw[this] at n
  have:=(I.vJ n).inj f
  simp at this
  have:q=p:=UF this.1 this.2
  rw[<-this];exact u
 ·intro v
  obtain⟨a,d,f⟩:=k.QD p v;have g:(cR p,Value.ref a)∈b.toList:=l.mem_iff.mpr (aZ.mpr ⟨_,d,rfl⟩);obtain⟨i,o⟩:=List.mem_iff_getElem?.mp g;rw[kG] at o;exact⟨i,a,by rw[nN];exact o,I.vJ f⟩
theorem Ja(d:Gl X "set")(f:X.mg "set"=none):PE X (.Call (.Name "set" p) [] [] a) (λg H Q=>∀q,H q=none->Q (.ref q) (upd H q (.ext (fS (cI X.w) q [])))):=by
 intro c s g H Q I h;refine acj (kU I d f (u:= .type "set") (by decide+kernel) ?_ (by decide) (by decide))
 refine adv rfl (adw (sS ?_));have i:=I.hok.fresh (bH _);exact⟨.ref s.heap.objs.size,_,I.laid (t':=s.toks) (λb o e=>AC _ e) (bH _) (o:= .ext (fS (cI X.w) s.heap.objs.size [])) (fS.ok ⟨_,_,_,_,Gc _ rfl,fM.new X.w, .refl _⟩),rfl,h _ i⟩
theorem Yi(i:X.A.units+64<cLine)(I:Inv X pins σ H s)(j:H c=some (.tup [.int p.1, .int p.2]))(k:H a=some (.ext (fS (cI X.w) a e)))(f:iL H e b)
  (h:∀d,Q (decide (p∈b)) {s with toks:=d}):wpAny (model X.prog X.w) X.A (contains (.ref a) (.ref c)) Q E s:=by
 rfl';obtain⟨o,m,r,t,n,S,g⟩:=I.qe k;ac_rfl;refine ue i n S (I.pes f g) (I.vJ j) λd=>?_
 have:PySem.pB X.prog X.w s.heap m [p.1,p.2]=decide (p∈b):=by
  classical
  unfold PySem.pB;exact acr.mpr (I.pB f g p)
 rw[this];exact h d
theorem FT(f:X.A.units+64<cLine):OpR X (compareOp .NotIn) (λx y H Q=>∃c a b d p,x= .ref c/\y= .ref a/\H c=some (.tup [.int p.1, .int p.2])/\H a=some (.ext (fS (cI X.w) a b))/\iL H b d/\Q (.bl (!decide (p∈d))) H):=by
 intro e s n H x y v u Q I g i h;rfl';obtain⟨c,a,b,d,p,rfl,rfl,k,l,m,q⟩:=h;ac_rfl;cases g;cases i;exact be (Yi f I k l m λr=>ir ⟨.bl _,H,I.tok _,rfl,q⟩)
theorem Lq(hu:X.A.units+64<cLine):HB X "set.add" (λx k H Q=>∃l c d a p,x= .ref l/\k= [.ref c]/\H c=some (.tup [.int p.1, .int p.2])/\H l=some (.ext (fS (cI X.w) l d))/\iL H d a/\a.length<=300/\
  (p∈a->Q .bA H)/\(p∉a->Q .bA (upd H l (.ext (fS (cI X.w) l (d++ [(cR p,c)])))))):=by
 intro m s σ H x k v us Q I C E h;rfl';obtain⟨l,c,d,a,p,rfl,rfl,J,n,g,hz,L,M⟩:=h;subst C;obtain⟨u,rfl,N⟩:=E.one;subst N;obtain⟨o,O,ep,t,q,S,f⟩:=I.qe n;have R:s.TypeIs (.ref l) "set":=⟨o,q,S.ex.1⟩;ac_rfl;refine SB F.slot_set_add R F.entry_set_add ?_ (F.args_set_add_2 _ _);unfold Builtin.«set.add» Builtin.Frozenset.oneOther;simp only[ac1,bind_assoc];unfold Builtin.Frozenset.addrOf setAdd;refine be (ir ?_)
 try dsimp only
 refine be (ir ?_)
 try dsimp only
 refine be ?_;refine KF ?_;have r:=I.vJ J;refine be (wpAny_pyHash_tuple ?_ r ?_)
 ·show X.A.units+1<cLine;omega
 have sz:O.size=a.length:=by
  have:=f.length_eq
  rw[iF,aD,g.len] at this;exact this
 refine BY (s:={s with toks:=s.toks+([p.1,p.2].length+1)}) (by show X.A.units+1<cLine;omega) q S (I.pes g f) r (by omega) (λT=>?_) λU h' y Y Z t' sb B S' j=>?_
 ·show wpAny _ _ (ret Value.none) _ _ _
  exact ir ⟨_,rfl, .bA,H,I.tok _,rfl,L ((I.pB g f p).mp T)⟩
 ·show wpAny _ _ (ret Value.none) _ _ _
  have z8:p∉a:=λz=>by
   obtain⟨i,c',h1,h2⟩:=(I.pB g f p).mpr z;exact U i _ h1 c' rfl h2
  have I':=I.write (h':=h') (t':=s.toks+([p.1,p.2].length+1)) (x:=l) (e:=l) (o:= .ext (fS (cI X.w) l (d++ [(cR p,c)]))) (by rw[n];trivial) (.inl rfl) (λb u hb e=>sb.extBut b u hb e) ⟨y,B⟩ (fS.ok ⟨y,Y,Z,t',B,S',by
   rw[cJ];exact j.trans (f.append_right _)⟩)
  exact ir ⟨_,rfl, .bA,_,I',rfl,M z8⟩
def abI(b:Bool)(r:V->List V->Hp->VK->Prop)(d:TE)(t:TA):TE:=λa H Q=>d a H λx c=>(∃p e,x= .ref p/\c p=some (.ext (fS b p e)))/\t a c λf g=>r x f g Q
variable {o e:Expr} {es:List Expr} {to:TE} {t:TA} {name:Str} {apos aP:Pos} {id:String} {r:V->List V->Hp->VK->Prop}
theorem OC{b:Bool}(n:PlainAttrs "set")(slot:Slot "set" name id)(q:typeOf (.builtin id)=pure (.type "method_descriptor"))(u:HB X id r)(w:PE X o to)(y:PA X (e::d) t)
  (z:attributeBase o name X.env (eval o X.env)=eval o X.env:=by rfl)
  (A:((backTo f (starEach (e::d) X.env)).all (λx=>!x.1)&&(backToKw f (keywordEach [] X.env)).all (λx=>x.1.isSome)
   &&decide ((e::d).length+([]:List Keyword).length+(if ([]:List Keyword).isEmpty then 0 else 1)<30))=true:=by rfl)
  (B:(apos.endLine==f.line)=true:=by rfl) (C:starEach (e::d) X.env=(false,eval e X.env)::starEach d X.env:=by rfl) (E:(backTo f (starEach d X.env)).any (·.1)=false:=by rfl):
  PE X (.Call (.Attribute o name apos) (e::d) [] f) (abI b r to t):=by
 intro c s g H Q I h;refine acS z A B rfl (thn (w c s g H _ I h) λv F G=>?_);rfl';obtain⟨x,L,j,M,N,O⟩:=G;ac_rfl;rfl';obtain⟨p,gM,rfl,R⟩:=N;subst M;obtain⟨k,_,_,_,l,S,_⟩:=j.qe R;ac_rfl;refine⟨"set",id,n,slot,q,⟨k,l,S.ex.1⟩,λa T=>?_,?_⟩
 ·cases T;exact⟨k,l,S.ex.2.1⟩
 have m:=y f c F g L _ j O;rw[C] at m ⊢;refine acw (by show(false|| (backTo f (starEach d X.env)).any (·.1))=false;rw[E]<;>rfl) (ac9 ?_)
 exact thn m λU Y ⟨Z,H2,I2,r2,q2⟩=>u c Y g H2 (.ref p) Z (.ref p) U Q I2 rfl r2 q2
end
def Dj(a:List (Int×Int))(p:Int×Int):List (Int×Int):=if p∈a then a else a++ [p]
section
variable {Z:DC} {X:Cx} {B:Bs} {md:List Nat} {rn:Nat} {ρ:DN} {σ:St} {H G:Hp} {fp:Nat->List Addr} {a e k o:Expr} {ta te tk tp:bp} {pos apos aP p2:Pos}
def L4(p:Int×Int):D:= .tup [.int p.1, .int p.2]
theorem Dv.Hc(h:Dv Z G v (L4 p)):∃c,v= .ref c/\G c=some (.tup [.int p.1, .int p.2]):=by
 rfl';obtain⟨c,l,rfl,b,f⟩:=Dv.sh h;obtain⟨m,n,rfl,g,i⟩:=f.Lz;rw[g.ofInt,i.ofInt] at b;ac_rfl;exact⟨c,rfl,b⟩
def V9(w:World)(neg:Bool):gz:=λa b P=>∃p c,a=L4 p/\b= .x (.tW (cI w) c)/\P (.bl (if neg=true then !decide (p∈c) else decide (p∈c)))
theorem FN(d:X.A.units+64<cLine):OpR X (compareOp .NotIn) (bY Z (V9 X.w true)):=by
 refine(FT d).imp ?_;rintro x y H Q ⟨G,a,b,P,s,f,g,⟨p,i,rfl,rfl,h⟩,q⟩;obtain⟨c,rfl,j⟩:=f.Hc;cases g with
 |x l ok=>
  rfl';obtain⟨_,n,rfl,r⟩:=ok;ac_rfl;exact⟨c,_,n,i,p,rfl,rfl,s _ _ j,s _ _ l,r.mono s,q _ h _ G H (.refl s) (.bl _)⟩
def Nl(w:World)(i:Nat):cN:=λE b=>E.nx (b.set i (some (.x (.tW (cI w) []))))
theorem HY(i:Nat)(n:X.N.Nodup)(q:Gl X "set")(r:X.mg "set"=none)(s:t.getD i 0=98:=by rfl)(u:X.N[i]? =some x:=by rfl)(v:Loc X.env.scope x:=by first|exact Or.inl rfl|exact Or.inr rfl)(y:swapsWith (.Call (.Name "set" p) [] [] A) (some (.Name x d)) m.line X.env=pure false:=by rfl)
  (C:X.fn x=true\/X.env.scope.names.lookup x=some .local:=by first|exact .inl rfl|exact .inr rfl|assumption):DSt Z X t O (.Assign [.Name x d] (.Call (.Name "set" p) [] [] A) m) (Nl X.w i):=by
 refine(i7 n u v (Ja q r) y C).imp ?_;intro D Q H F;rfl';obtain⟨B,T,E,⟨G,U,S⟩,h,M⟩:=F;ac_rfl;intro c g;have J:G c=none:=S.ex.sub.free g;have x:Ext G H G (upd H c (.ext (fS (cI X.w) c []))):=⟨.refl _,S.ex.sub.trans (bf g _),bf g _,λ_ _ z=>z⟩;refine M.nx _ h _ _ ⟨G,_,(S.grow x).vO s (f:= [c]) (.inr (.inr ⟨c,_,rfl,aB,rfl, .inr ⟨rfl,_,rfl,gK,[],rfl, .nil⟩⟩)) (by simp) (λb l=>?_) λb l j _ L=>?_⟩
 ·rw[cF] at l;subst l
  exact⟨S.ex.hh.free g,(by rw[aB];exact λz=>nomatch z),J⟩
 ·rw[cF] at l;subst l
  exact(S.nw j _ L).2.1 g
def RT(w:World)(f:List Nat)(m:Bool)(i:Nat)(g:bp):cN:=λE b=>∃c,b[i]? =some (some (.x (.tW (cI w) c)))/\g (zE f m b) λd=>∃p,d=L4 p/\c.length<=300/\E.nx (b.set i (some (.x (.tW (cI w) (Dj c p)))))
theorem Kc(m:Bool)(i:Nat)(hu:X.A.units+64<cLine)(he:DE Z X e te)(s:md.getD i 0=98:=by rfl)(hi:X.N[i]? =some x:=by rfl)(hv:lJ X.env.scope x:=by first|exact Or.inl rfl|exact Or.inr (Or.inl rfl) |exact Or.inr (Or.inr rfl))(t:(x==("__debug__":Str))=false:=by decide)(dX:(x==("__classdict__":Str))=false:=by decide)
  (cQ:attributeBase (.Name x g) "add" X.env (eval (.Name x g) X.env)=eval (.Name x g) X.env:=by rfl)
  (gG:((backTo aP (starEach [e] X.env)).all (λx=>!x.1)&&(backToKw aP (keywordEach [] X.env)).all (λx=>x.1.isSome)&&decide (([e]:List Expr).length+([]:List Keyword).length+(if ([]:List Keyword).isEmpty then 0 else 1)<30))=true:=by rfl)
  (ck:(apos.endLine==aP.line)=true:=by rfl) (I:starEach [e] X.env=(false,eval e X.env)::starEach [] X.env:=by rfl) (cU:(backTo aP (starEach [] X.env)).any (·.1)=false:=by rfl)
  (jx:swapsWith (.Call (.Attribute (.Name x g) "add" apos) [e] [] aP) none pos.line X.env=pure false:=by rfl):
  DSt Z X md rn (.Expr (.Call (.Attribute (.Name x g) "add" apos) [e] [] aP) pos) (RT X.w md m i te):=by
 refine(iz (OC (b:=cI X.w) ad6 PySem.F.slot_set_add PySem.F.type_set_add (Lq hu) (pv i hi hv t dX) (dr he eQ I) cQ gG ck I cU) jx).imp ?_;intro D σ H aQ;rfl';obtain⟨B,J,E,⟨G,L,S⟩,⟨O,n,h⟩,M⟩:=aQ;ac_rfl;rfl';obtain⟨v0,y,Q⟩:=S.at_ i _ n;rw[s] at Q;obtain⟨l,φ,rfl,hl,_,nd,es,rfl,pe⟩:=Q.xA;ac_rfl;refine⟨_,y,⟨l,_,rfl,hl⟩,S.ev m h λd t=>?_⟩;obtain⟨p,rfl,hz,q⟩:=t;refine⟨by cases m<;>trivial,λv R H' C x dv=>?_⟩
 rfl';obtain⟨c,rfl,T⟩:=dv.Hc;obtain⟨v1,U,Y⟩:=C.at_ i _ n;rw[y] at U;ac_rfl;cases Da U;rfl';rw[s] at Y;obtain⟨l',φ',e',KW,k,jz,gM,rfl,o⟩:=Y.xA;cases e';ac_rfl;refine⟨l,c,gM,O,p,rfl,rfl,x.sub _ _ T,KW,o.mono x.sub,hz,λr=>?_,λr=>?_⟩
 ·rw[Dj,tz r] at q
  refine M.nx _ q _ _ ⟨R,L,?_⟩
  have e:J.set i (some (.x (.tW (cI X.w) O)))=J:=by
   refine rA λj=>?_
   by_cases z:i=j
   ·subst z
    have fV:=(di.mp n).1;rw[lD fV,n]
   ·rw[lE z]
  rw[e];exact C
 ·rw[Dj,mo r] at q
  refine M.nx _ q _ _ ⟨R,L,C.mut y (b:=l) (by rw[k];simp) ?_⟩
  rw[s,k];refine .inr (.inr ⟨l,_,rfl,aB,rfl, .inr ⟨rfl,_,rfl,?_,_,rfl,o.snoc T⟩⟩);rw[dB];refine⟨jz,by simp,λa ha b hb z=>r ?_⟩
  rw[cF] at hb;rw[<-hb,<-z];exact ha
end
section
variable {Z:DC} {X:Cx} {md:List Nat} {rn:Nat} {a b:Expr} {pos:Pos} {ta:js}
def Wg(d:List Nat)(i j:Nat)(e:js):cN:=λE c=>e (dH d c) λf=>∃a b,f= [a,b]/\E.nx ((c.set i (some a)).set j (some b))
theorem GN(i j:Nat){kt k2 FZ}(e:X.calm=true)(f:X.N.Nodup)(g:DA Z X [a,b] ta)(k:X.N[i]? =some x:=by rfl)(l:X.N[j]? =some y:=by rfl)(m:i≠j:=by decide)(n:md.getD i 0=0:=by rfl)(d:md.getD j 0=0:=by rfl)
  (o:X.env.scope.names.lookup x=some .local:=by rfl) (p:X.env.scope.names.lookup y=some .local:=by rfl)
  (hw:swappedStores [.Tuple [.Name x c, .Name y py] kt pt] (.Tuple [a,b] k2 FZ) X.env=pure (some [x,y]):=by rfl)
  (q:swapsWithSole [.Tuple [.Name x c, .Name y py] kt pt] (.Tuple [a,b] k2 FZ) pos.line X.env=pure false:=by rfl):
  DSt Z X md rn (.Assign [.Tuple [.Name x c, .Name y py] kt pt] (.Tuple [a,b] k2 FZ) pos) (Wg md i j ta):=by
 refine(OQ e f k l m o p g hw q).imp ?_;intro D I H r;rfl';obtain⟨B,t,E,⟨G,L,S⟩,h,M⟩:=r;ac_rfl;refine⟨G,dH md t,_,S.ex.sub,S.CV,h,?_⟩;rintro _ ⟨a,b,rfl,w⟩ O z Q x A;obtain⟨v,u,rfl,C,F⟩:=A.Lz;exact⟨v,u,rfl,M.nx _ w _ _ ⟨z,_,((S.grow x).qe n C).qe d F⟩⟩
end
section
variable {Z:DC} {X:Cx} {e:Expr} {te:bp} {pos p:Pos}
def ND(w:World)(c:bp):g6:=λf P=>c f λd=>∃a:List Int,d= .set (cI w) a/\a.length<64/\∀b:List Int,b.Perm a->b.Pairwise (·<=·)->P (b.map D.int)
theorem HV(f:X.calm=true)(g:Gl X "sorted")(i:X.mg "sorted"=none)(j:DE Z X e te)(c:starEach [e] X.env=(false,eval e X.env)::starEach [] X.env:=by rfl)(k:(backTo pos (starEach [] X.env)).any (·.1)=false:=by rfl):DF Z X 1 (.Call (.Name "sorted" p) [e] [] pos) (ND X.w te):=by
 refine(qF (zk f) g i ng (dr j eQ c) (by decide) (by decide) c k).imp ?_
 rintro E H Q ⟨G,l,P,s,m,h,q⟩;refine⟨G,l,_,s,m,h,?_⟩;rintro _ ⟨n,rfl,o,r⟩ v t F b dv;cases dv with
 |set u=>
  refine⟨_,n,rfl,b.sub _ _ u,o,λa x d y z=>?_⟩;obtain⟨A,B,C⟩:=ji b d (DvAll.ints (Z:=Z) (H:=t) x);exact q _ (r _ y z) _ _ _ _ (b.side d) A B C
variable {o:Expr} {ta:bp} {m:Str} {f:Addr} {fd:FuncData} {ps:List Str} {sd:cg} {k n:Nat} {apos:Pos}
end
section
variable {Z:DC} {X:Cx} {pins:List (Addr×Obj)} {σ:St} {H:Hp} {s:Shared} {o e:Expr} {ta tb:bp} {apos:Pos}
end
theorem g9.ok{P:Program}{w:World}{H:Hp}{a:Addr}{vs:List FV}(x:g9 a c vs h):cV P w H h a (.ext (g9 a c vs)):=by
 refine⟨x,let ⟨_,o,_,_,b,_⟩:=x;⟨o,b⟩,λf g p k=>?_⟩;obtain⟨z,o,d,e,b,r⟩:=p;exact⟨z,o,d,e,k o b,r⟩
inductive oQ (H:Hp):List (Int×Addr)->List (Int×Int)->List FV->List (List Int×Addr×Value)->Prop
 |nil:oQ H [] [] [] []
 |cons {a:Addr} {p:Int×Int} {v:FV} {u:Value} {es:List (Int×Addr)} {ks:List (Int×Int)} {vs:List FV} {xs:List (List Int×Addr×Value)}:H a=some (.tup [.int p.1, .int p.2])->M8 v u->oQ H es ks vs xs->oQ H ((cR p,a)::es) (p::ks) (v::vs) (([p.1,p.2],a,u)::xs)
theorem oQ.keys:∀{c:List (Int×Addr)}{a:List (Int×Int)}{d:List FV}{b:List (List Int×Addr×Value)},oQ H c a d b->b.map (·.1)=a.map λp=> [p.1,p.2]
 |_,_,_,_, .nil=>rfl
 |_,_,_,_, .cons _ _ t=>by rw[dD,dD,t.keys]
theorem oQ.len:∀{c:List (Int×Addr)}{a:List (Int×Int)}{d:List FV}{b:List (List Int×Addr×Value)},oQ H c a d b->b.length=a.length
 |_,_,_,_, .nil=>rfl
 |_,_,_,_, .cons _ _ t=>FS (·+1) t.len
theorem oQ.snoc(b:H a=some (.tup [.int p.1, .int p.2]))(h:M8 v u):∀{c:List (Int×Addr)}{d:List (Int×Int)}{e:List FV}{f:List (List Int×Addr×Value)},oQ H c d e f->oQ H (c++ [(cR p,a)]) (d++ [p]) (e++ [v]) (f++ [([p.1,p.2],a,u)])
 |_,_,_,_, .nil=> .cons b h .nil
 |_,_,_,_, .cons k' g t=> .cons k' g (oQ.snoc b h t)
theorem vy(P:Program)(w:World)(p:Int×Int)(a:Addr)(u:Value):entryOfKey (tupleKind (intKind P w)) ([p.1,p.2],a,u)=⟨cR p, .ref a,u⟩:=by
 unfold entryOfKey;rw[show(tupleKind (intKind P w)).hash [p.1,p.2]=cR p from nN P w p]
theorem Sg(d:Hy l b g):∀{c:List (Int×Int)},iL H b c->∃f,oQ H b c g f/\∀(P:Program)(w:World),l=f.map (entryOfKey (tupleKind (intKind P w))):=by
 induction d with
 |nil=>intro c i;cases i;exact⟨[], .nil,λ_ _=>rfl⟩
 | @cons e l h a v b g j k m d n=>
  intro c i;cases i with
  | @cons _ p _ r h t=>
   obtain⟨f,o,q⟩:=n t;refine⟨([p.1,p.2],a,e.val)::f, .cons h m o,λP w=>?_⟩;rw[dD,<-q P w,vy];obtain⟨s,u,ev⟩:=e;simp only at j k ⊢;rw[j,k]
theorem Sj{e:List (Int×Int)}(d:oQ H a e b c):Hy (c.map (entryOfKey (tupleKind (intKind P w)))) a b:=by
 induction d with
 |nil=>exact .nil
 |cons _ h t f=>
  rw[dD,vy];exact .cons rfl rfl h f
theorem oQ.isKey(I:Inv X a e H s)(d:oQ H f g i c):∀x∈c,IsTupleKey (intKind X.prog X.w) s.heap x.1 x.2.1:=by
 induction d with
 |nil=>intro x b;cases b
 |cons h _ _ j=>
  intro x b
  rcases br.mp b with rfl|b
  ·exact I.vJ h
  ·exact j x b
theorem oW{K:Type} [DecidableEq K] {b:List (K×Addr×Value)} {k:K}:(atKey b k).isSome=true↔k∈b.map (·.1):=by
 unfold atKey;rw[Option.isSome_map,List.find?_isSome,aZ]
 constructor
 ·rintro⟨x,a,e⟩;exact⟨x,a,GT e⟩
 ·rintro⟨x,a,e⟩;exact⟨x,a,GE e⟩
theorem uV{p:Int×Int}{a:List (Int×Int)}: [p.1,p.2]∈a.map (λp=> [p.1,p.2])↔p∈a:=by
 rw[aZ]
 constructor
 ·rintro⟨q,b,e⟩
  simp at e;rw[<-show q=p from UF e.1 e.2];exact b
 ·intro h;exact⟨p,h,rfl⟩
theorem DV{c:List (Int×Int)}(h:c.Nodup):(c.map λp=> [p.1,p.2]).Nodup:=by
 rw[oJ,gY];rw[oJ] at h;exact h.imp λ {a b} n e=>n (by simp at e;exact UF e.1 e.2)
section
variable {X:Cx} {pins:List (Addr×Obj)} {σ:St} {H:Hp} {s:Shared}
theorem Inv.WX(I:Inv X pins σ H s)(h:H a=some (.ext (g9 a c f)))(g:iL H c d)(i:d.Nodup):
  (a==sysModules)=false/\∃b,oQ H c d f b/\s.heap.DictOfH (tupleKind (intKind X.prog X.w)) a b:=by
 rfl';obtain⟨z,o,k,l,m,n,p,q⟩:=(I.hok a _ h).1;obtain⟨b,e,r⟩:=Sg q g;ac_rfl;exact⟨z,b,e,o,k,l,m,n,p,r _ _,e.isKey I,by rw[e.keys];exact DV i⟩
theorem LL:PE X (.Dict [] [] b) (λd H Q=>∀q,H q=none->Q (.ref q) (upd H q (.ext (g9 q [] [])))):=by
 intro c s d H Q I h;have e:=I.hok.fresh (bH s.heap.objs.size);refine wpAny_Dict_empty ⟨.ref s.heap.objs.size,_,I.laid (a:=s.heap.objs.size) (t':=s.toks) (λ_ _ q=>AC _ q) (bH _) (o:= .ext (g9 s.heap.objs.size [] [])) (g9.ok ⟨?_,_, #[],0,Gc _ rfl,⟨rfl,rfl,rfl⟩,rfl, .nil⟩),rfl,h _ e⟩;have f:mainGlobals<s.heap.objs.size:=(I.mod.glob.keeps I.bk).lt;have g:sysModules<s.heap.objs.size:=Nat.lt_trans (by decide) f
 exact acg.mpr (Ne.symm (cE g))
theorem DS(F:X.A.units+64<cLine):OpR X (compareOp .NotIn) (λx y H Q=>∃c a d b g p,x= .ref c/\y= .ref a/\H c=some (.tup [.int p.1, .int p.2])/\H a=some (.ext (g9 a d g))/\iL H d b/\b.Nodup/\Q (.bl (!decide (p∈b))) H):=by
 intro i s G H x y v u Q I l m h;rfl';obtain⟨c,a,d,b,g,p,rfl,rfl,o,r,t,B,q⟩:=h;ac_rfl;cases l;cases m;rfl';obtain⟨z,C,j,E⟩:=I.WX r t B;ac_rfl
 have:(atKey C [p.1,p.2]).isSome=decide (p∈b):=by
  by_cases e:p∈b
  ·rw[GE e];exact oW.mpr (by rw[j.keys];exact uV.mpr e)
  ·rw[FM e]
   apply rB.mpr;exact λz=>e (uV.mp (by rw[<-j.keys];exact oW.mp z))
 exact PyProof.Rows.wpAny_notIn_heap (knd:=tupleKind (intKind X.prog X.w)) (k:= [p.1,p.2]) (by show X.A.units+1<cLine;omega) (I.vJ o) z E (by rw[this];exact⟨.bl _,H,I.tok _,rfl,q⟩)
def vF:FV->V
 | .int i=> .int i
 | .bl b=> .bl b
theorem NG(h:RelV (vF f) u):M8 f u:=by
 cases f with
 |int i=>exact h
 |bl b=>exact h
variable {o i value:Expr} {td ti tv:TE} {pos pos':Pos}
def Uo(j k l:TE):TS:=λD b H=>l b H λv m=>j b m λx n=>k b n λy d=>∃a c f e g p h,x= .ref a/\y= .ref c/\v=vF h/\d a=some (.ext (g9 a f g))/\d c=some (.tup [.int p.1, .int p.2])/\iL d f e/\e.Nodup/\p∉e/\e.length<=300/\D.nx b (upd d a (.ext (g9 a (f++ [(cR p,c)]) (g++ [h]))))
theorem L5(hu:X.A.units+64<cLine)(L:PE X o td)(M:PE X i ti)(N:PE X value tv)(O:swapsWith value (some (.Subscript o i pos')) pos.line X.env=pure false:=by rfl):PS X (.Assign [.Subscript o i pos'] value pos) (Uo td ti tv):=by
 intro d s f H D I h;refine wpAny_Assign_Subscript (thn (N d s f H _ I h) λr Q ⟨v,R,S,T,U⟩=>thn (L d Q f R _ S U) λu Y ⟨x,Z,I2,rx,q2⟩=>thn (M d Y f Z _ I2 q2) λiv s3 ⟨y,H3,g,ry,a,c,n,ks,t,p,B,e1,e2,e3,C,E,pe,nd,np,hz,q3⟩=>?_) O;subst e1 e2 e3;cases rx;cases ry;obtain⟨z,j,l,hm⟩:=g.WX C pe nd;refine wpAny_setItem_heap (knd:=tupleKind (intKind X.prog X.w)) (k:= [p.1,p.2]) (by show X.A.units+1<cLine;omega) (g.vJ E) hm (λh' F sb=>?_) (small (by rw[l.len];omega))
 have na:atKey j [p.1,p.2]=none:=by
  cases e:atKey j [p.1,p.2] with
  |none=>rfl
  |some q=>exact absurd (uV.mp (by rw[<-l.keys];exact oW.mp (by rw[e];rfl))) np
 rw[storedH_new na] at F;rfl';have x2:oQ H3 (n++ [(cR p,c)]) (ks++ [p]) (t++ [B]) (j++ [([p.1,p.2],c,r)]):=l.snoc E (NG T);obtain⟨G,m,uF,J,zq,jv,xU,_,_⟩:=F;have I':=g.write (h':=h') (t':=s3.toks+(tupleKind (intKind X.prog X.w)).draws [p.1,p.2]) (x:=a) (e:=a) (o:= .ext (g9 a (n++ [(cR p,c)]) (t++ [B]))) (by rw[C];trivial) (.inl rfl) (λb u hb e=>sb.extBut b u hb e) ⟨G,J⟩ (g9.ok ⟨z,G,m,uF,J,zq,jv,by rw[xU];exact Sj x2⟩)
 ac_rfl;exact⟨f,_,I',q3⟩
end
section
variable {Z:DC} {X:Cx} {B:Bs} {md:List Nat} {rn:Nat} {ρ:DN} {σ:St} {H G:Hp} {fp:Nat->List Addr} {a e k o:Expr} {ta te tk tp:bp} {pos apos aP p2:Pos}
def V8(neg:Bool):gz:=λa b P=>∃p c d,a=L4 p/\b= .x (.tS c d)/\P (.bl (if neg=true then !decide (p∈c) else decide (p∈c)))
theorem FL(d:X.A.units+64<cLine):OpR X (compareOp .NotIn) (bY Z (V8 true)):=by
 refine(DS d).imp ?_;rintro x y H Q ⟨G,a,b,P,s,f,g,⟨p,i,j,rfl,rfl,h⟩,q⟩;obtain⟨c,rfl,l⟩:=f.Hc;cases g with
 |x m ok=>
  rfl';obtain⟨r,t,rfl,u⟩:=ok;ac_rfl;exact⟨c,_,t,i,j,p,rfl,rfl,s _ _ l,s _ _ m,u.mono s,r,q _ h _ G H (.refl s) (.bl _)⟩
def RX(i:Nat):cN:=λE b=>E.nx (b.set i (some (.x (.tS [] []))))
theorem Kf(i:Nat)(n:X.N.Nodup)(p:q.getD i 0=98:=by rfl)(r:X.N[i]? =some x:=by rfl)(s:Loc X.env.scope x:=by first|exact Or.inl rfl|exact Or.inr rfl)(t:swapsWith (.Dict [] [] u) (some (.Name x d)) m.line X.env=pure false:=by rfl)
  (v:X.fn x=true\/X.env.scope.names.lookup x=some .local:=by first|exact .inl rfl|exact .inr rfl|assumption):DSt Z X q F (.Assign [.Name x d] (.Dict [] [] u) m) (RX i):=by
 refine(i7 n r s LL t v).imp ?_;intro D I H w;rfl';obtain⟨B,L,E,⟨G,O,S⟩,h,M⟩:=w;ac_rfl;intro c g;have A:G c=none:=S.ex.sub.free g;have x:Ext G H G (upd H c (.ext (g9 c [] []))):=⟨.refl _,S.ex.sub.trans (bf g _),bf g _,λ_ _ z=>z⟩;refine M.nx _ h _ _ ⟨G,_,(S.grow x).vO p (f:= [c]) (.inr (.inr ⟨c,_,rfl,aB,rfl, .inr ⟨rfl,_,rfl,gK,[],rfl, .nil⟩⟩)) (by simp) (λb l=>?_) λb l j _ C=>?_⟩
 ·rw[cF] at l;subst l
  exact⟨S.ex.hh.free g,(by rw[aB];exact λz=>nomatch z),A⟩
 ·rw[cF] at l;subst l
  exact(S.nw j _ C).2.1 g
def Xd:FV->D
 | .int i=> .int i
 | .bl b=> .bl b
theorem Dv.aan(h:Dv Z G v (Xd f)):v=vF f:=by
 cases f with
 |int i=>exact h.ofInt
 |bl b=>exact h.DP
def Sb(f:List Nat)(i:Nat)(j l:bp):cN:=λE b=>l (dH f b) λd=>∃g c h,d=Xd g/\b[i]? =some (some (.x (.tS c h)))/\j (dH f b) λm=>∃p,m=L4 p/\p∉c/\c.length<=300/\E.nx (b.set i (some (.x (.tS (c++ [p]) (h++ [g])))))
theorem Ki(i:Nat)(U:X.A.units+64<cLine)(Y:DE Z X k tk)(o:DE Z X e te)(m:md.getD i 0=98:=by rfl)(hi:X.N[i]? =some x:=by rfl)(hv:lJ X.env.scope x:=by first|exact Or.inl rfl|exact Or.inr (Or.inl rfl) |exact Or.inr (Or.inr rfl))(n:(x==("__debug__":Str))=false:=by decide)(dX:(x==("__classdict__":Str))=false:=by decide)
  (hs:swapsWith e (some (.Subscript (.Name x r) k g)) pos.line X.env=pure false:=by rfl):DSt Z X md rn (.Assign [.Subscript (.Name x r) k g] e pos) (Sb md i tk te):=by
 refine(L5 U (pv i hi hv n dX) Y o hs).imp ?_;intro D σ H aQ;rfl';obtain⟨B,ρ,E,⟨G,fp,S⟩,h,M⟩:=aQ;ac_rfl;refine S.ev false h λd n=>⟨trivial,λv G1 H1 s x1 dv=>?_⟩;rfl';obtain⟨fv,ks,vs,rfl,t,h2⟩:=n;ac_rfl;obtain rfl:=dv.aan;rfl';obtain⟨v0,q,w⟩:=s.at_ i _ t;rw[m] at w;obtain⟨l,φ,rfl,hl,_,nd,es,rfl,pe⟩:=w.xA;ac_rfl;refine⟨_,q,s.ev false h2 λkd SV=>⟨trivial,λu G2 H2 y C du=>?_⟩⟩;rfl';obtain⟨p,rfl,F,hz,hn⟩:=SV;obtain⟨c,rfl,I⟩:=du.Hc;obtain⟨v1,J,L⟩:=y.at_ i _ t;rw[q] at J;ac_rfl;cases Da J;rfl';rw[m] at L;obtain⟨l',φ',e',KW,O,Q,gM,rfl,R⟩:=L.xA;cases e';ac_rfl;refine⟨l,c,gM,ks,vs,p,fv,rfl,rfl,rfl,KW,C.sub _ _ I,R.mono C.sub,Q,F,hz,M.nx _ hn _ _ ⟨G2,fp,y.mut q (b:=l) (by rw[O];simp) ?_⟩⟩
 rw[m,O];refine .inr (.inr ⟨l,_,rfl,aB,rfl, .inr ⟨rfl,_,rfl,?_,_,rfl,R.snoc I⟩⟩);rw[dB];refine⟨Q,by simp,λa ha b T z=>F ?_⟩
 rw[cF] at T;rw[<-T,<-z];exact ha
end
section
variable {pr:Program} {wd:World} {A:Around} {R:Result->Shared->Prop} {Cf:Addr} {fK u9:List Addr} {n:Nat} {Pv:Nat->Value->Prop} {Sv:Nat->Heap->Prop}
def Ez(b:Program)(c:World)(A:Around)(T:Heap->Prop)(a:Nat->Value->Prop)(d:Nat->Nat->Bool):Prop:=
 ∀i j u v (s:Shared) (Q:Value->Shared->Prop) (E:Value->Shared->Prop),T s.heap->a i u->a j v->Q (.bool (d i j)) s->wpAny (model b c) A (richCompare .Lt u v) Q E s
theorem FG(p:Walks pr wd A.in1 Cf fK u9 n Pv Sv)(k:Nat->Nat->Bool)(T:Heap->Prop)(r:Ez pr wd A.in1 T Pv k)(L:Addr)(G:L∉fK)
  (H:∀h l:Heap,T h->(∀b o,b∉u9->b≠L->h.get? b=some o->l.get? b=some o)->T l):
  ∀(d j:Nat)(s:Shared)(a:Value)(c:Nat),n-(j+1)=d->j+1<=n->Sv (j+1) s.heap->T s.heap->Pv (argBest k j) a->
  s.heap.get? L=some {cls:= .type "list",dict:=none,data:= .seq #[a,a] c,slots:= #[]}->
  (∀v l t,Pv (argBest k (n-1)) v->(∀b o,b∉u9->b≠L->s.heap.get? b=some o->l.get? b=some o)->R (.ok (.ret v)) {s with heap:=l,toks:=t})->
  codeAny (model pr wd) A (.builtin "min.loop" ⟨[.ref Cf, .none, .ref L],[]⟩) R s:=by
 have I:L∉u9:=λh=>G (p.sub _ h);have J:(toString "min"++toString ".loop":String)="min.loop":=by decide
 intro d
 induction d with
 |zero=>
  intro j s a c Y Z u M q m fin;have N:j+1=n:=by omega
  refine UV acV ?_;rw[SC SZ _];refine be (acI m rfl ?_);refine be (acJ (p.done s _ _ (N▸u) λO Q i=>?_));refine be ?_;refine acz (i L _ I m) rfl (be (ad7 (ir ?_)));exact fin a _ Q (by rw[<-N];exact q) λb o f g e=>(KB _ _ (Ne.symm g)).trans (i b o f e)
 |succ d S=>
  intro j s a c Y Z u M q m fin;have lt:j+1<n:=by omega
  refine UV acV ?_;rw[SC SZ _];refine be (acI m rfl ?_);refine be (acJ (p.item (j+1) s _ _ lt u λv O Q pv U i=>?_));have w:=i L _ I m;have x:T O:=H _ _ M λb o f _ e=>i b o f e;show wpAny _ A.in1 ((tryCatch (holding [v,v] (richCompare .Lt v a>>=_)) _)>>=_) _ _ _;refine be (acJ (KF (be (r (j+1) (argBest k j) v a _ _ _ x pv q ?_))));refine be (KF (M2 ?_));refine be (ad7 (ir ?_));cases X:k (j+1) (argBest k j) with
  |true=>
   simp only[acs];refine be ?_;refine acz w rfl (be (ad7 ?_));rw[J];refine ir ⟨acf SZ _,S (j+1) _ v _ (by omega) lt (p.frame _ _ _ U λb hb o e=>?_) (H _ _ x λb o _ g e=>?_) ?_ (Pi _ w rfl) λy B C E F=>?_⟩
   ·exact(KB _ _ (λz:L=b=>G (z▸hb))).trans e
   ·exact(KB _ _ (Ne.symm g)).trans e
   ·simp only[argBest,X,acs];exact pv
   ·exact fin y B C E λb o f g e=>F b o f g ((KB _ _ (Ne.symm g)).trans (i b o f e))
  |false=>
   simp only[gX,P3];refine be (ad7 ?_);rw[J];refine ir ⟨acf SZ _,S (j+1) _ a c (by omega) lt U x ?_ w λy B C E F=>?_⟩
   ·simp only[argBest,X,gX,P3];exact q
   ·exact fin y B C E λb o f g e=>F b o f g (i b o f e)
theorem FF(d:Walks pr wd A.in1 Cf fK u9 n Pv Sv)(i:Nat->Nat->Bool)(T:Heap->Prop)(j:Ez pr wd A.in1 T Pv i)(L:Addr)(k:L∉fK)
  (l:∀h a:Heap,T h->(∀b o,b∉u9->b≠L->h.get? b=some o->a.get? b=some o)->T a) (p:0<n) (u:Sv 0 s.heap) (w:T s.heap)
  (q:s.heap.get? L=some {cls:= .type "list",dict:=none,data:= .seq #[] c,slots:= #[]})
  (fin:∀v a t,Pv (argBest i (n-1)) v->(∀b o,b∉u9->b≠L->s.heap.get? b=some o->a.get? b=some o)->R (.ok (.ret v)) {s with heap:=a,toks:=t}):
  codeAny (model pr wd) A (.builtin "min.loop" ⟨[.ref Cf, .none, .ref L],[]⟩) R s:=by
 have x:L∉u9:=λh=>k (d.sub _ h);have y:(toString "min"++toString ".loop":String)="min.loop":=by decide
 refine UV acV ?_;rw[SC SZ _];refine be (acI q rfl ?_);refine be (acJ (d.item 0 s _ _ p u λv B N pv C m=>?_));have r:=m L _ x q;have E:T B:=l _ _ w λb o f _ e=>m b o f e;show wpAny _ A.in1 (updateSeq L (λ_=> #[v,v])>>=_) _ _ _;refine be ?_;refine acz r rfl ?_;rw[y];refine ir ⟨acf SZ _,FG d i T j L k l _ 0 _ v _ rfl p (d.frame _ _ _ C λb F o e=>?_) (l _ _ E λb o _ g e=>?_) pv (Pi _ r rfl) λG H I J M=>?_⟩
 ·exact(KB _ _ (λz:L=b=>k (z▸F))).trans e
 ·exact(KB _ _ (Ne.symm g)).trans e
 ·exact fin G H I J λb o f g e=>M b o f g ((KB _ _ (Ne.symm g)).trans (m b o f e))
end
section
variable {pr:Program} {wd:World} {A:Around} {E:Value->Shared->Prop} {s:Shared}
theorem IM(T:Heap->Prop)
  (h:wpAny (model pr wd) A.in1 (pyIter x) (λq a=>∃j d f n g k i,q= .ref j/\Walks pr wd A.in1 j d f n g k/\k 0 a.heap/\(∀b∈d,b<a.heap.objs.size)/\0<n/\Ez pr wd A.in1 T g i/\T a.heap/\
   (∀h c:Heap,T h->(∀b o,b∉f->b≠a.heap.objs.size->h.get? b=some o->c.get? b=some o)->T c)/\
   ∀v c l,g (argBest i (n-1)) v->(∀b o,b∉f->a.heap.get? b=some o->c.get? b=some o)->Q v {a with heap:=c,toks:=l}) E s):
  wpAny (model pr wd) A (call (.builtin "min") [x]) Q E s:=by
 have u:(toString "min"++toString ".loop":String)="min.loop":=by decide
 refine call_function_tree PySem.F.kind_min PySem.F.plain_min PySem.F.entry_min (PySem.F.args_min1 _) ?_;show wpAny _ A.in1 (Builtin.Builtins.bindParams "min" ["key","default"] 0 ⟨[],[]⟩>>=_) _ _ s;refine be (acy (rfl:Builtin.Builtins.bindParams "min" ["key","default"] 0 ⟨[],[]⟩=pure [none,none]) ?_);refine be (ir ?_);refine be (wpAny_mono h (λq a w=>?_) λ_ _ e=>e);rfl';obtain⟨j,d,f,n,g,k,i,rfl,r,z,B,C,m,G,t,H⟩:=w;ac_rfl;refine be (KM ?_);have I:a.heap.objs.size∉d:=λJ=>lI _ (B _ J);rw[u];refine ir ⟨acf SZ _,FF r i T m a.heap.objs.size I t C (r.frame _ _ _ z λb _ o e=>AC _ e) (t _ _ G λb o _ _ e=>AC _ e) (Gc _ rfl) λv c l L M=>?_⟩;exact H v c l L λb o p e=>M b o p (cE (Fk e)) (AC _ e)
end
theorem vo(a:Nat->Nat->Bool):∀k,argBest a k<=k
 |0=>bH _
 |k+1=>by
  unfold argBest
  split
  ·exact bH _
  ·exact Nat.le_succ_of_le (vo a k)
theorem sR{f:Nat->List Int}:∀k i,i<=k->HT.lexLt (f i) (f (argBest (λi j=>HT.lexLt (f i) (f j)) k))=false
 |0,i,h=>by
  obtain rfl:i=0:=by omega
  exact tM _
 |k+1,i,h=>by
  have a:=sR (f:=f) k;unfold argBest
  by_cases c:HT.lexLt (f (k+1)) (f (argBest (λi j=>HT.lexLt (f i) (f j)) k))=true
  ·rw[tz c]
   by_cases z:i=k+1
   ·subst z;exact tM _
   ·have:=a i (by omega)
    cases e:HT.lexLt (f i) (f (k+1)) with
    |false=>rfl
    |true=>rw[wU _ _ _ e c] at this;cases this
  ·rw[mo c]
   by_cases z:i=k+1
   ·subst z;exact rB.mpr c
   ·exact a i (by omega)
section
variable {X:Cx} {Z:DC}
theorem EI(R:X.calm=true)(hu:X.A.units+64<cLine):cK X (.builtin "min") (λG H Q=>∃(p:Addr)(L:List (Addr×List Int)),G= [.ref p]/\H p=some (.lst (L.map λe=>V.ref e.1))/\(∀e∈L,H e.1=some (.tup (e.2.map V.int)))/\L≠ []/\
  ∀e∈L,(∀f∈L,HT.lexLt f.2 e.2=false)->Q (.ref e.1) H):=by
 intro J s σ H G us Q I S h;rfl';obtain⟨p,L,rfl,U,M,Y,q⟩:=h;obtain⟨u,rfl,Z⟩:=S.one;subst Z;obtain⟨a,r,m,hz⟩:=I.list (cM.of U);have hl:=r.length;rw[aD] at hl;have XW:0<L.length:=vY.mpr Y;ac_rfl
 have y:∀i:Nat,(d:i<L.length)->a[i]? =some (.ref L[i].1):=λi d=>by
  obtain⟨w,hw,u4⟩:=r.get (i:=i) (x:= .ref L[i].1) (by rw[bQ,bJ d];rfl)
  subst u4;exact hw
 refine IM (λh=>∀b o,s.heap.get? b=some o->h.get? b=some o) (ady m.isList ?_)
 have rU:p≠s.heap.objs.size:=by
  obtain⟨o,z,_⟩:=m.isList;exact cE (Fk z)
 let f:Nat->List Int:=λi=>(L.getD i (0,[])).2
 refine⟨_,_,_,a.toArray.size,_,_,λi j=>HT.lexLt (f i) (f j),rfl,Walks.list (show X.A.in1.handled=none from I.ok.hd R) s.heap.objs.size p rU a.toArray,⟨⟨_,Gc _ rfl,rfl,rfl⟩,m.isList.push _⟩,?_,?_,?_,λb o e=>AC _ e,?_,?_⟩
 ·intro b B
  have:b=s.heap.objs.size\/b=p:=by simpa using B
  obtain⟨o,z,_⟩:=m.isList;have lt:=Fk z;have e:(s.heap.push {cls:= .type "list_iterator",data:= .fields #[.ref p, .int 0 0]}).objs.size=s.heap.objs.size+1:=by simp[Heap.push]
  rcases this with rfl|rfl
  ·exact Cb (zb _) e.symm
  ·exact Cb (za lt) e.symm
 ·rw[cS];omega
 ·intro i j u v s' Q' E' n Fj kf hq
  have C:a[i]? =some u:=by simpa using Fj
  have g:a[j]? =some v:=by simpa using kf
  have d:i<L.length:=by have:=(di.mp C).1;omega
  have E:j<L.length:=by have:=(di.mp g).1;omega
  rw[y i d] at C;rw[y j E] at g;obtain rfl:=Da C;obtain rfl:=Da g;rfl';obtain⟨t1,r1,p1,_⟩:=I.tuple (eW.of (M L[i] (g5 d)));obtain⟨t2,r2,p2,_⟩:=I.tuple (eW.of (M L[j] (g5 E)));obtain⟨o1,g1,c1⟩:=p1;obtain⟨o2,g2,c2⟩:=p2;have i1:IntsAre t1.toArray.toList L[i].2:=intsAre_of r1;have i2:IntsAre t2.toArray.toList L[j].2:=intsAre_of r2;ac_rfl
  have l:∀k,(c:k<L.length)->f k=L[k].2:=λk c=>by
   show(L.getD k (0,[])).2=_;rw[bB,bJ c];rfl
  have Bo:Q' (.bool (HT.lexLt L[i].2 L[j].2)) s':=by rw[<-l i d,<-l j E];exact hq
  exact HT.Dw (A:=X.A.in1) ⟨o1,n _ _ g1,c1⟩ ⟨o2,n _ _ g2,c2⟩ i1 i2 (by simp only[adN];omega) Bo
 ·intro h N n c b o e
  have lt:=Fk e;refine c b o ?_ ?_ (n b o e)
  ·intro hm
   have:b=s.heap.objs.size:=by simpa using hm
   exact cE lt this
  ·simp only[Heap.push,Array.size_push]
   exact cE (za lt)
 ·intro v N tk O kk
  have kept:∀b o,s.heap.get? b=some o->N.get? b=some o:=λb o e=>kk b o (by simp;exact cE (Fk e)) (AC _ e)
  have c:=vo (λi j=>HT.lexLt (f i) (f j)) (a.toArray.size-1);generalize B:argBest (λi j=>HT.lexLt (f i) (f j)) (a.toArray.size-1)=k at O c;rw[cS] at c;have F:k<L.length:=by omega
  have g:a[k]? =some v:=by simpa using O
  rw[y k F] at g;obtain rfl:=Da g;refine⟨.ref L[k].1,H,I.kept kept,rfl,q L[k] (g5 F) λe he=>?_⟩;obtain⟨i,d,rfl⟩:=y9.mp he
  have:=sR (f:=f) (a.toArray.size-1) i (by rw[cS];omega)
  rw[B] at this
  have l:∀k,(c:k<L.length)->f k=L[k].2:=λk c=>by
   show(L.getD k (0,[])).2=_;rw[bB,bJ c];rfl
  rw[l i d,l k F] at this;exact this
def tupI(l:List Int):D:= .tup (l.map D.int)
def Ra:cg:=λb P=>∃a:List (List Int),b= [.lst (a.map tupI)]/\a≠ []/\∀m∈a,(∀n∈a,HT.lexLt n m=false)->P (tupI m)
theorem zU:∀{b:List V}{d:List (List Int)},DvAll Z G b (d.map tupI)->∃L:List (Addr×List Int),b=L.map (λe=>V.ref e.1)/\L.map (·.2)=d/\∀e∈L,G e.1=some (.tup (e.2.map V.int))
 |b,[],h=>by rw[h.Lx];exact⟨[],rfl,rfl,λp c=>by cases c⟩
 |b,n::d,h=>by
  rfl';obtain⟨v,l,rfl,a,as⟩:=h.Bz;obtain⟨L,rfl,i,j⟩:=zU as;obtain⟨p,m,rfl,c,e⟩:=a.sh;rw[pq e] at c;ac_rfl;refine⟨(p,n)::L,rfl,by rw[<-i];rfl,λq f=>?_⟩
  rcases br.mp f with rfl|f
  ·exact c
  ·exact j q f
theorem JS(f:X.calm=true)(g:X.A.units+64<cLine):cK X (.builtin "min") (iU Z Ra):=by
 refine(EI f g).imp ?_;intro t H Q i;rfl';obtain⟨G,u,P,s,dv,⟨w,rfl,k,l⟩,q⟩:=i;ac_rfl;rfl';obtain⟨v,rfl,a⟩:=dv.ofOne;obtain⟨p,B,rfl,h,e⟩:=a.jA;obtain⟨L,rfl,rfl,d⟩:=zU e;ac_rfl;refine⟨p,L,rfl,s _ _ h,λx b=>s _ _ (d x b),λz=>k (by rw[z];rfl),λx b m=>?_⟩
 exact q _ (l x.2 (List.mem_map_of_mem b) λn o=>by
  obtain⟨y,r,rfl⟩:=aZ.mp o;exact m y r) _ G H (.refl s) (.tup (d x b) (.ints _))
end
end L2
namespace Wy
section
variable {α β:Type}
end
theorem getD_mem{l:List Nat}{i:Nat}(h:i<l.length):l.getD i 0∈l:=by
 rw[bB,bJ h];exact g5 h
end Wy
namespace L2
open PySem PySem.Spec PyProof.Rows
section
variable {Z:DC} {X:Cx} {B:Bs} {md:List Nat} {rn:Nat} {ρ:DN} {σ:St} {H G:Hp} {fp:Nat->List Addr} {k:Expr} {tk:bp} {pos:Pos}
def RZ(c:List Nat)(i j:Nat)(e:bp):cN:=λE a=>∃b,a[j]? =some (some (.lst b))/\e (zE c false a) λf=>∃(n:Int)(d:D),f= .int n/\fJ b n=some d/\E.nx (a.set i (some d))
theorem Kg(i j:Nat)(s:X.N.Nodup)(t:DE Z X k w)(z:b.getD i 0=0:=by rfl)(m:b.getD j 0=1:=by rfl)(A:X.N[i]? =some x:=by rfl)(C:Loc X.env.scope x:=by first|exact Or.inl rfl|exact Or.inr rfl)
  (F:X.N[j]? =some y:=by rfl) (I:lJ X.env.scope y:=by first|exact Or.inl rfl|exact Or.inr (Or.inl rfl) |exact Or.inr (Or.inr rfl)) (J:(y==("__debug__":Str))=false:=by decide) (L:(y==("__classdict__":Str))=false:=by decide)
  (O:xk k:=by exact λ_ _=>rfl) (Q:swapsWith (.Subscript (.Name y py) k g) (some (.Name x f)) c.line X.env=pure false:=by rfl)
  (R:X.fn x=true\/X.env.scope.names.lookup x=some .local:=by first|exact .inl rfl|exact .inr rfl|assumption):DSt Z X b rn (.Assign [.Name x f] (.Subscript (.Name y py) k g) c) (RZ b i j w):=by
 refine(i7 s A C (LN Dr (pv j F I J L) t O) Q R).imp ?_;intro D σ H T;rfl';obtain⟨B,ρ,E,⟨G,fp,S⟩,⟨ds,o,h⟩,M⟩:=T;ac_rfl;rfl';obtain⟨l,xs,lN,U,p,e3,bC,put⟩:=S.one m o;cases U;ac_rfl;refine⟨_,p,S.ev false h λkd Y=>⟨trivial,λv G' H' q x dv=>?_⟩⟩;rfl';obtain⟨n,d,rfl,ha,hn⟩:=Y;cases dv.ofInt;obtain⟨l',sN,ds2,Sh,r,Be,W3,_⟩:=q.one m o;cases Sh;ac_rfl;rw[p] at r;rfl';cases r;obtain⟨u,hu,Bd⟩:=A3 W3 ha;ac_rfl;exact⟨l,sN,n,u,rfl,rfl,cM.of Be,hu,M.nx _ hn _ _ ⟨G',_,q.qe z Bd⟩⟩
end
section
variable {Z:DC} {X:Cx} {B:Bs} {md:List Nat} {rn:Nat} {ρ:DN} {σ:St} {H G:Hp} {fp:Nat->List Addr} {k c e k1 k2 et:Expr} {tk te tt Pk MX:bp} {tc:dQ} {pos:Pos}
variable {elt tg iter:Expr} {ifs:List Expr} {scope:Scope} {NC:List Str} {src:List (Option Nat)} {MZ:dQ} {wi:jt} {g:fB}
theorem FK(s:md.getD i 0=1)(S:SIx Z B md ρ σ H G fp)(h:t ρ λd=>d.all dF=true/\E.nx (ρ.set i (some (.lst d))))(M:Meets Z X B md rn E n):uL Z 1 t σ H λv p=>n.nx (σ.set i (some v)) p:=by
 refine⟨H,ρ,_, .refl _,S.zW,h,?_⟩;rintro d ⟨u,w⟩ v f J p x o L q;have y:=S.grow (Ext.all S.ex.sub x);obtain⟨a,z,N,O,rfl,A,C,r,F⟩:=o.lst;cases A;obtain⟨dv,rfl⟩:=F.flat;have l:H a=none:=(q a (by rw[r];simp)).1
 refine M.nx _ w _ _ ⟨G,_,y.vO (f:= [a]) s (.inl ⟨a,z,d,[],rfl,rfl,C,rfl,(dv.flat u).own⟩) (by simp) (λb m=>?_) λb m j _ I=>?_⟩
 ·have:b=a:=by simpa using m
  subst this;exact⟨S.ex.hh.free l,(q b (by rw[r];simp)).2.1,S.ex.sub.free l⟩
 ·have:b=a:=by simpa using m
  subst this;exact(S.nw j b I).2.1 l
theorem xK(i:Nat)(f:X.calm=true)(j:X.N.Nodup)(c:b6 X scope)(l:dJ scope X.N src NC)(m:DI Z X tg iter wi)
  (n:∀a s H,DG Z (cO X scope NC a s H) tg g) (o:∀a s H,zf Z (cO X scope NC a s H) ifs MZ) (p:∀a s H,DE Z (cO X scope NC a s H) elt te)
  (q:swapsWith (.ListComp elt [⟨tg,iter,ifs,0⟩] scope pos) (some (.Name x b)) d.line X.env=pure true:=by rfl) (r:md.getD i 0=1:=by rfl) (t:X.N[i]? =some x:=by rfl) (u:Loc X.env.scope x:=by first|exact Or.inl rfl|exact Or.inr rfl)
  (v:X.fn x=true\/X.env.scope.names.lookup x=some .local:=by first|exact .inl rfl|exact .inr rfl|assumption)
  (w:∀x,foldedSetIterable iter X.env x=pure x:=by intro _;rfl):DSt Z X md rn (.Assign [.Name x b] (.ListComp elt [⟨tg,iter,ifs,0⟩] scope pos) d) (JY i (Ko wi g MZ te src)):=by
 refine(qG f j t u c l m n o p q v w).imp ?_;intro C y H z;rfl';obtain⟨B,I,E,⟨G,J,S⟩,h,M⟩:=z;ac_rfl;exact tO y H _ (FK r S h M)
end
section
variable {Z:DC} {X:Cx} {md:List Nat} {rn:Nat} {e e2 k:Expr} {pos p2 apos aP:Pos} {tp:bp} {t u:g6}
def Wl:gz:=dI Gy λi j=>i*2^j.toNat
theorem Ol:OpR X (binaryOp .LShift) (bY Z Wl):=wV Oy
end
section
variable {Z:DC} {X:Cx} {B:Bs} {md:List Nat} {rn:Nat} {ρ:DN} {σ:St} {H G:Hp} {fp:Nat->List Addr} {e k:Expr} {pos p2 apos aP:Pos} {tp te:bp} {t:g6}
def W8(t:g6):g6:=λb P=>t b λa=>P [.lst a]
theorem Nq(l:DF Z X 1 e t)(m:starEach [e] X.env=(false,eval e X.env)::starEach [] X.env:=by rfl):DF Z X 2 (.List [e] pos) (W8 t):=by
 refine(tT (dr l eQ m)).imp ?_;intro A H Q n;rfl';obtain⟨G,r,P,s,u,h,q⟩:=n;ac_rfl;refine⟨G,r,_,s,u,h,λE v w j x F f y g c=>⟨by show 1<=sizeLine;decide,λp d=>?_⟩⟩
 have i:∀b∈j,b≠p:=λb a z=>(c b a).2.1 (by rw[z];exact d)
 refine q _ v (.ref p) (p::(j++ [])) x _ (f.side d) (.inl ⟨p,[w],_,_,rfl,rfl,aB,rfl, .cons (y.keep (.refl _) λb a=>aO (i b a)) .nil⟩) ?_ ?_
 ·rw[m8,b7]
  exact⟨λz=>i p z rfl,g⟩
 ·intro b a
  rw[m8] at a
  rcases br.mp a with rfl|a
  ·exact⟨f.hh.free d,(by rw[aB];exact λz=>nomatch z),f.sub.free d⟩
  ·exact⟨(c b a).1,(by rw[aO (i b a)];exact(c b a).2.1),(c b a).2.2⟩
theorem J7(n:Nat):DF Z X (n+1) (.List [] pos) (Qw sX):=by
 refine(tT eQ).imp ?_;rintro f H Q ⟨G,g,P,s,h,⟨_,c⟩,q⟩;refine⟨by show 0<=sizeLine;decide,λp a=>?_⟩
 refine q _ c (.ref p) [p] G _ ((Ext.refl s).side a) (.inl ⟨p,[],[],[],rfl,rfl,aB,rfl, .nil⟩) (by simp) λb d=>?_
 have:b=p:=by simpa using d
 subst this;exact⟨a,(by rw[aB];exact λz=>nomatch z),s.free a⟩
theorem SIx.Za{b:Addr}{f':List Addr}(S:SIx Z B md ρ σ H G fp)(p:σ[i]? =some (some v))(n:b∈fp i)(o:Own Z G (upd H b c) (md.getD i 0) v m f')(nd:f'.Nodup)(nw:∀x∈f',B.H₀ x=none/\H x≠none/\G x=none)(ap:∀x∈f',∀j,j≠i->x∉fp j):
  SIx Z B md (ρ.set i (some m)) σ (upd H b c) G (λj=>if j=i then f' else fp j) where
 ex:=by
  obtain⟨r,C,s⟩:=S.nw i b n;exact⟨S.ex.gg,λx u e=>by rw[aO (bu e s)];exact S.ex.sub _ _ e,λx u e=>by rw[aO (bu e r)];exact S.ex.hh _ _ e,S.ex.off⟩
 fl:=S.fl
 len:=by rw[f9];exact S.len
 at_:=λj w h=>by
  by_cases z:i=j
  ·subst z
   by_cases g:i<ρ.length
   ·rw[lD g] at h
    cases Da h;exact⟨v,p,by rw[tz rfl];exact o⟩
   ·rw[AO (lG g),fj (lG g)] at h;cases h
  ·rw[lE z] at h
   obtain⟨u,y,A⟩:=S.at_ j w h;exact⟨u,y,by rw[mo (Ne.symm z)];exact A.keep (.refl _) λx a=>aO λq=>S.ap i j b z n (by rw[<-q];exact a)⟩
 nd:=λj=>by split;exact nd;exact S.nd j
 ap:=λj k b ne f d=>by
  split at f
  ·next z=>
   rw[mo (λw=>ne (z.trans w.symm))] at d;exact ap b f k (λw=>ne (z.trans w.symm)) d
  ·next z=>
   split at d
   ·exact ap b d j z f
   ·exact S.ap j k b ne f d
 nw:=λj x a=>by
  have l:B.H₀ x=none/\H x≠none/\G x=none:=by
   split at a
   ·exact nw x a
   ·exact S.nw j x a
  refine⟨l.1,?_,l.2.2⟩
  by_cases z:x=b
  ·rw[z,aB];exact λq=>nomatch q
  ·rw[aO z];exact l.2.1
def Ni(c:List Nat)(i:Nat)(t:g6):cN:=λE a=>∃b,a[i]? =some (some (.lst b))/\t (dH c a) λl=>b.length<sizeLine/\E.nx (a.set i (some (.lst (b++ [.lst l]))))
theorem HW(i:Nat)(he:DF Z X 1 e t)(O:md.getD i 0=2:=by rfl)(hi:X.N[i]? =some x:=by rfl)(hv:lJ X.env.scope x:=by first|exact Or.inl rfl|exact Or.inr (Or.inl rfl) |exact Or.inr (Or.inr rfl))(hd:(x==("__debug__":Str))=false:=by decide)(dX:(x==("__classdict__":Str))=false:=by decide)
  (cQ:attributeBase (.Name x n) "append" X.env (eval (.Name x n) X.env)=eval (.Name x n) X.env:=by rfl)
  (gG:((backTo aP (starEach [e] X.env)).all (λx=>!x.1)&&(backToKw aP (keywordEach [] X.env)).all (λx=>x.1.isSome)&&decide (([e]:List Expr).length+([]:List Keyword).length+(if ([]:List Keyword).isEmpty then 0 else 1)<30))=true:=by rfl)
  (ck:(apos.endLine==aP.line)=true:=by rfl) (Q:starEach [e] X.env=(false,eval e X.env)::starEach [] X.env:=by rfl) (cU:(backTo aP (starEach [] X.env)).any (·.1)=false:=by rfl)
  (jx:swapsWith (.Call (.Attribute (.Name x n) "append" apos) [e] [] aP) none pos.line X.env=pure false:=by rfl):
  DSt Z X md rn (.Expr (.Call (.Attribute (.Name x n) "append" apos) [e] [] aP) pos) (Ni md i t):=by
 refine(iz (uW Os acG acH kj (pv i hi hv hd dX) (dr he eQ Q) cQ gG ck Q cU) jx).imp ?_;intro Dn σ H aQ;rfl';obtain⟨B,ρ,E,⟨G,fp,S⟩,⟨Nw,h1,h⟩,M⟩:=aQ;ac_rfl;rfl';obtain⟨v0,R,o⟩:=S.at_ i _ h1;rw[O] at o;obtain⟨T,A,WZ,w,rfl,e0,C,m,U⟩:=o.lst;cases e0;ac_rfl;refine⟨_,R,ty_list C,G,_,_,S.ex.sub,S.CV,h,?_⟩;rintro l ⟨hz,hn⟩ v f G' F x ow nd p;have I:=S.grow x;have J:=x.hh _ _ C
 have Tj:∀b∈w,F b=H b:=λb c=>by
  cases z:H b with
  |none=>exact absurd z (S.nw i b (by rw[m];exact bV _ c)).2.1
  |some o=>exact x.hh _ _ z
 have Y:=S.nd i;rw[m] at Y;obtain⟨k,L⟩:=b7.mp Y
 have fT:T∉f:=λz=>by
  have:=(p T z).1
  rw[C] at this;cases this
 have ff:∀b∈w,b∉f:=λb c z=>(S.nw i b (by rw[m];exact bV _ c)).2.1 (p b z).1
 have s:∀b,b≠T->upd F T (.lst (A++ [v])) b=F b:=λb c=>aO c;refine⟨T,A,v,rfl,rfl,J,by rw[U.length];exact hz,M.nx _ hn _ _ ⟨G',_,I.Za (b:=T) (f':=T::(w++f)) R (by rw[m];exact bE ..) ?_ ?_ ?_ ?_⟩⟩
 ·rw[O]
  refine .inl ⟨T,A++ [v],_,w++f,rfl,rfl,aB,rfl,fc.snoc (U.imp λv d g c r=>r.keep x.gg λb q=>?_) (ow.keep (.refl _) λb c=>s b λz=>fT (by rw[<-z];exact c))⟩
  rw[s b λz=>k (by rw[<-z];exact c b q)]
  exact Tj b (c b q)
 ·rw[b7,dB]
  exact⟨λz=>(bR.mp z).elim k fT,L,nd,λa ha b c z=>ff a ha (by rw[z];exact c)⟩
 ·intro b c
  rcases br.mp c with rfl|c
  ·exact I.nw i b (by rw[m];exact bE ..)
  ·rcases bR.mp c with c|c
   ·exact I.nw i b (by rw[m];exact bV _ c)
   ·exact⟨S.ex.hh.free (p b c).1,(p b c).2⟩
 ·intro b c j hj z
  have u:b∈fp i\/b∈f:=by
   rw[m]
   rcases br.mp c with rfl|c
   ·exact .inl (bE ..)
   ·exact(bR.mp c).imp (bV _) id
  rcases u with u|u
  ·exact S.ap j i b hj z u
  ·exact(S.nw j b z).2.1 (p b u).1
theorem Aw{H:Hp}:∀{d:List V}{L:List (List Nat)}{b:List Addr},fc (Own Z G H 1) d (L.map ay) b->∃A:List (Addr×List Nat),d=A.map (λe=>V.ref e.1)/\A.map (·.2)=L/\Q4 H A/\b=A.map (·.1)
 |_,[],_, .nil=>⟨[],rfl,rfl,(λp g=>by cases g),rfl⟩
 |_,r::L,_, .cons a as=>by
  rfl';obtain⟨A,i,j,l,m⟩:=Aw as;obtain⟨p,n,o,b,rfl,e,f,s,u⟩:=a.one;obtain⟨dv,rfl⟩:=u.flat;have e:(r.map aq)=o:=by cases e;rfl
  subst e;ac_rfl
  have v:n=(my r).map V.int:=by
   have e:r.map aq=(my r).map D.int:=by unfold my;rw[bU];rfl
   rw[e] at dv;exact pq dv
  rw[v] at f;refine⟨(p,r)::A,by rw[i];rfl,by rw[<-j];rfl,λq c=>?_,by rw[s,m];rfl⟩
  rcases br.mp c with rfl|c
  ·exact f
  ·exact l q c
theorem AF{H:Hp}:∀{A:List (Addr×List Nat)},Q4 H A->fc (Own Z G H 1) (A.map λe=>V.ref e.1) ((A.map (·.2)).map ay) (A.map (·.1))
 | [],_=> .nil
 |x::A,h=>by
  have e:(x.2.map aq)=(my x.2).map D.int:=by unfold my;rw[bU];rfl
  refine fc.cons (f:= [x.1]) (.inl ⟨x.1,_,_,[],rfl,rfl,h x (bE ..),rfl,?_⟩) (AF λp a=>h p (bV _ a));rw[e];exact(DvAll.ints _).own
end
section
variable {X:Cx}
theorem Ob(L:List (Addr×List Nat)):KS.Ord λi j=>HT.lexLt (my (L.getD i (0,[])).2) (my (L.getD j (0,[])).2) where
 irr:=λi=>tM _
 tr:=λi j k h a=>wU _ _ _ h a
 neg:=λi j k h=>Li _ _ _ h
theorem wa(hu:X.A.units+64<cLine):cK X (.builtin "sorted") (λxs H Q=>∃(p:Addr)(L:List (Addr×List Nat)),xs= [.ref p]/\cM X.K H p (L.map λe=>V.ref e.1)/\Q4 H L/\L.length<64/\
  ∀(q:Addr)(M:List (Addr×List Nat)),H q=none->M.Perm L->(M.map (·.2)).Pairwise mM->Q (.ref q) (upd H q (.lst (M.map λe=>V.ref e.1)))):=by
 intro pins s σ H xs us Q I rv h;rfl';obtain⟨p,L,rfl,J,x,hz,q⟩:=h;obtain⟨u,rfl,ru⟩:=rv.one;subst ru;obtain⟨a,r,pl,_⟩:=I.list J;have hl:=r.length;rw[aD] at hl;have ck:64<=sizeLine:=by decide
 ac_rfl
 have ei:a=L.map λe=>Value.ref e.1:=by
  have:=sF (as:=L.map (·.1)) (us:=a) (by rw[bU];exact r)
  rw[this,bU];rfl
 by_cases y:L.length<2
 ·refine KS.qZ pl.isList (by omega) ?_
  obtain⟨e,B⟩:=sortedAll_at s.heap a a.toArray;have fr:H (s.heap.objs.size+1)=none:=I.hok.fresh (acR _);refine⟨.ref (s.heap.objs.size+1),_,I.laid (t':=s.toks) (λb o t=>sortedAll_old t) (acR _) (o:= .lst (L.map λe=>V.ref e.1)) ⟨by rw[aD];omega,a,e,r,B⟩,rfl,q _ L fr (.refl _) ?_⟩
  match L,y with
  | [],_=>exact .nil
  | [_],_=>exact Ex _ _
 ·obtain⟨m,F⟩:=I.fr
  have N:=Aq (g:=X.base) (h:=s.heap) (L:=X.env.locals);have nL:∀b u,H b=some u->b≠X.env.locals:=λb u e z=>by rw[z,I.free] at e;cases e
  refine PySem.W.kas_sorted (T:= .type "list") F N pl.isList (by omega) (by omega) (λh1 F1 N1 v hv=>?_) (by decide) λD e1 h' F' O hD=>?_
  ·rw[ei] at hv
   rfl';obtain⟨e,B,rfl⟩:=aZ.mp hv;obtain⟨Yn,r2,R,_⟩:=I.list (cM.of (x e B));obtain⟨o,E,S,_⟩:=R.isList;ac_rfl
   have kJ:h1.get? e.1=some o:=by
    cases d:X.base.get? e.1 with
    |some u=>
     have:=I.bk e.1 u d
     rw[E] at this;cases this;exact F1.keep _ _ d
    |none=>exact(N1 (e.1,o) (fA (nL _ _ (x e B)) d E)).1
   rw[<-S];exact(PySem.W.Looks.ld kJ).andThen .now
  have kept:∀b o,b≠X.env.locals->s.heap.get? b=some o->h'.get? b=some o:=λb o t e=>by
   cases d:X.base.get? b with
   |some u=>
    have:=I.bk b u d
    rw[e] at this;cases this;exact F'.keep b _ d
   |none=>exact(O (b,o) (bV _ (fA t d e))).1
  have U:∀i,i<L.length->∃f:Array Value,a.getD i Value.none= .ref (L.getD i (0,[])).1/\h'.IsList (L.getD i (0,[])).1 f/\IntsAre f.toList (my (L.getD i (0,[])).2):=λi l=>by
   have hm:L.getD i (0,[])∈L:=by
    rw[bB,bJ l];exact g5 l
   rfl';obtain⟨Yn,r2,R,_⟩:=I.list (cM.of (x _ hm));obtain⟨o,E,S,n,hd⟩:=R.isList;ac_rfl;refine⟨Yn.toArray,?_,⟨o,kept _ _ (nL _ _ (x _ hm)) E,S,n,hd⟩,by simpa using intsAre_of r2⟩
   rw[ei,bB,bQ,bB,bJ l];rfl
  have hn:a.length=L.length:=by omega
  rw[hn];rfl';obtain⟨w,Sk,pp,ps⟩:=KS.D9 (Ob L) (n:=L.length) (by omega)
  ac_rfl;refine KS.Gr (lt:=λi j=>HT.lexLt (my (L.getD i (0,[])).2) (my (L.getD j (0,[])).2)) (n:=L.length) (λi j C l hj hC=>?_) _ (KS.AJ (by omega)) ?_
  ·obtain⟨i1,g1,l1,n1⟩:=U i l
   obtain⟨i2,g2,l2,n2⟩:=U j hj;unfold PySem.W.kas_ask;rw[g1,g2,keyLt'_oneType];exact DR l1 l2 n1 n2 (by rw[adN,adN];omega) hC
  ·show PySem.W.KasFin _ _ _ _ _ _ _ _
   rw[Sk];refine PySem.W.KasFin.intro F' O (.head λp J=>cE (hD p J)) λy c F2 N2=>?_
   have Fs:∀b o,b≠X.env.locals->s.heap.get? b=some o->y.get? b=some o:=λb o t e=>by
    cases d:X.base.get? b with
    |some u=>
     have:=I.bk b u d
     rw[e] at this;cases this;exact F2.keep b _ d
    |none=>exact(N2 (b,o) (bV _ (fA t d e))).1
   obtain⟨_,Kz,Sw⟩:=O (D,seqObj "list" #[] e1) bE
   have KC:s.heap.get? D=none:=by
    cases Y:s.heap.get? D with
    |none=>rfl
    |some o=>exact absurd (hD (D,o) (fA Kz Sw Y)) (lI _)
   have Ky:H D=none:=by
    cases Y:H D with
    |none=>rfl
    |some o=>exact absurd Kz (λ_=>by
      obtain⟨o',gH⟩:=Ha (I.hok D o Y);rw[KC] at gH;cases gH)
   have Tw:∀Z,s.heap.Ns X.env.locals Z->y.Ns X.env.locals Z:=λZ rT=>by
    rw[rT.eq_nsMap,<-F.ns.eq_nsMap];exact F2.ns
   have KD:(w.toList.map λi=>L.getD i (0,[])).Perm L:=xR pp;have KA:=(N2 (D,_) bE).1;refine⟨.ref D,_,I.Ld (t':=s.toks) Fs Tw KC Ky (o:= .lst ((w.toList.map λi=>L.getD i (0,[])).map λe=>V.ref e.1)) ⟨by rw[aD,KD.length_eq];omega,(w.toList.map λi=>a.getD i Value.none),c,?_,KA⟩,rfl,q D _ Ky KD ?_⟩
   ·have e:(w.toList.map λi=>a.getD i Value.none)=((w.toList.map λi=>L.getD i (0,[])).map (·.1)).map Value.ref:=by
     rw[bU,bU];refine rz λi l=>?_;obtain⟨_,g,_,_⟩:=U i (bT.mp (pp.mem_iff.mp l));exact g
    rw[e,show(λe:Addr×List Nat=>V.ref e.1)=V.ref∘(·.1) from rfl,<-bU];exact sx _
   ·rw[bU,gY]
    exact ps.imp λhle=>hle
end
section
variable {Z:DC} {X:Cx} {B:Bs} {md:List Nat} {rn:Nat} {ρ:DN} {σ:St} {H G:Hp} {fp:Nat->List Addr} {e k:Expr} {pos p2 apos aP:Pos} {tp te:bp} {t:g6}
def HQ(i:Nat):cN:=λE a=>∃L:List (List Nat),a[i]? =some (some (.lst (L.map ay)))/\L.length<64/\∀M:List (List Nat),M.Perm L->M.Pairwise mM->E.rt (.lst (M.map ay))
theorem CT(i:Nat)(w:X.A.units+64<cLine)(y:Gl X "sorted")(C:X.mg "sorted"=none)(F:md.getD i 0=2:=by rfl)(I:X.N[i]? =some x:=by rfl)(J:lJ X.env.scope x:=by first|exact Or.inl rfl|exact Or.inr (Or.inl rfl) |exact Or.inr (Or.inr rfl))(O:(x==("__debug__":Str))=false:=by decide)(Q:(x==("__classdict__":Str))=false:=by decide)
  (l:starEach [.Name x f] X.env=(false,eval (.Name x f) X.env)::starEach [] X.env:=by rfl) (R:(backTo aP (starEach [] X.env)).any (·.1)=false:=by rfl):DSt Z X md 2 (.Return (some (.Call (.Name "sorted" p) [.Name x f] [] aP)) pos) (HQ i):=by
 refine(wY (qF (wa w) y C ng (dr (pv i I J O Q) eQ l) (by decide) (by decide) l R)).imp ?_
 intro Dn σ H U;rfl';obtain⟨B,ρ,E,⟨G,fp,S⟩,⟨L,e,hz,h⟩,M⟩:=U;ac_rfl;rfl';obtain⟨v0,k,o⟩:=S.at_ i _ e;rw[F] at o;obtain⟨T,ys,WZ,t,rfl,e0,hT,m,ol⟩:=o.lst;cases e0;obtain⟨A,rfl,n,r,s⟩:=Aw ol;have u:=S.nd i;rw[m] at u;have hl:A.length=L.length:=by rw[<-n];simp
 ac_rfl;refine⟨_,k,T,A,rfl,cM.of hT,r,by omega,λq N c d sC=>?_⟩
 have j:=S.nw i;rw[m] at j;have mem:∀b,b∈N.map (·.1)->b∈t:=λb a=>by rw[s];exact(d.map _).mem_iff.mp a
 have ne:∀b,b∈N.map (·.1)->b≠q:=λb a z=>(j b (bV _ (mem b a))).2.1 (by rw[z];exact c)
 refine M.rt _ (h (N.map (·.2)) (by rw[<-n];exact d.map _) sC) (.ref q) (q::N.map (·.1)) G _ (S.ex.side c) (.inl ⟨q,_,_,_,rfl,rfl,aB,rfl,AF λp v=>?_⟩) ?_ ?_
 ·rw[aO (ne p.1 (aZ.mpr ⟨p,v,rfl⟩))]
  exact r p (d.mem_iff.mp v)
 ·rw[b7]
  refine⟨λz=>ne q z rfl,((d.map _).nodup_iff).mpr ?_⟩;rw[<-s];exact(b7.mp u).2
 ·intro b a
  rcases br.mp a with rfl|a
  ·exact⟨S.ex.hh.free c,(by rw[aB];exact λz=>nomatch z),S.ex.sub.free c⟩
  ·obtain⟨k1,k2,k3⟩:=j b (bV _ (mem b a))
   exact⟨k1,(by rw[aO (ne b a)];exact k2),k3⟩
end
section
variable {Z:DC} {X:Cx}
def JM:cg:=λc P=>∃a:List (Nat×Nat),c= [.lst (a.map pairD)]/\a.length<64/\∀b:List (Nat×Nat),b.Perm a->b.Pairwise Wb.lexLe->P (.lst (b.map pairD))
theorem xB(j:X.A.units+64<cLine):cK X (.builtin "sorted") (iU Z JM):=by
 refine(zj j).imp ?_;rintro r H Q ⟨G,k,P,s,dv,⟨c,rfl,t,b⟩,q⟩;cases dv with
 |cons a as=>
  cases as;cases a with
  | @lst p u k h e=>
   obtain⟨L,rfl,d,f⟩:=zT e;have v:L.length=c.length:=by rw[<-d];simp
   refine⟨_,L,rfl,cM.of (s _ _ h),λp b=>s _ _ (f p b),by omega,λp M g i l=>?_⟩
   have m:(M.map (·.2)).Perm c:=by rw[<-d];exact i.map _
   have n:HC (upd G p (.lst (M.map λe=>V.ref e.1))) M:=λx o=>bf (s.free g) _ _ _ (f x (i.mem_iff.mp o));exact q _ (b _ m l) _ _ _ (.new s g) (.lst aB n.dv)
end
end L2
namespace Wb
def eV(w:W)(d:Nat×Nat)(r:List (Nat×Nat)):Prop:=∃k,0<k/\ba w k d=d/\(∀j,0<j->j<k->ba w j d≠d)/\r=walk w d k
theorem cH:e∈walk w d k↔∃i,i<k/\e=ba w i d:=by
 unfold walk;rw[aZ]
 constructor
 ·rintro⟨i,a,rfl⟩;exact⟨i,bT.mp a,rfl⟩
 ·rintro⟨i,a,rfl⟩;exact⟨i,bT.mpr a,rfl⟩
theorem eV.first(h:eV w d r):d∈r:=by
 obtain⟨k,a,_,_,rfl⟩:=h;exact cH.mpr ⟨0,a,rfl⟩
theorem eV.next(h:eV w d r)(a:e∈r):eB w e∈r:=by
 obtain⟨k,b,f,_,rfl⟩:=h;obtain⟨i,g,rfl⟩:=cH.mp a
 by_cases c:i+1<k
 ·exact cH.mpr ⟨i+1,c,rfl⟩
 ·have:i+1=k:=by omega
  refine cH.mpr ⟨0,b,?_⟩;show ba w (i+1) d=d;rw[this];exact f
theorem eV.iter(h:eV w d r)(a:e∈r):∀n,ba w n e∈r
 |0=>a
 |n+1=>h.next (h.iter a n)
theorem eV.back(h:eV w d r)(a:e∈r):∃n,ba w n e=d:=by
 obtain⟨k,c,b,_,rfl⟩:=h;obtain⟨i,f,rfl⟩:=cH.mp a;refine⟨k-i,?_⟩;rw[<-eZ i (k-i),show k-i+i=k by omega]
 exact b
theorem eV.nodup{w:W}(g:Good w)(h:eV w d r)(a:aC w d):r.Nodup:=by
 obtain⟨k,c,e,b,rfl⟩:=h;exact qi g a b
theorem eV.aX(g:Good w)(h:eV w d r)(a:aC w d):∀e∈r,aC w e:=by
 obtain⟨k,b,c,f,rfl⟩:=h;exact n0 g a
structure Wk (w:W) (ds:List (Nat×Nat)) (i:Nat) (rs:List (List (Nat×Nat))):Prop where
 rnd:∀r∈rs,∃d,eV w d r/\aC w d/\∀e∈r,lexLe d e
 nod:rs.flatten.Nodup
 met:∀j e,j<i->ds[j]? =some e->e∈rs.flatten
theorem Wk.zero(w:W)(a:List (Nat×Nat)):Wk w a 0 []:=⟨(λr h=>by cases h),gK,(λj e h=>by omega)⟩
theorem Wk.skip(h:Wk w a i b)(g:a[i]? =some d)(k:d∈b.flatten):Wk w a (i+1) b:=
 ⟨h.rnd,h.nod,λj e l f=>by
  by_cases c:j=i
  ·subst c;rw[g] at f;cases f;exact k
  ·exact h.met j e (by omega) f⟩
theorem Wk.take{w:W}(g:Good w)(all:∀e,aC w e->e∈k)(dart:∀e∈k,aC w e)(u:k.Pairwise lexLe){o:List (List (Nat×Nat))}(h:Wk w k i o)(p:k[i]? =some d)(v:d∉o.flatten)(l:eV w d r):Wk w k (i+1) (o++ [r]):=by
 have s:aC w d:=dart d (dA p)
 have off:∀e∈r,e∉o.flatten:=λe f x=>by
  obtain⟨q,t,y⟩:=jo.mp x;obtain⟨M,A,_,_⟩:=h.rnd q t;obtain⟨n,B⟩:=l.back f;exact v (jo.mpr ⟨q,t,by rw[<-B];exact A.iter y n⟩)
 refine⟨λq C=>?_,?_,λj e m f=>?_⟩
 ·rcases bR.mp C with z|z
  ·exact h.rnd q z
  ·rw[cF.mp z]
   refine⟨d,l,s,λe f=>?_⟩;obtain⟨j,m⟩:=vU (all e (l.aX g s e f))
   by_cases c:j<i
   ·exact absurd (h.met j e c m) (off e f)
   ·by_cases E:j=i
    ·subst E;rw[p] at m;cases m
     exact .inr ⟨rfl,bH _⟩
    ·obtain⟨F,G⟩:=di.mp p
     obtain⟨H,I⟩:=di.mp m;rw[<-G,<-I];exact Et.mp u i j F H (by omega)
 ·rw[vZ,dB]
  refine⟨h.nod,by simpa using l.nodup g s,λa J b L e=>?_⟩
  subst e;exact off a (by simpa using L) J
 ·rw[vZ,bR]
  by_cases c:j=i
  ·subst c;rw[p] at f;cases f
   exact .inr (by simpa using l.first)
  ·exact .inl (h.met j e (by omega) f)
theorem Wk.fin(g:Good w)(all:∀e,aC w e->e∈a)(h:Wk w a a.length b):b.flatten.Perm (aX w):=by
 have sub:∀e,e∈b.flatten↔e∈aX w:=λe=>by
  rw[aT]
  constructor
  ·intro c
   obtain⟨r,i,k⟩:=jo.mp c;obtain⟨d,R,l,_⟩:=h.rnd r i;exact R.aX g l e k
  ·intro c
   obtain⟨j,f⟩:=vU (all e c);exact h.met j e (di.mp f).1 f
 exact(qm h.nod (bW g)).mpr sub
structure cT (w:W) (rs:List (List (Nat×Nat))):Prop where
 rnd:∀r∈rs,∃d,eV w d r/\aC w d/\∀e∈r,lexLe d e
 perm:rs.flatten.Perm (aX w)
theorem cT.LB(R:cT w a)(p:b.Perm a):cT w b:=
 ⟨λr c=>R.rnd r (p.mem_iff.mp c),(p.flatten).trans R.perm⟩
theorem J4(g:Good w)(h:aC w d):d.1≠d.2:=λe=>g.irr d.1 (by have:d.2∈row w d.1:=h;rw[<-e] at this;exact this)
theorem xy{w:W}(g:Good w){f:List (Nat×Nat)}(l:f.Perm (jU (row w) w.length)):(f++f.map λt=>(t.2,t.1)).Perm (aX w):=by
 have e:=qh w;have n:=bW g
 have m:∀t,t∈f↔aC w t/\t.1<t.2:=λt=>by
  rw[l.mem_iff,e,fO,aT,acx]
 have i:f.Nodup:=l.nodup_iff.mpr (by rw[e];exact n.filter _)
 refine(qm ?_ n).mpr λd=>?_
 ·rw[dB]
  refine⟨i,?_,λa o b p z=>?_⟩
  ·rw[oJ,gY]
   rw[oJ] at i;exact i.imp λ {a b} h z=>h (UF (aat z).2 (aat z).1)
  ·obtain⟨c,j,rfl⟩:=aZ.mp p
   have k:=((m a).mp o).2;have q:=((m c).mp j).2;rw[z] at k;have k:c.2<c.1:=k;omega
 ·rw[bR,aZ,aT]
  constructor
  ·rintro(h| ⟨c,j,rfl⟩)
   ·exact((m d).mp h).1
   ·exact g.sym _ _ ((m c).mp j).1
  ·intro h
   rcases Nat.lt_or_gt_of_ne (J4 g h) with c|c
   ·exact .inl ((m d).mpr ⟨h,c⟩)
   ·exact .inr ⟨(d.2,d.1),(m _).mpr ⟨g.sym _ _ h,c⟩,rfl⟩
theorem eV.uniq(h:eV w d r)(b:eV w d a):r=a:=by
 obtain⟨k,e,f,g,rfl⟩:=h;obtain⟨m,i,j,l,rfl⟩:=b
 rcases adB k m with c|c|c
 ·exact absurd f (l k e c)
 ·rw[c]
 ·exact absurd j (g m i c)
theorem cT.sub(R:cT w c)(f:cT w a):∀r∈c,r∈a:=λr j=>by
 obtain⟨d,b,k,l⟩:=R.rnd r j;have m:d∈a.flatten:=f.perm.mem_iff.mpr (aT.mpr k);obtain⟨o,g,h⟩:=jo.mp m;obtain⟨p,i,u,q⟩:=f.rnd o g;obtain⟨n,s⟩:=i.back h;have t:lexLe d p:=by rw[<-s];exact l _ (b.iter b.first n)
 have e:=Am t (q d h);subst e;rw[b.uniq i];exact g
theorem cT.ne{w:W}{a:List (List (Nat×Nat))}(R:cT w a):∀r∈a,r≠ []:=λr b z=>by
 obtain⟨d,c,_⟩:=R.rnd r b
 have:=c.first
 rw[z] at this;cases this
theorem vz:∀{l:List (List c)},l.flatten.Nodup->(∀r∈l,r≠ [])->l.Nodup
 | [],_,_=>gK
 |a::l,h,b=>by
  rw[iI,dB] at h;refine b7.mpr ⟨λd=>?_,vz h.2.1 λr e=>b r (bV _ e)⟩;cases a with
  |nil=>exact b [] (bE ..) rfl
  |cons x a=>exact h.2.2 x (bE ..) x (jo.mpr ⟨_,d,bE ..⟩) rfl
theorem cT.nodup{w:W}(g:Good w)(R:cT w a):a.Nodup:=vz (R.perm.nodup_iff.mpr (bW g)) R.ne
abbrev h7(a:List (List (Nat×Nat))):List (List Nat):=a.map λr=>r.map (·.1)
theorem FA(h:L2.mM a b)(c:L2.mM b a):a=b:=by
 have:=L2.ye (L2.my a) (L2.my b) c h
 exact L2.MY (by rw[this])
theorem cT.uniq(g:Good w)(R:cT w a)(c:cT w b)(s:(h7 a).Pairwise L2.mM)(d:(h7 b).Pairwise L2.mM):h7 a=h7 b:=by
 have e:a.Perm b:=(qm (R.nodup g) (c.nodup g)).mpr λr=>⟨R.sub c r,c.sub R r⟩;exact adO (λ_ _ _ _=>FA) s d (e.map _)
open Classical in
noncomputable def lR(w:W):List (List Nat):=if h:∃rs,cT w rs/\(h7 rs).Pairwise L2.mM then h7 h.choose else[]
theorem IF(g:Good w)(R:cT w a)(s:(h7 a).Pairwise L2.mM):lR w=h7 a:=by
 have h:∃a,cT w a/\(h7 a).Pairwise L2.mM:=⟨a,R,s⟩;unfold lR;rw[dif_pos h];exact h.choose_spec.1.uniq g R h.choose_spec.2 s
theorem Mn(h:eV w d r)(a:i<r.length):r.getD ((i+1)%r.length) (0,0)=eB w (r.getD i (0,0)):=by
 obtain⟨k,b,f,l,rfl⟩:=h;rw[cY] at a ⊢
 have at_:∀j,j<k->(walk w d k).getD j (0,0)=ba w j d:=λj g=>by
  unfold walk;rw[bB,bQ,qq g];rfl
 rw[at_ i a]
 by_cases c:i+1<k
 ·rw[gZ c,at_ _ c];rfl
 ·have e:i+1=k:=by omega
  rw[e,sP,at_ 0 b];show d=ba w (i+1) d;rw[e,f]
theorem mI(r:List (Nat×Nat))(i:Nat):(r.map (·.1)).getD i 0=(r.getD i (0,0)).1:=by
 rw[bB,bB,bQ];cases r[i]? <;>rfl
theorem eG{a b:List Nat}{x y:Nat}(c:(a++x::y::b).Nodup):aN (a++x::y::b) x=y:=by
 have d:x∉a:=λh=>by
  have:=(dB.mp c).2.2 x h x (bE ..)
  exact this rfl
 have e:(a++x::y::b).idxOf x=a.length:=by
  rw[List.idxOf_append,mo d,List.idxOf_cons_self];simp
 unfold aN;rw[e,gZ (by simp),bB,kF (by omega)]
 simp
theorem gW{b:List Nat}{x y:Nat}(a:(y::(b++ [x])).Nodup):aN (y::(b++ [x])) x=y:=by
 have c:x∉y::b:=λh=>by
  have d:(y::b++ [x]).Nodup:=a;exact(dB.mp d).2.2 x h x (by simp) rfl
 have e:(y::(b++ [x])).idxOf x=b.length+1:=by
  show(y::b++ [x]).idxOf x=_;rw[List.idxOf_append,mo c];simp
 unfold aN;rw[e]
 have:(b.length+1+1)%(y::(b++ [x])).length=0:=by simp
 rw[this];rfl
theorem nY{a b:List Nat}{x:Nat}(f:(a++b).Nodup)(h:x∈a++b):aN (b++a) x=aN (a++b) x:=by
 have d:(b++a).Nodup:=(qt.nodup_iff).mp f;obtain⟨u,v,e⟩:=Cc h;cases v with
 |cons y v=>
  rw[e,eG (e▸f)]
  rcases List.append_eq_append_iff.mp e with ⟨c,g,i⟩ | ⟨c,g,i⟩
  ·
   rw[i,show c++x::y::v++a=c++x::y::(v++a) by simp]
   refine eG ?_;rw[i] at d;simpa using d
  ·
   cases c with
   |nil=>
    have j:b=x::y::v:=by simpa using i.symm
    rw[j,show x::y::v++a= []++x::y::(v++a) by simp]
    refine eG ?_;rw[j] at d;simpa using d
   |cons z c=>
    have l:x=z/\y::v=c++b:=by simpa using i
    obtain⟨rfl,n⟩:=l;cases c with
    |nil=>
     have j:b=y::v:=by simpa using n.symm
     rw[g,j,show y::v++(u++ [x])=y::((v++u)++ [x]) by simp]
     refine gW ?_;rw[g,j] at d;simpa using d
    |cons z c=>
     have l:y=z/\v=c++b:=by simpa using n
     obtain⟨rfl,rfl⟩:=l;rw[g,show b++(u++x::y::c)=(b++u)++x::y::c by simp]
     refine eG ?_;rw[g] at d;simpa using d
 |nil=>
  cases b with
  |nil=>simp
  |cons y b=>
   rcases y8 b with rfl| ⟨k,z,rfl⟩
   ·
    have:a=u/\y=x:=by
     have:=ac2 e rfl
     exact⟨this.1,by simpa using this.2⟩
    obtain⟨rfl,rfl⟩:=this;cases a with
    |nil=>rfl
    |cons t a=>
     have m:aN (t::a++ [y]) y=t:=gW (b:=a) f;rw[m];show aN ([]++y::t::a) y=t;exact eG (d)
   ·have o:z=x:=by
     rw[AQ] at e;have e:(a++y::k)++ [z]=u++ [x]:=by simpa using e
     exact by simpa using(ac2 e rfl).2
    subst o;rw[AQ] at f d ⊢;cases a with
    |nil=>simp
    |cons t a=>
     have m:aN (t::a++y::(k++ [z])) z=t:=by
      have:=gW (y:=t) (b:=a++y::k) (x:=z) (by simpa using f)
      simpa using this
     have p:aN (y::(k++ [z])++t::a) z=t:=by
      have:=eG (a:=y::k) (x:=z) (y:=t) (b:=a) (by simpa using d)
      simpa using this
     rw[m,p]
theorem u6{i:Nat}(a:l.Nodup)(h:i+1<l.length):aN l (l.getD i 0)=l.getD (i+1) 0:=by
 have e:l.getD i 0=l[i]:=by rw[bB,bJ (by omega)];rfl
 unfold aN;rw[e,a.idxOf_getElem i (by omega),gZ h]
theorem Gg(a:l.Nodup)(h:i+1=l.length):aN l (l.getD i 0)=l.getD 0 0:=by
 have e:l.getD i 0=l[i]:=by rw[bB,bJ (by omega)];rfl
 unfold aN;rw[e,a.idxOf_getElem i (by omega),h,sP]
section
variable {w:W} {R:List Nat} {A:Nat×Nat->Prop} {v m:Nat} {y:Nat->Nat}
end
end Wb
set_option maxHeartbeats 1000000
namespace Wb
theorem wD(a:(v::l).Nodup)(d:x∈l)(f:x≠l.getD (l.length-1) 0):aN (v::l) x=aN l x:=by
 obtain⟨i,g,rfl⟩:=y9.mp d;have e:l[i]=l.getD i 0:=by rw[bB,bJ g];rfl
 have h:i+1<l.length:=by
  apply Do;intro c;exact f (by rw[e,show l.length-1=i by omega])
 have b:=u6 (i:=i+1) a (by simp;omega)
 have j:=u6 (i:=i) (b7.mp a).2 h;rw[B8,B8] at b;rw[e,b,j]
section
variable {w w':W} {R:List Nat} {f:Nat}
end
theorem xX{f:Nat->Nat}{x:Nat}:∀{l:List Nat},(∀y∈l,f y=f x->y=x)->(l.map f).idxOf (f x)=l.idxOf x
 | [],_=>rfl
 |a::l,h=>by
  rw[dD,adX,adX,xX λy b=>h y (bV _ b)]
  by_cases c:a=x
  ·subst c;simp
  ·have:f a≠f x:=λz=>c (h a (bE ..) z)
   have d:(f a==f x)=false:=by simpa using this
   have e:(a==x)=false:=by simpa using c
   rw[d,e]
theorem Gh{f:Nat->Nat}{l:List Nat}{x:Nat}(h:∀y∈l,f y=f x->y=x)(a:x∈l):aN (l.map f) (f x)=f (aN l x):=by
 have e:=kD a;show(l.map f).getD (((l.map f).idxOf (f x)+1)%(l.map f).length) 0=_;rw[xX h,aD,bB,bQ,e];rfl
section
variable {w w':W} {f:Nat->Nat}
open Classical in
end
theorem gJ{w:W}(h:i<k):(walk w d k)[i]? =some (ba w i d):=by
 unfold walk;rw[bQ,qq h];rfl
theorem sH{w:W}(h:¬i<k):(walk w d k)[i]? =none:=fj (by rw[cY];omega)
theorem eV.Ua{w:W}(g:Good w)(h:eV w d r)(b:aC w d)(c:m<r.length):eV w (r.getD m (0,0)) (r.drop m++r.take m):=by
 obtain⟨k,n,l,o,rfl⟩:=h;rw[cY] at c;have e:(walk w d k).getD m (0,0)=ba w m d:=by rw[bB,gJ c];rfl
 rw[e];have per:ba w k (ba w m d)=ba w m d:=by rw[<-eZ,adJ,eZ,l]
 refine⟨k,n,per,λj p q z=>?_,?_⟩
 ·have:ba w m (ba w j d)=ba w m d:=by rw[<-eZ,adJ,eZ,z]
  exact o j p q (tJ g (cG g b j) b m this)
 ·refine rA λi=>?_
  have a:((walk w d k).drop m).length=k-m:=by rw[zc,cY]
  by_cases s:i<k-m
  ·rw[lC (by rw[a];exact s),adq,gJ (by omega),gJ (by omega),<-eZ,adJ]
  ·rw[kF (by rw[a];omega),a]
   by_cases t:i<k
   ·rw[List.getElem?_take,tz (by omega),gJ (by omega),gJ t,<-eZ,show i+m=(i-(k-m))+k by omega,eZ,l]
   ·rw[List.getElem?_take,mo (by omega),sH (by omega)]
structure Ce (w v:W) (f:Nat×Nat->Nat×Nat):Prop where
 dart:∀d,aC w d->aC v (f d)
 inj:∀d e,aC w d->aC w e->f d=f e->d=e
 nx:∀d,aC w d->eB v (f d)=f (eB w d)
theorem Ce.ba{w v:W}{f:Nat×Nat->Nat×Nat}(M:Ce w v f)(g:Good w){d:Nat×Nat}(a:aC w d):∀n,Wb.ba v n (f d)=f (Wb.ba w n d)
 |0=>rfl
 |n+1=>by
  show eB v (Wb.ba v n (f d))=f (eB w (Wb.ba w n d));rw[M.ba g a n,M.nx _ (cG g a n)]
theorem Ce.rnd{w v:W}{f:Nat×Nat->Nat×Nat}(M:Ce w v f)(g:Good w)(h:eV w d r)(a:aC w d):eV v (f d) (r.map f):=by
 obtain⟨k,b,c,e,rfl⟩:=h;refine⟨k,b,by rw[M.ba g a,c],λj l m z=>?_,?_⟩
 ·rw[M.ba g a] at z
  exact e j l m (M.inj _ _ (cG g a j) a z)
 ·unfold walk
  rw[bU];exact rz λi _=>(M.ba g a i).symm
theorem nI(a b:Nat×Nat):lexLe a b\/lexLe b a:=by unfold lexLe;omega
theorem Bx(h:lexLe a b)(d:lexLe b c):lexLe a c:=by unfold lexLe at*;omega
theorem Ak:∀c:List (Nat×Nat),c≠ []->∃e∈c,∀x∈c,lexLe e x
 | [],h=>absurd rfl h
 | [a],_=>⟨a,by simp,λx d=>by rw[cF] at d;subst d;exact(nI x x).elim id id⟩
 |a::b::c,_=>by
  obtain⟨e,i,g⟩:=Ak (b::c) (by simp)
  rcases nI a e with h|h
  ·refine⟨a,by simp,λx d=>?_⟩
   rcases br.mp d with rfl|d
   ·exact(nI x x).elim id id
   ·exact Bx h (g x d)
  ·refine⟨e,bV _ i,λx d=>?_⟩
   rcases br.mp d with rfl|d
   ·exact h
   ·exact g x d
open Classical in
noncomputable def tK(c:List (Nat×Nat)):Nat:=if h:∃e,e∈c/\∀x∈c,lexLe e x then c.idxOf h.choose else 0
theorem IE(h:c≠ []):tK c<c.length/\c.getD (tK c) (0,0)∈c/\(∀x∈c,lexLe (c.getD (tK c) (0,0)) x)/\tK c=c.idxOf (c.getD (tK c) (0,0)):=by
 have d:∃e,e∈c/\∀x∈c,lexLe e x:=let ⟨e,a,b⟩:=Ak c h;⟨e,a,b⟩;have g:tK c=c.idxOf d.choose:=by unfold tK;rw[dif_pos d]
 have s:=d.choose_spec;have l:=vR.mpr s.1
 have i:c.getD (tK c) (0,0)=d.choose:=by
  rw[g,bB,bJ l];exact AS l
 rw[i,g];exact⟨l,s.1,s.2,rfl⟩
noncomputable def zL(c:List (Nat×Nat)):List (Nat×Nat):=c.drop (tK c)++c.take (tK c)
theorem xr(c:List (Nat×Nat)):(zL c).Perm c:=by
 unfold zL
 have:=qt (l₁:=c.drop (tK c)) (l₂:=c.take (tK c))
 rwa [jK] at this
theorem HF{w:W}(g:Good w)(h:eV w d r)(a:aC w d):∃e,eV w e (zL r)/\aC w e/\∀x∈zL r,lexLe e x:=by
 have ne:r≠ []:=λz=>by have:=h.first;rw[z] at this;cases this
 obtain⟨b,c,i,_⟩:=IE ne;exact⟨_,h.Ua g a b,h.aX g a _ c,λx j=>i x ((xr r).mem_iff.mp j)⟩
theorem qN{f:List b->List b}(h:∀r,(f r).Perm r):∀a:List (List b),(a.map f).flatten.Perm a.flatten
 | []=> .nil
 |r::a=>by
  rw[dD,iI,iI];exact(h r).append (qN h a)
theorem CJ{w v:W}(g:Good w)(b:Good v){f:Nat×Nat->Nat×Nat}(dart:∀d,aC w d->aC v (f d))(inj:∀d e,aC w d->aC w e->f d=f e->d=e)(sur:∀e,aC v e->∃d,aC w d/\f d=e):((aX w).map f).Perm (aX v):=by
 refine(qm ?_ (bW b)).mpr λe=>?_
 ·rw[oJ,gY]
  have:=bW g
  rw[oJ] at this;exact acp (λc i n z=>n (inj _ _ (aT.mp c) (aT.mp i) z)) this
 ·rw[aZ,aT]
  exact⟨λ⟨d,a,z⟩=>z▸dart d (aT.mp a),λh=>let ⟨d,a,z⟩:=sur e h;⟨d,aT.mpr a,z⟩⟩
structure AX (w v:W) (φ:Nat->Nat):Prop where
 len:v.length=w.length
 lt:∀p,p<w.length->φ p<w.length
 inj:∀p q,p<w.length->q<w.length->φ p=φ q->p=q
 sur:∀y,y<w.length->∃p,p<w.length/\φ p=y
 row:∀p,p<w.length->∃b,Wb.row v (φ p)=((Wb.row w p).map φ).drop b++((Wb.row w p).map φ).take b
theorem AX.mem{w v:W}(N:AX w v a){p y:Nat}(c:p<w.length):y∈Wb.row v (a p)↔y∈(Wb.row w p).map a:=by
 obtain⟨b,e⟩:=N.row p c;rw[e,bR]
 conv=>rhs;rw[<-jK b ((Wb.row w p).map a),bR]
 exact or_comm
theorem AX.dmap{w v:W}(N:AX w v c)(g:Good w):Ce w v (λd=>(c d.1,c d.2)):=by
 have i:∀d,aC w d->d.1<w.length/\d.2<w.length:=λd h=>⟨bD h,g.rng _ _ h⟩;refine⟨λd h=>?_,λd e j k z=>?_,λd h=>?_⟩
 ·exact(N.mem (i d h).1).mpr (aZ.mpr ⟨d.2,h,rfl⟩)
 ·have m:=(aat z).1
  have o:=(aat z).2;exact UF (N.inj _ _ (i d j).1 (i e k).1 m) (N.inj _ _ (i d j).2 (i e k).2 o)
 ·obtain⟨b,e⟩:=N.row d.2 (i d h).2
  have l:d.1∈Wb.row w d.2:=g.sym _ _ h;have p:∀y∈Wb.row w d.2,c y=c d.1->y=d.1:=λy q z=>N.inj _ _ (g.rng _ _ q) (i d h).1 z
  have r:((Wb.row w d.2).map c).Nodup:=by
   have:=g.nod d.2
   rw[oJ] at this ⊢;rw[gY];exact acp (λs t n z=>n (N.inj _ _ (g.rng _ _ s) (g.rng _ _ t) z)) this
  have u:c d.1∈(Wb.row w d.2).map c:=aZ.mpr ⟨_,l,rfl⟩;show(c d.2,aN (Wb.row v (c d.2)) (c d.1))=(c d.2,c (aN (Wb.row w d.2) d.1));rw[e];have A:=nY (a:=((Wb.row w d.2).map c).take b) (b:=((Wb.row w d.2).map c).drop b) (x:=c d.1) (by rw[jK];exact r) (by rw[jK];exact u)
  rw[A,jK,Gh p l]
theorem AX.abF{w v:W}(N:AX w v a):∀e,aC v e->∃d,aC w d/\(a d.1,a d.2)=e:=λe h=>by
 have b:=bD h;rw[N.len] at b;obtain⟨p,g,c⟩:=N.sur e.1 b;have h:e.2∈Wb.row v e.1:=h;rw[<-c] at h;obtain⟨q,i,j⟩:=aZ.mp ((N.mem g).mp h);exact⟨(p,q),i,UF c j⟩
abbrev Dt:=Nat×Nat
def rH(w:W):Dt->List Dt->Dt->Prop
 |x,[],y=>x=y
 |x,a::l,y=>x=a/\rH w (eB w a) l y
theorem tX{w:W}:∀{l m:List Dt}{x z:Dt},rH w x (l++m) z↔∃y,rH w x l y/\rH w y m z
 | [],m,x,z=>⟨λh=>⟨x,rfl,h⟩,λ⟨y,e,h⟩=>by have e:x=y:=e;subst e;exact h⟩
 |a::l,m,x,z=>⟨λ⟨e,h⟩=>let ⟨y,b,c⟩:=tX.mp h;⟨y,⟨e,b⟩,c⟩,λ⟨y,⟨e,b⟩,c⟩=>⟨e,tX.mpr ⟨y,b,c⟩⟩⟩
theorem y0(w:W)(d:Dt)(n:Nat):walk w d (n+1)=d::walk w (eB w d) n:=by
 refine rA λi=>?_;cases i with
 |zero=>rw[gJ (by omega)];rfl
 |succ i=>
  rw[vT]
  by_cases h:i<n
  ·rw[gJ (by omega),gJ h]
   exact FS some (eZ (w:=w) (d:=d) 1 i)
  ·rw[sH (by omega),sH h]
theorem qH{w:W}:∀{l:List Dt}{x y:Dt},rH w x l y↔l=walk w x l.length/\y=ba w l.length x
 | [],x,y=>⟨λh=>⟨rfl,(show x=y from h).symm⟩,λh=>h.2.symm⟩
 |a::l,x,y=>by
  have e:ba w (l.length+1) x=ba w l.length (eB w x):=eZ (w:=w) (d:=x) 1 l.length
  constructor
  ·rintro⟨rfl,h⟩
   obtain⟨b,c⟩:=qH.mp h;rw[cD,y0,e];exact⟨FS (x::·) b,c⟩
  ·rintro⟨b,c⟩
   rw[cD,y0] at b;obtain⟨g,i⟩:=SL b;rw[cD,e] at c;subst g;exact⟨rfl,qH.mpr ⟨i,c⟩⟩
theorem eV.OS{w:W}(h:eV w d r):rH w d r d:=by
 obtain⟨k,b,a,c,rfl⟩:=h;exact qH.mpr ⟨by rw[cY],by rw[cY,a]⟩
theorem BM{w:W}(h:rH w d r d)(ne:r≠ [])(e:r.Nodup):eV w d r:=by
 obtain⟨c,g⟩:=qH.mp h;refine⟨r.length,vY.mpr ne,g.symm,λj k i z=>?_,c⟩;have a:r[j]? =some (ba w j d):=by rw[c];exact gJ i
 have b:r[0]? =some (ba w 0 d):=by rw[c];exact gJ (by omega)
 rw[z] at a;have b:r[0]? =some d:=b
 have:=(adC (by omega:j<r.length) e).mp (a.trans b.symm)
 omega
theorem AB{w v:W}:∀{l:List Dt}{x y:Dt},rH w x l y->(∀e∈l,eB v e=eB w e)->rH v x l y
 | [],x,y,h,_=>h
 |a::l,x,y,⟨e,h⟩,k=>⟨e,by rw[k a (bE ..)];exact AB h λe b=>k e (bV _ b)⟩
theorem r6{l:List b}(h:l≠ []):∃a z,l=a++ [z]:=⟨l.dropLast,l.getLast h,(List.dropLast_concat_getLast h).symm⟩
theorem Jv(d:(u::r::t).Nodup):aN (u::r::t) u=r/\∀x∈r::t,aN (u::r::t) x=if aN (r::t) x=r then u else aN (r::t) x:=by
 have g:=(b7.mp d).2;refine⟨eG (a:= []) d,λx i=>?_⟩;obtain⟨b,z,e⟩:=r6 (l:=r::t) (by simp)
 have lz:aN (r::t) z=r:=by
  cases t with
  |nil=>
   have:b= []/\z=r:=by
    cases b with
    |nil=>simp at e;exact⟨rfl,e.symm⟩
    |cons a b=>simp at e
   rw[this.2];unfold aN;simp
  |cons a t=>
   cases b with
   |nil=>simp at e
   |cons c b=>
    have j:a::t=b++ [z]:=(SL e).2
    have:=gW (b:=b) (x:=z) (y:=r) (by rw[<-j];exact g)
    rw[j];exact this
 have k:z∈r::t:=by rw[e];simp
 by_cases c:x=z
 ·subst c
  rw[tz lz]
  have:=gW (b:=b) (x:=x) (y:=u) (by rw[<-e];exact d)
  rw[e];exact this
 ·rw[mo (λh=>c (yT g i k (h.trans lz.symm)))]
  refine wD d i ?_;rw[e];intro h;apply c;rw[h,bB,bZ,kF (by simp),show b.length+ [z].length-1-b.length=0 by simp];rfl
def EE(l e:List Nat)(r u:Nat):Prop:=∃a t b,l=b++a/\a++b=r::t/\∃c d,e=d++c/\c++d=u::r::t
theorem EE.succ(P:EE l d r u)(p:l.Nodup)(q:u∉l):aN d u=r/\(∀x∈l,aN d x=if aN l x=r then u else aN l x)/\d.Nodup/\(∀x,x∈d↔x=u\/x∈l)/\r∈l:=by
 rfl';obtain⟨a,t,b,rfl,g,i,j,rfl,h⟩:=P;have e:(b++a).Perm (r::t):=by rw[<-g];exact qt
 have m:(j++i).Perm (u::r::t):=by rw[<-h];exact qt
 have n:(r::t).Nodup:=e.nodup_iff.mp p;have k:(u::r::t).Nodup:=b7.mpr ⟨λz=>q (e.mem_iff.mpr z),n⟩;obtain⟨v,y⟩:=Jv k;ac_rfl
 have A:∀x∈r::t,aN (b++a) x=aN (r::t) x:=λx c=>by
  have:=nY (a:=a) (b:=b) (x:=x) (by rw[g];exact n) (by rw[g];exact c)
  rw[this,g]
 have o:∀x∈u::r::t,aN (j++i) x=aN (u::r::t) x:=λx c=>by
  have:=nY (a:=i) (b:=j) (x:=x) (by rw[h];exact k) (by rw[h];exact c)
  rw[this,h]
 refine⟨by rw[o u (by simp),v],λx c=>?_,m.nodup_iff.mpr k,λx=>?_,e.mem_iff.mpr (by simp)⟩
 ·have c:=e.mem_iff.mp c
  rw[o x (bV _ c),A x c,y x c]
 ·rw[m.mem_iff,br,e.mem_iff]
theorem Mb(h:l[i]? =some r):EE l (ins l i u) r u:=by
 obtain⟨b,e⟩:=di.mp h;have a:l.drop i=r::l.drop (i+1):=by rw[rk b,e]
 refine⟨l.drop i,l.drop (i+1)++l.take i,l.take i,(jK ..).symm,by rw[a];rfl,u::l.drop i,l.take i,rfl,by rw[a];rfl⟩
theorem Ma(h:l[0]? =some r):EE l (ins l l.length u) r u:=by
 cases l with
 |nil=>simp at h
 |cons a t=>
  simp at h;subst h;refine⟨a::t,t,[],rfl,by simp,[u],a::t,?_,rfl⟩
  unfold ins;simp
def j7(w:W)(a:List (List Dt)):Prop:=∀r∈a,∃d,eV w d r/\aC w d
def Fc(w:W)(n:Nat):Prop:=∃a,j7 w a/\a.flatten.Perm (aX w)/\a.length=n
theorem Ic(a:List (List c))(r:List c)(b:List (List c)):(a++r::b).flatten.Perm (r++(a++b).flatten):=by
 rw[vZ,vZ,iI,<-iJ,<-iJ];exact acW _ qt
theorem F5{w:W}(g:Good w)(h:j7 w k)(t:d∈k.flatten):∃l c,eV w d l/\aC w d/\(l++c.flatten).Perm k.flatten/\j7 w c/\c.length+1=k.length:=by
 rfl';obtain⟨r,m,n⟩:=jo.mp t;obtain⟨e,o,p⟩:=h r m;obtain⟨i,q,v⟩:=y9.mp n;have y:r.getD i (0,0)=d:=by rw[bB,bJ q];exact v
 have s:=o.Ua g p q;rw[y] at s;obtain⟨a,b,rfl⟩:=Cc m;ac_rfl
 have z:(r.drop i++r.take i).Perm r:=by
  have:=qt (l₁:=r.drop i) (l₂:=r.take i)
  rwa [jK] at this
 refine⟨_,a++b,s,o.aX g p d n,?_,λx j=>h x ?_,by simp;omega⟩
 ·exact(z.append_right _).trans (Ic a r b).symm
 ·rcases bR.mp j with j|j
  ·exact fk _ j
  ·exact cZ _ (bV _ j)
theorem j7.dart{w:W}(g:Good w)(h:j7 w a):∀e∈a.flatten,aC w e:=λe b=>by
 obtain⟨r,c,i⟩:=jo.mp b;obtain⟨d,R,j⟩:=h r c;exact R.aX g j e i
theorem j7.keep{w v:W}(g:Good w)(h:j7 w a)(k:∀e∈a.flatten,eB v e=eB w e)(dv:∀d,aC w d->aC v d):j7 v a:=λr b=>by
 obtain⟨d,R,c⟩:=h r b;refine⟨d,BM (AB R.OS λe i=>k e (jo.mpr ⟨r,b,i⟩)) (λz=>?_) (R.nodup g c),dv d c⟩
 have:=R.first
 rw[z] at this;cases this
def Eu(b:Bool)(w:W):Prop:=2<=w.length->∃c,Fc w c/\2*(w.length+c)<=fP w+4/\(b=true->2*(w.length+c)=fP w+4)
theorem Eu.nam{w v:W}(g:Good w)(i:Good v)(E:Eu b w)(N:AX w v a)(j:fP v=fP w):Eu b v:=λe=>by
 rw[N.len] at e ⊢;rfl';obtain⟨c,⟨l,m,n,o⟩,p,q⟩:=E e;ac_rfl;rw[j];refine⟨c,⟨l.map λr=>r.map λd=>(a d.1,a d.2),λx s=>?_,?_,by rw[aD];exact o⟩,p,q⟩
 ·obtain⟨r,t,rfl⟩:=aZ.mp s
  obtain⟨d,R,h⟩:=m r t;exact⟨_,(N.dmap g).rnd g R h,(N.dmap g).dart d h⟩
 ·rw[<-List.map_flatten]
  exact(n.map _).trans (CJ g i (N.dmap g).dart (N.dmap g).inj N.abF)
abbrev bM(s:List Dt):Dt:=s.headD (0,0)
def ik(a:Nat):List (List Dt)->List (List Dt×Nat)
 | []=> []
 | [s]=> [(s,a)]
 |s::t::l=>(s,(bM t).1)::ik a (t::l)
def ring(z:Nat)(p:List Dt×Nat):List Dt:=(z,(bM p.1).1)::(p.1++ [(p.2,z)])
theorem yj(a:Nat):∀b,(ik a b).map (·.1)=b
 | []=>rfl
 | [s]=>rfl
 |s::t::l=>by rw[ik,dD,yj a (t::l)]
theorem yo(a:Nat):∀(s:List Dt)(b:List (List Dt)),(ik a (s::b)).map (·.2)=b.map (λt=>(bM t).1)++ [a]
 |s,[]=>rfl
 |s,t::l=>by rw[ik,dD,yo a t l];rfl
theorem yn{w:W}:∀{c:List (List Dt)}{x:Dt},rH w x c.flatten d->(∀s∈c,s≠ [])->∀p∈ik d.1 c,∃y,rH w (bM p.1) p.1 y/\p.2=y.1/\(y=d\/∃t∈c,y=bM t)
 | [],_,_,_,p,b=>nomatch b
 | [s],x,h,ne,p,b=>by
  rw[ik,cF] at b;subst b;have h:rH w x (s++ []) d:=h;rw[m8] at h;cases s with
  |nil=>exact absurd rfl (ne [] (bE ..))
  |cons a s=>exact⟨d,⟨rfl,h.2⟩,rfl, .inl rfl⟩
 |s::t::l,x,h,ne,p,b=>by
  rw[iI] at h;obtain⟨y,j,g⟩:=tX.mp h;have k:=ne t (by simp)
  have i:y=bM t:=by
   cases t with
   |nil=>exact absurd rfl k
   |cons a t=>exact g.1
  rw[ik,br] at b
  rcases b with rfl|b
  ·refine⟨y,?_,by rw[i], .inr ⟨t,by simp,i⟩⟩
   cases s with
   |nil=>exact absurd rfl (ne [] (bE ..))
   |cons a s=>exact⟨rfl,j.2⟩
  ·obtain⟨u,m,n,o⟩:=yn g (λs q=>ne s (bV _ q)) p b
   exact⟨u,m,n,o.imp id λ⟨r,v,e⟩=>⟨r,bV _ v,e⟩⟩
theorem vL(z:Nat):∀l:List (List Dt×Nat),(l.map (ring z)).flatten.Perm ((l.map (·.1)).flatten++((l.map λp=>(z,(bM p.1).1))++l.map λp=>(p.2,z)))
 | []=> .refl _
 |p::l=>by
  have b:=vL z l;rw[dD,iI,dD,iI,dD,dD];refine(acm _ b).trans ?_;rw[List.perm_iff_count];intro a;simp only[ring,uj,List.count_cons,aec];omega
theorem Hn{w v:W}:∀{s:List Dt}{x y c:Dt},s≠ []->rH w x s y->(∀e∈s,eB w e=y->eB v e=c)->(∀e∈s,eB w e∈s.tail->eB v e=eB w e)->rH v x s c
 | [],_,_,_,ne,_,_,_=>absurd rfl ne
 | [a],x,y,c,_,⟨e,h⟩,d,g=>⟨e,(d a (cF.mpr rfl) h)⟩
 |a::b::s,x,y,c,_,⟨e,h⟩,d,g=>by
  refine⟨e,?_⟩;have j:eB w a=b:=h.1;rw[g a (bE ..) (by rw[j];simp)]
  exact Hn (by simp) h (λe i=>d e (bV _ i)) (λe i z=>g e (bV _ i) (bV _ z))
theorem wO(h:s≠ []):bM s∈s:=by
 cases s with
 |nil=>exact absurd rfl h
 |cons a s=>exact bE ..
theorem NL{d:List (List Dt)}(l:d.flatten.Nodup)(ne:∀s∈d,s≠ []){s t:List Dt}(g:s∈d)(m:t∈d):bM s∉t.tail:=λh=>by
 obtain⟨n,i⟩:=ac5.mp l
 by_cases e:s=t
 ·subst e
  have:=n s g
  cases s with
  |nil=>exact ne [] g rfl
  |cons a s=>exact(b7.mp this).1 h
 ·have j:=wO (ne s g)
  have k:bM s∈t:=List.mem_of_mem_tail h;obtain⟨a,b,rfl⟩:=Cc g;rw[ada,Cd] at i
  rcases bR.mp m with c|c
  ·exact i.2.2 t c s (bE ..) _ k _ j rfl
  ·rcases br.mp c with c|c
   ·exact e c.symm
   ·exact i.2.1.1 t c _ j _ k rfl
theorem Kp{w v:W}(g:Good w)(gv:Good v)(hz:z=w.length) 
  (R:eV w d (j::i).flatten) (C:aC w d) (n:∀s∈j::i,s≠ [])
  (J:((j::i).map λs=>(bM s).1).Nodup)
  (M:∀e,aC w e->(∀s∈j::i,eB w e≠bM s)->eB v e=eB w e)
  (k1:∀s∈j::i,∀e,aC w e->eB w e=bM s->eB v e=((bM s).1,z))
  (N:∀p∈ik d.1 (j::i),eB v (p.2,z)=(z,(bM p.1).1))
  (k3:∀s∈j::i,eB v (z,(bM s).1)=bM s)
  (dv:∀e,aC v e↔aC w e\/∃s∈j::i,e=((bM s).1,z)\/e=(z,(bM s).1))
  (h:Fc w c):Fc v (c+i.length)/\(aX v).length=(aX w).length+2*(i.length+1):=by
 obtain⟨rs,hA,E,hl⟩:=h;obtain⟨r1,l,R1,_,O,F,l1⟩:=F5 g hA (E.mem_iff.mpr (aT.mpr C));obtain rfl:=R1.uniq R;have nd:=R.nodup g C
 have Q:d=bM j:=by
  have:=R.OS
  cases j with
  |nil=>exact absurd rfl (n [] (bE ..))
  |cons a s=>exact this.1
 have G:∀e∈(j::i).flatten,aC w e:=R.aX g C;have Io:∀s∈j::i,aC w (bM s):=λs k=>G _ (jo.mpr ⟨s,k,wO (n s k)⟩);generalize H:ik d.1 (j::i)=L at N;have A:L.map (·.1)=j::i:=by rw[<-H];exact yj _ _
 have f2:L.map (·.2)=i.map (λt=>(bM t).1)++ [d.1]:=by rw[<-H];exact yo _ _ _
 have f3:(L.map (·.2)).Perm ((j::i).map λs=>(bM s).1):=by
  rw[f2,dD,Q];exact qt
 have f4:(L.map λp=>(z,(bM p.1).1))=(j::i).map λs=>(z,(bM s).1):=by rw[<-A,bU];rfl
 have f5:(L.map λp=>(p.2,z)).Perm ((j::i).map λs=>((bM s).1,z)):=by
  have:=f3.map λa:Nat=>(a,z)
  rw[bU,bU] at this;exact this
 have lt:∀s∈j::i,(bM s).1<z:=λs k=>by rw[hz];exact bD (Io s k)
 have T:=vL z L;rw[A,f4] at T
 have pv:((L.map (ring z)).flatten++l.flatten).Perm (aX w++(((j::i).map λs=>(z,(bM s).1))++(j::i).map λs=>((bM s).1,z))):=by
  refine(acW _ (T.trans (acm _ (acm _ f5)))).trans ?_;rw[iJ];refine(acm _ qt).trans ?_;rw[<-iJ];exact acW _ (O.trans E)
 have U:(aX w++(((j::i).map λs=>(z,(bM s).1))++(j::i).map λs=>((bM s).1,z))).Nodup:=by
  refine dB.mpr ⟨bW g,dB.mpr ⟨?_,?_,?_⟩,?_⟩
  ·have:=List.Pairwise.map (S:=λa b=>a≠b) (λa:Nat=>(z,a)) (λa b h e=>h (aat e).2) J
   rw[bU] at this;exact this
  ·have:=List.Pairwise.map (S:=λa b=>a≠b) (λa:Nat=>(a,z)) (λa b h e=>h (aat e).1) J
   rw[bU] at this;exact this
  ·intro a I b o e
   obtain⟨s,k,rfl⟩:=aZ.mp I;obtain⟨t,X,rfl⟩:=aZ.mp o
   have:=lt s k
   have:=(aat e).2
   omega
  ·intro a I b o e
   have Y:=aT.mp I;have Z:=bD Y;have x2:=g.rng _ _ Y
   rcases bR.mp o with o|o<;>obtain⟨s,k,rfl⟩:=aZ.mp o<;>rw[e] at Z x2
   ·have:z<w.length:=Z
    omega
   ·have:z<w.length:=x2
    omega
 have pe:=(qm U (bW gv)).mpr λe=>by
  rw[aT (w:=v),dv e,bR,aT,bR,aZ,aZ];refine or_congr acK ⟨λh=>h.elim (λ⟨s,k,e⟩=>⟨s,k, .inr e.symm⟩) λ⟨s,k,e⟩=>⟨s,k, .inl e.symm⟩,λ⟨s,k,e⟩=>e.elim (λe=> .inr ⟨s,k,e.symm⟩) λe=> .inl ⟨s,k,e.symm⟩⟩
 refine⟨⟨L.map (ring z)++l,?_,?_,?_⟩,?_⟩
 ·intro r u
  rcases bR.mp u with u|u
  ·obtain⟨p,B,rfl⟩:=aZ.mp u
   have q:p.1∈j::i:=by rw[<-A];exact aZ.mpr ⟨p,B,rfl⟩
   obtain⟨y,y1,y2,y3⟩:=yn R.OS n p (by rw[H];exact B)
   obtain⟨t,X,ey⟩:∃t∈j::i,y=bM t:=y3.elim (λe=>⟨j,bE ..,e.trans Q⟩) id
   have q1:rH v (bM p.1) p.1 (p.2,z):=by
    refine Hn (n _ q) y1 (λe m x=>?_) λe m x=>?_
    ·rw[y2,ey]
     exact k1 t X e (G e (jo.mpr ⟨_,q,m⟩)) (by rw[x,ey])
    ·exact M e (G e (jo.mpr ⟨_,q,m⟩)) λs k z=>NL nd n k q (z▸x)
   have nr:(ring z p).Nodup:=(ac5.mp (dB.mp (pv.nodup_iff.mpr U)).1).1 _ (aZ.mpr ⟨p,B,rfl⟩);refine⟨(z,(bM p.1).1),BM ⟨rfl,?_⟩ (by unfold ring;simp) nr,(dv _).mpr (.inr ⟨_,q, .inr rfl⟩)⟩
   rw[k3 _ q];exact tX.mpr ⟨(p.2,z),q1,rfl,N p B⟩
  ·refine j7.keep g F (λe m=>?_) (λe m=>(dv e).mpr (.inl m)) r u
   have de:=j7.dart g F e m;refine M e de λs k x=>?_
   have SK:eB w e∈l.flatten:=by
    obtain⟨r2,XY,KO⟩:=jo.mp m;obtain⟨d2,R2,sY⟩:=F r2 XY;exact jo.mpr ⟨r2,XY,R2.iter KO 1⟩
   have hh:bM s∈(j::i).flatten:=jo.mpr ⟨s,k,wO (n s k)⟩;exact(dB.mp ((O.trans E).nodup_iff.mpr (bW g))).2.2 _ hh _ SK x.symm
 ·rw[vZ]
  exact pv.trans pe
 ·rw[bZ,aD,<-aD (f:=(·.1)) (as:=L),A,cD]
  omega
 ·have:=pe.length_eq
  rw[bZ,bZ,aD,aD,cD] at this;omega
theorem yk:∀{l:List (List Dt)},p∈ik b l->(∃A t B,l=A++p.1::t::B/\p.2=(bM t).1)\/(∃A,l=A++ [p.1]/\p.2=b)
 | [],h=>nomatch h
 | [s],h=>by
  rw[ik,cF] at h;subst h;exact .inr ⟨[],rfl,rfl⟩
 |s::t::l,h=>by
  rw[ik,br] at h
  rcases h with rfl|h
  ·exact .inl ⟨[],t,l,rfl,rfl⟩
  ·rcases yk h with ⟨A,c,B,e,a⟩ | ⟨A,e,a⟩
   ·exact .inl ⟨s::A,c,B,by rw[e];rfl,a⟩
   ·exact .inr ⟨s::A,by rw[e];rfl,a⟩
theorem DK(i:((a::d).map λs=>(bM s).1).Nodup)(j:p∈ik (bM a).1 (a::d)):aN ((a::d).map λs=>(bM s).1).reverse p.2=(bM p.1).1:=by
 have c:((a::d).map λs=>(bM s).1).reverse.Nodup:=(acP _).nodup_iff.mpr i
 rcases yk j with ⟨A,t,B,e,g⟩ | ⟨A,e,g⟩
 ·rw[e] at c ⊢
  have h:((A++p.1::t::B).map λs=>(bM s).1).reverse=(B.map λs=>(bM s).1).reverse++(bM t).1::(bM p.1).1::(A.map λs=>(bM s).1).reverse:=by simp
  rw[h] at c ⊢;rw[g];exact eG c
 ·rw[e] at c ⊢
  have h:((A++ [p.1]).map λs=>(bM s).1).reverse=(bM p.1).1::(A.map λs=>(bM s).1).reverse:=by simp
  rw[h] at c ⊢;rw[g];cases A with
  |nil=>
   have:p.1=a:=by have:=(SL e).1;exact this.symm
   rw[this];unfold aN;simp
  |cons b A=>
   have k:a=b:=(SL e).1;have l:((b::A).map λs=>(bM s).1).reverse=(A.map λs=>(bM s).1).reverse++ [(bM b).1]:=by simp
   rw[l] at c ⊢;rw[k];exact gW c
structure JA (w v:W) (hs:List Dt):Prop where
 len:v.length=w.length+1
 out:∀p,p<w.length->(∀h∈hs,h.1≠p)->row v p=row w p
 put:∀h∈hs,EE (row w h.1) (row v h.1) h.2 w.length
 last:row v w.length=(hs.map (·.1)).reverse
theorem Kq{w v:W}(g:Good w)(G:Good v)(R:eV w d (l::j).flatten)(B:aC w d)(t:∀s∈l::j,s≠ [])
  (C:((l::j).map λs=>(bM s).1).Nodup) (h:JA w v ((l::j).map bM)) (F:Fc w c):Fc v (c+j.length)/\(aX v).length=(aX w).length+2*(j.length+1):=by
 have H:∀e∈(l::j).flatten,aC w e:=R.aX g B;have M:∀s∈l::j,aC w (bM s):=λs b=>H _ (jo.mpr ⟨s,b,wO (t s b)⟩);have I:∀p,w.length∉row w p:=λp z=>by have:=g.rng p _ z;omega
 have n:∀s∈l::j,aN (row v (bM s).1) w.length=(bM s).2/\(∀x∈row w (bM s).1,aN (row v (bM s).1) x=if aN (row w (bM s).1) x=(bM s).2 then w.length else aN (row w (bM s).1) x)/\∀x,x∈row v (bM s).1↔x=w.length\/x∈row w (bM s).1:=λs b=>by
  have:=(h.put _ (aZ.mpr ⟨s,b,rfl⟩)).succ (g.nod _) (I _)
  exact⟨this.1,this.2.1,this.2.2.2.1⟩
 have J:d=bM l:=by
  have:=R.OS
  cases l with
  |nil=>exact absurd rfl (t [] (bE ..))
  |cons a s=>exact this.1
 have u:row v w.length=((l::j).map λs=>(bM s).1).reverse:=by rw[h.last,bU];rfl
 refine Kp g G rfl R B t C (λe i k=>?_) (λs b e i k=>?_) (λp E=>?_) (λs b=>?_) (λe=>?_) F
 ·have r:=g.sym _ _ i
  have y:=bD r;unfold eB
  by_cases c:∃s∈l::j,(bM s).1=e.2
  ·obtain⟨s,b,m⟩:=c
   have:=(n s b).2.1 e.1 (by rw[m];exact r)
   rw[m] at this;rw[this,mo];intro z;exact k s b (UF m.symm z)
  ·rw[h.out e.2 y λx o z=>?_]
   obtain⟨s,b,rfl⟩:=aZ.mp o;exact c ⟨s,b,z⟩
 ·have r:=g.sym _ _ i
  have A:e.2=(bM s).1:=FS Prod.fst k;have L:aN (row w e.2) e.1=(bM s).2:=FS Prod.snd k
  have:=(n s b).2.1 e.1 (by rw[<-A];exact r)
  rw[<-A] at this;unfold eB;rw[this,tz L,A]
 ·unfold eB
  show(w.length,aN (row v w.length) p.2)=_;rw[u];rw[J] at E;rw[DK C E]
 ·exact UF rfl (n s b).1
 ·constructor
  ·intro i
   have y:=bD i;rw[h.len] at y
   by_cases c:e.1=w.length
   ·right
    have i:e.2∈row v e.1:=i;rw[c,u,lH] at i;obtain⟨s,b,m⟩:=aZ.mp i;exact⟨s,b, .inr (UF c m.symm)⟩
   ·by_cases q:∃s∈l::j,(bM s).1=e.1
    ·obtain⟨s,b,m⟩:=q
     have i:e.2∈row v e.1:=i;rw[<-m] at i
     rcases((n s b).2.2 _).mp i with x|x
     ·exact .inr ⟨s,b, .inl (UF m.symm x)⟩
     ·left;rw[m] at x;exact x
    ·left
     have i:e.2∈row v e.1:=i;rw[h.out e.1 (by omega) λx o z=>by obtain⟨s,b,rfl⟩:=aZ.mp o;exact q ⟨s,b,z⟩] at i
     exact i
  ·rintro(i| ⟨s,b,rfl|rfl⟩)
   ·show e.2∈row v e.1
    by_cases q:∃s∈l::j,(bM s).1=e.1
    ·obtain⟨s,b,m⟩:=q
     rw[<-m];exact((n s b).2.2 _).mpr (.inr (by rw[m];exact i))
    ·rw[h.out e.1 (bD i) λx o z=>by obtain⟨s,b,rfl⟩:=aZ.mp o;exact q ⟨s,b,z⟩]
     exact i
   ·exact((n s b).2.2 _).mpr (.inl rfl)
   ·show(bM s).1∈row v w.length
    rw[u,lH];exact aZ.mpr ⟨s,b,rfl⟩
def kN(b a:List Dt):List Nat->List (List Dt)
 | []=> []
 | [k]=> [b.drop k++a]
 |k::c::l=>(b.drop k).take (c-k)::kN b a (c::l)
theorem xF(b a:List Dt):∀(k:Nat)(l:List Nat),(k::l).Pairwise (·<·)->(kN b a (k::l)).flatten=b.drop k++a
 |k,[],_=>by simp[kN]
 |k,c::l,h=>by
  have d:=Cd.mp h;have e:=d.1 c (bE ..);rw[kN,iI,xF b a c l d.2,<-iJ]
  congr 1
  rw[show b.drop c=(b.drop k).drop (c-k) by rw[List.drop_drop];congr 1;omega,jK]
theorem Ka{a:List Dt}{k:Nat}(h:k<a.length)(t:List Dt):bM (a.drop k++t)=a.getD k (0,0)/\a.drop k++t≠ []:=by
 rw[rk h,bB,bJ h];exact⟨rfl,λz=>by rw[ve] at z;cases z⟩
theorem CD(b a:List Dt):∀(c:List Nat),c.Pairwise (·<·)->(∀k∈c,k<b.length)->(kN b a c).map bM=(c.map λk=>b.getD k (0,0))/\∀s∈kN b a c,s≠ []
 | [],_,_=>⟨rfl,λs h=>nomatch h⟩
 | [k],_,lt=>by
  have:=Ka (lt k (by simp)) a
  exact⟨by simp only[kN,dD,adI];rw[this.1],λs h=>by rw[kN,cF] at h;rw[h];exact this.2⟩
 |k::d::l,h,lt=>by
  have i:=Cd.mp h;have r:=i.1 d (bE ..);have j:=CD b a (d::l) i.2 λx o=>lt x (bV _ o);have n:=lt k (by simp)
  obtain⟨m,p⟩:∃m,d-k=m+1:=⟨d-k-1,by omega⟩
  have e:(b.drop k).take (d-k)=b[k]::(b.drop (k+1)).take m:=by rw[rk n,p,List.take_succ_cons]
  refine⟨?_,λs g=>?_⟩
  ·have q:b.getD k (0,0)=b[k]:=by rw[bB,bJ n];rfl
   rw[kN,dD,j.1,e];show b[k]::_=b.getD k (0,0)::_;rw[q]
  ·rw[kN,br] at g
   rcases g with rfl|g
   ·rw[e];simp
   ·exact j.2 s g
def iM(w:W):Prop:=∃c,Fc w c/\2*(w.length+c)=fP w+4
theorem Je{w v:W}(g:Good w)(n:Good v)(R:eV w d a)(l:aC w d)(inc:(k::b).Pairwise (·<·))(lt:∀x∈k::b,x<a.length)
  (o:((k::b).map λx=>(a.getD x (0,0)).1).Nodup) (h:JA w v ((k::b).map λx=>a.getD x (0,0))) (P:iM w):iM v:=by
 obtain⟨c,F,e⟩:=P;have j:=lt k (bE ..);have R2:=R.Ua g l j;have i:=CD a (a.take k) (k::b) inc lt;have p:=xF a (a.take k) k b inc;have q:aC w (a.getD k (0,0)):=R.aX g l _ (by rw[bB,bJ j];exact g5 j)
 have m:(kN a (a.take k) (k::b)).length=b.length+1:=by have:=FS List.length i.1;rwa [aD,aD] at this
 rw[<-p] at R2;rw[<-i.1] at h
 have r:((kN a (a.take k) (k::b)).map λs=>(bM s).1).Nodup:=by
  have:((kN a (a.take k) (k::b)).map λs=>(bM s).1)=(k::b).map λx=>(a.getD x (0,0)).1:=by
   have:=FS (List.map (·.1)) i.1
   rw[bU,bU] at this;exact this
  rw[this];exact o
 generalize kN a (a.take k) (k::b)=S at*;cases S with
 |nil=>cases m
 |cons u y=>
  obtain⟨t,dl⟩:=Kq g n R2 q i.2 r h F;refine⟨_,t,?_⟩;have z:=df w;have A:=df v;have B:=h.len;rw[cD] at m;omega
theorem rot_all(m:l.Nodup){u:Nat}(o:u∈l)(P:Nat->Prop)(t:P (aN l u))(h:∀x∈l,x≠u->P x->P (aN l x)):∀x∈l,P x:=by
 have v:0<l.length:=qp o
 have at_:∀i,i<l.length->l.getD i 0∈l/\l[i]? =some (l.getD i 0):=λi g=>by
  have e:l[i]? =some (l.getD i 0):=by rw[bB,bJ g];rfl
  exact⟨dA e,e⟩
 have p:∀i,i<l.length->aN l (l.getD i 0)=l.getD ((i+1)%l.length) 0:=λi g=>by
  by_cases c:i+1<l.length
  ·rw[u6 m c,gZ c]
  ·rw[Gg m (by omega),show i+1=l.length by omega,sP]
 obtain⟨d,n,y⟩:=B9 o;have r:l.getD d 0=u:=by rw[bB,bJ n];exact y
 have all:∀j,j<l.length->P (l.getD ((d+1+j)%l.length) 0):=by
  intro j
  induction j with
  |zero=>intro _;rw[<-p d n,r];exact t
  |succ j A=>
   intro E;have k:=qv (d+1+j) v
   have q:=h _ (at_ _ k).1 (λz=>by
    have a:=(at_ _ k).2;have b:=(at_ _ n).2;rw[r] at b;rw[z] at a
    have:=(adC k m).mp (a.trans b.symm)
    by_cases c:d+1+j<l.length
    ·rw[gZ c] at this;omega
    ·rw[Nat.mod_eq_sub_mod (by omega),gZ (by omega)] at this;omega) (A (by omega))
   rw[p _ k] at q;rw[show(d+1+(j+1))%l.length=((d+1+j)%l.length+1)%l.length by rw[Nat.mod_add_mod];rfl]
   exact q
 intro x B;obtain⟨i,g,C⟩:=B9 B;have s:l.getD i 0=x:=by rw[bB,bJ g];exact C
 by_cases c:d<i
 ·have:=all (i-d-1) (by omega)
  rw[show d+1+(i-d-1)=i by omega,gZ g,s] at this;exact this
 ·have:=all (i+l.length-d-1) (by omega)
  rw[show d+1+(i+l.length-d-1)=i+l.length by omega,acQ,gZ g,s] at this;exact this
def dR(d:Dt):Dt:=(d.2,d.1)
def sg(w:W)(d:Dt):Dt:=(d.1,aN (row w d.1) d.2)
def Rl(L:List Dt)(d:Dt):Prop:=d∈L\/dR d∈L
instance ab5 (L:List Dt) (d:Dt):Decidable (Rl L d):=inferInstanceAs (Decidable (_\/_))
def ph(w:W)(L:List Dt)(d:Dt):Dt:=if Rl L d then sg w (dR d) else sg w d
def Cg(w:W)(L:List Dt)(f:Dt->Nat):Prop:=∀d,aC w d->f (ph w L d)=f d
def Na(w:W)(f:Dt->Nat)(n:Nat):Prop:=∃a:List Nat,a.Nodup/\a.length=n/\∀v∈a,∃d,aC w d/\f d=v
def AV(w:W)(L:List Dt)(n:Nat):Prop:=∃f,Cg w L f/\Na w f n
theorem iR{w:W}(g:Good w)(h:aC w d):aC w (dR d):=g.sym _ _ h
theorem NF{w:W}(g:Good w)(h:aC w d):dR d≠d:=λz=>by
 have:d.2=d.1:=FS Prod.fst z
 exact g.irr _ (by have h:d.2∈row w d.1:=h;rw[this] at h;exact h)
theorem C1(d:Dt):dR (dR d)=d:=rfl
theorem D4(a:d≠t)(b:d≠dR t):Rl (t::L) d↔Rl L d:=by
 unfold Rl;rw[br,br]
 constructor
 ·rintro((z|z) | (z|z))
  ·exact absurd z a
  ·exact .inl z
  ·exact absurd (by rw[<-z];rfl) b
  ·exact .inr z
 ·rintro(z|z)
  ·exact .inl (.inr z)
  ·exact .inr (.inr z)
theorem kY:Rl L (dR d)↔Rl L d:=⟨λh=>h.symm,λh=>h.symm⟩
theorem yH{w:W}(a:d≠t)(b:d≠dR t):ph w (t::L) d=ph w L d:=by
 unfold ph
 by_cases c:Rl L d
 ·rw[tz c,tz ((D4 a b).mpr c)]
 ·rw[mo c,mo (λz=>c ((D4 a b).mp z))]
theorem QN{w:W}{t:Dt}{L:List Dt}:ph w (t::L) t=sg w (dR t)/\ph w (t::L) (dR t)=sg w t:=by
 unfold ph;exact⟨tz (.inl (bE ..)),tz (.inr (bE ..))⟩
theorem Hj{w:W}{t:Dt}{L:List Dt}(h:¬Rl L t):ph w L t=sg w t/\ph w L (dR t)=sg w (dR t):=by
 unfold ph;exact⟨mo h,mo λz=>h (kY.mp z)⟩
theorem HI{w:W}(g:Good w)(l:aC w t)(h:¬Rl L t)(c:AV w (t::L) (n+1)):AV w L n:=by
 obtain⟨f,j,s,o,C,u⟩:=c;obtain⟨x,y⟩:=QN (w:=w) (t:=t) (L:=L);obtain⟨A,B⟩:=Hj (w:=w) h;have p:=j t l;have r:=j _ (iR g l);rw[x] at p;rw[y] at r;refine⟨λd=>if f d=f (dR t) then f t else f d,λd k=>?_,(s.erase (f (dR t))).take n,(adz _ _).nodup (o.erase _),?_,λv i=>?_⟩
 ·by_cases a:d=t
  ·subst a
   show(if f (ph w L d)=f (dR d) then f d else f (ph w L d))=if f d=f (dR d) then f d else f d;rw[A,r,tz rfl];split<;>rfl
  ·by_cases b:d=dR t
   ·subst b
    show(if f (ph w L (dR t))=f (dR t) then f t else f (ph w L (dR t)))=if f (dR t)=f (dR t) then f t else f (dR t);rw[B,p,tz rfl];split<;>rfl
   ·have q:=j d k
    rw[yH a b] at q;show(if f (ph w L d)=f (dR t) then f t else f (ph w L d))=_;rw[q]
 ·rw[lF,List.length_erase]
  split<;>omega
 ·have i:=adf i
  have m:=List.mem_of_mem_erase i;obtain⟨d,k,e⟩:=u v m;have ne:v≠f (dR t):=λz=>by rw[z] at i;exact(List.Nodup.not_mem_erase o) i
  exact⟨d,k,by show(if f d=f (dR t) then f t else f d)=v;rw[e,mo ne]⟩
theorem above(l:List Nat):∃n,∀x∈l,x<n:=by
 induction l with
 |nil=>exact⟨0,λx h=>by cases h⟩
 |cons a l b=>
  obtain⟨n,c⟩:=b
  exact⟨n+a+1,λx d=>by
   rcases br.mp d with rfl|z
   ·omega
   ·have:=c x z;omega⟩
theorem HK{w:W}(g:Good w)(i:aC w t)(h:∀d∈L,d.1≠t.1/\d.2≠t.1)(c:AV w (t::L) n):AV w L (n+1):=by
 obtain⟨f,l,p,y,A,B⟩:=c
 have o:∀d,d.1=t.1\/d.2=t.1->¬Rl L d:=λd j z=>by
  rcases z with z|z
  ·have:=h _ z;rcases j with e|e
   ·exact this.1 e
   ·exact this.2 e
  ·have:=h _ z;rcases j with e|e
   ·exact this.2 e
   ·exact this.1 e
 obtain⟨C,E⟩:=QN (w:=w) (t:=t) (L:=L);obtain⟨O,F⟩:=Hj (w:=w) (o t (.inl rfl));have r:=l t i;have s:=l _ (iR g i);rw[C] at r;rw[E] at s;have k:t.2≠t.1:=λz=>by have i:t.2∈row w t.1:=i;rw[z] at i;exact g.irr _ i
 have all:∀x∈row w t.1,f (t.1,x)=f (dR t):=rot_all (g.nod _) (u:=t.2) i (λx=>f (t.1,x)=f (dR t)) s λx G ne e=>by
  have q:=l (t.1,x) G;have a:(t.1,x)≠t:=λz=>ne (FS Prod.snd z);have b:(t.1,x)≠dR t:=λz=>k (FS Prod.fst z).symm;rw[yH a b,(Hj (w:=w) (o (t.1,x) (.inl rfl))).1] at q;exact q.trans e
 obtain⟨m,H⟩:=above (p++ [f (dR t)]);have I:f t=f (dR t):=all t.2 i;refine⟨λd=>if d.1=t.1 then m else f d,λd j=>?_,m::p,b7.mpr ⟨λz=>by have:=H m (fk _ z);omega,y⟩,by rw[cD,A],λv J=>?_⟩
 ·by_cases a:d.1=t.1
  ·show(if (ph w L d).1=t.1 then m else f (ph w L d))=if d.1=t.1 then m else f d
   rw[(Hj (w:=w) (o d (.inl a))).1,tz a,tz (show(sg w d).1=t.1 from a)]
  ·by_cases b:d=dR t
   ·subst b
    show(if (ph w L (dR t)).1=t.1 then m else f (ph w L (dR t)))=if (dR t).1=t.1 then m else f (dR t);rw[F,mo a,mo (show ¬(sg w (dR t)).1=t.1 from a),r,I]
   ·have M:d≠t:=λz=>a (by rw[z])
    have q:=l d j;rw[yH M b] at q
    have ne:(ph w L d).1≠t.1:=by
     unfold ph
     split
     ·rename_i N
      intro z;have z:d.2=t.1:=z;exact o d (.inr z) N
     ·exact a
    show(if (ph w L d).1=t.1 then m else f (ph w L d))=if d.1=t.1 then m else f d;rw[mo ne,mo a,q]
 ·rcases br.mp J with rfl|z
  ·exact⟨t,i,tz rfl⟩
  ·obtain⟨d,j,e⟩:=B v z
   by_cases a:d.1=t.1
   ·refine⟨dR t,iR g i,?_⟩
    have:f d=f (dR t):=by
     have:=all d.2 (by rw[<-a];exact j)
     rw[<-a] at this;exact this
    show(if t.2=t.1 then m else f (dR t))=v;rw[mo k,<-this,e]
   ·exact⟨d,j,by show(if d.1=t.1 then m else f d)=v;rw[mo a,e]⟩
structure mz (w:W) (L:List Dt):Prop where
 dart:∀d∈L,aC w d
 nd:L.Nodup
 nf:∀d∈L,dR d∉L
theorem mz.cons{w:W}(g:Good w){L:List Dt}(h:mz w L){t:Dt}(b:aC w t)(n:¬Rl L t):mz w (t::L):=by
 refine⟨λd a=>?_,b7.mpr ⟨λz=>n (.inl z),h.nd⟩,λd a z=>?_⟩
 ·rcases br.mp a with rfl|z
  ·exact b
  ·exact h.dart _ z
 ·rcases br.mp a with rfl|y
  ·rcases br.mp z with z|z
   ·exact NF g b z
   ·exact n (.inr z)
  ·rcases br.mp z with z|z
   ·exact n (.inr (by rw[<-z];exact y))
   ·exact h.nf _ y z
def both(L:List Dt):List Dt:=L++L.map dR
theorem jV(L:List Dt):(both L).length=2*L.length:=by unfold both;rw[bZ,aD];omega
theorem gS{d:Dt}:d∈both L↔Rl L d:=by
 unfold both Rl;rw[bR,aZ]
 constructor
 ·rintro(z| ⟨e,z,rfl⟩)
  ·exact .inl z
  ·exact .inr z
 ·rintro(z|z)
  ·exact .inl z
  ·exact .inr ⟨_,z,rfl⟩
theorem mz.both{w:W}(h:mz w L):(both L).Nodup:=by
 unfold Wb.both;refine dB.mpr ⟨h.nd,?_,λa c b d z=>?_⟩
 ·refine(gY).mpr (h.nd.imp λ {a b} ne z=>ne ?_)
  exact FS dR z
 ·subst z
  obtain⟨e,g,rfl⟩:=aZ.mp d;exact h.nf _ g c
theorem mz.sub{w:W}(g:Good w)(h:mz w L):∀d∈Wb.both L,d∈aX w:=λd a=>by
 rcases gS.mp a with z|z
 ·exact aT.mpr (h.dart _ z)
 ·exact aT.mpr (iR g (h.dart _ z))
theorem HJ{w:W}(g:Good w){f:Dt->Nat}(b:∀d,aC w d->f (eB w d)=f d)(c:Na w f n)(all:∀d,aC w d->Rl L d):AV w L n:=
 ⟨f,λd a=>by unfold ph;rw[tz (all d a)];exact b d a,c⟩
theorem fill{w:W}(g:Good w){f:Dt->Nat}(c:∀d,aC w d->f (eB w d)=f d):∀(m:Nat)(L:List Dt)(n:Nat),mz w L->2*(L.length+m)=fP w->Na w f (n+m)->AV w L n
 |0,L,n,h,e,a=>by
  refine HJ g c a λd k=>?_;apply Do;intro z;have l:(d::both L).Nodup:=b7.mpr ⟨λy=>z (gS.mp y),h.both⟩
  have:=az l (m:=aX w) λx b=>by
   rcases br.mp b with rfl|y
   ·exact aT.mpr k
   ·exact h.sub g _ y
  rw[cD,jV,df] at this;omega
 |m+1,L,n,h,e,a=>by
  have:∃t,aC w t/\¬Rl L t:=by
   apply Do;intro z
   have:=az (bW g) (m:=both L) λx b=>gS.mpr (Do λy=>z ⟨x,aT.mp b,y⟩)
   rw[jV,df] at this;omega
  obtain⟨t,i,j⟩:=this;refine HI g i j (fill g c m (t::L) (n+1) (h.cons g i j) (by rw[cD];omega) ?_)
  rw[show n+1+m=n+(m+1) by omega];exact a
theorem OA{w:W}(g:Good w){T:List Nat}(ne:∃p∈T,p<w.length)(h:∃q,q<w.length/\q∉T):∃v u,aC w (v,u)/\v∉T/\u∈T:=by
 obtain⟨p,i,lp⟩:=ne;obtain⟨q,d,e⟩:=h;have r:Reach w p q:=(Reach.symm g.sym (g.con p lp)).trans (g.con q d);clear d
 induction r with
 |refl=>exact absurd i e
 | @step a b r j k=>
  by_cases c:a∈T
  ·exact⟨b,a,g.sym _ _ j,e,c⟩
  ·exact k c
theorem grow{w:W}(g:Good w):∀(k:Nat)(T:List Nat)(L:List Dt),T.Nodup->(∀p∈T,p<w.length)->T≠ []->T.length+k=w.length->mz w L->(∀d∈L,d.1∈T/\d.2∈T)->∃i,i.length=L.length+k/\mz w i/\∀n,AV w i n->AV w L (n+k)
 |0,T,L,_,_,_,_,h,_=>⟨L,rfl,h,λn c=>c⟩
 |k+1,T,L,r,lt,ne,G,h,b=>by
  have:∃q,q<w.length/\q∉T:=by
   apply Do;intro z
   have:=az rE (m:=T) λx s=>Do λy=>z ⟨x,bT.mp s,y⟩
   rw[fG] at this;omega
  rfl';obtain⟨a,A,rfl⟩:=List.exists_cons_of_ne_nil ne;obtain⟨v,u,o,j,B⟩:=OA g ⟨a,bE ..,lt _ (bE ..)⟩ this;ac_rfl
  have C:¬Rl L (v,u):=λz=>by
   rcases z with z|z
   ·exact j (b _ z).1
   ·exact j (b _ z).2
  obtain⟨i,e,E,c⟩:=grow g k (v::a::A) ((v,u)::L) (b7.mpr ⟨j,r⟩) (λp F=>by
   rcases br.mp F with rfl|z
   ·exact bD o
   ·exact lt _ z) (by simp) (by rw[cD];omega) (h.cons g o C) (λd l=>by
   rcases br.mp l with rfl|z
   ·exact⟨bE ..,bV _ B⟩
   ·exact⟨bV _ (b _ z).1,bV _ (b _ z).2⟩)
  refine⟨i,by rw[e,cD];omega,E,λn cn=>?_⟩
  rw[show n+(k+1)=n+k+1 by omega]
  exact HK g o (λd l=>⟨λz=>j (by have:=(b _ l).1;rw[z] at this;exact this),λz=>j (by have:=(b _ l).2;rw[z] at this;exact this)⟩) (c n cn)
theorem ku(p:b->Bool):∀R:List b,R.length=(R.filter p).length+(R.filter λd=>!p d).length
 | []=>rfl
 |a::R=>by
  have c:=ku p R;rw[vd,vd];cases e:p a<;>simp<;>omega
theorem each [DecidableEq g] (f:g->Nat) (k:Nat):∀(e:List Nat)(R:List g),e.Nodup->R.Nodup->(∀v∈e,∃l:List g,l.Nodup/\k<=l.length/\∀d∈l,d∈R/\f d=v)->k*e.length<=R.length
 | [],R,_,_,_=>by simp
 |v::e,R,j,p,h=>by
  obtain⟨l,q,t,n⟩:=h v (bE ..)
  have x:=each f k e (R.filter λd=>!decide (f d=v)) (b7.mp j).2 (p.filter _) λu o=>by
   obtain⟨m,r,s,i⟩:=h u (bV _ o);refine⟨m,r,s,λd c=>⟨fO.mpr ⟨(i d c).1,?_⟩,(i d c).2⟩⟩;have z:¬f d=v:=λz=>(b7.mp j).1 (((i d c).2.symm.trans z)▸o)
   rw[FM z];rfl
  have a:=az q (m:=R.filter λd=>decide (f d=v)) λd c=>fO.mpr ⟨(n d c).1,GE (n d c).2⟩;have b:=ku (λd=>decide (f d=v)) R;rw[cD,Nat.mul_add,Nat.mul_one];omega
theorem r9{w:W}(g:Good w){f:Dt->Nat}(a:Cg w L f)(b:aC w (p,q))(h:Rl L (p,q))(i:∃r,r≠p/\r∈row w q/\Rl L (q,r)):∃r,r≠p/\r∈row w q/\Rl L (q,r)/\f (q,r)=f (p,q):=by
 apply Do;intro z
 have all:∀x∈row w q,f (q,x)=f (p,q):=rot_all (g.nod _) (u:=p) (g.sym _ _ b) (λx=>f (q,x)=f (p,q)) (by
   have:=a _ b
   unfold ph at this;rw[tz h] at this;exact this) λx c ne e=>by
  have j:¬Rl L (q,x):=λy=>z ⟨x,ne,c,y,e⟩
  have:=a (q,x) c
  unfold ph at this;rw[mo j] at this;exact this.trans e
 obtain⟨r,k,d,l⟩:=i;exact z ⟨r,k,d,l,all r d⟩
theorem qg{w:W}(g:Good w){f:Dt->Nat}(c:Cg w L f)(b:aC w (p,q))(h:∀d,aC w d->f d=f (p,q)->¬Rl L d):∀x∈row w p,f (p,x)=f (p,q):=by
 have st:∀x∈row w p,f (p,x)=f (p,q)->f (p,aN (row w p) x)=f (p,q):=λx a e=>by
  have:=c (p,x) a
  unfold ph at this;rw[mo (h (p,x) a e)] at this;exact this.trans e
 exact rot_all (g.nod _) (u:=q) b (λx=>f (p,x)=f (p,q)) (st q b rfl) λx a _ e=>st x a e
theorem CZ{w:W}(g:Good w){L:List Dt}(o:mz w L){S:List Nat}(N:S.Nodup)(lt:∀p∈S,p<w.length)(two:∀p∈S,∀q,∃r,r≠q/\r∈row w p/\Rl L (p,r))(t:∀d∈L,d.1∈S/\d.2∈S){n:Nat}(c:AV w L n):3*n<=3*(w.length-S.length)+2*L.length:=by
 obtain⟨f,u,A,C,rfl,O⟩:=c
 have E:∀{d:Dt},Rl L d->aC w d/\d.1∈S/\d.2∈S:=λ {d} h=>by
  rcases h with z|z
  ·exact⟨o.dart _ z,t _ z⟩
  ·exact⟨iR g (o.dart _ z),(t _ z).2,(t _ z).1⟩
 let P:Nat->Bool:=λv=>decide (∃d∈both L,f d=v)
 have e:=ku P A
 have a:3*(A.filter P).length<=(both L).length:=each f 3 _ _ (C.filter _) o.both λv B=>by
  rfl';obtain⟨⟨p,q⟩,i,rfl⟩:=GT (fO.mp B).2;have F:=gS.mp i;obtain⟨k,pS,R⟩:=E F;obtain⟨r,T,j,l,G⟩:=r9 g u k F (two q R p);obtain⟨_,_,U⟩:=E l;obtain⟨s,s1,s2,X,Y⟩:=r9 g u j l (two r U q);ac_rfl;refine⟨[(p,q),(q,r),(r,s)],?_,bH _,λd H=>?_⟩
  ·have Z:p≠q:=λz=>by have k:q∈row w p:=k;rw[z] at k;exact g.irr _ k
   have n2:q≠r:=λz=>by rw[z] at j;exact g.irr _ j
   simp only[b7,br,adP,or_false,not_or,Prod.mk.injEq,not_and,gK,and_true,not_false_eq_true];exact⟨⟨λz=>absurd z Z,λz=>absurd z.symm T⟩,λz=>absurd z n2⟩
  ·simp only[br,adP,or_false] at H
   rcases H with rfl|rfl|rfl
   ·exact⟨i,rfl⟩
   ·exact⟨gS.mpr l,G⟩
   ·exact⟨gS.mpr X,Y.trans G⟩
 have b:1*(A.filter λv=>!P v).length<=((List.range w.length).filter λp=>!decide (p∈S)).length:=each (λp=>f (p,(row w p).headD 0)) 1 _ _ (C.filter _) (rE.filter _) λv B=>by
  obtain⟨m1,I⟩:=fO.mp B;obtain⟨⟨p,q⟩,i,rfl⟩:=O v m1
  have J:∀d,aC w d->f d=f (p,q)->¬Rl L d:=λd _ e y=>by
   have:P (f (p,q))=true:=GE ⟨d,gS.mpr y,e⟩
   rw[this] at I;exact Bool.noConfusion I
  have all:=qg g u i J;refine⟨[p],by simp,bH _,λx hx=>?_⟩
  rw[cF.mp hx];refine⟨fO.mpr ⟨bT.mpr (bD i),?_⟩,?_⟩
  ·rw[FM];·rfl
   intro z;obtain⟨r,_,j,l⟩:=two p z p;exact J (p,r) j (all r j) l
  ·refine all _ ?_
   have i:q∈row w p:=i;cases e:row w p with
   |nil=>rw[e] at i;cases i
   |cons y ys=>exact bE ..
 have c:=ku (λp=>decide (p∈S)) (List.range w.length);have s:=az N (m:=(List.range w.length).filter λp=>decide (p∈S)) λp M=>fO.mpr ⟨bT.mpr (lt p M),GE M⟩;rw[fG] at c;rw[jV] at a;omega
theorem GR{w:W}(g:Good w)(F:Fc w c):∃f:Dt->Nat,(∀d,aC w d->f (eB w d)=f d)/\Na w f c:=by
 obtain⟨h,t,u,rfl⟩:=F;have E:h.flatten.Nodup:=u.nodup_iff.mpr (bW g)
 have G:∀(i j:Nat)(d:Dt)(a b:List Dt),h[i]? =some a->h[j]? =some b->d∈a->d∈b->i=j:=by
  intro i j d a b e H k x;have y:=(ac5.mp E).2;obtain⟨m,n⟩:=di.mp e;obtain⟨A,B⟩:=di.mp H
  rcases adB i j with z|z|z
  ·have:=(Et.mp y) i j m A z
   rw[n,B] at this;exact absurd rfl (this d k d x)
  ·exact z
  ·have:=(Et.mp y) j i A m z
   rw[n,B] at this;exact absurd rfl (this d x d k)
 have I:∀d,aC w d->∃i a,h[i]? =some a/\d∈a:=λd l=>by
  rfl';obtain⟨a,e,l⟩:=jo.mp (u.mem_iff.mpr (aT.mpr l));obtain⟨i,L⟩:=vU e;ac_rfl;exact⟨i,a,L,l⟩
 let f:Dt->Nat:=λd=>h.findIdx λr=>decide (d∈r)
 have o:∀i a d,h[i]? =some a->d∈a->f d=i:=λi a d e k=>by
  obtain⟨m,n⟩:=di.mp e;have lt:f d<h.length:=List.findIdx_lt_length_of_exists ⟨a,dA e,GE k⟩
  have:=List.findIdx_getElem (w:=lt)
  exact G _ _ d _ a (bJ lt) e (GT this) k
 refine⟨f,λd l=>?_,List.range h.length,rE,fG,λv M=>?_⟩
 ·obtain⟨i,a,e,k⟩:=I d l
  obtain⟨p,q,_⟩:=t a (dA e);rw[o i a d e k,o i a _ e (q.next k)]
 ·have C:=bT.mp M
  obtain⟨p,q,s⟩:=t h[v] (g5 C);exact⟨p,s,o v _ p (bJ C) q.first⟩
def nZ(w:W)(S:List Nat):List Dt:=(aX w).filter λd=>decide (d.1<d.2/\d.1∈S/\d.2∈S)
theorem fi{w:W}:d∈nZ w S↔aC w d/\d.1<d.2/\d.1∈S/\d.2∈S:=by
 unfold nZ;rw[fO,aT,acx]
theorem MW{w:W}(g:Good w)(S:List Nat):mz w (nZ w S):=⟨λd c=>(fi.mp c).1,(bW g).filter _,λd c z=>by
 have a:=(fi.mp c).2.1;have b:d.2<d.1:=(fi.mp z).2.1
 omega⟩
theorem Mm{w:W}(g:Good w){d:Dt}(c:aC w d):Rl (nZ w S) d↔d.1∈S/\d.2∈S:=by
 constructor
 ·rintro(z|z)
  ·exact(fi.mp z).2.2
  ·have:=(fi.mp z).2.2
   exact⟨this.2,this.1⟩
 ·rintro⟨a,b⟩
  have ne:d.1≠d.2:=λz=>by have c:d.2∈row w d.1:=c;rw[z] at c;exact g.irr _ c
  rcases Nat.lt_or_ge d.1 d.2 with z|z
  ·exact .inl (fi.mpr ⟨c,z,a,b⟩)
  ·exact .inr (fi.mpr ⟨iR g c,by show d.2<d.1;omega,b,a⟩)
theorem Xa{w:W}(g:Good w)(F:Fc w c)(e:2*(w.length+c)=fP w+4)(j:S.Nodup)(ne:S≠ [])(lt:∀p∈S,p<w.length):∃p∈S,((row w p).filter λq=>decide (q∈S)).length<=5:=by
 apply Do;intro z;have i:∀p∈S,6<=((row w p).filter λq=>decide (q∈S)).length:=λp h=>Do λy=>z ⟨p,h,by omega⟩
 have l:=MW g S;have u:∀d∈nZ w S,d.1∈S/\d.2∈S:=λd o=>(fi.mp o).2.2
 have x:6*S.length<=(both (nZ w S)).length:=each (λd:Dt=>d.1) 6 S _ j l.both λp h=>by
  refine⟨((row w p).filter λq=>decide (q∈S)).map λq=>(p,q),?_,by rw[aD];exact i p h,λd o=>?_⟩
  ·exact gY.mpr (((g.nod p).filter _).imp λ {a b} ne z=>ne (FS Prod.snd z))
  ·obtain⟨q,A,rfl⟩:=aZ.mp o
   obtain⟨B,C⟩:=fO.mp A;exact⟨gS.mpr ((Mm g (d:=(p,q)) B).mpr ⟨h,GT C⟩),rfl⟩
 rw[jV] at x
 have R:S.length<=w.length:=by
  have:=az j (m:=List.range w.length) λp h=>bT.mpr (lt p h)
  rw[fG] at this;exact this
 have T:0<S.length:=vY.mpr ne;obtain⟨k,E⟩:∃k,S.length+k=w.length:=⟨w.length-S.length,by omega⟩
 obtain⟨s,U,t,G⟩:=grow g k S (nZ w S) j lt ne E l u;obtain⟨f,H,I⟩:=GR g F;have J:=az t.both (t.sub g);rw[jV,df] at J;obtain⟨m,L⟩:∃m,2*(s.length+m)=fP w:=⟨fP w / 2-s.length,by omega⟩
 obtain⟨n,M⟩:∃n,n+m=c:=⟨c-m,by omega⟩
 have cn:=G n (fill g H m s n t L (by rw[M];exact I))
 have:=CZ g l j lt (λp h q=>by
  have X:=i p h;apply Do;intro y
  have:((row w p).filter λq=>decide (q∈S)).length<= [q].length:=az ((g.nod p).filter _) λr N=>by
   obtain⟨v,O⟩:=fO.mp N;rw[cF];apply Do;intro Q;exact y ⟨r,Q,v,(Mm g (d:=(p,r)) v).mpr ⟨h,GT O⟩⟩
  rw[jJ] at this;omega) u cn
 omega
theorem yU(a:l.Nodup)(b:x∈l)(e:aN l x=x):∀y∈l,y=x:=
 rot_all a b (λy=>y=x) e λy _ ne h=>absurd h ne
theorem F4{w:W}(g:Good w)(v:3<=w.length)(R:eV w d r)(i:aC w d):3<=r.length:=by
 obtain⟨k,x,l,y,rfl⟩:=R;rw[cY];refine Do λh=>?_;have m:=g.sym _ _ i;have u:=bD i;have A:=bD m
 by_cases c:k=1
 ·subst c
  have:eB w d=d:=l
  have e:d.2=d.1:=FS Prod.fst this;exact g.irr d.1 (by have:=i;unfold aC at this;rwa [e] at this)
 ·obtain rfl:k=2:=by omega
  have e:eB w (eB w d)=d:=l;have n:aN (row w d.2) d.1=d.1:=FS Prod.fst e;have o:aN (row w (aN (row w d.2) d.1)) d.2=d.2:=FS Prod.snd e;rw[n] at o;have s:=yU (g.nod _) m n;have t:=yU (g.nod _) i o
  by_cases z:0=d.1\/0=d.2
  ·have a:=kM g (S:=λp=>p=d.1\/p=d.2) z (λp q j b=>by
    rcases j with rfl|rfl
    ·exact .inr (t q b)
    ·exact .inl (s q b))
   have B:=a 0 (by omega)
   have C:=a 1 (by omega)
   have E:=a 2 (by omega)
   omega
  ·have a:=kM g (S:=λp=>p≠d.1/\p≠d.2) ⟨λh=>z (.inl h),λh=>z (.inr h)⟩ (λp q j b=>⟨λh=>?_,λh=>?_⟩)
   ·exact(a d.1 u).1 rfl
   ·have:=g.sym _ _ b
    rw[h] at this;exact j.2 (t p this)
   ·have:=g.sym _ _ b
    rw[h] at this;exact j.1 (s p this)
theorem vA:∀a:List (List Dt),(∀r∈a,3<=r.length)->3*a.length<=a.flatten.length
 | [],_=>bH _
 |r::a,h=>by
  have:=vA a λx b=>h x (bV _ b)
  have:=h r (bE ..)
  rw[iI,bZ,cD];omega
theorem LX{w:W}(g:Good w)(a:3<=w.length)(P:iM w):fP w+12<=6*w.length:=by
 rfl';obtain⟨c,⟨h,i,j,n⟩,e⟩:=P;ac_rfl
 have:=vA h λr k=>by
  obtain⟨d,R,l⟩:=i r k;exact F4 g a R l
 rw[j.length_eq,df] at this;omega
theorem LZ:iM [[1],[0]]:=by
 refine⟨1,⟨[[(0,1),(1,0)]],λr a=>?_,?_,rfl⟩,rfl⟩
 ·rw[cF] at a
  subst a;exact⟨(0,1),BM ⟨rfl,rfl,rfl⟩ (by simp) (by decide),(by decide:(1:Nat)∈([1]:List Nat))⟩
 ·exact .refl _
theorem D3(h:x∈l):EE l (ins l (l.idxOf x+1) z) (aN l x) z:=by
 have a:=vR.mpr h;have sg:=kD h
 by_cases c:l.idxOf x+1<l.length
 ·rw[gZ c] at sg
  exact Mb sg
 ·have e:l.idxOf x+1=l.length:=by omega
  rw[e,sP] at sg;rw[e];exact Ma sg
theorem Jm{w:W}(h:eV w d r)(a:k<r.length):r.getD k (0,0)=eB w (r.getD ((k+(r.length-1))%r.length) (0,0)):=by
 have b:(k+(r.length-1))%r.length<r.length:=qv _ (by omega)
 have:=Mn h b
 rw[<-this]
 congr 1
 by_cases c:k=0
 ·subst c
  rw[rG,gZ (show r.length-1<r.length by omega),show r.length-1+1=r.length by omega,sP]
 ·rw[show k+(r.length-1)=(k-1)+r.length by omega,acQ,gZ (show k-1<r.length by omega),show k-1+1=k by omega,gZ a]
end Wb
set_option maxHeartbeats 4000000
namespace xg
open PySem L2 Wb
variable {P:Program} {w:World} {mg:Str->Option Value} {base:Heap} {Z:DC} (T:Txt Z mg)
open Wy
theorem kh(a b:Int)(h:0<b):0<=a%b/\a%b<b:=⟨adV _ (by omega),adp _ h⟩
theorem Ia{P:D->Prop}(h:P (.bl (decide (i=j)))):dC (.int j) a (λb=>sU (.int i) b P):=sV h
theorem Jy(w:W)(i:Nat)(r:List Nat):(w.map ay).set i (ay r)=(w.set i r).map ay:=by rw[um]
theorem rL(l:List a)(k:Nat)(h:k<=l.length):cutD l (some (k:Int)) none=l.drop k:=by
 unfold cutD
 have b:HT.cv l.length 0 (some (k:Int))=k:=by
  simp only[HT.cv]
  split<;>omega
 have c:HT.cv l.length l.length none=l.length:=rfl;rw[b,c];exact List.take_of_length_le (by simp)
theorem fD{w:W}(h:p<w.length):fJ (w.map ay) (p:Int)=some (ay (row w p)):=gd (y6 h)
theorem jh{a:List Nat}{p:Nat}(h:p<a.length):fJ (a.map aq) (p:Int)=some (aq (a.getD p 0)):=gd (by rw[bQ,bB,bJ h];rfl)
theorem gj(I:Nat->DN->Prop)(c:I 0 a)(d:∀(j:Nat)(a:DN),j<n->I j a->∀A:DN->Prop,(∀a,I (j+1) a->A a)->g (aq j) a λe=>b {nx:=A,ct:=A,bk:=E.nx,rt:=E.rt,xc:=E.xc} e)
  (f:∀a,I n a->E.nx a):ke g b E (eC 0 n) a:=Ks I c (λj a i h A k=>by
 have:=d j a i h A k
 unfold aq at this;rw[Int.zero_add];exact this) f
def xh(n:Nat)(a:List Nat):Prop:=a.length=n/\a.Nodup/\∀x∈a,x<n
theorem dh(N:xh n a)(h:x<n):x∈a:=by
 apply Do;intro c
 have:(x::a).length<=(List.range n).length:=az (b7.mpr ⟨c,N.2.1⟩) λy b=>by
  rcases br.mp b with rfl|b
  ·exact bT.mpr h
  ·exact bT.mpr (N.2.2 y b)
 rw[fG,cD,N.1] at this;omega
theorem wW:∀(b:List Nat)(m:Nat),m<b.idxOf x->b[m]? ≠some x
 | [],m,h=>by simp at h
 |a::b,m,h=>by
  rw[adX] at h
  by_cases e:(a==x)=true
  ·rw[e] at h;simp at h
  ·rw[rB.mpr e] at h
   cases m with
   |zero=>intro z;simp at z;exact e (by simp[z])
   |succ m=>rw[vT];exact wW b m (by simpa using h)
theorem Fn{a:List Nat}{x:Nat}{P:D->Prop}(h:x∈a)(q:P (aq (a.idxOf x))):dF (aq x)=true/\(a.map aq).all dF=true/\∃(j:Nat)(z:D),(a.map aq)[j]? =some z/\iG z (aq x)=true/\(∀(m:Nat) z,m<j->(a.map aq)[m]? =some z->iG z (aq x)=false)/\P (.int (j:Nat)):=by
 have b:=vR.mpr h;have e:a[a.idxOf x]? =some x:=by rw[bJ b];exact FS some (AS b)
 refine⟨rfl,cP _,a.idxOf x,aq x,by rw[bQ,e];rfl,by simp[iG,aq],λm z c d=>?_,q⟩
 obtain⟨y,f,rfl⟩:=b8 d
 have:y≠x:=by
  rintro rfl;exact wW _ _ c f
 have:¬((y:Int)=(x:Int)):=by omega
 simpa [iG,aq] using this
theorem fw{a:List Nat}{x:Nat}(h:x∈a):(a.map aq)[a.idxOf x]? =some (aq x)/\iG (aq x) (aq x)=true/\∀(m:Nat) z,m<a.idxOf x->(a.map aq)[m]? =some z->iG z (aq x)=false:=by
 have:=Fn (P:=λd=>d=aq (a.idxOf x)) h rfl
 obtain⟨_,_,j,z,i,k,l,n⟩:=this;have b:=vR.mpr h;have e:a[a.idxOf x]? =some x:=by rw[bJ b];exact FS some (AS b)
 refine⟨by rw[bQ,e];rfl,by simp[iG,aq],λm z c f=>?_⟩
 obtain⟨y,g,rfl⟩:=b8 f
 have:y≠x:=by
  rintro rfl;exact wW _ _ c g
 have:¬((y:Int)=(x:Int)):=by omega
 simpa [iG,aq] using this
theorem sv(n:Nat):eC 0 n=(List.range n).map λ(x:Nat)=>aq x:=by unfold eC aq;simp
theorem nP{g:b->PyData}(h:∀a,(f a).py=some (g a)):∀l:List b,f6 (l.map f)=some (l.map g)
 | []=>rfl
 |a::l=>by
  have:=nP h l
  rw[dD,f6,h a,this];rfl
theorem tZ(r:List Nat):(ay r).py=some (oq r):=by
 unfold ay oq;rw[D.py,nP (g:=nD) (λn=>rfl)];rfl
theorem Ho(w:W):(aU w).py=some (ud w):=by
 unfold aU ud;rw[D.py,nP (g:=oq) tZ];rfl
theorem CF{v w:W}{P:D->Prop}(h:P (.bl (decide (v=w)))):sU (aU v) (aU w) P:=by
 refine⟨_,_,Ho v,Ho w,by have:=CN v;omega,?_⟩
 have:PyData.eqv (ud v) (ud w)=decide (v=w):=by
  by_cases e:v=w
  ·rw[GE e];exact(zZ v w).mpr e
  ·rw[FM e]
   apply rB.mpr;exact λz=>e ((zZ v w).mp z)
 rw[mo cw,this];exact h
theorem CW(a b:List Nat):PyData.eqv (oq a) (oq b)=decide (a=b):=by
 by_cases e:a=b
 ·rw[GE e];exact(uG a b).mpr e
 ·rw[FM e]
  apply rB.mpr;exact λz=>e ((uG a b).mp z)
theorem JW{v w:List Nat}{P:D->Prop}(h:P (.bl (decide (v=w)))):sU (ay v) (ay w) P:=by
 refine⟨_,_,tZ v,tZ w,by have:=pj v;omega,?_⟩
 rw[mo cw,CW];exact h
theorem sW{v w:List Nat}{P:D->Prop}(h:P (.bl (!decide (v=w)))):wc (ay v) (ay w) P:=by
 refine⟨_,_,tZ v,tZ w,by have:=pj v;omega,?_⟩
 rw[tz rfl,CW];exact h
variable {P:Program} {w:World} {mg:Str->Option Value} {base:Heap} {Z:DC} (T:Txt Z mg)
def sj(k:Nat×Nat):PyData:= .tuple [nD k.1,nD k.2]
theorem Me(k:Nat×Nat):(pairD k).py=some (sj k):=by
 unfold pairD;rw[D.py,f6,f6,f6];rfl
theorem zY(a b:Nat×Nat):PyData.eqv (sj a) (sj b)=true↔a=b:=by
 unfold sj nD;simp[PyData.eqv,PyData.eqvAll]
 constructor
 ·rintro⟨c,d⟩;exact UF (by omega) (by omega)
 ·rintro rfl;exact⟨rfl,rfl⟩
variable {P:Program} {w:World} {mg:Str->Option Value} {base:Heap} {Z:DC} (T:Txt Z mg)
def zz(d:Nat×Nat):Int×Int:=(d.1,d.2)
theorem Pu(h:zz a=zz b):a=b:=UF (by have:=(aat h).1;omega) (by have:=(aat h).2;omega)
theorem w9{d:Nat×Nat}{l:List (Nat×Nat)}:zz d∈l.map zz↔d∈l:=by
 rw[aZ];exact⟨λ⟨a,b,e⟩=>by rw[<-Pu e];exact b,λh=>⟨d,h,rfl⟩⟩
def Pb:cg:=λb P=>∃(w:W),b= [.eM w]/\Good w/\w.length<=14/\fP w<64/\∀a:List (Nat×Nat),a.Perm (jU (row w) w.length)->a.Pairwise lexLe->P (.lst (a.map pairD))
theorem QA(I:DN->Prop)(J:o->DN->Prop)(m:o->D)(f:o->List u)(v:u->D)(p:o->u->Bool)(k:o->u->B)(i:B->D)(G:∀y H,J y H->I H):∀(l:List o)(j:DN)(a:List B)(P:List D->Prop),
  (∀y∈l,∀j,I j->∀(Y:DN->List D->Prop),(∀d,J y d->Y d ((f y).map v))->g (m y) j λd=>A d (Y d))->
  (∀y∈l,∀b∈f y,∀j,J y j->∀(Y:DN->D->Prop)(x:DN->Prop),(∀d,J y d->p y b=true->Y d (i (k y b)))->(∀d,J y d->p y b=false->x d)->r (v b) j λd=>s d λc=>if c=true then t d (Y d) else x d)->
  I j->a.length+(l.flatMap λy=>((f y).filter (p y)).map (k y)).length<=sizeLine->(∀y∈l,a.length+(l.flatMap λy=>((f y).filter (p y)).map (k y)).length+(f y).length<=sizeLine)->P ((a++l.flatMap λy=>((f y).filter (p y)).map (k y)).map i)->qP g xI A r s t (l.map m) j (a.map i) P
 | [],j,a,P,_,_,L,_,_,h=>by
  show P (a.map i);simpa using h
 |y::l,j,a,P,M,N,L,n,O,h=>by
  have C:=O y (bE ..);rw[vc,bZ] at n C;refine M y (bE ..) j L (λd Q=>lcW r s t Q d (a.map i) λq R=>qP g xI A r s t (l.map m) q R P) λd E=>?_;refine kR (J y) v (p y) (λb=>i (k y b)) (f y) d (a.map i) _ (λb S q F Y x U X=>?_) E (by rw[aD];omega) λq F=>?_
  ·exact N y (bE ..) b S q F Y x U X
  ·have e:a.map i++((f y).filter (p y)).map (λb=>i (k y b))=(a++((f y).filter (p y)).map (k y)).map i:=by rw[cJ,bU];rfl
   rw[e];refine QA I J m f v p k i G l q (a++((f y).filter (p y)).map (k y)) P (λz n=>M z (bV _ n)) (λz n=>N z (bV _ n)) (G y q F) (by rw[bZ];omega) (λz n=>?_) ?_
   ·have:=O z (bV _ n)
    rw[vc,bZ] at this;rw[bZ];omega
   ·rw[vc] at h
    rw[iJ];exact h
theorem nK:FnOk P w Z.K mg base b9 1 T.m_ties.f T.m_ties.fd ["self"] (aV Z Pb):=by
 have M:=t6.nd;refine aY T.m_ties.F t6 [0] (by decide) (λu R h=>by obtain⟨_,rfl,_⟩:=h;rfl) (λN A outer s H E u R v h=>?_)
 have x:=v.units;refine⟨_,(ao (aJ (aH (xB x) rfl T.B.sorted ng (ae (Nm (NC:= ["p","row","q"]) (src:= [none,none,none]) rfl (lK (aw kZ)) trivial (kc rfl T.B.enumerate (ae (sZ T.W (aa 0)) ag)) (λ_ _ _=>(Bb 2 rfl (jW (bI 0 (show(["p","row","q"]:List Str).Nodup from by decide+kernel)) (jW (bI 1 (show(["p","row","q"]:List Str).Nodup from by decide+kernel)) xJ)))) (λ_ _ _=>dM) (λ_ _ _=>(bc (aa 1))) (λ_ _ _=>(bI 2 (show(["p","row","q"]:List Str).Nodup from by decide+kernel))) (λ_ _ _=>(jf (aK nJ (aa 0) (aa 2) (aW _)))) (λ_ _ _=>(cz (ae (aa 0) (ae (aa 2) ag))))) ag)))),?_⟩
 obtain⟨a,rfl,g,O,Q,q⟩:=h;have S:=yX g
 have z:hV (a.map ay)=(List.range a.length).map λ(j:Nat)=>D.tup [.int (j:Int),ay (row a j)]:=by
  refine rA λj=>?_;rw[bQ]
  by_cases lt:j<a.length
  ·rw[qq lt]
   cases e:(hV (a.map ay))[j]? with
   |none=>
    have:=List.getElem?_eq_none_iff.mp e
    rw[xM,aD] at this;omega
   |some d=>rw[(Ep e).2];rfl
  ·rw[fj (by rw[xM,aD];omega),fj (by rw[fG];omega)];rfl
 have k:((List.range a.length).flatMap λp=>((row a p).filter λq=>decide (p<q)).map λq=>(p,q))=jU (row a) a.length:=rfl
 have C:∀n,n<=a.length->(jU (row a) n).length<=n*14:=λn=>by
  induction n with
  |zero=>intro _;exact bH _
  |succ n G=>
   intro h
   have:=G (by omega)
   have U:=dO g n;have X:=B5 (λq=>decide (n<q)) (row a n);unfold jU at this ⊢;rw[List.range_succ,List.flatMap_append,bZ];simp only[vc,List.flatMap_nil,m8,aD];omega
 have I:=C a.length (bH _);refine⟨_,rfl,a,rfl,?_⟩;refine(?_:qP _ _ _ _ _ _ (hV (a.map ay)) _ _ _);rw[z];refine QA (λi=>∃o r c,i= [o,r,c]) (λp i=>∃c,i= [some (aq p),some (ay (row a p)),c]) _ (λp=>row a p) aq (λp q=>decide (p<q)) (λp q=>(p,q)) pairD (λy i ⟨c,e⟩=>⟨_,_,_,e⟩) (List.range a.length) _ [] _ (λp t J l Y m=>?_) (λp t b hb J l Y Nn m L=>?_) ⟨none,none,none,rfl⟩ ?_ (λp t=>?_) ?_
 ·obtain⟨o,r,c,rfl⟩:=l
  exact⟨rfl,rfl,_,rfl,m _ ⟨_,rfl⟩⟩
 ·obtain⟨c,rfl⟩:=l
  refine⟨_,rfl,_,rfl,_,rfl,?_⟩;refine(?_:if decide ((p:Int)<(b:Int))=true then _ else _);rw[show decide ((p:Int)<(b:Int))=decide (p<b) from acr.mpr (by omega)]
  exact bg (λe=>⟨_,rfl,_,rfl,by show 2<=sizeLine;decide,m _ ⟨_,rfl⟩ e⟩) (λe=>L _ ⟨_,rfl⟩ e)
 ·rw[k,jq,rG];exact small (by omega)
 ·have:=dO g p
  rw[k,jq,rG];exact small (by omega)
 ·rw[k,qu]
  exact⟨_,rfl,by omega,q⟩
def Jq:cg:=λa P=>∃(w:W)(p q:Nat),a= [.eM w,aq p,aq q]/\Good w/\q∈row w p/\P (aq (aN (row w p) q))
theorem pG:FnOk P w Z.K mg base b9 1 T.m_behind.f T.m_behind.fd ["self","p","q"] (aV Z Jq):=by
 have k:=pU.nd;refine aY T.m_behind.F pU [0,0,0,0] (by decide) (λl R h=>by obtain⟨_,_,_,rfl,_⟩:=h;rfl) (λt A outer s H E l R m h=>?_)
 have u:=m.units
 refine⟨_,(af (aS false 3 k (aE (sZ T.W (aa 0)) (aa 1)))
   (ao (aJ (aE (aa 3) (aF cB (aF bP (qy (aa 3) (aa 2)) au) (aH bz rfl T.B.len bx (ae (aa 3) ag))))))),?_⟩
 obtain⟨a,p,b,rfl,g,c,q⟩:=h;have n:=bD c;have v:=dO g p;have e:((row a p).map aq).length=(row a p).length:=aD _;have d:0<(row a p).length:=qp c;have o:(0:Int)<(((row a p).map aq).length:Int):=by rw[e];omega
 refine⟨_,rfl,a,rfl,_,rfl,_,fD n,trivial,?_⟩;refine⟨_,rfl,_,rfl,_,rfl,_,rfl,rfl,cP _,_,_,(fw c).1,(fw c).2.1,(fw c).2.2,?_⟩;refine⟨_,rfl,o,?_⟩;have em:(((row a p).idxOf b:Nat):Int)+1=(((row a p).idxOf b+1:Nat):Int):=by omega
 have r:((((row a p).idxOf b:Nat):Int)+1)%(((row a p).map aq).length:Int)=((((row a p).idxOf b+1)%(row a p).length:Nat):Int):=by rw[e,em,Int.natCast_emod]
 refine⟨aq (aN (row a p) b),?_,q⟩;show fJ ((row a p).map aq) ((λi j=>i%j) _ _)=_;dsimp only;rw[r];exact jh (qv _ d)
theorem HN{P:D->Prop}(h:P (.bl (!decide (a=b)))):wc (pairD a) (pairD b) P:=by
 refine⟨_,_,Me a,Me b,by unfold sj nD;simp[PyData.depth,PyData.depthAll],?_⟩
 have:PyData.eqv (sj a) (sj b)=decide (a=b):=by
  by_cases e:a=b
  ·rw[GE e];exact(zY a b).mpr e
  ·rw[FM e]
   apply rB.mpr;exact λz=>e ((zY a b).mp z)
 rw[tz rfl,this];exact h
def MK:cg:=λa P=>∃(w:W)(d:Nat×Nat),a= [.eM w,pairD d]/\Good w/\w.length<=14/\aC w d/\∀r,eV w d r->P (.lst (r.map pairD))
theorem yA:FnOk P w Z.K mg base b9 2 T.d_round_from.f T.d_round_from.fd ["web","side"] (aV Z MK):=by
 have i:=qa.nd;refine aY T.d_round_from.F qa [0,0,1,0,0] (by decide) (λv R h=>by obtain⟨_,_,rfl,_⟩:=h;rfl) (λB A outer s H E v R n h=>?_)
 have x:=n.units
 refine⟨_,(af (cA 2 i (eN (ae (aa 1) ag)))
   (af (wJ (aa 1) (hU 2 rfl (bG (aM 3 i) (bG (aM 4 i) eX))))
   (af (GN 3 4 rfl i (ae (aa 4) (ae (CL T.W (aa 0) T.m_behind.m (pG T) (n.mono (by decide)) T.m_behind.b (ae (aa 4) (ae (aa 3) ag))) ag)))
   (af (mF FB (aK (pF x) (cz (ae (aa 3) (ae (aa 4) ag))) (aa 1) (aW _)) (af (fu false 2 (cz (ae (aa 3) (ae (aa 4) ag))))
   (ao (GN 3 4 rfl i (ae (aa 4) (ae (CL T.W (aa 0) T.m_behind.m (pG T) (n.mono (by decide)) T.m_behind.b (ae (aa 4) (ae (aa 3) ag))) ag))))))
   (ao (aJ (aa 2))))))),?_⟩
 obtain⟨a,d,rfl,g,t,o,q⟩:=h;have C:=iP g;have G:a.length*a.length<=14*14:=vg t t;refine⟨_,rfl,by show 1<=sizeLine;decide,?_⟩
 refine⟨_,rfl,rfl,rfl,?_⟩;refine⟨_,rfl,_,rfl,a,rfl,_,rfl,_,rfl,a,d.2,d.1,rfl,g,g.sym _ _ o,_,_,rfl,?_⟩;refine kE (λm y=>∃k,0<k/\m+k=(aX a).length+1/\(∀j,0<j->j<k->ba a j d≠d)/\y= [some (.eM a),some (pairD d),some (.lst ((walk a d k).map pairD)),some (aq (ba a k d).1),some (aq (ba a k d).2)]) (aX a).length ⟨1,by omega,rfl,λj l u=>by omega,rfl⟩ ?_
 rintro m _ ⟨k,z,I,p,rfl⟩;have r:=cG g o k;refine⟨_,rfl,_,rfl,by show 2<=sizeLine;decide,_,rfl,?_⟩
 refine(?_:wc (pairD (ba a k d)) (pairD d) _);refine HN ⟨_,rfl,bg (λe=>?_) (λe=>?_)⟩
 ·have ne:ba a k d≠d:=by simpa using e
  have lt:k<(aX a).length:=by
   have:=y4 g o (k:=k+1) λj l u=>by
    by_cases c:j=k
    ·subst c;exact ne
    ·exact p j l (by omega)
   omega
  refine⟨_,rfl,_,rfl,_,rfl,by show 2<=sizeLine;decide,trivial,cq (by rw[aD,cY];omega),?_⟩
  refine⟨_,rfl,_,rfl,a,rfl,_,rfl,_,rfl,a,(ba a k d).2,(ba a k d).1,rfl,g,g.sym _ _ r,_,_,rfl,?_⟩;refine⟨m-1,by omega,k+1,by omega,by omega,λj l u=>?_,?_⟩
  ·by_cases c:j=k
   ·subst c;exact ne
   ·exact p j l (by omega)
  ·rw[sI,cJ];rfl
 ·have e:ba a k d=d:=by simpa using e
  exact⟨_,rfl,q _ ⟨k,z,e,p,rfl⟩⟩
def wR(a:List (List (Nat×Nat))):D:= .lst ((a.map λr=>r.map (·.1)).map ay)
def ME:cg:=λb P=>∃(w:W),b= [.eM w]/\Good w/\1<=w.length/\w.length<=14/\fP w<64/\(w.length=1->P (.lst [ay [0]]))/\(2<=w.length->∀a,cT w a->lR w=h7 a->P (.lst ((lR w).map ay)))
theorem IB(h:d∉l):Dj (l.map zz) (zz d)=(l++ [d]).map zz:=by
 unfold Dj;rw[mo (λz=>h (w9.mp z)),cJ];rfl
theorem FQ:FnOk P w Z.K mg base b9 3 T.d_lands.f T.d_lands.fd ["web"] (fY Z 2 ME):=by
 have I:=AI.nd;refine iS 2 T.d_lands.F AI [0,98,2,0,0,0] (by decide) (λv R h=>by obtain⟨_,rfl,_⟩:=h;rfl) (λbF A outer s H E v R o h=>?_)
 have J:=o.units
 refine⟨_,(af (bq (aK (fL J) (dY T.W (aa 0) T.m_many.m (jQ T) (o.mono (by decide)) T.m_many.b) au (aW _)) (ao (CQ (Nq (eN (ae au ag))))) aL)
   (af (HY 1 I rfl T.x_set)
   (af (cA 2 I (J7 1))
   (af (cC rfl FB (bc (aH (xB J) rfl T.B.sorted ng (ae (aF bP (dY T.W (aa 0) T.m_ties.m (nK T) (o.mono (by decide)) T.m_ties.b) (nj (NC:= ["a","b"]) (src:= [none,none]) rfl (lK (aw pT)) trivial (bc (dY T.W (aa 0) T.m_ties.m (nK T) (o.mono (by decide)) T.m_ties.b)) (λ_ _ _=>(Bb 2 rfl (jW (bI 0 (show(["a","b"]:List Str).Nodup from by decide+kernel)) (jW (bI 1 (show(["a","b"]:List Str).Nodup from by decide+kernel)) xJ)))) (λ_ _ _=>dM) (λ_ _ _=>(cz (ae (aa 1) (ae (aa 0) ag)))))) ag))) (aM 3 I) (ao (bq (aK (FN J) (aa 3) (aa 1) (by with_unfolding_all rfl)) (af (aS false 4 I (aA T.d_round_from (yA T) o (ae (aa 0) (ae (aa 3) ag))))
   (af (cC rfl FB (bc (aa 4)) (aM 5 I) (ao (Kc false 1 J (aa 5))))
   (ao (HW 2 (ET (NC:= ["p","q"]) (src:= [none,none]) rfl (lK (aw pT)) trivial (bc (aa 4)) (λ_ _ _=>(Bb 2 rfl (jW (bI 0 (show(["p","q"]:List Str).Nodup from by decide+kernel)) (jW (bI 1 (show(["p","q"]:List Str).Nodup from by decide+kernel)) xJ)))) (λ_ _ _=>dM) (λ_ _ _=>(aa 0))))))) aL)))
   (ao (CT 2 J rfl T.B.sorted)))))),?_⟩
 obtain⟨n,rfl,g,h1,L,rM,q1,q2⟩:=h;have c1:=iP g;have c3:=df n;have c2:n.length*n.length<=14*14:=vg L L;have lw:(n.map ay).length=n.length:=aD _;refine⟨_,rfl,n,rfl,n,rfl,?_⟩;refine Ia ⟨_,rfl,bg (λe=>?_) (λe=>?_)⟩
 ·have e:n.length=1:=by have:=GT e;omega
  exact⟨by show 1<=sizeLine;decide,q1 e⟩
 have n2:2<=n.length:=by have:=GM e;omega
 refine⟨by show 0<=sizeLine;decide,?_⟩
 refine⟨_,rfl,n,rfl,n,rfl,g,L,rM,λts G S=>?_⟩;have tl:=yX g;rw[<-df] at tl;have tl2:=G.length_eq;refine⟨_,rfl,n,rfl,n,rfl,g,L,rM,λy FX QP=>?_⟩;have e2:y=ts:=adO (λ_ _ _ _=>Am) QP S (FX.trans G.symm);subst e2;refine kR (λC=>∃N O,C= [N,O]) pairD (λ_=>true) (λt=>pairD (t.2,t.1)) y _ [] _ (λt ht aR Q Y Nn hY hN=>?_) ⟨none,none,rfl⟩ (by rw[jq,rG];exact small (by omega)) λaR Q=>?_
 ·obtain⟨N,O,rfl⟩:=Q
  exact⟨rfl,rfl,QV ⟨_,rfl,_,rfl,by show 2<=sizeLine;decide,hY _ ⟨_,_,rfl⟩ rfl⟩⟩
 have pd:=xy g G;have pl:=pd.length_eq;rw[bZ,aD] at pl;have ef:y.filter (λ_=>true)=y:=by simp
 rw[qu,ef];refine⟨by rw[aD,aD];exact small (by omega),?_⟩
 have ej:(.lst (y.map pairD++y.map λt=>pairD (t.2,t.1)):D)= .lst ((y++y.map λt=>(t.2,t.1)).map pairD):=by rw[cJ,bU];rfl
 dsimp only[sX];rw[ej];refine⟨_,rfl,by rw[bZ,aD];omega,λv U abD=>?_⟩
 have U:=U.trans pd;have all:∀e,aC n e->e∈v:=λe h=>U.mem_iff.mpr (aT.mpr h);have dart:∀e∈v,aC n e:=λe h=>aT.mp (U.mem_iff.mp h);clear G FX S QP ej pd ef;refine bO (λi C=>∃(j:List (List (Nat×Nat)))(o3 o4 q:Option D),C= [some (.eM n),some (.x (.tW (cI w) (j.flatten.map zz))),some (wR j),o3,o4,q]/\Wk n v i j) ⟨[],none,none,none,rfl,Wk.zero n v⟩ ?_ ?_
 ·rintro i d _ hd ⟨j,o3,o4,q,rfl,hw⟩ A X
  obtain⟨e,he,rfl⟩:=b8 hd;have de:=dart e (dA he);refine⟨_,rfl,_,rfl,zz e,j.flatten.map zz,rfl,rfl,_,rfl,?_⟩;refine(?_:if (if true=true then !decide (zz e∈j.flatten.map zz) else _)=true then _ else _);rw[tz rfl,show decide (zz e∈j.flatten.map zz)=decide (e∈j.flatten) from acr.mpr w9]
  have sub:∀x∈j.flatten,x∈aX n:=λx u=>by
   obtain⟨r,o,hxr⟩:=jo.mp u;obtain⟨d,R,dd,_⟩:=hw.rnd r o;exact aT.mpr (R.aX g dd x hxr)
  have fl:=az hw.nod sub;refine bg (λc=>?_) (λc=>?_)
  ·have c:e∉j.flatten:=by simpa using c
   refine⟨_,rfl,_,rfl,n,e,rfl,g,L,de,λr R=>⟨trivial,?_⟩⟩;have X7:=hw.take g all dart abD he c R;have rd:∀x∈r,x∈aX n:=λx u=>aT.mpr (R.aX g de x u);have rl:=az (R.nodup g de) rd;have Tu:(j.flatten++r).Nodup:=by have:=X7.nod;rw[vZ] at this;simpa using this
   have Sm:(j.flatten++r).length<=(aX n).length:=az Tu λx u=>(bR.mp u).elim (sub x) (rd x);rw[bZ] at Sm;refine⟨_,rfl,?_⟩;refine bO (λk C=>∃q,C= [some (.eM n),some (.x (.tW (cI w) ((j.flatten++r.take k).map zz))),some (wR j),some (pairD e),some (.lst (r.map pairD)),q]) ⟨q,by rw[List.take_zero,m8];rfl⟩ ?_ ?_
   ·rintro k d _ hd ⟨q,rfl⟩ A X
    obtain⟨x,u,rfl⟩:=b8 hd;have hk:=(di.mp u).1;have tk:r.take (k+1)=r.take k++ [x]:=by rw[rF,u];rfl
    have nx:x∉j.flatten++r.take k:=λz=>by
     have sp:j.flatten++r=(j.flatten++r.take k)++(x::r.drop (k+1)):=by
      rw[iJ,<-di.mp u|>.2,List.getElem_cons_drop,jK]
     rw[sp] at Tu;exact(dB.mp Tu).2.2 x z x (bE ..) rfl
    refine⟨_,rfl,_,rfl,zz x,rfl,by rw[aD,bZ,lF];omega,?_⟩
    rw[IB nx,iJ,<-tk];exact X _ ⟨_,rfl⟩
   ·rintro _ ⟨q,rfl⟩
    rw[aD,rD]
    have dl:j.length<=300:=by
     have h:∀p:List (List (Nat×Nat)),(∀r∈p,r≠ [])->p.length<=p.flatten.length:=λp=>by
      induction p with
      |nil=>intro _;exact bH _
      |cons a l ih=>
       intro h;have h1:=vY.mpr (h a (bE ..));have h2:=ih λr o=>h r (bV _ o);rw[iI,bZ,cD];omega
     have:=h j λr o z=>by
      obtain⟨d,R,_,_⟩:=hw.rnd r o
      have:=R.first
      rw[z] at this;cases this
     omega
    refine⟨_,rfl,_,rfl,?_⟩;refine kR (λC=>∃N O,C= [N,O]) pairD (λ_=>true) (λt=>aq t.1) r _ [] _ (λt ht aR Q Y Nn hY hN=>?_) ⟨none,none,rfl⟩ (by rw[jq,rG];exact small (by omega)) λaR Q=>?_
    ·obtain⟨N,O,rfl⟩:=Q
     exact⟨rfl,rfl,QV ⟨_,rfl,hY _ ⟨_,_,rfl⟩ rfl⟩⟩
    rw[qu,show r.filter (λ_=>true)=r by simp]
    refine⟨cq (by rw[aD,aD];omega),?_⟩
    refine X _ ⟨j++ [r],some (pairD e),some (.lst (r.map pairD)),q,?_,X7⟩
    have e1:wR (j++ [r])= .lst ((j.map λr=>r.map (·.1)).map ay++ [.lst (r.map λt=>aq t.1)]):=by
     unfold wR ay;rw[cJ,cJ];simp only[dD,adI,bU];rfl
    rw[e1,vZ,show[r].flatten=r by simp];rfl
  ·have c:e∈j.flatten:=by simpa using c
   exact X _ ⟨j,_,_,_,rfl,hw.skip he c⟩
 ·rintro _ ⟨j,o3,o4,q,rfl,hw⟩
  have hw:Wk n v v.length j:=by rw[aD] at hw;exact hw
  have fin:=hw.fin g all;have R:cT n j:=⟨hw.rnd,fin⟩
  have dl:j.length<64:=by
   have h:∀p:List (List (Nat×Nat)),(∀r∈p,r≠ [])->p.length<=p.flatten.length:=λp=>by
    induction p with
    |nil=>intro _;exact bH _
    |cons a l ih=>
     intro h;have h1:=vY.mpr (h a (bE ..));have h2:=ih λr o=>h r (bV _ o);rw[iI,bZ,cD];omega
   have:=h j λr o z=>by
    obtain⟨d,R,_,_⟩:=hw.rnd r o
    have:=R.first
    rw[z] at this;cases this
   have:=fin.length_eq
   omega
  refine⟨j.map (λr=>r.map (·.1)),rfl,by rw[aD];omega,λM G S=>?_⟩
  obtain⟨p,p',rfl⟩:=L2.tU (λr:List (Nat×Nat)=>r.map (·.1)) M j G;have R':=R.LB p';have e:=IF g R' S
  have:=q2 n2 p R' e
  rw[e] at this;exact this
variable {P:Program} {w:World} {mg:Str->Option Value} {base:Heap} {Z:DC} (T:Txt Z mg)
theorem wZ(I:DN->Prop)(h:∀b:eS,(∀a,I a->b.nx a)->zR c t uB b a)(k:∀a,I a->u E a):dSeq (zR c t uB) u E a:=h _ k
theorem wG(b:DN)(e:a=b)(h:dSeq t u E b):dSeq t u E a:=by rw[e];exact h
theorem nH(h:p<n):jN n (p:Int)=some p:=by
 unfold jN;rw[tz (by omega),tz (by omega)]
 exact FS some (by omega)
theorem Fv{w:W}(h:lR w≠ []):(lR w).Pairwise mM:=by
 unfold lR at h ⊢
 split
 ·next z=>exact z.choose_spec.2
 ·next z=>rw[dif_neg z] at h;exact absurd rfl h
variable {P:Program} {w:World} {mg:Str->Option Value} {base:Heap} {Z:DC} (T:Txt Z mg)
def Rs(w:W)(a:List (List (Nat×Nat))):Prop:=(w.length=1/\a= [[(0,0)]])\/(2<=w.length/\cT w a)
theorem Fw{w:W}{P:D->Prop}(g:Good w)(h:∀b,Rs w b->(h7 b).Pairwise mM->P (.lst ((h7 b).map ay))):(w.length=1->P (.lst [ay [0]]))/\(2<=w.length->∀b,cT w b->lR w=h7 b->P (.lst ((lR w).map ay))):=by
 refine⟨λf=>h [[(0,0)]] (.inl ⟨f,rfl⟩) (Ex _ _),λc b R e=>?_⟩
 have ne:lR w≠ []:=λz=>by
  rw[z] at e
  have d:b= []:=by
   cases b with
   |nil=>rfl
   |cons a l=>cases e
  have i:=R.perm.length_eq;rw[d] at i;have k:(aX w).length=0:=i.symm
  obtain⟨x,j⟩:∃x,x∈aX w:=by
   cases g.con 1 (by omega) with
   |step f c=>exact⟨_,aT.mpr (show aC w (_,1) from c)⟩
  have:=qp j
  omega
 have s:=Fv ne;rw[e] at s ⊢;exact h b (.inr ⟨c,R⟩) s
def tc(w:W):Nat:=(jU (row w) w.length).length
theorem Pj{w:W}(g:Good w):2*tc w=(aX w).length:=by
 have:=(xy g (.refl _)).length_eq
 rw[bZ,aD] at this;unfold tc;omega
def Mz:cg:=λb P=>∃(w:W),b= [.eM w]/\Good w/\1<=w.length/\w.length<=14/\fP w<64/\∀a,Rs w a->(h7 a).Pairwise mM->P (.tup [.int (w.length:Int), .int (tc w:Int), .int (a.length:Int)])
theorem IY:FnOk P w Z.K mg base b9 4 T.d_count.f T.d_count.fd ["web"] (aV Z Mz):=by
 have v:=AH.nd;refine aY T.d_count.F AH [0] (by decide) (λk R h=>by obtain⟨_,rfl,_⟩:=h;rfl) (λy A outer s H E k R c h=>?_)
 have z:=c.units;refine⟨_,(ao (aJ (cz (ae (dY T.W (aa 0) T.m_many.m (jQ T) (c.mono (by decide)) T.m_many.b) (ae (aH bz rfl T.B.len bx (ae (dY T.W (aa 0) T.m_ties.m (nK T) (c.mono (by decide)) T.m_ties.b) ag)) (ae (aH bz rfl T.B.len bx (ae (aA T.d_lands ((FQ T).imp BS) c (ae (aa 0) ag)) ag)) ag)))))),?_⟩
 obtain⟨a,rfl,g,l,l14,j,q⟩:=h;refine⟨_,rfl,a,rfl,a,rfl,_,rfl,a,rfl,a,rfl,g,l14,j,λe n C=>?_⟩
 obtain⟨o,p⟩:=Fw (P:=λd=>Cq [d] λx=>([.int (a.length:Int), .int ((e.map pairD).length:Int),x]:List D).length<=sizeLine/\R (.tup [.int (a.length:Int), .int ((e.map pairD).length:Int),x])) g λi r s=>by
  refine⟨by show 3<=sizeLine;decide,?_⟩
  have:=q i r s
  have t:(e.map pairD).length=tc a:=by rw[aD,n.length_eq];rfl
  have u:((h7 i).map ay).length=i.length:=by rw[aD,aD]
  rw[t,u];exact this
 exact⟨_,rfl,a,rfl,g,l,l14,j,o,p⟩
def MJ:cg:=λb P=>∃(w:W),b= [.eM w]/\Good w/\1<=w.length/\w.length<=14/\fP w<64/\∀a,Rs w a->(h7 a).Pairwise mM->P (.bl (decide ((w.length:Int)+(a.length:Int)=(tc w:Int)+2)))
theorem BC:FnOk P w Z.K mg base b9 5 T.d_is_plane.f T.d_is_plane.fd ["web"] (aV Z MJ):=by
 have a:=t9.nd;refine aY T.d_is_plane.F t9 [0,0,0,0] (by decide) (λc R h=>by obtain⟨_,rfl,_⟩:=h;rfl) (λm A outer s H E c R b h=>?_)
 have d:=b.units
 refine⟨_,(af (wJ (aA T.d_count (IY T) b (ae (aa 0) ag)) (hU 3 rfl (bG (aM 1 a) (bG (aM 2 a) (bG (aM 3 a) eX)))))
   (ao (aJ (ni (fL d) (aF bP (aa 1) (aa 3)) (aF bP (aa 2) au) (aW _))))),?_⟩
 obtain⟨e,rfl,g,i,l14,j,q⟩:=h;refine⟨_,rfl,e,rfl,g,i,l14,j,λk l s=>?_⟩;refine⟨rfl,rfl,?_⟩;refine⟨_,rfl,_,rfl,_,rfl,?_⟩;exact sV (q k l s)
variable {P:Program} {w:World} {mg:Str->Option Value} {base:Heap} {Z:DC} (T:Txt Z mg)
theorem Rs.len{w:W}(g:Good w)(h:Rs w b)(d:Rs w c):b.length=c.length:=by
 rcases h with ⟨e,rfl⟩ | ⟨e,R⟩
 ·rcases d with ⟨_,rfl⟩ | ⟨f,_⟩
  ·rfl
  ·omega
 ·rcases d with ⟨f,_⟩ | ⟨_,a⟩
  ·omega
  ·exact((qm (R.nodup g) (a.nodup g)).mpr λr=>⟨R.sub a r,a.sub R r⟩).length_eq
theorem j7.rounds{w:W}(g:Good w)(h:j7 w a)(b:a.flatten.Perm (aX w)):cT w (a.map zL):=by
 refine⟨λm c=>?_,(qN xr a).trans b⟩;obtain⟨r,f,rfl⟩:=aZ.mp c;obtain⟨d,R,i⟩:=h r f;obtain⟨e,j,k,l⟩:=HF g R i;exact⟨e,j,k,l⟩
variable {P:Program} {w:World} {mg:Str->Option Value} {base:Heap} {Z:DC} (T:Txt Z mg)
def Jr:cg:=λa P=>∃(b:List Int)(k:Nat),a= [.jF b,aq k]/\∀v:Int,P (.int v)
theorem cu:FnOk P w Z.K mg base b9 1 T.d__law_cell_at.f T.d__law_cell_at.fd ["_law_script","_law_k"] (aV Z Jr):=by
 have g:=mU.nd;refine aY T.d__law_cell_at.F mU [0,0] (by decide) (λa R h=>by obtain⟨_,_,rfl,_⟩:=h;rfl) (λi A outer s H E a R b h=>?_)
 have j:=b.units
 refine⟨_,(af (bq (aK nJ (aa 1) (aH bz rfl T.B.len bx (ae (aa 0) ag)) (aW _)) (ao (aJ (aE (aa 0) (aa 1)))) aL)
   (ao (aJ au))),?_⟩
 obtain⟨c,k,rfl,q⟩:=h;refine⟨_,rfl,_,rfl,?_⟩;refine⟨_,rfl,bg (λe=>?_) (λe=>?_)⟩
 ·have d:k<c.length:=by
   have:=GT e
   omega
  exact⟨_,rfl,_,rfl,_,Cp (bJ d),q _⟩
 ·exact q 0
def MN:cg:=λa P=>∃(i:Int),a= [.int i]/\P (.bl true)
theorem pJ:FnOk P w Z.K mg base b9 1 T.d__law_whole.f T.d__law_whole.fd ["_law_found"] (aV Z MN):=by
 have c:=p6.nd;refine aY T.d__law_whole.F p6 [0] (by decide) (λa R h=>by obtain⟨_,rfl,_⟩:=h;rfl) (λd A outer s H E a R b h=>?_)
 have e:=b.units;refine⟨_,(ao (aJ (nh (qz "int" (aa 0) rfl T.B.isinstance rfl T.B.int GB) (wH (GI (qz "bool" (aa 0) rfl T.B.isinstance rfl T.B.bool Ct)))))),?_⟩;obtain⟨i,rfl,q⟩:=h;exact⟨_,rfl,rfl,true,rfl,eY ⟨_,rfl,rfl,false,rfl,q⟩⟩
def Gd:cg:=λa P=>∃(c k:Int),a= [.int c, .int k]/\(0<=k/\k<1000)/\∀v:Int,P (.int v)
theorem mod_lt(x:Int):0<=x%2147483629/\x%2147483629<2147483629:=⟨adV _ (by decide),adp _ (by decide)⟩
theorem uT:FnOk P w Z.K mg base b9 1 T.d__law_reserve.f T.d__law_reserve.fd ["_law_cell","_law_k"] (aV Z Gd):=by
 have a:=mX.nd;refine aY T.d__law_reserve.F mX [0,0,0] (by decide) (λb R h=>by obtain⟨_,_,rfl,_⟩:=h;rfl) (λe A outer s H E b R d h=>?_)
 have g:=d.units
 refine⟨_,(af (aS false 2 a (aF cB (aF bP (aF cB (aa 0) au) (aF kW au (aF bP (aa 1) au))) au))
   (ao (aJ (aF bP au (aF cB (aF bP (aF bP (aF kW (aa 2) (aa 2)) (aF kW au (aa 2))) (aF kW au (aa 1))) au))))),?_⟩
 obtain⟨c,k,rfl,i,q⟩:=h;refine⟨_,rfl,(by show(0:Int)<2147483629;decide),_,rfl, .inl ⟨by decide,by decide⟩,(by show(0:Int)<2147483629;decide),trivial,?_⟩
 have:=mod_lt (c%2147483629+48271*(k+1))
 refine⟨_,rfl,_,rfl, .inl ⟨by dsimp only;omega,by dsimp only;omega⟩,_,rfl, .inl ⟨by decide,by decide⟩,_,rfl, .inl ⟨by decide,by decide⟩,(by show(0:Int)<2147483629;decide),q _⟩
theorem CH(h:t {E with nx:=u E} a):dSeq t u E a:=h
theorem K6(Ok:Int->Prop)(j:a[i]? =some (some (.int d)))(k:Ok d)(l:∀Q:Bool->Prop,(∀b,Q b)->c a Q)(n:∀Q:D->Prop,(∀x:Int,Ok x->Q (.int x))->g (zE f m a) Q)
  (h:∀x:Int,Ok x->E.nx (a.set i (some (.int x)))):zR c (CI f m i g) uB E a:=by
 refine l _ λb=>bg (λ_=>n _ λx o=>⟨?_,h x o⟩) (λ_=>?_)
 ·cases m
  ·trivial
  ·rfl
 ·have:=h d k
  obtain⟨p,e⟩:=di.mp j;rw[<-e,ac3] at this;exact this
def av(l:List Int):List D:=l.map D.int
theorem x9(l:List Int):(av l).length=l.length:=aD _
theorem vD(l:List Int)(x:Int):av (l++ [x])=av l++ [.int x]:=cJ ..
theorem dN{l:List Int}{p:Nat}(h:p<l.length):fJ (av l) (p:Int)=some (.int (l.getD p 0)):=gd (by unfold av;rw[bQ,bB,bJ h];rfl)
def MB:cg:=λb P=>∃(c:List Int)(k n:Nat),b= [.jF c,aq k,aq n]/\k<=10/\n<=14/\∀a:List Int,a.length=n->P (.lst (av a))
theorem e9:FnOk P w Z.K mg base b9 2 T.d__law_draws.f T.d__law_draws.fd ["_law_script","_law_at","_law_many"] (aV Z MB):=by
 have b:=pW.nd;refine aY T.d__law_draws.F pW [0,0,0,0,1,0,0,0] (by decide) (λp R h=>by obtain⟨_,_,_,rfl,_⟩:=h;rfl) (λx A outer s H E p R g h=>?_)
 have r:=g.units
 refine⟨_,(af (aS false 3 b (aA T.d__law_cell_at (cu T) g (ae (aa 0) (ae (aa 1) ag))))
   (af (cA 4 b (eN ag))
   (af (bq (aK (fL r) (aF cB (aA T.d__law_cell_at (cu T) g (ae (aa 0) (ae au ag))) au) au (aW _)) (af (aS false 5 b (aa 3))
   (af (hJ rfl FB (fq rfl T.B.range (ae (aa 2) ag)) (aM 6 b) (af (bq (aK nJ (aa 3) au (aW _)) (ao (aS false 3 b (aA T.d__law_reserve (uT T) g (ae (aa 5) (ae (aF bP (aF kW au (aa 1)) (aa 6)) ag))))) aL)
   (af (fu false 4 (aF cB (aa 3) (aF Hb au au)))
   (ao (aS false 3 b (aF iq (aa 3) (aF Hb au au)))))))
   (ao (aJ (aa 4))))) aL)
   (af (aS false 7 b (aF cB (aa 3) au))
   (af (hJ rfl FB (fq rfl T.B.range (ae (aa 2) ag)) (aM 6 b) (af (aS false 7 b (aF cB (aF bP (aF bP (aF bP (aF kW (aa 7) (aa 7)) (aF kW au (aa 7))) (aF kW au (aa 6))) au) au))
   (ao (fu false 4 (aF iq (aa 7) au)))))
   (ao (aJ (aa 4)))))))),?_⟩
 obtain⟨i,k,n,rfl,z,C,q⟩:=h;refine⟨_,rfl,_,rfl,i,k,rfl,λc=>⟨trivial,?_⟩⟩;refine⟨by show 0<=sizeLine;decide,?_⟩
 refine⟨_,rfl,i,0,rfl,λG=>⟨(by show(0:Int)<2;decide),Ia ⟨_,rfl,bg (λ_=>?_) (λ_=>?_)⟩⟩⟩
 ·refine⟨_,rfl,trivial,?_⟩
  refine⟨_,rfl,⟨by show-(2^62)<=(n:Int);omega,by show(n:Int)<2^62;omega⟩,?_⟩
  rw[show((n:Int)).toNat=n by omega]
  refine gj (λj l=>∃(y:Int)(a:List Int)(d:Option D),l= [some (.jF i),some (aq k),some (aq n),some (.int y),some (.lst (av a)),some (.int c),d,none]/\a.length=j) ⟨c,[],_,rfl,rfl⟩ ?_ ?_
  ·rintro j _ t ⟨y,a,d,rfl,e⟩ A m
   refine CH ?_;refine K6 (λ_=>True) rfl trivial (λQ o=>⟨_,rfl,_,rfl,o _⟩) (λQ o=>?_) λI _=>?_
   ·exact⟨_,rfl,_,rfl, .inl ⟨by decide,by decide⟩,_,rfl,_,_,rfl,⟨by omega,by omega⟩,λv=>o _ trivial⟩
   refine⟨_,rfl,_,rfl,⟨by decide,by decide⟩,(by show(0:Int)<10^9;decide),trivial,cq (by rw[x9];omega),?_⟩
   refine⟨_,rfl,⟨by decide,by decide⟩,⟨by decide,by decide⟩,trivial,?_⟩
   exact m _ ⟨_,a++ [_],some (aq j),by rw[vD];rfl,by rw[bZ,e];rfl⟩
  ·rintro _ ⟨y,a,d,rfl,e⟩
   exact⟨_,rfl,q a e⟩
 ·refine⟨_,rfl,(by show(0:Int)<2147483629;decide),trivial,?_⟩
  refine⟨_,rfl,⟨by show-(2^62)<=(n:Int);omega,by show(n:Int)<2^62;omega⟩,?_⟩
  rw[show((n:Int)).toNat=n by omega]
  refine gj (λj l=>∃(y:Int)(a:List Int)(d:Option D),l= [some (.jF i),some (aq k),some (aq n),some (.int c),some (.lst (av a)),none,d,some (.int y)]/\a.length=j/\0<=y/\y<2147483629) ⟨_,[],_,rfl,rfl,mod_lt c⟩ ?_ ?_
  ·rintro j _ t ⟨y,a,d,rfl,e,u⟩ A m
   refine⟨_,rfl,_,rfl, .inl ⟨by omega,by omega⟩,_,rfl, .inl ⟨by decide,by decide⟩,_,rfl, .inl ⟨by decide,by decide⟩,(by show(0:Int)<2147483629;decide),trivial,?_⟩
   refine⟨_,rfl,_,rfl,⟨by decide,by decide⟩,trivial,cq (by rw[x9];omega),?_⟩
   exact m _ ⟨_,a++ [_],some (aq j),by rw[vD];rfl,by rw[bZ,e];rfl,mod_lt _⟩
  ·rintro _ ⟨y,a,d,rfl,e,u⟩
   exact⟨_,rfl,q a e⟩
variable {P:Program} {w:World} {mg:Str->Option Value} {base:Heap} {Z:DC} (T:Txt Z mg)
structure kK (w:W) (r:List Nat):Prop where
 ne:0<r.length
 sz:r.length<=196
 lt:∀k,k<r.length->r.getD k 0<w.length
 tie:2<=w.length->∀k,k<r.length->r.getD ((k+(r.length-1))%r.length) 0∈row w (r.getD k 0)
structure Cl (w:W) (ds:List (Nat×Nat)):Prop where
 nd:ds.Nodup
 dart:∀e∈ds,aC w e
 step:∀e,aC w e->(e∈ds↔eB w e∈ds)
theorem Cl.ba{w:W}(c:Cl w a)(g:Good w){d:Nat×Nat}(b:aC w d):∀k,Wb.ba w k d∈a↔d∈a
 |0=>acK
 |k+1=>(c.step _ (cG g b k)).symm.trans (c.ba g b k)
theorem cH{w:W}:e∈walk w d k↔∃i,i<k/\ba w i d=e:=by
 unfold walk;rw[aZ];exact⟨λ⟨i,a,e⟩=>⟨i,bT.mp a,e⟩,λ⟨i,a,e⟩=>⟨i,bT.mpr a,e⟩⟩
theorem Cl.len{w:W}(c:Cl w a)(g:Good w)(b:w.length<=14):a.length<=196:=by
 have f:=iP g;have h:w.length*w.length<=14*14:=vg b b
 have:=az c.nd λe d=>aT.mpr (c.dart e d)
 omega
theorem Cl.nodup{w:W}(c:Cl w e)(g:Good w)(f:aC w d)(l:0<k->d∉e)(m:∀j,0<j->j<k->Wb.ba w j d≠d):(e++walk w d k).Nodup:=by
 rw[dB];refine⟨c.nd,qi g f m,λa h b n z=>?_⟩;obtain⟨i,o,rfl⟩:=cH.mp n;rw[z] at h;exact l (by omega) ((c.ba g f i).mp h)
theorem Cl.back{w:W}(c:Cl w a)(g:Good w)(b:aC w d)(o:0<k)(l:d∉a)(m:∀j,0<j->j<k->Wb.ba w j d≠d)(h:Wb.ba w k d∈a++walk w d k):Wb.ba w k d=d:=by
 rcases bR.mp h with h|h
 ·exact absurd ((c.ba g b k).mp h) l
 ·obtain⟨i,p,e⟩:=cH.mp h
  have n:Wb.ba w i d=Wb.ba w i (Wb.ba w (k-i) d):=by rw[<-eZ (k-i) i,show i+(k-i)=k by omega];exact e
  have f:=(tJ g b (cG g b _) i n).symm
  by_cases z:i=0
  ·subst z;exact f
  ·exact absurd f (m (k-i) (by omega) (by omega))
theorem Cl.grow{w:W}{f:List (Nat×Nat)}(c:Cl w f)(g:Good w)(b:aC w d)(l:0<k)(n:d∉f)(o:∀j,0<j->j<k->Wb.ba w j d≠d)(e:Wb.ba w k d=d):Cl w (f++walk w d k):=by
 refine⟨c.nodup g b (λ_=>n) o,λx a=>?_,λx a=>?_⟩
 ·rcases bR.mp a with h|h
  ·exact c.dart x h
  ·exact n0 g b x h
 ·rw[bR,bR,<-c.step x a]
  refine or_congr acK ⟨λh=>?_,λh=>?_⟩
  ·obtain⟨i,p,rfl⟩:=cH.mp h
   by_cases z:i+1=k
   ·exact cH.mpr ⟨0,l,by show d=Wb.ba w (i+1) d;rw[z,e]⟩
   ·exact cH.mpr ⟨i+1,by omega,rfl⟩
  ·obtain⟨i,p,z⟩:=cH.mp h
   cases i with
   |zero=>
    obtain⟨m,rfl⟩:∃m,k=m+1:=⟨k-1,by omega⟩
    refine cH.mpr ⟨m,by omega,yt g (cG g b m) a ?_⟩
    exact e.trans z
   |succ i=>exact cH.mpr ⟨i,by omega,yt g (cG g b i) a z⟩
theorem u7{w:W}(h:i<k):((walk w d k).map (·.1)).getD i 0=(ba w i d).1:=by
 unfold walk;rw[bU,bB,bQ,qq h];rfl
theorem Lc{w:W}(g:Good w)(c:w.length<=14)(b:aC w d)(f:0<k)(h:∀j,0<j->j<k->Wb.ba w j d≠d)(e:Wb.ba w k d=d):kK w ((walk w d k).map (·.1)):=by
 have n:=iP g;have o:w.length*w.length<=14*14:=vg c c;have p:=y4 g b h;have l:((walk w d k).map (·.1)).length=k:=by rw[aD,cY]
 have st:∀i,(ba w i d).1∈row w (ba w (i+1) d).1:=λi=>g.sym _ _ (cG g b i);refine⟨by omega,by omega,λi a=>?_,λ_ i a=>?_⟩
 ·rw[l] at a
  rw[u7 a];exact bD (cG g b i)
 ·rw[l] at a ⊢
  rw[u7 a,u7 (qv _ f)];cases i with
  |zero=>
   obtain⟨m,rfl⟩:∃m,k=m+1:=⟨k-1,by omega⟩
   have:=st m
   rw[e] at this;rw[rG,gZ (by omega)];exact this
  |succ i=>
   rw[show i+1+(k-1)=i+k by omega,acQ,gZ (by omega)];exact st i
theorem yC{w:W}(g:Good w)(h:w.length=1):w= [[]]:=by
 match w,h with
 | [r],_=>
  cases r with
  |nil=>rfl
  |cons a r=>
   have m:a∈row [a::r] 0:=bE
   have:=g.rng 0 a m
   have e:a=0:=by simpa using this
   subst e;exact absurd m (g.irr 0)
theorem EY{w:W}(g:Good w)(h:2<=w.length):0<(row w 0).length:=by
 apply Nat.pos_of_ne_zero;intro z;have z:row w 0= []:=acM.mp z
 have:=kM g (S:=λp=>p=0) rfl (λp q b a=>by subst b;rw[z] at a;cases a) 1 (by omega)
 omega
def Rl(w:W)(b:List (Nat×Nat))(e:List (List Nat))(c:Nat×Nat->Prop):Prop:=∃a:List (List (Nat×Nat)),b=a.flatten/\e=h7 a/\j7 w a/\(∀r∈e,kK w r)/\∀d,c d->d∈b
theorem Rl.imp{w:W}{b:List (List Nat)}(h:Rl w a b c)(k:∀d,e d->c d\/d∈a):Rl w a b e:=by
 obtain⟨f,g,i,j,l,m⟩:=h;exact⟨f,g,i,j,l,λd n=>(k d n).elim (m d) id⟩
theorem Jn{w:W}(a:0<k)(e:ba w k d=d)(b:∀j,0<j->j<k->ba w j d≠d):eV w d (walk w d k):=⟨k,a,e,b,rfl⟩
def Cn(w:W)(c:Nat):Prop:=∃a,Rs w a/\a.length=c
theorem Rl.cn{w:W}(g:Good w)(f:2<=w.length)(C:Cl w b)(h:Rl w b c (aC w)):Cn w c.length:=by
 obtain⟨e,rfl,rfl,i,_,all⟩:=h;have j:e.flatten.Perm (aX w):=(qm C.nd (bW g)).mpr λd=>⟨λa=>aT.mpr (C.dart d a),λa=>all d (aT.mp a)⟩;exact⟨e.map zL, .inr ⟨f,j7.rounds g i j⟩,by unfold h7;rw[aD,aD]⟩
def Ee:cg:=λc P=>∃(w:W),c= [aU w]/\Good w/\1<=w.length/\w.length<=14/\∀a:List (List Nat),0<a.length->a.length<=196->(∀r∈a,kK w r)->Cn w a.length->(2<=w.length->∀r∈a,∃d b,eV w d b/\aC w d/\r=b.map (·.1))->P (.lst (a.map ay))
theorem pI:FnOk P w Z.K mg base b9 1 T.d__law_lands.f T.d__law_lands.fd ["_law_turns"] (aV Z Ee):=by
 have u:=pY.nd;refine aY T.d__law_lands.F pY [0,98,1,0,0,1,0,0] (by decide) (λl R h=>by obtain⟨_,rfl,_⟩:=h;rfl) (λbF A outer s H E l R v h=>?_)
 have hu:=v.units
 refine⟨_,(af (bq (aK (fL hu) (aa 0) (cL (ae (cL ag) ag)) (aW _)) (ao (aJ (cL (ae (cL (ae au ag)) ag)))) aL)
   (af (Kf 1 u)
   (af (cA 2 u (eN ag))
   (af (hJ rfl FB (fq rfl T.B.range (ae (aH bz rfl T.B.len bx (ae (aa 0) ag)) ag)) (aM 3 u) (ao (cC rfl FB (bc (aE (aa 0) (aa 3))) (aM 4 u) (af (cA 5 u (eN ag))
   (af (aS false 6 u (cz (ae (aa 3) (ae (aa 4) ag))))
   (af (mF FB (aK (FL hu) (aa 6) (aa 1) (by with_unfolding_all rfl)) (af (Ki 1 hu (aa 6) iQ)
   (af (fu false 5 (aE (aa 6) au))
   (af (aS false 7 u (aE (aa 0) (aE (aa 6) au)))
   (ao (aS false 6 u (cz (ae (aE (aa 6) au) (ae (aE (aa 7) (aF cB (aF bP (qy (aa 7) (aE (aa 6) au)) au) (aH bz rfl T.B.len bx (ae (aa 7) ag)))) ag)))))))))
   (ao (bq (aK (pF hu) (aa 5) (cL ag) (aW _)) (ao (Ke 2 5)) aL))))))))
   (ao (aJ (aa 2))))))),?_⟩
 obtain⟨a,rfl,g,h1,X,q⟩:=h;have lw:(a.map ay).length=a.length:=aD _;refine⟨_,rfl,by show 0<=sizeLine;decide,by show 1<=sizeLine;decide,?_⟩
 refine(?_:sU (aU a) (aU [[]]) _);refine CF ⟨_,rfl,bg (λe=>?_) (λe=>?_)⟩
 ·obtain rfl:a= [[]]:=GT e
  refine⟨by show 1<=sizeLine;decide,by show 1<=sizeLine;decide,?_⟩
  refine q [[0]] (by decide) (by decide) (λr v=>?_) ⟨[[(0,0)]], .inl ⟨rfl,rfl⟩,rfl⟩ (λz=>absurd z (by decide))
  rw[cF] at v;subst v;refine⟨by decide,by decide,λk G=>?_,λh=>absurd h (by decide)⟩
  have:k=0:=by simpa using G
  subst this;decide
 have n2:2<=a.length:=Do λz=>GM e (yC g (by omega))
 have r0:=EY g n2;refine⟨by show 0<=sizeLine;decide,?_⟩
 refine⟨_,rfl,⟨by omega,by show((a.map ay).length:Int)<2^62;omega⟩,?_⟩
 rw[show(((a.map ay).length:Int)).toNat=a.length by omega]
 refine gj (λj Y=>∃(l:List (Nat×Nat))(o:List FV)(n:List (List Nat))(o3 N O Q y:Option D),Y= [some (aU a),some (.x (.tS (l.map zz) o)),some (.lst (n.map ay)),o3,N,O,Q,y]/\Cl a l/\(0<j->0<l.length)/\(0<l.length->0<n.length)/\n.length<=l.length/\Rl a l n λd=>aC a d/\d.1<j)
  ⟨[],[],[],_,_,_,_,_,rfl,⟨gK,(λe h=>nomatch h),λe _=>⟨(λh=>nomatch h),λh=>nomatch h⟩⟩,(λh=>by omega),id,bH _,[],rfl,rfl,(λr h=>nomatch h),(λr h=>nomatch h),λd h=>absurd h.2 (by omega)⟩ ?_ ?_
 ·rintro p _ hp ⟨l,o,n,o3,N,O,Q,y,rfl,C,S,J,U,ok⟩ A hA
  refine⟨_,rfl,_,rfl,_,fD hp,?_⟩
  refine bO (λm Y=>∃(l:List (Nat×Nat))(o:List FV)(n:List (List Nat))(N O Q y:Option D),Y= [some (aU a),some (.x (.tS (l.map zz) o)),some (.lst (n.map ay)),some (aq p),N,O,Q,y]/\Cl a l/\(0<p\/0<m->0<l.length)/\(0<l.length->0<n.length)/\n.length<=l.length/\Rl a l n λd=>aC a d/\(d.1<p\/(d.1=p/\d.2∈(row a p).take m)))
   ⟨l,o,n,_,_,_,_,rfl,C,(λh=>h.elim S λh=>by omega),J,U,ok.imp λd h=> .inl ⟨h.1,h.2.elim id λz=>by simp at z⟩⟩ ?_ ?_
  ·clear S J U ok C
   rintro m _ _ t ⟨l,o,n,N,O,Q,y,rfl,C,S,J,U,ok⟩ A hA;obtain⟨b,hq,rfl⟩:=b8 t;have M:aC a (p,b):=dA hq;have tks:(row a p).take (m+1)=(row a p).take m++ [b]:=by rw[rF,hq];rfl
   have c1:=iP g;have c2:a.length*a.length<=14*14:=vg X X;have cl:=C.len g X;refine⟨by show 0<=sizeLine;decide,?_⟩
   refine⟨_,rfl,_,rfl,by show 2<=sizeLine;decide,trivial,?_⟩
   refine kE (λm Y=>∃(k:Nat)(o:List FV)(y:Option D),Y= [some (aU a),some (.x (.tS ((l++walk a (p,b) k).map zz) o)),some (.lst (n.map ay)),some (aq p),some (aq b),some (ay ((walk a (p,b) k).map (·.1))),some (pairD (ba a k (p,b))),y]/\m+k=200/\(0<k->(p,b)∉l)/\(∀j,0<j->j<k->ba a j (p,b)≠(p,b))) 200 ⟨0,o,_,by rw[show walk a (p,b) 0= [] from rfl,m8];rfl,rfl,(λh=>by omega),λj h1 h2=>by omega⟩ ?_
   rintro m _ ⟨k,o,y,rfl,mk,u,G⟩;have kl:=y4 g M G;have nn:=C.nodup g M u G
   have nl:(l++walk a (p,b) k).length<=196:=by
    have:=az nn λe he=>aT.mpr ((bR.mp he).elim (C.dart e) (n0 g M e))
    omega
   have dk:=cG g M k;have hs:=g.sym _ _ dk;refine⟨_,rfl,_,rfl,zz (ba a k (p,b)),_,_,rfl,rfl,_,rfl,?_⟩;refine(?_:if (if true=true then !decide (zz (ba a k (p,b))∈(l++walk a (p,b) k).map zz) else _)=true then _ else _);rw[tz rfl,show decide (zz (ba a k (p,b))∈(l++walk a (p,b) k).map zz)=decide (ba a k (p,b)∈l++walk a (p,b) k) from acr.mpr w9];refine bg (λc=>?_) (λc=>?_)
   ·have c:ba a k (p,b)∉l++walk a (p,b) k:=by simpa using c
    have fV:=bD hs;have rln:=dO g (ba a k (p,b)).2;have lr:((row a (ba a k (p,b)).2).map aq).length=(row a (ba a k (p,b)).2).length:=aD _;have pos:0<(row a (ba a k (p,b)).2).length:=qp hs;have e0:(0:Int)<(((row a (ba a k (p,b)).2).map aq).length:Int):=by rw[lr];omega
    refine⟨.bl true,_,_,rfl,rfl,_,rfl,zz _,rfl,(λz=>c (w9.mp z)),by rw[aD];omega,?_⟩
    refine⟨_,rfl,_,rfl,_,rfl,trivial,cq (by rw[aD,aD,cY];omega),?_⟩
    refine⟨_,rfl,_,rfl,_,rfl,_,fD fV,trivial,?_⟩;have fx:=fw hs;refine⟨_,rfl,_,rfl,_,rfl,_,rfl,_,rfl,_,rfl,_,rfl,rfl,cP _,_,_,fx.1,fx.2.1,fx.2.2,?_⟩;refine⟨_,rfl,e0,?_⟩;have em:(((row a (ba a k (p,b)).2).idxOf (ba a k (p,b)).1:Nat):Int)+1=(((row a (ba a k (p,b)).2).idxOf (ba a k (p,b)).1+1:Nat):Int):=by omega
    have et:((((row a (ba a k (p,b)).2).idxOf (ba a k (p,b)).1:Nat):Int)+1)%(((row a (ba a k (p,b)).2).map aq).length:Int)=((((row a (ba a k (p,b)).2).idxOf (ba a k (p,b)).1+1)%(row a (ba a k (p,b)).2).length:Nat):Int):=by rw[lr,em,Int.natCast_emod]
    refine⟨aq (aN (row a (ba a k (p,b)).2) (ba a k (p,b)).1),?_,by show 2<=sizeLine;decide,trivial,m-1,by omega,k+1,o++ [.bl true],some (ay (row a (ba a k (p,b)).2)),?_,by omega,λ_=>?_,λj h1 h2=>?_⟩
    ·show fJ ((row a (ba a k (p,b)).2).map aq) ((λi j=>i%j) _ _)=_
     dsimp only;rw[et];exact jh (qv _ pos)
    ·have e1:(l++walk a (p,b) (k+1)).map zz=(l++walk a (p,b) k).map zz++ [zz (ba a k (p,b))]:=by rw[sI,<-iJ,cJ];rfl
     have e2:ay ((walk a (p,b) (k+1)).map (·.1))= .lst (((walk a (p,b) k).map (·.1)).map aq++ [aq (ba a k (p,b)).1]):=by unfold ay;rw[sI,cJ,cJ];rfl
     rw[e1,e2];rfl
    ·by_cases z:0<k
     ·exact u z
     ·obtain rfl:k=0:=by omega
      exact λh=>c (fk _ h)
    ·by_cases z:j=k
     ·subst z
      exact λh=>c (cZ _ (cH.mpr ⟨0,h1,h.symm⟩))
     ·exact G j h1 (by omega)
   ·have c:ba a k (p,b)∈l++walk a (p,b) k:=GT (by simpa only[Bool.not_eq_false'] using c)
    refine⟨_,rfl,by show 0<=sizeLine;decide,?_⟩
    refine(?_:wc (ay _) (ay []) _);refine sW ⟨_,rfl,bg (λe=>?_) (λe=>?_)⟩
    ·have I:0<k:=Nat.pos_of_ne_zero λz=>by subst z;exact absurd e (by simp[walk])
     have bk:=C.back g M I (u I) G c;have C2:=C.grow g M I (u I) G bk;have L:=Lc g X M I G bk;refine⟨_,_,rfl,rfl,cq (by rw[aD];omega),?_⟩
     refine hA _ ⟨l++walk a (p,b) k,o,n++ [(walk a (p,b) k).map (·.1)],some (aq b),none,some (pairD (ba a k (p,b))),y,?_,C2,λ_=>?_,λ_=>?_,?_,?_⟩
     ·rw[cJ (f:=ay)];rfl
     ·rw[bZ,cY];omega
     ·rw[bZ];exact Nat.succ_pos _
     ·rw[bZ,bZ,cY];simp only[jJ];omega
     ·obtain⟨wz,d1,d2,d3,d4,d5⟩:=ok
      refine⟨wz++ [walk a (p,b) k],?_,?_,λr v=>?_,λr v=>?_,λd t=>?_⟩
      ·rw[d1,vZ];simp
      ·rw[d2];unfold h7;rw[cJ];rfl
      ·rcases bR.mp v with h|h
       ·exact d3 r h
       ·rw[cF] at h;rw[h]
        exact⟨(p,b),Jn I bk G,M⟩
      ·rcases bR.mp v with h|h
       ·exact d4 r h
       ·rw[cF] at h;rw[h];exact L
      ·rw[tks] at t
       by_cases z:d=(p,b)
       ·rw[z];exact cZ _ (cH.mpr ⟨0,I,rfl⟩)
       ·refine fk _ (d5 d ⟨t.1,t.2.imp id λh=>⟨h.1,(bR.mp h.2).elim id λh2=>absurd (UF h.1 (cF.mp h2)) z⟩⟩)
    ·have I:k=0:=by
      have e:(walk a (p,b) k).map (·.1)= []:=GT (by simpa only[Bool.not_eq_false'] using e)
      have:=FS List.length e
      rwa [aD,cY] at this
     subst I;have e0:l++walk a (p,b) 0=l:=m8 _;rw[e0] at c;refine hA _ ⟨l,o,n,_,_,_,_,by rw[e0],C,λ_=>qp c,J,U,ok.imp λd t=>?_⟩
     rw[tks] at t
     by_cases z:d=(p,b)
     ·rw[z];exact .inr c
     ·exact .inl ⟨t.1,t.2.imp id λh=>⟨h.1,(bR.mp h.2).elim id λh2=>absurd (UF h.1 (cF.mp h2)) z⟩⟩
  ·rintro _ ⟨l,o,n,N,O,Q,y,rfl,C,S,J,U,ok⟩
   refine hA _ ⟨l,o,n,_,_,_,_,_,rfl,C,λ_=>S ?_,J,U,ok.imp λd t=> .inl ⟨t.1,?_⟩⟩
   rotate_left
   ·rw[aD,rD]
    have:=t.2
    by_cases z:d.1=p
    ·exact .inr ⟨z,z▸t.1⟩
    ·left;omega
   by_cases z:p=0
   ·subst z;right;rw[aD];exact r0
   ·left;omega
 ·rintro _ ⟨l,o,n,o3,N,O,Q,y,rfl,C,S,J,U,ok⟩
  have:=C.len g X
  obtain⟨wz,d1,d2,d3,d4,d5⟩:=ok
  exact⟨_,rfl,q n (J (S (by omega))) (by omega) d4 (Rl.cn g n2 C ⟨wz,d1,d2,d3,d4,λd t=>d5 d ⟨t,bD t⟩⟩) λ_ r v=>by
   rw[d2] at v;obtain⟨rd,XZ,rfl⟩:=aZ.mp v;obtain⟨d,Rd,dd⟩:=d3 rd XZ;exact⟨d,rd,Rd,dd,rfl⟩⟩
variable {P:Program} {w:World} {mg:Str->Option Value} {base:Heap} {Z:DC} (T:Txt Z mg)
structure Cj (r ks:List Nat):Prop where
 ne:0<ks.length
 lt:∀k∈ks,k<r.length
 nd:(ks.map λk=>r.getD k 0).Nodup
 inc:ks.Pairwise (·<·)
def Jt:cg:=λb P=>∃(r:List Nat)(n:Int),b= [ay r, .int n]/\0<r.length/\r.length<=196/\∀a,Cj r a->P (ay a)
theorem wq:FnOk P w Z.K mg base b9 1 T.d__law_places.f T.d__law_places.fd ["_law_land","_law_number"] (aV Z Jt):=by
 have p:=oz.nd;refine aY T.d__law_places.F oz [0,0,0,1,0] (by decide) (λI R h=>by obtain⟨_,_,rfl,_⟩:=h;rfl) (λQ A outer s H E I R J h=>?_)
 have C:=J.units
 refine⟨_,(af (aS false 2 p (aa 1))
   (af (cA 3 p (eN ag))
   (af (hJ rfl FB (fq rfl T.B.range (ae (aH bz rfl T.B.len bx (ae (aa 0) ag)) ag)) (aM 4 p) (af (bq (DW.dt (wL (aK (fL C) (aF cB (aa 1) au) au (aW _)) (tD (aK iV (aE (aa 0) (aa 4)) (nj (NC:= ["_law_at","_law_land"]) (src:= [none,some 0]) rfl (lK (aw iC)) ⟨rfl,rfl,trivial⟩ (bc (aa 3)) (λ_ _ _=>(bI 0 (show(["_law_at","_law_land"]:List Str).Nodup from by decide+kernel))) (λ_ _ _=>dM) (λ_ _ _=>(aE (aa 1) (aa 0)))) (by with_unfolding_all rfl))))) (ao (fu false 3 (aa 4))) aL)
   (ao (aS false 1 p (aF iq (aa 1) au)))))
   (af (bq (aK (fL C) (aa 3) (cL ag) (aW _)) (ao (aJ (cL (ae (aF cB (aa 2) (aH bz rfl T.B.len bx (ae (aa 0) ag))) ag)))) aL)
   (ao (aJ (aa 3))))))),?_⟩
 obtain⟨r,n,rfl,S,L,q⟩:=h;have U:(r.map aq).length=r.length:=aD _;refine⟨_,rfl,trivial,?_⟩;refine⟨by show 0<=sizeLine;decide,?_⟩
 refine⟨_,rfl,⟨by omega,by show((r.map aq).length:Int)<2^62;omega⟩,?_⟩
 rw[show(((r.map aq).length:Int)).toNat=r.length by omega]
 refine gj (λj ρ=>∃(y:Int)(d:List Nat)(u:Option D),ρ= [some (ay r),some (.int y),some (.int n),some (ay d),u]/\d.length<=j/\(∀k∈d,k<r.length)/\(d.map λk=>r.getD k 0).Nodup/\d.Pairwise (·<·)/\∀k∈d,k<j) ⟨n,[],_,rfl,bH _,(λk h=>nomatch h),gK, .nil,λk h=>nomatch h⟩ ?_ ?_
 ·rintro j _ G ⟨y,d,u,rfl,M,lt,i,l,t⟩ A v
  refine⟨_,rfl,(by show(0:Int)<2;decide),Ia ⟨_,rfl,bg (λ_=>?_) (λ_=>cj ⟨_,rfl,⟨by decide,by decide⟩,trivial,v _ ⟨_,d,some (aq j),rfl,by omega,lt,i,l,λk g=>by have:=t k g;omega⟩⟩)⟩⟩
  refine⟨_,rfl,_,rfl,_,jh G,_,rfl,?_⟩;refine ib (ρ:= [none,some (ay r)]) aq (λk=>aq (r.getD k 0)) d _ (λk g Y N=>?_) rfl (small (by omega)) λX=>?_
  ·exact⟨_,rfl,_,rfl,_,jh (lt k g),N⟩
  have e:(d.map λk=>aq (r.getD k 0))=(d.map λk=>r.getD k 0).map aq:=by rw[bU];rfl
  rw[e];refine⟨rfl,cP _,_,rfl,?_⟩;refine(?_:if (if true=true then !inD (aq (r.getD j 0)) ((d.map λk=>r.getD k 0).map aq) else _)=true then _ else _);rw[tz rfl,ia];refine bg (λc=>?_) (λc=>⟨_,rfl,⟨by decide,by decide⟩,trivial,v _ ⟨_,d,some (aq j),rfl,by omega,lt,i,l,λk g=>by have:=t k g;omega⟩⟩)
  have c:r.getD j 0∉d.map λk=>r.getD k 0:=GM (by simpa only[Bool.not_eq_true'] using c)
  refine⟨_,rfl,_,rfl,trivial,cq (by rw[aD];omega),?_⟩
  refine⟨_,rfl,⟨by decide,by decide⟩,trivial,v _ ⟨y / 2,d++ [j],some (aq j),?_,?_,λk g=>?_,?_,ada.mpr ⟨l,Ex ..,λa x b o=>by rw[cF.mp o];exact t a x⟩,λk g=>?_⟩⟩
  ·unfold ay;rw[cJ];rfl
  ·rw[bZ];simp only[jJ];omega
  ·rcases bR.mp g with h|h
   ·exact lt k h
   ·rw[cF] at h;rw[h];exact G
  ·rw[cJ,dB]
   refine⟨i,by simp,λa x b o z=>c ?_⟩
   have o:b=r.getD j 0:=by simpa using o
   rw[<-o,<-z];exact x
  ·rcases bR.mp g with h|h
   ·have:=t k h;omega
   ·rw[cF.mp h];omega
 ·rintro _ ⟨y,d,u,rfl,M,lt,i,l,_⟩
  refine⟨_,rfl,by show 0<=sizeLine;decide,?_⟩
  refine(?_:sU (ay d) (ay []) _);refine JW ⟨_,rfl,bg (λe=>?_) (λe=>?_)⟩
  ·have m:=kh n ((r.map aq).length:Int) (by omega)
   refine⟨_,rfl,_,rfl,(by show(0:Int)<((r.map aq).length:Int);omega),by show 1<=sizeLine;decide,?_⟩
   have:=q [(n%((r.map aq).length:Int)).toNat] ⟨Nat.succ_pos _,λk g=>by rw[cF] at g;omega,by simp,Ex ..⟩
   have O:ay [(n%((r.map aq).length:Int)).toNat]= .lst [.int (n%((r.map aq).length:Int))]:=by
    show D.lst [.int (((n%((r.map aq).length:Int)).toNat:Nat):Int)]=_;rw[show(((n%((r.map aq).length:Int)).toNat:Nat):Int)=n%((r.map aq).length:Int) by omega]
   rw[O] at this;exact this
  ·have e:d≠ []:=GM e
   exact⟨_,rfl,q d ⟨vY.mpr e,lt,i,l⟩⟩
variable {P:Program} {w:World} {mg:Str->Option Value} {base:Heap} {Z:DC} (T:Txt Z mg)
theorem E3{w v:W}(g:Good w){c:List Nat}(ne:0<c.length)(lt:∀p∈c,p<w.length)(len:v.length=w.length+1)(l:(row v w.length).Nodup)(last:∀x,x∈row v w.length↔x∈c)(nod:∀p,p<w.length->(row v p).Nodup)(mem:∀p,p<w.length->∀q,q∈row v p↔q∈row w p\/(q=w.length/\p∈c)):Good v:=by
 have m:w.length∉c:=λh=>lI _ (lt _ h)
 have f:∀{p q},q∈row v p->(p<w.length/\(q∈row w p\/(q=w.length/\p∈c)))\/(p=w.length/\q∈c):=λ {p q} h=>by
  have:=bD h
  by_cases z:p=w.length
  ·subst z;exact .inr ⟨rfl,(last q).mp h⟩
  ·have:p<w.length:=by omega
   exact .inl ⟨this,(mem p this q).mp h⟩
 have j:∀{a b},Reach w a b->Reach v a b:=λ {a b} h=>by
  induction h with
  |refl=>exact .refl _
  |step _ k n=>exact .step n ((mem _ (bD k) _).mpr (.inl k))
 refine⟨λp q h=>?_,λp h=>?_,λp=>?_,λp q h=>?_,λp o=>?_⟩
 ·rcases f h with ⟨_,h| ⟨h,_⟩⟩ | ⟨_,h⟩
  ·have:=g.rng p q h;omega
  ·omega
  ·have:=lt q h;omega
 ·rcases f h with ⟨_,h| ⟨_,h⟩⟩ | ⟨e,h⟩
  ·exact g.irr p h
  ·have:=lt p h;omega
  ·subst e;exact m h
 ·by_cases z:p<w.length
  ·exact nod p z
  ·by_cases e:p=w.length
   ·subst e;exact l
   ·have:row v p= []:=adg.mpr λq h=>by have:=bD h;omega
    rw[this];exact gK
 ·rcases f h with ⟨o,d| ⟨e,d⟩⟩ | ⟨e,d⟩
  ·have s:=g.sym p q d
   exact(mem q (bD s) p).mpr (.inl s)
  ·subst e;exact(last p).mpr d
  ·subst e;exact(mem q (lt q d) _).mpr (.inr ⟨rfl,d⟩)
 ·by_cases z:p<w.length
  ·exact j (g.con p z)
  ·obtain rfl:p=w.length:=by omega
   obtain⟨x,i⟩:=List.exists_mem_of_length_pos ne;exact .step (j (g.con x (lt x i))) ((mem x (lt x i) _).mpr (.inr ⟨rfl,i⟩))
theorem K5{x0:Int}(B:Prop)(Ok:Int->Prop)(h:a[i]? =some (some (.int x0)))(j:¬B->Ok x0)(k:∀Q:Bool->Prop,(B->Q true)->(¬B->Q false)->c a Q)(l:B->∀Q:D->Prop,(∀x:Int,Ok x->Q (.int x))->f (zE d m a) Q)
  (g:∀x:Int,Ok x->E.nx (a.set i (some (.int x)))):zR c (CI d m i f) uB E a:=by
 refine k _ (λb=>eY (l b _ λx n=>⟨?_,g x n⟩)) (λb=>cj ?_)
 ·cases m
  ·trivial
  ·rfl
 ·have:=g x0 (j b)
  obtain⟨o,e⟩:=di.mp h;rw[<-e,ac3] at this;exact this
theorem Jf{r:List Nat}{k:Nat}(h:k<r.length):fJ (r.map aq) ((k:Int)-1)=some (aq (r.getD ((k+(r.length-1))%r.length) 0)):=by
 cases k with
 |zero=>
  rw[rG,gZ (by omega)]
  refine Ng (j:=r.length-1) (n:=r.length) (aD _) ?_ ?_
  ·unfold jN
   rw[mo (by omega),tz (by omega)]
   exact FS some (by omega)
  ·rw[bQ,bB,bJ (by omega:r.length-1<r.length)];rfl
 |succ k=>
  rw[show k+1+(r.length-1)=k+r.length by omega,acQ,gZ (by omega),show((k+1:Nat):Int)-1=(k:Int) by omega]
  exact jh (by omega)
def KR(w:W)(r:List Nat)(k:Nat):Nat:=if row w (r.getD k 0)= [] then 0 else(row w (r.getD k 0)).idxOf (r.getD ((k+(r.length-1))%r.length) 0)+1
structure AW (w v:W) (r ks:List Nat):Prop where
 len:v.length=w.length+1
 out:∀p,p<w.length->p∉(ks.map λk=>r.getD k 0)->row v p=row w p
 at_:∀k∈ks,row v (r.getD k 0)=ins (row w (r.getD k 0)) (KR w r k) w.length
 last:row v w.length=(ks.map λk=>r.getD k 0).reverse
def MD:cg:=λb P=>∃(w:W)(r a:List Nat),b= [aU w,ay r,ay a]/\Good w/\1<=w.length/\w.length<=13/\kK w r/\Cj r a/\∀v,Good v->v.length=w.length+1->AW w v r a->P (aU v)
theorem pH:FnOk P w Z.K mg base b9 1 T.d__law_grown.f T.d__law_grown.fd ["_law_turns","_law_land","_law_places_here"] (aV Z MD):=by
 have G:=pX.nd;refine aY T.d__law_grown.F pX [0,0,0,1,1,0,0,0] (by decide) (λds R h=>by obtain⟨_,_,_,rfl,_⟩:=h;rfl) (λbF A outer s H E ds R hr h=>?_)
 have hu:=hr.units
 refine⟨_,(af (zS 3 (NC:= ["_law_turn"]) (src:= [none]) rfl G (lK (aw i8)) trivial (bc (aa 0)) (λ_ _ _=>(bI 0 (show(["_law_turn"]:List Str).Nodup from by decide+kernel))) (λ_ _ _=>dM) (λ_ _ _=>(fo mE rfl T.B.list eo (ae (aa 0) ag))))
   (af (cA 4 G (eN ag))
   (af (cC rfl FB (Bc rfl T.B.reversed (ae (aa 2) ag)) (aM 5 G) (af (Kg 6 3 G (aE (aa 1) (aa 5)))
   (af (aS false 7 G au)
   (af (bq (aK (pF hu) (aa 6) (cL ag) (aW _)) (ao (aS false 7 G (aF bP (qy (aa 6) (aE (aa 1) (aF wX (aa 5) au))) au))) aL)
   (af (EX 3 (aE (aa 1) (aa 5)) (Np (aF bP (gP (aa 6) jd (je (aa 7))) (cL (ae (aH bz rfl T.B.len bx (ae (aa 0) ag)) ag))) (gP (aa 6) (je (aa 7)) jd)))
   (ao (fu false 4 (aE (aa 1) (aa 5)))))))))
   (ao (aJ (aF bP (aa 3) (cL (ae (aa 4) ag)))))))),?_⟩
 obtain⟨b,r,c,rfl,g,M,h13,L,K,q⟩:=h;have lw:(b.map ay).length=b.length:=aD _;refine⟨_,rfl,?_⟩;refine ib (ρ:= [none]) ay ay b _ (λx d Y hY=>⟨_,rfl,hY⟩) rfl (small (by omega)) λaR=>?_
 refine⟨by show 0<=sizeLine;decide,?_⟩
 refine⟨_,rfl,?_⟩;refine(?_:ke _ _ _ (c.map aq).reverse _);rw[<-vf];have nr:(c.reverse.map λk=>r.getD k 0).Nodup:=by rw[vf];exact(acP _).nodup_iff.mpr K.nd
 refine bO (λj ρ=>∃(v:W)(o5 o6 o7:Option D),ρ= [some (aU b),some (ay r),some (ay c),some (aU v),some (ay ((c.reverse.take j).map λk=>r.getD k 0)),o5,o6,o7]/\v.length=b.length/\(∀p,p<b.length->p∉((c.reverse.take j).map λk=>r.getD k 0)->row v p=row b p)/\(∀p,p<b.length->(row v p).Nodup)/\(∀p,p<b.length->∀x,x∈row v p↔x∈row b p\/(x=b.length/\p∈(c.reverse.take j).map λk=>r.getD k 0))/\∀x∈c.reverse.take j,row v (r.getD x 0)=ins (row b (r.getD x 0)) (KR b r x) b.length)
  ⟨b,_,_,_,rfl,rfl,(λp _ _=>rfl),(λp _=>g.nod p),(λp _ x=>⟨.inl,λh=>h.elim id λh=>nomatch h.2⟩),λx h=>by simp at h⟩ ?_ ?_
 ·rintro j _ _ hd ⟨v,o5,o6,o7,rfl,t,same,vn,J,N⟩ A hA
  obtain⟨k,u,rfl⟩:=b8 hd;have kk:k∈c:=lH.mp (dA u);have O:=K.lt k kk;have al:=L.lt k O;have tk:c.reverse.take (j+1)=c.reverse.take j++ [k]:=by rw[rF,u];rfl
  generalize S:((c.reverse.take j).map λk=>r.getD k 0)=C at same J ⊢;have U:((c.reverse.take (j+1)).map λk=>r.getD k 0)=C++ [r.getD k 0]:=by rw[tk,cJ,S];rfl
  have na:r.getD k 0∉C:=λz=>by
   have:=nr
   rw[<-jK (j+1) c.reverse,cJ,U] at this
   have:=(dB.mp (dB.mp this).1).2.2 _ z _ (cF.mpr rfl)
   exact this rfl
  have dl:C.length<=196:=by
   have M:=az (m:=List.range b.length) (l:=C) (by rw[<-S,sO];exact nr.sublist (adz ..)) λx d=>by
    rw[<-S] at d;obtain⟨y,hy,rfl⟩:=aZ.mp d;exact bT.mpr (L.lt y (K.lt y (lH.mp (adf hy))))
   rw[fG] at M;omega
  generalize X:r.getD k 0=a at*;have rl:=dO g a;have ra:row v a=row b a:=same a al na;have Q7:fJ (r.map aq) (k:Int)=some (aq a):=by rw[jh O,X]
  have lr:((row b a).map aq).length=(row b a).length:=aD _;refine⟨_,rfl,_,rfl,_,rfl,_,Q7,_,_,rfl,fD (by rw[t];exact al),?_⟩
  refine⟨trivial,?_⟩;rw[ra];dsimp only;refine CH ?_;refine(?_:zR _ (CI [0,0,0,1,1,0,0,0] false 7 _) uB _ [some (aU b),some (ay r),some (ay c),some (aU v),some (ay C),some (aq k),some (ay (row b a)),some (.int 0)]);refine K5 (row b a≠ []) (λz=>∃i:Nat,z=(i:Int)/\i<=(row b a).length/\i=if row b a= [] then 0 else(row b a).idxOf (r.getD ((k+(r.length-1))%r.length) 0)+1) (x0:=0) (by rfl) (λnb=>⟨0,rfl,dS _,by rw[tz (Classical.not_not.mp nb)]⟩) (λQ M h2=>?_) (λne Q hQ=>?_) λz hz=>?_
  ·refine⟨_,rfl,by show 0<=sizeLine;decide,?_⟩
   refine(?_:wc (ay (row b a)) (ay []) _);refine sW ⟨_,rfl,?_⟩
   by_cases e:row b a= []
   ·rw[GE e];exact h2 (λz=>z e)
   ·rw[FM e];exact M e
  ·obtain⟨x,d⟩:=List.exists_mem_of_ne_nil _ ne
   have n2:2<=b.length:=by
    have:=g.rng a x d
    have:x≠a:=λe=>g.irr a (by rw[e] at d;exact d)
    omega
   have hb:=L.tie n2 k O;rw[X] at hb;have fx:=fw hb;have il:=vR.mpr hb;exact⟨_,rfl,_,rfl,_,rfl,_,rfl,_,Jf O,rfl,cP _,_,_,fx.1,fx.2.1,fx.2.2,hQ _ ⟨(row b a).idxOf (r.getD ((k+(r.length-1))%r.length) 0)+1,by rw[Int.natCast_add];rfl,by omega,by rw[mo ne]⟩⟩
  obtain⟨i,rfl,il,ii⟩:=hz;have ca:cutD ((row b a).map aq) none (some (i:Int))=((row b a).take i).map aq:=by rw[j8 _ _ (by rw[lr];omega),sO]
  have cb:cutD ((row b a).map aq) (some (i:Int)) none=((row b a).drop i).map aq:=by rw[rL _ _ (by rw[lr];omega),adu]
  have s1:(cutD ((row b a).map aq) none (some (i:Int))).length+1<=sizeLine:=by rw[ca,aD,lF];exact small (by omega)
  have ei:(cutD ((row b a).map aq) none (some (i:Int))++ [aq (b.map ay).length])++cutD ((row b a).map aq) (some (i:Int)) none=(ins (row b a) i b.length).map aq:=by
   rw[ca,cb,lw];unfold ins;rw[cJ,iJ];rfl
  have s2:(cutD ((row b a).map aq) none (some (i:Int))++ [aq (b.map ay).length]).length+(cutD ((row b a).map aq) (some (i:Int)) none).length<=sizeLine:=by
   rw[<-bZ,ei,aD,xZ];exact small (by omega)
  refine⟨_,rfl,_,rfl,_,rfl,by show 1<=sizeLine;decide,s1,_,rfl,_,rfl,_,rfl,_,rfl,s2,?_⟩
  have fl:((cutD ((row b a).map aq) none (some (i:Int))++ [aq (b.map ay).length])++cutD ((row b a).map aq) (some (i:Int)) none).all dF=true:=by rw[ei];exact cP _
  have ix:jN (v.map ay).length (a:Int)=some a:=by
   unfold jN;rw[tz (by omega),tz (by rw[aD,t];omega)]
   exact FS some (by omega)
  refine⟨fl,_,rfl,_,rfl,_,rfl,_,Q7,_,a,rfl,ix,?_⟩;refine⟨_,rfl,_,rfl,_,rfl,_,Q7,trivial,cq (by rw[aD];omega),?_⟩
  have nin:b.length∉row b a:=λz=>lI _ (g.rng _ _ z);have o:∀p,row (v.set a (ins (row b a) i b.length)) p=if a=p then ins (row b a) i b.length else row v p:=λp=>Wb.Mp (by rw[t];exact al)
  refine hA _ ⟨v.set a (ins (row b a) i b.length),some (aq k),some (ay (row b a)),some (aq i),?_,by rw[f9,t],λp n I=>?_,λp n=>?_,λp n x=>?_,λx d=>?_⟩
  ·have e3:aU (v.set a (ins (row b a) i b.length))= .lst ((v.map ay).set a (.lst ((cutD ((row b a).map aq) none (some (i:Int))++ [aq (b.map ay).length])++cutD ((row b a).map aq) (some (i:Int)) none))):=by
    rw[ei];exact FS D.lst (Jy ..).symm
   have e4:ay (C++ [a])= .lst (C.map aq++ [aq a]):=by unfold ay;rw[cJ];rfl
   rw[U,e3,e4];rfl
  ·rw[U] at I
   rw[bR] at I;rw[o,mo (λe=>I (.inr (cF.mpr e.symm)))];exact same p n λz=>I (.inl z)
  ·rw[o]
   split
   ·exact yr (g.nod a) nin
   ·exact vn p n
  ·rw[o,U,bR,cF]
   split
   ·next e=>
    subst e;rw[DD];exact⟨λh=>h.elim (λh=> .inr ⟨h, .inr rfl⟩) .inl,λh=>h.elim .inr λh=> .inl h.1⟩
   ·next e=>
    rw[J p n x];exact or_congr acK (and_congr acK ⟨.inl,λh=>h.elim id λh=>absurd h.symm e⟩)
  ·rw[tk] at d
   rw[o]
   rcases bR.mp d with d|d
   ·rw[mo (λe=>na (by rw[e,<-S];exact aZ.mpr ⟨x,d,rfl⟩))]
    exact N x d
   ·rw[cF] at d
    subst d;rw[X,tz rfl,KR,X,<-ii]
 ·rintro _ ⟨v,o5,o6,o7,rfl,t,same,vn,J,N⟩
  rw[aD,rD] at same J N ⊢;have ps0:0<(c.reverse.map λk=>r.getD k 0).length:=by rw[aD,vX];exact K.ne
  have plt:∀p∈c.reverse.map (λk=>r.getD k 0),p<b.length:=λp n=>by
   obtain⟨k,u,rfl⟩:=aZ.mp n;exact L.lt k (K.lt k (lH.mp u))
  have o:∀p,row (v++ [c.reverse.map λk=>r.getD k 0]) p=if p=b.length then c.reverse.map (λk=>r.getD k 0) else row v p:=λp=>by
   unfold row;rw[bB,bB]
   by_cases e:p=b.length
   ·rw[tz e,kF (by omega),show p-v.length=0 by omega];rfl
   ·rw[mo e]
    by_cases z:p<v.length
    ·rw[lC z]
    ·rw[fj (by rw[bZ];simp only[jJ];omega),fj (by omega)]
  have G2:Good (v++ [c.reverse.map λk=>r.getD k 0]):=by
   refine E3 g ps0 plt (by rw[bZ,t];rfl) ?_ (λx=>?_) (λp n=>?_) λp n x=>?_
   ·rw[o,tz rfl];exact nr
   ·rw[o,tz rfl]
   ·rw[o,mo (by omega)];exact vn p n
   ·rw[o,mo (by omega)];exact J p n x
  have em:∀p,p∈(c.reverse.map λk=>r.getD k 0)↔p∈c.map λk=>r.getD k 0:=λp=>by rw[vf,lH]
  have HR:AW b (v++ [c.reverse.map λk=>r.getD k 0]) r c:=⟨by rw[bZ,t];rfl,λp n I=>by rw[o,mo (by omega)];exact same p n λz=>I ((em p).mp z),λk u=>by
   have:=L.lt k (K.lt k u)
   rw[o,mo (by omega)]
   exact N k (lH.mpr u),by rw[o,tz rfl,vf]⟩
  have:=q _ G2 (by rw[bZ,t];rfl) HR
  have ew:aU (v++ [c.reverse.map λk=>r.getD k 0])= .lst (v.map ay++ [ay (c.reverse.map λk=>r.getD k 0)]):=by unfold aU;rw[cJ];rfl
  rw[ew] at this;exact⟨_,rfl,_,rfl,by show 1<=sizeLine;decide,by rw[aD];exact small (by simp only[jJ];omega),this⟩
variable {P:Program} {w:World} {mg:Str->Option Value} {base:Heap} {Z:DC} (T:Txt Z mg)
theorem K4{w v:W}(g:Good w)(j:2<=w.length)(R:eV w d a)(L:kK w (a.map (·.1)))(K:Cj (a.map (·.1)) c)(h:AW w v (a.map (·.1)) c):JA w v (c.map λx=>a.getD x (0,0)):=by
 have i:(a.map (·.1)).length=a.length:=aD _;refine⟨h.len,λp l m=>h.out p l λz=>?_,λx n=>?_,?_⟩
 ·obtain⟨k,b,e⟩:=aZ.mp z
  exact m _ (aZ.mpr ⟨k,b,rfl⟩) (by rw[<-e,mI])
 ·obtain⟨k,b,rfl⟩:=aZ.mp n
  have f:=K.lt k b;have tie:=L.tie j k f;have at_:=h.at_ k b;have ne:row w ((a.map (·.1)).getD k 0)≠ []:=List.ne_nil_of_mem tie;rw[KR,mo ne] at at_;rw[i] at f;have pv:=Jm R f;rw[mI,i,mI] at tie at_;have o:(a.getD k (0,0)).1=(a.getD ((k+(a.length-1))%a.length) (0,0)).2:=by rw[pv];rfl
  have q:(a.getD k (0,0)).2=aN (row w (a.getD k (0,0)).1) (a.getD ((k+(a.length-1))%a.length) (0,0)).1:=by
   rw[o]
   conv=>lhs;rw[pv]
   rfl
  show EE (row w (a.getD k (0,0)).1) (row v (a.getD k (0,0)).1) (a.getD k (0,0)).2 w.length;rw[at_,q];exact D3 tie
 ·rw[h.last,bU]
  congr 1
  exact rz λk _=>mI _ _
theorem Az{w v:W}(g:Good w)(l:Good v)(L:kK w r)(K:Cj r a)(h:AW w v r a)(m:2<=w.length->∃d e,eV w d e/\aC w d/\r=e.map (·.1))(z:1<=w.length)(P:2<=w.length->iM w):iM v:=by
 by_cases i:2<=w.length
 ·obtain⟨d,e,R,n,rfl⟩:=m i
  have H:=K4 g i R L K h;cases a with
  |nil=>exact absurd K.ne (by simp)
  |cons k a=>
   refine Je g l R n K.inc (λx o=>?_) ?_ H (P i)
   ·have:=K.lt x o;rwa [aD] at this
   ·have:=K.nd
    rwa [show((k::a).map λx=>(e.map (·.1)).getD x 0)=(k::a).map λx=>(e.getD x (0,0)).1 from rz λx _=>mI _ _] at this
 ·have p:w.length=1:=by omega
  obtain rfl:=yC g p;have j:∀k∈a,r.getD k 0=0:=λk q=>by have:=L.lt k (K.lt k q);exact Nat.lt_one_iff.mp this
  cases a with
  |nil=>exact absurd K.ne (by simp)
  |cons k a=>
   have f:=j k (bE ..)
   have s:a= []:=by
    cases a with
    |nil=>rfl
    |cons t a=>
     have:=K.nd
     rw[dD,dD,f,j t (by simp)] at this
     simp at this
   subst s;have b:=h.at_ k (bE ..);rw[f,KR,f,tz (show row ([[]]:W) 0= [] from rfl)] at b;have c:=h.last;rw[dD,f] at c;have u:=h.len
   have:v= [[1],[0]]:=by
    match v,u,b,c with
    | [x,y],_,b,c=>
     have b:x= [1]:=b;have c:y= [0]:=c;rw[b,c]
   rw[this];exact LZ
def Pc:cg:=λb P=>∃(a:List Int),b= [.lst (av a)]/\a.length<=13/\∀w,Good w->w.length=a.length+1->(2<=w.length->iM w)->P (aU w)
theorem Ih:Good [[]]:=⟨λp q h=>by have:=bD h;cases p<;>simp[row] at h,λp h=>by have:=bD h;cases p<;>simp[row] at h,λp=>by cases p<;>simp[row],λp q h=>by have:=bD h;cases p<;>simp[row] at h,λp a=>by
 obtain rfl:p=0:=by simpa using a
 exact .refl _⟩
theorem BA:FnOk P w Z.K mg base b9 2 T.d__law_web.f T.d__law_web.fd ["_law_draws_here"] (aV Z Pc):=by
 have b:=t7.nd;refine aY T.d__law_web.F t7 [0,0,0,0,0] (by decide) (λy R h=>by obtain⟨_,rfl,_⟩:=h;rfl) (λbF A outer s H E y R c h=>?_)
 have hu:=c.units
 refine⟨_,(af (aS false 1 b (cL (ae (cL ag) ag)))
   (af (cC rfl FB (bc (aa 0)) (aM 2 b) (af (aS false 3 b (aA T.d__law_lands (pI T) c (ae (aa 1) ag)))
   (af (aS false 4 b (aE (aa 3) (aF cB (aa 2) (aH bz rfl T.B.len bx (ae (aa 3) ag)))))
   (ao (aS false 1 b (aA T.d__law_grown (pH T) c (ae (aa 1) (ae (aa 4) (ae (aA T.d__law_places (wq T) c (ae (aa 4) (ae (aF iq (aa 2) (aH bz rfl T.B.len bx (ae (aa 3) ag))) ag))) ag)))))))))
   (ao (aJ (aa 1))))),?_⟩
 obtain⟨C,rfl,G,q⟩:=h;refine⟨by show 0<=sizeLine;decide,by show 1<=sizeLine;decide,trivial,?_⟩
 refine⟨_,rfl,?_⟩;refine bO (λj I=>∃(w:W)(d e k:Option D),I= [some (.lst (av C)),some (aU w),d,e,k]/\Good w/\w.length=j+1/\(2<=w.length->iM w)) ⟨[[]],_,_,_,rfl,Ih,rfl,λz=>absurd z (by decide)⟩ ?_ ?_
 ·rintro j _ _ J ⟨v,d,e,k,rfl,g,p,l⟩ A M
  obtain⟨x,N,rfl⟩:=b8 J;have jl:=(di.mp N).1;refine⟨_,rfl,v,rfl,g,by omega,by omega,λa r0 rl ok _ O=>⟨trivial,?_⟩⟩
  have r:(a.map ay).length=a.length:=aD _;have n:(0:Int)<((a.map ay).length:Int):=by rw[r];omega
  have m:=kh x ((a.map ay).length:Int) n;obtain⟨i,Q⟩:∃i:Nat,x%((a.map ay).length:Int)=(i:Int):=⟨(x%((a.map ay).length:Int)).toNat,by omega⟩
  have o:i<a.length:=by omega
  have S:fJ (a.map ay) (x%((a.map ay).length:Int))=some (ay (a.getD i [])):=by
   rw[Q];exact gd (by rw[bQ,bB,bJ o];rfl)
  have t:a.getD i []∈a:=by rw[bB,bJ o];exact g5 o
  have L:kK v (a.getD i []):=ok _ t;refine⟨_,rfl,_,rfl,_,rfl,n,_,S,trivial,?_⟩;refine⟨_,rfl,_,rfl,_,rfl,_,rfl,_,rfl,⟨n,by show((a.map ay).length:Int)<1073741824;rw[r];omega⟩,?_⟩
  refine⟨a.getD i [],_,rfl,L.ne,L.sz,λU K=>⟨v,a.getD i [],U,rfl,g,by omega,by omega,L,K,λX u l2 Y=>⟨trivial,?_⟩⟩⟩
  exact M _ ⟨X,_,_,_,rfl,u,by omega,λ_=>Az g u L K Y (λn2=>O n2 _ t) (by omega) l⟩
 ·rintro _ ⟨v,d,e,k,rfl,g,p,l⟩
  exact⟨_,rfl,q v g (by rw[p];unfold av;rw[aD]) l⟩
variable {P:Program} {w:World} {mg:Str->Option Value} {base:Heap} {Z:DC} (T:Txt Z mg)
theorem E4{w v:W}(g:Good w)(len:v.length=w.length)(nod:∀p,p<w.length->(row v p).Nodup)(mem:∀p,p<w.length->∀q,q∈row v p↔q∈row w p):Good v:=by
 have all:∀{p q},q∈row v p↔q∈row w p:=λ {p q}=>by
  by_cases h:p<w.length
  ·exact mem p h q
  ·exact⟨λz=>absurd (bD z) (by omega),λz=>absurd (bD z) h⟩
 refine⟨λp q h=>by rw[len];exact g.rng p q (all.mp h),λp h=>g.irr p (all.mp h),λp=>?_,λp q h=>all.mpr (g.sym p q (all.mp h)),λp f=>?_⟩
 ·by_cases z:p<w.length
  ·exact nod p z
  ·have:row v p= []:=adg.mpr λq h=>by have:=bD h;omega
   rw[this];exact gK
 ·have c:∀{a b},Reach w a b->Reach v a b:=λ {a b} h=>by
   induction h with
   |refl=>exact .refl _
   |step _ d e=>exact .step e (all.mpr d)
  exact c (g.con p (by omega))
def named(w:W)(a:List Nat):W:=(List.range w.length).map λp=>(row w (a.getD p 0)).map λq=>a.idxOf q
theorem fC{a:List Nat}{x:Nat}(h:x∈a):a.getD (a.idxOf x) 0=x/\a.idxOf x<a.length:=by
 have b:=vR.mpr h;refine⟨?_,b⟩;rw[bB,bJ b];exact AS b
theorem C5{a:List Nat}(b:a.Nodup){i:Nat}(h:i<a.length):a.idxOf (a.getD i 0)=i:=by
 rw[bB,bJ h];exact b.idxOf_getElem i h
theorem kv{w:W}(h:p<w.length):row (named w a) p=(row w (a.getD p 0)).map λq=>a.idxOf q:=by
 unfold named row;rw[bB,bQ,qq h];rfl
theorem C7{w:W}(g:Good w)(N:xh w.length a):Good (named w a):=by
 have lt:∀p,p<w.length->a.idxOf p<w.length:=λp b=>by have:=(fC (dh N b)).2;rw[N.1] at this;exact this
 refine Ii (ord:=λp=>a.idxOf p) g (by unfold named;simp) lt (λp q b c e=>?_) (λy f=>?_) (λp b=>?_)
 ·have:=(fC (dh N b)).1
  have:=(fC (dh N c)).1
  have e:a.idxOf p=a.idxOf q:=e;exact(fC (dh N b)).1.symm.trans (by rw[e];exact(fC (dh N c)).1)
 ·have d:y<a.length:=by rw[N.1];exact f
  exact⟨a.getD y 0,N.2.2 _ (getD_mem d),C5 N.2.1 d⟩
 ·rw[kv (lt p b),(fC (dh N b)).1]
theorem Jw{l m:List Nat}(h:l.Perm m):l.sum=m.sum:=by
 induction h with
 |nil=>rfl
 |cons x _ c=>rw[aef,aef,c]
 |swap x y l=>simp only[aef];omega
 |trans _ _ a b=>exact a.trans b
theorem nE(w:W):fP w=((List.range w.length).map λp=>(row w p).length).sum:=by
 unfold fP
 congr 1
 refine rA λi=>?_;rw[bQ,bQ]
 by_cases h:i<w.length
 ·rw[qq h,bJ h]
  unfold row;rw[Option.map_some,Option.map_some,bB,bJ h];rfl
 ·rw[fj (by omega),fj (by rw[fG];omega)];rfl
theorem uC{w v:W}(a:v.length=w.length)(h:∀p,p<w.length->(row v p).length=(row w p).length):fP v=fP w:=by
 rw[nE,nE,a]
 congr 1
 exact rz λp b=>h p (bT.mp b)
theorem ES{w:W}(N:xh w.length a):fP (named w a)=fP w:=by
 have b:(named w a).length=w.length:=by unfold named;simp
 have c:(List.range w.length).map (λp=>a.getD p 0)=a:=by
  refine rA λi=>?_;rw[bQ]
  by_cases h:i<w.length
  ·rw[qq h,bJ (by rw[N.1];exact h),Option.map_some,bB,bJ (by rw[N.1];exact h)];rfl
  ·rw[fj (by rw[fG];omega),fj (by rw[N.1];omega)];rfl
 have d:a.Perm (List.range w.length):=(qm N.2.1 rE).mpr λx=>⟨λh=>bT.mpr (N.2.2 x h),λh=>dh N (bT.mp h)⟩;rw[nE,b,nE w,<-Jw (d.map λx=>(row w x).length)]
 conv=>rhs;rw[<-c,bU]
 congr 1
 refine rz λp e=>?_;rw[kv (bT.mp e),aD];rfl
theorem FJ{w v:W}(N:xh w.length a)(d:v.length=w.length)(f:∀p,p<w.length->∃i,row v p=(row (named w a) p).drop i++(row (named w a) p).take i):AX w v λp=>a.idxOf p:=by
 have lt:∀p,p<w.length->a.idxOf p<w.length:=λp b=>by have:=(fC (dh N b)).2;rw[N.1] at this;exact this
 refine⟨d,lt,λp q b g e=>?_,λy h=>?_,λp b=>?_⟩
 ·have e:a.idxOf p=a.idxOf q:=e
  exact(fC (dh N b)).1.symm.trans (by rw[e];exact(fC (dh N g)).1)
 ·have c:y<a.length:=by rw[N.1];exact h
  exact⟨a.getD y 0,N.2.2 _ (getD_mem c),C5 N.2.1 c⟩
 ·obtain⟨i,e⟩:=f _ (lt p b)
  rw[kv (lt p b),(fC (dh N b)).1] at e;exact⟨i,e⟩
theorem LY{w v:W}(g:Good w)(b:Good v)(d:2<=w.length)(P:iM w)(N:AX w v a)(f:fP v=fP w):iM v:=by
 obtain⟨c,F,e⟩:=P;have E:Eu true w:=λ_=>⟨c,F,by omega,λ_=>e⟩
 obtain⟨h,i,_,j⟩:=E.nam g b N f (by rw[N.len];exact d)
 exact⟨h,i,j rfl⟩
def MG:cg:=λb P=>∃(w:W)(a:List Int),b= [aU w, .lst (av a)]/\Good w/\1<=w.length/\w.length<=14/\a.length=w.length/\∀v,Good v->v.length=w.length->fP v=fP w->(2<=w.length->iM w->iM v)->P (aU v)
theorem yy:FnOk P w Z.K mg base b9 1 T.d__law_named.f T.d__law_named.fd ["_law_turns","_law_draws_here"] (aV Z MG):=by
 have d:=p4.nd;refine aY T.d__law_named.F p4 [0,0,0,0,0,1,0,0] (by decide) (λds R h=>by obtain⟨_,_,rfl,_⟩:=h;rfl) (λbF A outer s H E ds R hr h=>?_)
 have hu:=hr.units
 refine⟨_,(af (aS false 2 d (cL ag))
   (af (hJ rfl FB (fq rfl T.B.range (ae (aH bz rfl T.B.len bx (ae (aa 0) ag)) ag)) (aM 3 d) (af (aS false 4 d (aF cB (aE (aa 1) (aa 3)) (aF bP (aa 3) au)))
   (ao (aS false 2 d (aF bP (aF bP (gP (aa 2) jd (je (aa 4))) (cL (ae (aa 3) ag))) (gP (aa 2) (je (aa 4)) jd))))))
   (af (cA 5 d (eN ag))
   (af (hJ rfl FB (fq rfl T.B.range (ae (aH bz rfl T.B.len bx (ae (aa 0) ag)) ag)) (aM 6 d) (af (qB 7 (NC:= ["_law_q","_law_names"]) (src:= [none,some 2]) rfl d (lK (aw ja)) ⟨rfl,rfl,trivial⟩ (bc (aE (aa 0) (aE (aa 2) (aa 6)))) (λ_ _ _=>(bI 0 (show(["_law_q","_law_names"]:List Str).Nodup from by decide+kernel))) (λ_ _ _=>dM) (λ_ _ _=>(qy (aa 1) (aa 0))))
   (af (aS false 4 d (aF cB (aF iq (aE (aa 1) (aa 6)) au) (aH (Cz rfl) rfl T.B.max A5 (ae au (ae (aH bz rfl T.B.len bx (ae (aa 7) ag)) ag)))))
   (ao (fu false 5 (aF bP (gP (aa 7) (je (aa 4)) jd) (gP (aa 7) jd (je (aa 4)))))))))
   (ao (aJ (aa 5))))))),?_⟩
 obtain⟨b,c,rfl,g,h1,dW,xl,q⟩:=h;have lw:(b.map ay).length=b.length:=aD _;refine⟨by show 0<=sizeLine;decide,trivial,?_⟩
 refine⟨_,rfl,⟨by omega,by show((b.map ay).length:Int)<2^62;omega⟩,?_⟩
 rw[show(((b.map ay).length:Int)).toNat=b.length by omega]
 refine gj (λj ρ=>∃(a:List Nat)(o m:Option D),ρ= [some (aU b),some (.lst (av c)),some (ay a),o,m,none,none,none]/\xh j a) ⟨[],_,_,rfl,rfl,gK,λx h=>by cases h⟩ ?_ ?_
 ·rintro j _ hj ⟨a,o,m,rfl,U,d,lt⟩ A I
  have J:=kh (c.getD j 0) ((j:Int)+1) (by omega)
  have X:(a.map aq).length=j:=by rw[aD,U]
  obtain⟨i,r⟩:∃i:Nat,c.getD j 0%((j:Int)+1)=(i:Int):=⟨(c.getD j 0%((j:Int)+1)).toNat,by omega⟩
  have il:i<=j:=by omega
  have u:cutD (a.map aq) none (some (c.getD j 0%((j:Int)+1)))=(a.take i).map aq:=by rw[r,j8 _ _ (by rw[X];omega),sO]
  have C:cutD (a.map aq) (some (c.getD j 0%((j:Int)+1))) none=(a.drop i).map aq:=by rw[r,rL _ _ (by rw[X];omega),adu]
  have ei:(cutD (a.map aq) none (some (c.getD j 0%((j:Int)+1)))++ [aq j])++cutD (a.map aq) (some (c.getD j 0%((j:Int)+1))) none=(ins a i j).map aq:=by
   rw[u,C];unfold ins;rw[cJ,iJ];rfl
  have s1:(cutD (a.map aq) none (some (c.getD j 0%((j:Int)+1)))).length+1<=sizeLine:=by rw[u,aD,lF];exact small (by omega)
  have L:(cutD (a.map aq) none (some (c.getD j 0%((j:Int)+1)))++ [aq j]).length+(cutD (a.map aq) (some (c.getD j 0%((j:Int)+1))) none).length<=sizeLine:=by
   rw[<-bZ,ei,aD,xZ];exact small (by omega)
  refine⟨_,rfl,_,rfl,_,dN (by omega),_,rfl,(by show(0:Int)<(j:Int)+1;omega),trivial,?_⟩
  refine⟨_,rfl,_,rfl,_,rfl,by show 1<=sizeLine;decide,s1,_,rfl,_,rfl,L,trivial,?_⟩
  refine I _ ⟨ins a i j,some (aq j),some (.int (c.getD j 0%((j:Int)+1))),?_,by rw[xZ,U],yr d (λz=>by have:=lt j z;omega),λx l=>?_⟩
  ·have e:ay (ins a i j)= .lst ((cutD (a.map aq) none (some (c.getD j 0%((j:Int)+1)))++ [aq j])++cutD (a.map aq) (some (c.getD j 0%((j:Int)+1))) none):=by rw[ei];rfl
   rw[e];rfl
  ·rcases DD.mp l with rfl|l
   ·omega
   ·have:=lt x l;omega
 ·rintro _ ⟨a,o,m,rfl,N⟩
  have all:∀x,x<b.length->x∈a:=λx l=>dh N l;refine⟨by show 0<=sizeLine;decide,?_⟩
  refine⟨_,rfl,⟨by omega,by show((b.map ay).length:Int)<2^62;omega⟩,?_⟩
  rw[show(((b.map ay).length:Int)).toNat=b.length by omega]
  refine gj (λj ρ=>∃(v:W)(m M O:Option D),ρ= [some (aU b),some (.lst (av c)),some (ay a),o,m,some (aU v),M,O]/\v.length=j/\∀p,p<j->∃i,row v p=(row (named b a) p).drop i++(row (named b a) p).take i) ⟨[],_,_,_,rfl,rfl,λp h=>by omega⟩ ?_ ?_
  ·rintro p _ k ⟨v,m,M,O,rfl,n,G⟩ A I
   have np:a.getD p 0<b.length:=N.2.2 _ (by rw[bB,bJ (by rw[N.1];exact k)];exact g5 _)
   have rl:=dO g (a.getD p 0);refine⟨_,rfl,_,rfl,_,rfl,_,jh (by rw[N.1];exact k),_,fD np,?_⟩
   refine ib (ρ:= [none,some (ay a)]) aq (λx=>aq (a.idxOf x)) (row b (a.getD p 0)) _ (λx l Y hY=>?_) rfl (small (by omega)) λaR=>?_
   ·have Q:=fw (all x (g.rng _ _ l))
    exact⟨_,rfl,_,rfl,_,rfl,rfl,cP _,_,_,Q.1,Q.2.1,Q.2.2,hY⟩
   refine⟨trivial,?_⟩;have eT:(.lst ((row b (a.getD p 0)).map λx=>aq (a.idxOf x)):D)=ay (row (named b a) p):=by rw[kv k];unfold ay;rw[bU];rfl
   have tl:(row (named b a) p).length<=14:=by rw[kv k,aD];omega
   rw[eT];generalize hT:row (named b a) p=t at tl ⊢;have lt:(t.map aq).length=t.length:=aD _;have y:(0:Int)<(if ((t.map aq).length:Int)>1 then((t.map aq).length:Int) else 1):=by split<;>omega
   have J:=kh (c.getD p 0 / 14) (if ((t.map aq).length:Int)>1 then((t.map aq).length:Int) else 1) y;refine⟨_,rfl,_,rfl,_,dN (by omega),⟨by decide,by decide⟩,_,rfl,_,_,rfl,y,trivial,?_⟩
   obtain⟨i,r⟩:∃i:Nat,c.getD p 0 / 14%(if ((t.map aq).length:Int)>1 then((t.map aq).length:Int) else 1)=(i:Int):=⟨(c.getD p 0 / 14%(if ((t.map aq).length:Int)>1 then((t.map aq).length:Int) else 1)).toNat,by omega⟩
   have il:i<=t.length:=by
    rw[r] at J;have h2:=J.2
    split at h2<;>omega
   have u:cutD (t.map aq) none (some (i:Int))=(t.take i).map aq:=by rw[j8 _ _ (by rw[lt];omega),sO]
   have C:cutD (t.map aq) (some (i:Int)) none=(t.drop i).map aq:=by rw[rL _ _ (by rw[lt];omega),adu]
   have L:(cutD (t.map aq) (some (i:Int)) none).length+(cutD (t.map aq) none (some (i:Int))).length<=sizeLine:=by
    rw[u,C,aD,aD,zc,lF];exact small (by omega)
   refine(?_:JV _ _ _ _ _ [some (aU b),some (.lst (av c)),some (ay a),o,some (.int (c.getD p 0 / 14%(if ((t.map aq).length:Int)>1 then((t.map aq).length:Int) else 1))),some (aU v),some (aq p),some (ay t)]);rw[r];refine⟨_,rfl,_,rfl,_,rfl,_,rfl,_,rfl,L,trivial,cq (by rw[aD];omega),?_⟩
   refine I _ ⟨v++ [t.drop i++t.take i],some (.int (i:Int)),some (aq p),some (ay t),?_,by rw[bZ,n];rfl,λx l=>?_⟩
   ·have e:aU (v++ [t.drop i++t.take i])= .lst (v.map ay++ [.lst (cutD (t.map aq) (some (i:Int)) none++cutD (t.map aq) none (some (i:Int)))]):=by
     rw[u,C,<-cJ];unfold aU;rw[cJ];rfl
    rw[e];rfl
   ·by_cases z:x=p
    ·subst z
     have:row (v++ [t.drop i++t.take i]) x=t.drop i++t.take i:=by
      unfold row;rw[bB,kF (by omega),show x-v.length=0 by omega];rfl
     rw[this,hT];exact⟨i,rfl⟩
    ·have:row (v++ [t.drop i++t.take i]) x=row v x:=by
      unfold row;rw[bB,bB,lC (by omega)]
     rw[this];exact G x (by omega)
  ·rintro _ ⟨v,m,M,O,rfl,n,G⟩
   have gn:=C7 g N;have nl:(named b a).length=b.length:=by unfold named;simp
   have S:∀p,p<b.length->(row v p).Perm (row (named b a) p):=λp k=>by
    obtain⟨i,e⟩:=G p k;rw[e]
    have:=qt (l₁:=(row (named b a) p).drop i) (l₂:=(row (named b a) p).take i)
    rwa [jK] at this
   have gv:Good v:=E4 gn (by rw[n,nl]) (λp k=>(S p (by omega)).nodup_iff.mpr (gn.nod p)) λp k x=>(S p (by omega)).mem_iff
   have dv:fP v=fP b:=(uC (by rw[n,nl]) λp k=>(S p (by omega)).length_eq).trans (ES N)
   exact⟨_,rfl,q v gv n dv λl2 P=>LY g gv l2 P (FJ N n G) dv⟩
variable {P:Program} {w:World} {mg:Str->Option Value} {base:Heap} {Z:DC} (T:Txt Z mg)
theorem C0(h:0<r.length):Cj r ((List.range r.length).filter λk=>!decide (r.getD k 0∈r.take k)):=by
 have mk:∀{k:Nat},k∈(List.range r.length).filter (λk=>!decide (r.getD k 0∈r.take k))↔k<r.length/\r.getD k 0∉r.take k:=λ {k}=>by
  rw[fO,bT];simp
 have inc:((List.range r.length).filter λk=>!decide (r.getD k 0∈r.take k)).Pairwise (·<·):=AR.filter _;refine⟨qp (mk.mpr ⟨h,by simp⟩),λk c=>(mk.mp c).1,?_,inc⟩
 rw[oJ,gY];refine inc.imp_of_mem λ {a b} d f lt e=>(mk.mp f).2 ?_;rw[<-e];have g:=(mk.mp d).1;refine dA (i:=a) ?_;rw[Ew lt,bB,bJ g];rfl
def O7:cg:=λa P=>∃(w:W)(x:Int),a= [aU w, .int x]/\Good w/\1<=w.length/\w.length<=13/\(2<=w.length->iM w)/\∀v,Good v->v.length=w.length+1->iM v->P (aU v)
theorem zx:FnOk P w Z.K mg base b9 2 T.d__law_full.f T.d__law_full.fd ["_law_turns","_law_number"] (aV Z O7):=by
 have l:=qU.nd;refine aY T.d__law_full.F qU [0,0,0,0] (by decide) (λy R h=>by obtain⟨_,_,rfl,_⟩:=h;rfl) (λbF A outer s H E y R b h=>?_)
 have hu:=b.units
 refine⟨_,(af (aS false 2 l (aA T.d__law_lands (pI T) b (ae (aa 0) ag)))
   (af (aS false 3 l (aE (aa 2) (aF cB (aa 1) (aH bz rfl T.B.len bx (ae (aa 2) ag)))))
   (ao (aJ (aA T.d__law_grown (pH T) b (ae (aa 0) (ae (aa 3) (ae (nj (NC:= ["_law_k","_law_land"]) (src:= [none,some 3]) rfl (lK (aw jS)) ⟨rfl,rfl,trivial⟩ (EU rfl T.B.range (ae (aH bz rfl T.B.len bx (ae (aa 3) ag)) ag)) (λ_ _ _=>(bI 0 (show(["_law_k","_law_land"]:List Str).Nodup from by decide+kernel))) (λ_ _ _=>(jf (aK iV (aE (aa 1) (aa 0)) (gP (aa 1) jd (je (aa 0))) (by with_unfolding_all rfl)))) (λ_ _ _=>(aa 0))) ag)))))))),?_⟩
 obtain⟨v,x,rfl,g,n,z,C,q⟩:=h;refine⟨_,rfl,v,rfl,g,by omega,by omega,λa r0 rl ok _ G=>⟨trivial,?_⟩⟩
 have I:(a.map ay).length=a.length:=aD _;have o:(0:Int)<((a.map ay).length:Int):=by rw[I];omega
 have m:=kh x ((a.map ay).length:Int) o;obtain⟨i,J⟩:∃i:Nat,x%((a.map ay).length:Int)=(i:Int):=⟨(x%((a.map ay).length:Int)).toNat,by omega⟩
 have c:i<a.length:=by omega
 have M:fJ (a.map ay) (x%((a.map ay).length:Int))=some (ay (a.getD i [])):=by
  rw[J];exact gd (by rw[bQ,bB,bJ c];rfl)
 have p:a.getD i []∈a:=by rw[bB,bJ c];exact g5 c
 have L:kK v (a.getD i []):=ok _ p;have t:=L.ne;have r2:=L.sz;generalize b:a.getD i []=r at*;have d:(r.map aq).length=r.length:=aD _;refine⟨_,rfl,_,rfl,_,rfl,o,_,M,trivial,?_⟩;refine⟨_,rfl,_,rfl,_,rfl,⟨by omega,by show((r.map aq).length:Int)<2^62;omega⟩,?_⟩
 rw[show(((r.map aq).length:Int)).toNat=r.length by omega,sv]
 refine jg (ρ:= [none,some (ay r)]) aq (λk=>!decide (r.getD k 0∈r.take k)) aq (List.range r.length) _ [] _ (λk j Y Nn N O=>?_) ⟨none,rfl⟩ (small (by rw[jq,fG];omega)) λaR=>?_
 ·have j:=bT.mp j
  refine⟨_,rfl,_,rfl,_,jh j,_,rfl,_,rfl,?_⟩;have Q:cutD (r.map aq) none (some (k:Int))=(r.take k).map aq:=by rw[j8 _ _ (by rw[d];omega),sO]
  refine(?_:JX true _ (.lst (cutD (r.map aq) none (some (k:Int)))) _);rw[Q];refine⟨rfl,cP _,_,rfl,?_⟩;rw[tz rfl,ia];exact bg (λe=>⟨_,rfl,N e⟩) (λe=>O e)
 ·exact⟨v,r,_,rfl,g,n,z,L,C0 t,λS u U X=>q S u U (Az g u L (C0 t) X (λn2=>b▸G n2 _ (b▸p)) n C)⟩
theorem CM{w:W}(g:Good w)(h:w.length<=10)(P:2<=w.length->iM w):fP w<64:=by
 by_cases c:3<=w.length
 ·have:=LX g c (P (by omega))
  omega
 ·have a:=iP g
  have b:=df w;have d:w.length*w.length<=2*2:=vg (by omega) (by omega)
  omega
def MA:cg:=λa P=>∃(b:List Int),a= [.jF b]/\∀w,Good w->1<=w.length->w.length<=10->(2<=w.length->iM w)->P (aU w)
theorem yx:FnOk P w Z.K mg base b9 3 T.d__law_drawn.f T.d__law_drawn.fd ["_law_script"] (aV Z MA):=by
 have l:=pV.nd;refine aY T.d__law_drawn.F pV [0,0,0] (by decide) (λz R h=>by obtain⟨_,rfl,_⟩:=h;rfl) (λU A outer s H E z R b h=>?_)
 have X:=b.units
 refine⟨_,(af (aS false 1 l (aA T.d__law_web (BA T) b (ae (aA T.d__law_draws (e9 T) b (ae (aa 0) (ae au (ae (aF cB (aA T.d__law_cell_at (cu T) b (ae (aa 0) (ae au ag))) au) ag)))) ag)))
   (af (cC rfl FB (bc (aA T.d__law_draws (e9 T) b (ae (aa 0) (ae au (ae (aF cB (aF iq (aA T.d__law_cell_at (cu T) b (ae (aa 0) (ae au ag))) au) au) ag))))) (aM 2 l) (ao (bq (aK nJ (aH bz rfl T.B.len bx (ae (aa 1) ag)) au (aW _)) (ao (aS false 1 l (aA T.d__law_full (zx T) b (ae (aa 1) (ae (aa 2) ag))))) aL)))
   (ao (aJ (aA T.d__law_named (yy T) b (ae (aa 1) (ae (aA T.d__law_draws (e9 T) b (ae (aa 0) (ae au (ae (aH bz rfl T.B.len bx (ae (aa 1) ag)) ag)))) ag))))))),?_⟩
 obtain⟨c,rfl,q⟩:=h;refine⟨_,rfl,_,rfl,c,2,rfl,λv=>⟨(by show(0:Int)<10;decide),?_⟩⟩
 obtain⟨n,C,Y⟩:∃n:Nat,v%10=(n:Int)/\n<=9:=by
  have:=kh v 10 (by decide)
  exact⟨(v%10).toNat,by omega,by omega⟩
 dsimp only;rw[show D.int (v%10)=aq n by unfold aq;rw[C]]
 refine⟨c,1,n,rfl,by omega,by omega,λG xl=>⟨G,rfl,by omega,λI J l0 m=>⟨trivial,?_⟩⟩⟩
 refine⟨_,rfl,_,rfl,c,2,rfl,λd=>⟨⟨by decide,by decide⟩,(by show(0:Int)<5;decide),?_⟩⟩
 obtain⟨u,L,h4⟩:∃n:Nat,d / 10%5=(n:Int)/\n<=4:=by
  have:=kh (d / 10) 5 (by decide)
  exact⟨(d / 10%5).toNat,by omega,by omega⟩
 dsimp only;rw[show D.int (d / 10%5)=aq u by unfold aq;rw[L]]
 refine⟨c,4,u,rfl,by omega,by omega,λzs zl=>?_⟩
 refine bO (λj M=>∃(w:W)(o:Option D),M= [some (.jF c),some (aU w),o]/\Good w/\1<=w.length/\w.length<=10/\(2<=w.length->iM w)) ⟨I,_,rfl,J,by omega,by omega,m⟩ ?_ ?_
 ·rintro j _ _ N ⟨a,o,rfl,g,i,l10,k⟩ A y
  obtain⟨x,hx,rfl⟩:=b8 N;have O:(a.map ay).length=a.length:=aD _;refine⟨_,rfl,_,rfl,bg (λe=>?_) (λe=>y _ ⟨a,_,rfl,g,i,l10,k⟩)⟩;have e:((a.map ay).length:Int)<10:=GT e;refine⟨_,rfl,_,rfl,a,x,rfl,g,i,by omega,k,λp r Q t=>⟨trivial,y _ ⟨p,_,rfl,r,by omega,by omega,λ_=>t⟩⟩⟩
 ·rintro _ ⟨a,o,rfl,g,i,l10,k⟩
  have O:(a.map ay).length=a.length:=aD _;refine⟨_,rfl,_,rfl,_,rfl,c,3,(a.map ay).length,rfl,by omega,by omega,λS yl=>⟨a,S,rfl,g,i,by omega,by omega,λp r Q d2 t=>q p r (by omega) (by omega) λh=>t (by omega) (k (by omega))⟩⟩
end xg
namespace Wb
def pt:List Nat->List Dt
 |a::b::l=>(a,b)::pt (b::l)
 |_=> []
theorem Hl:∀(l:List Nat)(a:Nat),(pt (a::l)).length=l.length
 | [],_=>rfl
 |b::l,a=>FS (·+1) (Hl l b)
theorem iA{x y:Nat}:∀{l:List Nat},(x,y)∈pt l↔∃A B,l=A++x::y::B:=by
 intro l
 induction l with
 |nil=>exact⟨λh=>(by cases h),λ⟨A,B,e⟩=>(by cases A<;>cases e)⟩
 |cons a l c=>
  cases l with
  |nil=>
   refine⟨λh=>(by cases h),λ⟨A,B,e⟩=>?_⟩
   have:=FS List.length e
   simp at this;omega
  |cons b l=>
   rw[show pt (a::b::l)=(a,b)::pt (b::l) from rfl,br,c]
   constructor
   ·rintro(h| ⟨A,B,h⟩)
    ·cases h;exact⟨[],l,rfl⟩
    ·exact⟨a::A,B,by rw[h];rfl⟩
   ·rintro⟨A,B,e⟩
    cases A with
    |nil=>cases e;exact .inl rfl
    |cons _ A=>exact .inr ⟨A,B,(SL e).2⟩
theorem qf:∀{A A' B B':List Nat},x∉A->x∉A'->A++x::B=A'++x::B'->A=A'/\B=B'
 | [],[],_,_,_,_,e=>by cases e;exact⟨rfl,rfl⟩
 | [],a::A',_,_,_,h,e=>by cases e;exact absurd (bE ..) h
 |a::A,[],_,_,h,_,e=>by cases e;exact absurd (bE ..) h
 |a::A,b::A',_,_,h,c,e=>by
  obtain⟨d,f⟩:=qf (λz=>h (bV _ z)) (λz=>c (bV _ z)) (SL e).2;rw[(SL e).1,d];exact⟨rfl,f⟩
theorem zV:∀{P X B:List Nat},p∉P->X++p::B=P++ [p]->X=P/\B= []
 | [],[],_,_,e=>by cases e;exact⟨rfl,rfl⟩
 | [],x::X,B,_,e=>by have:=FS List.length e;simp at this
 |y::P,[],_,h,e=>by cases e;exact absurd (bE ..) h
 |y::P,x::X,_,h,e=>by
  obtain⟨a,b⟩:=zV (λz=>h (bV _ z)) (SL e).2;rw[(SL e).1,a];exact⟨rfl,b⟩
theorem uO{A B C D:List Nat}(e:l=A++u::x::y::B)(c:l.count x=1):(l=C++x::r::D->r=y)/\(l=C++r::x::D->r=u):=by
 have d:x∉A++ [u]:=λz=>by
  have z:=AU.mpr z;rw[e,show A++u::x::y::B=(A++ [u])++x::(y::B) by simp,uj,rm] at c;omega
 refine⟨λa=>?_,λa=>?_⟩
 ·have b:x∉C:=λz=>by
   have z:=AU.mpr z;rw[a,uj,rm] at c;omega
  have:=(qf (A:=A++ [u]) (A':=C) (B:=y::B) (B':=r::D) d b (by rw[<-a,e];simp)).2
  exact(SL this).1.symm
 ·have b:x∉C++ [r]:=λz=>by
   have z:=AU.mpr z;rw[a,show C++r::x::D=(C++ [r])++x::D by simp,uj,rm] at c;omega
  have:=(qf (A:=A++ [u]) (A':=C++ [r]) (B:=y::B) (B':=D) d b (by rw[show(C++ [r])++x::D=C++r::x::D by simp,<-a,e];simp)).1
  have:=FS (λl=>l.getLast?) this
  simpa using this.symm
theorem El(b:l.Nodup)(Y:List Nat)(P:Nat->Prop):∀(M X:List Nat)(u:Nat),l=X++u::(M++v::Y)->P (aN l u)->(∀x∈M,P x->P (aN l x))->P v
 | [],X,u,e,a,_=>by
  subst e;rw[show X++u::([]++v::Y)=X++u::v::Y from rfl] at a b;rw[eG b] at a;exact a
 |m::M,X,u,e,a,h=>by
  have c:aN l u=m:=by subst e;exact eG b
  rw[c] at a;exact El b Y P M (X++ [u]) m (by rw[e];simp) (h m (bE ..) a) λx d=>h x (bV _ d)
theorem along{w:W}(g:Good w){L:List Dt}{f:Dt->Nat}(iv:Cg w L f):∀{Z:List Nat}{a b:Nat},(∀d∈pt (a::b::Z),aC w d/\Rl L d)->(∀A u x y B,a::b::Z=A++u::x::y::B->y≠u/\∀r,Rl L (x,r)->r=u\/r=y)->∀d∈pt (a::b::Z),f d=f (a,b):=by
 intro Z
 induction Z with
 |nil=>intro a b _ _ d hd;cases hd with|head=>rfl|tail _ h=>cases h
 |cons c Z ih=>
  intro a b hr hu d hd;cases hd with
  |head=>rfl
  |tail _ hd=>
   have e:f (b,c)=f (a,b):=by
    obtain⟨ne,only⟩:=hu [] a b c Z rfl;have h1:=hr (a,b) (bE ..);have h2:=hr (b,c) (bV _ (bE ..));obtain⟨r,r1,r2,r3,r4⟩:=r9 g iv h1.1 h1.2 ⟨c,ne,h2.1,h2.2⟩
    rcases only r r3 with z|z
    ·exact absurd z r1
    ·rw[<-z];exact r4
   rw[<-e];exact ih (λd hd=>hr d (bV _ hd)) (λA u x y B e=>hu (a::A) u x y B (by rw[e];rfl)) d hd
theorem Hm{x y:Nat}{l:List Nat}:(x,y)∈pt l.reverse↔(y,x)∈pt l:=by
 rw[iA,iA]
 constructor
 ·rintro⟨A,B,e⟩
  have:=FS List.reverse e
  rw[B7] at this;exact⟨B.reverse,A.reverse,by rw[this];simp⟩
 ·rintro⟨A,B,e⟩
  exact⟨B.reverse,A.reverse,by rw[e];simp⟩
theorem yJ(c p:Nat):∀l:List Nat,pt (l++ [c,p])=pt (l++ [c])++ [(c,p)]
 | []=>rfl
 | [a]=>rfl
 |a::b::l=>FS (List.cons (a,b)) (yJ c p (b::l))
theorem BJ:∀(l:List Nat),(pt l).map (·.1)=l.dropLast
 | []=>rfl
 | [a]=>rfl
 |a::b::l=>FS (List.cons a) (BJ (b::l))
theorem gN(h:(x,y)∈pt l):x∈l/\y∈l:=by
 obtain⟨A,B,e⟩:=iA.mp h;rw[e];simp
structure Lp (w:W) (L:List Dt) (Z:List Nat):Prop where
 dart:∀d∈pt Z,aC w d/\Rl L d
 tri:∀A u x y B,Z=A++u::x::y::B->y≠u/\∀r,Rl L (x,r)->r=u\/r=y
theorem Lp.rev(g:Good w)(h:Lp w L Z):Lp w L Z.reverse:=by
 refine⟨λd a=>?_,λA u x y B e=>?_⟩
 ·have:=h.dart (d.2,d.1) (Hm.mp a)
  exact⟨iR g this.1,kY.mp this.2⟩
 ·have e:=FS List.reverse e
  rw[B7] at e;obtain⟨b,c⟩:=h.tri B.reverse y x u A.reverse (by rw[e];simp)
  exact⟨b.symm,λr f=>(c r f).symm⟩
structure Loop (w:W) (p a c:Nat) (M:List Nat):Prop where
 nd:(p::a::(M++ [c])).Nodup
 pa:a∈row w p
 pc:c∈row w p
 ti:∀d∈pt (a::(M++ [c])),aC w d
def lz(p a c:Nat)(M:List Nat):List Nat:=p::a::(M++ [c,p])
theorem r8(p a c:Nat)(M:List Nat):pt (lz p a c M)=(p,a)::(pt (a::(M++ [c]))++ [(c,p)]):=FS (List.cons (p,a)) (yJ c p (a::M))
theorem pE(p a c:Nat)(M:List Nat):lz p a c M=(p::a::(M++ [c]))++ [p]:=by simp[lz]
theorem GZ(p a c:Nat)(M:List Nat):(pt (lz p a c M)).length=(a::(M++ [c])).length+1:=by rw[r8,cD,bZ,Hl];simp
section
variable {w:W} {p a c:Nat} {M:List Nat}
theorem Loop.dart(g:Good w)(h:Loop w p a c M):∀d∈pt (lz p a c M),aC w d:=by
 rw[r8];intro d b
 rcases br.mp b with rfl|b
 ·exact h.pa
 rcases bR.mp b with b|b
 ·exact h.ti d b
 ·rw[cF.mp b];exact g.sym _ _ h.pc
theorem Loop.cnt(h:Loop w p a c M)(b:x∈a::(M++ [c])):(lz p a c M).count x=1/\x≠p:=by
 have n:=b7.mp h.nd;have ne:x≠p:=λz=>n.1 (z▸b);refine⟨?_,ne⟩;rw[pE,uj,ac6 (Ne.symm ne),ac6 (Ne.symm ne),aec];rw[n.2.count,tz b]
theorem Loop.Vv(h:Loop w p a c M):(lz p a c M).count p=2:=by
 have n:=b7.mp h.nd;rw[pE,uj,rm,rm,aec,List.count_eq_zero.mpr n.1]
theorem Loop.mem(h:Loop w p a c M){x y:Nat}(b:(x,y)∈pt (lz p a c M)):(x=p/\y=a)\/(x=c/\y=p)\/(x,y)∈pt (a::(M++ [c])):=by
 rw[r8] at b
 rcases br.mp b with e|b
 ·cases e;exact .inl ⟨rfl,rfl⟩
 rcases bR.mp b with b|b
 ·exact .inr (.inr b)
 ·cases cF.mp b;exact .inr (.inl ⟨rfl,rfl⟩)
theorem Loop.tri(h:Loop w p a c M)(e:lz p a c M=A++u::x::y::B):x∈a::(M++ [c])/\y≠u:=by
 have b:=h.Vv
 have g:x∈a::(M++ [c]):=by
  rcases h.mem (iA.mpr ⟨A,y::B,e⟩) with ⟨_,rfl⟩ | ⟨_,rfl⟩ |z
  ·exact bE ..
  ·rcases h.mem (x:=x) (y:=y) (iA.mpr ⟨A++ [u],B,by rw[e];simp⟩) with ⟨_,rfl⟩ | ⟨z,_⟩ |z
   ·exfalso
    have n:=b7.mp h.nd;rw[pE] at e
    have:=(zV (X:=(A++ [u]).tail) (B:=y::B) n.1 ?_).2
    ·cases this
    ·cases A with
     |nil=>simp at e ⊢;exact⟨e.2.1.symm,e.2.2.symm⟩
     |cons _ A=>simp at e ⊢;exact e.2.symm
   ·exact absurd (z▸(by simp:c∈a::(M++ [c]))) (b7.mp h.nd).1
   ·exact absurd (gN z).1 (b7.mp h.nd).1
  ·exact(gN z).2
 refine⟨g,λz=>?_⟩;subst z
 by_cases d:y=p
 ·subst d
  have i:=FS List.length e;rw[e,uj,rm] at b;have f:(x::y::B).count y=B.count y+1:=by rw[ac6 (λz=>(h.cnt g).2 z),rm]
  rw[f] at b
  have k:A= []:=by
   cases A with
   |nil=>rfl
   |cons z A=>exfalso;rw[<-(SL e).1,rm] at b;omega
  have l:B= []:=by
   apply Do;intro m;obtain⟨j,z,rfl⟩:=r6 m;rw[pE] at e
   have:=FS List.getLast? e
   rw[vV,show A++y::x::y::(j++ [z])=(A++y::x::y::j)++ [z] by simp,vV] at this
   cases this;rw[uj,rm] at b;omega
  rw[k,l] at i;simp[lz] at i
 ·have o:y∈a::(M++ [c]):=by
   have:y∈lz p a c M:=by rw[e];simp
   rw[pE] at this
   rcases bR.mp this with z|z
   ·rcases br.mp z with z|z
    ·exact absurd z d
    ·exact z
   ·exact absurd (cF.mp z) d
  have f:=(h.cnt o).1;rw[e,uj,rm] at f
  have:0<(x::y::B).count y:=AU.mpr (by simp)
  omega
end
section
variable {w:W} {p a b c d:Nat} {M N:List Nat}
structure AZ (w:W) (p a c:Nat) (M:List Nat) (b d:Nat) (N:List Nat):Prop where
 l1:Loop w p a c M
 l2:Loop w p b d N
 dj:∀x∈a::(M++ [c]),x∉b::(N++ [d])
theorem AZ.swap(h:AZ w p a c M b d N):AZ w p b d N a c M:=⟨h.l2,h.l1,λx e z=>h.dj x z e⟩
def Ds(p a c:Nat)(M:List Nat)(b d:Nat)(N:List Nat):List Dt:=pt (lz p a c M)++pt (lz p b d N)
theorem Loop.BK(h:Loop w p a c M)(e:(x,y)∈pt (lz p a c M)):(x=p\/x∈a::(M++ [c]))/\(y=p\/y∈a::(M++ [c])):=by
 rcases h.mem e with ⟨rfl,rfl⟩ | ⟨rfl,rfl⟩ |z
 ·exact⟨.inl rfl, .inr (bE ..)⟩
 ·exact⟨.inr (by simp), .inl rfl⟩
 ·exact⟨.inr (gN z).1, .inr (gN z).2⟩
theorem Loop.JJ(h:Loop w p a c M)(f:Rl (pt (lz p a c M)) (p,r)):r=a\/r=c:=by
 have e:=(b7.mp h.nd).1
 rcases f with z|z
 ·rcases h.mem z with ⟨_,rfl⟩ | ⟨rfl,_⟩ |z
  ·exact .inl rfl
  ·exact absurd (by simp) e
  ·exact absurd (gN z).1 e
 ·rcases h.mem (x:=r) (y:=p) z with ⟨_,rfl⟩ | ⟨rfl,_⟩ |z
  ·exact absurd (by simp) e
  ·exact .inr rfl
  ·exact absurd (gN z).2 e
theorem AZ.lp(g:Good w)(h:AZ w p a c M b d N):Lp w (Ds p a c M b d N) (lz p a c M):=by
 refine⟨λd k=>⟨h.l1.dart g d k, .inl (fk _ k)⟩,λA u x y B e=>?_⟩;obtain⟨i,ne⟩:=h.l1.tri e;have f:=h.l1.cnt i;refine⟨ne,λr m=>?_⟩
 have l:∀{y:Nat},¬(x,y)∈pt (lz p b d N)/\¬(y,x)∈pt (lz p b d N):=λ {y}=>⟨λz=>by
  rcases(h.l2.BK z).1 with z|z
  ·exact f.2 z
  ·exact h.dj x i z,λz=>by
  rcases(h.l2.BK z).2 with z|z
  ·exact f.2 z
  ·exact h.dj x i z⟩
 rcases m with z|z
 ·rcases bR.mp z with z|z
  ·obtain⟨C,D,j⟩:=iA.mp z
   exact .inr ((uO (C:=C) (D:=D) e f.1).1 j)
  ·exact absurd z l.1
 ·rcases bR.mp z with z|z
  ·obtain⟨C,D,j⟩:=iA.mp (show(r,x)∈_ from z)
   exact .inl ((uO (C:=C) (D:=D) e f.1).2 j)
  ·exact absurd z l.2
theorem IK:Rl (Ds p a c M b d N) e↔Rl (Ds p b d N a c M) e:=by
 unfold Rl Ds;simp only[bR]
 constructor<;>(rintro((z|z) | (z|z))<;>simp[z])
theorem Lp.of(h:Lp w L Z)(e:∀d,Rl L d↔Rl f d):Lp w f Z:=⟨λd g=>⟨(h.dart d g).1,(e d).mp (h.dart d g).2⟩,λA u x y B q=>⟨(h.tri A u x y B q).1,λr i=>(h.tri A u x y B q).2 r ((e _).mpr i)⟩⟩
theorem G9(p a c:Nat)(M:List Nat):(lz p a c M).reverse=lz p c a M.reverse:=by simp[lz]
theorem AZ.abU(g:Good w)(h:AZ w p a c M b d N):mz w (Ds p a c M b d N):=by
 have f:=b7.mp h.l1.nd;have r:=b7.mp h.l2.nd;have J:a≠c:=λz=>(b7.mp f.2).1 (by rw[z];simp)
 have L:b≠d:=λz=>(b7.mp r.2).1 (by rw[z];simp)
 have s:∀{a c:Nat}{M:List Nat},(p::a::(M++ [c])).Nodup->(pt (lz p a c M)).Nodup:=λ {a c M} n=>by
  have:((pt (lz p a c M)).map (·.1)).Nodup:=by
   rw[BJ,pE,List.dropLast_concat];exact n
  exact List.Pairwise.of_map _ (λa b z e=>z (by rw[e])) this
 refine⟨λd i=>?_,?_,λd i z=>?_⟩
 ·rcases bR.mp i with i|i
  ·exact h.l1.dart g d i
  ·exact h.l2.dart g d i
 ·refine dB.mpr ⟨s h.l1.nd,s h.l2.nd,?_⟩
  rintro⟨x,y⟩ l _ j rfl
  rcases h.l1.mem l with ⟨rfl,rfl⟩ | ⟨rfl,rfl⟩ |z
  ·rcases h.l2.JJ (.inl j) with z|z
   ·exact h.dj y (bE ..) (by rw[z];simp)
   ·exact h.dj y (bE ..) (by rw[z];simp)
  ·rcases(h.l2.BK j).1 with z|z
   ·exact f.1 (by rw[<-z];simp)
   ·exact h.dj x (by simp) z
  ·rcases(h.l2.BK j).1 with q|q
   ·exact f.1 (by rw[<-q];exact(gN z).1)
   ·exact h.dj x (gN z).1 q
 ·obtain⟨x,y⟩:=d
  have E:∀{a c b d:Nat}{M N:List Nat},AZ w p a c M b d N->(x,y)∈pt (lz p a c M)->(y,x)∈Ds p a c M b d N->False:=λ {a c b d M N} h l j=>by
   have f:=b7.mp h.l1.nd;have r:=b7.mp h.l2.nd
   rcases bR.mp j with j|j
   ·rcases h.l1.mem l with ⟨rfl,rfl⟩ | ⟨rfl,rfl⟩ |z
    ·rcases h.l1.mem j with ⟨rfl,_⟩ | ⟨rfl,_⟩ |z
     ·exact f.1 (bE ..)
     ·exact(b7.mp f.2).1 (by simp)
     ·exact f.1 (gN z).2
    ·rcases h.l1.mem j with ⟨_,rfl⟩ | ⟨rfl,_⟩ |z
     ·exact(b7.mp f.2).1 (by simp)
     ·exact f.1 (by simp)
     ·exact f.1 (gN z).1
    ·obtain⟨A,B,e⟩:=iA.mp j
     obtain⟨C,D,o⟩:=iA.mp l;have F:=(gN z).1;have O:=h.l1.cnt F
     have:∃u G,A=G++ [u]\/True:=⟨0,[], .inr trivial⟩
     cases D with
     |nil=>
      have:=FS List.getLast? o
      rw[pE,vV,show C++x::y:: []=(C++ [x])++ [y] by simp,vV] at this
      cases this;exact f.1 (gN z).2
     |cons v D=>
      have H:=(gN z).2;have I:=h.l1.cnt H;have t:=h.l1.tri o;exact t.2 ((uO (C:=A) (D:=B) o I.1).1 e).symm
   ·rcases(h.l2.BK j) with ⟨k,m⟩
    rcases h.l1.mem l with ⟨rfl,rfl⟩ | ⟨rfl,rfl⟩ |z
    ·rcases k with k|k
     ·exact f.1 (by rw[<-k];simp)
     ·exact h.dj _ (by simp) k
    ·rcases m with m|m
     ·exact f.1 (by rw[<-m];simp)
     ·exact h.dj _ (by simp) m
    ·rcases k with k|k
     ·exact f.1 (by rw[<-k];exact(gN z).2)
     ·exact h.dj _ (gN z).2 k
  rcases bR.mp i with i|i
  ·exact E h i z
  ·refine E h.swap i ?_
   rcases bR.mp (show(y,x)∈_ from z) with z|z
   ·exact cZ _ z
   ·exact fk _ z
end
section
variable {w:W} {p a b c d:Nat} {M N:List Nat}
theorem Lp.all(g:Good w)(j:Cg w L f)(h:Lp w L (lz p a c M)):(∀e∈pt (lz p a c M),f e=f (p,a)/\f (dR e)=f (p,c)):=by
 have m:=along g j h.dart h.tri;have i:=h.rev g;rw[G9] at i;have n:=along g j i.dart i.tri;intro e k;refine⟨m e k,n (dR e) ?_⟩
 have:=Hm (x:=e.2) (y:=e.1) (l:=lz p a c M)
 rw[G9] at this;exact this.mpr k
theorem yO(e:Cg w L f)(g:Good w)(h:Rl L (x,r))(i:r∈row w x):f (x,aN (row w x) r)=f (r,x):=by
 have:=e (r,x) (g.sym _ _ i)
 unfold ph at this;rw[tz (kY.mp h)] at this;exact this
theorem BP(e:Cg w L f)(g:¬Rl L (x,r))(h:r∈row w x):f (x,aN (row w x) r)=f (x,r):=by
 have:=e (x,r) h
 unfold ph at this;rw[mo g] at this;exact this
theorem Rh(g:Good w)(P:iM w)(q:row w p=X++a::(A++b::(B++c::(C++d::D))))(h:AZ w p a c M b d N):False:=by
 obtain⟨k0,F,eu⟩:=P;have hL:=h.abU g;have nr:=g.nod p;have Zf:=b7.mp h.l1.nd;have Zg:=b7.mp h.l2.nd;generalize Q:Ds p a c M b d N=L at hL;have Z1:Lp w L (lz p a c M):=Q▸h.lp g;have Z2:Lp w L (lz p b d N):=(h.swap.lp g).of λe=>by rw[<-Q];exact IK.symm
 have R:∀e∈pt (lz p a c M),Rl L e:=λe j=>(Z1.dart e j).2;have T9:∀e∈pt (lz p b d N),Rl L e:=λe j=>(Z2.dart e j).2
 have Tg:∀{e:Dt},Rl L e->Rl (pt (lz p a c M)) e\/Rl (pt (lz p b d N)) e:=λ {e} j=>by
  rw[<-Q] at j
  rcases j with z|z
  ·rcases bR.mp z with z|z
   ·exact .inl (.inl z)
   ·exact .inr (.inl z)
  ·rcases bR.mp z with z|z
   ·exact .inl (.inr z)
   ·exact .inr (.inr z)
 have atp:∀r,Rl L (p,r)->r=a\/r=b\/r=c\/r=d:=λr s=>by
  rcases Tg s with z|z
  ·rcases h.l1.JJ z with z|z
   ·exact .inl z
   ·exact .inr (.inr (.inl z))
  ·rcases h.l2.JJ z with z|z
   ·exact .inr (.inl z)
   ·exact .inr (.inr (.inr z))
 have Ts:(p,a)∈pt (lz p a c M):=by rw[r8];exact bE ..
 have Y6:(c,p)∈pt (lz p a c M):=by rw[r8];simp
 have Y7:(p,b)∈pt (lz p b d N):=by rw[r8];exact bE ..
 have Y8:(d,p)∈pt (lz p b d N):=by rw[r8];simp
 have one:∀f:Dt->Nat,Cg w L f->∀e,Rl L e->f e=f (p,a):=λf o=>by
  have S:=Z1.all g o;have U:=Z2.all g o;have ra:=R _ Ts;have rc:Rl L (p,c):=kY.mp (R _ Y6);have rb:=T9 _ Y7;have rd:Rl L (p,d):=kY.mp (T9 _ Y8)
  have step:∀{u v:Nat}(Y X' Y':List Nat),Rl L (p,u)->u∈row w p->(∃E n,E++n=row w p/\n++E=X'++u::(Y++v::Y'))->(∀x∈Y,x≠a/\x≠b/\x≠c/\x≠d)->f (p,v)=f (u,p):=λ {u v} Y X' Y' ru I ⟨E,n,J,e2⟩ hn=>by
   have jz:(E++n).Nodup:=by rw[J];exact nr
   have IT:(n++E).Nodup:=qt.nodup_iff.mp jz
   have sr:∀x∈row w p,aN (n++E) x=aN (row w p) x:=λx i=>by
    rw[nY jz (by rw[J];exact i),J]
   refine El IT Y' (λr=>f (p,r)=f (u,p)) Y X' u e2 ?_ λx i ih=>?_
   ·rw[sr u I];exact yO o g ru I
   ·have zq:x∈row w p:=by
     rw[<-J]
     have:x∈n++E:=by rw[e2];simp[i]
     exact qt.mem_iff.mp this
    rw[sr x zq];obtain⟨n1,n2,n3,n4⟩:=hn x i;exact(BP o (λz=>by rcases atp x z with z|z|z|z<;>contradiction) zq).trans ih
  have Zh:=nr;rw[q] at Zh;simp only[dB,b7,bR,br,not_or] at Zh;have hA:∀x∈A,x≠a/\x≠b/\x≠c/\x≠d:=λx i=>by grind
  have hB:∀x∈B,x≠a/\x≠b/\x≠c/\x≠d:=λx i=>by grind
  have hC:∀x∈C,x≠a/\x≠b/\x≠c/\x≠d:=λx i=>by grind
  have hD:∀x∈D++X,x≠a/\x≠b/\x≠c/\x≠d:=λx i=>by
   rcases bR.mp i with i|i<;>grind
  have ma:a∈row w p:=h.l1.pa;have mc:c∈row w p:=h.l1.pc;have mb:b∈row w p:=h.l2.pa;have md:d∈row w p:=h.l2.pc;have s1:f (p,b)=f (a,p):=step A X (B++c::(C++d::D)) ra ma ⟨[],row w p,rfl,by rw[q];simp⟩ hA
  have s2:f (p,c)=f (b,p):=step B (X++a::A) (C++d::D) rb mb ⟨[],row w p,rfl,by rw[q];simp⟩ hB
  have s3:f (p,d)=f (c,p):=step C (X++a::(A++b::B)) D rc mc ⟨[],row w p,rfl,by rw[q];simp⟩ hC
  have s4:f (p,a)=f (d,p):=step (D++X) [] (A++b::(B++c::C)) rd md ⟨X++a::(A++b::(B++c::C)),d::D,by rw[q];simp,by simp⟩ hD
  have t1:=(S _ Y6).1;have t2:f (a,p)=f (p,c):=(S _ Ts).2;have t3:=(U _ Y8).1;have t4:f (b,p)=f (p,d):=(U _ Y7).2;have ec:f (p,c)=f (p,a):=by omega
  have eb:f (p,b)=f (p,a):=by omega
  have ed:f (p,d)=f (p,a):=by omega
  intro e j
  rcases Tg j with z|z
  ·rcases z with z|z
   ·exact(S e z).1
   ·have:=(S _ z).2;rw[C1] at this;exact this.trans ec
  ·rcases z with z|z
   ·exact((U e z).1).trans eb
   ·have:=(U _ z).2;rw[C1] at this;exact this.trans ed
 have Z:(p::((a::(M++ [c]))++(b::(N++ [d])))).Nodup:=by
  refine b7.mpr ⟨λz=>?_,dB.mpr ⟨Zf.2,Zg.2,λx i y G e=>h.dj x i (e▸G)⟩⟩
  rcases bR.mp z with z|z
  ·exact Zf.1 z
  ·exact Zg.1 z
 generalize O:p::((a::(M++ [c]))++(b::(N++ [d])))=T at Z
 have Th:∀{x y:Nat},Rl L (x,y)->x∈T:=λ {x y} s=>by
  have i1:∀{x:Nat},x=p\/x∈a::(M++ [c])->x∈T:=λ {x} h=>by
   rw[<-O];exact br.mpr (h.imp id λh=>fk _ h)
  have i2:∀{x:Nat},x=p\/x∈b::(N++ [d])->x∈T:=λ {x} h=>by
   rw[<-O];exact br.mpr (h.imp id λh=>cZ _ h)
  rcases Tg s with z|z<;>rcases z with z|z
  ·exact i1 (h.l1.BK z).1
  ·exact i1 (h.l1.BK (show(y,x)∈_ from z)).2
  ·exact i2 (h.l2.BK z).1
  ·exact i2 (h.l2.BK (show(y,x)∈_ from z)).2
 have H:∀x∈T,∃r∈row w x,Rl L (x,r):=λx i=>by
  have go:∀{a c:Nat}{M:List Nat},Loop w p a c M->(∀e∈pt (lz p a c M),Rl L e)->∀x∈a::(M++ [c]),∃r∈row w x,Rl L (x,r):=λ {a c M} l hl x i=>by
   have:x∈(pt (lz p a c M)).map (·.1):=by rw[BJ,pE,List.dropLast_concat];exact bV _ i
   obtain⟨⟨x',r⟩,j,rfl⟩:=aZ.mp this;exact⟨r,l.dart g _ j,hl _ j⟩
  rw[<-O] at i
  rcases br.mp i with rfl|i
  ·exact⟨a,h.l1.pa,R _ Ts⟩
  rcases bR.mp i with i|i
  ·exact go h.l1 R x i
  ·exact go h.l2 T9 x i
 have lt:∀x∈T,x<w.length:=λx i=>by
  obtain⟨r,s,_⟩:=H x i;exact bD s
 have lT:T.length=L.length-1/\1<=L.length:=by
  have J:L.length=(a::(M++ [c])).length+1+((b::(N++ [d])).length+1):=by rw[<-Q,Ds,bZ,GZ,GZ]
  have e2:T.length=(a::(M++ [c])).length+(b::(N++ [d])).length+1:=by rw[<-O,cD,bZ]
  omega
 have tw:=az Z (m:=List.range w.length) λx i=>bT.mpr (lt x i);rw[fG] at tw;obtain⟨k,hk⟩:∃k,T.length+k=w.length:=⟨w.length-T.length,by omega⟩
 have Yh:∀e∈L,e.1∈T/\e.2∈T:=λe j=>⟨Th (x:=e.1) (y:=e.2) (.inl j),Th (x:=e.2) (y:=e.1) (kY.mpr (.inl j))⟩;obtain⟨L',E,n,l3⟩:=grow g k T L Z lt (by rw[<-O];simp) hk hL Yh
 obtain⟨f0,iv0,hf0⟩:=GR g F;have lb:=az n.both (n.sub g);rw[jV,df] at lb;obtain⟨m,hm⟩:∃m,2*(L'.length+m)=fP w:=⟨fP w / 2-L'.length,by omega⟩
 have hn:3+m=k0:=by omega
 obtain⟨f,o,vs,vn,vl,hv⟩:=l3 3 (fill g iv0 m L' 3 n hm (by rw[hn];exact hf0))
 have Qx:=one f o
 have fT:∀x∈T,∀y∈row w x,f (x,y)=f (p,a):=λx i=>by
  obtain⟨r,s,rr⟩:=H x i;refine rot_all (g.nod x) s (λy=>f (x,y)=f (p,a)) ((yO o g rr s).trans (Qx _ (kY.mpr rr))) λy G _ e=>?_
  by_cases z:Rl L (x,y)
  ·exact(yO o g z G).trans (Qx _ (kY.mpr z))
  ·exact(BP o z G).trans e
 have fN:∀x,x∉T->∀y∈row w x,f (x,y)=f (x,(row w x).headD 0):=λx i y G=>by
  have nz:∀z∈row w x,f (x,aN (row w x) z)=f (x,z):=λz hz=>BP o (λr=>i (Th r)) hz;cases q:row w x with
  |nil=>rw[q] at G;cases G
  |cons u t=>
   have I:u∈row w x:=by rw[q];exact bE ..
   exact rot_all (g.nod x) I (λy=>f (x,y)=f (x,u)) (nz u I) (λz hz _ e=>(nz z hz).trans e) y G
 have:=az vn (m:=f (p,a)::((List.range w.length).filter λx=>!decide (x∈T)).map λx=>f (x,(row w x).headD 0)) λv kf=>by
  obtain⟨⟨x,y⟩,hd,rfl⟩:=hv v kf
  by_cases z:x∈T
  ·rw[fT x z y hd];exact bE ..
  ·rw[fN x z y hd]
   exact bV _ (aZ.mpr ⟨x,fO.mpr ⟨bT.mpr (bD hd),by simp[z]⟩,rfl⟩)
 rw[cD,aD,vl] at this;have pl:=ku (λx=>decide (x∈T)) (List.range w.length);rw[fG] at pl
 have:=az Z (m:=(List.range w.length).filter λx=>decide (x∈T)) λx i=>fO.mpr ⟨bT.mpr (lt x i),by simp[i]⟩
 omega
end
inductive Cr (w:W) (ok:Nat->Prop) (p:Nat):Nat->Prop
 |base:Cr w ok p p
 |step {a b:Nat}:Cr w ok p a->b∈row w a->ok b->Cr w ok p b
theorem Cr.lt{w:W}{p x:Nat}(g:Good w)(a:p<w.length)(h:Cr w ok p x):x<w.length:=by
 cases h with
 |base=>exact a
 |step _ h _=>exact g.rng _ _ h
theorem Cr.all{p:Nat}{M:Nat->Prop}(c:M p)(d:∀a b,M a->b∈row w a->ok b->M b)(h:Cr w ok p x):M x:=by
 induction h with
 |base=>exact c
 |step _ e f g=>exact d _ _ g e f
theorem Cr.way(s:ok p)(h:Cr w ok p x):∃l,(p::l).Nodup/\(p::l).getLast? =some x/\(∀d∈pt (p::l),aC w d)/\∀y∈p::l,ok y:=by
 induction h with
 |base=>exact⟨[],by simp,rfl,(λd g=>nomatch g),λy f=>by rw[cF.mp f];exact s⟩
 | @step a b _ t u v=>
  obtain⟨l,j,m,n,o⟩:=v
  by_cases z:b∈p::l
  ·obtain⟨A,B,e⟩:=Cc z
   obtain⟨i,r⟩:∃i,A++ [b]=p::i:=by
    cases A with
    |nil=>cases e;exact⟨[],rfl⟩
    |cons y A=>rw[(SL e).1];exact⟨A++ [b],rfl⟩
   have k:p::l=p::i++B:=by rw[<-r,e];simp
   refine⟨i,?_,by rw[<-r,vV],λd g=>n d ?_,λy f=>o y (by rw[k];exact fk _ f)⟩
   ·rw[k] at j;exact(dB.mp j).1
   ·obtain⟨C,D,E⟩:=iA.mp (show(d.1,d.2)∈_ from g)
    exact iA.mpr ⟨C,D++B,by rw[k,E];simp⟩
  ·refine⟨l++ [b],?_,by rw[<-ve,vV],λd g=>?_,λy f=>?_⟩
   ·rw[<-ve]
    exact dB.mpr ⟨j,by simp,λx F y f e=>z (by rw[cF.mp f] at e;exact e▸F)⟩
   ·obtain⟨q,c,e⟩:=r6 (l:=p::l) (by simp)
    have:c=a:=by rw[e,vV] at m;exact Da m
    subst this;rw[<-ve,e,iJ] at g;rw[show[c]++ [b]= [c,b] from rfl,yJ,<-e] at g
    rcases bR.mp g with g|g
    ·exact n d g
    ·rw[cF.mp g];exact t
   ·rw[<-ve] at f
    rcases bR.mp f with f|f
    ·exact o y f
    ·rw[cF.mp f];exact u
theorem Cr.loop(f:a∈row w p)(g:c∈row w p)(i:a≠c)(j:ok a)(k:¬ok p)(h:Cr w ok a c):∃M,Loop w p a c M/\∀y∈a::(M++ [c]),ok y:=by
 obtain⟨l,m,b,n,d⟩:=h.way j
 obtain⟨M,e⟩:∃M,l=M++ [c]:=by
  rcases y8 l with rfl| ⟨M,y,rfl⟩
  ·cases b;exact absurd rfl i
  ·rw[AQ] at b ⊢
   rw[<-ve,vV] at b;cases b;exact⟨M,rfl⟩
 subst e;exact⟨M,⟨b7.mpr ⟨λz=>k (d p z),m⟩,f,g,n⟩,d⟩
theorem Tn(g:Good w)(P:iM w)(e:row w p=X++a::(A++b::(B++c::(C++d::D)))){o1 o2:Nat->Prop}(h:∀x,o1 x->¬o2 x)(i:o1 a)(j:o2 b)(k:¬o1 p)(l:¬o2 p)(m:Cr w o1 a c)(n:Cr w o2 b d):False:=by
 have f:=g.nod p;have o:a∈row w p:=by rw[e];simp
 have q:b∈row w p:=by rw[e];simp
 have r:c∈row w p:=by rw[e];simp
 have s:d∈row w p:=by rw[e];simp
 have t:a≠c:=λz=>by rw[e,z] at f;simp[dB] at f
 have u:b≠d:=λz=>by rw[e,z] at f;simp[dB] at f
 obtain⟨M,v,y⟩:=m.loop o r t i k;obtain⟨N,E,F⟩:=n.loop q s u j l;exact Rh g P e ⟨v,E,λx G z=>h x (y x G) (F x z)⟩
abbrev Mv:=Nat×Int
def jj(f:List Int)(W:List Mv):List Int:=W.foldl (λf m=>f.set m.1 m.2) f
def QF(w:W)(B:List Nat)(f:List Int)(m:Mv):Prop:=m.1∈B/\f.getD m.1 0≠m.2/\∀r∈row w m.1,r∈B->f.getD r 0≠m.2
def zv(w:W)(B:List Nat):List Int->List Mv->Prop
 |_,[]=>True
 |f,m::W=>QF w B f m/\zv w B (f.set m.1 m.2) W
theorem eE(f:List Int)(W:List Mv)(m:Mv):jj f (W++ [m])=(jj f W).set m.1 m.2:=by unfold jj;rw[List.foldl_append];rfl
theorem j5(f:List Int)(W:List Mv):(jj f W).length=f.length:=by
 induction W generalizing f with
 |nil=>rfl
 |cons m W a=>exact(a _).trans (f9 ..)
theorem mP{w:W}{B:List Nat}{m:Mv}:∀{f:List Int}{W:List Mv},zv w B f (W++ [m])↔zv w B f W/\QF w B (jj f W) m
 |f,[]=>⟨λh=>⟨trivial,h.1⟩,λh=>⟨h.2,trivial⟩⟩
 |f,x::W=>by
  have:=mP (w:=w) (B:=B) (m:=m) (f:=f.set x.1 x.2) (W:=W)
  exact⟨λh=>⟨⟨h.1,(this.mp h.2).1⟩,(this.mp h.2).2⟩,λh=>⟨h.1.1,this.mpr ⟨h.1.2,h.2⟩⟩⟩
theorem bK{f:List Int}{i:Nat}{c:Int}(h:i<f.length)(p:Nat):(f.set i c).getD p 0=if p=i then c else f.getD p 0:=by
 rw[bB,bB]
 by_cases e:p=i
 ·subst e
  rw[lD h,tz rfl];rfl
 ·rw[lE (Ne.symm e),mo e]
structure LedI (w:W) (B:List Nat) (p:Nat) (one:List Int) (W1 W2 T:List Mv) (dy:List Int) (k:Int):Prop where
 ok2:zv w B (jj one W1) W2
 ok:zv w (p::B) one T
 run:jj one T=dy
 at_:∀r,r≠p->dy.getD r 0=(jj one W1).getD r 0
 fr:∀r∈row w p,r∈B->dy.getD r 0≠dy.getD p 0
 len:T.length<=2*W1.length
 rng:∀m∈T,0<=m.2/\m.2<k
theorem LedI.zero(ok2:zv w B one a)(fr:∀r∈row w p,r∈B->one.getD r 0≠one.getD p 0):LedI w B p one [] a [] one k:=
 ⟨ok2,trivial,rfl,λ_ _=>rfl,fr,dS _,λm h=>nomatch h⟩
theorem LedI.Al(h:LedI w B p one b c T a k):a.length=one.length:=by rw[<-h.run,j5]
theorem LedI.move(g:Good w)(h:LedI w B p one i (m::l) T d k)(n:one.length=w.length)(E:p<w.length)(o:p∉B)(q:∀x∈B,x<w.length)(u:0<=m.2/\m.2<k)(s:m.1∈row w p->m.2≠d.getD p 0):LedI w B p one (i++ [m]) l (T++ [m]) (d.set m.1 m.2) k:=by
 obtain⟨⟨f,v,y⟩,A⟩:=h.ok2;have t:m.1≠p:=λz=>o (z▸f);have dl:=h.Al;have j:m.1<d.length:=by rw[dl,n];exact q _ f
 have C:m.1<(jj one i).length:=by rw[j5,n];exact q _ f
 refine⟨by rw[eE];exact A,mP.mpr ⟨h.ok,bV _ f,?_,λr a b=>?_⟩,by rw[eE,h.run],λr a=>?_,λr a b=>?_,?_,λx c=>?_⟩
 ·rw[h.run,h.at_ _ t];exact v
 ·rw[h.run]
  rcases br.mp b with rfl|b
  ·exact(s (g.sym _ _ a)).symm
  ·rw[h.at_ r (λz=>o (z▸b))];exact y r a b
 ·rw[eE,bK j,bK C,h.at_ r a]
 ·rw[bK j,bK j,mo (Ne.symm t)]
  by_cases e:r=m.1
  ·rw[tz e];exact s (e▸a)
  ·rw[mo e];exact h.fr r a b
 ·have:=h.len;rw[bZ,bZ];simp only[jJ];omega
 ·rcases bR.mp c with c|c
  ·exact h.rng x c
  ·rw[cF.mp c];exact u
theorem LedI.way(g:Good w)(h:LedI w B p one j (m::t) T f k)(l:one.length=w.length)(A:p<w.length)(u:p∉B)(v:∀x∈B,x<w.length)(C:0<=m.2/\m.2<k)(E:0<=c/\c<k)(cn:∀r∈row w p,r∈B->f.getD r 0≠c)(n:c≠m.2)(em:m.2=f.getD p 0):
  LedI w B p one (j++ [m]) t (T++ [(p,c)]++ [m]) ((f.set p c).set m.1 m.2) k:=by
 obtain⟨⟨i,F,G⟩,H⟩:=h.ok2;have o:m.1≠p:=λz=>u (z▸i);have dl:=h.Al;have dp:p<f.length:=by rw[dl,l];exact A
 have q:m.1<(f.set p c).length:=by rw[f9,dl,l];exact v _ i
 have I:m.1<(jj one j).length:=by rw[j5,l];exact v _ i
 have y:∀r,r∈row w p->r≠p:=λr a z=>g.irr p (z▸a);have s:jj one (T++ [(p,c)])=f.set p c:=by rw[eE,h.run]
 refine⟨by rw[eE];exact H,mP.mpr ⟨mP.mpr ⟨h.ok,bE ..,?_,λr a b=>?_⟩,bV _ i,?_,λr a b=>?_⟩,by rw[eE,s],λr a=>?_,λr a b=>?_,?_,λx d=>?_⟩
 ·rw[h.run];show f.getD p 0≠c;rw[<-em];exact n.symm
 ·rw[h.run]
  rcases br.mp b with rfl|b
  ·exact absurd rfl (y _ a)
  ·exact cn r a b
 ·rw[s,bK dp,mo o,h.at_ _ o];exact F
 ·rw[s,bK dp]
  rcases br.mp b with rfl|b
  ·rw[tz rfl];exact n
  ·have:r≠p:=λz=>u (z▸b)
   rw[mo this,h.at_ r this];exact G r a b
 ·rw[eE,bK q,bK I,bK dp,mo a,h.at_ r a]
 ·rw[bK q,bK q,mo (Ne.symm o),bK dp,bK dp,tz rfl,mo (y r a)]
  by_cases e:r=m.1
  ·rw[tz e];exact n.symm
  ·rw[mo e];exact cn r a b
 ·have:=h.len;simp only[bZ,jJ];omega
 ·rcases bR.mp d with d|d
  ·rcases bR.mp d with d|d
   ·exact h.rng x d
   ·rw[cF.mp d];exact E
  ·rw[cF.mp d];exact C
structure oR (w:W) (B:List Nat) (one other:List Int) (W:List Mv) (k:Int):Prop where
 ok:zv w B one W
 end_:∀r∈B,(jj one W).getD r 0=other.getD r 0
 out:∀r,r∉B->(jj one W).getD r 0=one.getD r 0
 len:W.length+1<=2^B.length
 rng:∀m∈W,0<=m.2/\m.2<k
 same:one=other->W= []
theorem oR.zero:oR w [] one a [] k:=⟨trivial,(λr h=>nomatch h),λ_ _=>rfl,by simp,(λm h=>nomatch h),λ_=>rfl⟩
theorem LedI.done{w:W}(g:Good w){B:List Nat}{p:Nat}{one a:List Int}{W T:List Mv}{j:List Int}{k:Int}(h:LedI w B p one W [] T j k)(L:oR w B one a W k)(t:one.length=w.length)(u:p<w.length)(n:p∉B)(or:0<=a.getD p 0/\a.getD p 0<k)(v:∀r∈row w p,a.getD r 0≠a.getD p 0)(o:one=a->T= []):
  (j.getD p 0=a.getD p 0->oR w (B++ [p]) one a T k)/\(j.getD p 0≠a.getD p 0->oR w (B++ [p]) one a (T++ [(p,a.getD p 0)]) k):=by
 have dl:=h.Al;have dp:p<j.length:=by rw[dl,t];exact u
 have d:∀{f:List Int}{W:List Mv},zv w (p::B) f W->zv w (B++ [p]) f W:=λ {f W}=>by
  induction W generalizing f with
  |nil=>exact λ_=>trivial
  |cons m W x=>exact λh=>⟨⟨by have:=h.1.1;simp at this ⊢;exact this.symm,h.1.2.1,λr b c=>h.1.2.2 r b (by simp at c ⊢;exact c.symm)⟩,x h.2⟩
 have q:2^(B++ [p]).length=2*2^B.length:=by rw[bZ,jJ,Nat.pow_succ];omega
 have y:=h.len;have A:=L.len;have l:∀r,r∈B++ [p]↔r∈B\/r=p:=λr=>by simp
 refine⟨λe=>⟨d h.ok,λr b=>?_,λr b=>?_,by rw[q];omega,h.rng,o⟩,λe=>⟨d (mP.mpr ⟨h.ok,bE ..,?_,λr b c=>?_⟩),λr b=>?_,λr b=>?_,by rw[q,bZ];simp only[jJ];omega,λm i=>?_,λz=>?_⟩⟩
 ·rw[h.run]
  rcases(l r).mp b with b|rfl
  ·rw[h.at_ r (λz=>n (z▸b))];exact L.end_ r b
  ·exact e
 ·rw[h.run]
  have:=mt (l r).mpr b
  rw[h.at_ r (λz=>this (.inr z))];exact L.out r λz=>this (.inl z)
 ·rw[h.run];exact e
 ·rw[h.run]
  rcases br.mp c with rfl|c
  ·exact absurd b (g.irr _)
  ·rw[h.at_ r (λz=>n (z▸c)),L.end_ r c];exact v r b
 ·rw[eE,h.run,bK dp]
  rcases(l r).mp b with b|rfl
  ·have:r≠p:=λz=>n (z▸b)
   rw[mo this,h.at_ r this];exact L.end_ r b
  ·rw[tz rfl]
 ·have:=mt (l r).mpr b
  have s:r≠p:=λz=>this (.inr z);rw[eE,h.run,bK dp,mo s,h.at_ r s];exact L.out r λz=>this (.inl z)
 ·rcases bR.mp i with i|i
  ·exact h.rng m i
  ·rw[cF.mp i];exact or
 ·exfalso
  have:=o z
  subst this;exact e (by rw[<-h.run,<-z];rfl)
end Wb
namespace L2
open PySem PySem.Spec PyProof.Rows
section
variable {Z:DC} {X:Cx} {md:List Nat}
def xH(i:Nat)(t:cN):cN:=λE a=>(∃d,a[i]? =some (some d))/\t {nx:=λ_=>False,rt:=E.rt} a
theorem gQ(i:Nat)(h:uv Z X (md.set i 0) 0 f t):uv Z X md 0 f (xH i t):=by
 refine oK.imp h ?_;rintro p q H ⟨B,k,E,⟨G,r,S⟩,⟨⟨d,g⟩,l⟩,M⟩;obtain⟨v,m,dv,a⟩:=S.Hq g;refine⟨B,k,_,⟨_,_,⟨a.ex,a.fl,S.len,λj c b=>?_,a.nd,a.ap,a.nw⟩⟩,l,⟨λ_ z=>z.elim,M.rt,λ_ z=>z.elim,λ_ z=>z.elim,λ_ _ z=>z.elim⟩⟩
 by_cases e:j=i
 ·subst e
  rw[g] at b;cases b;refine⟨v,m,?_⟩
  have:(md.set j 0).getD j 0=0:=by
   rw[bB,qs]
   split<;>first| (split<;>rfl) |exact absurd rfl ‹_›
  rw[this,tz rfl];exact⟨dv,rfl⟩
 ·obtain⟨u,n,o⟩:=a.at_ j c (by rw[lE (Ne.symm e)];exact b)
  refine⟨u,n,?_⟩
  have:(md.set i 0).getD j 0=md.getD j 0:=by rw[bB,bB,lE (Ne.symm e)]
  rw[this];exact o
end
end L2
namespace xg
open PySem L2 Wb
variable {P:Program} {w:World} {mg:Str->Option Value} {base:Heap} {Z:DC} (T:Txt Z mg)
open Wy
def oD:Option Int->D
 |none=> .bA
 |some i=> .int i
def bo(f:List (Option Int)):D:= .lst (f.map oD)
theorem DM(o:Option Int):dF (oD o)=true:=by cases o<;>rfl
theorem Oi(o:Option Int):lS (oD o)=true:=by cases o<;>rfl
theorem ko(f:List (Option Int)):(f.map oD).all dF=true:=adK.mpr λd h=>by
 obtain⟨o,_,rfl⟩:=aZ.mp h;exact DM o
theorem Nz(a b:Option Int):iG (oD a) (oD b)=decide (a=b):=by
 cases a<;>cases b<;>simp[oD,iG]
 rename_i a b
 rw[adY];simp
theorem wQ(a:Option Int):∀l:List (Option Int),inD (oD a) (l.map oD)=decide (a∈l)
 | []=>rfl
 |b::l=>by
  have:=wQ a l
  unfold inD at this ⊢;rw[dD,acY,this,Nz,adY];simp only[ade,acx,br];exact or_congr ⟨Eq.symm,Eq.symm⟩ acK
theorem iw{f:List (Option Int)}{p:Nat}(h:p<f.length):fJ (f.map oD) (p:Int)=some (oD (f.getD p none)):=gd (by rw[bQ,bB,bJ h];rfl)
def oP:Option Int->PyData
 |none=> .none
 |some i=> .int i
theorem Bh(a b:Option Int):PyData.eqv (oP a) (oP b)=true↔a=b:=by
 cases a<;>cases b<;>simp[oP,PyData.eqv]
theorem qD(a b:List (Option Int)):PyData.eqv (.list (a.map oP)) (.list (b.map oP))=true↔a=b:=by
 rw[PyData.eqv];exact kO Bh a b
theorem H0(a b:List (Option Int)):PyData.eqv (.list (a.map oP)) (.list (b.map oP))=decide (a=b):=by
 by_cases e:a=b
 ·rw[GE e];exact(qD a b).mpr e
 ·rw[FM e]
  exact rB.mpr λz=>e ((qD a b).mp z)
theorem oZ(a:List (Option Int)):(PyData.list (a.map oP)).depth<=2:=by
 have:=i6 (f:=oP) (k:=1) (λo=>by cases o<;>simp[oP,PyData.depth]) a
 simp[PyData.depth];omega
theorem F3(o:Option Int):(oD o).py=some (oP o):=by cases o<;>rfl
theorem tY(f:List (Option Int)):(bo f).py=some (.list (f.map oP)):=by
 unfold bo;rw[D.py,nP (g:=oP) F3];rfl
theorem zQ{P:D->Prop}(h:P (.bl (decide (f=g)))):sU (bo f) (bo g) P:=by
 refine⟨_,_,tY f,tY g,by have:=oZ f;omega,?_⟩
 rw[mo cw,H0];exact h
def Pr(w:W)(f:List (Option Int)):Prop:=∀p q d,q∈row w p->f.getD p none=some d->f.getD q none≠some d
theorem iT{f:List (Option Int)}{i:Nat}{c:Option Int}(h:i<f.length)(p:Nat):(f.set i c).getD p none=if p=i then c else f.getD p none:=by
 rw[bB,bB]
 by_cases e:p=i
 ·subst e
  rw[lD h,tz rfl];rfl
 ·rw[lE (Ne.symm e),mo e]
theorem Pr.set{w:W}{f:List (Option Int)}(g:Good w)(P:Pr w f)(i:j<f.length)(h:∀d,c=some d->∀q∈row w j,f.getD q none≠some d):Pr w (f.set j c):=λp q d b a=>by
 rw[iT i] at a ⊢
 by_cases e:p=j
 ·subst e
  rw[tz rfl] at a;rw[mo (λe=>g.irr p (by rw[e] at b;exact b))]
  exact h d a q b
 ·rw[mo e] at a
  split
  ·next k=>
   subst k;intro z;exact h d z p (g.sym _ _ b) a
  ·exact P p q d b a
def kn(f:List (Option Int))(p:Nat)(d:Int)(q:Nat):Prop:=f.getD q none=f.getD p none\/f.getD q none=some d
theorem Hd(f:List (Option Int))(p:Nat)(d:Int)(q:Nat):inD (oD (f.getD q none)) [oD (f.getD p none), .int d]=true↔kn f p d q:=by
 have:=wQ (f.getD q none) [f.getD p none,some d]
 rw[show[oD (f.getD p none),D.int d]= [f.getD p none,some d].map oD from rfl,this,acD,br,cF];exact acK
def My:cg:=λa P=>∃(w:W)(f:List (Option Int))(p:Nat)(d:Int),a= [.eM w,bo f,aq p, .int d]/\Good w/\w.length<=14/\p<w.length/\f.length=w.length/\∀L:List Nat,L.Pairwise (·<·)->(∀x,x∈L↔Cr w (kn f p d) p x)->P (ay L)
theorem ID{c:List Int}{d:List Nat}(g:c.Perm (d.map λ(n:Nat)=>(n:Int)))(j:c.Pairwise (·<=·))(k:d.Nodup):∃L:List Nat,c.map D.int=L.map aq/\L.Pairwise (·<·)/\L.Perm d:=by
 have e:∀m∈c,((m.toNat:Nat):Int)=m:=λm f=>by
  obtain⟨n,_,rfl⟩:=aZ.mp (g.mem_iff.mp f);simp
 have h:(c.map Int.toNat).Perm d:=by
  have:=g.map Int.toNat
  rw[bU] at this;rw[show(Int.toNat∘λ(n:Nat)=>(n:Int))=id from by funext n;simp] at this
  simpa using this
 refine⟨c.map Int.toNat,?_,?_,h⟩
 ·rw[bU]
  exact rz λm f=>by show D.int m=aq m.toNat;unfold aq;rw[e m f]
 ·have i:=h.nodup_iff.mpr k
  rw[oJ,gY] at i;rw[gY]
  exact(j.and i).imp λ {a b} ⟨l,o⟩=>by
   have:a.toNat<=b.toNat:=Int.toNat_le_toNat l
   omega
theorem yv:FnOk P w Z.K mg base b9 2 T.d_chain.f T.d_chain.fd ["web","dyeing","p","dye"] (fY Z 1 My):=by
 have nd:=AG.nd;refine iS 1 T.d_chain.F AG [0,0,0,0,0,0,99,1,0] (by decide) (λds R h=>by obtain⟨_,_,_,_,rfl,_⟩:=h;rfl) (λbF A outer s H E ds R hr h=>?_)
 have hu:=hr.units
 refine⟨_,(af (aS false 4 nd (dY T.W (aa 0) T.m_turns.m (gI T) (hr.mono (by decide)) T.m_turns.b))
   (af (aS false 5 nd (cz (ae (aE (aa 1) (aa 2)) (ae (aa 3) ag))))
   (af (Kh 6 nd rfl T.x_set)
   (af (cA 7 nd (eN (ae (aa 2) ag)))
   (af (mF PassesOwn.never (eO (aa 7)) (af (GO 8 7 nd)
   (ao (bq (DW.dt (wL (aK FO (aa 8) (aa 6) (by with_unfolding_all rfl)) (tD (aK se (aE (aa 1) (aa 8)) (aa 5) (by with_unfolding_all rfl))))) (af (Kd false 6 (aa 8))
   (ao (GL 7 (aE (aa 4) (aa 8))))) aL))))
   (ao (CQ (HV rfl rfl T.B.sorted (aa 6))))))))),?_⟩
 obtain⟨w',f,p,d,rfl,g,dW,hp,fl,q⟩:=h;refine⟨_,rfl,w',rfl,w',rfl,dW,trivial,?_⟩;refine⟨_,rfl,_,rfl,_,iw (by omega),_,rfl,by show 2<=sizeLine;decide,trivial,?_⟩
 refine⟨_,rfl,by show 1<=sizeLine;decide,?_⟩
 refine kE (λm ρ=>∃(ws ms:List Nat)(o8:Option D),ρ= [some (.eM w'),some (bo f),some (aq p),some (.int d),some (aU w'),some (.tup [oD (f.getD p none), .int d]),some (.set (cI w) (ms.map λ(n:Nat)=>(n:Int))),some (.lst (ws.map aq)),o8]/\ms.Nodup/\(∀x∈ms,Cr w' (kn f p d) p x)/\(∀z∈ws,z<w'.length/\(kn f p d z->Cr w' (kn f p d) p z))/\
  (p∈ms\/p∈ws)/\(∀x∈ms,∀y∈row w' x,kn f p d y->y∈ms\/y∈ws)/\m=ws.length+20*(20-ms.length)/\ws.length<=20+20*ms.length) 401 ?_ ?_
 ·exact⟨[p],[],_,rfl,gK,(λx hx=>nomatch hx),λz hz=>by
   rw[cF] at hz;subst hz;exact⟨hp,λ_=> .base⟩, .inr (by simp),(λx hx=>nomatch hx),rfl,by show 1<=20+0;omega⟩
 rintro m _ ⟨ws,ms,o8,rfl,nm,hm,hw,c1,c2,em,hz⟩;have okp:kn f p d p:= .inl rfl
 have ml:ms.length<=14:=by
  have:=az (m:=List.range w'.length) nm λx hx=>bT.mpr ((hm x hx).lt g hp)
  rw[fG] at this;omega
 refine⟨_,rfl,rfl,?_⟩
 rcases y8 ws with rfl| ⟨uh,y,e⟩
 ·refine cj ?_
  refine⟨_,rfl,_,rfl,by rw[aD];omega,λks pm sC=>?_⟩
  obtain⟨L,e1,e2,e3⟩:=ID pm sC nm;rw[e1];refine q L e2 λx=>?_;rw[e3.mem_iff];refine⟨hm x,λhx=>?_⟩;refine hx.all (M:=λx=>x∈ms) (c1.elim id λh=>nomatch h) λa b ha hb hk=>?_;exact(c2 a ha b hb hk).elim id λh=>nomatch h
 ·rw[AQ] at e
  subst e;rw[show yY (.lst ((uh++ [y]).map aq))=true by simp[yY]]
  refine eY ?_;rw[bZ] at em hz;simp only[jJ] at em hz;refine⟨uh.map aq,aq y,by rw[cJ];rfl,?_⟩
  have hy:=hw y (by simp)
  have QE:∀x:Nat,decide ((x:Int)∈ms.map λ(n:Nat)=>(n:Int))=decide (x∈ms):=λx=>by
   refine decide_eq_decide.mpr ?_;rw[aZ]
   exact⟨λ⟨y,hy,e⟩=>by have:y=x:=by omega
                       rw[<-this];exact hy,λh=>⟨x,h,rfl⟩⟩
  have keep:∀(F:DN->Prop),(y∈ms\/¬kn f p d y)->(∀ρ,(∃(ws ms:List Nat)(o8:Option D),ρ= [some (.eM w'),some (bo f),some (aq p),some (.int d),some (aU w'),some (.tup [oD (f.getD p none), .int d]),some (.set (cI w) (ms.map λ(n:Nat)=>(n:Int))),some (.lst (ws.map aq)),o8]/\ms.Nodup/\(∀x∈ms,Cr w' (kn f p d) p x)/\(∀z∈ws,z<w'.length/\(kn f p d z->Cr w' (kn f p d) p z))/\
    (p∈ms\/p∈ws)/\(∀x∈ms,∀y∈row w' x,kn f p d y->y∈ms\/y∈ws)/\m-1=ws.length+20*(20-ms.length)/\ws.length<=20+20*ms.length)->F ρ)->
    F [some (.eM w'),some (bo f),some (aq p),some (.int d),some (aU w'),some (.tup [oD (f.getD p none), .int d]),some (.set (cI w) (ms.map λ(n:Nat)=>(n:Int))),some (.lst (uh.map aq)),some (aq y)]:=λF hp hF=>by
   have drop:∀z,kn f p d z->(z∈ms\/z∈uh++ [y])->(z∈ms\/z∈uh):=λz n h=>by
    rcases h with h|h
    ·exact .inl h
    ·rcases bR.mp h with h|h
     ·exact .inr h
     ·rw[cF] at h
      subst h;exact hp.elim .inl λhp=>absurd n hp
   exact hF _ ⟨uh,ms,_,rfl,nm,hm,λz hz=>hw z (fk _ hz),drop p okp c1,λx hx y hy n=>drop y n (c2 x hx y hy n),by omega,by omega⟩
  refine⟨_,rfl,_,rfl,_,_,_,rfl,rfl,_,rfl,?_⟩;refine(?_:if (if true=true then !decide ((y:Int)∈ms.map λ(n:Nat)=>(n:Int)) else _)=true then _ else _);rw[if_pos rfl,QE];refine bg (λnq=>?_) (λnq=>?_)
  ·have nq:y∉ms:=by simpa using nq
   refine⟨_,rfl,_,rfl,_,iw (by omega),_,rfl,DM _,ko [f.getD p none,some d],_,rfl,?_⟩
   refine(?_:if (if false=true then _ else inD (oD (f.getD y none)) [oD (f.getD p none), .int d])=true then _ else _);rw[if_neg cw];refine bg (λok=>?_) (λok=>?_)
   ·have ok:=(Hd f p d y).mp ok
    have cy:=hy.2 ok;have rl:=dO g y;refine⟨_,rfl,_,rfl,y,rfl,by rw[aD];omega,?_⟩
    refine⟨_,rfl,_,rfl,_,rfl,_,fD hy.1,_,rfl,(by rw[aD,aD];exact small (by omega)),?_⟩
    have e1:z9 (ms.map λ(n:Nat)=>(n:Int)) (y:Int)=(ms++ [y]).map λ(n:Nat)=>(n:Int):=by
     unfold z9;rw[if_neg (by have:=QE y;rw[decide_eq_false nq] at this;exact of_decide_eq_false this),cJ];rfl
    refine⟨(uh++row w' y).length+20*(20-(ms++ [y]).length),by rw[bZ,bZ,jJ];omega,uh++row w' y,ms++ [y],some (aq y),?_,?_,?_,?_,?_,?_,rfl,?_⟩
    ·rw[<-e1,show(uh++row w' y).map aq=uh.map aq++(row w' y).map aq from cJ ..];rfl
    ·rw[dB]
     refine⟨nm,by simp,λx hx y hy z=>nq ?_⟩
     rw[cF] at hy;rw[<-hy,<-z];exact hx
    ·intro x hx
     rcases bR.mp hx with hx|hx
     ·exact hm x hx
     ·rw[cF] at hx;rw[hx];exact cy
    ·intro z hz
     rcases bR.mp hz with hz|hz
     ·exact hw z (fk _ hz)
     ·exact⟨g.rng _ _ hz,λh=> .step cy hz h⟩
    ·rcases c1 with h|h
     ·exact .inl (fk _ h)
     ·rcases bR.mp h with h|h
      ·exact .inr (fk _ h)
      ·exact .inl (cZ _ h)
    ·intro x hx z hz n
     rcases bR.mp hx with hx|hx
     ·rcases c2 x hx z hz n with h|h
      ·exact .inl (fk _ h)
      ·rcases bR.mp h with h|h
       ·exact .inr (fk _ h)
       ·exact .inl (cZ _ h)
     ·rw[cF] at hx
      subst hx;exact .inr (cZ _ hz)
    ·rw[bZ,bZ,jJ];omega
   ·exact keep _ (.inr λz=>by rw[(Hd f p d y).mpr z] at ok;cases ok) λρ h=>⟨m-1,by omega,h⟩
  ·exact cj (keep _ (.inl (by simpa using nq)) λρ h=>⟨m-1,by omega,h⟩)
theorem EN{P:D->Prop}(h:P (.bl (decide (a=b)))):sU (oD a) (oD b) P:=by
 refine⟨_,_,F3 a,F3 b,by cases a<;>simp[oP,PyData.depth],?_⟩
 rw[mo cw,show PyData.eqv (oP a) (oP b)=decide (a=b) by
  by_cases e:a=b
  ·rw[GE e];exact(Bh a b).mpr e
  ·rw[FM e];exact rB.mpr λz=>e ((Bh a b).mp z)]
 exact h
def sw(a b:Int)(o:Option Int):Option Int:=if o=some a then some b else if o=some b then some a else o
def mH(f:List (Option Int))(l:List Nat)(a b:Int):List (Option Int):=(List.range f.length).map λp=>if p∈l then sw a b (f.getD p none) else f.getD p none
theorem fU(f:List (Option Int))(l:List Nat)(a b:Int):(mH f l a b).length=f.length:=by unfold mH;simp
theorem kP(h:p<f.length):(mH f l a b).getD p none=if p∈l then sw a b (f.getD p none) else f.getD p none:=by
 unfold mH;rw[bB,bQ,qq h];rfl
theorem yD{f g:List (Option Int)}(b:f.length=g.length)(h:∀p,p<f.length->f.getD p none=g.getD p none):f=g:=by
 refine adM b λi a c=>?_
 have:=h i a
 rw[bB,bB,bJ a,bJ c] at this;exact this
theorem Km(f:List (Option Int))(a b:Int):mH f [] a b=f:=yD (fU ..) λp c=>by
 rw[kP (by rw[fU] at c;exact c),mo (by simp)]
theorem z3(h:p<f.length):mH f (l++ [p]) a b=(mH f l a b).set p (sw a b (f.getD p none)):=by
 refine yD (by rw[fU,f9,fU]) λx c=>?_
 rw[fU] at c;rw[kP c,iT (by rw[fU];exact h),kP c]
 by_cases e:x=p
 ·subst e;rw[tz (by simp),tz rfl]
 ·rw[mo e]
  by_cases z:x∈l
  ·rw[tz (fk _ z),tz z]
  ·rw[mo z,mo]
   intro y
   rcases bR.mp y with y|y
   ·exact z y
   ·exact e (by simpa using y)
theorem Ib(h:p<f.length)(d:f.getD p none≠some a)(g:f.getD p none≠some b):mH f (l++ [p]) a b=mH f l a b:=by
 rw[z3 h];refine yD (by rw[f9]) λx c=>?_
 rw[f9,fU] at c;rw[iT (by rw[fU];exact h)]
 have:sw a b (f.getD p none)=f.getD p none:=by unfold sw;rw[mo d,mo g]
 by_cases e:x=p
 ·subst e
  rw[tz rfl,kP c,this];split<;>rfl
 ·rw[mo e]
theorem MR(o:Option Int):sw b a (sw a b o)=o:=by
 unfold sw
 by_cases c:o=some a
 ·subst c
  rw[tz rfl,tz rfl]
 ·rw[mo c]
  by_cases d:o=some b
  ·subst d
   rw[tz rfl]
   split
   ·next e=>exact e
   ·rw[tz rfl]
  ·rw[mo d,mo d,mo c]
theorem MQ(a b:Int)(o:Option Int):sw a b o=none↔o=none:=by
 unfold sw
 split
 ·next e=>subst e;simp
 ·split
  ·next e=>subst e;simp
  ·exact acK
def BR:cg:=λc P=>∃(f:List (Option Int))(l:List Nat)(a b:Int),c= [bo f,ay l, .int a, .int b]/\f.length<=14/\l.length<=14/\(∀p∈l,p<f.length)/\P (bo (mH f l a b))
theorem yw:FnOk P w Z.K mg base b9 1 T.d_exchanged.f T.d_exchanged.fd ["dyeing","points","one","other"] (fY Z 1 BR):=by
 have g:=qX.nd;refine iS 1 T.d_exchanged.F qX [0,0,0,0,1,0] (by decide) (λu R h=>by obtain⟨_,_,_,_,rfl,_⟩:=h;rfl) (λG A outer s H E u R v h=>?_)
 have i:=v.units
 refine⟨_,(af (cA 4 g (pk rfl rfl T.B.list eo (aa 0)))
   (af (cC rfl FB (bc (aa 1)) (aM 5 g) (ao (bq (aK (fL i) (aE (aa 0) (aa 5)) (aa 2) (aW _)) (ao (fH false 4 (aa 5) (aa 3))) (ao (bq (aK (fL i) (aE (aa 0) (aa 5)) (aa 3) (aW _)) (ao (fH false 4 (aa 5) (aa 2))) aL)))))
   (ao (tB 4)))),?_⟩
 obtain⟨f,l,a,b,rfl,I,J,x,q⟩:=h;refine⟨_,rfl,?_⟩;refine⟨_,rfl,?_⟩;refine bO (λj y=>∃o,y= [some (bo f),some (ay l),some (.int a),some (.int b),some (bo (mH f (l.take j) a b)),o]) ⟨none,?_⟩ ?_ ?_
 ·rw[List.take_zero,Km];rfl
 ·rintro j _ _ z ⟨o,rfl⟩ A k
  obtain⟨p,m,rfl⟩:=b8 z;have e:=x p (dA m);have n:l.take (j+1)=l.take j++ [p]:=by rw[rF,m];rfl
  have r:jN ((mH f (l.take j) a b).map oD).length (p:Int)=some p:=by rw[aD,fU];exact nH e
  have t:∀c:Int,sw a b (f.getD p none)=some c->A [some (bo f),some (ay l),some (.int a),some (.int b),some (.lst (((mH f (l.take j) a b).map oD).set p (.int c))),some (aq p)]:=λc C=>by
   refine k _ ⟨some (aq p),?_⟩;rw[n,z3 e,C];unfold bo;rw[um];rfl
  refine⟨_,rfl,_,rfl,_,iw e,_,rfl,?_⟩;refine(?_:sU (oD (f.getD p none)) (oD (some a)) _);refine EN ⟨_,rfl,bg (λh=>?_) λh=>?_⟩
  ·have h:=GT h
   exact⟨_,rfl,trivial,_,rfl,_,rfl,_,p,rfl,r,t b (by unfold sw;rw[tz h])⟩
  ·have h:=GM h
   refine⟨_,rfl,_,rfl,_,iw e,_,rfl,?_⟩;refine(?_:sU (oD (f.getD p none)) (oD (some b)) _);refine EN ⟨_,rfl,bg (λd=>?_) λd=>?_⟩
   ·have d:=GT d
    exact⟨_,rfl,trivial,_,rfl,_,rfl,_,p,rfl,r,t a (by unfold sw;rw[mo h,tz d])⟩
   ·have d:=GM d
    refine k _ ⟨some (aq p),?_⟩;rw[n,Ib e h d];rfl
 ·rintro _ ⟨o,rfl⟩
  rw[aD,rD];exact⟨_,rfl,q⟩
theorem Pr.mH{w:W}(g:Good w)(o:Pr w f)(E:f.length=w.length)(q:f.getD p none=some a)(m:∀x,x∈l↔Cr w (kn f p b) p x):Pr w (mH f l a b):=λx y d j c=>by
 have F:=bD j;have G:=g.rng _ _ j;rw[kP (by omega)] at c ⊢
 have two:∀z,z∈l->f.getD z none=some a\/f.getD z none=some b:=λz r=>by
  cases(m z).mp r with
  |base=>exact .inl q
  |step _ _ ok=>rw[<-q];exact ok
 have out:∀u v,u∈l->v∉l->v∈row w u->f.getD v none≠some a/\f.getD v none≠some b:=λu v A B C=>by
  refine⟨λz=>B ?_,λz=>B ?_⟩
  ·exact(m v).mpr (.step ((m u).mp A) C (.inl (z.trans q.symm)))
  ·exact(m v).mpr (.step ((m u).mp A) C (.inr z))
 have n:∀z,z∈l->sw a b (f.getD z none)=some a\/sw a b (f.getD z none)=some b:=λz r=>by
  unfold sw
  rcases two z r with h|h
  ·rw[tz h];exact .inr rfl
  ·by_cases e:f.getD z none=some a
   ·rw[tz e];exact .inr rfl
   ·rw[mo e,tz h];exact .inl rfl
 by_cases k:x∈l
 ·rw[tz k] at c
  by_cases i:y∈l
  ·rw[tz i]
   intro z
   have:=FS (sw b a) (c.trans z.symm)
   rw[MR,MR] at this
   rcases two x k with h|h
   ·exact o x y a j h (by rw[<-this];exact h)
   ·exact o x y b j h (by rw[<-this];exact h)
  ·rw[mo i]
   intro z;obtain⟨s,t⟩:=out x y k i j
   rcases n x k with h|h
   ·rw[h] at c;cases c;exact s z
   ·rw[h] at c;cases c;exact t z
 ·rw[mo k] at c
  by_cases i:y∈l
  ·rw[tz i]
   intro z;obtain⟨s,t⟩:=out y x i k (g.sym _ _ j)
   rcases n y i with h|h
   ·rw[h] at z;cases z;exact s c
   ·rw[h] at z;cases z;exact t c
  ·rw[mo i]
   exact o x y d j c
end xg
namespace L2
open PySem PySem.Spec PyProof.Rows
section
variable {Z:DC} {X:Cx} {a:Expr} {ta:bp} {pos:Pos}
def NB(b:bp):g6:=λc P=>b c λd=>∃i j:Int,d= .rng i j/\(-(2^62)<=i/\i<2^62/\-(2^62)<=j/\j<2^62/\(j-i).toNat<=1000)/\P (eC i (j-i).toNat)
theorem HU{x:Str}{p:Pos}(g:X.calm=true)(N:x="list")(k:Gl X x)(l:X.mg x=none)(m:bootBuiltins x=some (.type "list"))(n:DE Z X a ta)(o:x≠"__name__":=by decide)(r:(x==("__debug__":Str))=false:=by decide)
  (c:starEach [a] X.env=(false,eval a X.env)::starEach [] X.env:=by rfl) (t:(backTo pos (starEach [] X.env)).any (·.1)=false:=by rfl):DF Z X 1 (.Call (.Name x p) [a] [] pos) (NB ta):=by
 refine(so (oX g) k l m (dr n eQ c) o r c t).imp ?_;intro O H Q u;rfl';obtain⟨G,y,P,s,e,h,q⟩:=u;ac_rfl;refine⟨G,y,_,s,e,h,λd z v S T b dv=>?_⟩;obtain⟨i,j,rfl,⟨A,B,C,E,F⟩,I⟩:=z;cases dv with
 |rng h=>
  refine⟨_,i,j,rfl,b.sub _ _ h,A,B,C,E,F,λp f=>?_⟩;obtain⟨J,L,M⟩:=ji b f (yK i _);exact q _ I _ _ _ _ (b.side f) J L M
end
section
variable {Z:DC} {X:Cx} {md:List Nat} {rn:Nat} {e:Expr} {te:bp} {apos aP pos:Pos}
def Wj(i:Nat)(c:bp):cN:=λE b=>∃a:List Int,b[i]? =some (some (.lst (a.map D.int)))/\c b λd=>∃k q,d= .int k/\a[q]? =some k/\(∀m,m<q->a[m]? ≠some k)/\E.nx (b.set i (some (.lst ((a.eraseIdx q).map D.int))))
theorem Nv(i:Nat)(r:DE Z X e te)(g:md.getD i 0=1:=by rfl)(s:X.N[i]? =some x:=by rfl)(t:lJ X.env.scope x:=by first|exact Or.inl rfl|exact Or.inr (Or.inl rfl) |exact Or.inr (Or.inr rfl))(u:(x==("__debug__":Str))=false:=by decide)(w:(x==("__classdict__":Str))=false:=by decide)
  (y:attributeBase (.Name x b) "remove" X.env (eval (.Name x b) X.env)=eval (.Name x b) X.env:=by rfl)
  (z:((backTo aP (starEach [e] X.env)).all (λx=>!x.1)&&(backToKw aP (keywordEach [] X.env)).all (λx=>x.1.isSome)&&decide (([e]:List Expr).length+([]:List Keyword).length+(if ([]:List Keyword).isEmpty then 0 else 1)<30))=true:=by rfl)
  (A:(apos.endLine==aP.line)=true:=by rfl) (j:starEach [e] X.env=(false,eval e X.env)::starEach [] X.env:=by rfl) (C:(backTo aP (starEach [] X.env)).any (·.1)=false:=by rfl)
  (I:swapsWith (.Call (.Attribute (.Name x b) "remove" apos) [e] [] aP) none pos.line X.env=pure false:=by rfl):
  DSt Z X md rn (.Expr (.Call (.Attribute (.Name x b) "remove" apos) [e] [] aP) pos) (Wj i te):=by
 refine(iz (uW Os PySem.F.slot_list_remove PySem.F.type_list_remove FI (pv i s t u w) (dr r eQ j) y z A j C) I).imp ?_;intro D σ H J;rfl';obtain⟨B,ρ,E,⟨G,L,S⟩,⟨O,m,h⟩,M⟩:=J;ac_rfl;rfl';obtain⟨l0,Q,WZ,R,n,d,_,_⟩:=S.one g m;ac_rfl;refine⟨_,n,ty_list d,S.ev true h ?_⟩;intro _ T;rfl';obtain⟨k,q,rfl,U,Y,f⟩:=T;ac_rfl;refine⟨rfl,λv G' H' S' x dv=>?_⟩;rfl';cases dv.ofInt;obtain⟨l,xs,lN,e1,o,p,bC,put⟩:=S'.one g m;cases e1;rw[n] at o;cases o;rw[pq bC] at p;ac_rfl;exact⟨_,O,k,q,rfl,rfl,p,U,Y,M.nx _ f _ _ ⟨G',L,put _ _ (.ints _)⟩⟩
end
section
variable {Z:DC} {X:Cx} {B:Bs} {md:List Nat} {rn:Nat} {ρ:DN} {σ:St} {H G:Hp} {fp:Nat->List Addr} {te:bp} {pos:Pos}
variable {elt tg iter:Expr} {ifs:List Expr} {scope:Scope} {NC:List Str} {src:List (Option Nat)} {MZ:dQ} {wi:jt} {g:fB}
def JZ(i:Nat)(t:g6):cN:=λE a=>t a λb=>mN b=true/\E.nx (a.set i (some (.lst b)))
theorem yi(n:md.getD i 0=1)(S:SIx Z B md ρ σ H G fp)(h:t ρ λc=>mN c=true/\E.nx (ρ.set i (some (.lst c))))(M:Meets Z X B md rn E l):uL Z 1 t σ H λv m=>l.nx (σ.set i (some v)) m:=by
 obtain⟨N,p,q⟩:=S.Kl;refine⟨iX G H fp,ρ,_,p,q,h,?_⟩;rintro c ⟨r,s⟩ v f O m x o Q u;rfl';obtain⟨y,k⟩:=S.QJ x;have z:=S.grow y;obtain⟨a,A,T,U,rfl,C,F,I,J⟩:=o.lst;cases C;obtain⟨dv,rfl⟩:=J.flat;have d:=u a (by rw[I];simp)
 ac_rfl;refine M.nx _ s _ _ ⟨_,_,z.vO (f:= [a]) n (.inl ⟨a,A,c,[],rfl,rfl,F,rfl,(dv.lS k r).own⟩) (by simp) (λb e=>?_) λb e j _ L=>?_⟩
 ·have:b=a:=by simpa using e
  subst this;refine⟨S.ex.hh.free d.1,d.2.1,?_⟩;unfold rY
  split
  ·rfl
  ·exact d.2.2
 ·have:b=a:=by simpa using e
  subst this;exact(S.nw j b L).2.1 d.1
theorem EW(i:Nat)(e:X.calm=true)(f:X.N.Nodup)(c:b6 X scope)(j:dJ scope X.N src NC)(k:DI Z X tg iter wi)
  (l:∀a s H,DG Z (cO X scope NC a s H) tg g) (m:∀a s H,zf Z (cO X scope NC a s H) ifs MZ) (n:∀a s H,DE Z (cO X scope NC a s H) elt te)
  (o:swapsWith (.ListComp elt [⟨tg,iter,ifs,0⟩] scope pos) (some (.Name x b)) d.line X.env=pure true:=by rfl) (p:md.getD i 0=1:=by rfl) (q:X.N[i]? =some x:=by rfl) (r:Loc X.env.scope x:=by first|exact Or.inl rfl|exact Or.inr rfl)
  (t:X.fn x=true\/X.env.scope.names.lookup x=some .local:=by first|exact .inl rfl|exact .inr rfl|assumption)
  (u:∀x,foldedSetIterable iter X.env x=pure x:=by intro _;rfl):DSt Z X md rn (.Assign [.Name x b] (.ListComp elt [⟨tg,iter,ifs,0⟩] scope pos) d) (JZ i (Ko wi g MZ te src)):=by
 refine(qG e f q r c j k l m n o t u).imp ?_;intro z v H w;rfl';obtain⟨B,C,E,⟨G,F,S⟩,h,M⟩:=w;ac_rfl;exact tO v H _ (yi p S h M)
end
end L2
namespace xg
open PySem L2 Wb
variable {P:Program} {w:World} {mg:Str->Option Value} {base:Heap} {Z:DC} (T:Txt Z mg)
open Wy
def Dy(m:Int)(f:List (Option Int)):Prop:=∀q d,f.getD q none=some d->0<=d/\d<m
theorem Jd{w:W}(g:Good w)(i:1<=w.length)(P:2<=w.length->iM w)(R:Rs w a):(w.length:Int)+(a.length:Int)=(tc w:Int)+2:=by
 have j:=Pj g;have k:=df w
 by_cases h:2<=w.length
 ·obtain⟨c,⟨l,b,d,rfl⟩,e⟩:=P h
  have:=Rs.len g R (.inr ⟨h,j7.rounds g b d⟩)
  rw[aD] at this;omega
 ·have f:w.length=1:=by omega
  rcases R with ⟨_,rfl⟩ | ⟨m,_⟩
  ·obtain rfl:=yC g f
   have:(aX ([[]]:W)).length=0:=rfl
   show((1:Nat):Int)+((1:Nat):Int)=_;omega
  ·omega
def MH:cg:=λa P=>∃(w:W),a= [.eM w]/\Good w/\1<=w.length/\w.length<=14/\fP w<64/\(2<=w.length->iM w)/\P .bA
theorem km:FnOk P w Z.K mg base b9 6 T.d_need_plane.f T.d_need_plane.fd ["web"] (aV Z MH):=by
 have l:=p9.nd;refine aY T.d_need_plane.F p9 [0] (by decide) (λc R h=>by obtain⟨_,rfl,_⟩:=h;rfl) (λm A outer s H E c R a h=>?_)
 have n:=a.units;refine⟨_,(ao (bq (gh (eO (aA T.d_is_plane (BC T) a (ae (aa 0) ag)))) (ao jX) aL)),?_⟩;obtain⟨d,rfl,g,b,l14,i,j,q⟩:=h;refine⟨_,rfl,d,rfl,g,b,l14,i,λo k s=>?_⟩
 have:=Jd g b j k
 refine⟨rfl,bg (λe=>absurd this (by simpa [yY] using e)) (λe=>⟨rfl,q⟩)⟩
def Jp:cg:=λa P=>∃(w:W)(m:Int),a= [.eM w, .int m]/\(w.length:Int)<=m/\P .bA
theorem uU:FnOk P w Z.K mg base b9 2 T.d_need_at_most.f T.d_need_at_most.fd ["web","most"] (aV Z Jp):=by
 have e:=mY.nd;refine aY T.d_need_at_most.F mY [0,0] (by decide) (λd R h=>by obtain⟨_,_,rfl,_⟩:=h;rfl) (λg A outer s H E d R a h=>?_)
 have i:=a.units;refine⟨_,(ao (bq (aK Lw (dY T.W (aa 0) T.m_many.m (jQ T) (a.mono (by decide)) T.m_many.b) (aa 1) (aW _)) (ao jX) aL)),?_⟩
 obtain⟨c,m,rfl,j,q⟩:=h;refine⟨_,rfl,c,rfl,c,rfl,_,rfl,_,rfl,Af (FM (by omega)) ⟨rfl,q⟩⟩
theorem xY:inD (.int d) (av l)=decide (d∈l):=by
 unfold inD av;rw[List.any_map]
 have:((λy=>iG y (.int d))∘D.int)=λo:Int=>decide (o=d):=by
  funext o
  simp[iG,Function.comp]
  by_cases h:o=d<;>simp[h]
 rw[this,adY];simp
theorem kQ(l:List Int):(av l).all dF=true:=by simp[av,dF]
def O6:cg:=λa P=>∃(l:List Int)(m:Int),a= [.lst (av l), .int m]/\0<=m/\m<1000/\l.length<=100/\(∀d,0<=d->d<m->d∉l->P (.int d))/\((∀d,0<=d->d<m->d<=l.length->d∈l)->P .bA)
theorem pM:FnOk P w Z.K mg base b9 1 T.d_least_free.f T.d_least_free.fd ["taken","many"] (aV Z O6):=by
 have g:=p7.nd;refine aY T.d_least_free.F p7 [0,0,0] (by decide) (λk R h=>by obtain⟨_,_,rfl,_⟩:=h;rfl) (λv A outer s H E k R o h=>?_)
 have x:=o.units
 refine⟨_,(af (hJ rfl FB (fq rfl T.B.range (ae (aH (JT rfl) rfl T.B.min GC (ae (aa 1) (ae (aF bP (aH bz rfl T.B.len bx (ae (aa 0) ag)) au) ag))) ag)) (aM 2 g) (ao (bq (aK iV (aa 2) (aa 0) (by with_unfolding_all rfl)) (ao (aJ (aa 2))) aL)))
   (ao (aJ cX))),?_⟩
 obtain⟨l,m,rfl,y,C,G,p,q⟩:=h;have lt:((av l).length:Int)=(l.length:Int):=by unfold av;rw[aD]
 refine⟨_,rfl,_,rfl,_,_,rfl,⟨by split<;>omega,by split<;>omega⟩,?_⟩
 obtain⟨n,c⟩:∃n:Nat,n=(if ((av l).length:Int)+1<m then((av l).length:Int)+1 else m).toNat:=⟨_,rfl⟩;refine(?_:ke _ _ _ (eC 0 (if ((av l).length:Int)+1<m then((av l).length:Int)+1 else m).toNat) _);rw[<-c]
 have r:(n:Int)<=m/\((n:Int)=m\/(n:Int)=(l.length:Int)+1):=by
  split at c<;>omega
 refine gj (λj t=>∃a,t= [some (.lst (av l)),some (.int m),a]/\∀i:Nat,i<j->(i:Int)∈l) ⟨_,rfl,λi h=>by omega⟩ ?_ ?_
 ·rintro j _ I ⟨a,rfl,b⟩ A u
  refine⟨_,rfl,_,rfl,rfl,kQ l,_,rfl,?_⟩;rw[tz rfl,show inD (aq j) (av l)=decide ((j:Int)∈l) from xY];refine bg (λe=>?_) (λe=>u _ ⟨_,rfl,λi J=>?_⟩)
  ·exact⟨_,rfl,p _ (by omega) (by omega) (by simpa using e)⟩
  ·by_cases z:i=j
   ·subst z;simpa using e
   ·exact b i (by omega)
 ·rintro _ ⟨a,rfl,b⟩
  refine q λd L M dl=>?_
  have:=b d.toNat (by omega)
  rwa [show((d.toNat:Nat):Int)=d by omega] at this
def F9:cg:=λb P=>∃(w:W)(f:List (Option Int))(a:List Nat),b= [.eM w,bo f,ay a]/\Good w/\w.length<=14/\f.length=w.length/\a.length<=14/\(∀q∈a,q<w.length/\∃d,f.getD q none=some d)/\(∀q∈a,∀r∈a,∀d,f.getD r none=some d->¬Cr w (kn f q d) q r->P (.tup [aq q, .int d]))/\((∀q∈a,∀r∈a,∀d,f.getD r none=some d->Cr w (kn f q d) q r)->P .bA)
theorem pL:FnOk P w Z.K mg base b9 3 T.d_freeing_exchange.f T.d_freeing_exchange.fd ["web","dyeing","around"] (aV Z F9):=by
 have C:=jm.nd;refine aY T.d_freeing_exchange.F jm [0,0,0,0,0] (by decide) (λS R h=>by obtain⟨_,_,_,rfl,_⟩:=h;rfl) (λbF A outer s H E S R a h=>?_)
 have hu:=a.units
 refine⟨_,(af (cC rfl FB (bc (aa 2)) (aM 3 C) (ao (cC rfl FB (bc (aa 2)) (aM 4 C) (ao (bq (aK iV (aa 4) (aA T.d_chain ((yv T).imp BS) a (ae (aa 0) (ae (aa 1) (ae (aa 3) (ae (aE (aa 1) (aa 4)) ag))))) (by with_unfolding_all rfl)) (ao (aJ (cz (ae (aa 3) (ae (aE (aa 1) (aa 4)) ag))))) aL)))))
   (ao (aJ cX))),?_⟩
 obtain⟨l,f,c,rfl,g,l14,U,al,ad,X,Y⟩:=h;refine⟨_,rfl,?_⟩;refine bO (λj p=>∃t k,p= [some (.eM l),some (bo f),some (ay c),t,k]/\∀q∈c.take j,∀r∈c,∀d,f.getD r none=some d->Cr l (kn f q d) q r) ⟨_,_,rfl,λq b=>nomatch b⟩ ?_ ?_
 ·rintro j _ _ m ⟨t,k,rfl,n⟩ A hA
  obtain⟨x,G,rfl⟩:=b8 m;have I:=dA G;have tk:c.take (j+1)=c.take j++ [x]:=by rw[rF,G];rfl
  refine⟨_,rfl,?_⟩;refine bO (λi p=>∃k,p= [some (.eM l),some (bo f),some (ay c),some (aq x),k]/\∀r∈c.take i,∀d,f.getD r none=some d->Cr l (kn f x d) x r) ⟨_,rfl,λq b=>nomatch b⟩ ?_ ?_
  ·rintro i _ _ u ⟨k,rfl,o⟩ A2 NI
   obtain⟨y,J,rfl⟩:=b8 u;have M:=dA J;have MX:c.take (i+1)=c.take i++ [y]:=by rw[rF,J];rfl
   obtain⟨xl,dx,Xy⟩:=ad x I;obtain⟨yl,v,B⟩:=ad y M;have N:fJ (f.map oD) (y:Int)=some (.int v):=by rw[iw (by omega),B];rfl
   refine⟨_,rfl,_,rfl,_,rfl,_,rfl,_,rfl,_,rfl,_,N,l,f,x,v,rfl,g,l14,xl,U,λL L1 O=>?_⟩;refine⟨rfl,cP _,_,rfl,?_⟩;rw[tz rfl,ia];refine bg (λe=>?_) (λe=>NI _ ⟨_,rfl,λr a d m=>?_⟩)
   ·have e:y∉L:=by simpa using e
    exact⟨_,rfl,_,rfl,_,rfl,_,N,by show 2<=sizeLine;decide,X x I y M v B λz=>e ((O y).mpr z)⟩
   ·have e:y∈L:=by simpa using e
    rw[MX] at a
    rcases bR.mp a with a|a
    ·exact o r a d m
    ·rw[cF] at a;subst a
     rw[B] at m;cases m;exact(O r).mp e
  ·rintro _ ⟨k,rfl,o⟩
   refine hA _ ⟨_,_,rfl,λq b r a d Q=>?_⟩;rw[tk] at b
   rcases bR.mp b with b|b
   ·exact n q b r a d Q
   ·rw[cF] at b;subst b
    rw[aD,rD] at o;exact o r a d Q
 ·rintro _ ⟨t,k,rfl,n⟩
  rw[aD,rD] at n;exact Y n
def dZ(w:W)(f:List (Option Int))(p:Nat):List Nat:=(row w p).filter λq=>!decide (f.getD q none=none)
theorem jO{w:W}:q∈dZ w f p↔q∈row w p/\∃d,f.getD q none=some d:=by
 unfold dZ;rw[fO];cases h:f.getD q none<;>simp
structure Given (w:W) (f:List (Option Int)) (p:Nat) (f':List (Option Int)):Prop where
 len:f'.length=f.length
 pr:Pr w f'
 dy:Dy 5 f'
 at_:∃d,f'.getD p none=some d
 out:∀q,q≠p->(f'.getD q none=none↔f.getD q none=none)
theorem Pr.free{w:W}{f:List (Option Int)}(g:Good w)(a:Pr w f)(b:p<f.length)(h:∀q∈row w p,f.getD q none≠some d):Pr w (f.set p (some d)):=a.set g b λe c q i=>by cases c;exact h q i
theorem vC{w:W}(g:Good w)(j:Pr w f)(a:p<f.length)(k:Dy 5 f)(l:0<=d/\d<5)(h:∀q∈row w p,f.getD q none≠some d)(m:f.length=c.length)(n:∀q,q≠p->(f.getD q none=none↔c.getD q none=none)):Given w c p (f.set p (some d)):=by
 refine⟨by rw[f9,m],j.free g a h,λq e b=>?_,⟨d,by rw[iT a,tz rfl]⟩,λq i=>by rw[iT a,mo i];exact n q i⟩
 rw[iT a] at b
 split at b
 ·cases b;exact l
 ·exact k q e b
theorem A0{w:W}(A:(dZ w f p).length<=5)(all:∀d:Int,0<=d->d<5->d<=((dZ w f p).length:Int)->d∈(dZ w f p).map λq=>(f.getD q none).getD 0):
  (dZ w f p).length=5/\∀q∈dZ w f p,∀r∈dZ w f p,f.getD q none=f.getD r none->q=r:=by
 have o:∀n:Nat,(n:Int)<=5->(∀d:Nat,d<n->(d:Int)∈(dZ w f p).map λq=>(f.getD q none).getD 0)->n<=(dZ w f p).length:=λn B h=>by
  have:=az (l:=(List.range n).map λ(k:Nat)=>(k:Int)) (m:=(dZ w f p).map λq=>(f.getD q none).getD 0) (by rw[oJ,gY];exact AR.imp λ {a b} h=>by omega) λx g=>by
   obtain⟨k,i,rfl⟩:=aZ.mp g;exact h k (bT.mp i)
  rwa [aD,aD,fG] at this
 have s:(dZ w f p).length=5:=by
  by_cases c:(dZ w f p).length<5
  ·have:=o ((dZ w f p).length+1) (by omega) λd C=>all d (by omega) (by omega) (by omega)
   omega
  ·omega
 refine⟨s,λq t r u e=>Do λne=>?_⟩;have lt:=List.length_filter_lt_length_iff_exists.mpr (⟨q,t,by simp⟩:∃x∈dZ w f p,¬(!decide (x=q))=true)
 have:=az (l:=(List.range 5).map λ(k:Nat)=>(k:Int)) (m:=((dZ w f p).filter λx=>!decide (x=q)).map λq=>(f.getD q none).getD 0) (by decide) λx g=>by
  obtain⟨k,i,rfl⟩:=aZ.mp g
  have:=bT.mp i
  obtain⟨y,v,j⟩:=aZ.mp (all k (by omega) (by omega) (by omega))
  by_cases z:y=q
  ·subst z
   exact aZ.mpr ⟨r,fO.mpr ⟨u,by simp[Ne.symm ne]⟩,by rw[<-e];exact j⟩
  ·exact aZ.mpr ⟨y,fO.mpr ⟨v,by simp[z]⟩,j⟩
 rw[aD,aD,fG] at this;omega
theorem IU{w:W}(g:Good w)(P:iM w)(s:f.getD p none=none)(N:(dZ w f p).length=5)(un:∀q∈dZ w f p,∀r∈dZ w f p,f.getD q none=f.getD r none->q=r)
  (h:∀q∈dZ w f p,∀r∈dZ w f p,∀d,f.getD r none=some d->Cr w (kn f q d) q r):False:=by
 obtain⟨a,b,c,d,e,n⟩:∃a b c d e,dZ w f p= [a,b,c,d,e]:=by
  match dZ w f p,N with
  | [a,b,c,d,e],_=>exact⟨a,b,c,d,e,rfl⟩
 have o:(dZ w f p).Nodup:=(g.nod p).filter _
 have fr:∃X A B C D,row w p=X++a::(A++b::(B++c::(C++d::D))):=by
  have i:∀{l:List Nat}{x:Nat}{m:List Nat},(l.filter λq=>!decide (f.getD q none=none))=x::m->∃X Y,l=X++x::Y/\(Y.filter λq=>!decide (f.getD q none=none))=m:=λ {l x m} h=>by
   obtain⟨X,Y,E,I,J,F⟩:=List.filter_eq_cons_iff.mp h;exact⟨X,Y,E,F⟩
  obtain⟨X,Y1,E,O⟩:=i n;obtain⟨A,Y2,I,Q⟩:=i O;obtain⟨B,Y3,J,R⟩:=i Q;obtain⟨C,S,F,r4⟩:=i R;exact⟨X,A,B,C,S,by rw[E,I,J,F]⟩
 obtain⟨X,A,B,C,D,U⟩:=fr;have t:a∈dZ w f p:=by rw[n];simp
 have u:b∈dZ w f p:=by rw[n];simp
 have v:c∈dZ w f p:=by rw[n];simp
 have y:d∈dZ w f p:=by rw[n];simp
 obtain⟨_,da,T⟩:=jO.mp t;obtain⟨_,db,Z⟩:=jO.mp u;obtain⟨_,L,G⟩:=jO.mp v;obtain⟨_,M,H⟩:=jO.mp y;rw[n] at o;simp only[b7,br,not_or] at o;have n1:f.getD a none≠f.getD b none:=λz=>o.1.1 (un a t b u z);have n2:f.getD a none≠f.getD d none:=λz=>o.1.2.2.1 (un a t d y z);have n3:f.getD b none≠f.getD c none:=λz=>o.2.1.1 (un b u c v z);have n4:f.getD c none≠f.getD d none:=λz=>o.2.2.1.1 (un c v d y z);refine Tn g P U (o1:=kn f a L) (o2:=kn f b M) (λx j k=>?_) (.inl rfl) (.inl rfl) (λz=>?_) (λz=>?_) (h a t c v L G) (h b u d y M H)
 ·rcases j with j|j<;>rcases k with k|k
  ·exact n1 (j.symm.trans k)
  ·exact n2 (j.symm.trans (k.trans H.symm))
  ·exact n3 (k.symm.trans (j.trans G.symm))
  ·exact n4 (G.trans (j.symm.trans (k.trans H.symm)))
 ·rcases z with z|z
  ·rw[s,T] at z;cases z
  ·rw[s] at z;cases z
 ·rcases z with z|z
  ·rw[s,Z] at z;cases z
  ·rw[s] at z;cases z
theorem E2{w:W}(g:Good w)(v:Pr w f)(y:f.length=w.length)(F:p<w.length)(e:Dy 5 f)(G:f.getD p none=none)(o:q∈dZ w f p)(s:r∈dZ w f p)(un:∀q∈dZ w f p,∀r∈dZ w f p,f.getD q none=f.getD r none->q=r)
  (i:f.getD q none=some a) (j:f.getD r none=some b) (k:∀x,x∈L↔Cr w (kn f q b) q x) (t:¬Cr w (kn f q b) q r):Given w f p ((mH f L a b).set p (some a)):=by
 have A:Pr w (mH f L a b):=v.mH g y i k;have l:=fU f L a b;have B:q∈L:=(k q).mpr .base;have C:q≠r:=λz=>t (z▸ .base);have E:a≠b:=λz=>C (un q o r s (by rw[i,j,z]))
 have inr:∀{x:Nat}{d:Int},(mH f L a b).getD x none=some d->x<f.length:=λ {x d} h=>by
  apply Do;intro z;rw[bB,fj (by rw[l];omega)] at h
  cases h
 refine vC g A (by omega) (λx d c=>?_) (e q a i) (λx c z=>?_) l λx c=>?_
 ·rw[kP (inr c)] at c
  split at c
  ·unfold sw at c
   split at c
   ·cases c;exact e r _ j
   ·split at c
    ·cases c;exact e q _ i
    ·exact e x d c
  ·exact e x d c
 ·have m:=inr z
  rw[kP m] at z
  split at z
  ·next n=>
   unfold sw at z
   split at z
   ·cases z;exact E rfl
   ·split at z
    ·next u=>
     have:x=r:=un x (jO.mpr ⟨c,_,u⟩) r s (u.trans j.symm)
     subst this;exact t ((k x).mp n)
    ·contradiction
  ·next n=>
   have:x=q:=un x (jO.mpr ⟨c,_,z⟩) q o (z.trans i.symm)
   exact n (this▸B)
 ·by_cases m:x<f.length
  ·rw[kP m]
   split
   ·exact MQ a b _
   ·exact acK
  ·rw[bB,fj (by rw[l];omega),bB,fj (by omega)]
theorem xS{w:W}{f f1:List (Option Int)}{l0:List D}(l14:w.length<=14)(h:f1.length<=14)(k:p<w.length)(i:p<f1.length)(q:∀(c:List (Option Int))(l:List D),Given w f p c->l.length<=2->E.rt (.tup [bo c, .lst l]))(G:Given w f p (f1.set p (some d)))(ll:l0.length<=1:=by decide):
  dSeq (GG [0,0,0,0,0,1,1,0,0,0,0] false 5 (vx 2) (vx 7)) (dSeq (JV [0,0,0,0,0,1,1,0,0,0,0] false 6 (J3 (uA (dC (.str "give")) (uA (vx 2) (uA (vx 7) sX))))) (xH 5 (xH 6 (Qq (J3 (uA (vx 5) (uA (vx 6) sX))))))) E [some (.eM w),some (bo f),some (aq p),some (.int 5),a,some (bo f1),some (.lst l0),some (.int d),e,g,b]:=by
 have j:jN (f1.map oD).length (p:Int)=some p:=by rw[aD];exact nH i
 refine⟨_,rfl,trivial,_,rfl,_,rfl,_,p,rfl,j,?_⟩;refine⟨_,rfl,_,rfl,_,rfl,by show 3<=sizeLine;decide,trivial,cq (by omega),?_⟩
 refine⟨⟨_,rfl⟩,⟨_,rfl⟩,_,rfl,_,rfl,by show 2<=sizeLine;decide,?_⟩
 have:=q _ (l0++ [.tup [.str "give",aq p, .int d]]) G (by rw[bZ];simp only[jJ];omega)
 unfold bo at this;rw[um] at this;exact this
def MC:cg:=λb P=>∃(w:W)(f:List (Option Int))(p:Nat),b= [.eM w,bo f,aq p, .int 5]/\Good w/\1<=w.length/\w.length<=14/\fP w<64/\(2<=w.length->iM w)/\p<w.length/\f.length=w.length/\Pr w f/\Dy 5 f/\f.getD p none=none/\(dZ w f p).length<=5/\∀a l,Given w f p a->l.length<=2->P (.tup [bo a, .lst l])
theorem zy:FnOk P w Z.K mg base b9 7 T.d_dye_given.f T.d_dye_given.fd ["web","dyeing","p","many"] (aV Z MC):=by
 have j:=qW.nd;refine aY T.d_dye_given.F qW [0,0,0,0,0,1,1,0,0,0,0] (by decide) (λS R h=>by obtain⟨_,_,_,rfl,_⟩:=h;rfl) (λbF A outer s H E S R k h=>?_)
 have hu:=k.units
 refine⟨_,(af (tx (aA T.d_need_plane (km T) k (ae (aa 0) ag)))
   (af (qB 4 (NC:= ["q","dyeing"]) (src:= [none,some 1]) rfl j (lK (aw iD)) ⟨rfl,rfl,trivial⟩ (bc (aE (dY T.W (aa 0) T.m_turns.m (gI T) (k.mono (by decide)) T.m_turns.b) (aa 2))) (λ_ _ _=>(bI 0 (show(["q","dyeing"]:List Str).Nodup from by decide+kernel))) (λ_ _ _=>(jf (aK uQ (aE (aa 1) (aa 0)) cX (aW _)))) (λ_ _ _=>(aa 0)))
   (af (bq (DW.dt (nF (aK uQ (aE (aa 1) (aa 2)) cX (aW _)) (qC (aK Lw (aH bz rfl T.B.len bx (ae (aa 4) ag)) (aa 3) (aW _))))) (ao jX) aL)
   (af (cA 5 j (pk rfl rfl T.B.list eo (aa 1)))
   (af (cA 6 j (eN ag))
   (af (aS false 7 j (aA T.d_least_free (pM T) k (ae (nj (NC:= ["q","dyeing"]) (src:= [none,some 1]) rfl (lK (aw iD)) ⟨rfl,rfl,trivial⟩ (bc (aa 4)) (λ_ _ _=>(bI 0 (show(["q","dyeing"]:List Str).Nodup from by decide+kernel))) (λ_ _ _=>dM) (λ_ _ _=>(aE (aa 1) (aa 0)))) (ae (aa 3) ag))))
   (af (bq (aK uP (aa 7) cX (aW _)) (af (aS false 8 j (aA T.d_freeing_exchange (pL T) k (ae (aa 0) (ae (aa 1) (ae (aa 4) ag)))))
   (af (bq (aK uP (aa 8) cX (aW _)) (gQ 5
   (gQ 6
   (ao (aJ (cz (ae (aa 5) (ae (aa 6) ag))))))) aL)
   (af (wJ (aa 8) (hU 2 rfl (bG (aM 9 j) (bG (aM 10 j) eX))))
   (af (aS false 7 j (aE (aa 1) (aa 9)))
   (af (cA 5 j (uD T.d_exchanged (yw T) k (ae (aa 1) (ae (aA T.d_chain ((yv T).imp BS) k (ae (aa 0) (ae (aa 1) (ae (aa 9) (ae (aa 10) ag))))) (ae (aa 7) (ae (aa 10) ag))))))
   (ao (fu false 6 (cz (ae nA (ae (aa 9) (ae (aa 10) ag))))))))))) aL)
   (af (fH false 5 (aa 2) (aa 7))
   (af (fu false 6 (cz (ae nA (ae (aa 2) (ae (aa 7) ag)))))
   (gQ 5
   (gQ 6
   (ao (aJ (cz (ae (aa 5) (ae (aa 6) ag)))))))))))))))),?_⟩
 obtain⟨c,f,p,rfl,g,U,l14,X,C,r,n,G,I,t,a5,q⟩:=h;refine⟨_,rfl,c,rfl,g,U,l14,X,C,?_⟩;have rl:=dO g p;have rng:∀y∈row c p,y<f.length:=λy i=>by rw[n];exact g.rng _ _ i
 refine⟨_,rfl,c,rfl,c,rfl,l14,_,rfl,_,fD r,?_⟩;refine jg (ρ:= [none,some (bo f)]) aq (λq=>!decide (f.getD q none=none)) aq (row c p) _ [] _ (λy i Y Nn t1 t2=>?_) ⟨none,rfl⟩ (small (by rw[jq];omega)) λaR=>?_
 ·refine⟨_,rfl,_,rfl,_,iw (rng y i),_,rfl,?_⟩
  cases J:f.getD y none with
  |none=>exact cj (t2 (by rw[J];rfl))
  |some d=>exact eY ⟨_,rfl,t1 (by rw[J];rfl)⟩
 rw[qu,show(.lst (((row c p).filter λq=>!decide (f.getD q none=none)).map aq):D)=ay (dZ c f p) from rfl];refine⟨trivial,?_⟩;have ap:fJ (f.map oD) (p:Int)=some .bA:=by rw[iw (by omega),t];rfl
 have o:∀y∈dZ c f p,y<f.length/\∃d,f.getD y none=some d:=λy i=>⟨rng y (jO.mp i).1,(jO.mp i).2⟩;refine⟨_,rfl,_,rfl,_,ap,_,rfl,?_⟩;have la:((dZ c f p).map aq).length=(dZ c f p).length:=aD _;have lf:(f.map oD).length=f.length:=aD _;refine cj ⟨_,rfl,_,rfl,_,rfl,Af (FM (by omega)) ?_⟩
 refine⟨_,rfl,?_⟩;refine⟨by show 0<=sizeLine;decide,?_⟩
 have ei:((dZ c f p).map λx=>oD (f.getD x none))=av ((dZ c f p).map λq=>(f.getD q none).getD 0):=by
  unfold av;rw[bU];refine rz λx e=>?_;obtain⟨d,u⟩:=(o x e).2;rw[Function.comp,u];rfl
 refine⟨_,rfl,?_⟩;refine ib (ρ:= [none,some (bo f)]) aq (λx=>oD (f.getD x none)) (dZ c f p) _ (λx e Y hY=>⟨_,rfl,_,rfl,_,iw (o x e).1,hY⟩) rfl (small (by omega)) λaR=>?_
 rw[ei];refine⟨_,rfl,_,5,rfl,by decide,by decide,by rw[aD];omega,λd d0 d5 dn=>⟨trivial,?_⟩,λall=>⟨trivial,?_⟩⟩
 ·refine⟨_,rfl,_,rfl,cj ?_⟩
  refine xS (f1:=f) (l0:= []) l14 (by omega) r (by omega) q (vC g G (by omega) I ⟨d0,d5⟩ (λy i z=>dn (aZ.mpr ⟨y,jO.mpr ⟨i,d,z⟩,by rw[z];rfl⟩)) rfl λ_ _=>acK)
 ·rw[aD] at all
  obtain⟨l5,un⟩:=A0 a5 all;have M:=B5 (λq=>!decide (f.getD q none=none)) (row c p);have M:(dZ c f p).length<=(row c p).length:=M;have P:=C (by omega)
  refine⟨_,rfl,_,rfl,eY ?_⟩;refine⟨_,rfl,_,rfl,_,rfl,c,f,dZ c f p,rfl,g,l14,n,by omega,λx e=>⟨by have:=(o x e).1;omega,(o x e).2⟩,λx e y i d u nc=>⟨trivial,?_⟩,λh=>(IU g P t l5 un h).elim⟩
  obtain⟨xl,a,N⟩:=o x e;have ax:fJ (f.map oD) (x:Int)=some (.int a):=by rw[iw xl,N];rfl
  refine⟨_,rfl,_,rfl,cj ?_⟩;refine⟨_,rfl,?_⟩;refine⟨rfl,rfl,?_⟩;refine⟨_,rfl,_,rfl,_,ax,trivial,?_⟩;refine⟨_,rfl,_,rfl,_,rfl,_,rfl,_,rfl,c,f,x,d,rfl,g,l14,by omega,n,λL L1 O=>?_⟩
  have Q:∀x∈L,x<c.length:=λy i=>((O y).mp i).lt g (by omega)
  have v:L.length<=14:=by
   have:=az (l:=L) (m:=List.range c.length) (L1.imp λh=>cE h) λx e=>bT.mpr (Q x e)
   rw[fG] at this;omega
  have el:=fU f L a d;refine⟨_,rfl,_,rfl,f,L,a,d,rfl,by omega,v,λx e=>by rw[n];exact Q x e,?_⟩
  refine⟨_,rfl,_,rfl,_,rfl,_,rfl,by show 3<=sizeLine;decide,trivial,cq (by decide),?_⟩
  exact xS (ll:=bH 1) (f1:=mH f L a d) (l0:= [.tup [.str "exchange",aq x, .int d]]) l14 (by omega) r (by omega) q (E2 g G n r I t e i un N u O nc)
variable {P:Program} {w:World} {mg:Str->Option Value} {base:Heap} {Z:DC} (T:Txt Z mg)
theorem xO(f:b->c):∀(l:List b)(i:Nat),(l.map f).eraseIdx i=(l.eraseIdx i).map f
 | [],_=>rfl
 |_::_,0=>rfl
 |a::l,i+1=>by rw[dD,B0,B0,dD,xO f l i]
theorem Ar(f:Nat->Int):∀K:List Nat,mN (K.map λp=>tupI [f p,(p:Int)])=true
 | []=>rfl
 |b::K=>by rw[dD,mN,Ar f K];rfl
structure xj (w:W) (K M:List Nat):Prop where
 nk:K.Nodup
 nm:M.Nodup
 dj:∀x∈K,x∉M
 all:∀x,x<w.length↔x∈K\/x∈M
 few:∀A x B,M=A++x::B->((row w x).filter λq=>decide (q∈B++K)).length<=5
def Q6(w:W)(L:List Nat):Prop:=L.Nodup/\(∀x,x<w.length↔x∈L)/\∀A x B,L=A++x::B->((row w x).filter λq=>decide (q∈B)).length<=5
theorem xj.zero(w:W):xj w (List.range w.length) []:=⟨rE,gK,(λx _ h=>nomatch h),λx=>by simp,λA x B e=>by cases A<;>cases e⟩
theorem rO{l K a:List Nat}(h:∀x∈l,x∈K->x∈a):(l.filter λq=>decide (q∈K)).length<=(l.filter λq=>decide (q∈a)).length:=by
 rw[<-AM,<-AM];exact ac4 λx b c=>GE (h x b (GT c))
theorem xj.step{w:W}{K M:List Nat}(h:xj w K M){p:Nat}(d:p∈K)(l:((row w p).filter λq=>decide (q∈K)).length<=5){f:List Nat}(m:f.Nodup)(mk:∀x,x∈f↔x∈K/\x≠p):xj w f (M++ [p]):=by
 have n:=h.dj p d;refine⟨m,dB.mpr ⟨h.nm,by simp,λa o b j e=>?_⟩,λx g z=>?_,λx=>?_,λA x B e=>?_⟩
 ·rw[cF] at j;subst j;exact n (e▸o)
 ·obtain⟨r,s⟩:=(mk x).mp g
  rcases bR.mp z with z|z
  ·exact h.dj x r z
  ·exact s (cF.mp z)
 ·rw[h.all x,mk,bR,cF]
  by_cases z:x=p
  ·subst z;simp[d]
  ·simp[z]
 ·rcases y8 B with rfl| ⟨k,y,rfl⟩
  ·obtain⟨rfl,i⟩:=ac2 e rfl
   cases i;exact jr (rO λx _ g=>((mk x).mp (by simpa using g)).1) l
  ·rw[AQ] at e ⊢
   have e:M++ [p]=(A++x::k)++ [y]:=by rw[e];simp
   obtain⟨t,i⟩:=ac2 e rfl;cases i;refine jr (rO λz _ c=>?_) (h.few A x k t)
   rcases bR.mp c with c|c
   ·rcases bR.mp c with c|c
    ·exact fk _ c
    ·rw[cF.mp c];exact cZ _ d
   ·exact cZ _ ((mk z).mp c).1
theorem Lh(h:HT.lexLt [a,b] [c,d]=false):c<=a:=by
 rw[HT.gR] at h
 by_cases e:a=c
 ·omega
 ·rw[mo e] at h
  have:=GM h
  omega
def MI:cg:=λa P=>∃(w:W),a= [.eM w]/\Good w/\1<=w.length/\w.length<=14/\(2<=w.length->iM w)/\∀L:List Nat,Q6 w L->P (ay L)
theorem kX:FnOk P w Z.K mg base b9 2 T.d_order_of_five.f T.d_order_of_five.fd ["web"] (aV Z MI):=by
 have j:=lh.nd;refine aY T.d_order_of_five.F lh [0,0,1,1,1,0] (by decide) (λQ R h=>by obtain⟨_,rfl,_⟩:=h;rfl) (λbF A outer s H E Q R r h=>?_)
 have S:=r.units
 refine⟨_,(af (aS false 1 j (dY T.W (aa 0) T.m_turns.m (gI T) (r.mono (by decide)) T.m_turns.b))
   (af (cA 2 j (HU rfl rfl rfl T.B.list eo (fo CA rfl T.B.range zK (ae (dY T.W (aa 0) T.m_many.m (jQ T) (r.mono (by decide)) T.m_many.b) ag))))
   (af (cA 3 j (eN ag))
   (af (mF FB (eO (aa 2)) (af (EW 4 (NC:= ["p","turns","left"]) (src:= [none,some 1,some 2]) rfl j (lK (aw gq)) ⟨rfl,rfl,rfl,rfl,trivial⟩ (bc (aa 2)) (λ_ _ _=>(bI 0 (show(["p","turns","left"]:List Str).Nodup from by decide+kernel))) (λ_ _ _=>dM) (λ_ _ _=>(cz (ae (aH bz rfl T.B.len bx (ae (nj (NC:= ["q","left"]) (src:= [none,some 2]) rfl Vw ⟨rfl,rfl,trivial⟩ (bc (aE (aa 1) (aa 0))) (λ_ _ _=>(bI 0 (show(["q","left"]:List Str).Nodup from by decide+kernel))) (λ_ _ _=>(jf (aK se (aa 0) (aa 1) (by with_unfolding_all rfl)))) (λ_ _ _=>(aa 0))) ag)) (ae (aa 0) ag)))))
   (af (aS true 5 j (aE (aH (JS rfl S) rfl T.B.min GC (ae (aa 4) ag)) au))
   (af (fu false 3 (aa 5))
   (ao (Nv 2 (aa 5)))))))
   (ao (aJ (aa 3))))))),?_⟩
 obtain⟨d,rfl,g,l1,l14,U,q⟩:=h;refine⟨_,rfl,d,rfl,d,rfl,by omega,trivial,?_⟩
 refine⟨_,rfl,d,rfl,d,rfl,_,rfl,_,_,rfl,⟨by decide,by decide,by omega,by omega,by omega⟩,?_⟩
 rw[show((d.length:Int)-0).toNat=d.length by omega,sv]
 refine⟨by show 0<=sizeLine;decide,?_⟩
 refine kE (λm ρ=>∃(L M:List Nat)(G J:Option D),ρ= [some (.eM d),some (aU d),some (ay L),some (ay M),G,J]/\L.length=m/\xj d L M) d.length ⟨List.range d.length,[],_,_,rfl,fG,xj.zero d⟩ ?_;rintro m _ ⟨L,M,G,J,rfl,lm,I⟩;have o:∀x∈L,x<d.length:=λx k=>(I.all x).mpr (.inl k);have X:∀x∈M,x<d.length:=λx k=>(I.all x).mpr (.inr k)
 have sz:∀{l:List Nat},l.Nodup->(∀x∈l,x<d.length)->l.length<=14:=λ {l} j h=>by
  have:=az (m:=List.range d.length) j λx k=>bT.mpr (h x k)
  rw[fG] at this;omega
 have lL:=sz I.nk o;have lM:=sz I.nm X;have GV:∀x,(row d x).length<=14:=λx=>by have:=dO g x;omega
 cases L with
 |nil=>
  refine⟨_,rfl,rfl,cj ?_⟩;exact⟨_,rfl,q M ⟨I.nm,λx=>by rw[I.all x];simp,λA x B e=>by have:=I.few A x B e;rwa [m8] at this⟩⟩
 |cons a L=>
  refine⟨_,rfl,rfl,eY ?_⟩;generalize t:a::L=K at*
  have f5:∃p∈K,((row d p).filter λq=>decide (q∈K)).length<=5:=by
   by_cases n2:2<=d.length
   ·obtain⟨c,F,e⟩:=U n2
    exact Xa g F e I.nk (by rw[<-t];simp) o
   ·exact⟨a,by rw[<-t];simp,by have:=B5 (λq=>decide (q∈K)) (row d a);have:=dO g a;omega⟩
  refine⟨_,rfl,kR (λρ=>∃N,ρ= [N,some (aU d),some (ay K)]) aq (λ_=>true) (λp=>tupI [(((row d p).filter λq=>decide (q∈K)).length:Int),(p:Int)]) K _ [] _ (λp i O hI Y Nn hY hN=>?_) ⟨none,rfl⟩ ?_ λO _=>?_⟩
  ·obtain⟨N,rfl⟩:=hI
   refine⟨_,rfl,_,rfl,_,fD (o p i),?_⟩;have rp:=GV p;refine jg (ρ:= [none,some (ay K)]) aq (λq=>decide (q∈K)) aq (row d p) _ [] _ (λy hy Y Nn t1 t2=>?_) ⟨none,rfl⟩ (small (by rw[jq];omega)) λO=>?_
   ·refine⟨_,rfl,_,rfl,rfl,cP _,_,rfl,?_⟩
    rw[mo cw,ia];exact bg (λe=>⟨_,rfl,t1 e⟩) (λe=>t2 e)
   ·refine⟨_,rfl,by show 2<=sizeLine;decide,?_⟩
    have u:(D.tup [.int ((([]++((row d p).filter λq=>decide (q∈K)).map aq:List D)).length:Int), .int (p:Int)])=tupI [(((row d p).filter λq=>decide (q∈K)).length:Int),(p:Int)]:=by rw[qu,aD];rfl
    refine(?_:Y _ (D.tup [.int ((([]++((row d p).filter λq=>decide (q∈K)).map aq:List D)).length:Int), .int (p:Int)]));rw[u];exact hY _ ⟨_,rfl⟩ rfl
  ·exact small (by rw[jq];omega)
  ·rw[List.filter_eq_self.mpr (λ_ _=>rfl),qu]
   have nl:=Ar (λp:Nat=>(((row d p).filter λq=>decide (q∈K)).length:Int)) K;refine⟨nl,_,rfl,K.map (λp=> [(((row d p).filter λq=>decide (q∈K)).length:Int),(p:Int)]),by rw[bU];rfl,by rw[<-t];simp,λv hm mn=>?_⟩
   obtain⟨p,i,rfl⟩:=aZ.mp hm;refine⟨.int (p:Int),rfl,rfl,?_⟩;have pK:=o p i
   have p5:((row d p).filter λq=>decide (q∈K)).length<=5:=by
    obtain⟨p0,h0,h5⟩:=f5
    have:=Lh (mn _ (aZ.mpr ⟨p0,h0,rfl⟩))
    omega
   have kp:0<K.length:=qp i;have n:=fC i;have el:(K.eraseIdx (K.idxOf p)).length+1=K.length:=by rw[B6,tz n.2];omega
   refine⟨_,rfl,_,rfl,trivial,cq (by rw[aD];omega),?_⟩
   have ix:=fw i;refine⟨K.map λ(x:Nat)=>(x:Int),by unfold ay;rw[bU];rfl,_,rfl,(p:Int),K.idxOf p,rfl,?_,?_,?_⟩
   ·have n:=fC i
    rw[bQ,bJ n.2];have e:=n.1;rw[bB,bJ n.2] at e;exact FS (λx:Nat=>some (x:Int)) e
   ·intro v C z
    rw[bQ] at z;cases e:K[v]? with
    |none=>rw[e] at z;cases z
    |some x=>
     rw[e] at z
     have:(x:Int)=(p:Int):=Da z
     exact wW K v C (by rw[e];congr 1;omega)
   ·refine⟨m-1,by omega,K.eraseIdx (K.idxOf p),M++ [p],some (.lst (K.map λp=>tupI [(((row d p).filter λq=>decide (q∈K)).length:Int),(p:Int)])),some (.int (p:Int)),?_,by omega,I.step i p5 (I.nk.eraseIdx _) λx=>?_⟩
    ·have u:D.lst (((K.map λ(x:Nat)=>(x:Int)).eraseIdx (K.idxOf p)).map D.int)=ay (K.eraseIdx (K.idxOf p)):=by unfold ay;rw[xO,bU];rfl
     have e2:ay (M++ [p])= .lst (M.map aq++ [aq p]):=by unfold ay;rw[cJ];rfl
     rw[<-u,e2];rfl
    ·rw[<-List.erase_eq_eraseIdx_of_idxOf rfl,I.nk.mem_erase_iff];exact And.comm
def O5:cg:=λa P=>∃(w:W),a= [.eM w]/\Good w/\1<=w.length/\w.length<=14/\fP w<64/\(2<=w.length->iM w)/\∀(f:List (Option Int))(b c:D),f.length=w.length->Pr w f->Dy 5 f->(∀q,q<w.length->∃d,f.getD q none=some d)->P (.tup [bo f,b,c])
theorem zA:FnOk P w Z.K mg base b9 8 T.d_five_dyes.f T.d_five_dyes.fd ["web"] (aV Z O5):=by
 have a:=qY.nd;refine aY T.d_five_dyes.F qY [0,0,0,1,0,0] (by decide) (λS R h=>by obtain⟨_,rfl,_⟩:=h;rfl) (λbF A outer s H E S R k h=>?_)
 have hu:=k.units
 refine⟨_,(af (tx (aA T.d_need_plane (km T) k (ae (aa 0) ag)))
   (af (aS false 1 a (aA T.d_order_of_five (kX T) k (ae (aa 0) ag)))
   (af (qB 2 (NC:= ["p"]) (src:= [none]) rfl a (lK (aw jT)) trivial (bc (aa 1)) (λ_ _ _=>(bI 0 (show(["p"]:List Str).Nodup from by decide+kernel))) (λ_ _ _=>dM) (λ_ _ _=>cX))
   (af (cA 3 a (eN ag))
   (af (cC rfl FB (Bc rfl T.B.reversed (ae (aa 1) ag)) (aM 4 a) (af (wJ (aA T.d_dye_given (zy T) k (ae (aa 0) (ae (aa 2) (ae (aa 4) (ae au ag))))) (hU 2 rfl (bG (aM 2 a) (bG (aM 5 a) eX))))
   (ao (GL 3 (aa 5)))))
   (gQ 3
   (ao (aJ (cz (ae (aa 2) (ae (aa 1) (ae (aa 3) ag)))))))))))),?_⟩
 obtain⟨b,rfl,g,n,l14,N,o,q⟩:=h;refine⟨_,rfl,b,rfl,g,n,l14,N,o,?_⟩;refine⟨_,rfl,b,rfl,g,n,l14,o,λL O=>⟨trivial,?_⟩⟩;obtain⟨Q,r,few⟩:=O
 have U:L.length=b.length:=by
  have:=(qm Q rE (l₂:=List.range b.length)).mpr λx=>by rw[<-r x,bT]
  rw[this.length_eq,fG]
 refine⟨_,rfl,?_⟩;refine ib (ρ:= [none]) aq (λ_=>oD none) L _ (λx c Y X=>X) rfl (small (by omega)) λaR=>?_
 refine⟨trivial,?_⟩;refine⟨by show 0<=sizeLine;decide,?_⟩
 refine⟨_,rfl,?_⟩;have er:(L.map aq).reverse=L.reverse.map aq:=by rw[vf]
 refine(?_:ke _ _ _ (L.map aq).reverse _);rw[er];refine bO (λj ρ=>∃(f:List (Option Int))(e:List D)(t u:Option D),ρ= [some (.eM b),some (ay L),some (bo f),some (.lst e),t,u]/\f.length=b.length/\Pr b f/\Dy 5 f/\(∀q,f.getD q none=none↔q∉L.reverse.take j)/\e.length<=2*j) ⟨L.map λ_=>none,[],none,none,?_,by rw[aD,U],λx y d _ c=>?_,λx d c=>?_,λx=>?_,dS _⟩ ?_ ?_
 ·rw[show bo (L.map λ_=>none)= .lst (L.map λ_=>oD none) by unfold bo;rw[bU];rfl];rfl
 ·exact absurd c (by rw[bB,bQ];cases L[x]? <;>simp)
 ·exact absurd c (by rw[bB,bQ];cases L[x]? <;>simp)
 ·refine⟨λ_ h=>(by cases h),λ_=>?_⟩
  rw[bB,bQ];cases L[x]? <;>rfl
 ·rintro j _ _ v ⟨f,e,t,u,rfl,m,C,I,i,ll⟩ A hA
  obtain⟨p,J,rfl⟩:=b8 v
  have jl:j<L.length:=by
   have:=(di.mp J).1
   rwa [vX] at this
  have pm:p∈L:=lH.mp (dA J);have M:L.reverse.take (j+1)=L.reverse.take j++ [p]:=by rw[rF,J];rfl
  have eL:L=(L.reverse.drop (j+1)).reverse++p::(L.reverse.take j).reverse:=by
   have:L.reverse=L.reverse.take j++p::L.reverse.drop (j+1):=by
    rw[<-List.singleton_append,<-iJ,<-M,jK]
   have:=FS List.reverse this
   rw[B7] at this
   conv=>lhs;rw[this]
   simp
  have f5:=few _ _ _ eL
  have np:p∉L.reverse.take j:=λz=>by
   have a:=(acP L).nodup_iff.mpr Q;rw[<-jK (j+1) L.reverse,M] at a
   have:=(dB.mp a).1
   exact(dB.mp this).2.2 p z p (by simp) rfl
  have a5:(dZ b f p).length<=5:=by
   refine jr ?_ f5;unfold dZ;rw[<-AM,<-AM];refine ac4 λx _ c=>GE (lH.mpr (Do λz=>?_));rw[(i x).mpr z] at c;simp at c
  refine⟨_,rfl,_,rfl,_,rfl,b,f,p,rfl,g,n,l14,N,o,(r p).mpr pm,m,C,I,(i p).mpr np,a5,λf' l G hl=>?_⟩;refine⟨rfl,rfl,?_⟩;refine⟨_,rfl,_,rfl,_,rfl,jr (by show _<=1000;omega) (by decide),hA _ ⟨f',e++l,_,_,rfl,by rw[G.len,m],G.pr,G.dy,λx=>?_,by rw[bZ];omega⟩⟩
  rw[M,bR,cF]
  by_cases z:x=p
  ·subst z
   obtain⟨d,v⟩:=G.at_;rw[v];simp
  ·rw[G.out x z,i x];simp[z]
 ·rintro _ ⟨f,e,t,u,rfl,m,C,I,i,ll⟩
  refine⟨⟨_,rfl⟩,_,rfl,_,rfl,_,rfl,by show 3<=sizeLine;decide,q f _ _ m C I λx c=>?_⟩
  cases h:f.getD x none with
  |some d=>exact⟨d,rfl⟩
  |none=>
   refine absurd ?_ ((i x).mp h);rw[aD,rD];exact lH.mpr ((r x).mp c)
variable {P:Program} {w:World} {mg:Str->Option Value} {base:Heap} {Z:DC} (T:Txt Z mg)
def Js:cg:=λc P=>∃(w:W)(b a:List Int),c= [aU w, .lst (av b), .lst (av a), .bl false]/\Good w/\w.length<=14/\b.length=w.length/\a.length<=100/\∀f:List (Option Int),f.length=w.length->Pr w f->(∀p d,f.getD p none=some d->d∈a)->P (bo f)
theorem mO:FnOk P w Z.K mg base b9 1 T.d__law_dyeing.f T.d__law_dyeing.fd ["_law_turns","_law_draws_here","_law_dyes_here","_law_none"] (fY Z 1 Js):=by
 have r:=ou.nd;refine iS 1 T.d__law_dyeing.F ou [0,0,0,0,1,0,1,1] (by decide) (λds R h=>by obtain⟨_,_,_,rfl,_⟩:=h;rfl) (λbF A outer s H E ds R hr h=>?_)
 have hu:=hr.units
 refine⟨_,(af (cA 4 r (Nr (ae cX ag) (aH bz rfl T.B.len bx (ae (aa 0) ag))))
   (af (hJ rfl FB (fq rfl T.B.range (ae (aH bz rfl T.B.len bx (ae (aa 0) ag)) ag)) (aM 5 r) (af (CO 6 r (ET (NC:= ["_law_q","_law_found"]) (src:= [none,some 4]) rfl (lK (aw f7)) ⟨rfl,rfl,trivial⟩ (bc (aE (aa 0) (aa 5))) (λ_ _ _=>(bI 0 (show(["_law_q","_law_found"]:List Str).Nodup from by decide+kernel))) (λ_ _ _=>dM) (λ_ _ _=>(aE (aa 1) (aa 0)))))
   (af (xK 7 (NC:= ["_law_dye","_law_taken"]) (src:= [none,some 6]) rfl r (lK (aw f7)) ⟨rfl,rfl,trivial⟩ (bc (aa 2)) (λ_ _ _=>(bI 0 (show(["_law_dye","_law_taken"]:List Str).Nodup from by decide+kernel))) (λ_ _ _=>(jf (aK iV (aa 0) (aa 1) (by with_unfolding_all rfl)))) (λ_ _ _=>(aa 0)))
   (af (bq (DW.dt (nF (eO (aa 3)) (qC (aK (fL hu) (aa 7) (cL ag) (aW _))))) (ao (Kb 7 r (cL (ae cX ag)))) aL)
   (ao (fH true 4 (aa 5) (aE (aa 7) (aF cB (aE (aa 1) (aa 5)) (aH bz rfl T.B.len bx (ae (aa 7) ag))))))))))
   (ao (tB 4)))),?_⟩
 obtain⟨k,l,b,rfl,g,dW,xl,dl,q⟩:=h;have lw:(k.map ay).length=k.length:=aD _
 have rp:(List.replicate k.length [D.bA]).flatten=(List.replicate k.length (none:Option Int)).map oD:=by
  rw[List.map_replicate];generalize k.length=n
  induction n with
  |zero=>rfl
  |succ n ih=>rw[vW,iI,ih];rfl
 refine⟨by show 1<=sizeLine;decide,_,rfl,by omega,by omega,by show 1*_<=sizeLine;exact small (by omega),?_⟩
 refine⟨_,rfl,⟨by omega,by show((k.map ay).length:Int)<2^62;omega⟩,?_⟩
 rw[show(((k.map ay).length:Int)).toNat=k.length by omega]
 have Al:(av l).length=l.length:=by unfold av;simp
 refine gj (λj ρ=>∃(f:List (Option Int))(C G I:Option D),ρ= [some (aU k),some (.lst (av l)),some (.lst (av b)),some (.bl false),some (bo f),C,G,I]/\f.length=k.length/\Pr k f/\∀p d,f.getD p none=some d->d∈b)
  ⟨List.replicate k.length none,none,none,none,?_,zd,λp q d _ h=>?_,λp d h=>?_⟩ ?_ ?_
 ·rw[rp];rfl
 ·rw[bB,vS] at h
  split at h<;>cases h
 ·rw[bB,vS] at h
  split at h<;>cases h
 ·rintro j _ Q ⟨f,C,G,I,rfl,v,J,t⟩ A hA
  have rl:=dO g j;refine⟨_,rfl,_,rfl,_,fD Q,?_⟩;refine ib (ρ:= [none,some (bo f)]) aq (λx=>oD (f.getD x none)) (row k j) _ (λx m Y L=>⟨_,rfl,_,rfl,_,iw (by have:=g.rng _ _ m;omega),L⟩) rfl (small (by omega)) λS=>?_
  have e1:((row k j).map λx=>oD (f.getD x none))=((row k j).map λx=>f.getD x none).map oD:=by rw[bU];rfl
  rw[e1];have U:∀c:Option Int,c∈((row k j).map λx=>f.getD x none)↔∃x∈row k j,f.getD x none=c:=λc=>aZ;generalize ((row k j).map λx=>f.getD x none)=a at U;refine⟨ko _,?_⟩;refine⟨_,rfl,?_⟩;refine kR (λρ=>∃o,ρ= [o,some (bo a)]) D.int (λd=>!decide (some d∈a)) D.int b _ [] _ (λx m S X Y Nn L hN=>?_) ⟨none,rfl⟩ (by rw[jq,rG];exact small (by omega)) λS X=>?_
  ·obtain⟨o,rfl⟩:=X
   refine⟨_,rfl,_,rfl,rfl,ko _,_,rfl,?_⟩;have e:inD (.int x) (a.map oD)=decide (some x∈a):=wQ (some x) a;rw[tz rfl,e];exact bg (λh=>⟨_,rfl,L _ ⟨_,rfl⟩ h⟩) λh=>hN _ ⟨_,rfl⟩ h
  rw[qu]
  have fm:∀d∈b.filter (λd=>!decide (some d∈a)),d∈b/\some d∉a:=λd h=>by
   obtain⟨h1,h2⟩:=fO.mp h;exact⟨h1,by simpa using h2⟩
  have fz:(b.filter (λd=>!decide (some d∈a))).length<=b.length:=B5 ..;have e2:(b.filter (λd=>!decide (some d∈a))).map D.int=((b.filter (λd=>!decide (some d∈a))).map some).map oD:=by rw[bU];rfl
  have u:∀x:Option Int,x∈(b.filter (λd=>!decide (some d∈a))).map some++ [none]->∀d,x=some d->d∈b/\some d∉a:=λx m d t=>by
   subst t
   rcases bR.mp m with h|h
   ·obtain⟨y,hy,e⟩:=aZ.mp h
    cases e;exact fm d hy
   ·rw[cF] at h;cases h
  have e4:((b.filter (λd=>!decide (some d∈a))).map some++ [none]).length=(b.filter (λd=>!decide (some d∈a))).length+1:=by simp
  rw[e2];refine⟨ko _,?_⟩;have e6:∀x:Option Int,x∈(b.filter (λd=>!decide (some d∈a))).map some->∀d,x=some d->d∈b/\some d∉a:=λx m=>u x (fk _ m);have e5:(((b.filter (λd=>!decide (some d∈a))).map some).map oD)++ [D.bA]=((b.filter (λd=>!decide (some d∈a))).map some++ [none]).map oD:=by rw[cJ];rfl
  have e7:((b.filter (λd=>!decide (some d∈a))).map some).length<=100:=by rw[aD];omega
  dsimp only;refine wG [some (aU k),some (.lst (av l)),some (.lst (av b)),some (.bl false),some (bo f),some (aq j),some (bo a),some (bo ((b.filter (λd=>!decide (some d∈a))).map some))] rfl ?_;generalize (b.filter (λd=>!decide (some d∈a))).map some=M at u e4 e5 e6 e7;refine wZ (λρ=>∃fr:List (Option Int),ρ= [some (aU k),some (.lst (av l)),some (.lst (av b)),some (.bl false),some (bo f),some (aq j),some (bo a),some (bo fr)]/\0<fr.length/\fr.length<=101/\∀x∈fr,∀d,x=some d->d∈b/\some d∉a) (λE' hE=>?_) ?_
  ·refine⟨_,rfl,rfl,cj ⟨_,rfl,by show 0<=sizeLine;decide,?_⟩⟩
   refine(?_:sU (bo M) (bo []) _);refine zQ ⟨_,rfl,bg (λe=>?_) (λe=>?_)⟩
   ·have e:=GT e
    subst e;refine⟨_,rfl,by show 1<=sizeLine;decide,_,rfl,by show 0+1<=sizeLine;decide,?_⟩
    exact hE _ ⟨[none],rfl,by decide,by decide,λx m=>u x m⟩
   ·have e:M≠ []:=GM e
    exact hE _ ⟨M,rfl,vY.mpr e,by omega,e6⟩
  rintro _ ⟨fr,rfl,f1,ab8,u⟩;have lf:(fr.map oD).length=fr.length:=aD _;have mq:=kh (l.getD j 0) ((fr.map oD).length:Int) (by omega)
  obtain⟨i,hi⟩:∃i:Nat,l.getD j 0%((fr.map oD).length:Int)=(i:Int):=⟨(l.getD j 0%((fr.map oD).length:Int)).toNat,by omega⟩
  have N:i<fr.length:=by omega
  have ai:fJ (fr.map oD) (l.getD j 0%((fr.map oD).length:Int))=some (oD (fr.getD i none)):=by rw[hi];exact iw N
  refine⟨_,rfl,_,rfl,_,rfl,_,dN (by omega),_,rfl,(by show(0:Int)<((fr.map oD).length:Int);omega),_,ai,Oi _,_,rfl,_,rfl,_,j,rfl,by rw[aD,v];exact nH Q,?_⟩
  have gm:fr.getD i none∈fr:=by
   rw[bB,bJ N];exact g5 N
  have O:=u _ gm;generalize fr.getD i none=c at O;refine hA _ ⟨f.set j c,some (aq j),some (bo a),some (bo fr),?_,by rw[f9,v],J.set g (by omega) λd hc q hq z=>?_,λp d h=>?_⟩
  ·have:bo (f.set j c)= .lst ((f.map oD).set j (oD c)):=by unfold bo;rw[um]
   rw[this];rfl
  ·exact(O d hc).2 ((U _).mpr ⟨q,hq,z⟩)
  ·rw[iT (by omega)] at h
   split at h
   ·exact(O d h).1
   ·exact t p d h
 ·rintro _ ⟨f,C,G,I,rfl,v,J,t⟩
  exact⟨_,rfl,q f v J t⟩
variable {P:Program} {w:World} {mg:Str->Option Value} {base:Heap} {Z:DC} (T:Txt Z mg)
def uy(w:W)(c:List Int):Prop:=∀p q,q∈row w p->c.getD p 0≠c.getD q 0
theorem yE{f:List (Option Int)}(h:∀q,q<f.length->∃d,f.getD q none=some d):∃c:List Int,f=c.map some:=by
 refine⟨f.map λo=>o.getD 0,rA λi=>?_⟩;rw[bQ,bQ]
 by_cases b:i<f.length
 ·obtain⟨d,a⟩:=h i b
  rw[bB,bJ b] at a;rw[bJ b];have a:f[i]=some d:=a;rw[a];rfl
 ·rw[fj (by omega)];rfl
theorem getD_some{c:List Int}{p:Nat}(h:p<c.length):(c.map some).getD p none=some (c.getD p 0):=by
 rw[bB,bQ,bB,bJ h];rfl
theorem gT(c:List Int):bo (c.map some)= .lst (av c):=by unfold bo av;rw[bU];rfl
theorem Pr.my{w:W}(g:Good w)(h:Pr w (c.map some))(b:c.length=w.length):uy w c:=λp q a e=>by
 have d:=bD a;have f:=g.rng _ _ a;exact h p q (c.getD p 0) a (getD_some (by omega)) (by rw[getD_some (by omega),e])
def Pa:cg:=λa P=>∃(w:W)(f:List (Option Int)),a= [aU w,bo f]/\Good w/\1<=w.length/\w.length<=10/\(2<=w.length->iM w)/\f.length=w.length/\Pr w f/\∀c:List Int,c.length=w.length->uy w c->(∀x∈c,(0<=x/\x<5)\/some x∈f)->P (.lst (av c))
theorem qQ:FnOk P w Z.K mg base b9 9 T.d__law_sure.f T.d__law_sure.fd ["_law_turns","_law_dyeing_here"] (aV Z Pa):=by
 have I:=qV.nd;refine aY T.d__law_sure.F qV [0,0] (by decide) (λv R h=>by obtain⟨_,_,rfl,_⟩:=h;rfl) (λJ A outer s H E v R a h=>?_)
 have L:=a.units
 refine⟨_,(af (bq (aK se cX (aa 1) (by with_unfolding_all rfl)) (ao (aJ (fo mE rfl T.B.list eo (ae (aE (aA T.d_five_dyes (zA T) a (ae (CK T.mkW (mQ T) (a.mono (by decide)) rfl T.mC T.m___init__b (ae (aa 0) ag)) ag)) au) ag)))) aL)
   (ao (aJ (aa 1)))),?_⟩
 obtain⟨p,f,rfl,g,r,l10,t,j,y,q⟩:=h;refine⟨_,rfl,rfl,ko _,_,rfl,?_⟩;rw[mo cw,show inD .bA (f.map oD)=decide (none∈f) from wQ none f];refine bg (λe=>?_) (λe=>?_)
 ·refine⟨_,rfl,p,rfl,g,r,by omega,p,rfl,g,r,by omega,CM g (by omega) t,t,λz b c k l m C=>?_⟩
  obtain⟨G,rfl⟩:=yE (f:=z) λq n=>C q (by omega)
  rw[aD] at k;refine⟨_,rfl,?_⟩;rw[gT];refine q G k (l.my g k) λx o=> .inl ?_;obtain⟨i,u,rfl⟩:=B9 o;refine m i _ ?_;rw[getD_some u,bB,bJ u];rfl
 ·have e:none∉f:=GM e
  obtain⟨c,rfl⟩:=yE (f:=f) λq n=>by
   cases h:f.getD q none with
   |some d=>exact⟨d,rfl⟩
   |none=>
    refine absurd ?_ e;rw[bB,bJ n] at h;exact h▸g5 n
  rw[aD] at j;refine⟨_,rfl,?_⟩;rw[gT];exact q c j (y.my g j) λx o=> .inr (aZ.mpr ⟨x,o,rfl⟩)
def O4:cg:=λb P=>∃(m:Int),b= [.int m]/\((7<=m/\m<=12)\/(24<=m/\m<=63))/\∀a:List Int,a≠ []->a.length<=12->(∀x∈a,0<=x/\x<m)->(∀x,0<=x->x<5->x∈a)->P (.lst (av a))
theorem zw:FnOk P w Z.K mg base b9 1 T.d__law_dyes.f T.d__law_dyes.fd ["_law_many"] (aV Z O4):=by
 have l:=qT.nd;refine aY T.d__law_dyes.F qT [0] (by decide) (λc R h=>by obtain⟨_,rfl,_⟩:=h;rfl) (λn A outer s H E c R d h=>?_)
 have o:=d.units
 refine⟨_,(af (bq (aK nJ (aa 0) au (aW _)) (ao (aJ (fo (HH rfl) rfl T.B.list eo (ae (fo CA rfl T.B.range zK (ae (aa 0) ag)) ag)))) aL)
   (ao (aJ (cL (ae au (ae au (ae au (ae au (ae au (ae au (ae au (ae (aF iq (aa 0) au) (ae (aF bP (aF iq (aa 0) au) au) (ae (aF wX (aa 0) au) (ae (aF wX (aa 0) au) (ae (aF wX (aa 0) au) ag)))))))))))))))),?_⟩
 obtain⟨m,rfl,p,q⟩:=h;refine⟨_,rfl,_,rfl,bg (λe=>?_) (λe=>?_)⟩
 ·have e:m<13:=GT e
  refine⟨_,rfl,m,rfl,0,m,rfl,⟨by decide,by decide,by omega,by omega,by omega⟩,?_⟩
  rw[sv,show((List.range (m-0).toNat).map aq)=av ((List.range (m-0).toNat).map λ(k:Nat)=>(k:Int)) by unfold av;rw[bU];rfl]
  have b:∀x:Int,x∈(List.range (m-0).toNat).map (λ(k:Nat)=>(k:Int))↔0<=x/\x<m:=λx=>by
   rw[aZ];refine⟨λ⟨k,g,e⟩=>?_,λh=>⟨x.toNat,bT.mpr (by omega),by omega⟩⟩
   have:=bT.mp g;omega
  exact q _ (List.ne_nil_of_mem ((b 0).mpr (by omega))) (by rw[aD,fG];omega) (λx a=>(b x).mp a) λx i j=>(b x).mpr (by omega)
 ·have e:¬m<13:=GM e
  refine⟨_,rfl,⟨by decide,by decide⟩,_,rfl,⟨by decide,by decide⟩,_,rfl,_,rfl,_,rfl,by show 12<=sizeLine;decide,?_⟩
  exact q [0,1,2,3,4,5,6,m / 2,m / 2+1,m-3,m-2,m-1] (by simp) (by simp) (λx a=>by
   simp only[br,adP,or_false] at a
   rcases a with z|z|z|z|z|z|z|z|z|z|z|z<;>(subst z;omega)) λx i j=>by
   have:x=0\/x=1\/x=2\/x=3\/x=4:=by omega
   rcases this with z|z|z|z|z<;>(subst z;simp)
theorem uy.set{w:W}(g:Good w)(h:uy w c)(b:j<c.length){x:Int}(d:∀q∈row w j,c.getD q 0≠x):uy w (c.set j x):=λp q a e=>by
 rw[bK b,bK b] at e
 by_cases f:p=j
 ·subst f
  rw[tz rfl,mo (λz=>g.irr p (by rw[z] at a;exact a))] at e
  exact d q a e.symm
 ·rw[mo f] at e
  by_cases i:q=j
  ·subst i
   rw[tz rfl] at e;exact d p (g.sym _ _ a) e
  ·rw[mo i] at e
   exact h p q a e
def F8:cg:=λe P=>∃(w:W)(c d a:List Int),e= [aU w, .lst (av c), .lst (av d), .lst (av a)]/\Good w/\w.length<=14/\c.length=w.length/\d.length=w.length/\a.length<=100/\uy w c/\(∀x∈c,x∈a)/\∀b:List Int,b.length=w.length->uy w b->(∀x∈b,x∈a)->P (.lst (av b))
theorem uR:FnOk P w Z.K mg base b9 1 T.d__law_changed.f T.d__law_changed.fd ["_law_turns","_law_dyeing_here","_law_draws_here","_law_dyes_here"] (aV Z F8):=by
 have u:=mV.nd;refine aY T.d__law_changed.F mV [0,0,0,0,1,0,1,1] (by decide) (λX R h=>by obtain⟨_,_,_,_,rfl,_⟩:=h;rfl) (λbF A outer s H E X R hr h=>?_)
 have hu:=hr.units
 refine⟨_,(af (cA 4 u (pk rfl rfl T.B.list eo (aa 1)))
   (af (hJ rfl FB (fq rfl T.B.range (ae (aH bz rfl T.B.len bx (ae (aa 0) ag)) ag)) (aM 5 u) (af (CO 6 u (ET (NC:= ["_law_q","_law_found"]) (src:= [none,some 4]) rfl (lK (aw fF)) ⟨rfl,rfl,trivial⟩ (bc (aE (aa 0) (aa 5))) (λ_ _ _=>(bI 0 (show(["_law_q","_law_found"]:List Str).Nodup from by decide+kernel))) (λ_ _ _=>dM) (λ_ _ _=>(aE (aa 1) (aa 0)))))
   (af (xK 7 (NC:= ["_law_dye","_law_taken"]) (src:= [none,some 6]) rfl u (lK (aw fF)) ⟨rfl,rfl,trivial⟩ (bc (aa 3)) (λ_ _ _=>(bI 0 (show(["_law_dye","_law_taken"]:List Str).Nodup from by decide+kernel))) (λ_ _ _=>(jf (aK iV (aa 0) (aa 1) (by with_unfolding_all rfl)))) (λ_ _ _=>(aa 0)))
   (ao (bq (aK (fL hu) (aF cB (aF iq (aE (aa 2) (aa 5)) au) au) au (aW _)) (ao (fH true 4 (aa 5) (aE (aa 7) (aF cB (aE (aa 2) (aa 5)) (aH bz rfl T.B.len bx (ae (aa 7) ag)))))) aL)))))
   (gQ 4
   (ao (aJ (aa 4)))))),?_⟩
 obtain⟨b,c,n,l,rfl,g,l14,cl,xl,dl,pr,cm,q⟩:=h;have lw:(b.map ay).length=b.length:=aD _;refine⟨_,rfl,?_⟩;refine⟨_,rfl,⟨by omega,by show((b.map ay).length:Int)<2^62;omega⟩,?_⟩
 rw[show(((b.map ay).length:Int)).toNat=b.length by omega]
 refine gj (λj ρ=>∃(d:List Int)(v y C:Option D),ρ= [some (aU b),some (.lst (av c)),some (.lst (av n)),some (.lst (av l)),some (.lst (av d)),v,y,C]/\d.length=b.length/\uy b d/\∀x∈d,x∈l) ⟨c,_,_,_,rfl,cl,pr,cm⟩ ?_ ?_
 ·rintro j _ N ⟨d,v,y,C,rfl,p,r,t⟩ A O
  have rl:=dO g j;refine⟨_,rfl,_,rfl,_,fD N,?_⟩;refine ib (ρ:= [none,some (.lst (av d))]) aq (λx=> .int (d.getD x 0)) (row b j) _ (λx m Y G=>⟨_,rfl,_,rfl,_,dN (by have:=g.rng _ _ m;omega),G⟩) rfl (small (by omega)) λQ=>?_
  have e1:((row b j).map λx=>D.int (d.getD x 0))=av ((row b j).map λx=>d.getD x 0):=by unfold av;rw[bU];rfl
  rw[e1];have I:∀c:Int,c∈((row b j).map λx=>d.getD x 0)↔∃x∈row b j,d.getD x 0=c:=λc=>aZ;generalize ((row b j).map λx=>d.getD x 0)=k at I;refine⟨kQ _,?_⟩;refine⟨_,rfl,?_⟩;refine kR (λρ=>∃o,ρ= [o,some (.lst (av k))]) D.int (λd=>!decide (d∈k)) D.int l _ [] _ (λx m Q S Y Nn G hN=>?_) ⟨none,rfl⟩ (by rw[jq,rG];exact small (by omega)) λQ S=>?_
  ·obtain⟨o,rfl⟩:=S
   refine⟨_,rfl,_,rfl,rfl,kQ _,_,rfl,?_⟩;rw[tz rfl,xY];exact bg (λh=>⟨_,rfl,G _ ⟨_,rfl⟩ h⟩) λh=>hN _ ⟨_,rfl⟩ h
  rw[qu]
  have U:∀d∈l.filter (λd=>!decide (d∈k)),d∈l/\d∉k:=λd h=>by
   obtain⟨h1,h2⟩:=fO.mp h;exact⟨h1,by simpa using h2⟩
  have J:d.getD j 0∈d:=by
   rw[bB,bJ (by omega:j<d.length)];exact g5 _
  have f0:0<(l.filter (λd=>!decide (d∈k))).length:=qp (a:=d.getD j 0) (fO.mpr ⟨t _ J,by
   have:d.getD j 0∉k:=λz=>by
    obtain⟨x,m,e⟩:=(I _).mp z;exact r j x m e.symm
   rw[FM this];rfl⟩)
  have e2:(.lst ((l.filter (λd=>!decide (d∈k))).map D.int):D)= .lst (av (l.filter (λd=>!decide (d∈k)))):=rfl;refine⟨kQ _,?_⟩;rw[e2];generalize l.filter (λd=>!decide (d∈k))=fr at U f0;have lf:(av fr).length=fr.length:=by unfold av;rw[aD]
  refine⟨_,rfl,_,rfl,_,dN (by omega),⟨by decide,by decide⟩,(by show(0:Int)<3;decide),Ia ⟨_,rfl,bg (λe=>?_) (λe=>O _ ⟨d,_,_,_,rfl,p,r,t⟩)⟩⟩
  have mq:=kh (n.getD j 0) ((av fr).length:Int) (by omega)
  obtain⟨i,hi⟩:∃i:Nat,n.getD j 0%((av fr).length:Int)=(i:Int):=⟨(n.getD j 0%((av fr).length:Int)).toNat,by omega⟩
  have L:i<fr.length:=by omega
  have ai:fJ (av fr) (n.getD j 0%((av fr).length:Int))=some (.int (fr.getD i 0)):=by rw[hi];exact dN L
  have gm:fr.getD i 0∈fr:=by
   rw[bB,bJ L];exact g5 L
  refine⟨_,rfl,_,rfl,_,rfl,_,dN (by omega),_,rfl,(by show(0:Int)<((av fr).length:Int);omega),_,ai,rfl,_,rfl,_,rfl,_,j,rfl,by unfold av;rw[aD,p];exact nH N,?_⟩
  have M:=U _ gm;generalize fr.getD i 0=z at M;refine O _ ⟨d.set j z,some (aq j),some (.lst (av k)),some (.lst (av fr)),?_,by rw[f9,p],r.set g (by omega) λq hq e=>M.2 ((I _).mpr ⟨q,hq,e⟩),λx m=>?_⟩
  ·have:D.lst (av (d.set j z))= .lst ((av d).set j (.int z)):=by unfold av;rw[um]
   rw[this];rfl
  ·rcases List.mem_or_eq_of_mem_set m with h|h
   ·exact t x h
   ·rw[h];exact M.1
 ·rintro _ ⟨d,v,y,C,rfl,p,r,t⟩
  exact⟨⟨_,rfl⟩,_,rfl,q d p r t⟩
end xg
namespace L2
open PySem PySem.Spec PyProof.Rows
theorem CP(i:Nat)(f:X.N.Nodup)(g:DF Z X 1 e t)(j:c.getD i 0=1:=by rfl)(k:X.N[i]? =some x:=by rfl)(l:Loc X.env.scope x:=by first|exact Or.inl rfl|exact Or.inr rfl)(m:swapsWith e (some (.Name x a)) b.line X.env=pure false:=by rfl)
  (n:X.fn x=true\/X.env.scope.names.lookup x=some .local:=by first|exact .inl rfl|exact .inr rfl|assumption):DSt Z X c d (.Assign [.Name x a] e b) (JZ i t):=by
 refine(i7 f k l g m n).imp ?_;rintro o p H ⟨B,q,E,⟨G,r,S⟩,h,M⟩;exact yi j S h M
end L2
namespace xg
open PySem L2 Wb
variable {P:Program} {w:World} {mg:Str->Option Value} {base:Heap} {Z:DC} (T:Txt Z mg)
open Wy
def jP(m:Mv):D:= .tup [aq m.1, .int m.2]
structure Q5 (w:W) (B:List Nat) (p:Nat) (near:List Nat) (one other:List Int) (M:List Mv) (k:Int):Prop where
 g:Good w
 l14:w.length<=14
 nr:∀x,x∈near↔x∈row w p/\x∈B
 n5:near.length<=5
 L:oR w B one other M k
 k7:7<=k
 ol:one.length=w.length
 tl:other.length=w.length
 pl:p<w.length
 np:p∉B
 bl:∀x∈B,x<w.length
 po:uy w one
 pt:uy w other
 rg:∀x∈other,0<=x/\x<k
 ml:M.length<=1000
theorem Ie{l:List Int}{m:Int}(h:∀d,0<=d->d<m->d<=(l.length:Int)->d∈l):m<=(l.length:Int):=by
 apply Do;intro z
 have:=az (l:=(List.range (l.length+1)).map λ(k:Nat)=>(k:Int)) (m:=l) (by rw[oJ,gY];exact AR.imp λ {a b} h=>by omega) λx c=>by
  obtain⟨k,e,rfl⟩:=aZ.mp c
  have:=bT.mp e
  exact h k (by omega) (by omega) (by omega)
 rw[aD,fG] at this;omega
def Ga:cg:=λb P=>∃(w:W)(B:List Nat)(M:List Mv)(p:Nat)(near:List Nat)(one a:List Int)(k:Int),b= [.lst (M.map jP),aq p,ay near, .lst (av one), .lst (av a)]/\Q5 w B p near one a M k/\∀T,oR w (B++ [p]) one a T k->P (.lst (T.map jP))
theorem zu:FnOk P w Z.K mg base b9 2 T.d_led_with.f T.d_led_with.fd ["walk","p","near","one","other"] (fY Z 1 Ga):=by
 have C:=ua.nd;refine iS 1 T.d_led_with.F ua [0,0,0,0,0,1,1,0,0] (by decide) (λds R h=>by obtain⟨_,_,_,_,_,_,_,_,rfl,_⟩:=h;rfl) (λbF A outer s H E ds R c h=>?_)
 have X:=c.units
 refine⟨_,(af (cA 5 C (pk rfl rfl T.B.list eo (aa 3)))
   (af (cA 6 C (eN ag))
   (af (cC rfl FB (bc (aa 0)) (hU 2 rfl (bG (aM 7 C) (bG (aM 8 C) eX))) (af (bq (DW.dt (wL (aK se (aa 7) (aa 2) (by with_unfolding_all rfl)) (tD (aK (fL X) (aa 8) (aE (aa 5) (aa 1)) (aW _))))) (af (fH true 5 (aa 1) (aA T.d_least_free (pM T) c (ae (aF bP (nj (NC:= ["r","dyeing"]) (src:= [none,some 5]) rfl (lK (aw lg)) ⟨rfl,rfl,trivial⟩ (bc (aa 2)) (λ_ _ _=>(bI 0 (show(["r","dyeing"]:List Str).Nodup from by decide+kernel))) (λ_ _ _=>dM) (λ_ _ _=>(aE (aa 1) (aa 0)))) (cL (ae (aa 8) ag))) (ae (qx rfl T.c_FEWEST_DYES) ag))))
   (ao (fu true 6 (cz (ae (aa 1) (ae (aE (aa 5) (aa 1)) ag)))))) aL)
   (af (fH false 5 (aa 7) (aa 8))
   (ao (fu false 6 (cz (ae (aa 7) (ae (aa 8) ag))))))))
   (af (bq (aK (pF X) (aE (aa 5) (aa 1)) (aE (aa 4) (aa 1)) (aW _)) (ao (fu false 6 (cz (ae (aa 1) (ae (aE (aa 4) (aa 1)) ag))))) aL)
   (ao (tB 6)))))),?_⟩
 obtain⟨u,B,M,p,near,one,a,k,rfl,I,q⟩:=h;refine⟨_,rfl,?_⟩;refine⟨by show 0<=sizeLine;decide,?_⟩
 refine⟨_,rfl,?_⟩;refine bO (λj ρ=>∃(T:List Mv)(b:List Int)(N O:Option D),ρ= [some (.lst (M.map jP)),some (aq p),some (ay near),some (.lst (av one)),some (.lst (av a)),some (.lst (av b)),some (.lst (T.map jP)),N,O]/\LedI u B p one (M.take j) (M.drop j) T b k) ⟨[],one,_,_,rfl,LedI.zero I.L.ok λr c _=>(I.po p r c).symm⟩ ?_ ?_
 ·rintro j _ _ hd ⟨T,b,N,O,rfl,J⟩ A hA
  obtain⟨m,G,rfl⟩:=b8 hd;have hj:=(di.mp G).1;have dj:M.drop j=m::M.drop (j+1):=by rw[rk hj,(di.mp G).2]
  have tj:M.take (j+1)=M.take j++ [m]:=by rw[rF,G];rfl
  rw[dj] at J;have y:b.length=u.length:=by rw[J.Al,I.ol]
  have Tl:=J.len;rw[lF] at Tl;have ml:=I.ml;have mB:=J.ok2.1.1;have Y9:=I.L.rng m (dA G);have i:=I.pl;have ld:(av b).length=u.length:=by unfold av;rw[aD,y]
  have Q:jN (av b).length (p:Int)=some p:=by rw[ld];exact nH i
  have bm:=I.bl _ mB;refine⟨rfl,rfl,?_⟩;refine wZ (λρ=>∃(o:List Mv)(n:List Int),ρ= [some (.lst (M.map jP)),some (aq p),some (ay near),some (.lst (av one)),some (.lst (av a)),some (.lst (av n)),some (.lst (o.map jP)),some (aq m.1),some (.int m.2)]/\LedI u B p one (M.take (j+1)) (M.drop (j+1)) (o++ [m]) (n.set m.1 m.2) k/\n.length=u.length/\o.length<=2001) (λE' hE=>?_) ?_
  ·have keep:(m.1∈near->m.2≠b.getD p 0)->E'.nx [some (.lst (M.map jP)),some (aq p),some (ay near),some (.lst (av one)),some (.lst (av a)),some (.lst (av b)),some (.lst (T.map jP)),some (aq m.1),some (.int m.2)]:=λh=>hE _ ⟨T,b,rfl,by rw[tj];exact J.move I.g I.ol i I.np I.bl Y9 λz=>h ((I.nr _).mpr ⟨z,mB⟩),y,by omega⟩
   refine⟨_,rfl,_,rfl,rfl,cP _,_,rfl,?_⟩;rw[mo cw,ia];refine bg (λv=>?_) (λv=>cj (keep λz=>absurd z (GM v)));have v:=GT v;refine⟨_,rfl,_,rfl,_,rfl,_,dN (by omega),?_⟩
   refine(?_:sU (oD (some m.2)) (oD (some (b.getD p 0))) _);refine EN ⟨_,rfl,bg (λt=>?_) (λt=>keep λ_ z=>GM t (by rw[z]))⟩
   have t:m.2=b.getD p 0:=Da (GT t);have nl:∀x∈near,x<b.length:=λx S=>by rw[y];exact I.g.rng _ _ ((I.nr x).mp S).1
   refine⟨_,rfl,?_⟩;refine ib (ρ:= [none,some (.lst (av b))]) aq (λx=> .int (b.getD x 0)) near _ (λx S Y hY=>⟨_,rfl,_,rfl,_,dN (nl x S),hY⟩) rfl (small (by have:=I.n5;omega)) λaR=>?_
   have n5:=I.n5;have e3:(near.map λx=>D.int (b.getD x 0))++ [.int m.2]=av (near.map (λx=>b.getD x 0)++ [m.2]):=by unfold av;rw[cJ,bU];rfl
   have ll:(near.map (λx=>b.getD x 0)++ [m.2]).length=near.length+1:=by rw[bZ,aD];rfl
   refine⟨_,rfl,by show 1<=sizeLine;decide,small (by rw[aD];show _+1<=_;omega),near.map (λx=>b.getD x 0)++ [m.2],7,FS (λl=> [D.lst l,D.int 7]) e3,by decide,by decide,by omega,λd d0 d7 dn=>?_,λall=>absurd (Ie all) (by omega)⟩
   have es:(av b).set p (.int d)=av (b.set p d):=by unfold av;rw[um]
   have U:fJ ((av b).set p (.int d)) (p:Int)=some (.int d):=by rw[es,dN (by rw[f9];omega),bK (by omega),tz rfl]
   refine⟨rfl,_,rfl,_,rfl,_,p,rfl,Q,?_⟩;refine⟨_,rfl,_,rfl,_,rfl,_,rfl,_,U,by show 2<=sizeLine;decide,rfl,Ca (show _<=3000 by rw[aD];omega) (by decide),?_⟩
   refine hE _ ⟨T++ [(p,d)],b.set p d,?_,by rw[tj];exact J.way I.g I.ol i I.np I.bl Y9 ⟨d0,by have:=I.k7;omega⟩ (λr c hB z=>dn (fk _ (aZ.mpr ⟨r,(I.nr r).mpr ⟨c,hB⟩,z⟩))) (λz=>dn (by rw[z];simp)) t,by rw[f9,y],by rw[bZ];simp only[jJ];omega⟩
   have e5:D.lst ((T++ [(p,d)]).map jP)= .lst (T.map jP++ [.tup [aq p, .int d]]):=by rw[cJ];rfl
   rw[e5,<-es];rfl
  ·rintro _ ⟨o,n,rfl,J',EV,tl'⟩
   have tK:jN (av n).length (m.1:Int)=some m.1:=by unfold av;rw[aD,EV];exact nH bm
   refine⟨_,rfl,trivial,_,rfl,_,rfl,_,m.1,rfl,tK,?_⟩;refine⟨_,rfl,_,rfl,_,rfl,by show 2<=sizeLine;decide,trivial,Ca (show _<=3000 by rw[aD];omega) (by decide),?_⟩
   refine hA _ ⟨o++ [m],n.set m.1 m.2,some (aq m.1),some (.int m.2),?_,J'⟩;have v:D.lst (av (n.set m.1 m.2))= .lst ((av n).set m.1 (.int m.2)):=by unfold av;rw[um]
   have t:D.lst ((o++ [m]).map jP)= .lst (o.map jP++ [jP m]):=by rw[cJ];rfl
   rw[v,t];rfl
 ·rintro _ ⟨T,b,N,O,rfl,J⟩
  rw[aD,rD,List.drop_length] at J;have i:=I.pl;have y:b.length=u.length:=by rw[J.Al,I.ol]
  have om:a.getD p 0∈a:=by
   have:p<a.length:=by rw[I.tl];exact i
   rw[bB,bJ this];exact g5 this
  have D:=J.done I.g I.L I.ol i I.np (I.rg _ om) (λr c=>(I.pt p r c).symm) λz=>by
   have:=I.L.same z
   have tl:=J.len;rw[this] at tl;exact List.eq_nil_of_length_eq_zero (by simpa using tl)
  have Tl:=J.len;have ml:=I.ml;refine⟨_,rfl,_,rfl,_,dN (by omega),_,rfl,_,rfl,_,dN (by rw[I.tl];exact i),?_⟩
  refine CG ⟨_,rfl,bg (λe=>?_) (λe=>?_)⟩
  ·have e:b.getD p 0≠a.getD p 0:=by simpa using e
   refine⟨_,rfl,_,rfl,_,rfl,_,rfl,_,dN (by rw[I.tl];exact i),by show 2<=sizeLine;decide,trivial,Ca (show _<=3000 by rw[aD];omega) (by decide),?_⟩
   have:=q _ (D.2 e)
   rw[cJ] at this;exact⟨_,rfl,this⟩
  ·have e:b.getD p 0=a.getD p 0:=by simpa using e
   exact⟨_,rfl,q _ (D.1 e)⟩
theorem DL:∀T:List Mv,mN (T.map jP)=true
 | []=>rfl
 |m::T=>by rw[dD,mN,DL T];rfl
structure EC (w:W) (one other:List Int) (k:Int):Prop where
 g:Good w
 l1:1<=w.length
 l10:w.length<=10
 pl:2<=w.length->iM w
 ol:one.length=w.length
 tl:other.length=w.length
 po:uy w one
 pt:uy w other
 rg:∀x∈other,0<=x/\x<k
 k7:7<=k
def Uc:cg:=λb P=>∃(w:W)(one a:List Int)(k:Int),b= [.eM w, .lst (av one), .lst (av a), .int k]/\EC w one a k/\∀T B,(∀x,x∈B↔x<w.length)->B.length=w.length->oR w B one a T k->P (.lst (T.map jP))
theorem tQ:FnOk P w Z.K mg base b9 7 T.d_led.f T.d_led.fd ["web","one","other","many"] (fY Z 1 Uc):=by
 have d:=Ht.nd;refine iS 1 T.d_led.F Ht [0,0,0,0,0,1,1,0] (by decide) (λG R h=>by obtain⟨_,_,_,_,rfl,_⟩:=h;rfl) (λbF A outer s H E G R i h=>?_)
 have hu:=i.units
 refine⟨_,(af (tx (aA T.d_need_at_most (uU T) i (ae (aa 0) (ae (qx rfl T.c_MOST_LED) ag))))
   (af (tx (aA T.d_need_plane (km T) i (ae (aa 0) ag)))
   (af (bq (aK nJ (aa 3) (qx rfl T.c_FEWEST_DYES) (aW _)) (ao jX) aL)
   (af (aS false 4 d (dY T.W (aa 0) T.m_turns.m (gI T) (i.mono (by decide)) T.m_turns.b))
   (af (CP 5 d (eN ag))
   (af (cA 6 d (eN ag))
   (af (cC rfl FB (Bc rfl T.B.reversed (ae (aA T.d_order_of_five (kX T) i (ae (aa 0) ag)) ag)) (aM 7 d) (af (CP 5 d (uD T.d_led_with (zu T) i (ae (aa 5) (ae (aa 7) (ae (nj (NC:= ["q","behind"]) (src:= [none,some 6]) rfl (lK (aw BO)) ⟨rfl,rfl,trivial⟩ (bc (aE (aa 4) (aa 7))) (λ_ _ _=>(bI 0 (show(["q","behind"]:List Str).Nodup from by decide+kernel))) (λ_ _ _=>(jf (aK se (aa 0) (aa 1) (by with_unfolding_all rfl)))) (λ_ _ _=>(aa 0))) (ae (aa 1) (ae (aa 2) ag)))))))
   (ao (fu false 6 (aa 7)))))
   (ao (tB 5))))))))),?_⟩
 obtain⟨c,one,a,k,rfl,I,q⟩:=h;have l10:=I.l10;refine⟨_,rfl,c,10,rfl,by omega,?_⟩
 refine⟨_,rfl,c,rfl,I.g,I.l1,by omega,CM I.g l10 I.pl,I.pl,?_⟩
 have J:=I.k7;refine⟨_,rfl,_,rfl,Af (FM (by omega)) ?_⟩
 refine⟨_,rfl,c,rfl,c,rfl,by omega,trivial,?_⟩
 refine⟨by show 0<=sizeLine;decide,rfl,?_⟩
 refine⟨by show 0<=sizeLine;decide,?_⟩
 refine⟨_,rfl,c,rfl,I.g,I.l1,by omega,I.pl,λL O=>?_⟩
 obtain⟨u,l,few⟩:=O
 have M:L.length=c.length:=by
  have:=(qm u rE (l₂:=List.range c.length)).mpr λx=>by rw[<-l x,bT]
  rw[this.length_eq,fG]
 have N:(L.map aq).reverse=L.reverse.map aq:=by rw[vf]
 refine(?_:ke _ _ _ (L.map aq).reverse _);rw[N];refine bO (λj ρ=>∃(T:List Mv)(o:Option D),ρ= [some (.eM c),some (.lst (av one)),some (.lst (av a)),some (.int k),some (aU c),some (.lst (T.map jP)),some (ay (L.reverse.take j)),o]/\oR c (L.reverse.take j) one a T k) ⟨[],none,rfl,oR.zero⟩ ?_ ?_
 ·rintro j _ _ Q ⟨T,o,rfl,W⟩ A S
  obtain⟨p,r,rfl⟩:=b8 Q
  have jl:j<L.length:=by
   have:=(di.mp r).1
   rwa [vX] at this
  have U:p∈L:=lH.mp (dA r);have v:=(l p).mpr U;have n:L.reverse.take (j+1)=L.reverse.take j++ [p]:=by rw[rF,r];rfl
  have X:L=(L.reverse.drop (j+1)).reverse++p::(L.reverse.take j).reverse:=by
   have:L.reverse=L.reverse.take j++p::L.reverse.drop (j+1):=by
    rw[<-List.singleton_append,<-iJ,<-n,jK]
   have:=FS List.reverse this
   rw[B7] at this
   conv=>lhs;rw[this]
   simp
  have f5:=few _ _ _ X
  have np:p∉L.reverse.take j:=λz=>by
   have d:=(acP L).nodup_iff.mpr u;rw[<-jK (j+1) L.reverse,n] at d
   have:=(dB.mp d).1
   exact(dB.mp this).2.2 p z p (by simp) rfl
  have tl:(L.reverse.take j).length=j:=by rw[lF,vX];omega
  have rp:=dO I.g p;have bl:∀x∈L.reverse.take j,x<c.length:=λx t=>(l x).mpr (lH.mp (adf t));generalize L.reverse.take j=B at*
  have wl:T.length<=1000:=by
   have h1:=W.len;have h2:2^B.length<=2^9:=Nat.pow_le_pow_right (by decide) (by omega)
   have h3:2^9=512:=by decide
   omega
  refine⟨_,rfl,_,rfl,_,rfl,_,rfl,_,fD v,?_⟩;refine jg (ρ:= [none,some (ay B)]) aq (λq=>decide (q∈B)) aq (row c p) _ [] _ (λy hy Y Nn t1 t2=>?_) ⟨none,rfl⟩ (small (by rw[jq];omega)) λaR=>?_
  ·refine⟨_,rfl,_,rfl,rfl,cP _,_,rfl,?_⟩
   rw[mo cw,ia];exact bg (λe=>⟨_,rfl,t1 e⟩) (λe=>t2 e)
  ·rw[qu]
   refine⟨_,rfl,_,rfl,c,B,T,p,(row c p).filter λq=>decide (q∈B),one,a,k,rfl,⟨I.g,by omega,λx=>by rw[fO,acD],?_,W,J,I.ol,I.tl,v,np,bl,I.po,I.pt,I.rg,wl⟩,λC W'=>⟨_,rfl,DL C,?_⟩⟩
   ·refine jr (rO λx _ t=>lH.mpr t) f5
   ·refine⟨_,rfl,_,rfl,trivial,cq (by rw[aD];omega),?_⟩
    refine S _ ⟨C,some (aq p),?_,by rw[n];exact W'⟩
    rw[n,show ay (B++ [p])= .lst (B.map aq++ [aq p]) by unfold ay;rw[cJ];rfl];rfl
 ·rintro _ ⟨T,o,rfl,W⟩
  rw[aD,vX,<-vX,rD] at W;refine⟨_,rfl,q T L.reverse (λx=>by rw[lH];exact(l x).symm) (by rw[vX,M]) W⟩
variable {P:Program} {w:World} {mg:Str->Option Value} {base:Heap} {Z:DC} (T:Txt Z mg)
def O9:cg:=λa P=>∃(m:Mv)(n:Nat)(k:Int),a= [jP m,aq n, .int k]/\m.1<n/\0<=m.2/\m.2<k/\P (.bl true)
theorem uS:FnOk P w Z.K mg base b9 2 T.d__law_is_move.f T.d__law_is_move.fd ["_law_move","_law_points","_law_many"] (aV Z O9):=by
 have j:=mW.nd;refine aY T.d__law_is_move.F mW [0,0,0] (by decide) (λb R h=>by obtain⟨_,_,_,rfl,_⟩:=h;rfl) (λl A outer s H E b R a h=>?_)
 have c:=a.units
 refine⟨_,(af (bq (DW.dt (nF (gh (eO (qz "tuple" (aa 0) rfl T.B.isinstance rfl T.B.tuple HE))) (nF (aK (pF c) (aH bz rfl T.B.len bx (ae (aa 0) ag)) au (aW _)) (nF (gh (eO (aA T.d__law_whole (pJ T) a (ae (aE (aa 0) au) ag)))) (qC (gh (eO (aA T.d__law_whole (pJ T) a (ae (aE (aa 0) au) ag))))))))) (ao (aJ iQ)) aL)
   (ao (aJ (nh (ni yu au (aE (aa 0) au) (aW _)) (nh (ni nJ (aE (aa 0) au) (aa 1) (aW _)) (nh (ni yu au (aE (aa 0) au) (aW _)) (wH (ni nJ (aE (aa 0) au) (aa 2) (aW _))))))))),?_⟩
 obtain⟨m,n,k,rfl,o,d,g,q⟩:=h;have i:(0:Int)<=(m.1:Int):=by omega
 refine⟨_,rfl,rfl,rfl,cj ?_⟩;refine⟨_,rfl,?_⟩;dsimp only[sX,jP,Cq,dC];refine(?_:wc (.int 2) (.int 2) _);refine CG ⟨_,rfl,cj ?_⟩;refine⟨_,rfl,_,rfl,_,rfl,rfl,cj ?_⟩;refine⟨_,rfl,_,rfl,_,rfl,rfl,cj ?_⟩;refine⟨_,rfl,_,rfl,?_⟩;refine⟨_,rfl,bg (λ_=>?_) (λe=>absurd i (GM e))⟩;refine⟨_,rfl,_,rfl,_,rfl,_,rfl,bg (λ_=>?_) (λe=>absurd (show(m.1:Int)<(n:Int) by omega) (GM e))⟩
 refine⟨_,rfl,_,rfl,_,rfl,bg (λ_=>?_) (λe=>absurd d (GM e))⟩;refine⟨_,rfl,_,rfl,_,rfl,?_⟩;refine(?_:R (.bl (decide (m.2<k))));rw[GE g];exact q
theorem some_inj{l m:List Int}(e:l.map some=m.map some):l=m:=by
 have:=FS (List.map λo:Option Int=>o.getD 0) e
 rw[bU,bU] at this;simpa [Function.comp_def] using this
theorem zP{P:D->Prop}(h:P (.bl (decide (l=m)))):sU (.lst (av l)) (.lst (av m)) P:=by
 rw[<-gT,<-gT];refine zQ ?_;rw[show decide (l.map some=m.map some)=decide (l=m) from acr.mpr ⟨some_inj,λe=>by rw[e]⟩];exact h
theorem IC{l m:List Int}(b:l.length=m.length)(h:∀i,i<l.length->l.getD i 0=m.getD i 0):l=m:=by
 refine adM b λi a c=>?_
 have:=h i a
 rw[bB,bB,bJ a,bJ c] at this;exact this
structure Q3 (w:W) (one other:List Int) (k:Int) (T:List Mv) (B:List Nat):Prop where
 g:Good w
 l10:w.length<=10
 ol:one.length=w.length
 tl:other.length=w.length
 bm:∀x,x∈B↔x<w.length
 bl:B.length=w.length
 L:oR w B one other T k
def MF:cg:=λb P=>∃(w:W)(one a:List Int)(k:Int)(T:List Mv)(B:List Nat),b= [aU w, .lst (av one), .lst (av a), .int k, .lst (T.map jP)]/\Q3 w one a k T B/\P (.bl true)
theorem iu:FnOk P w Z.K mg base b9 3 T.d__law_leads.f T.d__law_leads.fd ["_law_turns","_law_one","_law_other","_law_many","_law_moves"] (aV Z MF):=by
 have p:=pZ.nd;refine aY T.d__law_leads.F pZ [0,0,0,0,0,1,0] (by decide) (λG R h=>by obtain⟨_,_,_,_,_,_,rfl,_⟩:=h;rfl) (λbF A outer s H E G R r h=>?_)
 have c:=r.units
 refine⟨_,(af (bq (DW.dt (nF (gh (eO (qz "list" (aa 4) rfl T.B.isinstance rfl T.B.list eo))) (nF (aK TB (aH bz rfl T.B.len bx (ae (aa 4) ag)) (aF Ol au (aH bz rfl T.B.len bx (ae (aa 0) ag))) (aW _)) (qC (DW.dt (wL (aK (fL c) (aa 1) (aa 2) (aW _)) (tD (aK (pF c) (aa 4) (cL ag) (aW _))))))))) (ao (aJ iQ)) aL)
   (af (cA 5 p (pk rfl rfl T.B.list eo (aa 1)))
   (af (cC rfl FB (bc (aa 4)) (aM 6 p) (af (bq (DW.dt (nF (gh (eO (aA T.d__law_is_move (uS T) r (ae (aa 6) (ae (aH bz rfl T.B.len bx (ae (aa 0) ag)) (ae (aa 3) ag)))))) (qC (aK (fL c) (aE (aa 5) (aE (aa 6) au)) (aE (aa 6) au) (aW _))))) (ao (aJ iQ)) aL)
   (af (fH false 5 (aE (aa 6) au) (aE (aa 6) au))
   (ao (bq (aK (pF c) (nj (NC:= ["_law_q","_law_here","_law_move"]) (src:= [none,some 5,some 6]) rfl (lK (aw i9)) ⟨rfl,rfl,rfl,rfl,trivial⟩ (bc (aE (aa 0) (aE (aa 6) au))) (λ_ _ _=>(bI 0 (show(["_law_q","_law_here","_law_move"]:List Str).Nodup from by decide+kernel))) (λ_ _ _=>(jf (aK (fL c) (aE (aa 1) (aa 0)) (aE (aa 2) au) (aW _)))) (λ_ _ _=>(aa 0))) (cL ag) (aW _)) (ao (aJ iQ)) aL)))))
   (ao (aJ (ni (fL c) (aa 5) (aa 2) (aW _))))))),?_⟩
 obtain⟨b,one,a,k,M,B,rfl,I,q⟩:=h;have J:(b.map ay).length=b.length:=aD _;have N:(M.map jP).length=M.length:=aD _;have l10:=I.l10;have O:=I.L.len;rw[I.bl] at O;refine⟨_,rfl,rfl,rfl,cj ?_⟩;refine⟨_,rfl,?_⟩;dsimp only[sX,Cq,dC];refine⟨_,rfl,⟨by omega,by omega,by decide⟩,_,rfl,Af (FM ?_) ?_⟩
 ·rw[J,N]
  show ¬(1*(2:Int)^((b.length:Int)).toNat<=(M.length:Int));rw[ui,Int.one_mul]
  have:(((2^b.length:Nat)):Int)=(2:Int)^b.length:=by rw[Int.natCast_pow];rfl
  omega
 refine⟨_,rfl,_,rfl,zP ⟨_,rfl,?_⟩⟩
 have Q:∀{P:Bool->Prop},P false->(if decide (one=a)=true then Ba (HP wc (vx 4) (Qn sX)) [some (aU b),some (.lst (av one)),some (.lst (av a)),some (.int k),some (.lst (M.map jP)),none,none] P else P false):=λ {P} t=>by
  refine bg (λe=>?_) (λ_=>t)
  have:=I.L.same (GT e)
  rw[this];refine⟨_,rfl,by show 0<=sizeLine;decide,?_⟩
  refine(?_:wc (ay []) (ay []) _);exact sW ⟨_,rfl,t⟩
 refine Q (cj ?_);refine⟨_,rfl,?_⟩;refine⟨_,rfl,?_⟩;refine bO (λj ρ=>∃(n:Option D),ρ= [some (aU b),some (.lst (av one)),some (.lst (av a)),some (.int k),some (.lst (M.map jP)),some (.lst (av (jj one (M.take j)))),n]/\zv b B (jj one (M.take j)) (M.drop j)) ⟨_,rfl,I.L.ok⟩ ?_ ?_
 ·rintro j _ _ S ⟨n,rfl,ok⟩ A u
  obtain⟨m,d,rfl⟩:=b8 S;have U:=(di.mp d).1;have X:M.drop j=m::M.drop (j+1):=by rw[rk U,(di.mp d).2]
  have tj:M.take (j+1)=M.take j++ [m]:=by rw[rF,d];rfl
  rw[X] at ok;obtain⟨⟨m1,m2,m3⟩,ok⟩:=ok;have v:=I.L.rng m (dA d);have hl:=j5 one (M.take j);rw[tj,eE] at u;generalize jj one (M.take j)=h at*;have o:h.length=b.length:=by rw[hl,I.ol]
  have x:=(I.bm _).mp m1;have ix:jN (av h).length (m.1:Int)=some m.1:=by unfold av;rw[aD,o];exact nH x
  have es:(av h).set m.1 (.int m.2)=av (h.set m.1 m.2):=by unfold av;rw[um]
  have rl:=dO I.g m.1;refine⟨_,rfl,_,rfl,_,rfl,m,(b.map ay).length,k,rfl,by omega,v.1,v.2,rfl,cj ?_⟩
  refine⟨_,rfl,_,rfl,_,rfl,_,dN (by omega),_,rfl,_,rfl,sV ⟨_,rfl,Af (FM m2) ?_⟩⟩
  refine⟨_,rfl,_,rfl,trivial,_,rfl,_,rfl,_,rfl,_,m.1,rfl,ix,?_⟩;rw[es];refine⟨_,rfl,_,rfl,_,rfl,_,fD x,?_⟩;refine jg (ρ:= [none,some (.lst (av (h.set m.1 m.2))),some (jP m)]) aq (λ_=>false) aq (row b m.1) _ [] _ (λy l Y Nn t1 t2=>?_) ⟨none,rfl⟩ (small (by rw[jq];omega)) λaR=>?_
  ·have yl:=I.g.rng _ _ l
   refine⟨_,rfl,_,rfl,_,dN (by rw[f9];omega),_,rfl,_,rfl,sV ⟨_,rfl,Af (FM ?_) (t2 rfl)⟩⟩
   rw[bK (by omega),mo (λz=>I.g.irr m.1 (by rw[z] at l;exact l))]
   exact m3 y l ((I.bm y).mpr yl)
  ·rw[show(row b m.1).filter (λ_=>false)= [] by simp]
   refine⟨by show 0<=sizeLine;decide,?_⟩
   refine(?_:wc (ay []) (ay []) _);refine sW ⟨_,rfl,cj (u _ ⟨some (jP m),rfl,ok⟩)⟩
 ·rintro _ ⟨n,rfl,ok⟩
  rw[aD,rD];refine⟨_,rfl,_,rfl,zP ?_⟩
  have:jj one M=a:=IC (by rw[j5,I.ol,I.tl]) λi C=>I.L.end_ i ((I.bm i).mpr (by rw[j5,I.ol] at C;exact C))
  rw[GE this];exact q
variable {P:Program} {w:World} {mg:Str->Option Value} {base:Heap} {Z:DC} (T:Txt Z mg)
theorem ER{P:D->Prop}(h:P (.bl false)):wc (.lst [.lst (av a), .lst (av b)]) (.lst [.lst (av a), .lst (av b)]) P:=by
 rw[<-gT,<-gT];generalize a.map some=f;generalize b.map some=l
 have e:(D.lst [bo f,bo l]).py=some (.list [.list (f.map oP), .list (l.map oP)]):=by
  rw[D.py,f6,f6,f6,tY,tY];rfl
 refine⟨_,_,e,e,?_,?_⟩
 ·have c:=oZ f
  have d:=oZ l;simp only[PyData.depth,PyData.depthAll] at c d ⊢;omega
 ·rw[tz rfl,show PyData.eqv (.list [.list (f.map oP), .list (l.map oP)]) (.list [.list (f.map oP), .list (l.map oP)])=true by
   rw[PyData.eqv,PyData.eqvAll,PyData.eqvAll,(qD f f).mpr rfl,(qD l l).mpr rfl,PyData.eqvAll];rfl]
  exact h
theorem Om:FnOk P w Z.K mg base b9 10 T.d_law.f T.d_law.fd ["_law_script"] (aV Z Hv):=by
 have u:=Hs.nd;refine aY T.d_law.F Hs [0,0,0,0,0,0,0,0,0,0,1,0] (by decide) (λds R h=>by obtain⟨_,rfl,_⟩:=h;rfl) (λbF A outer s H E ds R r h=>?_)
 have U:=r.units
 refine⟨_,(af (aS false 1 u (aA T.d__law_drawn (yx T) r (ae (aa 0) ag)))
   (af (aS false 2 u (aF bP au (aF cB (aA T.d__law_cell_at (cu T) r (ae (aa 0) (ae au ag))) au)))
   (af (bq (aK (fL U) (aF cB (aF iq (aA T.d__law_cell_at (cu T) r (ae (aa 0) (ae au ag))) au) au) au (aW _)) (ao (aS false 2 u (aF bP au (aF cB (aA T.d__law_cell_at (cu T) r (ae (aa 0) (ae au ag))) au)))) aL)
   (af (aS false 3 u (aA T.d__law_dyes (zw T) r (ae (aa 2) ag)))
   (af (aS false 4 u (aA T.d__law_sure (qQ T) r (ae (aa 1) (ae (aA T.d__law_dyeing ((mO T).imp BS) r (ae (aa 1) (ae (aA T.d__law_draws (e9 T) r (ae (aa 0) (ae au (ae (aH bz rfl T.B.len bx (ae (aa 1) ag)) ag)))) (ae (aa 3) (ae iQ ag))))) ag))))
   (af (aS false 5 u (aA T.d__law_sure (qQ T) r (ae (aa 1) (ae (aA T.d__law_dyeing ((mO T).imp BS) r (ae (aa 1) (ae (aA T.d__law_draws (e9 T) r (ae (aa 0) (ae au (ae (aH bz rfl T.B.len bx (ae (aa 1) ag)) ag)))) (ae (aa 3) (ae iQ ag))))) ag))))
   (af (bq (aK (fL U) (aF cB (aF iq (aA T.d__law_cell_at (cu T) r (ae (aa 0) (ae au ag))) au) au) au (aW _)) (ao (aS false 5 u (aA T.d__law_changed (uR T) r (ae (aa 1) (ae (aa 4) (ae (aA T.d__law_draws (e9 T) r (ae (aa 0) (ae au (ae (aH bz rfl T.B.len bx (ae (aa 1) ag)) ag)))) (ae (aa 3) ag))))))) aL)
   (af (aS false 6 u (CK T.mkW (mQ T) (r.mono (by decide)) rfl T.mC T.m___init__b (ae (aa 1) ag)))
   (af (aS false 7 u (cL (ae (fo mE rfl T.B.list eo (ae (aa 4) ag)) (ae (fo mE rfl T.B.list eo (ae (aa 5) ag)) ag))))
   (af (aS false 8 u (aH (Cz rfl) rfl T.B.max A5 (ae au (ae (aF bP au (aH (JR rfl) rfl T.B.max A5 (ae (aF bP (aa 4) (aa 5)) ag))) ag))))
   (af (cC rfl FB (Nu (cz (ae (aF bP (aa 2) au) (ae (aa 8) ag)))) (aM 9 u) (ao (bq (gh (eO (aA T.d__law_leads (iu T) r (ae (aa 1) (ae (aa 4) (ae (aa 5) (ae (aa 9) (ae (aA T.d_led ((tQ T).imp BS) r (ae (aa 6) (ae (aE (aa 7) au) (ae (aE (aa 7) au) (ae (aa 9) ag))))) ag)))))))) (ao (aJ iQ)) aL)))
   (af (cA 10 u (uD T.d_led (tQ T) r (ae (aa 6) (ae (aE (aa 7) au) (ae (aE (aa 7) au) (ae (aa 2) ag))))))
   (af (bq (DW.dt (nF (gh (eO (aA T.d__law_leads (iu T) r (ae (aa 1) (ae (aa 4) (ae (aa 5) (ae (aa 2) (ae (aa 10) ag)))))))) (qC (aK (pF U) (aa 7) (cL (ae (aa 4) (ae (aa 5) ag))) (aW _))))) (ao (aJ iQ)) aL)
   (af (HX 10)
   (af (bq (gh (eO (aA T.d__law_leads (iu T) r (ae (aa 1) (ae (aa 4) (ae (aa 5) (ae (aa 2) (ae (aA T.d_led ((tQ T).imp BS) r (ae (aa 6) (ae (aE (aa 7) au) (ae (aE (aa 7) au) (ae (aa 2) ag))))) ag)))))))) (ao (aJ iQ)) aL)
   (af (aS false 11 u (aA T.d_led ((tQ T).imp BS) r (ae (aa 6) (ae (aE (aa 7) au) (ae (aE (aa 7) au) (ae (aa 2) ag))))))
   (ao (aJ (nh (aA T.d__law_leads (iu T) r (ae (aa 1) (ae (aa 5) (ae (aa 4) (ae (aa 2) (ae (aa 11) ag)))))) (wH (ni (fL U) (dY T.W (aa 6) T.m_turns.m (gI T) (r.mono (by decide)) T.m_turns.b) (aa 1) (aW _)))))))))))))))))))))),?_⟩
 obtain⟨t,rfl,Bm,q⟩:=h;refine⟨_,rfl,t,rfl,λa g N l10 X=>⟨trivial,?_⟩⟩;refine⟨_,rfl,t,7,rfl,λv7=>⟨(by show(0:Int)<6;decide),trivial,?_⟩⟩
 have m7:=kh v7 6 (by decide)
 dsimp only;refine wG [some (.jF t),some (aU a),some (.int (7+v7%6)),none,none,none,none,none,none,none,none,none] rfl ?_;refine wZ (λO=>∃m:Int,O= [some (.jF t),some (aU a),some (.int m),none,none,none,none,none,none,none,none,none]/\((7<=m/\m<=12)\/(24<=m/\m<=63))) (λE' Q=>?_) ?_
 ·refine⟨_,rfl,t,7,rfl,λv=>⟨⟨by decide,by decide⟩,(by show(0:Int)<3;decide),Ia ⟨_,rfl,bg (λ_=>?_) (λ_=>Q _ ⟨_,rfl, .inl (by omega)⟩)⟩⟩⟩
  refine⟨_,rfl,t,8,rfl,λv8=>⟨(by show(0:Int)<40;decide),trivial,Q _ ⟨24+v8%40,rfl, .inr ?_⟩⟩⟩
  have:=kh v8 40 (by decide)
  omega
 rintro _ ⟨m,rfl,hm⟩;refine⟨_,rfl,m,rfl,hm,λC dne dl WY d5=>⟨trivial,?_⟩⟩;have lw:(a.map ay).length=a.length:=aD _
 have Qz:∀{f:List (Option Int)}{c:List Int},(∀p d,f.getD p none=some d->d∈C)->(∀x∈c,(0<=x/\x<5)\/some x∈f)->∀x∈c,x∈C:=λ {f c} fm h x y=>by
  rcases h x y with z|z
  ·exact d5 x z.1 z.2
  ·obtain⟨i,hi,e⟩:=B9 z
   exact fm i x (by rw[bB,bJ hi,e];rfl)
 refine⟨_,rfl,_,rfl,_,rfl,_,rfl,t,5,(a.map ay).length,rfl,by omega,by omega,λxs xl=>⟨_,rfl,a,xs,C,rfl,g,by omega,by omega,by omega,λf fl pr fm=>⟨a,f,rfl,g,N,l10,X,fl,pr,λone I po om=>⟨trivial,?_⟩⟩⟩⟩
 have Zj:=Qz fm om;refine⟨_,rfl,_,rfl,_,rfl,_,rfl,t,6,(a.map ay).length,rfl,by omega,by omega,λys yl=>⟨_,rfl,a,ys,C,rfl,g,by omega,by omega,by omega,λf2 Sm pr2 fm2=>⟨a,f2,rfl,g,N,l10,X,Sm,pr2,λot0 tl0 pt0 tm0=>⟨trivial,?_⟩⟩⟩⟩
 have Tz:=Qz fm2 tm0;dsimp only;refine wG [some (.jF t),some (aU a),some (.int m),some (.lst (av C)),some (.lst (av one)),some (.lst (av ot0)),none,none,none,none,none,none] rfl ?_;refine wZ (λO=>∃o:List Int,O= [some (.jF t),some (aU a),some (.int m),some (.lst (av C)),some (.lst (av one)),some (.lst (av o)),none,none,none,none,none,none]/\o.length=a.length/\uy a o/\∀x∈o,x∈C) (λE' Q=>?_) ?_
 ·refine⟨_,rfl,t,7,rfl,λv=>⟨⟨by decide,by decide⟩,(by show(0:Int)<3;decide),Ia ⟨_,rfl,bg (λ_=>?_) (λ_=>Q _ ⟨_,rfl,tl0,pt0,Tz⟩)⟩⟩⟩
  exact⟨_,rfl,_,rfl,_,rfl,_,rfl,t,6,(a.map ay).length,rfl,by omega,by omega,λzs zl=>⟨_,rfl,a,one,zs,C,rfl,g,by omega,I,by omega,by omega,po,Zj,λc cl pc cm=>⟨trivial,Q _ ⟨c,rfl,cl,pc,cm⟩⟩⟩⟩
 rintro _ ⟨o,rfl,M,pt,Tz⟩;refine⟨_,rfl,a,rfl,g,N,by omega,trivial,?_⟩
 refine⟨_,rfl,_,rfl,by show 2<=sizeLine;decide,trivial,?_⟩
 have o0:0<one.length:=by omega
 have r1:∀x∈one,0<=x/\x<m:=λx y=>WY x (Zj x y);have Y:∀x∈o,0<=x/\x<m:=λx y=>WY x (Tz x y);have Q2:∀k:Int,7<=k->(∀x∈o,0<=x/\x<k)->EC a one o k:=λk S rg=>⟨g,N,l10,X,I,M,po,pt,rg,S⟩;have L21:∀k:Int,7<=k->(∀x∈one,0<=x/\x<k)->EC a o one k:=λk S rg=>⟨g,N,l10,X,M,I,pt,po,rg,S⟩;have es:av one++av o=(one++o).map D.int:=by unfold av;rw[cJ]
 have lo:(av one).length=one.length:=by unfold av;rw[aD]
 have lt:(av o).length=o.length:=by unfold av;rw[aD]
 refine⟨_,rfl,_,rfl,small (by omega),one++o,FS (λl=> [D.lst l]) es,λz=>by have:=FS List.length z;rw[bZ,jq] at this;omega,λn hn mx=>?_⟩
 refine⟨_,_,rfl,trivial,?_⟩;obtain⟨G,J⟩:∃G:Int,G=(if (1+n:Int)>7 then 1+n else 7):=⟨_,rfl⟩
 have Iu:7<=G/\n<G:=by
  by_cases c:(1+n:Int)>7
  ·rw[tz c] at J;omega
  ·rw[mo c] at J;omega
 have hlx:∀x∈one++o,x<G:=λx y=>by have:=mx x y;omega
 dsimp only;refine wG [some (.jF t),some (aU a),some (.int m),some (.lst (av C)),some (.lst (av one)),some (.lst (av o)),some (.eM a),some (.lst [.lst (av one), .lst (av o)]),some (.int G),none,none,none] (by rw[J];rfl) ?_
 refine⟨_,rfl,_,rfl,by show 2<=sizeLine;decide,?_⟩
 have Nd:fJ [D.lst (av one),D.lst (av o)] 0=some (.lst (av one)):=rfl;have Nf:fJ [D.lst (av one),D.lst (av o)] 1=some (.lst (av o)):=rfl;refine(?_:ke _ _ _ [.int (m+5), .int G] _);refine bO (λj O=>∃o9:Option D,O= [some (.jF t),some (aU a),some (.int m),some (.lst (av C)),some (.lst (av one)),some (.lst (av o)),some (.eM a),some (.lst [.lst (av one), .lst (av o)]),some (.int G),o9,none,none]) ⟨_,rfl⟩ ?_ ?_
 ·rintro j d _ L ⟨o9,rfl⟩ A hA
  obtain⟨k,rfl,S,kx⟩:∃k:Int,d= .int k/\7<=k/\∀x∈o,0<=x/\x<k:=by
   match j,L with
   |0,L=>exact⟨m+5,(Da L).symm,by omega,λx y=>by have:=Y x y;omega⟩
   |1,L=>exact⟨G,(Da L).symm,Iu.1,λx y=>⟨(Y x y).1,hlx x (cZ _ y)⟩⟩
   |n+2,L=>cases L
  refine⟨_,rfl,_,rfl,_,rfl,_,rfl,_,rfl,_,rfl,_,Nd,_,rfl,_,Nf,_,rfl,a,one,o,k,rfl,Q2 k S kx,λT B bm bl LW=>⟨a,one,o,k,T,B,rfl,⟨g,l10,I,M,bm,bl,LW⟩,rfl,cj (hA _ ⟨_,rfl⟩)⟩⟩
 ·rintro _ ⟨o9,rfl⟩
  have Tt:7<=m:=by omega
  refine⟨_,rfl,_,rfl,_,Nd,_,rfl,_,Nf,_,rfl,a,one,o,m,rfl,Q2 m Tt Y,λT B bm bl LW=>?_⟩;refine⟨_,rfl,?_⟩;refine⟨_,rfl,_,rfl,_,rfl,_,rfl,_,rfl,a,one,o,m,T,B,rfl,⟨g,l10,I,M,bm,bl,LW⟩,rfl,cj ?_⟩;refine⟨_,rfl,_,rfl,_,rfl,by show 2<=sizeLine;decide,ER ⟨_,rfl,cj ?_⟩⟩
  refine⟨_,rfl,?_⟩;refine⟨_,rfl,_,rfl,_,rfl,_,rfl,_,rfl,_,rfl,_,Nd,_,rfl,_,Nf,_,rfl,a,one,o,m,rfl,Q2 m Tt Y,λT2 B2 bm2 bl2 LW2=>⟨a,one,o,m,T2,B2,rfl,⟨g,l10,I,M,bm2,bl2,LW2⟩,rfl,cj ?_⟩⟩;refine⟨_,rfl,_,rfl,_,Nf,_,rfl,_,Nd,_,rfl,a,o,one,m,rfl,L21 m Tt r1,λT3 B3 bm3 bl3 LW3=>⟨trivial,?_⟩⟩;refine⟨_,rfl,_,rfl,_,rfl,_,rfl,_,rfl,a,o,one,m,T3,B3,rfl,⟨g,l10,M,I,bm3,bl3,LW3⟩,_,rfl,eY ?_⟩;refine⟨_,rfl,a,rfl,a,rfl,by omega,_,rfl,CF ?_⟩
  rw[GE rfl];exact q
theorem all_mk{l:PySem.W.OpenLaw}{w:World}{K:PySem.W.Frag}{h:Heap}{b:Str->Option Value}{fa C:Addr}{Pk:Tok}{MX:Tok}{c:Tok}(X:K.In h)(G:h.Ns mainGlobals b)(n:b "law"=some (.ref fa)){d:Tok}
  {o:Addr} {p q:Option Addr} {r:Array (Option Value)} {t u x y Vl z:Value}
  {A:Addr} {B E:Option Addr} {F:Array (Option Value)} {H I J BH Vm L:Value}
  {M:Addr} {N O:Option Addr} {sy:Array (Option Value)} {Q R S FX Vn U:Value}
  {Y:Addr} {od3 an3:Option Addr} {sl3:Array (Option Value)} {oc3 kV3 dc3 pm3 Vo ct3:Value}
  {d4:Addr} {od4 an4:Option Addr} {sl4:Array (Option Value)} {oc4 kV4 dc4 pm4 Vp ct4:Value}
  {d5:Addr} {od5 an5:Option Addr} {sl5:Array (Option Value)} {oc5 kV5 dc5 pm5 Vq ct5:Value}
  {d6:Addr} {od6 an6:Option Addr} {sl6:Array (Option Value)} {oc6 kV6 dc6 pm6 Vr ct6:Value}
  {d7:Addr} {od7 an7:Option Addr} {sl7:Array (Option Value)} {oc7 kV7 dc7 pm7 Vs ct7:Value}
  {d8:Addr} {od8 an8:Option Addr} {sl8:Array (Option Value)} {oc8 kV8 dc8 pm8 Vt ct8:Value}
  {d9:Addr} {od9 an9:Option Addr} {sl9:Array (Option Value)} {oc9 kV9 dc9 pm9 Vu ct9:Value}
  {Ri:Addr} {ZQ UO:Option Addr} {aa7:Array (Option Value)} {Zk Yu Wo aap PD Vy:Value}
  {Rj:Addr} {ZR UP:Option Addr} {aa8:Array (Option Value)} {Zl Yv Wq aaq PF Vz:Value}
  {Rk:Addr} {ZS UQ:Option Addr} {aa9:Array (Option Value)} {Zm Yw Wr aar PH VA:Value}
  {Rm:Addr} {ZT UR:Option Addr} {aba:Array (Option Value)} {Zn Yx Ws aas PJ VB:Value}
  {Rn:Addr} {ZU US:Option Addr} {abb:Array (Option Value)} {Zo Yy Wt aau PK VC:Value}
  {Ro:Addr} {ZV UT:Option Addr} {abc:Array (Option Value)} {Zp Yz Wu aav PL VD:Value}
  {Rp:Addr} {ZW UU:Option Addr} {abd:Array (Option Value)} {Zq YA Wv aaw PM VE:Value}
  {Rq:Addr} {ZX UW:Option Addr} {abe:Array (Option Value)} {Zr YB Ww aax PN VF:Value}
  {Rt:Addr} {ZY UX:Option Addr} {abf:Array (Option Value)} {Zs YC Wx aay PQ VG:Value}
  {Ru:Addr} {ZZ UY:Option Addr} {abg:Array (Option Value)} {Zt YD Wz aaz PR VH:Value}
  {Rv:Addr} {Z0 UZ:Option Addr} {abh:Array (Option Value)} {Zu YE WA aaA PU VI:Value}
  {Rw:Addr} {Z3 U0:Option Addr} {abi:Array (Option Value)} {Zv YF WB aaB PV VJ:Value}
  {Rx:Addr} {Z4 U1:Option Addr} {abj:Array (Option Value)} {Zw YG WC aaC PX VL:Value}
  {Ry:Addr} {Z5 U2:Option Addr} {abk:Array (Option Value)} {Zx YH WD aaD PY VM:Value}
  {Rz:Addr} {Z6 U3:Option Addr} {abl:Array (Option Value)} {Zy YI WE aaE PZ VN:Value}
  {RA:Addr} {Z7 U4:Option Addr} {abm:Array (Option Value)} {Zz YJ WG aaF P0 VO:Value}
  {RB:Addr} {Z8 U5:Option Addr} {abn:Array (Option Value)} {ZA YK WH aaG P1 VP:Value}
  {RC:Addr} {Z9 U6:Option Addr} {abo:Array (Option Value)} {ZC YL WI aaH P2 VQ:Value}
  {RD:Addr} {aaa U7:Option Addr} {abp:Array (Option Value)} {ZD YM WJ aaI P4 VR:Value}
  {RE:Addr} {aab U8:Option Addr} {abq:Array (Option Value)} {ZE YN WK aaJ P5 VS:Value}
  {RF:Addr} {aac U9:Option Addr} {abr:Array (Option Value)} {ZF YO WL aaK P6 VT:Value}
  {RG:Addr} {aad Va:Option Addr} {abt:Array (Option Value)} {ZG YQ WM aaL P7 VU:Value}
  {RH:Addr} {aae Vb:Option Addr} {abu:Array (Option Value)} {ZH YR WN aaM P8 VV:Value}
  {RJ:Addr} {aaf Vc:Option Addr} {abv:Array (Option Value)} {ZI YS WO aaN P9 VW:Value}
  {RK:Addr} {aag Vd:Option Addr} {abw:Array (Option Value)} {ZJ YT WQ aaO Qa VX:Value}
  {RL:Addr} {aah Ve:Option Addr} {abx:Array (Option Value)} {ZK YU WR aaP Qb VY:Value}
  {RM:Addr} {aai Vf:Option Addr} {aby:Array (Option Value)} {ZL YV WS aaQ Qc VZ:Value}
  {RN:Addr} {aaj Vg:Option Addr} {abz:Array (Option Value)} {ZM YW WT aaR Qd V0:Value}
  {RO:Addr} {aak Vh:Option Addr} {abA:Array (Option Value)} {ZN YX WU aaS Qe V1:Value}
  {RP:Addr} {aal Vi:Option Addr} {abB:Array (Option Value)} {ZO YY WV aaT Qf V2:Value}
  {RQ:Addr} {aam Vj:Option Addr} {abC:Array (Option Value)} {ZP YZ WW aaU Qg V3:Value}
  {f:Addr} {jd0 jn0:Option Addr} {js0:Array (Option Value)} {jc0 jk0 jo0 jp0 Yo jt0:Value}
  {g:Addr} {jd1 jn1:Option Addr} {js1:Array (Option Value)} {jc1 jk1 jo1 jp1 Yp jt1:Value}
  {i:Addr} {jd2 jn2:Option Addr} {js2:Array (Option Value)} {jc2 jk2 jo2 jp2 Yq jt2:Value}
  {j:Addr} {jd3 jn3:Option Addr} {js3:Array (Option Value)} {jc3 jk3 jo3 jp3 Yr jt3:Value}
  {k:Addr} {jd4 jn4:Option Addr} {js4:Array (Option Value)} {jc4 jk4 jo4 jp4 Ys jt4:Value}
  {m:Addr} {jd5 jn5:Option Addr} {js5:Array (Option Value)} {jc5 jk5 jo5 jp5 Yt jt5:Value}
  (gC:PySem.W.nsIn K mainGlobals "Web"=some (some (.ref C)))
  (a0:eJ K "round_from" o)
  (l0:dE K "round_from" "round_from" mv o p q r t u x y Vl z)
  (c0:PySem.W.codeIn K Vl "round_from"=true)
  (k0:PySem.W.keepIn K (.ref o)=true)
  (a1:eJ K "lands" A)
  (l1:dE K "lands" "lands" pT A B E F H I J BH Vm L)
  (c1:PySem.W.codeIn K Vm "lands"=true)
  (k1:PySem.W.keepIn K (.ref A)=true)
  (a2:eJ K "count" M)
  (l2:dE K "count" "count" yN M N O sy Q R S FX Vn U)
  (c2:PySem.W.codeIn K Vn "count"=true)
  (k2:PySem.W.keepIn K (.ref M)=true)
  (a3:eJ K "is_plane" Y)
  (l3:dE K "is_plane" "is_plane" pR Y od3 an3 sl3 oc3 kV3 dc3 pm3 Vo ct3)
  (c3:PySem.W.codeIn K Vo "is_plane"=true)
  (k3:PySem.W.keepIn K (.ref Y)=true)
  (a4:eJ K "need_plane" d4)
  (l4:dE K "need_plane" "need_plane" mj d4 od4 an4 sl4 oc4 kV4 dc4 pm4 Vp ct4)
  (c4:PySem.W.codeIn K Vp "need_plane"=true)
  (k4:PySem.W.keepIn K (.ref d4)=true)
  (a5:eJ K "chain" d5)
  (l5:dE K "chain" "chain" yM d5 od5 an5 sl5 oc5 kV5 dc5 pm5 Vq ct5)
  (c5:PySem.W.codeIn K Vq "chain"=true)
  (k5:PySem.W.keepIn K (.ref d5)=true)
  (a6:eJ K "exchanged" d6)
  (l6:dE K "exchanged" "exchanged" nV d6 od6 an6 sl6 oc6 kV6 dc6 pm6 Vr ct6)
  (c6:PySem.W.codeIn K Vr "exchanged"=true)
  (k6:PySem.W.keepIn K (.ref d6)=true)
  (a7:eJ K "least_free" d7)
  (l7:dE K "least_free" "least_free" mh d7 od7 an7 sl7 oc7 kV7 dc7 pm7 Vs ct7)
  (c7:PySem.W.codeIn K Vs "least_free"=true)
  (k7:PySem.W.keepIn K (.ref d7)=true)
  (a8:eJ K "freeing_exchange" d8)
  (l8:dE K "freeing_exchange" "freeing_exchange" gD d8 od8 an8 sl8 oc8 kV8 dc8 pm8 Vt ct8)
  (c8:PySem.W.codeIn K Vt "freeing_exchange"=true)
  (k8:PySem.W.keepIn K (.ref d8)=true)
  (a9:eJ K "dye_given" d9)
  (l9:dE K "dye_given" "dye_given" iD d9 od9 an9 sl9 oc9 kV9 dc9 pm9 Vu ct9)
  (c9:PySem.W.codeIn K Vu "dye_given"=true)
  (k9:PySem.W.keepIn K (.ref d9)=true)
  (a10:eJ K "order_of_five" Ri)
  (l10:dE K "order_of_five" "order_of_five" gq Ri ZQ UO aa7 Zk Yu Wo aap PD Vy)
  (c10:PySem.W.codeIn K PD "order_of_five"=true)
  (k10:PySem.W.keepIn K (.ref Ri)=true)
  (a11:eJ K "five_dyes" Rj)
  (l11:dE K "five_dyes" "five_dyes" jT Rj ZR UP aa8 Zl Yv Wq aaq PF Vz)
  (c11:PySem.W.codeIn K PF "five_dyes"=true)
  (k11:PySem.W.keepIn K (.ref Rj)=true)
  (a12:eJ K "is_among" Rk)
  (l12:dE K "is_among" "is_among" pQ Rk ZS UQ aa9 Zm Yw Wr aar PH VA)
  (c12:PySem.W.codeIn K PH "is_among"=true)
  (k12:PySem.W.keepIn K (.ref Rk)=true)
  (a13:eJ K "alien_fault" Rm)
  (Tp:dE K "alien_fault" "alien_fault" kz Rm ZT UR aba Zn Yx Ws aas PJ VB)
  (c13:PySem.W.codeIn K PJ "alien_fault"=true)
  (k13:PySem.W.keepIn K (.ref Rm)=true)
  (a14:eJ K "self_fault" Rn)
  (l14:dE K "self_fault" "self_fault" mw Rn ZU US abb Zo Yy Wt aau PK VC)
  (c14:PySem.W.codeIn K PK "self_fault"=true)
  (k14:PySem.W.keepIn K (.ref Rn)=true)
  (a15:eJ K "twice_fault" Ro)
  (l15:dE K "twice_fault" "twice_fault" kC Ro ZV UT abc Zp Yz Wu aav PL VD)
  (c15:PySem.W.codeIn K PL "twice_fault"=true)
  (k15:PySem.W.keepIn K (.ref Ro)=true)
  (a16:eJ K "lone_fault" Rp)
  (l16:dE K "lone_fault" "lone_fault" mi Rp ZW UU abd Zq YA Wv aaw PM VE)
  (c16:PySem.W.codeIn K PM "lone_fault"=true)
  (k16:PySem.W.keepIn K (.ref Rp)=true)
  (a17:eJ K "reached_from_first" Rq)
  (l17:dE K "reached_from_first" "reached_from_first" dP Rq ZX UW abe Zr YB Ww aax PN VF)
  (c17:PySem.W.codeIn K PN "reached_from_first"=true)
  (k17:PySem.W.keepIn K (.ref Rq)=true)
  (a18:eJ K "apart_fault" Rt)
  (l18:dE K "apart_fault" "apart_fault" kA Rt ZY UX abf Zs YC Wx aay PQ VG)
  (c18:PySem.W.codeIn K PQ "apart_fault"=true)
  (k18:PySem.W.keepIn K (.ref Rt)=true)
  (a19:eJ K "first_fault" Ru)
  (l19:dE K "first_fault" "first_fault" kB Ru ZZ UY abg Zt YD Wz aaz PR VH)
  (c19:PySem.W.codeIn K PR "first_fault"=true)
  (k19:PySem.W.keepIn K (.ref Ru)=true)
  (a20:eJ K "need_at_most" Rv)
  (l20:dE K "need_at_most" "need_at_most" jE Rv Z0 UZ abh Zu YE WA aaA PU VI)
  (c20:PySem.W.codeIn K PU "need_at_most"=true)
  (k20:PySem.W.keepIn K (.ref Rv)=true)
  (a21:eJ K "led_with" Rw)
  (l21:dE K "led_with" "led_with" lg Rw Z3 U0 abi Zv YF WB aaB PV VJ)
  (c21:PySem.W.codeIn K PV "led_with"=true)
  (k21:PySem.W.keepIn K (.ref Rw)=true)
  (a22:eJ K "led" Rx)
  (l22:dE K "led" "led" BO Rx Z4 U1 abj Zw YG WC aaC PX VL)
  (c22:PySem.W.codeIn K PX "led"=true)
  (k22:PySem.W.keepIn K (.ref Rx)=true)
  (a23:eJ K "_law_cell_at" Ry)
  (l23:dE K "_law_cell_at" "_law_cell_at" jB Ry Z5 U2 abk Zx YH WD aaD PY VM)
  (c23:PySem.W.codeIn K PY "_law_cell_at"=true)
  (k23:PySem.W.keepIn K (.ref Ry)=true)
  (a24:eJ K "_law_reserve" Rz)
  (l24:dE K "_law_reserve" "_law_reserve" jD Rz Z6 U3 abl Zy YI WE aaE PZ VN)
  (c24:PySem.W.codeIn K PZ "_law_reserve"=true)
  (k24:PySem.W.keepIn K (.ref Rz)=true)
  (a25:eJ K "_law_draws" RA)
  (l25:dE K "_law_draws" "_law_draws" lY RA Z7 U4 abm Zz YJ WG aaF P0 VO)
  (c25:PySem.W.codeIn K P0 "_law_draws"=true)
  (k25:PySem.W.keepIn K (.ref RA)=true)
  (a26:eJ K "_law_lands" RB)
  (l26:dE K "_law_lands" "_law_lands" lZ RB Z8 U5 abn ZA YK WH aaG P1 VP)
  (c26:PySem.W.codeIn K P1 "_law_lands"=true)
  (k26:PySem.W.keepIn K (.ref RB)=true)
  (a27:eJ K "_law_places" RC)
  (l27:dE K "_law_places" "_law_places" iC RC Z9 U6 abo ZC YL WI aaH P2 VQ)
  (c27:PySem.W.codeIn K P2 "_law_places"=true)
  (k27:PySem.W.keepIn K (.ref RC)=true)
  (a28:eJ K "_law_grown" RD)
  (l28:dE K "_law_grown" "_law_grown" i8 RD aaa U7 abp ZD YM WJ aaI P4 VR)
  (c28:PySem.W.codeIn K P4 "_law_grown"=true)
  (k28:PySem.W.keepIn K (.ref RD)=true)
  (a29:eJ K "_law_web" RE)
  (l29:dE K "_law_web" "_law_web" pP RE aab U8 abq ZE YN WK aaJ P5 VS)
  (c29:PySem.W.codeIn K P5 "_law_web"=true)
  (k29:PySem.W.keepIn K (.ref RE)=true)
  (a30:eJ K "_law_named" RF)
  (l30:dE K "_law_named" "_law_named" ja RF aac U9 abr ZF YO WL aaK P6 VT)
  (c30:PySem.W.codeIn K P6 "_law_named"=true)
  (k30:PySem.W.keepIn K (.ref RF)=true)
  (a31:eJ K "_law_dyeing" RG)
  (l31:dE K "_law_dyeing" "_law_dyeing" f7 RG aad Va abt ZG YQ WM aaL P7 VU)
  (c31:PySem.W.codeIn K P7 "_law_dyeing"=true)
  (k31:PySem.W.keepIn K (.ref RG)=true)
  (a32:eJ K "_law_whole" RH)
  (l32:dE K "_law_whole" "_law_whole" mf RH aae Vb abu ZH YR WN aaM P8 VV)
  (c32:PySem.W.codeIn K P8 "_law_whole"=true)
  (k32:PySem.W.keepIn K (.ref RH)=true)
  (a33:eJ K "_law_full" RJ)
  (l33:dE K "_law_full" "_law_full" jS RJ aaf Vc abv ZI YS WO aaN P9 VW)
  (c33:PySem.W.codeIn K P9 "_law_full"=true)
  (k33:PySem.W.keepIn K (.ref RJ)=true)
  (a34:eJ K "_law_drawn" RK)
  (l34:dE K "_law_drawn" "_law_drawn" lX RK aag Vd abw ZJ YT WQ aaO Qa VX)
  (c34:PySem.W.codeIn K Qa "_law_drawn"=true)
  (k34:PySem.W.keepIn K (.ref RK)=true)
  (a35:eJ K "_law_sure" RL)
  (l35:dE K "_law_sure" "_law_sure" nU RL aah Ve abx ZK YU WR aaP Qb VY)
  (c35:PySem.W.codeIn K Qb "_law_sure"=true)
  (k35:PySem.W.keepIn K (.ref RL)=true)
  (a36:eJ K "_law_dyes" RM)
  (l36:dE K "_law_dyes" "_law_dyes" nS RM aai Vf aby ZL YV WS aaQ Qc VZ)
  (c36:PySem.W.codeIn K Qc "_law_dyes"=true)
  (k36:PySem.W.keepIn K (.ref RM)=true)
  (a37:eJ K "_law_changed" RN)
  (l37:dE K "_law_changed" "_law_changed" fF RN aaj Vg abz ZM YW WT aaR Qd V0)
  (c37:PySem.W.codeIn K Qd "_law_changed"=true)
  (k37:PySem.W.keepIn K (.ref RN)=true)
  (a38:eJ K "_law_is_move" RO)
  (l38:dE K "_law_is_move" "_law_is_move" jC RO aak Vh abA ZN YX WU aaS Qe V1)
  (c38:PySem.W.codeIn K Qe "_law_is_move"=true)
  (k38:PySem.W.keepIn K (.ref RO)=true)
  (a39:eJ K "_law_leads" RP)
  (l39:dE K "_law_leads" "_law_leads" i9 RP aal Vi abB ZO YY WV aaT Qf V2)
  (c39:PySem.W.codeIn K Qf "_law_leads"=true)
  (k39:PySem.W.keepIn K (.ref RP)=true)
  (UL:eJ K "law" RQ)
  (l40:dE K "law" "law" F6 RQ aam Vj abC ZP YZ WW aaU Qg V3)
  (c40:PySem.W.codeIn K Qg "law"=true)
  (k40:PySem.W.keepIn K (.ref RQ)=true)
  (m0:PySem.W.findIn K (.ref C) "__init__"=some (some (.ref f)))
  (f0:PySem.W.isFn K (.ref f)=true)
  (ml0:dE K "__init__" "Web.__init__" fE f jd0 jn0 js0 jc0 jk0 jo0 jp0 Yo jt0)
  (mc0:PySem.W.codeIn K Yo "Web.__init__"=true)
  (mk0:PySem.W.keepIn K (.ref f)=true)
  (m1:PySem.W.findIn K (.ref C) "many"=some (some (.ref g)))
  (f1:PySem.W.isFn K (.ref g)=true)
  (ml1:dE K "many" "Web.many" pO g jd1 jn1 js1 jc1 jk1 jo1 jp1 Yp jt1)
  (mc1:PySem.W.codeIn K Yp "Web.many"=true)
  (mk1:PySem.W.keepIn K (.ref g)=true)
  (m2:PySem.W.findIn K (.ref C) "turns"=some (some (.ref i)))
  (f2:PySem.W.isFn K (.ref i)=true)
  (ml2:dE K "turns" "Web.turns" jR i jd2 jn2 js2 jc2 jk2 jo2 jp2 Yq jt2)
  (mc2:PySem.W.codeIn K Yq "Web.turns"=true)
  (mk2:PySem.W.keepIn K (.ref i)=true)
  (m3:PySem.W.findIn K (.ref C) "ties"=some (some (.ref j)))
  (f3:PySem.W.isFn K (.ref j)=true)
  (ml3:dE K "ties" "Web.ties" kZ j jd3 jn3 js3 jc3 jk3 jo3 jp3 Yr jt3)
  (mc3:PySem.W.codeIn K Yr "Web.ties"=true)
  (mk3:PySem.W.keepIn K (.ref j)=true)
  (m4:PySem.W.findIn K (.ref C) "tied"=some (some (.ref k)))
  (f4:PySem.W.isFn K (.ref k)=true)
  (ml4:dE K "tied" "Web.tied" vN k jd4 jn4 js4 jc4 jk4 jo4 jp4 Ys jt4)
  (mc4:PySem.W.codeIn K Ys "Web.tied"=true)
  (mk4:PySem.W.keepIn K (.ref k)=true)
  (m5:PySem.W.findIn K (.ref C) "behind"=some (some (.ref m)))
  (f5:PySem.W.isFn K (.ref m)=true)
  (ml5:dE K "behind" "Web.behind" lW m jd5 jn5 js5 jc5 jk5 jo5 jp5 Yt jt5)
  (mc5:PySem.W.codeIn K Yt "Web.behind"=true)
  (mk5:PySem.W.keepIn K (.ref m)=true)
  (pgC:PySem.W.plainGet K C Str.empty=true)
  (NK:PySem.W.hasDictIn K C=true)
  (poC:PySem.W.plainOver K C=true)
  (saC:PySem.W.findIn K (.ref C) "__setattr__"=some (some (.builtin "object.__setattr__")))
  (mkC:PySem.W.makesIn K C=true)
  (kpC:PySem.W.keepIn K (.ref C)=true)
  (nR:PySem.W.findIn K (.ref C) "rows"=some none)
  (Vx:PySem.W.nsIn K mainGlobals "__name__"=some (some (.str "law_mapdye_k84_whole_one_dyeing_led_to_anoth" d)))
  (cc1:PySem.W.nsIn K mainGlobals "MOST_POINTS"=some (some (.int 14 Pk)))
  (cc2:PySem.W.nsIn K mainGlobals "MOST_LED"=some (some (.int 10 MX)))
  (cc3:PySem.W.nsIn K mainGlobals "FEWEST_DYES"=some (some (.int 7 c)))
  (abZ:PySem.W.nsIn K mainGlobals "len"=some none)
  (Pq:PySem.W.nsIn K mainGlobals "range"=some none)
  (ab0:PySem.W.nsIn K mainGlobals "max"=some none)
  (ab1:PySem.W.nsIn K mainGlobals "min"=some none)
  (Es:PySem.W.nsIn K mainGlobals "enumerate"=some none)
  (ab4:PySem.W.nsIn K mainGlobals "zip"=some none)
  (M4:PySem.W.nsIn K mainGlobals "sorted"=some none)
  (abX:PySem.W.nsIn K mainGlobals "all"=some none)
  (BZ:PySem.W.nsIn K mainGlobals "isinstance"=some none)
  (abY:PySem.W.nsIn K mainGlobals "int"=some none)
  (Uw:PySem.W.nsIn K mainGlobals "bool"=some none)
  (Ux:PySem.W.nsIn K mainGlobals "list"=some none)
  (Pt:PySem.W.nsIn K mainGlobals "tuple"=some none)
  (ab3:PySem.W.nsIn K mainGlobals "sum"=some none)
  (Gv:PySem.W.nsIn K mainGlobals "reversed"=some none)
  (ab2:PySem.W.nsIn K mainGlobals "set"=some none)
  :∃fd:FuncData,(∀(s:Shared)(v:Value),BindsTo s fd ⟨[v],[]⟩ [("_law_script",v)])/\∀base:Heap,K.In base->base.Ns mainGlobals b->FnOk l.prog w K b base b9 40 fa fd ["_law_script"] (L2.uc K):=by
 have e:=n.symm.trans (acu X G UL);cases e;have E0:=tF (st:=fE) ml0 mc0 mk0;have e0:=E0.binds (ps:= ["self","turns"]) (λ_ _ _ _ _ _ _ a=>by obtain⟨_,_,rfl⟩:=L2.n9 a;rfl)
 let Z:DC:=⟨K,C⟩
 let T:Txt Z b:=⟨⟨IR X G abZ,IR X G Pq,IR X G ab0,IR X G ab1,IR X G Es,IR X G ab4,IR X G M4,IR X G abX,IR X G BZ,IR X G abY,IR X G Uw,IR X G Ux,IR X G Pt,IR X G ab3,IR X G Gv⟩,IR X G ab2, .of X G a0 l0 c0 k0 (λ_ _ _ _ _ _ _ a=>by obtain⟨_,_,rfl⟩:=L2.n9 a;rfl), .of X G a1 l1 c1 k1 (λ_ _ _ _ _ _ _ a=>by obtain⟨_,rfl⟩:=L2.fX a;rfl), .of X G a2 l2 c2 k2 (λ_ _ _ _ _ _ _ a=>by obtain⟨_,rfl⟩:=L2.fX a;rfl), .of X G a3 l3 c3 k3 (λ_ _ _ _ _ _ _ a=>by obtain⟨_,rfl⟩:=L2.fX a;rfl), .of X G a4 l4 c4 k4 (λ_ _ _ _ _ _ _ a=>by obtain⟨_,rfl⟩:=L2.fX a;rfl), .of X G a5 l5 c5 k5 (λ_ _ _ _ _ _ _ a=>by obtain⟨_,_,_,_,rfl⟩:=L2.yd a;rfl), .of X G a6 l6 c6 k6 (λ_ _ _ _ _ _ _ a=>by obtain⟨_,_,_,_,rfl⟩:=L2.yd a;rfl), .of X G a7 l7 c7 k7 (λ_ _ _ _ _ _ _ a=>by obtain⟨_,_,rfl⟩:=L2.n9 a;rfl), .of X G a8 l8 c8 k8 (λ_ _ _ _ _ _ _ a=>by obtain⟨_,_,_,rfl⟩:=L2.yc a;rfl), .of X G a9 l9 c9 k9 (λ_ _ _ _ _ _ _ a=>by obtain⟨_,_,_,_,rfl⟩:=L2.yd a;rfl), .of X G a10 l10 c10 k10 (λ_ _ _ _ _ _ _ a=>by obtain⟨_,rfl⟩:=L2.fX a;rfl), .of X G a11 l11 c11 k11 (λ_ _ _ _ _ _ _ a=>by obtain⟨_,rfl⟩:=L2.fX a;rfl), .of X G a12 l12 c12 k12 (λ_ _ _ _ _ _ _ a=>by obtain⟨_,_,rfl⟩:=L2.n9 a;rfl), .of X G a13 Tp c13 k13 (λ_ _ _ _ _ _ _ a=>by obtain⟨_,rfl⟩:=L2.fX a;rfl), .of X G a14 l14 c14 k14 (λ_ _ _ _ _ _ _ a=>by obtain⟨_,rfl⟩:=L2.fX a;rfl), .of X G a15 l15 c15 k15 (λ_ _ _ _ _ _ _ a=>by obtain⟨_,rfl⟩:=L2.fX a;rfl), .of X G a16 l16 c16 k16 (λ_ _ _ _ _ _ _ a=>by obtain⟨_,rfl⟩:=L2.fX a;rfl), .of X G a17 l17 c17 k17 (λ_ _ _ _ _ _ _ a=>by obtain⟨_,rfl⟩:=L2.fX a;rfl), .of X G a18 l18 c18 k18 (λ_ _ _ _ _ _ _ a=>by obtain⟨_,rfl⟩:=L2.fX a;rfl), .of X G a19 l19 c19 k19 (λ_ _ _ _ _ _ _ a=>by obtain⟨_,rfl⟩:=L2.fX a;rfl), .of X G a20 l20 c20 k20 (λ_ _ _ _ _ _ _ a=>by obtain⟨_,_,rfl⟩:=L2.n9 a;rfl), .of X G a21 l21 c21 k21 (λ_ _ _ _ _ _ _ a=>by obtain⟨_,_,_,_,_,rfl⟩:=L2.QB a;rfl), .of X G a22 l22 c22 k22 (λ_ _ _ _ _ _ _ a=>by obtain⟨_,_,_,_,rfl⟩:=L2.yd a;rfl), .of X G a23 l23 c23 k23 (λ_ _ _ _ _ _ _ a=>by obtain⟨_,_,rfl⟩:=L2.n9 a;rfl), .of X G a24 l24 c24 k24 (λ_ _ _ _ _ _ _ a=>by obtain⟨_,_,rfl⟩:=L2.n9 a;rfl), .of X G a25 l25 c25 k25 (λ_ _ _ _ _ _ _ a=>by obtain⟨_,_,_,rfl⟩:=L2.yc a;rfl), .of X G a26 l26 c26 k26 (λ_ _ _ _ _ _ _ a=>by obtain⟨_,rfl⟩:=L2.fX a;rfl), .of X G a27 l27 c27 k27 (λ_ _ _ _ _ _ _ a=>by obtain⟨_,_,rfl⟩:=L2.n9 a;rfl), .of X G a28 l28 c28 k28 (λ_ _ _ _ _ _ _ a=>by obtain⟨_,_,_,rfl⟩:=L2.yc a;rfl), .of X G a29 l29 c29 k29 (λ_ _ _ _ _ _ _ a=>by obtain⟨_,rfl⟩:=L2.fX a;rfl), .of X G a30 l30 c30 k30 (λ_ _ _ _ _ _ _ a=>by obtain⟨_,_,rfl⟩:=L2.n9 a;rfl), .of X G a31 l31 c31 k31 (λ_ _ _ _ _ _ _ a=>by obtain⟨_,_,_,_,rfl⟩:=L2.yd a;rfl), .of X G a32 l32 c32 k32 (λ_ _ _ _ _ _ _ a=>by obtain⟨_,rfl⟩:=L2.fX a;rfl), .of X G a33 l33 c33 k33 (λ_ _ _ _ _ _ _ a=>by obtain⟨_,_,rfl⟩:=L2.n9 a;rfl), .of X G a34 l34 c34 k34 (λ_ _ _ _ _ _ _ a=>by obtain⟨_,rfl⟩:=L2.fX a;rfl), .of X G a35 l35 c35 k35 (λ_ _ _ _ _ _ _ a=>by obtain⟨_,_,rfl⟩:=L2.n9 a;rfl), .of X G a36 l36 c36 k36 (λ_ _ _ _ _ _ _ a=>by obtain⟨_,rfl⟩:=L2.fX a;rfl), .of X G a37 l37 c37 k37 (λ_ _ _ _ _ _ _ a=>by obtain⟨_,_,_,_,rfl⟩:=L2.yd a;rfl), .of X G a38 l38 c38 k38 (λ_ _ _ _ _ _ _ a=>by obtain⟨_,_,_,rfl⟩:=L2.yc a;rfl), .of X G a39 l39 c39 k39 (λ_ _ _ _ _ _ _ a=>by obtain⟨_,_,_,_,_,rfl⟩:=L2.QB a;rfl), .of X G UL l40 c40 k40 (λ_ _ _ _ _ _ _ a=>by obtain⟨_,rfl⟩:=L2.fX a;rfl),⟨⟨pgC,NK,poC,saC⟩,nR⟩,acu X G gC,f,_,E0,⟨mkC,m0,f0,kpC⟩,e0, .of m1 f1 ml1 mc1 mk1 (λ_ _ _ _ _ _ _ a=>by obtain⟨_,rfl⟩:=L2.fX a;rfl), .of m2 f2 ml2 mc2 mk2 (λ_ _ _ _ _ _ _ a=>by obtain⟨_,rfl⟩:=L2.fX a;rfl), .of m3 f3 ml3 mc3 mk3 (λ_ _ _ _ _ _ _ a=>by obtain⟨_,rfl⟩:=L2.fX a;rfl), .of m4 f4 ml4 mc4 mk4 (λ_ _ _ _ _ _ _ a=>by obtain⟨_,_,_,rfl⟩:=L2.yc a;rfl), .of m5 f5 ml5 mc5 mk5 (λ_ _ _ _ _ _ _ a=>by obtain⟨_,_,_,rfl⟩:=L2.yc a;rfl),⟨d,acu X G Vx⟩,⟨Pk,acu X G cc1⟩,⟨MX,acu X G cc2⟩,⟨c,acu X G cc3⟩⟩
 exact⟨_,λs v=> .of_eq rfl,λbase _ _=>(((Om (P:=l.prog) (w:=w) (base:=base) T).mono (by decide)).imp (L2.N6 (Z:=Z)))⟩
theorem walk{l:PySem.W.OpenLaw}{q:Program}{a:List Str}{i:(Str->Option Value)->Heap->Prop}{c:World->Heap->Prop}{d:DefRec}{K:Params->PySem.W.Frag}(j:l.most=some 63)(k:d.params.defaults= [])
  (m:∀(w:World)(h:Heap),c w h->(K w.params).In h)
  (F:∀(w:World)(b:Str->Option Value)(e:Addr)(h:Heap),(K w.params).In h->h.Ns mainGlobals b->b d.name=some (.ref e)->
   ∃g:FuncData,(∀(s:Shared)(u:Value),BindsTo s g ⟨[u],[]⟩ [("_law_script",u)])/\∀base:Heap,(K w.params).In base->base.Ns mainGlobals b->FnOk l.prog w (K w.params) b base b9 40 e g ["_law_script"] (uc (K w.params))):
  PySem.W.WalkO q a i c l.row.toRowW d [] (λf n=>PySem.call f n):=L2.Us 40 (by decide) j k m F
end xg
def PySem.W.Fast.tw10707304361959323339:Nat:=0
def PySem.W.Fast.tw4462730865887205156:Nat:=0
def PySem.W.Fast.tw2161928884398688930:Nat:=0
def PySem.W.Fast.tw13816304051566501345:Nat:=0
def PySem.W.Fast.tw17956232376805051532:Nat:=0
def PySem.W.Fast.tw2301250861143654036:Nat:=0
def PySem.W.Fast.tw64557793441165209:Nat:=0
def PySem.W.Fast.tw9333318565864634523:Nat:=0
def PySem.W.Fast.tw15949688229195402016:Nat:=0
def PySem.W.Fast.tw7240625725481911630:Nat:=0
def PySem.W.Fast.tw10770153477029761361:Nat:=0
def PySem.W.Fast.tw11354996739660439156:Nat:=0
def PySem.W.Fast.tw13339186480740022777:Nat:=0
def PySem.W.Fast.tw15125613136268290155:Nat:=0
def PySem.W.Fast.tw18184446264446354749:Nat:=0
def PySem.W.Fast.tw1286806130339240912:Nat:=0
def PySem.W.Fast.tw1042302118885633176:Nat:=0
def PySem.W.Fast.tw12536469646944526291:Nat:=0
def PySem.W.Fast.tw18271794787425596916:Nat:=0
def PySem.W.Fast.tw9252704974316629064:Nat:=0
def PySem.W.Fast.tw4629654113418480672:Nat:=0
def PySem.W.Fast.tw7486724551439884795:Nat:=0
def PySem.W.Fast.tw17697708493789015895:Nat:=0
def PySem.W.Fast.tw17320330710211736084:Nat:=0
def PySem.W.Fast.tw1981437622395551805:Nat:=0
def PySem.W.Fast.tw13633591781448703590:Nat:=0
def PySem.W.Fast.tw9027230842974833957:Nat:=0
def PySem.W.Fast.tw1787776970856903837:Nat:=0
def PySem.W.Fast.tw9792861422239736398:Nat:=0
def PySem.W.Fast.tw10533274007296777954:Nat:=0
def PySem.W.Fast.tw18392414078763652720:Nat:=0
def PySem.W.Fast.tw16648193100636004043:Nat:=0
def PySem.W.Fast.tw11196835640575236120:Nat:=0
def PySem.W.Fast.tw9468891960951748834:Nat:=0
def PySem.W.Fast.tw13615702403048370776:Nat:=0
def PySem.W.Fast.tw2246487413914233802:Nat:=0
def PySem.W.Fast.tw377557137218839786:Nat:=0
def PySem.W.Fast.tw1948474144598547204:Nat:=0
def PySem.W.Fast.tw4606952698936346248:Nat:=0
def PySem.W.Fast.tw15487126637710762090:Nat:=0
def PySem.W.Fast.tw17192289806248507449:Nat:=0
def PySem.W.Fast.tw13461015788452113730:Nat:=0
def PySem.W.Fast.tw14498957778983388440:Nat:=0
def PySem.W.Fast.tw15833679152250476883:Nat:=0
def PySem.W.Fast.tw149503057371119417:Nat:=0
def PySem.W.Fast.tw8596237367849973531:Nat:=0
def PySem.W.Fast.tw17828113987898596013:Nat:=0
def PySem.W.Fast.tw13168576338461341361:Nat:=0
def PySem.W.Fast.tw13167538827189737838:Nat:=0
def PySem.W.Fast.tw16113393491444969147:Nat:=0
def PySem.W.Fast.tw4232626857912839631:Nat:=0
def PySem.W.Fast.tw12354673161519926227:Nat:=0
def PySem.W.Fast.tw9770614667810277926:Nat:=0
def PySem.W.Fast.tw2194076139555097007:Nat:=0
def PySem.W.Fast.tw1096694299507451626:Nat:=0
def PySem.W.Fast.tw1894410534735563265:Nat:=0
def PySem.W.Fast.tw13431226849123540508:Nat:=0
def PySem.W.Fast.tw6527965362365984120:Nat:=0
def PySem.W.Fast.tw15734823999064852968:Nat:=0
def PySem.W.Fast.tw9982084140393903122:Nat:=0
def PySem.W.Fast.tw5830077275319567137:Nat:=0
def PySem.W.Fast.tw16425807290788372851:Nat:=0
def PySem.W.Fast.tw4674474157457431472:Nat:=0
def PySem.W.Fast.tw14301799225174118121:Nat:=0
def PySem.W.Fast.tw6240934955130658559:Nat:=0
def PySem.W.Fast.tw1834625432041209805:Nat:=0
def PySem.W.Fast.tw321113970170262195:Nat:=0
def PySem.W.Fast.tw12690547164553020947:Nat:=0
def PySem.W.Fast.tw12979362639222718254:Nat:=0
def PySem.W.Fast.tw1970909785817779174:Nat:=0
def PySem.W.Fast.tw10165860594766523301:Nat:=0
def PySem.W.Fast.tw5149093354683431015:Nat:=0
def PySem.W.Fast.tw902132688880355705:Nat:=0
def PySem.W.Fast.tw18443706455389409722:Nat:=0
def PySem.W.Fast.tw12924948395028573954:Nat:=0
def PySem.W.Fast.tw14787891262383187233:Nat:=0
def PySem.W.Fast.tw5065039926115884855:Nat:=0
def PySem.W.Fast.tw2558507716737131786:Nat:=0
def PySem.W.Fast.tw15429153959816508198:Nat:=0
def PySem.W.Fast.tw3766336101544807615:Nat:=0
def PySem.W.Fast.tw17854032388936138218:Nat:=0
def PySem.W.Fast.tw10373594751989790743:Nat:=0
def PySem.W.Fast.tw11831968005064750772:Nat:=0
def PySem.W.Fast.tw2177956742253311312:Nat:=0
def PySem.W.Fast.tw5275634732963008831:Nat:=0
def PySem.W.Fast.tw7866921405191037662:Nat:=0
def PySem.W.Fast.tw2562786873360442824:Nat:=0
def PySem.W.Fast.tw7231848332624854191:Nat:=0
def PySem.W.Fast.tw13483681135290201586:Nat:=0
def PySem.W.Fast.tw13172784790330783209:Nat:=0
def PySem.W.Fast.tw8972572478522115975:Nat:=0
def PySem.W.Fast.tw3934958745186493718:Nat:=0
def PySem.W.Fast.tw12326399102473758702:Nat:=0
def PySem.W.Fast.tw8441379048118175146:Nat:=0
def PySem.W.Fast.tw985843792088768260:Nat:=0
def PySem.W.Fast.tw18120503954142575111:Nat:=0
def PySem.W.Fast.tw6396212626268859602:Nat:=0
def PySem.W.Fast.tw13846886965706524479:Nat:=0
def PySem.W.Fast.tw12394982780853523423:Nat:=0
def PySem.W.Fast.tw4885028591210347388:Nat:=0
def PySem.W.Fast.tw15401200852252582283:Nat:=0
def PySem.W.Fast.tw9366966486162106014:Nat:=0
def PySem.W.Fast.tw2897545558962729119:Nat:=0
def PySem.W.Fast.tw15444129322663024960:Nat:=0
def PySem.W.Fast.tw4475380543801834569:Nat:=0
def PySem.W.Fast.tw11032228687530472806:Nat:=0
def PySem.W.Fast.tw1753341356761795513:Nat:=0
def PySem.W.Fast.tw10378759055405855439:Nat:=0
def PySem.W.Fast.tw8580090125530383362:Nat:=0
def PySem.W.Fast.tw14710664506429848253:Nat:=0
def PySem.W.Fast.tw16365256555191196591:Nat:=0
def PySem.W.Fast.tw12634861624022993380:Nat:=0
def PySem.W.Fast.tw6396224157767681590:Nat:=0
def PySem.W.Fast.tw5920396249167314219:Nat:=0
def PySem.W.Fast.tw1721908552112395178:Nat:=0
def PySem.W.Fast.tw18133100039580171876:Nat:=0
def PySem.W.Fast.tw16740283999962198911:Nat:=0
def PySem.W.Fast.tw15257124284860127128:Nat:=0
def PySem.W.Fast.tw10710720001449507718:Nat:=0
def PySem.W.Fast.tw4563961397991856068:Nat:=0
def PySem.W.Fast.tw3955183362152708769:Nat:=0
def PySem.W.Fast.tw11287229232749860292:Nat:=0
def PySem.W.Fast.tw10683989353164034943:Nat:=0
def PySem.W.Fast.tw11291868985651926803:Nat:=0
def PySem.W.Fast.tw10850119233224502680:Nat:=0
def PySem.W.Fast.tw12711346303133402598:Nat:=0
def PySem.W.Fast.tw17628637784332078334:Nat:=0
def PySem.W.Fast.tw16095612843622290549:Nat:=0
def PySem.W.Fast.tw8365128284342196852:Nat:=0
def PySem.W.Fast.tw11624167043174047102:Nat:=0
def PySem.W.Fast.tw5482814970404421186:Nat:=0
def PySem.W.Fast.tw9564918831830399204:Nat:=0
def PySem.W.Fast.tw11866442796532282876:Nat:=0
def PySem.W.Fast.tw18141592357369762086:Nat:=0
def PySem.W.Fast.tw70978773564491647:Nat:=0
def PySem.W.Fast.tw10187121240226668343:Nat:=0
def PySem.W.Fast.tw9127779031506762386:Nat:=0
def PySem.W.Fast.tw6178624421252664622:Nat:=0
def PySem.W.Fast.tw11972754600718931571:Nat:=0
def PySem.W.Fast.tw8192640195517710959:Nat:=0
def PySem.W.Fast.tw10327717639010344443:Nat:=0
def PySem.W.Fast.tw10193546374540490674:Nat:=0
def PySem.W.Fast.tw12773873091860636242:Nat:=0
def PySem.W.Fast.tw8501114302151526064:Nat:=0
def PySem.W.Fast.tw14306437167845046174:Nat:=0
def PySem.W.Fast.tw2674664502999578249:Nat:=0
def PySem.W.Fast.tw6012734926286574519:Nat:=0
def PySem.W.Fast.tw5856990721884087246:Nat:=0
def PySem.W.Fast.tw11188551597429470180:Nat:=0
def PySem.W.Fast.tw9766288229962667781:Nat:=0
def PySem.W.Fast.tw14628137953615827250:Nat:=0
def PySem.W.Fast.tw12096675829571669896:Nat:=0
def PySem.W.Fast.tw18305663892627140345:Nat:=0
def PySem.W.Fast.tw13462171342983357645:Nat:=0
def PySem.W.Fast.tw8331632229779636415:Nat:=0
def PySem.W.Fast.tw9572088998772063454:Nat:=0
def PySem.W.Fast.tw1174738798234152168:Nat:=0
def PySem.W.Fast.tw7401401804588884013:Nat:=0
def PySem.W.Fast.tw12039285055268816752:Nat:=0
def PySem.W.Fast.tw10707468163755422613:Nat:=0
def PySem.W.Fast.tw3966658014778920031:Nat:=0
def PySem.W.Fast.tw18142682285185200063:Nat:=0
def PySem.W.Fast.tw11519165491570331086:Nat:=0
def PySem.W.Fast.tw16463179685971069677:Nat:=0
def PySem.W.Fast.tw3093140662697169054:Nat:=0
def PySem.W.Fast.tw16523088291918558164:Nat:=0
def PySem.W.Fast.tw12560127034813668714:Nat:=0
def PySem.W.Fast.tw15534417003682789014:Nat:=0
def PySem.W.Fast.tw18250280234328101598:Nat:=0
def PySem.W.Fast.tw10547091699859336774:Nat:=0
def PySem.W.Fast.tw17251442033713684329:Nat:=0
def PySem.W.Fast.tw10803936867754267743:Nat:=0
def PySem.W.Fast.tw3809516828227515139:Nat:=0
def PySem.W.Fast.tw11796605782566856557:Nat:=0
def PySem.W.Fast.tw15349023495474078202:Nat:=0
def PySem.W.Fast.tw2616044355512331900:Nat:=0
def PySem.W.Fast.tw8154074898149791986:Nat:=0
def PySem.W.Fast.tw8100184466933181825:Nat:=0
def PySem.W.Fast.tw3469973880108452638:Nat:=0
def PySem.W.Fast.tw18012552301309096858:Nat:=0
def PySem.W.Fast.tw6861471364790071905:Nat:=0
def PySem.W.Fast.tw8602681050119275926:Nat:=0
def PySem.W.Fast.tw6152152078423124847:Nat:=0
def PySem.W.Fast.tw18076872904454195837:Nat:=0
def PySem.W.Fast.tw1844725594340318296:Nat:=0
def PySem.W.Fast.tw1721892998584546186:Nat:=0
def PySem.W.Fast.tw18130223967607109110:Nat:=0
def PySem.W.Fast.tw11770006176280061466:Nat:=0
def PySem.W.Fast.tw14616635388452632321:Nat:=0
def PySem.W.Fast.tw5938269144496954006:Nat:=0
def PySem.W.Fast.tw3366844573001834125:Nat:=0
def PySem.W.Fast.tw16949057242907891790:Nat:=0
def PySem.W.Fast.tw16332245701458070670:Nat:=0
def PySem.W.Fast.tw10716560628492110003:Nat:=0
def PySem.W.Fast.tw1264472083180565365:Nat:=0
def PySem.W.Fast.tw15129326272088311432:Nat:=0
def PySem.W.Fast.tw651733142966115806:Nat:=0
def PySem.W.Fast.tw5100386130019170023:Nat:=0
def PySem.W.Fast.tw1206558807317866911:Nat:=0
def PySem.W.Fast.tw13095529831905102812:Nat:=0
def PySem.W.Fast.tw12359121904741930808:Nat:=0
def PySem.W.Fast.tw12848694427522137772:Nat:=0
def PySem.W.Fast.tw9967415817672654022:Nat:=0
def PySem.W.Fast.tw15028724129384039148:Nat:=0
def PySem.W.Fast.tw6143680735781305073:Nat:=0
def PySem.W.Fast.tw3949513296436633939:Nat:=0
def PySem.W.Fast.tw6937077566974720743:Nat:=0
def PySem.W.Fast.tw11223608690738832476:Nat:=0
def PySem.W.Fast.tw14116412971850074387:Nat:=0
def PySem.W.Fast.tw1816706868203079225:Nat:=0
def PySem.W.Fast.tw487500580170070350:Nat:=0
def PySem.W.Fast.tw10068189531206635786:Nat:=0
def PySem.W.Fast.tw9793657942175764124:Nat:=0
def PySem.W.Fast.tw12846919498749092972:Nat:=0
def PySem.W.Fast.tw3660313792646608170:Nat:=0
def PySem.W.Fast.tw10821768155131034425:Nat:=0
def PySem.W.Fast.tw16473933957350772551:Nat:=0
def PySem.W.Fast.tw548427977880917712:Nat:=0
def PySem.W.Fast.tw6120792771940456733:Nat:=0
def PySem.W.Fast.tw4865305519572029894:Nat:=0
def PySem.W.Fast.tw5370062153935749687:Nat:=0
def PySem.W.Fast.tw15121817578755499791:Nat:=0
def PySem.W.Fast.tw16662502024212115718:Nat:=0
def PySem.W.Fast.tw1214683093780750036:Nat:=0
def PySem.W.Fast.tw17291086780797439276:Nat:=0
def PySem.W.Fast.tw3317957972155401637:Nat:=0
def PySem.W.Fast.tw2050133538379243658:Nat:=0
def PySem.W.Fast.tw2511694909702690345:Nat:=0
def PySem.W.Fast.tw13704330222341808734:Nat:=0
def PySem.W.Fast.tw7908794711320213734:Nat:=0
def PySem.W.Fast.tw7342838717272435334:Nat:=0
def PySem.W.Fast.tw2136588633998991459:Nat:=0
def PySem.W.Fast.tw14395059578933793061:Nat:=0
def PySem.W.Fast.tw9096533259252375161:Nat:=0
def PySem.W.Fast.tw1270773559463909530:Nat:=0
def PySem.W.Fast.tw13403864619531048076:Nat:=0
def PySem.W.Fast.tw6469353207015074073:Nat:=0
def PySem.W.Fast.tw8519344097364164276:Nat:=0
def PySem.W.Fast.tw6082937771525691909:Nat:=0
def PySem.W.Fast.tw6312881353193709215:Nat:=0
def PySem.W.Fast.tw3987322571328564820:Nat:=0
def PySem.W.Fast.tw14459391234994858516:Nat:=0
def PySem.W.Fast.tw16088705060996369166:Nat:=0
def PySem.W.Fast.tw10007111179315314395:Nat:=0
def PySem.W.Fast.tw6471282709295670139:Nat:=0
def PySem.W.Fast.tw12045727541624867411:Nat:=0
def PySem.W.Fast.tw3238434125167153847:Nat:=0
def PySem.W.Fast.tw10936834701555777480:Nat:=0
def PySem.W.Fast.tw5624876183583829049:Nat:=0
def PySem.W.Fast.tw10225569284756136504:Nat:=0
def PySem.W.Fast.tw16830003967949882893:Nat:=0
def PySem.W.Fast.tw3880084516473656908:Nat:=0
def PySem.W.Fast.tw4760160628207953829:Nat:=0
def PySem.W.Fast.tw1696362640715259386:Nat:=0
open PySem PySem.W PyProof.Rows
set_option maxRecDepth 100000 in
set_option maxHeartbeats 0 in
theorem PySem.Challenge.cw_mapdye_k84_whole_one_dyeing_led_to_anoth_holds : PySem.Challenge.rw_mapdye_k84_whole_one_dyeing_led_to_anoth.Holds := by
 w_on;o_law;k_head;(case hw=>w_witness2)
 k_fill
 refine xg.walk (l:=PySem.Challenge.rw_mapdye_k84_whole_one_dyeing_led_to_anoth) rfl rfl (λw h Y=>PySem.W.kIn_of Y) ?F
 case F=>
  intro w c d h a G b
  refine' xg.all_mk a G b ?_ ?_ ?_ ?_ ?_ ?_ ?_ ?_ ?_ ?_ ?_ ?_ ?_ ?_ ?_ ?_ ?_ ?_ ?_ ?_ ?_ ?_ ?_ ?_ ?_ ?_ ?_ ?_ ?_ ?_ ?_ ?_ ?_ ?_ ?_ ?_ ?_ ?_ ?_ ?_ ?_ ?_ ?_ ?_ ?_ ?_ ?_ ?_ ?_ ?_ ?_ ?_ ?_ ?_ ?_ ?_ ?_ ?_ ?_ ?_ ?_ ?_ ?_ ?_ ?_ ?_ ?_ ?_ ?_ ?_ ?_ ?_ ?_ ?_ ?_ ?_ ?_ ?_ ?_ ?_ ?_ ?_ ?_ ?_ ?_ ?_ ?_ ?_ ?_ ?_ ?_ ?_ ?_ ?_ ?_ ?_ ?_ ?_ ?_ ?_ ?_ ?_ ?_ ?_ ?_ ?_ ?_ ?_ ?_ ?_ ?_ ?_ ?_ ?_ ?_ ?_ ?_ ?_ ?_ ?_ ?_ ?_ ?_ ?_ ?_ ?_ ?_ ?_ ?_ ?_ ?_ ?_ ?_ ?_ ?_ ?_ ?_ ?_ ?_ ?_ ?_ ?_ ?_ ?_ ?_ ?_ ?_ ?_ ?_ ?_ ?_ ?_ ?_ ?_ ?_ ?_ ?_ ?_ ?_ ?_ ?_ ?_ ?_ ?_ ?_ ?_ ?_ ?_ ?_ ?_ ?_ ?_ ?_ ?_ ?_ ?_ ?_ ?_ ?_ ?_ ?_ ?_ ?_ ?_ ?_ ?_ ?_ ?_ ?_ ?_ ?_ ?_ ?_ ?_ ?_ ?_ ?_ ?_ ?_ ?_ ?_ ?_ ?_ ?_ ?_ ?_ ?_ ?_ ?_ ?_ ?_ ?_ ?_ ?_ ?_ ?_ ?_ ?_ ?_ ?_ ?_ ?_
  all_goals (try (show _=_;k_is))


