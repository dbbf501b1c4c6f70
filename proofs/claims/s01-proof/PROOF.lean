import PyProof.Rows.All
import KE.BitLaws
import KE.KDictList
import KE.KItemsList
import KE.KSortTup
import KE.KTurns
import KE.OsGo
import KE.OsHead
import Open.SpecLaws
import OpenK.AllK
import PyProof.EqAt
import PyProof.EqKinds
import PyProof.ExcArgsOwn
import PyProof.ExcAttrAll.Exception
import PyProof.ExcBaseAll.Exception
import PyProof.ExcInit
import PyProof.InstStoreFacts
import PyProof.Rows.SortG.SortRunsSt
import PyProof.Rows.SortRev
import PyProof.Rows.SortRunsSt
import PyProof.RulesAs
import PyProof.StationsW
import PyProof.TupleCall
import PySem.Challenge.RW0_treestylesdesk_s01_answers
import PySem.Challenge.RW_treestylesdesk_s01_answers
import Wide.All
import Wide.FinOn
import Wide.Seal
set_option maxRecDepth 100000
set_option maxHeartbeats 0
set_option Elab.async false
set_option bootstrap.genMatcherCode false
set_option compiler.extract_closed false
set_option linter.all false
set_option autoImplicit true
set_option relaxedAutoImplicit true
theorem DE:type_of% @Array.getElem?_eq_getElem:=@Array.getElem?_eq_getElem
theorem DF:type_of% @Array.getElem?_eq_none:=@Array.getElem?_eq_none
theorem Aa:type_of% @Array.length_toList:=@Array.length_toList
theorem d6:type_of% @Bool.and_eq_true:=@Bool.and_eq_true
theorem lv:type_of% @Bool.eq_iff_iff:=@Bool.eq_iff_iff
theorem gK:type_of% @Bool.false_eq_true:=@Bool.false_eq_true
theorem gg:type_of% @Bool.false_ne_true:=@Bool.false_ne_true
theorem mV:type_of% @Bool.not_true:=@Bool.not_true
theorem uN:type_of% @Bool.or_eq_true:=@Bool.or_eq_true
theorem nG:type_of% @Int.ofNat.inj:=@Int.ofNat.inj
theorem wM:type_of% @Int.toNat_natCast:=@Int.toNat_natCast
theorem sX:type_of% @List.Nodup.sublist:=@List.Nodup.sublist
theorem wN:type_of% @List.Sublist.map:=@List.Sublist.map
theorem sY:type_of% @List.all_eq_true:=@List.all_eq_true
theorem wO:type_of% @List.any_cons:=@List.any_cons
theorem oY:type_of% @List.any_eq_true:=@List.any_eq_true
theorem wP:type_of% @List.append_assoc:=@List.append_assoc
theorem l7:type_of% @List.append_nil:=@List.append_nil
theorem rq:type_of% @List.append_of_mem:=@List.append_of_mem
theorem uO:type_of% @List.cons.injEq:=@List.cons.injEq
theorem kn:type_of% @List.contains_iff_mem:=@List.contains_iff_mem
theorem Ab:type_of% @List.dropLast_concat_getLast:=@List.dropLast_concat_getLast
theorem iJ:type_of% @List.drop_drop:=@List.drop_drop
theorem wQ:type_of% @List.drop_eq_getElem_cons:=@List.drop_eq_getElem_cons
theorem DG:type_of% @List.eraseIdx_cons_succ:=@List.eraseIdx_cons_succ
theorem nH:type_of% @List.filterMap_cons:=@List.filterMap_cons
theorem Ac:type_of% @List.filter_append:=@List.filter_append
theorem uP:type_of% @List.filter_cons:=@List.filter_cons
theorem wR:type_of% @List.filter_map:=@List.filter_map
theorem nI:type_of% @List.filter_sublist:=@List.filter_sublist
theorem i':type_of% @List.find?_cons:=@List.find?_cons
theorem sZ:type_of% @List.find?_eq_none:=@List.find?_eq_none
theorem oZ:type_of% @List.flatMap_append:=@List.flatMap_append
theorem kN:type_of% @List.flatMap_cons:=@List.flatMap_cons
theorem s6:type_of% @List.flatMap_def:=@List.flatMap_def
theorem wS:type_of% @List.foldl_append:=@List.foldl_append
theorem p8:type_of% @List.foldl_cons:=@List.foldl_cons
theorem kO:type_of% @List.forIn_cons:=@List.forIn_cons
theorem p9:type_of% @List.forIn_nil:=@List.forIn_nil
theorem wT:type_of% @List.getElem?_append_left:=@List.getElem?_append_left
theorem Ad:type_of% @List.getElem?_append_right:=@List.getElem?_append_right
theorem DH:type_of% @List.getElem?_cons_zero:=@List.getElem?_cons_zero
theorem iK:type_of% @List.getElem?_eq_getElem:=@List.getElem?_eq_getElem
theorem Ae:type_of% @List.getElem?_eq_none:=@List.getElem?_eq_none
theorem eX:type_of% @List.getElem?_eq_some_iff:=@List.getElem?_eq_some_iff
theorem hD:type_of% @List.getElem?_map:=@List.getElem?_map
theorem wU:type_of% @List.getElem?_set_self:=@List.getElem?_set_self
theorem wV:type_of% @List.getElem?_take:=@List.getElem?_take
theorem rr:type_of% @List.head?_drop:=@List.head?_drop
theorem dC:type_of% @List.length_append:=@List.length_append
theorem fK:type_of% @List.length_cons:=@List.length_cons
theorem ja:type_of% @List.length_drop:=@List.length_drop
theorem s7:type_of% @List.length_filter_le:=@List.length_filter_le
theorem cc:type_of% @List.length_map:=@List.length_map
theorem wW:type_of% @List.length_nil:=@List.length_nil
theorem uQ:type_of% @List.length_pos_iff:=@List.length_pos_iff
theorem mW:type_of% @List.length_take:=@List.length_take
theorem uR:type_of% @List.lookup_cons:=@List.lookup_cons
theorem hi:type_of% @List.map_append:=@List.map_append
theorem kP:type_of% @List.map_congr_left:=@List.map_congr_left
theorem ck:type_of% @List.map_cons:=@List.map_cons
theorem s8:type_of% @List.map_id:=@List.map_id
theorem ff:type_of% @List.map_map:=@List.map_map
theorem p_:type_of% @List.map_nil:=@List.map_nil
theorem di:type_of% @List.mem_append:=@List.mem_append
theorem lw:type_of% @List.mem_append_left:=@List.mem_append_left
theorem o0:type_of% @List.mem_append_right:=@List.mem_append_right
theorem cr:type_of% @List.mem_cons:=@List.mem_cons
theorem d7:type_of% @List.mem_cons_of_mem:=@List.mem_cons_of_mem
theorem dW:type_of% @List.mem_cons_self:=@List.mem_cons_self
theorem hj:type_of% @List.mem_filter:=@List.mem_filter
theorem Af:type_of% @List.mem_filterMap:=@List.mem_filterMap
theorem l8:type_of% @List.mem_flatMap:=@List.mem_flatMap
theorem wX:type_of% @List.mem_iff_getElem?:=@List.mem_iff_getElem?
theorem dp:type_of% @List.mem_map:=@List.mem_map
theorem o1:type_of% @List.mem_map_of_mem:=@List.mem_map_of_mem
theorem s9:type_of% @List.mem_of_find?_eq_some:=@List.mem_of_find?_eq_some
theorem l9:type_of% @List.mem_of_getElem?:=@List.mem_of_getElem?
theorem uS:type_of% @List.mem_range:=@List.mem_range
theorem wY:type_of% @List.mem_range':=@List.mem_range'
theorem ec:type_of% @List.mem_singleton:=@List.mem_singleton
theorem uT:type_of% @List.nil_append:=@List.nil_append
theorem jb:type_of% @List.nodup_append:=@List.nodup_append
theorem hk:type_of% @List.nodup_cons:=@List.nodup_cons
theorem Ag:type_of% @List.pairwise_append:=@List.pairwise_append
theorem wZ:type_of% @List.pairwise_cons:=@List.pairwise_cons
theorem w0:type_of% @List.pairwise_map:=@List.pairwise_map
theorem fL:type_of% @List.size_toArray:=@List.size_toArray
theorem w1:type_of% @List.takeWhile_append_of_pos:=@List.takeWhile_append_of_pos
theorem ko:type_of% @List.take_add_one:=@List.take_add_one
theorem Ah:type_of% @List.take_append_drop:=@List.take_append_drop
theorem lx:type_of% @List.take_length:=@List.take_length
theorem nJ:type_of% @List.zip_cons_cons:=@List.zip_cons_cons
theorem kQ:type_of% @Nat.add_assoc:=@Nat.add_assoc
theorem s_:type_of% @Nat.le_add_right:=@Nat.le_add_right
theorem b5:type_of% @Nat.le_refl:=@Nat.le_refl
theorem gC:type_of% @Nat.le_trans:=@Nat.le_trans
theorem o2:type_of% @Nat.lt_irrefl:=@Nat.lt_irrefl
theorem hl:type_of% @Nat.lt_of_lt_of_le:=@Nat.lt_of_lt_of_le
theorem l_:type_of% @Nat.lt_succ_of_lt:=@Nat.lt_succ_of_lt
theorem p':type_of% @Nat.lt_succ_self:=@Nat.lt_succ_self
theorem iL:type_of% @Nat.ne_of_gt:=@Nat.ne_of_gt
theorem e8:type_of% @Nat.ne_of_lt:=@Nat.ne_of_lt
theorem w2:type_of% @Nat.testBit_or:=@Nat.testBit_or
theorem uU:type_of% @Nat.zero_add:=@Nat.zero_add
theorem eY:type_of% @Nat.zero_le:=@Nat.zero_le
theorem gL:type_of% @Ne.symm:=@Ne.symm
theorem mX:type_of% @Option.map_eq_some_iff:=@Option.map_eq_some_iff
theorem dZ:type_of% @Option.some.inj:=@Option.some.inj
theorem uV:type_of% @Option.some.injEq:=@Option.some.injEq
theorem w3:type_of% @Prod.mk.injEq:=@Prod.mk.injEq
theorem ta:type_of% @PySem.Around.under_plainId:=@PySem.Around.under_plainId
theorem kR:type_of% @PySem.F.plainAttrs_list:=@PySem.F.plainAttrs_list
theorem rt:type_of% @PySem.F.plain_extend_loop:=@PySem.F.plain_extend_loop
theorem Ai:type_of% @PySem.F.slot_dict_itemiterator_next:=@PySem.F.slot_dict_itemiterator_next
theorem mY:type_of% @PySem.F.slot_list_append:=@PySem.F.slot_list_append
theorem nK:type_of% @PySem.F.type_list_append:=@PySem.F.type_list_append
theorem dx:type_of% @PySem.Heap.get?_push_of_some:=@PySem.Heap.get?_push_of_some
theorem fM:type_of% @PySem.Heap.get?_push_size:=@PySem.Heap.get?_push_size
theorem nL:type_of% @PySem.Heap.get?_update_other:=@PySem.Heap.get?_update_other
theorem qa:type_of% @PySem.Heap.get?_update_self:=@PySem.Heap.get?_update_self
theorem dc:type_of% @PySem.Heap.lt_size:=@PySem.Heap.lt_size
theorem jW:type_of% @PySem.Heap.size_push:=@PySem.Heap.size_push
theorem uW:type_of% @PySem.Heap.size_update:=@PySem.Heap.size_update
theorem fu:type_of% @PySem.Paired.length:=@PySem.Paired.length
theorem w4:type_of% @PySem.PassesOwn.leaving:=@PySem.PassesOwn.leaving
theorem kS:type_of% @PySem.PassesOwn.never:=@PySem.PassesOwn.never
theorem jc:type_of% @PySem.Sem.wp_bind':=@PySem.Sem.wp_bind'
theorem l':type_of% @PySem.Sem.wp_pure':=@PySem.Sem.wp_pure'
theorem jd:type_of% @PySem.boot_len:=@PySem.boot_len
theorem tb:type_of% @PySem.codeAny_builtin:=@PySem.codeAny_builtin
theorem ly:type_of% @PySem.mem_of_lookup:=@PySem.mem_of_lookup
theorem uX:type_of% @PySem.plainId_quiet:=@PySem.plainId_quiet
theorem qb:type_of% @PySem.sizeLine_eq:=@PySem.sizeLine_eq
theorem o3:type_of% @PySem.wpAny_Call_Name_kw:=@PySem.wpAny_Call_Name_kw
theorem aH:type_of% @PySem.wpAny_bind:=@PySem.wpAny_bind
theorem o4:type_of% @PySem.wpAny_call_entry:=@PySem.wpAny_call_entry
theorem tc:type_of% @PySem.wpAny_eqBool_int:=@PySem.wpAny_eqBool_int
theorem kT:type_of% @PySem.wpAny_field:=@PySem.wpAny_field
theorem nM:type_of% @PySem.wpAny_holding:=@PySem.wpAny_holding
theorem w5:type_of% @PySem.wpAny_isInstance:=@PySem.wpAny_isInstance
theorem qc:type_of% @PySem.wpAny_loadPart_at:=@PySem.wpAny_loadPart_at
theorem je:type_of% @PySem.wpAny_mono:=@PySem.wpAny_mono
theorem td:type_of% @PySem.wpAny_newObj_type:=@PySem.wpAny_newObj_type
theorem uY:type_of% @PySem.wpAny_passesOwn:=@PySem.wpAny_passesOwn
theorem bp:type_of% @PySem.wpAny_pure:=@PySem.wpAny_pure
theorem uZ:type_of% @PySem.wpAny_setField_rec:=@PySem.wpAny_setField_rec
theorem o5:type_of% @PySem.wpAny_truthy_bool:=@PySem.wpAny_truthy_bool
theorem Aj:type_of% @PySem.wpAny_typeLookup_exc:=@PySem.wpAny_typeLookup_exc
theorem DI:type_of% @PySem.wpAny_typeNameOfWhole_itemiter:=@PySem.wpAny_typeNameOfWhole_itemiter
theorem u0:type_of% @PySem.wpAny_updateSeq:=@PySem.wpAny_updateSeq
theorem ru:type_of% @beq_eq_false_iff_ne:=@beq_eq_false_iff_ne
theorem jX:type_of% @beq_iff_eq:=@beq_iff_eq
theorem iM:type_of% @congrArg:=@congrArg
theorem ma:type_of% @decide_eq_decide:=@decide_eq_decide
theorem cW:type_of% @decide_eq_false:=@decide_eq_false
theorem ej:type_of% @decide_eq_true:=@decide_eq_true
theorem mb:type_of% @decide_eq_true_eq:=@decide_eq_true_eq
theorem fX:type_of% @if_false:=@if_false
theorem aN:type_of% @if_neg:=@if_neg
theorem aV:type_of% @if_pos:=@if_pos
theorem jY:type_of% @if_true:=@if_true
theorem hn:type_of% @not_or:=@not_or
theorem tf:type_of% @of_decide_eq_false:=@of_decide_eq_false
theorem rv:type_of% @of_decide_eq_true:=@of_decide_eq_true
abbrev af:=PySem.Value
abbrev U:=PySem.Addr
abbrev ar:=PySem.Shared
abbrev a5:=PySem.Heap
abbrev bg:=PySem.Program
abbrev b6:=PySem.FuncData
abbrev bb:=PySem.World
abbrev cU:=PySem.Around
abbrev kU:=PySem.DictEntry
abbrev ahl:List PySem.Str:=["document","call","numbers","text"]
abbrev ahm:List PySem.Str:=["tree","sheet","node","property_number"]
abbrev ahn:List PySem.Str:=["self"]
abbrev aho:List PySem.Str:=["self","property_number","value","strong","selector"]
abbrev ahp:List PySem.Str:=["self","sign"]
abbrev ahq:List PySem.Str:=["self","number"]
abbrev ahr:List PySem.Str:=["self","inner"]
abbrev ahs:List PySem.Str:=["tree","sheet","property_number"]
abbrev aht:List PySem.Str:=["self","property_number","value","strong","text"]
abbrev ahu:List PySem.Str:=["tree","sheet","number","node"]
abbrev ahv:List PySem.Str:=["self","rows"]
abbrev ahw:List PySem.Str:=["self","place"]
abbrev ahx:List PySem.Str:=["self","tag"]
abbrev ahy:List PySem.Str:=["self","number","class_number","on"]
abbrev ahz:List PySem.Str:=["self","above","parent","ahead","earlier"]
abbrev ahA:List PySem.Str:=["kind","look"]
abbrev ahB:List PySem.Str:=["self","tag","parent"]
abbrev ahC:List PySem.Str:=["rules","node"]
abbrev ahD:List PySem.Str:=["sheet","number"]
abbrev ahE:List PySem.Str:=["self","parent","tag"]
abbrev ahF:List PySem.Str:=["taken","first"]
abbrev ahG:List PySem.Str:=["test","look"]
abbrev ahH:List PySem.Str:=["self","tag","tests"]
abbrev ahI:List PySem.Str:=["self","signs"]
abbrev ahJ:List PySem.Str:=["text"]
abbrev ahK:List PySem.Str:=["chain","tests","tags","link","outer","kind","name","what"]
abbrev ahL:List PySem.Str:=["tree","sheet","property_number","rows","number","rule"]
abbrev ahM:List PySem.Str:=["tree","text"]
abbrev ahN:List PySem.Str:=["self","chains"]
abbrev ahO:List PySem.Str:=["self","text"]
abbrev ahP:List PySem.Str:=["self","reached"]
abbrev ahQ:List PySem.Str:=["self","look"]
section
open Array (toList_reverse forIn_toList)
open List (range getElem?_set_ne of_mem_zip replicate length all_cons nodup_nil mem_reverse getElem_mem countP_cons Pairwise drop_one isPrefixOf length_tail find?_some Nodup isEmpty_iff filter_congr filter_eq_self cons_append range' all_map)
open Nat (le_of_lt le_of_eq not_lt not_le testBit_and two_pow_pos min_eq_left)
open Option (getD_none isSome_map)
open PyFlat (calls played atMost)
open PySem.F (slot_dict_pop slot_dict_get plainAttrs_dict plain_list_iadd slot_bool_lt entry_extend_loop slot_zip_next)
open PySem.Paired (snoc)
open PySem.PyData (eqv eqvAll canLayAll0 depthAll canLay0 depth)
open PySem.Sem (wp_mono wp_pure)
open PySem.W (instObj methodObj hideAll hideAll_get of_hideAll hideAll_none lookIn plainGet hasDictIn findIn handedIn plainGet_of isFn plainOver takerIn makesIn typeIn emptyDict keepIn callWith_K callWith_K0 fnOf codeIn WRecords WalkOS nsOkIn nsIn isNs_of_in ns_none_of kdl_dict pyHash_slot)
open PyWqahap (shape answers_asked answers)
open Sty (NO FULL says)
open StyNeutral (natural nat text asked1 callOf told)
local macro_rules|`(tactic|w_on)=>`(tactic|decide+kernel)
section
namespace aB
open PySem PySem.Spec PyProof.Rows
abbrev Key:=Sum Int Str
def si:Key->af->Bool
 |.inl k,v=>Value.isInt k v
 |.inr x,v=>Value.isStrOf x v
def ZI (w:bb):Key->Int
 |.inl k=>hashInt k
 |.inr x=>hashStr w x
def nx:∀{k:Key} {v:af},si k v=true->(∃i t,k=Sum.inl i/\v=Value.int i t)\/(∃x t,k=Sum.inr x/\v=Value.str x t)
 |.inl i,v,h=>by obtain⟨t,e⟩:=Value.isInt_shape (k:=i) (v:=v) h;exact .inl ⟨i,t,rfl,e⟩
 |.inr x,v,h=>by obtain⟨t,e⟩:=Value.isStrOf_shape (x:=x) (v:=v) h;exact .inr ⟨x,t,rfl,e⟩
def ZJ (i:Int)(t:Tok):si (.inl i) (.int i t)=true:=by simp[si,Value.isInt]
def ZK (x:Str)(t:Tok):si (.inr x) (.str x t)=true:=by simp[si,Value.isStrOf]
def ZL (a b:Int):decide ((Sum.inl a:Key)=Sum.inl b)=(a==b):=by
 by_cases e:a=b
 ·subst e;simp
 ·have h:¬(Sum.inl a:Key)=Sum.inl b:=λq=>e (Sum.inl.inj q);rw[cW h];exact(ru.mpr e).symm
def ZO (a b:Str):decide ((Sum.inr a:Key)=Sum.inr b)=decide (a=b):=by
 by_cases e:a=b
 ·subst e;simp
 ·have h:¬(Sum.inr a:Key)=Sum.inr b:=λq=>e (Sum.inr.inj q);rw[cW h,cW e]
def ZM (a:Int)(b:Str):decide ((Sum.inl a:Key)=Sum.inr b)=false:=cW (λq=>nomatch q)
def ZN (a:Str)(b:Int):decide ((Sum.inr a:Key)=Sum.inl b)=false:=cW (λq=>nomatch q)
def hN (prog:bg)(w:bb):PySem.KeyKind prog w Key where
 is:=si
 hash:=ZI w
 inj:=λv a b al I=>by
  rcases nx al with⟨i,t,rfl,rfl⟩|⟨x,t,rfl,rfl⟩
  ·rcases nx I with⟨j,u,rfl,e⟩|⟨y,u,rfl,e⟩
   ·injection e with aE _;rw[aE]
   ·exact nomatch e
  ·rcases nx I with⟨j,u,rfl,e⟩|⟨y,u,rfl,e⟩
   ·exact nomatch e
   ·injection e with aE _;rw[aE]
 byValue:=λk v h=>by rcases nx h with⟨i,t,rfl,rfl⟩|⟨x,t,rfl,rfl⟩<;>rfl
 pyHash:=λbx h=>by
  rcases nx bx with⟨i,t,rfl,rfl⟩|⟨x,t,rfl,rfl⟩
  ·exact wpAny_pyHash_int h
  ·exact wpAny_pyHash_str h
 eqBool:=λaW bx h=>by
  rcases nx aW with⟨i,t,rfl,rfl⟩|⟨x,t,rfl,rfl⟩
  ·rcases nx bx with⟨j,u,rfl,rfl⟩|⟨y,u,rfl,rfl⟩
   ·rw[ZL] at h;exact tc h
   ·rw[ZM] at h;exact SeqAt.EqAt.int_str i t y u _ _ _ _ h
  ·rcases nx bx with⟨j,u,rfl,rfl⟩|⟨y,u,rfl,rfl⟩
   ·rw[ZN] at h;exact SeqAt.EqAt.str_int x t j u _ _ _ _ h
   ·rw[ZO] at h;exact wpAny_eqBool_str h
 «strs»:=λk x t v h=>by
  rcases nx h with⟨i,u,rfl,e⟩|⟨y,u,rfl,e⟩
  ·exact nomatch e
  ·injection e with aE _;subst aE;cases v<;>rfl
def aaI (prog:bg)(w:bb)(i:Int)(t:Tok):(hN prog w).is (.inl i) (.int i t)=true:=ZJ i t
def aaJ (prog:bg)(w:bb)(x:Str)(t:Tok):(hN prog w).is (.inr x) (.str x t)=true:=ZK x t
inductive V where
 |b1|bL (b:Bool)|int (i:Int)|str (x:Str)|j5 (b:Array UInt8)|xY (b:UInt64)|ref (a:U)|ty (n:String)
 deriving DecidableEq
def RelV:V->af->Prop
 |.b1,u=>u=Value.none
 |.bL b,u=>u=Value.bool b
 |.int i,u=>∃t,u=Value.int i t
 |.str x,u=>∃t,u=Value.str x t
 |.j5 b,u=>∃t,u=Value.bytes b t
 |.xY b,u=>∃t,u=Value.float b t
 |.ref a,u=>u=Value.ref a
 |.ty n,u=>u=Value.type n
abbrev b':List V->List af->Prop:=Paired RelV
def b'.length (r:b' xs us):xs.length=us.length:=fu r
theorem b'.get:∀{xs:List V} {us:List af} {i:Nat} {x:V},b' xs us->xs[i]? =some x->∃u,us[i]? =some u/\RelV x u
 |_,_,_,_,.nil,e=>by simp at e
 |_,_,0,_,.cons r _,e=>by simp at e;subst e;exact⟨_,rfl,r⟩
 |_,_,i+1,x,.cons _ t,e=>by obtain⟨u,aa,ac⟩:=b'.get (i:=i) (x:=x) t (by simpa using e);exact⟨u,by simpa using aa,ac⟩
theorem b'.append:∀{xs bO:List V} {us ws:List af},b' xs us->b' bO ws->b' (xs++bO) (us++ws)
 |_,_,_,_,.nil,s=>s
 |_,_,_,_,.cons r t,s=>.cons r (b'.append t s)
theorem b'.take:∀{xs:List V} {us:List af} (n:Nat),b' xs us->b' (xs.take n) (us.take n)
 |_,_,0,_=>.nil
 |_,_,_+1,.nil=>.nil
 |_,_,n+1,.cons r t=>.cons r (b'.take n t)
theorem b'.drop:∀{xs:List V} {us:List af} (n:Nat),b' xs us->b' (xs.drop n) (us.drop n)
 |_,_,0,r=>r
 |_,_,_+1,.nil=>.nil
 |_,_,n+1,.cons _ t=>b'.drop n t
def g7:Option V->Option af->Prop
 |some v,some u=>RelV v u
 |none,none=>True
 |_,_=>False
def fh:List (κ×V)->List (κ×af)->Prop:=Paired λ(p:κ×V) (q:κ×af)=>p.1=q.1/\RelV p.2 q.2
def cV:Key->V
 |.inl i=>.int i
 |.inr x=>.str x
inductive c0 where
 |lst (xs:List V)
 |tup (xs:List V)
 |cq (kvs:List (Key×V))|e1 (kvs:List (List Key×V))
 |set (S:Int->Bool) (n:Nat)
 |ins (C aq:U) (bd:List (Str×V))
 |own (x:U)
 |nF (bd:List (Str×V))
 |met (f x:U)
 |CI (lo aR:Int)
 |eP (o:Obj) (u:c0)
 |sQ (ps:Array af)
 |ext (φ:a5->Prop)
abbrev ah:=U->Option c0
def upd (H:ah)(a:U)(o:c0):ah:=λb=>if b=a then some o else H b
def aG:upd H a o a=some o:=by unfold upd;rw[aV rfl]
def aj (h:b≠a):upd H a o b=H b:=by unfold upd;rw[aN h]
def i_:upd (upd H a o) a u=upd H a u:=by
 funext b;unfold upd;split<;>rfl
def fo {H:ah}{a b:U}{o u:c0}(h:H a=some o)(h':H b=some u)(d:o≠u):a≠b:=by intro e;subst e;rw[h] at h';exact d (dZ h')
def a8 {H:ah}{a b:U}{o:c0}(h:H a=some o)(h':H b=none):a≠b:=by intro e;subst e;rw[h] at h';cases h'
section
variable (P:bg)(w:bb)
def dq (H:ah)(h:a5)(a:U):c0->Prop
 |.lst xs=>xs.length<=sizeLine/\∃(a3:List af) (n:Nat),b' xs a3/\h.get? a=some {cls:=.type "list",data:=.seq a3.toArray n}
 |.tup xs=>xs.length<=sizeLine/\∃a3:List af,b' xs a3/\IsTup h a a3.toArray
 |.cq kvs=>kvs.length<=sizeLine/\(a==sysModules)=false/\∃vs,fh kvs vs/\h.DictOf (hN P w) a vs
 |.e1 kvs=>kvs.length<=sizeLine/\(a==sysModules)=false/\∃xs:List (List Key×U×af),
   Paired (λ(p:List Key×V) (q:List Key×U×af)=>p.1=q.1/\H q.2.1=some (.tup (p.1.map cV))/\RelV p.2 q.2.2) kvs xs/\
   ∃o es ep,h.get? a=some o/\o.ExactDict/\o.data=.dict es ep/\es.toList=xs.map (entryOfKey (tupleKind (hN P w)))/\(xs.map (·.1)).Nodup
 |.set S n=>h.SetOf (intKind P w) a S n
 |.ins C aq bd=>H aq=some (.own a)/\bd.length<=1000/\aq≠a/\h.get? a=some (instObj C aq)/\
   ∃dR,h.Ns1 aq dR/\(∀f,g7 (bd.lookup f) (dR f))/\PySem.Within dR (bd.map (·.1))
 |.own _=>∃o,h.get? a=some o
 |.nF bd=>∃dR,h.Ns1 a dR/\∀f,g7 (bd.lookup f) (dR f)
 |.CI lo aR=>∃t u v,h.get? a=some {cls:=.type "range",data:=.fields #[.int lo t,.int aR u,.int 1 v]}
 |.eP o u=>h.get? a=some o/\dq H h a u
 |.sQ ps=>h.get? a=some {cls:=.none,data:=.fields ps}
 |.met f x=>h.get? a=some (methodObj (.ref f) (.ref x))
 |.ext φ=>φ h/\(∃o,h.get? a=some o)/\∀aa ac:a5,φ aa->(∀o,aa.get? a=some o->ac.get? a=some o)->φ ac
def dN (H:ah)(h:a5):Prop:=∀a o,H a=some o->dq P w H h a o
end
def dq.lt (x:dq P w H h a o):a < h.objs.size:=by
 cases o with
 |lst xs=>obtain⟨_,_,_,_,e⟩:=x;exact dc e
 |tup xs=>obtain⟨_,_,_,p⟩:=x;exact p.lt
 |cq kvs=>obtain⟨_,_,_,_,o,_,_,e,_⟩:=x;exact dc e
 |e1 kvs=>obtain⟨_,_,_,_,o,_,_,e,_⟩:=x;exact dc e
 |set S n=>obtain⟨o,_,_,_,e,_⟩:=x;exact dc e
 |ins C aq bd=>obtain⟨_,_,_,e,_⟩:=x;exact dc e
 |own y=>obtain⟨_,e⟩:=x;exact dc e
 |nF bd=>obtain⟨_,⟨_,_,_,e,_⟩,_⟩:=x;exact dc e
 |CI lo aR=>obtain⟨_,_,_,e⟩:=x;exact dc e
 |eP b2 u=>obtain⟨e,_⟩:=x;exact dc e
 |sQ ps=>exact dc (show h.get? a=some _ from x)
 |met f y=>exact dc (show h.get? a=some _ from x)
 |ext φ=>obtain⟨_,⟨_,e⟩,_⟩:=x;exact dc e
theorem Paired.gH {F G:α->β->Prop}:∀{l₁:List α} {l₂:List β},Paired F l₁ l₂->(∀a b,F a b->G a b)->Paired G l₁ l₂
 |_,_,.nil,_=>.nil
 |_,_,.cons r t,f=>.cons (f _ _ r) (Paired.gH t f)
def dq.hS {h h':a5}(x:dq P w H h a o)(k:∀b u,(b=a\/H b=some (.own a))->h.get? b=some u->h'.get? b=some u)
  (aI:∀b,H b=some (.own a)->ab b=some (.own a)) (bY:∀b xs,H b=some (.tup xs)->ab b=some (.tup xs)):dq P w ab h' a o:=by
 induction o with
 |lst xs=>obtain⟨z,a3,n,r,e⟩:=x;exact⟨z,a3,n,r,k _ _ (.inl rfl) e⟩
 |tup xs=>obtain⟨z,a3,r,b2,e,c⟩:=x;exact⟨z,a3,r,b2,k _ _ (.inl rfl) e,c⟩
 |cq kvs=>obtain⟨z,y,vs,r,b2,es,ep,e,c⟩:=x;exact⟨z,y,vs,r,b2,es,ep,k _ _ (.inl rfl) e,c⟩
 |e1 kvs=>obtain⟨z,y,xs,r,b2,es,ep,e,c⟩:=x;exact⟨z,y,xs,Paired.gH r λp q z=>⟨z.1,bY _ _ z.2.1,z.2.2⟩,b2,es,ep,k _ _ (.inl rfl) e,c⟩
 |set S n=>obtain⟨b2,es,ep,t,e,c⟩:=x;exact⟨b2,es,ep,t,k _ _ (.inl rfl) e,c⟩
 |ins C aq bd=>obtain⟨d,z,ne,e,dR,⟨c9,es,ep,aL,c⟩,r⟩:=x;exact⟨aI _ d,z,ne,k _ _ (.inl rfl) e,dR,⟨c9,es,ep,k _ _ (.inr d) aL,c⟩,r⟩
 |own y=>obtain⟨b2,e⟩:=x;exact⟨b2,k _ _ (.inl rfl) e⟩
 |nF bd=>obtain⟨dR,⟨c9,es,ep,e,c⟩,r⟩:=x;exact⟨dR,⟨c9,es,ep,k _ _ (.inl rfl) e,c⟩,r⟩
 |CI lo aR=>obtain⟨t,u,v,e⟩:=x;exact⟨t,u,v,k _ _ (.inl rfl) e⟩
 |eP b2 u bE=>obtain⟨e,q⟩:=x;exact⟨k _ _ (.inl rfl) e,bE q⟩
 |sQ ps=>have e:h.get? a=some {cls:=.none,data:=.fields ps}:=x;show h'.get? a=some {cls:=.none,data:=.fields ps};exact k a _ (.inl rfl) e
 |met f y=>have e:h.get? a=some (methodObj (.ref f) (.ref y)):=x;show h'.get? a=some (methodObj (.ref f) (.ref y));exact k a _ (.inl rfl) e
 |ext φ=>obtain⟨p,⟨o,e⟩,st⟩:=x;exact⟨st _ _ p λo q=>k _ _ (.inl rfl) q,⟨o,k _ _ (.inl rfl) e⟩,st⟩
def dN.lt (x:dN P w H h)(e:H a=some o):a < h.objs.size:=(x a o e).lt
def dN.fresh (x:dN P w H h)(e:h.objs.size<=a):H a=none:=by
 cases q:H a with
 |none=>rfl
 |some u=>exact absurd (hl (x.lt q) e) (o2 _)
def dN.kept (x:dN P w H h)(k:∀b u,h.get? b=some u->h'.get? b=some u):dN P w H h':=λa o e=>
 (x a o e).hS (λb u _ q=>k b u q) (λ_ q=>q) λ_ _ q=>q
def dN.laid {P:bg}{w:bb}{H:ah}{h h':a5}{a:U}{o:c0}(x:dN P w H h)(k:∀b u,h.get? b=some u->h'.get? b=some u)(am:h.objs.size<=a)(new:dq P w (upd H a o) h' a o):dN P w (upd H a o) h':=λb u e=>by
 have ak:=x.fresh am;by_cases I:b=a
 ·subst I;rw[aG] at e;cases e;exact new
 ·rw[aj I] at e;exact(x b u e).hS (λc v _ q=>k c v q) (λc q=>by rw[aj (a8 q ak)];exact q) λc xs q=>by rw[aj (a8 q ak)];exact q
def aU (H:ah)(a:U)(u:c0):Prop:=H a=some u\/∃o,H a=some (.eP o u)
def aU.of (h:H a=some u):aU H a u:=.inl h
def aU.ok (r:aU H a u)(x:dN P w H h):dq P w H h a u:=by
 rcases r with r|⟨o,r⟩
 ·exact x a u r
 ·obtain⟨_,q⟩:=x a _ r;exact q
def rF:Option c0->Prop
 |some (.lst _)=>True
 |some (.cq _)=>True
 |some (.e1 _)=>True
 |some (.set _ _)=>True
 |some (.ins _ _ _)=>True
 |some (.ext _)=>True
 |_=>False
def dN.write (ok:dN P w H h)(hy:rF (H x))(he:e=x\/H e=some (.own x))(k:∀b u,b≠e->h.get? b=some u->h'.get? b=some u)(vw:∃u,h'.get? e=some u)
  (new:dq P w (upd H x d5) h' x d5):dN P w (upd H x d5) h':=λb u q=>by
 have Pt:∀c y,H c=some (.own y)->c≠x:=λc y r z=>by subst z;rw[r] at hy;exact hy
 have abr:∀c xs,H c=some (.tup xs)->c≠x:=λc xs r z=>by subst z;rw[r] at hy;exact hy
 by_cases I:b=x
 ·subst I;rw[aG] at q;cases q;exact new
 ·rw[aj I] at q;by_cases tQ:b=e
  ·have er:H b=some (.own x):=by
    rcases he with z|z
    ·exact absurd (tQ.trans z) I
    ·rw[tQ];exact z
   rw[q] at er;cases er;obtain⟨v,bx⟩:=vw;exact⟨v,by rw[tQ];exact bx⟩
  ·refine(ok b u q).hS (λc v ai r=>k c v ?_ r) (λc r=>by rw[aj (Pt c b r)];exact r) λc xs r=>by rw[aj (abr c xs r)];exact r
   rcases ai with rfl|ai
   ·exact tQ
   ·rintro rfl;rcases he with z|z
    ·exact Pt c b ai z
    ·rw[ai] at z;cases z;exact I rfl
structure g9 (bd ex:List U)(H ab:ah)(h h':a5):Prop where
 keep:∀b o,h.get? b=some o->H b=none->b∉bd->b∉ex->h'.get? b=some o
 slot:∀b o,h.get? b=some o->H b=none->b∈bd->b∉ex->∃bh,h'.get? b=some {o with slots:=bh}
 free:∀b o,h.get? b=some o->H b=none->b∉ex->ab b=none
 there:∀b o,h.get? b=some o->b∉ex->∃d5,h'.get? b=some d5
 eK:∀b xs,H b=some (.tup xs)->ab b=some (.tup xs)
 mv:∀b o u,H b=some (.eP o u)->ab b=some (.eP o u)
 oS:∀b ps,H b=some (.sQ ps)->∃more,ab b=some (.sQ (ps++more))
def g9.any (u:g9 bd ex H H1 h aa)(q:h.get? b=some b2)(n:H b=none)(ao:b∉ex):∃bh,aa.get? b=some {b2 with slots:=bh}:=by
 by_cases I:b∈bd
 ·exact u.slot b b2 q n I ao
 ·exact⟨b2.slots,u.keep b b2 q n I ao⟩
def g9.kept (k:∀b u,h.get? b=some u->h'.get? b=some u):g9 bd ex H H h h':=
 ⟨λb b2 q _ _ _=>k b b2 q,λb b2 q _ _ _=>⟨b2.slots,k b b2 q⟩,λ_ _ _ n _=>n,λb b2 q _=>⟨b2,k b b2 q⟩,λ_ _ q=>q,λ_ _ _ q=>q,λ_ ps q=>⟨#[],by rw[q];simp⟩⟩
def g9.refl:g9 bd ex H H h h:=g9.kept λ_ _ q=>q
def g9.laid {bd ex:List U}{H:ah}{h h':a5}{a:U}{o:c0}(k:∀b u,h.get? b=some u->h'.get? b=some u)(am:h.objs.size<=a)(ak:H a=none):g9 bd ex H (upd H a o) h h' where
 keep:=λb u q _ _ _=>k b u q
 slot:=λb u q _ _ _=>⟨u.slots,k b u q⟩
 free:=λb u q n _=>by rw[aj (e8 (hl (dc q) am))];exact n
 there:=λb u q _=>⟨u,k b u q⟩
 eK:=λb xs q=>by rw[aj (a8 q ak)];exact q
 mv:=λb u xs q=>by rw[aj (a8 q ak)];exact q
 oS:=λb ps q=>⟨#[],by rw[aj (a8 q ak),q];simp⟩
def g9.write (hy:rF (H x))(he:e=x\/H e=some (.own x))(k:∀b u,b≠e->h.get? b=some u->h'.get? b=some u)(vw:∃u,h'.get? e=some u):g9 bd ex H (upd H x o) h h':=by
 have ao:∀b,H b=none->b≠x:=λb n z=>by subst z;rw[n] at hy;exact hy
 have I:∀b,H b=none->b≠e:=λb n z=>by
  subst z;rcases he with r|r
  ·exact ao b n r
  ·rw[n] at r;cases r
 have hm:∀b u,H b=some u->¬rF (some u)->b≠x:=λb u q nm z=>by subst z;rw[q] at hy;exact nm hy
 refine⟨λb u q n _ _=>k b u (I b n) q,λb u q n _ _=>⟨u.slots,k b u (I b n) q⟩,λb u q n _=>by rw[aj (ao b n)];exact n,λb u q _=>?_,
  λb xs q=>by rw[aj (hm b _ q λz=>z)];exact q,λb u xs q=>by rw[aj (hm b _ q λz=>z)];exact q,λb ps q=>⟨#[],by rw[aj (hm b _ q λz=>z),q];simp⟩⟩
 by_cases tQ:b=e
 ·subst tQ;exact vw
 ·exact⟨u,k b u tQ q⟩
def Dx (h:a5)(H:ah):List U:=(range h.objs.size).filter λa=>(H a).isSome
def qQ (h:a5)(H:ah):a5:=hideAll h (Dx h H)
def X' (h:a5)(H:ah):(qQ h H).objs.size=h.objs.size:=PySem.W.hideAll_size _ _
def X_ (e:h.get? b=some o)(n:H b=none):(qQ h H).get? b=some o:=
 hideAll_get _ e λhm=>by have q:(H b).isSome=true:=(hj.mp hm).2;rw[n] at q;simp at q
def abD (e:(qQ h H).get? b=some o):h.get? b=some o/\H b=none:=by
 have bV:h.get? b=some o:=of_hideAll (Dx h H) e;refine⟨bV,?_⟩;cases q:H b with
 |none=>rfl
 |some x=>have hm:b∈Dx h H:=hj.mpr ⟨uS.mpr (dc bV),by simp[q]⟩;have z:(qQ h H).get? b=none:=hideAll_none (Dx h H) hm;rw[z] at e;cases e
structure Mod (K:PySem.W.Frag)(ae:Str->Option af)(base:a5):Prop where
 vP:K.In base
 glob:base.Ns mainGlobals ae
 blt:∃so,base.Ns builtinsNs so/\∀x:Str,x≠"__name__"->so x=bootBuiltins x
 nolimit:base.NoLimit
structure bq where
 prog:bg
 w:bb
 K:PySem.W.Frag
 ae:Str->Option af
 base:a5
 A:cU
 N:List Str
 iF:ar
 nR:ah
 env:Env
 outer:List Env
 stack:List Env
 ex:List U
 fn:Str->Bool
 calm:Bool
 cR:List (U×Obj)
 cK:af->ar->Prop
def gs (l:List Env):List U:=l.filterMap (·.frame)
abbrev bq.bd (X:bq):List U:=gs X.outer
def u' (sc:Scope)(x:Str):Prop:=sc.names.lookup x=some .local\/sc.names.lookup x=some .cell\/sc.names.lookup x=some .free
def Loc (sc:Scope)(x:Str):Prop:=sc.names.lookup x=some .local\/sc.names.lookup x=some .cell
def Look (env:Env)(h:a5)(m:Str->Option af)(x:Str)(u:af):Prop:=
 (env.kindOf x=some .local/\m x=some u)\/((env.kindOf x=some .cell\/env.kindOf x=some .free)/\∃c,env.cells.lookup x=some c/\h.IsCell c (some u))
structure bq.Ok (X:bq):Prop where
 mod:Mod X.K X.ae X.base
 kind:X.env.scope.kind=.function
 glob:X.env.globals=mainGlobals
 blt:X.env.builtins=builtinsNs
 above:X.iF.heap.objs.size<=X.env.locals
 inj:∀x y c,X.env.cells.lookup x=some c->X.env.cells.lookup y=some c->x=y
 has:∀x,(X.env.kindOf x=some .cell\/X.env.kindOf x=some .free)->∃c,X.env.cells.lookup x=some c
 rK:∀x c,X.fn x=true->X.env.cells.lookup x=some c->X.iF.heap.objs.size<=c
 hd:X.calm=true->X.A.handled=none
 frames:X.A.frames=some X.stack
 uH:X.stack=X.outer\/(X.stack=X.env::X.outer/\X.env.frame=some X.env.locals)
 tG:∀b∈X.ex,b≠X.env.locals/\∀x c,X.env.cells.lookup x=some c->c≠b
 bs:∀b o,X.base.get? b=some o->X.iF.heap.get? b=some o/\X.nR b=none
 nf:X.base.objs.size<=X.iF.heap.objs.size
 sB:∀b o,X.base.get? b=some o->b∉X.ex
 rT:∀b∈X.ex,b∉X.bd
 k6:X.iF.heap.FunFrames X.base X.outer
 mu:∀b∈X.bd,X.nR b=none
structure Inv (X:bq)(pins:List (U×Obj))(σ:List (Option V))(H:ah)(s:ar):Prop where
 ok:X.Ok
 os:s.os=X.iF.os
 bare:AllBare s.gens
 base:g9 X.bd X.ex X.nR H X.iF.heap s.heap
 loc:∃m,s.heap.Ns X.env.locals m/\∀(i:Nat) (x:Str) (v:V),X.N[i]? =some x->σ[i]? =some (some v)->u' X.env.scope x->∃u,RelV v u/\Look X.env s.heap m x u
 cell:∀x c,X.env.cells.lookup x=some c->∃v,s.heap.IsCell c v
 free:H X.env.locals=none
 jq:∀x c,X.env.cells.lookup x=some c->H c=none
 pin:∀p∈X.cR++pins,s.heap.get? p.1=some p.2/\H p.1=none/\p.1≠X.env.locals/\p.1∉X.bd/\∀v,p.2.data≠.cell v
 ba:dN X.prog X.w H s.heap
 len:σ.length=X.N.length
def bq.Ok.abb {X:bq}(ok:X.Ok)(e:X.base.get? b=some o):b∉X.bd:=λI=>by have:=(ok.k6.mem I).1;rw[e] at this;cases this
def Inv.bs {X:bq}{s:ar}(J:Inv X pins σ H s):∀b o,X.base.get? b=some o->s.heap.get? b=some o/\H b=none:=λb o e=>
 ⟨J.base.keep b o (J.ok.bs b o e).1 (J.ok.bs b o e).2 (J.ok.abb e) (J.ok.sB b o e),J.base.free b o (J.ok.bs b o e).1 (J.ok.bs b o e).2 (J.ok.sB b o e)⟩
def Inv.hI (J:Inv X pins σ H s):∀b o,X.base.get? b=some o->s.heap.get? b=some o:=λb o e=>(J.bs b o e).1
def Inv.mod (J:Inv X pins σ H s):Mod X.K X.ae X.base:=J.ok.mod
def Inv.gv (J:Inv X pins σ H s):X.K.In s.heap:=J.ok.mod.vP.keeps J.hI
def Inv.lt (J:Inv X pins σ H s):X.env.locals < s.heap.objs.size:=let ⟨_,ak,_⟩:=J.loc;ak.lt
def Inv.kg (J:Inv X pins σ H s):X.iF.heap.objs.size<=s.heap.objs.size:=gC J.ok.above (le_of_lt J.lt)
def Inv.abe (J:Inv X pins σ H s)(h:s.heap.objs.size<=a):a∉X.bd:=λI=>by obtain⟨_,o,aI,_⟩:=J.ok.k6.mem I;exact absurd (hl (dc aI) (gC J.kg h)) (o2 _)
def Inv.rM (J:Inv X pins σ H s):∀x c,X.env.cells.lookup x=some c->c≠X.env.locals:=λx c e z=>by obtain⟨v,o,aI,hd⟩:=J.cell x c e;obtain⟨m,⟨d5,es,ep,lR,vu,_⟩,_⟩:=J.loc;rw[z,lR] at aI;cases aI;rw[vu] at hd;cases hd
def Inv.k6 (J:Inv X pins σ H s):s.heap.FunFrames X.base X.outer:=by
 have all:∀(l:List Env),(∀b∈gs l,b∈X.bd)->X.iF.heap.FunFrames X.base l->s.heap.FunFrames X.base l:=by
  intro l
  induction l with
  |nil=>intro _ _;trivial
  |cons env r bE=>intro aD aC;obtain⟨aw,⟨L,o,hf,ak,aI,hd⟩,au⟩:=aC;have cT:L∈X.bd:=aD L (by unfold gs;rw[nH,hf];exact dW);obtain⟨bh,e⟩:=J.base.slot L o aI (J.ok.mu L cT) cT λz=>J.ok.rT L z cT;exact⟨aw,⟨L,_,hf,ak,e,hd⟩,bE (λb I=>aD b (by unfold gs;rw[nH,hf];exact d7 _ I)) au⟩
 exact all X.outer (λ_ I=>I) J.ok.k6
def Inv.stack (J:Inv X pins σ H s):s.heap.FunFrames X.base X.stack:=by
 rcases J.ok.uH with e|⟨e,hf⟩
 ·rw[e];exact J.k6
 ·rw[e];obtain⟨m,ak,_⟩:=J.loc;refine .cons (by rw[J.ok.kind];decide) hf ak ?_ J.k6;exact Heap.get?_none_of_le (gC J.ok.nf J.ok.above)
def Inv.IT (J:Inv X pins σ H s):∀b∈gs X.stack,b∈X.env.locals::X.bd:=λb I=>by
 rcases J.ok.uH with e|⟨e,hf⟩
 ·rw[e] at I;exact d7 _ I
 ·rw[e] at I;unfold gs at I;rw[nH,hf] at I;exact I
def Inv.wC (J:Inv X pins σ H s):∀b∈gs X.stack,H b=none:=λb I=>by
 rcases cr.mp (J.IT b I) with e|I
 ·rw[e];exact J.free
 ·obtain⟨_,o,aI,_⟩:=J.ok.k6.mem I;exact J.base.free b o aI (J.ok.mu b I) λz=>J.ok.rT b z I
def Inv.step {X:bq}{pins:List (U×Obj)}{σ:List (Option V)}{H ab:ah}{s:ar}{h':a5}{g':Array GenState}{t':Nat}{d':Drawn}{ch:List U}(J:Inv X pins σ H s)
  (ky:∀b∈ch,(b∈X.ex\/X.iF.heap.objs.size<=b)/\b≠X.env.locals/\(∀x c,X.env.cells.lookup x=some c->c≠b)/\∀p∈X.cR++pins,p.1≠b)
  (keep:∀b o,b≠X.env.locals->b∉X.bd->b∉ch->s.heap.get? b=some o->H b=none->h'.get? b=some o)
  (slot:∀b o,b≠X.env.locals->b∈X.bd->b∉ch->s.heap.get? b=some o->H b=none->∃bh,h'.get? b=some {o with slots:=bh}) (free:∀b o,b∉ch->s.heap.get? b=some o->H b=none->ab b=none)
  (there:∀b o,b∉ch->s.heap.get? b=some o->∃d5,h'.get? b=some d5)
  (eK:∀b xs,H b=some (.tup xs)->ab b=some (.tup xs)) (mv:∀b o u,H b=some (.eP o u)->ab b=some (.eP o u)) (oS:∀b ps,H b=some (.sQ ps)->∃more,ab b=some (.sQ (ps++more)))
  (ns:∀m,s.heap.Ns X.env.locals m->h'.Ns X.env.locals m) (ba:dN X.prog X.w ab h') (bK:AllBare g'):
  Inv X pins σ ab {s with heap:=h',gens:=g',drawn:=d',toks:=t'}:=by
 have vX:∀b o,X.iF.heap.get? b=some o->b≠X.env.locals:=λb o e=>e8 (hl (dc e) J.ok.above);have Cg:∀b o,X.iF.heap.get? b=some o->b∉X.ex->b∉ch:=λb o e ao I=>by
  rcases(ky b I).1 with z|z
  ·exact ao z
  ·exact absurd (hl (dc e) z) (o2 _)
 have cellK:∀x c,X.env.cells.lookup x=some c->∀v,s.heap.IsCell c v->h'.IsCell c v:=λx c e v ⟨o,aI,hd⟩=>by
  have q_:c∉ch:=λz=>(ky c z).2.2.1 x c e rfl;by_cases ai:c∈X.bd
  ·obtain⟨bh,q⟩:=slot c o (J.rM x c e) ai q_ aI (J.jq x c e);exact⟨_,q,hd⟩
  ·exact⟨o,keep c o (J.rM x c e) ai q_ aI (J.jq x c e),hd⟩
 refine⟨J.ok,J.os,bK,⟨λb o e n I ao=>?_,λb o e n I ao=>?_,λb o e n ao=>?_,λb o e ao=>?_,λb xs e=>eK b xs (J.base.eK b xs e),λb o xs e=>mv b o xs (J.base.mv b o xs e),λb ps e=>?_⟩,?_,λx c e=>?_,?_,λx c e=>?_,λp am=>?_,ba,J.len⟩
 ·exact keep b o (vX b o e) I (Cg b o e ao) (J.base.keep b o e n I ao) (J.base.free b o e n ao)
 ·obtain⟨bh,aE⟩:=J.base.slot b o e n I ao;obtain⟨Io,aL⟩:=slot b _ (vX b o e) I (Cg b o e ao) aE (J.base.free b o e n ao);exact⟨Io,aL⟩
 ·obtain⟨d5,aE⟩:=J.base.there b o e ao;exact free b d5 (Cg b o e ao) aE (J.base.free b o e n ao)
 ·obtain⟨d5,aE⟩:=J.base.there b o e ao;exact there b d5 (Cg b o e ao) aE
 ·obtain⟨hv,aE⟩:=J.base.oS b ps e;obtain⟨gG,aL⟩:=oS b _ aE;exact⟨hv++gG,by rw[aL,Array.append_assoc]⟩
 ·obtain⟨m,ak,aC⟩:=J.loc;refine⟨m,ns m ak,λi x v aE aL bI=>?_⟩;obtain⟨u,r,l⟩:=aC i x v aE aL bI;refine⟨u,r,?_⟩;rcases l with l|⟨k,c,e,z⟩
  ·exact .inl l
  ·exact .inr ⟨k,c,e,cellK x c e _ z⟩
 ·obtain⟨v,z⟩:=J.cell x c e;exact⟨v,cellK x c e v z⟩
 ·obtain⟨m,⟨o,_,_,aI,_⟩,_⟩:=J.loc;exact free _ o (λz=>(ky _ z).2.1 rfl) aI J.free
 ·obtain⟨v,o,aI,hd⟩:=J.cell x c e;exact free c o (λz=>(ky c z).2.2.1 x c e rfl) aI (J.jq x c e)
 ·obtain⟨e,n,ne,h8,d⟩:=J.pin p am;have q_:p.1∉ch:=λz=>(ky p.1 z).2.2.2 p am rfl;exact⟨keep p.1 p.2 ne h8 q_ e n,free p.1 p.2 q_ e n,ne,h8,d⟩
def Inv.un {X:bq}{pins:List (U×Obj)}{σ:List (Option V)}{H ab:ah}{s:ar}{h':a5}{t':Nat}(J:Inv X pins σ H s)(u:g9 X.bd [] H ab s.heap h')(ba:dN X.prog X.w ab h'):Inv X pins σ ab {s with heap:=h',toks:=t'}:=by obtain⟨m,⟨o,es,ep,aI,r⟩,_⟩:=id J.loc;obtain⟨bh,cT⟩:=u.any aI J.free (by simp);exact J.step (g':=s.gens) (d':=s.drawn) (ch:=[]) (λ_ z=>nomatch z) (λb o _ I _ e n=>u.keep b o e n I (by simp)) (λb o _ I _ e n=>u.slot b o e n I (by simp)) (λb o _ e n=>u.free b o e n (by simp)) (λb o _ e=>u.there b o e (by simp)) u.eK u.mv u.oS (λcQ hm=>by obtain⟨d5,rR,rP,lR,b8⟩:=hm;rw[aI] at lR;cases lR;exact⟨_,rR,rP,cT,b8⟩) ba J.bare
def Inv.call {X:bq}{pins:List (U×Obj)}{σ:List (Option V)}{H ab:ah}{s:ar}{h':a5}{g':Array GenState}{t':Nat}{d':Drawn}{ch:List U}(J:Inv X pins σ H s)(u:g9 (gs X.stack) ch H ab s.heap h')(ba:dN X.prog X.w ab h')(bK:AllBare g')
  (ky:∀b∈ch,(b∈X.ex\/X.iF.heap.objs.size<=b)/\b≠X.env.locals/\(∀x c,X.env.cells.lookup x=some c->c≠b)/\∀p∈X.cR++pins,p.1≠b):
  Inv X pins σ ab {s with heap:=h',gens:=g',drawn:=d',toks:=t'}:=by
 obtain⟨m,⟨o,es,ep,aI,r⟩,_⟩:=id J.loc;obtain⟨bh,cT⟩:=u.any aI J.free λz=>(ky _ z).2.1 rfl;exact J.step (ch:=ch) ky (λb o cT I ai e n=>u.keep b o e n (λz=>(cr.mp (J.IT b z)).elim cT I) ai) (λb o _ _ ai e n=>u.any e n ai) (λb o ai e n=>u.free b o e n ai) (λb o ai e=>u.there b o e ai) u.eK u.mv u.oS (λcQ hm=>by obtain⟨d5,rR,rP,lR,b8⟩:=hm;rw[aI] at lR;cases lR;exact⟨_,rR,rP,cT,b8⟩) ba bK
def Inv.turned {X:bq}{pins:List (U×Obj)}{σ:List (Option V)}{H:ah}{s:ar}{h':a5}{t':Nat}{it:U}(J:Inv X pins σ H s)(k:∀b o,b≠it->s.heap.get? b=some o->h'.get? b=some o)(ak:H it=none)(cT:it≠X.env.locals)
  (aa:it∈X.ex\/X.iF.heap.objs.size<=it) (ac:∀x c,X.env.cells.lookup x=some c->c≠it) (av:∀p∈X.cR++pins,p.1≠it):Inv X pins σ H {s with heap:=h',toks:=t'}:=by
 have zg:∀b u,H b=some u->b≠it:=λb u e z=>by rw[z,ak] at e;cases e
 refine J.step (g':=s.gens) (d':=s.drawn) (ch:=[it]) (λb I=>?_) (λb o _ _ ai e _=>k b o (λz=>ai (by simp[z])) e) (λb o _ _ ai e _=>⟨o.slots,k b o (λz=>ai (by simp[z])) e⟩) (λ_ _ _ _ n=>n)
  (λb o ai e=>⟨o,k b o (λz=>ai (by simp[z])) e⟩) (λ_ _ e=>e) (λ_ _ _ e=>e) (λb ps e=>⟨#[],by rw[e];simp⟩) (λm hm=>?_) (λb u e=>?_) J.bare
 ·have e:b=it:=by simpa using I
  subst e;exact⟨aa,cT,ac,av⟩
 ·obtain⟨o,es,ep,aI,r⟩:=hm;exact⟨o,es,ep,k _ o (gL cT) aI,r⟩
 ·refine(J.ba b u e).hS (λc v ai q=>k c v ?_ q) (λ_ q=>q) λ_ _ q=>q;rcases ai with z|z
  ·rw[z];exact zg b u e
  ·exact zg c _ z
def Inv.tok (J:Inv X pins σ H s)(t:Nat):Inv X pins σ H {s with toks:=t}:=J.un (h':=s.heap) (t':=t) g9.refl J.ba
def Inv.kept {t':Nat}(J:Inv X pins σ H s)(k:∀b u,s.heap.get? b=some u->h'.get? b=some u):Inv X pins σ H {s with heap:=h',toks:=t'}:=J.un (g9.kept k) (J.ba.kept k)
def Inv.laid {t':Nat}(J:Inv X pins σ H s)(k:∀b u,s.heap.get? b=some u->h'.get? b=some u)(am:s.heap.objs.size<=a)(new:dq X.prog X.w (upd H a o) h' a o):
  Inv X pins σ (upd H a o) {s with heap:=h',toks:=t'}:=J.un (g9.laid k am (J.ba.fresh am)) (J.ba.laid k am new)
def Inv.write {t':Nat}(J:Inv X pins σ H s)(hy:rF (H x))(he:e=x\/H e=some (.own x))(k:∀b u,b≠e->s.heap.get? b=some u->h'.get? b=some u)(vw:∃u,h'.get? e=some u)
  (new:dq X.prog X.w (upd H x o) h' x o):Inv X pins σ (upd H x o) {s with heap:=h',toks:=t'}:=J.un (g9.write hy he k vw) (J.ba.write hy he k vw new)
def Inv.weak (J:Inv X pins σ H s)(aC:σ'.length=σ.length)(w:∀(i:Nat) v,σ'[i]? =some (some v)->σ[i]? =some (some v)):Inv X pins σ' H s:=
 ⟨J.ok,J.os,J.bare,J.base,let ⟨m,ak,ht⟩:=J.loc;⟨m,ak,λi x v aE aL bI=>ht i x v aE (w i v aL) bI⟩,J.cell,J.free,J.jq,J.pin,J.ba,aC.trans J.len⟩
def Inv.zy (J:Inv X pins σ H s)(h:∀p∈CA,s.heap.get? p.1=some p.2/\H p.1=none/\p.1≠X.env.locals/\p.1∉X.bd/\∀v,p.2.data≠.cell v):Inv X CA σ H s:=
 ⟨J.ok,J.os,J.bare,J.base,J.loc,J.cell,J.free,J.jq,λp am=>(di.mp am).elim (λz=>J.pin p (lw _ z)) (h p),J.ba,J.len⟩
def Hl {N:List Str}(c6:N.Nodup){i j:Nat}(a:N[i]? =some x)(b:N[j]? =some x):i=j:=by obtain⟨aa,aE⟩:=eX.mp a;obtain⟨ac,aL⟩:=eX.mp b;exact(List.getElem_inj c6).mp (aE.trans aL.symm)
def aeP {X:bq}{σ:List (Option V)}{s:ar}{E:af->ar->Prop}{i:Nat}{Q:Unit->ar->Prop}(J:Inv X pins σ H s)(c6:X.N.Nodup)(aR:X.N[i]? =some x)(ao:Loc X.env.scope x)(r:RelV v u)
  (h:∀s',Inv X pins (σ.set i (some v)) H s'->(∃a,Heap.SameBut a s.heap s'.heap/\(a=X.env.locals\/X.env.cells.lookup x=some a))->Q () s') (hf:X.fn x=true\/X.env.scope.names.lookup x=some .local:=by first|exact .inl rfl|exact .inr rfl|assumption):wpAny M A (storeName X.env x u) Q E s:=by
 obtain⟨m,ak,aC⟩:=id J.loc;have Bv:(X.env.scope.kind==.class||(X.env.scope.kind==.module&&X.env.locals !=X.env.globals))=false:=by rw[J.ok.kind];rfl
 have hiσ:i < σ.length:=by rw[J.len];exact(eX.mp aR).1
 have rM:=J.rM;have tracked:∀{a:U} {h':a5},(∃o,s.heap.get? a=some o/\H a=none)->Heap.SameBut a s.heap h'->dN X.prog X.w H h':=λ{a h'} al aD b b2 e=>by
  obtain⟨_,_,r8⟩:=al;refine(J.ba b b2 e).hS (λc eF ai q=>(aD.2 c ?_).trans q) (λ_ q=>q) λ_ _ q=>q;rintro rfl;rcases ai with rfl|ai
  ·rw[r8] at e;cases e
  ·rw[r8] at ai;cases ai
 rcases ao with aw|aw
 ·refine wpAny_storeName_local aw ak (λh' r_ aD=>?_) Bv;obtain⟨abB,_,_,qS,_⟩:=id ak;refine h _ ⟨J.ok,J.os,J.bare,⟨λb o e n I ao=>?_,λb o e n I ao=>?_,J.base.free,λb o e ao=>?_,J.base.eK,J.base.mv,J.base.oS⟩,⟨_,r_,λj y z6 aE aL bI=>?_⟩,λy c e=>?_,J.free,J.jq,λp am=>?_,tracked ⟨abB,qS,J.free⟩ aD,by simpa using J.len⟩ ⟨_,aD,.inl rfl⟩
  ·exact(aD.2 b (e8 (hl (dc e) J.ok.above))).trans (J.base.keep b o e n I ao)
  ·obtain⟨bh,aE⟩:=J.base.slot b o e n I ao;exact⟨bh,(aD.2 b (e8 (hl (dc e) J.ok.above))).trans aE⟩
  ·obtain⟨d5,aE⟩:=J.base.there b o e ao;exact⟨d5,(aD.2 b (e8 (hl (dc e) J.ok.above))).trans aE⟩
  ·by_cases bF:j=i
   ·subst bF;rw[aR] at aE;cases aE;rw[wU hiσ] at aL;cases aL;exact⟨u,r,.inl ⟨aw,by simp⟩⟩
   ·rw[getElem?_set_ne (gL bF)] at aL;obtain⟨iG,b8,q⟩:=aC j y z6 aE aL bI;refine⟨iG,b8,?_⟩;rcases q with⟨k,e⟩|⟨k,c,e,z⟩
    ·refine .inl ⟨k,?_⟩;have:y≠x:=λe=>bF (Hl c6 aE (e▸aR));simp[this,e]
    ·exact .inr ⟨k,c,e,z.sameBut aD (rM y c e)⟩
  ·obtain⟨eF,z⟩:=J.cell y c e;exact⟨eF,z.sameBut aD (rM y c e)⟩
  ·obtain⟨e,n,ne,h8,d⟩:=J.pin p am;exact⟨(aD.2 p.1 ne).trans e,n,ne,h8,d⟩
 ·have yI:X.fn x=true:=by
   rcases hf with z|z
   ·exact z
   ·rw[z] at aw;cases aw
  obtain⟨c,ai⟩:=J.ok.has x (.inl aw);obtain⟨eF,z⟩:=J.cell x c ai;refine wpAny_storeName_cell J.ok.kind aw ai z (λh' j_ aD=>?_);obtain⟨hP,NT,YD⟩:=id z;refine h {s with heap:=h'} ⟨J.ok,J.os,J.bare,⟨λb o e n I ao=>?_,λb o e n I ao=>?_,J.base.free,λb o e ao=>?_,J.base.eK,J.base.mv,J.base.oS⟩,⟨m,ak.sameBut aD (gL (rM x c ai)),λj y z6 aE aL bI=>?_⟩,λy b7 e=>?_,J.free,J.jq,λp am=>?_,tracked ⟨hP,NT,J.jq x c ai⟩ aD,by simpa using J.len⟩ ⟨c,aD,.inr ai⟩
  ·exact(aD.2 b (e8 (hl (dc e) (J.ok.rK x c yI ai)))).trans (J.base.keep b o e n I ao)
  ·obtain⟨bh,aE⟩:=J.base.slot b o e n I ao;exact⟨bh,(aD.2 b (e8 (hl (dc e) (J.ok.rK x c yI ai)))).trans aE⟩
  ·obtain⟨d5,aE⟩:=J.base.there b o e ao;exact⟨d5,(aD.2 b (e8 (hl (dc e) (J.ok.rK x c yI ai)))).trans aE⟩
  ·by_cases bF:j=i
   ·subst bF;rw[aR] at aE;cases aE;rw[wU hiσ] at aL;cases aL;exact⟨u,r,.inr ⟨.inl aw,c,ai,j_⟩⟩
   ·rw[getElem?_set_ne (gL bF)] at aL;obtain⟨iG,b8,q⟩:=aC j y z6 aE aL bI;refine⟨iG,b8,?_⟩;rcases q with q|⟨k,b7,e,mU⟩
    ·exact .inl q
    ·refine .inr ⟨k,b7,e,mU.sameBut aD ?_⟩;rintro rfl;exact bF (Hl c6 aE (J.ok.inj _ _ _ e ai▸aR))
  ·by_cases mw:b7=c
   ·subst mw;exact⟨_,j_⟩
   ·obtain⟨p4,cx⟩:=J.cell y b7 e;exact⟨p4,cx.sameBut aD mw⟩
  ·obtain⟨e,n,ne,h8,d⟩:=J.pin p am;refine⟨(aD.2 p.1 ?_).trans e,n,ne,h8,d⟩;intro q;rw[q,NT] at e;have er:hP=p.2:=dZ e;exact d eF (by rw[<-er];exact YD)
def Do {i:Nat}(J:Inv X pins σ H s)(c6:X.N.Nodup)(aR:X.N[i]? =some x)(ao:Loc X.env.scope x)(r:RelV v u)
  (h:∀s',Inv X pins (σ.set i (some v)) H s'->Q () s') (hf:X.fn x=true\/X.env.scope.names.lookup x=some .local:=by first|exact .inl rfl|exact .inr rfl|assumption):wpAny M A (storeName X.env x u) Q E s:=
 aeP J c6 aR ao r (λs' jK _=>h s' jK) hf
def Inv.tz (J:Inv X pins σ H s)(aI:s'.os=s.os)(u:g9 (gs X.stack) ch H ab s.heap s'.heap)(ba:dN X.prog X.w ab s'.heap)(bK:AllBare s'.gens)
  (ky:∀b∈ch,(b∈X.ex\/X.iF.heap.objs.size<=b)/\b≠X.env.locals/\(∀x c,X.env.cells.lookup x=some c->c≠b)/\∀p∈X.cR++pins,p.1≠b):Inv X pins σ ab s':=by
 obtain⟨h',g',d',t',d5⟩:=s';have e:d5=s.os:=aI;subst e;exact J.call (g':=g') (t':=t') (d':=d') u ba bK ky
abbrev fG:=af->Option U->ah->Prop
abbrev St:=List (Option V)
abbrev cM:=V->ah->Prop
abbrev TE:=St->ah->cM->Prop
abbrev TT:=St->ah->(Bool->ah->Prop)->Prop
abbrev hq:=St->ah->(List V->ah->Prop)->Prop
structure Ends where
 cG:St->ah->Prop
 ia:cM
 hI:St->ah->Prop:=λ_ _=>False
 dP:St->ah->Prop:=λ_ _=>False
abbrev dj:=Ends->St->ah->Prop
inductive hE(X:bq)(pins:List (U×Obj))(σ:St)(Q:cM)(u:af)(s':ar):Prop|i(v)(ab)(_:Inv X pins σ ab s')(_:RelV v u)(_:Q v ab)
def Eo (X:bq)(pins:List (U×Obj))(σ:St)(Q:Bool->ah->Prop)(b:Bool)(s':ar):Prop:=∃ab,Inv X pins σ ab s'/\Q b ab
inductive R6(X:bq)(pins:List (U×Obj))(σ:St)(Q:List V->ah->Prop)(us:List af)(s':ar):Prop|i(vs)(ab)(_:Inv X pins σ ab s')(_:b' vs us)(_:Q vs ab)
def nY (X:bq)(pins:List (U×Obj))(D:Ends)(f:Flow)(s':ar):Prop:=
 match f with
 |.next=>∃σ' ab,Inv X pins σ' ab s'/\D.cG σ' ab
 |.brk=>∃σ' ab,Inv X pins σ' ab s'/\D.hI σ' ab
 |.cont=>∃σ' ab,Inv X pins σ' ab s'/\D.dP σ' ab
 |.ret u=>∃v σ' ab,Inv X pins σ' ab s'/\RelV v u/\D.ia v ab
def bl (X:bq)(e:Expr)(t:TE):Prop:=
 ∀(pins:List (U×Obj)) (s:ar) (σ:St) (H:ah) (Q:cM),Inv X pins σ H s->t σ H Q->wpAny (model X.prog X.w) X.A (eval e X.env) (hE X pins σ Q) X.cK s
def fZ (X:bq)(e:Expr)(t:TT):Prop:=
 ∀(pins:List (U×Obj)) (s:ar) (σ:St) (H:ah) (Q:Bool->ah->Prop),Inv X pins σ H s->t σ H Q->wpAny (model X.prog X.w) X.A (isTrue e X.env (eval e X.env)) (Eo X pins σ Q) X.cK s
def kX (X:bq)(e:Expr)(t:TT):Prop:=
 ∀(whole:Sem af) (pins:List (U×Obj)) (s:ar) (σ:St) (H:ah) (Q:Bool->ah->Prop),Inv X pins σ H s->t σ H Q->wpAny (model X.prog X.w) X.A (isTrue e X.env whole) (Eo X pins σ Q) X.cK s
def kX.pt (h:kX X e t):fZ X e t:=h _
def fF (X:bq)(es:List Expr)(t:hq):Prop:=
 ∀(pos:Pos) (pins:List (U×Obj)) (s:ar) (σ:St) (H:ah) (Q:List V->ah->Prop),Inv X pins σ H s->t σ H Q->wpAny (model X.prog X.w) X.A (spliced (backTo pos (starEach es X.env))) (R6 X pins σ Q) X.cK s
def fi (X:bq)(st:Stmt)(t:dj):Prop:=
 ∀(pins:List (U×Obj)) (s:ar) (σ:St) (H:ah) (D:Ends),Inv X pins σ H s->t D σ H->wpAny (model X.prog X.w) X.A (exec st X.env) (nY X pins D) X.cK s
def e_ (X:bq)(st:List Stmt)(t:dj):Prop:=
 ∀(pins:List (U×Obj)) (s:ar) (σ:St) (H:ah) (D:Ends),Inv X pins σ H s->t D σ H->wpAny (model X.prog X.w) X.A (execs st X.env) (nY X pins D) X.cK s
def bN (h:wpAny M A t Q E s)(eV:∀a s,Q a s->jM a s):wpAny M A t jM E s:=je h eV λ_ _ x=>x
inductive eE(i:Nat)(σ:St)(H:ah)(Q:cM):Prop|i(v)(_:σ[i]? =some (some v))(_:Q v H)
def ls (v:V):TE:=λ_ H Q=>Q v H
def acT {i:Nat}(c6:X.N[i]? =some x)(bx:u' X.env.scope x)(hd:(x==("__debug__":Str))=false:=by decide)(lN:(x==("__classdict__":Str))=false:=by decide):bl X (.Name x pos) (eE i):=by
 intro pins s σ H Q J h;obtain⟨v,e,h⟩:=h;obtain⟨m,ak,aC⟩:=J.loc;obtain⟨u,r,l⟩:=aC i x v c6 e bx;have fin:hE X pins σ Q u s:=⟨v,H,J,r,h⟩;rcases l with⟨aw,hm⟩|⟨aw,c,ai,Bu⟩
 ·exact wpAny_Name (wpAny_loadName_local J.ok.kind aw ak hm fin) hd
 ·rcases aw with aw|aw
  ·exact wpAny_Name (wpAny_loadName_cell J.ok.kind aw ai Bu fin) hd
  ·exact wpAny_Name (wpAny_loadName_free J.ok.kind aw ai Bu fin lN) hd
def bM {i j pos}:bl X (.Constant (.int i) j pos) (ls (.int i)):=λ_ _ _ H _ J h=>wpAny_Constant_int ⟨.int i,H,J.tok _,⟨_,rfl⟩,h⟩
def pX {b j pos}:bl X (.Constant (.bool b) j pos) (ls (.bL b)):=λ_ _ _ H _ J h=>Constant_bool ⟨.bL b,H,J,rfl,h⟩
def sG {j pos}:bl X (.Constant .none j pos) (ls .b1):=λ_ _ _ H _ J h=>Constant_none ⟨.b1,H,J,rfl,h⟩
def fq {x j pos}:bl X (.Constant (.str x) j pos) (ls (.str x)):=λ_ _ _ H _ J h=>Calls.Constant_str ⟨.str x,H,J.tok _,⟨_,rfl⟩,h⟩
def hV (X:bq)(x:Str):Prop:=X.env.kindOf x=some .globalImplicit
def sl (J:Inv X pins σ H s)(bK:hV X x)(hm:X.ae x=some u)(h:Q u s)
  (hd:(x==("__debug__":Str))=false:=by decide):wpAny (model X.prog X.w) X.A (eval (.Name x pos) X.env) Q E s:=
 Calls.Name_function_global J.ok.kind bK (Calls.loadGlobal_global (by rw[J.ok.glob];exact J.mod.glob.keeps J.hI) hm h) hd
def sk (J:Inv X pins σ H s)(bK:hV X x)(hm:X.ae x=none)(bx:bootBuiltins x=some u)(h:Q u s)
  (ak:x≠"__name__":=by decide) (hd:(x==("__debug__":Str))=false:=by decide):wpAny (model X.prog X.w) X.A (eval (.Name x pos) X.env) Q E s:=by
 obtain⟨so,aa,ac⟩:=J.mod.blt;exact Calls.Name_function_global J.ok.kind bK (Calls.loadGlobal_builtin (by rw[J.ok.glob];exact J.mod.glob.keeps J.hI) hm (by rw[J.ok.blt];exact aa.keeps J.hI) ((ac x ak).trans bx) h) hd
def hg (bK:hV X x)(hm:X.ae x=some u)(r:RelV v u)(hd:(x==("__debug__":Str))=false:=by decide):bl X (.Name x pos) (ls v):=
 λ_ _ _ H _ J h=>sl J bK hm ⟨v,H,J,r,h⟩ hd
def xm (X:bq)(op:CmpOp)(a b:Expr)(t:TE):Prop:=
 ∀(pins:List (U×Obj)) (s:ar) (σ:St) (H:ah) (Q:cM),Inv X pins σ H s->t σ H Q->
  wpAny (model X.prog X.w) X.A (eval a X.env) (λv s₁=>wpAny (model X.prog X.w) X.A (eval b X.env) (λu s₂=>wpAny (model X.prog X.w) X.A (compareOp op v u) (hE X pins σ Q) X.cK s₂) X.cK s₁) X.cK s
def aba (b:Expr)(h:op≠.In)(ac:op≠.NotIn):behindInMarks op b=false:=by
 have aE:(op==CmpOp.In)=false:=by cases op<;>first|rfl|exact absurd rfl h
 have aL:(op==CmpOp.NotIn)=false:=by cases op<;>first|rfl|exact absurd rfl ac
 cases b<;>simp[behindInMarks,aE,aL]
def Rw (aF:TE):TE:=λσ H Q=>aF σ H λx H1=>Q (.bL (!decide (x=.b1))) H1
def RelV.abf (r:RelV x v):(v==Value.none)=decide (x=.b1):=by
 cases x with
 |b1=>cases r;rfl
 |bL _=>cases r;rfl
 |int _=>obtain⟨t,rfl⟩:=r;rfl
 |str _=>obtain⟨t,rfl⟩:=r;rfl
 |j5 _=>obtain⟨t,rfl⟩:=r;rfl
 |xY _=>obtain⟨t,rfl⟩:=r;rfl
 |ref _=>cases r;rfl
 |ty _=>cases r;rfl
def zv {j pos'}(al:bl X a aF):xm X .IsNot a (.Constant .none j pos') (Rw aF):=by intro pins s σ H Q J h;refine bN (al pins s σ H _ J h) λv s1 ⟨x,H1,aP,cj,aX⟩=>?_;exact Constant_none (isnot_none_gen ⟨.bL _,H1,aP,by rw[cj.abf];rfl,aX⟩)
inductive Dri(Q:Bool->ah->Prop)(x:V)(H1:ah):Prop|i(c)(_:x=.bL c)(_:Q c H1)
def Dr (t:TE):TT:=λσ H Q=>t σ H (Dri Q)
def jA (h:xm X op a b t)(aa:behindInMarks op b=false:=by first|exact aba _ (by decide) (by decide)|rfl):fZ X (.Compare a [op] [b] pos) (Dr t):=by intro pins s σ H Q J hw;refine wpAny_isTrue_Compare1 (bN (h pins s σ H _ J hw) λv s1 aa=>bN aa λu s2 ac=>bN ac λc s3 ⟨x,H1,aP,cj,aX⟩=>?_) aa;obtain⟨d,rfl,q⟩:=aX;cases cj;exact o5 ⟨H1,aP,q⟩
def lk (h:bl X e t)(he:∀whole,isTrue e X.env whole=(do let v <-whole;standAt e.pos;holding [v] (truthy v)):=by intro _;rfl):fZ X e (Dr t):=by intro pins s σ H Q J hw;refine isTrue_plain (bN (h pins s σ H _ J hw) λv s1 ⟨x,H1,aP,cj,aX⟩=>?_) (he _);obtain⟨d,rfl,q⟩:=aX;cases cj;exact o5 ⟨H1,aP,q⟩
def ae0 (t u:TT):TT:=λσ H Q=>t σ H λc H1=>if c=true then u σ H1 Q else Q false H1
def afi (t u:TT):TT:=λσ H Q=>t σ H λc H1=>if c=true then Q true H1 else u σ H1 Q
def Rv (t:TT):TT:=λσ H Q=>t σ H λc H1=>Q (!c) H1
def HQ (al:fZ X a p2):kX X (.BoolOp .And [a] pos) p2:=by
 intro z8 pins s σ H Q J h;refine isTrue_and (bN (al pins s σ H Q J h) λc s1 e=>?_);cases c with
 |true=>exact isTrue_and_nil e
 |false=>exact e
def CE (al:fZ X a p2):kX X (.BoolOp .Or [a] pos) p2:=by
 intro z8 pins s σ H Q J h;refine isTrue_or (bN (al pins s σ H Q J h) λc s1 e=>?_);cases c with
 |false=>exact isTrue_or_nil e
 |true=>exact e
def HP (al:fZ X a p2)(I:kX X (.BoolOp .And (b::rest) pos) Ds):kX X (.BoolOp .And (a::b::rest) pos) (ae0 p2 Ds):=by
 intro z8 pins s σ H Q J h;refine isTrue_and (bN (al pins s σ H _ J h) λc s1 ⟨H1,aP,aX⟩=>?_);cases c with
 |true=>exact I z8 pins s1 σ H1 Q aP aX
 |false=>exact⟨H1,aP,aX⟩
def CD (al:fZ X a p2)(I:kX X (.BoolOp .Or (b::rest) pos) Ds):kX X (.BoolOp .Or (a::b::rest) pos) (afi p2 Ds):=by
 intro z8 pins s σ H Q J h;refine isTrue_or (bN (al pins s σ H _ J h) λc s1 ⟨H1,aP,aX⟩=>?_);cases c with
 |true=>exact⟨H1,aP,aX⟩
 |false=>exact I z8 pins s1 σ H1 Q aP aX
def zC (al:fZ X a p2):fZ X (.UnaryOp .Not a pos) (Rv p2):=by intro pins s σ H Q J h;exact isTrue_not (al pins s σ H (λc H1=>Q (!c) H1) J h)
inductive ae1i(cL:TE)(σ:St)(Q:cM)(x:V)(H1:ah):Prop|i(c)(_:x=.bL c)(_:if c=true then cL σ H1 Q else Q (.bL false) H1)
def ae1 (aF cL:TE):TE:=λσ H Q=>aF σ H (ae1i cL σ Q)
inductive afhi(Q:cM)(x:V)(H1:ah):Prop|i(c)(_:x=.bL c)(_:Q (.bL (!c)) H1)
def afh (aF:TE):TE:=λσ H Q=>aF σ H (afhi Q)
def P7 {op}(h:bl X a t):bl X (.BoolOp op [a] pos) t:=λpins s σ H Q J hw=>BoolOp_one (h pins s σ H Q J hw)
def P2 (al:bl X a aF)(I:bl X (.BoolOp .And (b::rest) pos) cL):bl X (.BoolOp .And (a::b::rest) pos) (ae1 aF cL):=by
 intro pins s σ H Q J h;refine BoolOp_and (bN (al pins s σ H _ J h) λv s1 ⟨x,H1,aP,cj,aX⟩=>?_);obtain⟨c,rfl,aX⟩:=aX;cases cj;refine o5 ?_;cases c with
 |true=>exact I pins s1 σ H1 Q aP aX
 |false=>exact⟨.bL false,H1,aP,rfl,aX⟩
def acQ (al:bl X a aF):bl X (.UnaryOp .Not a pos) (afh aF):=by intro pins s σ H Q J h;refine UnaryOp_ (bN (al pins s σ H _ J h) λv s1 ⟨x,H1,aP,cj,aX⟩=>?_);obtain⟨c,rfl,aX⟩:=aX;cases cj;exact not_of (o5 ⟨.bL (!c),H1,aP,rfl,aX⟩)
def bA (K:PySem.W.Frag)(H:ah)(a:U)(xs:List V):Prop:=
 aU H a (.lst xs)\/
  ∃(o:Obj) (a3:Array af) (n:Nat),K.lookup a=some o/\o.cls=.type "list"/\o.dict=none/\o.data=.seq a3 n/\a3.size<=sizeLine/\b' xs a3.toList
def c5 (K:PySem.W.Frag)(H:ah)(a:U)(xs:List V):Prop:=
 aU H a (.tup xs)\/
  ∃(o:Obj) (a3:Array af) (n:Nat),K.lookup a=some o/\o.cls=.type "tuple"/\o.data=.seq a3 n/\a3.size<=sizeLine/\b' xs a3.toList
def Tu:af->Option V
 |.none=>some .b1
 |.bool b=>some (.bL b)
 |.int i _=>some (.int i)
 |.str x _=>some (.str x)
 |.bytes b _=>some (.j5 b)
 |.float b _=>some (.xY b)
 |.ref a=>some (.ref a)
 |.type n=>some (.ty n)
 |_=>none
def RelV.abs (r:RelV x u):Tu u=some x:=by
 cases x with
 |b1=>cases r;rfl
 |bL _=>cases r;rfl
 |int _=>obtain⟨t,rfl⟩:=r;rfl
 |str _=>obtain⟨t,rfl⟩:=r;rfl
 |j5 _=>obtain⟨t,rfl⟩:=r;rfl
 |xY _=>obtain⟨t,rfl⟩:=r;rfl
 |ref _=>cases r;rfl
 |ty _=>cases r;rfl
def RelV.inj (r:RelV x u)(q:RelV y u):x=y:=dZ (r.abs.symm.trans q.abs)
theorem b'.inj:∀{xs bO:List V} {us:List af},b' xs us->b' bO us->xs=bO
 |_,_,_,.nil,.nil=>rfl
 |_,_,_,.cons r t,.cons b8 t'=>by rw[r.inj b8,b'.inj t t']
def bA.of {H:ah}{a:U}{xs:List V}{K:PySem.W.Frag}(h:H a=some (.lst xs)):bA K H a xs:=.inl (.inl h)
def c5.of {H:ah}{a:U}{xs:List V}{K:PySem.W.Frag}(h:H a=some (.tup xs)):c5 K H a xs:=.inl (.inl h)
def Inv.list (J:Inv X pins σ H s)(h:bA X.K H a xs):∃a3:List af,b' xs a3/\PlainL s.heap a a3.toArray/\xs.length<=sizeLine:=by
 rcases h with h|⟨o,a3,n,aw,ai,hd,aD,hz,r⟩
 ·obtain⟨z,a3,n,r,e⟩:=h.ok J.ba;exact⟨a3,r,⟨_,n,e,rfl,rfl,rfl⟩,z⟩
 ·refine⟨a3.toList,r,⟨o,n,J.gv a o aw,ai,hd,by simpa using aD⟩,?_⟩;have e:=r.length;simp only[Aa] at e;omega
def Inv.tuple (J:Inv X pins σ H s)(h:c5 X.K H a xs):∃a3:List af,b' xs a3/\IsTup s.heap a a3.toArray/\xs.length<=sizeLine:=by
 rcases h with h|⟨o,a3,n,aw,ai,aD,hz,r⟩
 ·obtain⟨z,a3,r,p⟩:=h.ok J.ba;exact⟨a3,r,p,z⟩
 ·refine⟨a3.toList,r,⟨o,J.gv a o aw,ai,n,by simpa using aD⟩,?_⟩;have e:=r.length;simp only[Aa] at e;omega
def Inv.GO (J:Inv X pins σ H s)(h:bA X.K H a xs)(h':bA X.K H a bO):xs=bO:=by
 obtain⟨a3,r,⟨o,n,e,_,_,d⟩,_⟩:=J.list h;obtain⟨its',b8,⟨d5,hA,bV,_,_,d'⟩,_⟩:=J.list h';rw[e] at bV;cases bV;rw[d] at d';injection d' with eA _;have:a3=its':=by simpa using congrArg Array.toList eA
 subst this;exact r.inj b8
def Inv.afD (J:Inv X pins σ H s)(h:c5 X.K H a xs)(h':c5 X.K H a bO):xs=bO:=by
 obtain⟨a3,r,⟨o,e,_,n,d⟩,_⟩:=J.tuple h;obtain⟨its',b8,⟨d5,bV,_,hA,d'⟩,_⟩:=J.tuple h';rw[e] at bV;cases bV;rw[d] at d';injection d' with eA _;have:a3=its':=by simpa using congrArg Array.toList eA
 subst this;exact r.inj b8
abbrev bq.p5 (X:bq)(E:af->ar->Prop):bq:={X with cK:=E}
abbrev bq.Ci (X:bq):bq:=X.p5 λ_ _=>False
def bq.Ok.p5 {X:bq}(ok:X.Ok)(E:af->ar->Prop):(X.p5 E).Ok:=
 ⟨ok.mod,ok.kind,ok.glob,ok.blt,ok.above,ok.inj,ok.has,ok.rK,ok.hd,ok.frames,ok.uH,ok.tG,ok.bs,ok.nf,ok.sB,ok.rT,ok.k6,ok.mu⟩
def bq.Ok.sV {X:bq}{E:af->ar->Prop}(ok:(X.p5 E).Ok):X.Ok:=
 ⟨ok.mod,ok.kind,ok.glob,ok.blt,ok.above,ok.inj,ok.has,ok.rK,ok.hd,ok.frames,ok.uH,ok.tG,ok.bs,ok.nf,ok.sB,ok.rT,ok.k6,ok.mu⟩
def Inv.p5 {X:bq}(J:Inv X pins σ H s)(E:af->ar->Prop):Inv (X.p5 E) pins σ H s:=⟨J.ok.p5 E,J.os,J.bare,J.base,J.loc,J.cell,J.free,J.jq,J.pin,J.ba,J.len⟩
def Inv.sV {X:bq}(J:Inv (X.p5 E) pins σ H s):Inv X pins σ H s:=⟨J.ok.sV,J.os,J.bare,J.base,J.loc,J.cell,J.free,J.jq,J.pin,J.ba,J.len⟩
def nY.sV (h:nY (X.p5 E) pins D f s'):nY X pins D f s':=by
 cases f with
 |next=>obtain⟨σ',ab,J,q⟩:=h;exact⟨σ',ab,J.sV,q⟩
 |brk=>obtain⟨σ',ab,J,q⟩:=h;exact⟨σ',ab,J.sV,q⟩
 |cont=>obtain⟨σ',ab,J,q⟩:=h;exact⟨σ',ab,J.sV,q⟩
 |ret u=>obtain⟨v,σ',ab,J,r,q⟩:=h;exact⟨v,σ',ab,J.sV,r,q⟩
def e_.Ci {X:bq}{st:List Stmt}{t:dj}(h:e_ X.Ci st t):e_ X st t:=λpins s σ H D J hw=>
 je (h pins s σ H D (J.p5 _) hw) (λ_ _ q=>q.sV) λ_ _ z=>False.elim z
def oQ:dj:=λD σ H=>D.cG σ H
def ki (t u:dj):dj:=λD σ H=>t {D with cG:=u D} σ H
def dn:e_ X [] oQ:=λ_ _ σ H _ J h=>wpAny_execs_nil ⟨σ,H,J,h⟩
def a_ {X:bq}{st:Stmt}{rest:List Stmt}{t u:dj}(aa:fi X st t)(ac:e_ X rest u):e_ X (st::rest) (ki t u):=by
 intro pins s σ H D J h;refine wpAny_execs_cons (bN (aa pins s σ H {D with cG:=u D} J h) λf s1 q=>?_);cases f with
 |next=>obtain⟨σ',ab,jK,q⟩:=q;exact ac pins s1 σ' ab D jK q
 |ret v=>exact q
 |brk=>exact q
 |cont=>exact q
def bo {X:bq}{st:Stmt}{t:dj}(aa:fi X st t):e_ X [st] t:=by
 intro pins s σ H D J h;refine wpAny_execs_cons (bN (aa pins s σ H D J h) λf s1 q=>?_);cases f with
 |next=>exact wpAny_execs_nil q
 |ret v=>exact q
 |brk=>exact q
 |cont=>exact q
def Inv.quiet (J:Inv X pins σ H s):interactive X.env=false:=by simp[interactive,J.ok.kind]
def wE (te:TE):dj:=λD σ H=>te σ H λ_ H1=>D.cG σ H1
def hQ (he:bl X e te)(aD:swapsWith e none pos.line X.env=pure false:=by rfl):fi X (.Expr e pos) (wE te):=by intro pins s σ H D J h;exact wpAny_Expr_any (bN (he pins s σ H _ J h) λv s1 ⟨x,H1,aP,cj,aX⟩=>⟨σ,H1,aP,aX⟩) J.quiet aD
def z3 (te:TE):dj:=λD σ H=>te σ H D.ia
def cp (he:bl X e te):fi X (.Return (some e) pos) (z3 te):=by intro pins s σ H D J h;exact wpAny_Return_some (bN (he pins s σ H _ J h) λv s1 ⟨x,H1,aP,cj,aX⟩=>⟨x,σ,H1,aP,cj,aX⟩)
def oP (c:TT)(t u:dj):dj:=λD σ H=>c σ H λb H1=>if b=true then t D σ H1 else u D σ H1
def dh (ai:fZ X c oT)(al:e_ X a t)(I:e_ X b u):fi X (.If c a b pos) (oP oT t u):=by
 intro pins s σ H D J h;refine wpAny_If (bN (ai pins s σ H _ J h) λd s1 ⟨H1,aP,aX⟩=>?_);cases d with
 |true=>exact al pins s1 σ H1 D aP aX
 |false=>exact I pins s1 σ H1 D aP aX
abbrev iS:=V->St->ah->(St->ah->Prop)->Prop
abbrev tu:=List V->St->ah->(St->ah->Prop)->Prop
def g5 (X:bq)(target:Expr)(t:iS):Prop:=
 ∀(pins:List (U×Obj)) (s:ar) (σ:St) (H:ah) (v:V) (u:af) (Q:St->ah->Prop),Inv X pins σ H s->RelV v u->t v σ H Q->
  wpAny (model X.prog X.w) X.A (assign target X.env u) (λ_ s'=>∃σ' ab,Inv X pins σ' ab s'/\Q σ' ab) X.cK s
def ii (X:bq)(bC:List Expr)(t:tu):Prop:=
 ∀(pins:List (U×Obj)) (s:ar) (σ:St) (H:ah) (vs:List V) (us:List af) (Q:St->ah->Prop),Inv X pins σ H s->b' vs us->t vs σ H Q->
  wpAny (model X.prog X.w) X.A (assignInOrder ((assignEach bC X.env).map (·.2)) us) (λ_ s'=>∃σ' ab,Inv X pins σ' ab s'/\Q σ' ab) X.cK s
abbrev xp:=V->V->V->ah->(ah->Prop)->Prop
def AI (X:bq)(t:xp):Prop:=
 ∀(pins:List (U×Obj)) (s:ar) (σ:St) (H:ah) (o i v:V) (ee hL u:af) (Q:ah->Prop),Inv X pins σ H s->RelV o ee->RelV i hL->RelV v u->t o i v H Q->
  wpAny (model X.prog X.w) X.A (setItem ee hL u) (λ_ s'=>∃ab,Inv X pins σ ab s'/\Q ab) X.cK s
abbrev AM:=V->V->ah->cM->Prop
def Ki (X:bq)(op:Operator)(t:AM):Prop:=
 ∀(pins:List (U×Obj)) (s:ar) (σ:St) (H:ah) (x y:V) (v u:af) (Q:cM),Inv X pins σ H s->RelV x v->RelV y u->t x y H Q->
  wpAny (model X.prog X.w) X.A (inplaceOp op v u) (hE X pins σ Q) X.cK s
def jr (i:Nat):iS:=λv σ H Q=>Q (σ.set i (some v)) H
def fJ {i:Nat}(c6:X.N.Nodup)(aR:X.N[i]? =some x:=by rfl)(ao:Loc X.env.scope x:=by first|exact Or.inl rfl|exact Or.inr rfl)(hf:X.fn x=true\/X.env.scope.names.lookup x=some .local:=by first|exact .inl rfl|exact .inr rfl|assumption):g5 X (.Name x pos) (jr i):=by intro pins s σ H v u Q J r h;exact wpAny_assign_Name (Do J c6 aR ao r (λs' jK=>⟨_,H,jK,h⟩) hf)
def Bg:tu:=λvs σ H Q=>vs=[]/\Q σ H
inductive tJ(t:iS)(u:tu)(vs:List V)(σ:St)(H:ah)(Q:St->ah->Prop):Prop|i(v)(r)(_:vs=v::r)(_:t v σ H λσ' ab=>u r σ' ab Q)
def oJ:ii X [] Bg:=by intro pins s σ H vs us Q J r h;obtain⟨e,h⟩:=h;subst e;cases r;exact assignInOrder_nil ⟨σ,H,J,h⟩
def gY (aa:g5 X e t)(ac:ii X es u)
  (aD:(assignEach (e::es) X.env).map (·.2)=assign e X.env::(assignEach es X.env).map (·.2):=by rfl):ii X (e::es) (tJ t u):=by
 intro pins s σ H vs us Q J r h;obtain⟨v,ahh,aE,h⟩:=h;subst aE;cases r with
 |cons r eb=>rw[aD];refine assignInOrder_cons (bN (aa pins s σ H _ _ _ J r h) λ_ s1 ⟨σ1,H1,aP,aX⟩=>?_);exact ac pins s1 σ1 H1 _ _ Q aP eb aX
inductive Bh(K:PySem.W.Frag)(n:Nat)(t:tu)(v:V)(σ:St)(H:ah)(Q:St->ah->Prop):Prop|i(a)(xs)(_:v=.ref a)(_:c5 K H a xs)(_:xs.length=n)(_:t xs σ H Q)
def oI {k:Nat}{n:Nat}(ai:X.calm=true)(h:ii X es t)
  (ak:(assignEach es X.env).length=n:=by rfl) (fR:(assignEach es X.env).findIdx? (·.1)=none:=by rfl):g5 X (.Tuple es k pos) (Bh X.K n t):=by
 intro pins s σ H v u Q J r hw;obtain⟨a,xs,aE,az,aC,hw⟩:=hw;subst aE;cases r;obtain⟨a3,cy,bY,hz⟩:=J.tuple az;refine assign_Tuple_tuple (J.ok.hd ai) bY (by simp[ak,<-aC,cy.length]) fR λh' ao=>?_;have aP:Inv X pins σ H {s with heap:=h'}:=J.kept (t':=s.toks) λb o e=>ao b o (e8 (dc e)) e;exact h pins _ σ H xs _ Q aP (by simpa using cy) hw
def V9 (to kj:TE)(t:xp):iS:=λv σ H Q=>to σ H λo H1=>kj σ H1 λi ap=>t o i v ap λbz=>Q σ bz
def Cy (aI:bl X o to)(aR:bl X i kj)(aD:AI X t)
  (al:∀v,assign (.Subscript o i pos) X.env v=(do
   let ee <-holding [v] (eval o X.env)
   let hL <-holding [v,ee] (eval i X.env)
   standAt pos
   holding [v,ee,hL] (setItem ee hL v)
   release [v,ee,hL] []):=by intro _;rfl):g5 X (.Subscript o i pos) (V9 to kj t):=by
 intro pins s σ H v u Q J r h;rw[al];refine aH (nM (bN (aI pins s σ H _ J h) λee s1 ⟨x,H1,aP,cj,aX⟩=>?_));refine aH (nM (bN (aR pins s1 σ H1 _ aP aX) λhL s2 ⟨y,ap,bP,dB,bt⟩=>?_));refine aH (wpAny_standAt (aH (nM (bN (aD pins s2 σ ap x y v ee hL u _ bP cj dB r bt) λ_ s3 ⟨bz,dv,cn⟩=>?_))));exact wpAny_release ⟨σ,bz,dv,cn⟩
def rl (te:TE)(g:iS):dj:=λD σ H=>te σ H λx H1=>g x σ H1 D.cG
def CC (he:bl X e te)(bK:g5 X dE g)(aD:swapsWithSole [dE] e pos.line X.env=pure false:=by rfl)(hw:swappedStores [dE] e X.env=pure none:=by rfl)
  (aa:(assignEach [dE] X.env).map (·.2)=[assign dE X.env]:=by rfl):fi X (.Assign [dE] e pos) (rl te g):=by
 intro pins s σ H D J h;refine wpAny_Assign_stores (bN (he pins s σ H _ J h) λv s1 ⟨x,H1,aP,cj,aX⟩=>?_) aD hw;rw[aa];exact bN (bK pins s1 σ H1 x v _ aP cj aX) λ_ s2 q=>q
def cE {i:Nat}(c6:X.N.Nodup)(he:bl X e te)(aR:X.N[i]? =some x:=by rfl)(ao:Loc X.env.scope x:=by first|exact Or.inl rfl|exact Or.inr rfl)(aD:swapsWith e (some (.Name x pos')) pos.line X.env=pure false:=by rfl)(hf:X.fn x=true\/X.env.scope.names.lookup x=some .local:=by first|exact .inl rfl|exact .inr rfl|assumption):
  fi X (.Assign [.Name x pos'] e pos) (rl te (jr i)):=by
 intro pins s σ H D J h;refine wpAny_Assign_Name (bN (he pins s σ H _ J h) λv s1 ⟨y,H1,aP,cj,aX⟩=>?_) aD;exact Do aP c6 aR ao cj (λs2 bP=>⟨_,H1,bP,aX⟩) hf
inductive ae2(i:Nat)(te:TE)(kj:AM)(D:Ends)(σ:St)(H:ah):Prop|i(x)(_:σ[i]? =some (some x))(_:te σ H λy H1=>kj x y H1 λz ap=>D.cG (σ.set i (some z)) ap)
def HM {i:Nat}(c6:X.N.Nodup)(he:bl X e te)(aI:Ki X op kj)(aR:X.N[i]? =some x:=by rfl)(ao:Loc X.env.scope x:=by first|exact Or.inl rfl|exact Or.inr rfl)(hf:X.fn x=true\/X.env.scope.names.lookup x=some .local:=by first|exact .inl rfl|exact .inr rfl|assumption):
  fi X (.AugAssign (.Name x pos') op e pos) (ae2 i te kj):=by
 intro pins s σ H D J h;obtain⟨v,aE,h⟩:=h;obtain⟨m,ak,aC⟩:=J.loc;have afP:u' X.env.scope x:=by rcases ao with k|k;exact .inl k;exact .inr (.inl k)
 obtain⟨u,r,l⟩:=aC i x v aR aE afP;refine wpAny_AugAssign_Name ?_;have go:wpAny (model X.prog X.w) X.A (eval e X.env) (λw s₂=>wpAny (model X.prog X.w) X.A (inplaceOp op u w) (λr s₃=>wpAny (model X.prog X.w) X.A (storeName X.env x r) (λ_=>nY X pins D .next) X.cK s₃) X.cK s₂) X.cK s:=by refine bN (he pins s σ H _ J h) λw s1 ⟨y,H1,aP,cj,aX⟩=>?_;refine bN (aI pins s1 σ H1 v y u w _ aP r cj aX) λz s2 ⟨ahk,ap,bP,dB,bt⟩=>?_;exact Do bP c6 aR ao dB (λs3 dv=>⟨_,ap,dv,bt⟩) hf
 rcases l with⟨aw,hm⟩|⟨aw,c,ai,Bu⟩
 ·exact wpAny_loadName_local J.ok.kind aw ak hm go
 ·rcases aw with aw|aw
  ·exact wpAny_loadName_cell J.ok.kind aw ai Bu go
  ·rcases ao with k|k
   ·have:X.env.scope.names.lookup x=some .free:=aw;rw[k] at this;cases this
   ·have:X.env.scope.names.lookup x=some .free:=aw;rw[k] at this;cases this
inductive Zx(f:Int->Int->Int)(x:V)(y:V)(H:ah)(Q:cM):Prop|i(i)(j)(_:x=.int i)(_:y=.int j)(_:Q (.int (f i j)) H)
def Gs:Ki X .Add (Zx λi j=>i+j):=by intro pins s σ H x y v u Q J cj dB h;obtain⟨i,j,aE,aL,q⟩:=h;subst aE;subst aL;obtain⟨t,rfl⟩:=cj;obtain⟨t',rfl⟩:=dB;exact iadd_int ⟨.int _,H,J.tok _,⟨_,rfl⟩,q⟩
def I6 (c:TT)(cL:dj):dj:=λD σ H=>∃W:Nat->St->ah->Prop,(∃m,W m σ H)/\∀m σ H,W m σ H->
 c σ H λb H1=>if b=true then ∃N:St->ah->Prop,(∀σ' ab,N σ' ab->∃cQ,cQ < m/\W cQ σ' ab)/\cL {D with cG:=N,dP:=N,hI:=D.cG} σ H1 else D.cG σ H1
def sI (am:PassesOwn (model X.prog X.w) X.A X.env X.cK)(ai:fZ X c oT)(I:e_ X body cL):fi X (.While c body [] pos) (I6 oT cL):=by
 intro pins s σ H D J h;obtain⟨W,⟨m0,l6⟩,turn⟩:=h;refine wpAny_While (codeAny_whileLoop (λn s'=>∃σ' ab,Inv X pins σ' ab s'/\W n σ' ab) ?_ m0 ⟨σ,H,J,l6⟩);rintro n s1 ⟨σ1,H1,aP,hC⟩;refine uY am (bN (ai pins s1 σ1 H1 _ aP (turn n σ1 H1 hC)) λb s2 ⟨ap,bP,bt⟩=>?_);cases b with
 |true=>
  obtain⟨N,c6,bt⟩:=bt;rw[aV rfl];refine uY am (bN (I pins s2 σ1 ap _ bP bt) λf s3 cn=>?_);cases f with
  |next=>obtain⟨σ3,bz,dv,gI⟩:=cn;obtain⟨cQ,hm,mR⟩:=c6 σ3 bz gI;exact⟨cQ,hm,σ3,bz,dv,mR⟩
  |cont=>obtain⟨σ3,bz,dv,gI⟩:=cn;obtain⟨cQ,hm,mR⟩:=c6 σ3 bz gI;exact⟨cQ,hm,σ3,bz,dv,mR⟩
  |brk=>exact cn
  |ret v=>exact cn
 |false=>rw[aN gg];exact wpAny_execs_nil ⟨σ1,ap,bP,bt⟩
structure iQ where
 go:Nat->ah->Prop
 p6:Nat->ah->V->ah->Prop
 stop:Nat->ah->Prop
def nQ (X:bq)(pins:List (U×Obj))(H:ah)(b:U):Prop:=
 H b=none/\b≠X.env.locals/\b∉X.bd/\(b∈X.ex\/X.iF.heap.objs.size<=b)/\(∀x c,X.env.cells.lookup x=some c->c≠b)/\∀p∈X.cR++pins,p.1≠b
def Inv.xZ (J:Inv X pins σ H s)(I:s.heap.objs.size<=b)(ak:ab b=none):nQ X pins ab b:=by
 refine⟨ak,iL (hl J.lt I),J.abe I,.inr (gC J.kg I),λx c e z=>?_,λp am z=>?_⟩
 ·obtain⟨v,q⟩:=J.cell x c e;exact absurd (hl q.lt (by rw[z];exact I)) (o2 _)
 ·exact absurd (hl (dc (J.pin p am).1) (by rw[z];exact I)) (o2 _)
structure rH (P:bg)(w:bb)(K:PySem.W.Frag)(dE:Expr)(ez:iQ)(cw:List U)(it:U)(ie:Nat->a5->Prop):Prop where
 mem:it∈cw
 obj:∀i h,ie i h->∀b∈cw,∃o,h.get? b=some o/\∀v,o.data≠.cell v
 keep:∀i h h',ie i h->(∀b∈cw,∀o,h.get? b=some o->h'.get? b=some o)->ie i h'
 item:∀(X:bq),X.prog=P->X.w=w->X.K=K->X.calm=true->∀(i:Nat) (pins:List (U×Obj)) (s:ar) (σ:St) (H:ah) (E:af->ar->Prop),Inv X pins σ H s->(∀b∈cw,nQ X pins H b)->ie i s.heap->ez.go i H->
  wpAny (model P w) X.A (pyNext (.ref it)) (λr s1=>∃u,r=some u/\
   wpAny (model P w) X.A (letOwnedTupleGo dE (.ref it) u) (λ_ s2=>∃x ab,Inv X pins σ ab s2/\RelV x u/\ez.p6 i H x ab/\ie (i+1) s2.heap/\∀b∈cw,ab b=none) E s1) E s
 done:∀(X:bq),X.prog=P->X.w=w->X.K=K->X.calm=true->∀(i:Nat) (pins:List (U×Obj)) (s:ar) (σ:St) (H:ah) (E:af->ar->Prop),Inv X pins σ H s->(∀b∈cw,nQ X pins H b)->ie i s.heap->ez.stop i H->
  wpAny (model P w) X.A (pyNext (.ref it)) (λr s1=>r=none/\Inv X pins σ H s1) E s
 self:∀(A:cU) (i:Nat) (s:ar) (Q:af->ar->Prop) (E:af->ar->Prop),ie i s.heap->Q (.ref it) s->wpAny (model P w) A (pyIter (.ref it)) Q E s
abbrev TI:=St->ah->(iQ->ah->Prop)->Prop
def Ed (X:bq)(pins:List (U×Obj))(σ:St)(dE:Expr)(R:iQ->ah->Prop)(Gx:af)(s2:ar):Prop:=
 ∃(it:U) (cw:List U) (ie:Nat->a5->Prop) (ez:iQ) (ab:ah),Gx=.ref it/\Inv X pins σ ab s2/\rH X.prog X.w X.K dE ez cw it ie/\ie 0 s2.heap/\(∀b∈cw,nQ X pins ab b)/\R ez ab
def qo (X:bq)(dE iter:Expr)(kl:TI):Prop:=
 ∀(pins:List (U×Obj)) (s:ar) (σ:St) (H:ah) (R:iQ->ah->Prop),Inv X pins σ H s->kl σ H R->
  wpAny (model X.prog X.w) X.A (eval iter X.env) (λv s1=>wpAny (model X.prog X.w) X.A (pyIter v) (Ed X pins σ dE R) X.cK s1) X.cK s
def Bj {n:String}(aI:s.heap.get? it=some o)(ai:o.cls=.type n)(hd:o.data=.fields vs)
  (ak:["enumerate","zip","dict_itemiterator","dict_reverseitemiterator","odict_iterator","itertools.zip_longest","itertools.pairwise"].contains n=false) (eV:Q () s):wpAny M A (letOwnedTupleGo dE (.ref it) u) Q E s:=by
 unfold letOwnedTupleGo;cases dE<;>first
  |exact bp eV
  |(cases u<;>first
    |exact bp eV
    |(refine aH (wpAny_load aI ?_)
      rw[ai,hd];show wpAny M A (if(["enumerate","zip","dict_itemiterator","dict_reverseitemiterator","odict_iterator","itertools.zip_longest","itertools.pairwise"].contains n&&vs[0]? ==some (rawInt _))=true then _ else _) Q E s;rw[aN (by intro h;rw[ak,Bool.false_and] at h;cases h)];exact bp eV))
def rD (K:PySem.W.Frag)(a:U):iQ:=
 ⟨λi H=>∃xs x,bA K H a xs/\xs[i]? =some x,λi H x ab=>ab=H/\∀xs,bA K H a xs->xs[i]? =some x,λi H=>∃xs,bA K H a xs/\xs.length<=i⟩
def xc (K:PySem.W.Frag)(a:U):iQ:=
 ⟨λi H=>∃xs x,c5 K H a xs/\xs[i]? =some x,λi H x ab=>ab=H/\∀xs,c5 K H a xs->xs[i]? =some x,λi H=>∃xs,c5 K H a xs/\xs.length<=i⟩
def afG {P:bg}{w:bb}{K:PySem.W.Frag}{dE:Expr}(a it:U):rH P w K dE (rD K a) [it] it (λi h=>h.IsListIter it a i) where
 mem:=by simp
 obj:=λi h st b I=>by
  have e:b=it:=by simpa using I
  subst e;obtain⟨o,e,c,d⟩:=st;exact⟨o,e,λv z=>by rw[d] at z;cases z⟩
 keep:=λi h h' st k=>st.at λo e=>k it (by simp) o e
 item:=by intro X fb hw d9 ai i pins s σ H E J hf st bK;subst fb hw d9;obtain⟨xs,x,az,ao⟩:=bK;obtain⟨a3,cy,p,hz⟩:=J.list az;obtain⟨u,aW,c7⟩:=cy.get ao;obtain⟨f0,f1,f2,d8,f4,eU⟩:=hf it (by simp);refine wpAny_pyNext_list_item st p.isList (x:=u) (by simpa using aW) λh' eh dM=>?_;have aP:Inv X pins σ H {s with heap:=h'}:=J.turned (t':=s.toks) (λb o I e=>(dM.2 b I).trans e) f0 f1 d8 f4 eU;obtain⟨o,e,c,d⟩:=id eh;exact⟨u,rfl,Bj (s:={s with heap:=h'}) e c d (by decide) ⟨x,H,aP,c7,⟨rfl,λbO bk=>by rw[J.GO bk az];exact ao⟩,eh,λb I=>(hf b I).1⟩⟩
 done:=by intro X fb hw d9 ai i pins s σ H E J hf st bK;subst fb hw d9;obtain⟨xs,az,ao⟩:=bK;obtain⟨a3,cy,p,hz⟩:=J.list az;obtain⟨f0,f1,f2,d8,f4,eU⟩:=hf it (by simp);have aC:=cy.length;exact wpAny_pyNext_list_end (J.ok.hd ai) st p.isList (by simp;omega) λh' dG=>⟨rfl,J.turned (t':=s.toks) (λb o I e=>dG b o I e) f0 f1 d8 f4 eU⟩
 self:=λ_ _ _ _ _ st h=>wpAny_pyIter_listiter st h
def afI {P:bg}{w:bb}{K:PySem.W.Frag}{dE:Expr}(a it:U):rH P w K dE (xc K a) [it] it (λi h=>h.IsTupleIter it a i) where
 mem:=by simp
 obj:=λi h st b I=>by
  have e:b=it:=by simpa using I
  subst e;obtain⟨o,e,c,d⟩:=st;exact⟨o,e,λv z=>by rw[d] at z;cases z⟩
 keep:=λi h h' st k=>st.at λo e=>k it (by simp) o e
 item:=by intro X fb hw d9 ai i pins s σ H E J hf st bK;subst fb hw d9;obtain⟨xs,x,az,ao⟩:=bK;obtain⟨a3,cy,p,hz⟩:=J.tuple az;obtain⟨u,aW,c7⟩:=cy.get ao;obtain⟨f0,f1,f2,d8,f4,eU⟩:=hf it (by simp);refine wpAny_pyNext_tuple_item st (show s.heap.IsTuple a a3.toArray from p) (x:=u) (by simpa using aW) λh' eh dM=>?_;have aP:Inv X pins σ H {s with heap:=h'}:=J.turned (t':=s.toks) (λb o I e=>(dM.2 b I).trans e) f0 f1 d8 f4 eU;obtain⟨o,e,c,d⟩:=id eh;exact⟨u,rfl,Bj (s:={s with heap:=h'}) e c d (by decide) ⟨x,H,aP,c7,⟨rfl,λbO bk=>by rw[J.afD bk az];exact ao⟩,eh,λb I=>(hf b I).1⟩⟩
 done:=by intro X fb hw d9 ai i pins s σ H E J hf st bK;subst fb hw d9;obtain⟨xs,az,ao⟩:=bK;obtain⟨a3,cy,p,hz⟩:=J.tuple az;obtain⟨f0,f1,f2,d8,f4,eU⟩:=hf it (by simp);have aC:=cy.length;exact wpAny_pyNext_tuple_end (J.ok.hd ai) st (show s.heap.IsTuple a a3.toArray from p) (by simp;omega) λh' dG=>⟨rfl,J.turned (t':=s.toks) (λb o I e=>dG b o I e) f0 f1 d8 f4 eU⟩
 self:=λ_ _ _ _ _ st h=>wpAny_pyIter_tupleiter st h
inductive Ogi(K:PySem.W.Frag)(R:iQ->ah->Prop)(x:V)(H1:ah):Prop|i(a)(_:x=.ref a)(_:∃xs,bA K H1 a xs)(_:R (rD K a) H1)
def Og (K:PySem.W.Frag)(gf:TE):TI:=λσ H R=>gf σ H (Ogi K R)
inductive Zqi(K:PySem.W.Frag)(R:iQ->ah->Prop)(x:V)(H1:ah):Prop|i(a)(_:x=.ref a)(_:∃xs,c5 K H1 a xs)(_:R (xc K a) H1)
def Zq (K:PySem.W.Frag)(gf:TE):TI:=λσ H R=>gf σ H (Zqi K R)
def pZ {X:bq}{dE:Expr}{l:Expr}{gf:TE}(aC:bl X l gf):qo X dE l (Og X.K gf):=by
 intro pins s σ H R J h;refine bN (aC pins s σ H _ J h) λv s1 ⟨x,H1,aP,cj,aX⟩=>?_;obtain⟨a,e,⟨xs,az⟩,q⟩:=aX;subst e;cases cj;obtain⟨a3,cy,p,hz⟩:=aP.list az;refine wpAny_pyIter_list p.isList ?_;refine⟨s1.heap.objs.size,[s1.heap.objs.size],_,_,H1,rfl,aP.kept (t':=s1.toks) λb o e=>dx _ e,afG a _,⟨_,fM _ rfl,rfl,rfl⟩,λb I=>?_,q⟩;have e:b=s1.heap.objs.size:=by simpa using I
 subst e;exact aP.xZ (b5 _) (aP.ba.fresh (b5 _))
def P' {X:bq}{dE:Expr}{l:Expr}{gf:TE}(aC:bl X l gf):qo X dE l (Zq X.K gf):=by
 intro pins s σ H R J h;refine bN (aC pins s σ H _ J h) λv s1 ⟨x,H1,aP,cj,aX⟩=>?_;obtain⟨a,e,⟨xs,az⟩,q⟩:=aX;subst e;cases cj;obtain⟨a3,cy,p,hz⟩:=aP.tuple az;refine wpAny_pyIter_tuple (show s1.heap.IsTuple a a3.toArray from p) ?_;refine⟨s1.heap.objs.size,[s1.heap.objs.size],_,_,H1,rfl,aP.kept (t':=s1.toks) λb o e=>dx _ e,afI a _,⟨_,fM _ rfl,rfl,rfl⟩,λb I=>?_,q⟩;have e:b=s1.heap.objs.size:=by simpa using I
 subst e;exact aP.xZ (b5 _) (aP.ba.fresh (b5 _))
def Rq (kl:TI)(g:iS)(cL:dj):dj:=λD σ H=>kl σ H λez H1=>∃W:Nat->Nat->St->ah->Prop,(∃m,W 0 m σ H1)/\∀i m σ H,W i m σ H->
 (ez.stop i H/\D.cG σ H)\/(ez.go i H/\∃N:St->ah->Prop,(∀σ' ab,N σ' ab->∃cQ,cQ < m/\W (i+1) cQ σ' ab)/\∀x ab,ez.p6 i H x ab->g x σ ab λσ2 ap=>cL {D with cG:=N,dP:=N,hI:=D.cG} σ2 ap)
def zx (cw:List U)(h:a5):List (U×Obj):=cw.filterMap λb=>(h.get? b).map λo=>(b,o)
def G1 (I:b∈cw)(e:h.get? b=some o):(b,o)∈zx cw h:=Af.mpr ⟨b,I,by rw[e];rfl⟩
def abE (am:p∈zx cw h):p.1∈cw/\h.get? p.1=some p.2:=by
 obtain⟨b,I,e⟩:=Af.mp am;cases q:h.get? b with
 |none=>rw[q] at e;cases e
 |some o=>rw[q] at e;have bV:(b,o)=p:=dZ e;subst bV;exact⟨I,q⟩
def Inv.pinned (J:Inv X pins σ H s)(hf:∀b∈cw,nQ X pins H b)(aI:∀b∈cw,∃o,s.heap.get? b=some o/\∀v,o.data≠.cell v):Inv X (pins++zx cw s.heap) σ H s:=
 J.zy λp am=>(di.mp am).elim (λz=>J.pin p (o0 _ z)) λz=>by obtain⟨I,e⟩:=abE z;obtain⟨f0,f1,f2,_⟩:=hf p.1 I;obtain⟨o,bV,d⟩:=aI p.1 I;rw[e] at bV;cases bV;exact⟨e,f0,f1,f2,d⟩
def Inv.Dz (J:Inv X (pins++pl) σ H s):Inv X pins σ H s:=J.zy λp am=>J.pin p (o0 _ (lw _ am))
def lZ (am:PassesOwn (model X.prog X.w) X.A X.env X.cK)(ai:X.calm=true)(aR:qo X dE iter kl)(bK:g5 X dE g)(I:e_ X body cL)
  (aD:∀x,foldedSetIterable iter X.env x=pure x:=by intro _;rfl):fi X (.For dE iter body [] pos) (Rq kl g cL):=by
 intro pins s σ H D J h;refine wpAny_For (bN (aR pins s σ H _ J h) λv s1 aa=>bN aa λGx s2 ac=>?_) aD;obtain⟨it,cw,ie,ez,ap,e,bP,T,Dn,f2,W,⟨m0,l6⟩,turn⟩:=ac;subst e;have uG:∀{ab:ah},(∀b∈cw,ab b=none)->∀b∈cw,nQ X pins ab b:=λak b I=>⟨ak b I,(f2 b I).2⟩;refine codeAny_forLoop_any (λn s'=>∃i σ' ab,Inv X pins σ' ab s'/\ie i s'.heap/\(∀b∈cw,ab b=none)/\W i n σ' ab) ?_ m0 ⟨0,σ,ap,bP,Dn,λb I=>(f2 b I).1,l6⟩;rintro n s3 ⟨i,σ3,bz,dv,lq,x',mR⟩;rcases turn i n σ3 bz mR with⟨stop,zE⟩|⟨go,N,c6,step⟩
 ·refine uY am (bN (T.done X rfl rfl rfl ai i pins s3 σ3 bz X.cK dv (uG x') lq stop) λr s4 ⟨au,hX⟩=>?_);subst au;exact wpAny_execs_nil ⟨σ3,bz,hX,zE⟩
 ·refine uY am (bN (T.item X rfl rfl rfl ai i pins s3 σ3 bz X.cK dv (uG x') lq go) λr s4 ⟨u,au,bn⟩=>?_);subst au;refine uY am (bN bn λ_ s5 ⟨x,gi,j1,uA,af4,wz,Fg⟩=>?_);have S3:=j1.pinned (uG Fg) (T.obj _ _ wz);refine uY am (bN (bK _ s5 σ3 gi x u _ S3 uA (step x gi af4)) λ_ i6 ⟨σ6,ey,nS,fT⟩=>?_);refine uY am (bN (I _ i6 σ6 ey _ nS fT) λf jT hR=>?_);have again:∀{σ7:St} {j0:ah},Inv X (pins++zx cw s5.heap) σ7 j0 jT->N σ7 j0->∃m,m < n/\∃i σ' ab,Inv X pins σ' ab jT/\ie i jT.heap/\(∀b∈cw,ab b=none)/\W i m σ' ab:=λ{σ7 j0} ho uc=>by obtain⟨cQ,hm,afS⟩:=c6 σ7 j0 uc;refine⟨cQ,hm,i+1,σ7,j0,ho.Dz,T.keep _ _ _ wz λb I o e=>(ho.pin (b,o) (o0 _ (o0 _ (G1 I e)))).1,λb I=>?_,afS⟩;obtain⟨o,e,d⟩:=T.obj _ _ wz b I;exact(ho.pin (b,o) (o0 _ (o0 _ (G1 I e)))).2.1
  cases f with
  |next=>obtain⟨σ7,j0,ho,uc⟩:=hR;exact again ho uc
  |cont=>obtain⟨σ7,j0,ho,uc⟩:=hR;exact again ho uc
  |brk=>obtain⟨σ7,j0,ho,hR⟩:=hR;exact⟨σ7,j0,ho.Dz,hR⟩
  |ret v=>obtain⟨x7,σ7,j0,ho,zF,hR⟩:=hR;exact⟨x7,σ7,j0,ho.Dz,zF,hR⟩
def r1 {K:PySem.W.Frag}{a:U}{xs:List V}{g:iS}{cL:dj}{D:Ends}{σ:St}{H:ah}(Pv:Nat->St->ah->Prop)(h0:Pv 0 σ H)(aC:∀i σ H,i<=xs.length->Pv i σ H->bA K H a xs)
  (aD:∀i x σ H,xs[i]? =some x->Pv i σ H->g x σ H λσ2 ap=>cL {D with cG:=Pv (i+1),dP:=Pv (i+1),hI:=D.cG} σ2 ap) (hd:∀σ H,Pv xs.length σ H->D.cG σ H):
  ∃W:Nat->Nat->St->ah->Prop,(∃m,W 0 m σ H)/\∀i m σ H,W i m σ H->
   ((rD K a).stop i H/\D.cG σ H)\/((rD K a).go i H/\∃N:St->ah->Prop,(∀σ' ab,N σ' ab->∃cQ,cQ < m/\W (i+1) cQ σ' ab)/\∀x ab,(rD K a).p6 i H x ab->g x σ ab λσ2 ap=>cL {D with cG:=N,dP:=N,hI:=D.cG} σ2 ap):=by
 refine⟨λi m σ H=>m=xs.length - i/\i<=xs.length/\Pv i σ H,⟨xs.length,by simp,eY _,h0⟩,?_⟩;rintro i m σ H ⟨rfl,aR,p⟩;have q:=aC i σ H aR p;by_cases cO:i < xs.length
 ·refine .inr ⟨⟨xs,xs[i],q,by simp[cO]⟩,Pv (i+1),λσ' ab ef=>⟨xs.length - (i+1),by omega,rfl,cO,ef⟩,λx ab y=>?_⟩;obtain⟨e,y⟩:=y;subst e;exact aD i x σ _ (y xs q) p
 ·have e:i=xs.length:=by omega
  subst e;exact .inl ⟨⟨xs,q,b5 _⟩,hd σ H p⟩
def Ml {K:PySem.W.Frag}{a:U}{xs:List V}{g:iS}{cL:dj}{D:Ends}{σ:St}{H:ah}(Pv:Nat->St->ah->Prop)(h0:Pv 0 σ H)(aC:∀i σ H,i<=xs.length->Pv i σ H->c5 K H a xs)
  (aD:∀i x σ H,xs[i]? =some x->Pv i σ H->g x σ H λσ2 ap=>cL {D with cG:=Pv (i+1),dP:=Pv (i+1),hI:=D.cG} σ2 ap) (hd:∀σ H,Pv xs.length σ H->D.cG σ H):
  ∃W:Nat->Nat->St->ah->Prop,(∃m,W 0 m σ H)/\∀i m σ H,W i m σ H->
   ((xc K a).stop i H/\D.cG σ H)\/((xc K a).go i H/\∃N:St->ah->Prop,(∀σ' ab,N σ' ab->∃cQ,cQ < m/\W (i+1) cQ σ' ab)/\∀x ab,(xc K a).p6 i H x ab->g x σ ab λσ2 ap=>cL {D with cG:=N,dP:=N,hI:=D.cG} σ2 ap):=by
 refine⟨λi m σ H=>m=xs.length - i/\i<=xs.length/\Pv i σ H,⟨xs.length,by simp,eY _,h0⟩,?_⟩;rintro i m σ H ⟨rfl,aR,p⟩;have q:=aC i σ H aR p;by_cases cO:i < xs.length
 ·refine .inr ⟨⟨xs,xs[i],q,by simp[cO]⟩,Pv (i+1),λσ' ab ef=>⟨xs.length - (i+1),by omega,rfl,cO,ef⟩,λx ab y=>?_⟩;obtain⟨e,y⟩:=y;subst e;exact aD i x σ _ (y xs q) p
 ·have e:i=xs.length:=by omega
  subst e;exact .inl ⟨⟨xs,q,b5 _⟩,hd σ H p⟩
def afZ (Pv:St->ah->Prop)(μ:St->ah->Nat)(h0:Pv σ H)
  (aD:∀σ H,Pv σ H->c σ H λb H1=>if b=true then cL {D with cG:=λσ' ab=>Pv σ' ab/\μ σ' ab < μ σ H,dP:=λσ' ab=>Pv σ' ab/\μ σ' ab < μ σ H,hI:=D.cG} σ H1 else D.cG σ H1)
  (mono:∀σ H Q jM,(∀b H1,Q b H1->jM b H1)->c σ H Q->c σ H jM):I6 c cL D σ H:=by
 refine⟨λm σ H=>m=μ σ H/\Pv σ H,⟨_,rfl,h0⟩,?_⟩;rintro m σ H ⟨rfl,p⟩;refine mono σ H _ _ (λb H1 q=>?_) (aD σ H p);cases b with
 |true=>exact⟨_,λσ' ab ⟨ef,l⟩=>⟨_,l,rfl,ef⟩,q⟩
 |false=>exact q
abbrev dt:=V->V->ah->cM->Prop
def hF (X:bq)(f:af->af->Sem af)(r:dt):Prop:=
 ∀(pins:List (U×Obj)) (s:ar) (σ:St) (H:ah) (x y:V) (v u:af) (Q:cM),Inv X pins σ H s->RelV x v->RelV y u->r x y H Q->
  wpAny (model X.prog X.w) X.A (f v u) (hE X pins σ Q) X.cK s
def Ep (X:bq)(f:af->Sem af)(r:V->ah->cM->Prop):Prop:=
 ∀(pins:List (U×Obj)) (s:ar) (σ:St) (H:ah) (x:V) (v:af) (Q:cM),Inv X pins σ H s->RelV x v->r x H Q->
  wpAny (model X.prog X.w) X.A (f v) (hE X pins σ Q) X.cK s
def qe (X:bq)(f:af)(r:List V->ah->cM->Prop):Prop:=
 ∀(pins:List (U×Obj)) (s:ar) (σ:St) (H:ah) (xs:List V) (us:List af) (Q:cM),Inv X pins σ H s->b' xs us->r xs H Q->
  wpAny (model X.prog X.w) X.A (call f us) (hE X pins σ Q) X.cK s
def oR (r:dt)(aF cL:TE):TE:=λσ H Q=>aF σ H λx H1=>cL σ H1 λy ap=>r x y ap Q
def afm (r:V->ah->cM->Prop)(aF:TE):TE:=λσ H Q=>aF σ H λx H1=>r x H1 Q
inductive HT(C:Int->Int->Prop)(g:Int->Int->V)(x:V)(y:V)(H:ah)(Q:cM):Prop|i(i)(j)(_:x=.int i)(_:y=.int j)(_:C i j)(_:Q (g i j) H)
inductive mN(g:Int->Int->V)(x:V)(y:V)(H:ah)(Q:cM):Prop|i(i)(j)(_:x=.int i)(_:y=.int j)(_:Q (g i j) H)
inductive Qr(g:Int->V)(x:V)(H:ah)(Q:cM):Prop|i(i)(_:x=.int i)(_:Q (g i) H)
def EF {X:bq}(al:bl X a aF)(I:bl X b cL){R:V->V->ah->Prop}(J:Inv X pins σ H s)
  (h:aF σ H λx H1=>cL σ H1 λy ap=>R x y ap) {Q:af->ar->Prop} {f:af->af->Sem af}
  (hf:∀v u s2 x y ap,Inv X pins σ ap s2->RelV x v->RelV y u->R x y ap->wpAny (model X.prog X.w) X.A (f v u) Q X.cK s2):
  wpAny (model X.prog X.w) X.A (eval a X.env) (λv s₁=>wpAny (model X.prog X.w) X.A (eval b X.env) (λu s₂=>wpAny (model X.prog X.w) X.A (f v u) Q X.cK s₂) X.cK s₁) X.cK s:=by
 refine bN (al pins s σ H _ J h) λv s1 ⟨x,H1,aP,cj,aX⟩=>?_;refine bN (I pins s1 σ H1 _ aP aX) λu s2 ⟨y,ap,bP,dB,bt⟩=>?_;exact hf v u s2 x y ap bP cj dB bt
def eg (aI:hF X (binaryOp op) r)(al:bl X a aF)(I:bl X b cL):bl X (.BinOp a op b pos) (oR r aF cL):=by intro pins s σ H Q J h;exact wpAny_BinOp (EF al I J h λv u s2 x y ap bP bG bB q=>aI pins s2 σ ap x y v u Q bP bG bB q)
def kc (aI:Ep X (unaryOp op) r)(al:bl X a aF):bl X (.UnaryOp op a pos) (afm r aF):=by intro pins s σ H Q J h;exact UnaryOp_ (bN (al pins s σ H _ J h) λv s1 ⟨x,H1,aP,cj,aX⟩=>aI pins s1 σ H1 x v Q aP cj aX)
def PV {X:bq}{f:af->af->Sem af}{C:Int->Int->Prop}{g:Int->Int->Int}
  (rule:∀(i j:Int) (t u:Tok) (s:ar) (Q:af->ar->Prop) (E:af->ar->Prop),C i j->Q (.int (g i j) s.toks) {s with toks:=s.toks+1}->wpAny (model X.prog X.w) X.A (f (.int i t) (.int j u)) Q E s):
  hF X f (HT C λi j=>.int (g i j)):=by
 intro pins s σ H x y v u Q J bG bB h;obtain⟨i,j,rfl,rfl,ai,q⟩:=h;obtain⟨t,rfl⟩:=bG;obtain⟨t',rfl⟩:=bB;exact rule i j t t' s _ _ ai ⟨.int (g i j),H,J.tok _,⟨_,rfl⟩,q⟩
def Cr {X:bq}{f:af->af->Sem af}{g:Int->Int->Int}
  (rule:∀(i j:Int) (t u:Tok) (s:ar) (Q:af->ar->Prop) (E:af->ar->Prop),Q (.int (g i j) s.toks) {s with toks:=s.toks+1}->wpAny (model X.prog X.w) X.A (f (.int i t) (.int j u)) Q E s):
  hF X f (mN λi j=>.int (g i j)):=by
 intro pins s σ H x y v u Q J bG bB h;obtain⟨i,j,rfl,rfl,q⟩:=h;obtain⟨t,rfl⟩:=bG;obtain⟨t',rfl⟩:=bB;exact rule i j t t' s _ _ ⟨.int (g i j),H,J.tok _,⟨_,rfl⟩,q⟩
def Cq {X:bq}{f:af->af->Sem af}{g:Int->Int->Bool}
  (rule:∀(i j:Int) (t u:Tok) (s:ar) (Q:af->ar->Prop) (E:af->ar->Prop),Q (.bool (g i j)) s->wpAny (model X.prog X.w) X.A (f (.int i t) (.int j u)) Q E s):
  hF X f (mN λi j=>.bL (g i j)):=by
 intro pins s σ H x y v u Q J bG bB h;obtain⟨i,j,rfl,rfl,q⟩:=h;obtain⟨t,rfl⟩:=bG;obtain⟨t',rfl⟩:=bB;exact rule i j t t' s _ _ ⟨.bL (g i j),H,J,rfl,q⟩
def DK (i j:Int):Prop:=(-(2 ^ 64) < i/\i < 2 ^ 64)\/(-(2 ^ 64) < j/\j < 2 ^ 64)
def DK.ok {i j:Int}(h:DK i j):IntMulOk i j:=by
 rcases h with⟨aa,ac⟩|⟨aa,ac⟩
 ·exact .of_left (intBits_le_64 aa ac)
 ·exact .of_right (intBits_le_64 aa ac)
def uq:hF X (binaryOp .Add) (mN λi j=>.int (i+j)):=Cr λ_ _ _ _ _ _ _ q=>add_int q
def zp:hF X (binaryOp .Sub) (mN λi j=>.int (i - j)):=Cr λ_ _ _ _ _ _ _ q=>sub_int q
def PX:hF X (binaryOp .Mult) (HT DK λi j=>.int (i * j)):=PV λ_ _ _ _ _ _ _ ai q=>mul_int q ai.ok
def wa:hF X (binaryOp .BitAnd) (mN λi j=>.int (Builtin.bitAnd i j)):=Cr λ_ _ _ _ _ _ _ q=>and_int q
def rb:hF X (binaryOp .BitOr) (mN λi j=>.int (Builtin.bitOr i j)):=Cr λ_ _ _ _ _ _ _ q=>or_int q
def afL {X:bq}{f:af->Sem af}{g:Int->Int}
  (rule:∀(i:Int) (t:Tok) (s:ar) (Q:af->ar->Prop) (E:af->ar->Prop),Q (.int (g i) s.toks) {s with toks:=s.toks+1}->wpAny (model X.prog X.w) X.A (f (.int i t)) Q E s):
  Ep X f (Qr λi=>.int (g i)):=by
 intro pins s σ H x v Q J bG h;obtain⟨i,rfl,q⟩:=h;obtain⟨t,rfl⟩:=bG;exact rule i t s _ _ ⟨.int (g i),H,J.tok _,⟨_,rfl⟩,q⟩
def kk:Ep X (unaryOp .USub) (Qr λi=>.int (-i)):=afL λ_ _ _ _ _ q=>neg_int q
def QT:V->V->Bool
 |.b1,.b1=>true|.b1,.int _=>true|.int _,.b1=>true|.b1,.bL _=>true|.bL _,.b1=>true|.b1,.str _=>true|.str _,.b1=>true
 |.int _,.int _=>true|.bL _,.bL _=>true|.str _,.str _=>true|.j5 _,.j5 _=>true
 |.int _,.str _=>true|.str _,.int _=>true|.bL _,.str _=>true|.str _,.bL _=>true
 |_,_=>false
def HS:dt:=λx y H Q=>QT x y=true/\Q (.bL (decide (x=y))) H
def Qp:dt:=λx y H Q=>QT x y=true/\Q (.bL (!decide (x=y))) H
def K_ {i j:Int}:decide (V.int i=V.int j)=(i==j):=by rw[lv];simp
def K8 {i j:Bool}:decide (V.bL i=V.bL j)=(i==j):=by rw[lv];simp
def K':decide (V.str i=V.str j)=(i==j):=by rw[lv];simp
def K9:decide (V.j5 i=V.j5 j)=(i.toList==j.toList):=by rw[lv];cases i;cases j;simp
def f9 {k b0:Bool}(J:Inv X pins σ H s)(q:Q (.bL k) H)(e:k=b0):hE X pins σ Q (.bool b0) s:=by subst e;exact⟨.bL k,H,J,rfl,q⟩
def gA:hF X (compareOp .Eq) HS:=by
 intro pins s σ H x y v u Q J bG bB h;obtain⟨aD,q⟩:=h;cases x with
 |b1=>
  cases bG;cases y with
  |b1=>cases bB;exact PySem.EqNone.eq_none_none (f9 J q (by simp))
  |bL j=>cases bB;exact PySem.EqNone.eq_none_bool (f9 J q (by simp))
  |int j=>obtain⟨t',rfl⟩:=bB;exact PySem.EqNone.eq_none_int (f9 J q (by simp))
  |str j=>obtain⟨t',rfl⟩:=bB;exact PySem.EqNone.eq_none_str (f9 J q (by simp))
  |_=>exact absurd (show false=true from aD) gg
 |bL i=>
  cases bG;cases y with
  |b1=>cases bB;exact PySem.EqNone.eq_bool_none (f9 J q (by simp))
  |bL j=>cases bB;exact eq_bool (f9 J q K8)
  |str j=>obtain⟨t',rfl⟩:=bB;exact PySem.EqMixed.eq_bool_str (f9 J q (by simp))
  |_=>exact absurd (show false=true from aD) gg
 |int i=>
  obtain⟨t,rfl⟩:=bG;cases y with
  |b1=>cases bB;exact PySem.EqNone.eq_int_none (f9 J q (by simp))
  |int j=>obtain⟨t',rfl⟩:=bB;exact eq_int (f9 J q K_)
  |str j=>obtain⟨t',rfl⟩:=bB;exact PySem.EqMixed.eq_int_str (f9 J q (by simp))
  |_=>exact absurd (show false=true from aD) gg
 |str i=>
  obtain⟨t,rfl⟩:=bG;cases y with
  |b1=>cases bB;exact PySem.EqNone.eq_str_none (f9 J q (by simp))
  |bL j=>cases bB;exact PySem.EqMixed.eq_str_bool (f9 J q (by simp))
  |int j=>obtain⟨t',rfl⟩:=bB;exact PySem.EqMixed.eq_str_int (f9 J q (by simp))
  |str j=>obtain⟨t',rfl⟩:=bB;exact eq_str (f9 J q K')
  |_=>exact absurd (show false=true from aD) gg
 |j5 i=>
  obtain⟨t,rfl⟩:=bG;cases y with
  |j5 j=>obtain⟨t',rfl⟩:=bB;exact PySem.W.eq_bytes (f9 J q K9)
  |_=>exact absurd (show false=true from aD) gg
 |_=>cases y<;>exact absurd (show false=true from aD) gg
def wc:hF X (compareOp .NotEq) Qp:=by
 intro pins s σ H x y v u Q J bG bB h;obtain⟨aD,q⟩:=h;cases x with
 |b1=>
  cases bG;cases y with
  |b1=>cases bB;exact PySem.EqNone.ne_none_none (f9 J q (by simp))
  |bL j=>cases bB;exact PySem.EqNone.ne_none_bool (f9 J q (by simp))
  |int j=>obtain⟨t',rfl⟩:=bB;exact PySem.EqNone.ne_none_int (f9 J q (by simp))
  |str j=>obtain⟨t',rfl⟩:=bB;exact PySem.EqNone.ne_none_str (f9 J q (by simp))
  |_=>exact absurd (show false=true from aD) gg
 |bL i=>
  cases bG;cases y with
  |b1=>cases bB;exact PySem.EqNone.ne_bool_none (f9 J q (by simp))
  |bL j=>cases bB;exact ne_bool (f9 J q (iM not K8))
  |str j=>obtain⟨t',rfl⟩:=bB;exact PySem.EqMixed.ne_bool_str (f9 J q (by simp))
  |_=>exact absurd (show false=true from aD) gg
 |int i=>
  obtain⟨t,rfl⟩:=bG;cases y with
  |b1=>cases bB;exact PySem.EqNone.ne_int_none (f9 J q (by simp))
  |int j=>obtain⟨t',rfl⟩:=bB;exact ne_int (f9 J q (iM not K_))
  |str j=>obtain⟨t',rfl⟩:=bB;exact PySem.EqMixed.ne_int_str (f9 J q (by simp))
  |_=>exact absurd (show false=true from aD) gg
 |str i=>
  obtain⟨t,rfl⟩:=bG;cases y with
  |b1=>cases bB;exact PySem.EqNone.ne_str_none (f9 J q (by simp))
  |bL j=>cases bB;exact PySem.EqMixed.ne_str_bool (f9 J q (by simp))
  |int j=>obtain⟨t',rfl⟩:=bB;exact PySem.EqMixed.ne_str_int (f9 J q (by simp))
  |str j=>obtain⟨t',rfl⟩:=bB;exact ne_str (f9 J q (iM not K'))
  |_=>exact absurd (show false=true from aD) gg
 |j5 i=>
  obtain⟨t,rfl⟩:=bG;cases y with
  |j5 j=>obtain⟨t',rfl⟩:=bB;exact PySem.W.ne_bytes (f9 J q (iM not K9))
  |_=>exact absurd (show false=true from aD) gg
 |_=>cases y<;>exact absurd (show false=true from aD) gg
def Hu:hF X (compareOp .Lt) (mN λi j=>.bL (decide (i < j))):=Cq λ_ _ _ _ _ _ _ q=>lt_int q
def Cs:hF X (compareOp .LtE) (mN λi j=>.bL (decide (i<=j))):=Cq λ_ _ _ _ _ _ _ q=>le_int q
def Ht:hF X (compareOp .Gt) (mN λi j=>.bL (decide (j < i))):=Cq λ_ _ _ _ _ _ _ q=>gt_int q
def act:hF X (compareOp .GtE) (mN λi j=>.bL (decide (j<=i))):=Cq λ_ _ _ _ _ _ _ q=>ge_int q
def d4 (b:Expr)(h:op≠.In:=by decide)(ac:op≠.NotIn:=by decide):behindInMarks op b=false:=by
 have aE:(op==CmpOp.In)=false:=by cases op<;>first|rfl|exact absurd rfl h
 have aL:(op==CmpOp.NotIn)=false:=by cases op<;>first|rfl|exact absurd rfl ac
 cases b<;>simp[behindInMarks,aE,aL]
def uw (aI:hF X (compareOp op) r)(al:bl X a aF)(I:bl X b cL)(hm:behindInMarks op b=false):bl X (.Compare a [op] [b] pos) (oR r aF cL):=by intro pins s σ H Q J h;exact wpAny_Compare1 (EF al I J h λv u s2 x y ap bP bG bB q=>aI pins s2 σ ap x y v u Q bP bG bB q) hm
inductive Dui(Q:Bool->ah->Prop)(x:V)(ab:ah):Prop|i(k)(_:x=.bL k)(_:Q k ab)
def Du (t:TE):TT:=λσ H Q=>t σ H (Dui Q)
def eJ (aI:hF X (compareOp op) r)(al:bl X a aF)(I:bl X b cL)(hm:behindInMarks op b=false):fZ X (.Compare a [op] [b] pos) (Du (oR r aF cL)):=by
 intro pins s σ H Q J h;refine wpAny_isTrue_Compare1 (bN (al pins s σ H _ J h) λv s1 ⟨x,H1,aP,cj,aX⟩=>bN (I pins s1 σ H1 _ aP aX) λu s2 ⟨y,ap,bP,dB,bt⟩=>
  bN (aI pins s2 σ ap x y v u _ bP cj dB bt) λc s3 ⟨z,bz,dv,kJ,k,e,cn⟩=>?_) hm
 subst e;cases kJ;exact o5 ⟨bz,dv,cn⟩
def ae4 (r b8:dt)(aF cL oT:TE):TE:=λσ H Q=>aF σ H λx H1=>cL σ H1 λy ap=>r x y ap λz bz=>∃k,z=.bL k/\
 (if k=true then oT σ bz λeF c4=>b8 y eF c4 Q else Q (.bL false) bz)
def acG (aI:hF X (compareOp op) r)(lR:hF X (compareOp Hs) b8)(al:bl X a aF)(I:bl X b cL)(ai:bl X c oT)
  (hm:lastMarks [op,Hs] [b,c]=false:=by with_unfolding_all rfl):bl X (.Compare a [op,Hs] [b,c] pos) (ae4 r b8 aF cL oT):=by
 intro pins s σ H Q J h;refine Compare_chain (bN (al pins s σ H _ J h) λv s1 ⟨x,H1,aP,cj,aX⟩=>chain_link (bN (I pins s1 σ H1 _ aP aX) λu s2 ⟨y,ap,bP,dB,bt⟩=>
  bN (aI pins s2 σ ap x y v u _ bP cj dB bt) λd s3 ⟨z,bz,dv,kJ,k,e,cn⟩=>?_)) hm
 subst e;cases kJ;refine o5 ?_;cases k with
 |false=>exact ite_ff ⟨.bL false,bz,dv,rfl,cn⟩
 |true=>exact ite_tt (chain_last (bN (ai pins s3 σ bz _ dv cn) λeF s4 ⟨mU,c4,hX,l0,fS⟩=>lR pins s4 σ c4 y mU u eF Q hX dB l0 fS))
def B0:(sizeLine:Nat) < 2 ^ 63:=by rw[qb];decide
def vals1 (r:b' [x] us):∃u,us=[u]/\RelV x u:=by
 cases r with
 |cons cj dB=>cases dB;exact⟨_,rfl,cj⟩
def xB:qe X (.builtin "ord") (λxs H Q=>∃x,xs=[.str x]/\x.length=1/\Q (.int (x.cps.getD 0 0:Nat)) H):=by intro pins s σ H xs us Q J r h;obtain⟨x,rfl,hz,q⟩:=h;obtain⟨u,rfl,t,rfl⟩:=vals1 r;exact ord_of_one hz ⟨.int _,H,J.tok _,⟨_,rfl⟩,q⟩
structure tq (h:a5)(x aq C:U)(dR:Str->Option af):Prop where
 obj:h.get? x=some (instObj C aq)
 ns:h.Ns1 aq dR
 ne:aq≠x
def aae {h:a5}{dR:Str->Option af}(n:h.Ns1 aq dR):∃c9,h.get? aq=some c9/\∀name,lookIn name c9=some (dR name):=by
 obtain⟨o,es,ep,aI,hd,aw,_,hm⟩:=n;refine⟨o,aI,λname=>?_⟩;have e:=hm name;unfold nsFind findBy at e;rw[<-Array.find?_toList] at e;unfold lookIn;rw[hd];dsimp only;split
 ·rename_i y q
  rw[q] at e;exact iM some e
 ·rename_i q
  rw[q] at e;have a:es.toList.any (·.refKey)=false:=by rw[List.any_eq_false];intro y bk;obtain⟨z,t,mz⟩:=aw y (Array.mem_toList_iff.mp bk);simp[DictEntry.refKey,mz]
  have jk:¬es.toList.any (·.refKey)=true:=by rw[a];exact gg
  rw[aN jk];exact iM some e
def tq.look (J:tq h x aq C dR):∃c9,PySem.W.InstAt h x (instObj C aq) C (some c9)/\∀name,lookIn name c9=some (dR name):=
 let ⟨c9,aI,aC⟩:=aae J.ns
 ⟨c9,⟨J.obj,rfl,rfl,aI⟩,aC⟩
def Wm {s:ar}{K:PySem.W.Frag}{expr:Bool}{Q:af->ar->Prop}(X:K.In s.heap)(J:tq s.heap x aq C dR)(bK:plainGet K C name=true)(dz:hasDictIn K C=true)
  (al:findIn K (.ref C) name=some none) (bx:dR name=some v) (Y_:handedIn v=true) (h:Q v {s with toks:=s.toks+1}):
  wpAny (model prog w) A (getAttr (.ref x) name expr) Q E s:=by
 obtain⟨c9,ez,aC⟩:=J.look;exact PySem.W.get_value X ez (plainGet_of bK).1 (PySem.W.findObj_own dz al rfl (by rw[aC,bx])) Y_ h
def Wn {s:ar}{K:PySem.W.Frag}{Q:af×List af->ar->Prop}(X:K.In s.heap)(J:tq s.heap x aq C dR)(bK:plainGet K C name=true)
  (hf:findIn K (.ref C) name=some (some (.ref f))) (bY:isFn K (.ref f)=true) (bx:dR name=none) (h:Q (.ref f,[.ref x]) s):
  wpAny (model prog w) A (getMethod (.ref x) name pl) Q E s:=by
 obtain⟨c9,ez,aC⟩:=J.look;exact PySem.W.method_fn X ez (plainGet_of bK).1 (plainGet_of bK).2 hf (jX.mp bY) (by show(lookIn name c9).map (·.isSome)=some false;rw[aC,bx];rfl) h
def aek {s:ar}{K:PySem.W.Frag}{ns:List Str}{Q:Unit->ar->Prop}(X:K.In s.heap)(J:tq s.heap x aq C dR)
  (aD:findIn K (.ref C) "__setattr__"=some (some (.builtin "object.__setattr__"))) (am:plainOver K C=true) (bY:takerIn K C name=some none) (dz:hasDictIn K C=true)
  (hw:PySem.Within dR ns) (hsz:ns.length<=sizeLine)
  (h:∀h',tq h' x aq C (λy=>if y=name then some v else dR y)->Heap.SameBut aq s.heap h'->Q () {s with heap:=h',toks:=s.toks+2}):
  wpAny (model prog w) A (setAttr (.ref x) name v) Q E s:=by
 obtain⟨c9,ez,aC⟩:=J.look;refine PySem.W.set_plain X ez aD (PySem.W.osa_open (s:={s with toks:=s.toks+1}) (r:=none) X ez am bY λb=>?_);obtain⟨cd,ai,vu⟩:=PySem.W.any_some dz;have ao:s.heap.get? x=some ⟨.ref C,some aq,.plain,#[]⟩:=J.obj;refine aH (bp (aH (aH (wpAny_loadPart ao (aH (PySem.W.Looks.here (s:={s with toks:=s.toks+1}) (PySem.W.looks_clsIn X ai) ?_))))));rw[vu];refine bp (a:=some aq) (aH (bp (aH ?_)));refine wpAny_nsSet1 (s:={s with toks:=s.toks+1}) J.ns λh' NM oq=>?_;obtain⟨oC,Vv,Vh,F8,FM,FI⟩:=NM.count (PySem.Within.cons name v hw);refine aH (wpAny_lookBehind F8 (by rw[FM];exact pastItsLine_dict (gC FI (by rw[fK];omega))) ?_);exact bp (h _ ⟨(oq.2 _ (gL J.ne)).trans J.obj,NM,J.ne⟩ oq)
def aar {A:cU}{s:ar}{K:PySem.W.Frag}{R:Result->ar->Prop}(X:K.In s.heap)(hm:makesIn K C=true)
  (aR:findIn K (.ref C) "__init__"=some (some (.ref f))) (hf:typeIn K (.ref f)=some (.type "function"))
  (h:codeAny (model prog w) (A.under (.builtin "type.__call__" ⟨.ref C::vs,kw⟩)) (.call (.ref f) ⟨.ref (s.heap.objs.size+1)::vs,kw⟩) (PySem.W.InitBack (s.heap.objs.size+1) R)
   {s with heap:=(s.heap.push emptyDict).push (instObj C s.heap.objs.size)}):
  codeAny (model prog w) A (.call (.ref C) ⟨vs,kw⟩) R s:=by
 obtain⟨dz,g,d,t,os⟩:=s;exact PySem.W.make_core (PySem.W.makes_of X hm) (PySem.W.looks_findIn X aR) (λself=>PySem.W.bind_fn X self hf) (.inl rfl) h
def dw (f:Str)(v:V):List (Str×V)->List (Str×V)
 |[]=>[(f,v)]
 |(g,x)::r=>if g=f then(g,v)::r else(g,x)::dw f v r
theorem OQ (f g:Str)(v:V):∀bd:List (Str×V),(dw f v bd).lookup g=if g=f then some v else bd.lookup g
 |[]=>by
  show List.lookup g [(f,v)]=_;by_cases h:g=f
  ·have I:(g==f)=true:=jX.mpr h;simp only[List.lookup,I,aV h]
  ·have I:(g==f)=false:=ru.mpr h;simp only[List.lookup,I,aN h]
 |(k,x)::r=>by
  have bE:=OQ f g v r;rw[show dw f v ((k,x)::r)=(if k=f then(k,v)::r else(k,x)::dw f v r) from rfl];by_cases aw:k=f
  ·rw[aV aw];by_cases h:g=k
   ·have I:(g==k)=true:=jX.mpr h;simp only[List.lookup,I,aV (h.trans aw)]
   ·have I:(g==k)=false:=ru.mpr h;simp only[List.lookup,I,aN (λe:g=f=>h (e.trans aw.symm))]
  ·rw[aN aw];by_cases h:g=k
   ·have I:(g==k)=true:=jX.mpr h;simp only[List.lookup,I,aN (λe:g=f=>aw (h.symm.trans e))]
   ·have I:(g==k)=false:=ru.mpr h;simp only[List.lookup,I];exact bE
theorem GF (f:Str)(v:V):∀bd:List (Str×V),f∈(dw f v bd).map (·.1)/\∀g,g∈bd.map (·.1)->g∈(dw f v bd).map (·.1)
 |[]=>⟨by simp[dw],λg h=>by simp at h⟩
 |(k,x)::r=>by
  obtain⟨dm,c2⟩:=GF f v r;rw[show dw f v ((k,x)::r)=(if k=f then(k,v)::r else(k,x)::dw f v r) from rfl];by_cases aw:k=f
  ·rw[aV aw];subst aw;exact⟨by simp,λg h=>by simpa using h⟩
  ·rw[aN aw];refine⟨?_,λg h=>?_⟩
   ·rw[ck];exact d7 _ dm
   ·rw[ck] at h ⊢;rcases cr.mp h with e|e
    ·exact cr.mpr (.inl e)
    ·exact d7 _ (c2 g e)
theorem OJ (f:Str)(v:V):∀bd:List (Str×V),(dw f v bd).length<=bd.length+1
 |[]=>by simp[dw]
 |(k,x)::r=>by
  have bE:=OJ f v r;rw[show dw f v ((k,x)::r)=(if k=f then(k,v)::r else(k,x)::dw f v r) from rfl];by_cases aw:k=f
  ·rw[aV aw,fK,fK];omega
  ·rw[aN aw,fK,fK];omega
def g7.some_of (r:g7 (some v) o):∃u,o=some u/\RelV v u:=by
 cases o with
 |none=>exact(show False from r).elim
 |some u=>exact⟨u,rfl,r⟩
def g7.none_of (r:g7 none o):o=none:=by
 cases o with
 |none=>rfl
 |some u=>exact(show False from r).elim
def Na (r:RelV v u):handedIn u=true:=by
 cases v with
 |b1=>cases (show u=Value.none from r);rfl
 |bL b=>cases (show u=Value.bool b from r);rfl
 |int i=>obtain⟨t,e⟩:=(show ∃t,u=Value.int i t from r);cases e;rfl
 |str x=>obtain⟨t,e⟩:=(show ∃t,u=Value.str x t from r);cases e;rfl
 |j5 b=>obtain⟨t,e⟩:=(show ∃t,u=Value.bytes b t from r);cases e;rfl
 |xY b=>obtain⟨t,e⟩:=(show ∃t,u=Value.float b t from r);cases e;rfl
 |ref a=>cases (show u=Value.ref a from r);rfl
 |ty n=>cases (show u=Value.type n from r);rfl
def Gr (ba:dN P w H h)(e:H a=some (.ins C aq bd)):∃dR,tq h a aq C dR/\(∀f,g7 (bd.lookup f) (dR f))/\PySem.Within dR (bd.map (·.1))/\bd.length<=1000/\H aq=some (.own a):=by obtain⟨d,z,ne,b2,dR,n,r,q⟩:=(show dq P w H h a (.ins C aq bd) from ba a _ e);exact⟨dR,⟨b2,n,ne⟩,r,q,z,d⟩
structure jI (K:PySem.W.Frag)(C:U):Prop where
 zw:plainGet K C Str.empty=true
 hd:hasDictIn K C=true
 po:plainOver K C=true
 a6:findIn K (.ref C) "__setattr__"=some (some (.builtin "object.__setattr__"))
def jI.get {K:PySem.W.Frag}{C:U}(c:jI K C)(f:Str):plainGet K C f=true:=c.zw
def fY (K:PySem.W.Frag)(C:U)(f:Str):Prop:=findIn K (.ref C) f=some none
def fY.afp {K:PySem.W.Frag}{C:U}{f:Str}(n:fY K C f):takerIn K C f=some none:=by unfold takerIn;rw[show findIn K (.ref C) f=some none from n];rfl
structure AA (K:PySem.W.Frag)(C:U)(m:Str)(f:U):Prop where
 at_:findIn K (.ref C) m=some (some (.ref f))
 fn:isFn K (.ref f)=true
 bu:keepIn K (.ref f)=true
def MM {b:Bool}(J:Inv X pins σ H s)(e:H a=some (.ins C aq bd))(c:jI X.K C)(n:fY X.K C f)(l:bd.lookup f=some v)
  (h:∀u s',Inv X pins σ H s'->RelV v u->Q u s'):wpAny (model X.prog X.w) A (getAttr (.ref a) f b) Q E s:=by
 obtain⟨dR,O,r,_,_,_⟩:=Gr J.ba e;obtain⟨u,aW,c7⟩:=g7.some_of (v:=v) (o:=dR f) (by rw[<-l];exact r f);exact Wm J.gv O (c.get f) c.hd n aW (Na c7) (h u _ (J.tok _) c7)
def MN (J:Inv X pins σ H s)(e:H a=some (.ins C aq bd))(c:jI X.K C)(k:AA X.K C m g)(l:bd.lookup m=none)
  (h:Q (.ref g,[.ref a]) s):wpAny (model X.prog X.w) A (getMethod (.ref a) m pl) Q E s:=by
 obtain⟨dR,O,r,_,_,_⟩:=Gr J.ba e;have ak:dR m=none:=g7.none_of (by rw[<-l];exact r m);exact Wn J.gv O (c.get m) k.at_ k.fn ak h
def QX (J:Inv X pins σ H s)(e:H a=some (.ins C aq bd))(c:jI X.K C)(n:fY X.K C f)(aC:bd.length < 1000)(bB:RelV y u)
  (h:∀s',Inv X pins σ (upd H a (.ins C aq (dw f y bd))) s'->Q () s'):wpAny (model X.prog X.w) A (setAttr (.ref a) f u) Q E s:=by
 obtain⟨dR,O,r,kl,_,aI⟩:=Gr J.ba e;have hz:(bd.map (·.1)).length<=sizeLine:=by rw[cc,qb];omega
 refine aek J.gv O c.a6 c.po n.afp c.hd kl hz λh' Eb dM=>h _ ?_;have hd:∃o,h'.get? aq=some o:=let ⟨o,_,_,bV,_⟩:=Eb.ns;⟨o,bV⟩;refine J.write (x:=a) (e:=aq) (by rw[e];exact True.intro) (.inr aI) (λb q I z=>(dM.2 b I).trans z) hd ?_;refine⟨by rw[aj O.ne];exact aI,?_,O.ne,Eb.obj,_,Eb.ns,λg=>?_,λg bK=>?_⟩
 ·have:=OJ f y bd;omega
 ·show g7 ((dw f y bd).lookup g) (if g=f then some u else dR g);rw[OQ];by_cases q:g=f
  ·rw[aV q,aV q];exact bB
  ·rw[aN q,aN q];exact r g
 ·by_cases q:g=f
  ·rw[q];exact(GF f y bd).1
  ·refine(GF f y bd).2 g (kl g λz=>bK ?_);show(if g=f then some u else dR g)=none;rw[aN q];exact z
def Inv.made (J:Inv X pins σ H s):Inv X pins σ (upd (upd H s.heap.objs.size (.own (s.heap.objs.size+1))) (s.heap.objs.size+1) (.ins C s.heap.objs.size []))
  {s with heap:=(s.heap.push emptyDict).push (instObj C s.heap.objs.size)}:=by
 have aE:(s.heap.push emptyDict).get? s.heap.objs.size=some emptyDict:=fM s.heap rfl;have aL:((s.heap.push emptyDict).push (instObj C s.heap.objs.size)).get? (s.heap.objs.size+1)=some (instObj C s.heap.objs.size):=by have:=fM (s.heap.push emptyDict) (o:=instObj C s.heap.objs.size) rfl;rwa[jW] at this
 have bI:(s.heap.push emptyDict).Ns s.heap.objs.size (λ_=>none):=⟨emptyDict,#[],_,aE,rfl,(λe he=>absurd he (by simp)),λ_=>rfl⟩;have aP:=J.laid (a:=s.heap.objs.size) (o:=.own (s.heap.objs.size+1)) (h':=s.heap.push emptyDict) (t':=s.toks) (λb u q=>dx _ q) (b5 _) ⟨_,aE⟩;refine aP.laid (a:=s.heap.objs.size+1) (o:=.ins C s.heap.objs.size []) (t':=s.toks) (λb u q=>dx _ q) (le_of_eq (jW _ _)) ?_;have ne:s.heap.objs.size≠s.heap.objs.size+1:=e8 (p' _);refine⟨by rw[aj ne,aG],eY _,ne,aL,λ_=>none,(Heap.Ns1.of_empty bI).at λo q=>dx _ q,λ_=>True.intro,λy bk=>absurd rfl bk⟩
def Ky (I:attributeBase e f env (eval e env)=eval e env)
  (h:wpAny (model prog w) A (eval e env) (λo s₁=>wpAny (model prog w) A (getAttr o f true) Q E s₁) E s):wpAny (model prog w) A (eval (.Attribute e f pos) env) Q E s:=
 Attribute_any_ h (by rw[arm_eval_Attribute,I])
inductive mPi(K:PySem.W.Frag)(f:Str)(Q:cM)(x:V)(H1:ah):Prop|i(a)(C)(aq)(bd)(v)(_:x=.ref a)(_:H1 a=some (.ins C aq bd))(_:jI K C)(_:fY K C f)(_:bd.lookup f=some v)(_:Q v H1)
def mP (K:PySem.W.Frag)(aF:TE)(f:Str):TE:=λσ H Q=>aF σ H (mPi K f Q)
inductive adQi(K:PySem.W.Frag)(f:Str)(D:Ends)(σ:St)(y:V)(x:V)(ap:ah):Prop|i(a)(C)(aq)(bd)(_:x=.ref a)(_:ap a=some (.ins C aq bd))(_:jI K C)(_:fY K C f)(_:bd.length < 1000)(_:D.cG σ (upd ap a (.ins C aq (dw f y bd))))
def adQ (K:PySem.W.Frag)(aF dS:TE)(f:Str):dj:=λD σ H=>dS σ H λy H1=>aF σ H1 (adQi K f D σ y)
def JY (X:bq)(op:Operator)(ax:V->V->ah->cM->Prop):Prop:=
 ∀(pins:List (U×Obj)) (s:ar) (σ:St) (H:ah) (x y:V) (u v:af) (Q:cM),Inv X pins σ H s->RelV x u->RelV y v->ax x y H Q->wpAny (model X.prog X.w) X.A (inplaceOp op u v) (hE X pins σ Q) X.cK s
inductive adRi(K:PySem.W.Frag)(dS:TE)(ax:V->V->ah->cM->Prop)(f:Str)(D:Ends)(σ:St)(x:V)(H1:ah):Prop|i(a)(C)(aq)(bd)(v)(_:x=.ref a)(_:H1 a=some (.ins C aq bd))(_:jI K C)(_:fY K C f)(_:bd.lookup f=some v)(_:dS σ H1 λy ap=>ax v y ap λz bz=>∃eN vn,bz a=some (.ins C eN vn)/\vn.length < 1000/\D.cG σ (upd bz a (.ins C eN (dw f z vn))))
def adR (K:PySem.W.Frag)(aF dS:TE)(ax:V->V->ah->cM->Prop)(f:Str):dj:=λD σ H=>aF σ H (adRi K dS ax f D σ)
def bT (he:bl X e aF)(I:attributeBase e f X.env (eval e X.env)=eval e X.env):bl X (.Attribute e f pos) (mP X.K aF f):=by intro pins s σ H Q J h;refine Ky I (bN (he pins s σ H _ J h) λu s1 ⟨x,H1,aP,bG,a,C,aq,bd,v,ex,a9,c,n,l,q⟩=>?_);subst ex;obtain rfl:u=Value.ref a:=bG;exact MM aP a9 c n l λiG s2 bP c7=>⟨v,H1,bP,c7,q⟩
def gZ (al:bl X o aF)(bx:bl X value dS)(aD:swapsWith value (some (.Attribute o f pos')) pos.line X.env=pure false):fi X (.Assign [.Attribute o f pos'] value pos) (adQ X.K aF dS f):=by intro pins s σ H D J h;refine plainObj_wpAny_Assign_Attribute (bN (bx pins s σ H _ J h) λu s1 ⟨y,H1,aP,bB,q⟩=>bN (al pins s1 σ H1 _ aP q) λee s2 ⟨x,ap,bP,bG,a,C,aq,bd,ex,a9,c,n,l,bt⟩=>?_) aD;subst ex;obtain rfl:ee=Value.ref a:=bG;exact QX bP a9 c n l bB λs3 dv=>⟨σ,_,dv,bt⟩
def Qf (al:bl X o aF)(bx:bl X value dS)(YE:JY X op ax):fi X (.AugAssign (.Attribute o f oU) op value pos) (adR X.K aF dS ax f):=by intro pins s σ H D J h;refine wpAny_AugAssign_AttributeAny (bN (al pins s σ H _ J h) λee s1 ⟨x,H1,aP,bG,a,C,aq,bd,v,ex,a9,c,n,l,q⟩=>?_);subst ex;obtain rfl:ee=Value.ref a:=bG;refine MM aP a9 c n l λu s2 bP c7=>bN (bx pins s2 σ H1 _ bP q) λmR s3 ⟨y,ap,dv,bB,cn⟩=>bN (YE pins s3 σ ap v y u mR _ dv c7 bB cn) λRU s4 ⟨z,bz,hX,zK,eN,vn,E5,hM,fS⟩=>?_;exact QX hX E5 c n hM zK λs5 j1=>⟨σ,_,j1,fS⟩
inductive adg (x:V)(y:V)(H:ah)(Q:cM):Prop|i(i)(j)(_:x=.int i)(_:y=.int j)(_:Q (.int (i+j)) H)
def Oi:JY X .Add adg:=by rintro pins s σ H x y u v Q J bG bB ⟨i,j,rfl,rfl,q⟩;obtain⟨t,rfl⟩:=(show ∃t,u=Value.int i t from bG);obtain⟨t',rfl⟩:=(show ∃t',v=Value.int j t' from bB);exact PyProof.Rows.iadd_int ⟨.int (i+j),H,J.tok _,⟨_,rfl⟩,q⟩
section
variable {b:Bool}
end
structure c1 (k:Nat)(A:cU):Prop where
 hd:A.handled=none
 A8:A.depth+3 * k+5 < recursionLimit
 un:A.units+16 * k+200 < cLine
def c1.mono {j k:Nat}(r:c1 k A)(h:j<=k):c1 j A:=⟨r.hd,by have:=r.A8;omega,by have:=r.un;omega⟩
def c1.deeper {k:Nat}(r:c1 (k+1) A)(env:Env):c1 k (A.deeper env):=
 ⟨r.hd,by have:=r.A8;show A.depth+1+3 * k+5 < _;omega,by have:=r.un;show A.units+3+16 * k+200 < _;omega⟩
def aaq {A:cU}:(A.under (.builtin "type.__call__" ⟨.ref C::us,kw⟩)).depth=A.depth+1:=by
 first|rfl|simp[Around.under,Code.weight,Code.isCreation,Code.isGuard,Code.isCaller,Code.frames,Code.isFrame,guardIds]
def aas {A:cU}:(A.under (.builtin "type.__call__" ⟨.ref C::us,kw⟩)).units=A.units+1:=by
 first|rfl|simp[Around.under,Code.cUnits,Code.frames,Code.isFrame]
def c1.make {k:Nat}(r:c1 (k+1) A)(C:U)(us:List af)(kw:List (Str×af)):c1 k (A.under (.builtin "type.__call__" ⟨.ref C::us,kw⟩)):=
 ⟨r.hd,by have:=r.A8;rw[aaq];omega,by have:=r.un;rw[aas];omega⟩
def c1.depth {k:Nat}(r:c1 k A):A.depth < recursionLimit:=by have:=r.A8;omega
def c1.units {k:Nat}(r:c1 k A):A.units+64 < cLine:=by have:=r.un;omega
def kh:hq:=λ_ H Q=>Q [] H
def jE (aF:TE)(a4:hq):hq:=λσ H Q=>aF σ H λx H1=>a4 σ H1 λxs ap=>Q (x::xs) ap
def aY:fF X [] kh:=λ_ _ _ _ H Q J h=>Calls.spliced_nil ⟨[],H,J,.nil,h⟩
def aK (al:bl X e te)(au:fF X es t)(aD:starEach (e::es) X.env=(false,eval e X.env)::starEach es X.env:=by rfl):fF X (e::es) (jE te t):=by intro pos pins s σ H Q J h;rw[aD];show wpAny _ _ (spliced ((false,eval e X.env)::backTo pos (starEach es X.env))) _ _ s;refine Calls.spliced_cons (bN (al pins s σ H _ J h) λu s1 ⟨x,H1,aP,cj,aX⟩=>?_);exact bN (au pos pins s1 σ H1 _ aP aX) λus s2 ⟨xs,ap,bP,dB,bt⟩=>⟨x::xs,ap,bP,.cons cj dB,bt⟩
def I5 (t:hq):TE:=λσ H Q=>t σ H λxs H1=>xs.length<=sizeLine/\∀p,H1 p=none->Q (.ref p) (upd H1 p (.tup xs))
def afe (t:hq):TE:=λσ H Q=>t σ H λxs H1=>xs.length<=sizeLine/\∀p,H1 p=none->Q (.ref p) (upd H1 p (.lst xs))
def nA {x1}(h:fF X es t):bl X (.Tuple es x1 pos) (I5 t):=by intro pins s σ H Q J az;refine wpAny_Tuple_spliced (bN (h pos pins s σ H _ J az) λus s1 ⟨xs,H1,aP,r,z,q⟩=>⟨by rw[<-r.length];exact z,?_⟩);have hf:H1 s1.heap.objs.size=none:=aP.ba.fresh (b5 _);refine⟨.ref s1.heap.objs.size,upd H1 s1.heap.objs.size (.tup xs),aP.laid (t':=s1.toks) (λb u e=>dx _ e) (b5 _) ?_,rfl,q _ hf⟩;exact⟨z,us,r,⟨_,fM _ rfl,rfl,_,rfl⟩⟩
def dL (h:fF X es t):bl X (.List es pos) (afe t):=by intro pins s σ H Q J az;refine wpAny_List_spliced (bN (h pos pins s σ H _ J az) λus s1 ⟨xs,H1,aP,r,z,q⟩=>⟨by rw[<-r.length];exact z,?_⟩);have hf:H1 s1.heap.objs.size=none:=aP.ba.fresh (b5 _);refine⟨.ref s1.heap.objs.size,upd H1 s1.heap.objs.size (.lst xs),aP.laid (t':=s1.toks) (λb u e=>dx _ e) (b5 _) ?_,rfl,q _ hf⟩;exact⟨z,us,0,r,fM _ rfl⟩
abbrev cD:=List V->ah->cM->fG->Prop
abbrev hT:=List Env->ah->ar->fG->af->ar->Prop
structure tj (P:bg)(w:bb)(K:PySem.W.Frag)(ae:Str->Option af)(base:a5)(A:cU)(outer:List Env)(s:ar)(H:ah):Prop where
 frames:A.frames=some outer
 mod:Mod K ae base
 bs:∀b o,base.get? b=some o->s.heap.get? b=some o/\H b=none
 nf:base.objs.size<=s.heap.objs.size
 k6:s.heap.FunFrames base outer
 mu:∀b∈gs outer,H b=none
 ba:dN P w H s.heap
 bare:AllBare s.gens
def DJ (outer:List Env)(P:bg)(w:bb)(H:ah)(s:ar)(Q:cM)(u:af)(s':ar):Prop:=
 ∃v ab,s'.os=s.os/\AllBare s'.gens/\g9 (gs outer) [] H ab s.heap s'.heap/\dN P w ab s'.heap/\RelV v u/\Q v ab
def aJ (CX:hT)(outer:List Env)(P:bg)(w:bb)(H:ah)(s:ar)(Q:cM)(E:fG)(r:Result)(s':ar):Prop:=
 match r with
 |.ok (.ret u)=>DJ outer P w H s Q u s'
 |.ok _=>False
 |.error e=>CX outer H s E e s'
structure aQ (P:bg)(w:bb)(K:PySem.W.Frag)(ae:Str->Option af)(base:a5)(CX:hT)(k:Nat)(f:U)(fd:b6)(ps:List Str)(sp:cD):Prop where
 len:∀vs H Q E,sp vs H Q E->vs.length=ps.length
 run:∀(A:cU) (outer:List Env) (s:ar) (H:ah) (args:Args) (us:List af) (vs:List V) (Q:cM) (E:fG),c1 k A->tj P w K ae base A outer s H->BindsTo s fd args (ps.zip us)->b' vs us->sp vs H Q E->
  codeAny (model P w) A (.call (.ref f) args) (aJ CX outer P w H s Q E) s
def aQ.mono {P:bg}{w:bb}{K:PySem.W.Frag}{ae:Str->Option af}{base:a5}{CX:hT}{j k:Nat}{f:U}{fd:b6}{ps:List Str}{sp:cD}(F:aQ P w K ae base CX j f fd ps sp)(h:j<=k):
  aQ P w K ae base CX k f fd ps sp:=⟨F.len,λA outer s H args us vs Q E au=>F.run A outer s H args us vs Q E (au.mono h)⟩
def tj.make {P:bg}{w:bb}{K:PySem.W.Frag}{ae:Str->Option af}{base:a5}{A:cU}{outer:List Env}{s:ar}{H:ah}(e:tj P w K ae base A outer s H)(C:U)(us:List af)(kw:List (Str×af)):
  tj P w K ae base (A.under (.builtin "type.__call__" ⟨.ref C::us,kw⟩)) outer s H:=⟨by first|exact e.frames|(simpa[Around.under,Code.envs,Code.isFrame,pushEnvs] using e.frames),e.mod,e.bs,e.nf,e.k6,e.mu,e.ba,e.bare⟩
def Inv.E9 (J:Inv X pins σ H s):tj X.prog X.w X.K X.ae X.base X.A X.stack s H:=
 ⟨J.ok.frames,J.ok.mod,J.bs,gC J.ok.nf J.kg,J.stack,J.wC,J.ba,J.bare⟩
def Inv.after (J:Inv X pins σ H s)(h:DJ X.stack X.prog X.w H s Q u s'):hE X pins σ Q u s':=by obtain⟨v,ab,os,bare,un,ba,r,q⟩:=h;obtain⟨dz,g,d,t,acx⟩:=s';obtain rfl:acx=s.os:=os;exact⟨v,ab,J.call (h':=dz) (g':=g) (d':=d) (t':=t) (ch:=[]) un ba bare (λb z=>absurd z (by simp)),r,q⟩
def Rp (sp:cD)(hJ:List V)(E:fG)(t:hq):TE:=λσ H Q=>t σ H λvs H1=>sp (vs++hJ) H1 Q E
inductive wFi(C:U)(m:Str)(sp:cD)(hJ:List V)(E:fG)(t:hq)(σ:St)(Q:cM)(x:V)(H1:ah):Prop|i(a)(aq)(bd)(_:x=.ref a)(_:H1 a=some (.ins C aq bd))(_:bd.lookup m=none)(_:t σ H1 λvs ap=>sp (x::(vs++hJ)) ap Q E)
def wF (C:U)(m:Str)(sp:cD)(hJ:List V)(E:fG)(aF:TE)(t:hq):TE:=λσ H Q=>aF σ H (wFi C m sp hJ E t σ Q)
def I1 (C:U)(sp:cD)(hJ:List V)(E:fG)(t:hq):TE:=λσ H Q=>t σ H λvs H1=>∀x aq,H1 x=none->H1 aq=none->aq≠x->
 sp (.ref x::(vs++hJ)) (upd (upd H1 aq (.own x)) x (.ins C aq [])) (λv ap=>v=.b1/\Q (.ref x) ap) E
def Binds (K:PySem.W.Frag)(fd:b6)(ps:List Str)(ds:List af):Prop:=
 ∀(s:ar) (us:List af),K.In s.heap->(us++ds).length=ps.length->BindsTo s fd ⟨us,[]⟩ (ps.zip (us++ds))
def Binds.all {K:PySem.W.Frag}{fd:b6}{ps:List Str}(h:∀us:List af,us.length=ps.length->bindArgs fd ⟨us,[]⟩=pure (ps.zip us)):Binds K fd ps []:=λs us _ aC=>by rw[l7] at aC ⊢;exact .of_eq (h us aC)
def mf (CX:hT)(X:bq)(E:fG):Prop:=∀(pins:List (U×Obj)) (σ:St) (H:ah) (s:ar) (e:af) (s':ar),Inv X pins σ H s->CX X.stack H s E e s'->X.cK e s'
section
variable {X:bq}{CX:hT}{k:Nat}{f C:U}{fd:b6}{ps:List Str}{sp:cD}{hJ:List V}{ds:List af}{E:fG}{x m:Str}{p pos apos:Pos}{e o:Expr}{es:List Expr}{aF:TE}{t:hq}
def H3 (F:aQ X.prog X.w X.K X.ae X.base CX k f fd ps sp)(au:c1 k X.A)(I:Binds X.K fd ps ds)(hd:b' hJ ds)(ao:mf CX X E)
  (J:Inv X pins σ H s) (r:b' vs us) (h:sp (vs++hJ) H Q E):wpAny (model X.prog X.w) X.A (call (.ref f) us) (hE X pins σ Q) X.cK s:=by
 have dB:b' (vs++hJ) (us++ds):=r.append hd;have aC:(us++ds).length=ps.length:=by rw[<-dB.length];exact F.len _ _ _ _ h
 refine wpAny_call (codeAny_mono (F.run X.A X.stack s H ⟨us,[]⟩ (us++ds) (vs++hJ) Q E au J.E9 (I s us J.gv aC) dB h) λr s' az=>?_);cases r with
 |error e=>exact ao pins σ H s e s' J az
 |ok fa=>
  cases fa with
  |ret u=>exact J.after az
  |next=>exact False.elim az
  |brk=>exact False.elim az
  |cont=>exact False.elim az
def hB (F:aQ X.prog X.w X.K X.ae X.base CX k f fd ps sp)(au:c1 k X.A)(bK:hV X x)(hm:X.ae x=some (.ref f))(aw:keepIn X.K (.ref f)=true)(I:Binds X.K fd ps ds)(hd:b' hJ ds)(ao:mf CX X E)
  (al:fF X (e::es) t) (mx:(x==("__debug__":Str))=false:=by decide) (he:starEach (e::es) X.env=(false,eval e X.env)::starEach es X.env:=by rfl) (jt:(backTo pos (starEach es X.env)).any (·.1)=false:=by rfl):
  bl X (.Call (.Name x p) (e::es) [] pos) (Rp sp hJ E t):=by
 intro pins s σ H Q J h;refine o3 (sl J bK hm ?_ mx);refine callWith_K (h₀:=X.base) J.ok.mod.vP aw (bN (al pos pins s σ H _ J h) λus s1 ⟨vs,H1,aP,r,q⟩=>⟨aP.gv,?_⟩) he jt;exact H3 F au I hd ao aP r q
def fC (he:bl X o aF)(c:jI X.K C)(hm:AA X.K C m f)(F:aQ X.prog X.w X.K X.ae X.base CX k f fd ps sp)(au:c1 k X.A)(I:Binds X.K fd ps ds)(hd:b' hJ ds)(ao:mf CX X E)(al:fF X (e::es) t)
  (fR:starEach (e::es) X.env=(false,eval e X.env)::starEach es X.env:=by rfl) (jt:(backTo pos (starEach es X.env)).any (·.1)=false:=by rfl)
  (bY:eval (.Call (.Attribute o m apos) (e::es) [] pos) X.env=(do
   let ee <-eval o X.env
   standAt apos.atName
   let (f,first) <-holding [ee] (getMethod ee m pl)
   callWith pos f first (backTo pos (starEach (e::es) X.env)) (backToKw pos (keywordEach [] X.env))):=by rfl):
  bl X (.Call (.Attribute o m apos) (e::es) [] pos) (wF C m sp hJ E aF t):=by
 intro pins s σ H Q J h;refine PySem.W.methodCall_KW (pl:=pl) (bN (he pins s σ H _ J h) λu s1 ⟨x,H1,aP,bG,a,aq,bd,ex,a9,l,q⟩=>?_) bY;subst ex;obtain rfl:u=Value.ref a:=bG;refine MN aP a9 c hm l ?_;refine callWith_K (first:=[.ref a]) (h₀:=X.base) J.ok.mod.vP hm.bu (bN (al pos pins s1 σ H1 _ aP q) λus s2 ⟨vs,ap,bP,r,bt⟩=>⟨bP.gv,?_⟩) fR jt;exact H3 (us:=.ref a::us) (vs:=.ref a::vs) F au I hd ao bP (.cons rfl r) bt
def lj (he:bl X o aF)(c:jI X.K C)(hm:AA X.K C m f)(F:aQ X.prog X.w X.K X.ae X.base CX k f fd ps sp)(au:c1 k X.A)(I:Binds X.K fd ps ds)(hd:b' hJ ds)(ao:mf CX X E)
  (bY:eval (.Call (.Attribute o m apos) [] [] pos) X.env=(do
   let ee <-eval o X.env
   standAt apos.atName
   let (f,first) <-holding [ee] (getMethod ee m pl)
   callWith pos f first (backTo pos (starEach [] X.env)) (backToKw pos (keywordEach [] X.env))):=by rfl):
  bl X (.Call (.Attribute o m apos) [] [] pos) (wF C m sp hJ E aF kh):=by
 intro pins s σ H Q J h;refine PySem.W.methodCall_KW (pl:=pl) (bN (he pins s σ H _ J h) λu s1 ⟨x,H1,aP,bG,a,aq,bd,ex,a9,l,q⟩=>?_) bY;subst ex;obtain rfl:u=Value.ref a:=bG;refine MN aP a9 c hm l ?_;exact callWith_K0 (first:=[.ref a]) aP.gv hm.bu (H3 (us:=[.ref a]) (vs:=[.ref a]) F au I hd ao aP (.cons rfl .nil) q)
structure jL (K:PySem.W.Frag)(C f:U):Prop where
 makes:makesIn K C=true
 init:findIn K (.ref C) "__init__"=some (some (.ref f))
 fn:isFn K (.ref f)=true
 bu:keepIn K (.ref C)=true
def QG (M:jL X.K C f)(F:aQ X.prog X.w X.K X.ae X.base CX k f fd ps sp)(au:c1 (k+1) X.A)(I:Binds X.K fd ps ds)(hd:b' hJ ds)
  (ao:mf CX X E) (J:Inv X pins σ H s) (r:b' vs us)
  (h:∀x aq,H x=none->H aq=none->aq≠x->sp (.ref x::(vs++hJ)) (upd (upd H aq (.own x)) x (.ins C aq [])) (λv ap=>v=.b1/\Q (.ref x) ap) E):
  wpAny (model X.prog X.w) X.A (call (.ref C) us) (hE X pins σ Q) X.cK s:=by
 have az:=h (s.heap.objs.size+1) s.heap.objs.size (J.ba.fresh (Nat.le_succ _)) (J.ba.fresh (b5 _)) (e8 (p' _));have bP:=Inv.made (C:=C) J;have dB:b' (V.ref (s.heap.objs.size+1)::(vs++hJ)) (Value.ref (s.heap.objs.size+1)::(us++ds)):=.cons rfl (r.append hd);have aC:(Value.ref (s.heap.objs.size+1)::us++ds).length=ps.length:=by have e:=dB.length;rw[F.len _ _ _ _ az] at e;exact e.symm
 refine wpAny_call (aar (f:=f) J.gv M.makes M.init (jX.mp M.fn) (codeAny_mono (F.run _ X.stack _ _ ⟨Value.ref (s.heap.objs.size+1)::us,[]⟩ (Value.ref (s.heap.objs.size+1)::(us++ds)) _ _ E (au.make C us [])
  (bP.E9.make C us []) (I _ (Value.ref (s.heap.objs.size+1)::us) bP.gv aC) dB az) λr s' gS=>?_))
 cases r with
 |error e=>exact ao pins σ _ _ e s' bP gS
 |ok fa=>
  cases fa with
  |ret u=>obtain⟨v,ab,dv,cy,ev,cn⟩:=bP.after gS;subst ev;exact⟨cy,⟨V.ref (s.heap.objs.size+1),ab,dv,rfl,cn⟩⟩
  |next=>exact False.elim gS
  |brk=>exact False.elim gS
  |cont=>exact False.elim gS
def sF (M:jL X.K C f)(F:aQ X.prog X.w X.K X.ae X.base CX k f fd ps sp)(au:c1 (k+1) X.A)(bK:hV X x)(hm:X.ae x=some (.ref C))(I:Binds X.K fd ps ds)(hd:b' hJ ds)(ao:mf CX X E)
  (al:fF X (e::es) t) (mx:(x==("__debug__":Str))=false:=by decide) (he:starEach (e::es) X.env=(false,eval e X.env)::starEach es X.env:=by rfl) (jt:(backTo pos (starEach es X.env)).any (·.1)=false:=by rfl):
  bl X (.Call (.Name x p) (e::es) [] pos) (I1 C sp hJ E t):=by
 intro pins s σ H Q J h;refine o3 (sl J bK hm ?_ mx);refine callWith_K (h₀:=X.base) J.ok.mod.vP M.bu (bN (al pos pins s σ H _ J h) λus s1 ⟨vs,H1,aP,r,q⟩=>⟨aP.gv,?_⟩) he jt;exact QG M F au I hd ao aP r q
def HE (M:jL X.K C f)(F:aQ X.prog X.w X.K X.ae X.base CX k f fd ps sp)(au:c1 (k+1) X.A)(bK:hV X x)(hm:X.ae x=some (.ref C))(I:Binds X.K fd ps ds)(hd:b' hJ ds)(ao:mf CX X E)
  (mx:(x==("__debug__":Str))=false:=by decide):bl X (.Call (.Name x p) [] [] pos) (I1 C sp hJ E kh):=by
 intro pins s σ H Q J h;refine o3 (sl J bK hm ?_ mx);exact callWith_K0 J.gv M.bu (QG (us:=[]) M F au I hd ao J .nil h)
end
section
variable {k:Nat}
end
structure c3 (N P:List Str)(sc:Scope):Prop where
 kind:sc.kind=.function:=by rfl
 co:sc.isCoroutine=false:=by rfl
 gen:sc.isGenerator=false:=by rfl
 nd:N.Nodup:=by w_on
 pre:N.take P.length=P:=by rfl
 par:∀x∈P,sc.names.lookup x=some .local\/sc.names.lookup x=some .cell:=by w_on
 abc:∀y∈sc.names,y.2≠.free:=by w_on
theorem KL {kindOf:Str->Option NameKind}:∀{binds:List (Str×af)} {m:Str->Option af},(∀v,(x,v)∉binds)->bindL kindOf binds m x=m x
 |[],_,_=>rfl
 |(n,v)::r,m,h=>by
  unfold bindL;rw[KL λw hw=>h w (d7 _ hw)];split
  ·have:x≠n:=by rintro rfl;exact h v dW
   simp[this]
  ·rfl
theorem KI {kindOf:Str->Option NameKind}:∀{binds:List (Str×af)} {m:Str->Option af},(∀v,(x,v)∉binds)->bindC kindOf binds m x=m x
 |[],_,_=>rfl
 |(n,v)::r,m,h=>by
  unfold bindC;rw[KI λw hw=>h w (d7 _ hw)];split
  ·rfl
  ·have:x≠n:=by rintro rfl;exact h v dW
   simp[this]
theorem KJ {kindOf:Str->Option NameKind}:∀{P:List Str} {vs:List af} {i:Nat} {m:Str->Option af},P.Nodup->P[i]? =some x->vs[i]? =some v->kindOf x=some .local->
  bindL kindOf (P.zip vs) m x=some v
 |[],_,_,_,_,h,_,_=>by simp at h
 |_::_,[],_,_,_,_,h,_=>by simp at h
 |p::P,w::vs,0,m,nd,aa,ac,aw=>by simp at aa ac;subst aa;subst ac;show bindL kindOf ((p,w)::P.zip vs) m p=_;unfold bindL;rw[KL λv bx=>(hk.mp nd).1 (of_mem_zip bx).1,aV aw];simp
 |p::P,w::vs,i+1,m,nd,aa,ac,aw=>by show bindL kindOf ((p,w)::P.zip vs) m x=_;unfold bindL;exact KJ (i:=i) (hk.mp nd).2 (by simpa using aa) (by simpa using ac) aw
theorem KH {kindOf:Str->Option NameKind}:∀{P:List Str} {vs:List af} {i:Nat} {m:Str->Option af},P.Nodup->P[i]? =some x->vs[i]? =some v->kindOf x≠some .local->
  bindC kindOf (P.zip vs) m x=some v
 |[],_,_,_,_,h,_,_=>by simp at h
 |_::_,[],_,_,_,_,h,_=>by simp at h
 |p::P,w::vs,0,m,nd,aa,ac,aw=>by simp at aa ac;subst aa;subst ac;show bindC kindOf ((p,w)::P.zip vs) m p=_;unfold bindC;rw[KI λv bx=>(hk.mp nd).1 (of_mem_zip bx).1,aN aw];simp
 |p::P,w::vs,i+1,m,nd,aa,ac,aw=>by show bindC kindOf ((p,w)::P.zip vs) m x=_;unfold bindC;exact KH (i:=i) (hk.mp nd).2 (by simpa using aa) (by simpa using ac) aw
def start (N:List Str)(vs:List V):St:=vs.map some++replicate (N.length - vs.length) none
def j7 (CX:hT)(P:bg)(w:bb)(K:PySem.W.Frag)(ae:Str->Option af)(base:a5)(N:List Str)(qual:Str)(scope:Scope)(f:U)(cd:af)(A:cU)(outer:List Env)(s:ar)(H:ah)(E:fG):bq where
 prog:=P
 w:=w
 K:=K
 ae:=ae
 base:=base
 A:=A.deeper (envOfC qual scope s.heap.objs.size f cd)
 N:=N
 iF:=s
 nR:=H
 env:=envOfC qual scope s.heap.objs.size f cd
 outer:=outer
 stack:=envOfC qual scope s.heap.objs.size f cd::outer
 ex:=[]
 calm:=true
 fn:=λ_=>true
 cR:=[]
 cK:=λe s'=>wpAny (model P w) (A.deeper (envOfC qual scope s.heap.objs.size f cd)) (leaving (envOfC qual scope s.heap.objs.size f cd) e) (λ_ H4=>CX outer H s E e H4) (λbV H4=>CX outer H s E bV H4) s'
def KV {sc:Scope}{n:Nat}(h:sc.names.lookup x=some .cell):∃c,(cellsFrom n sc.names []).lookup x=some c:=by have q:=PySem.W.cellsFrom_some sc.names n [] (.inl h);exact Option.isSome_iff_exists.mp q
def Zw {CX:hT}{P:bg}{w:bb}{K:PySem.W.Frag}{ae:Str->Option af}{base:a5}{N ps:List Str}{qual:Str}{scope:Scope}{f:U}{cd:af}{A:cU}{outer:List Env}{s s1:ar}{H:ah}{E:fG}{us:List af}{vs:List V}
  (S:c3 N ps scope) (hd:A.handled=none) (dF:tj P w K ae base A outer s H) (aC:vs.length=ps.length) (r:b' vs us)
  (x:InCallC s s.heap.objs.size (bindL (envOfC qual scope s.heap.objs.size f cd).kindOf (ps.zip us) λ_=>none) (cellsFrom (s.heap.objs.size+1) scope.names []) (bindC (envOfC qual scope s.heap.objs.size f cd).kindOf (ps.zip us) λ_=>none) s1):
  Inv (j7 CX P w K ae base N qual scope f cd A outer s H E) [] (start N vs) H s1:=by
 have jt:ps.length<=N.length:=by have:=iM length S.pre;rw[mW] at this;omega
 obtain⟨aa,tk,rfl,aw⟩:=x.done;have v7:∀b:U,b∉(j7 CX P w K ae base N qual scope f cd A outer s H E).ex:=λb z=>absurd (show b∈([]:List U) from z) (by simp);refine⟨⟨dF.mod,S.kind,rfl,rfl,b5 _,λy z c aa ac=>?_,λy bk=>?_,λy c _ h=>?_,λ_=>hd,Around.frames_deeper dF.frames,.inr ⟨rfl,rfl⟩,λb z=>absurd z (v7 b),dF.bs,dF.nf,λb _ _=>v7 b,λb z=>absurd z (v7 b),dF.k6,dF.mu⟩,
  rfl,dF.bare,g9.kept aw,⟨_,x.toInCall.ns,λi y v aa ac av=>?_⟩,λy c h=>⟨_,x.cell y c h⟩,dF.ba.fresh (b5 _),λy c h=>?_,λp am=>absurd (show p∈([]:List (U×Obj)) from am) (by simp),dF.ba.kept aw,?_⟩
 ·exact name_of_addr x.apart (ly aa) (ly ac)
 ·have bk:scope.names.lookup y=some .cell\/scope.names.lookup y=some .free:=bk;rcases bk with bk|bk
  ·exact KV bk
  ·exact absurd rfl (S.abc _ (ly bk))
 ·exact le_of_lt (x.above y c (ly h))
 ·have aR:i < vs.length:=by
   unfold start at ac;by_cases aR:i < vs.length
   ·exact aR
   ·rw[Ad (by simpa using aR)] at ac;rw[List.getElem?_replicate] at ac;split at ac<;>cases ac
  have al:vs[i]? =some v:=by
   unfold start at ac;rw[wT (by simpa using aR),hD] at ac;cases e:vs[i]? with
   |none=>rw[e] at ac;cases ac
   |some a=>rw[e] at ac;cases ac;rfl
  obtain⟨u,aW,cy⟩:=r.get al;have am:ps[i]? =some y:=by rw[<-S.pre,List.getElem?_take_of_lt (by omega)];exact aa
  have Ph:ps.Nodup:=by rw[<-S.pre];exact S.nd.sublist (List.take_sublist _ _)
  refine⟨u,cy,?_⟩;rcases S.par y (l9 am) with k|k
  ·exact .inl ⟨k,KJ Ph am aW k⟩
  ·obtain⟨c,e⟩:=KV (n:=s.heap.objs.size+1) k;refine .inr ⟨.inl k,c,e,?_⟩;have q:=x.cell y c e;rw[KH Ph am aW (by show scope.names.lookup y≠_;rw[k];decide)] at q;exact q
 ·exact dF.ba.fresh (le_of_lt (x.above y c (ly h)))
 ·unfold start;show _=N.length;rw[dC,cc,List.length_replicate];omega
def Ff {CX:hT}{P:bg}{w:bb}{K:PySem.W.Frag}{ae:Str->Option af}{base:a5}{k:Nat}{f:U}{name qual:Str}{params:Arguments}{body:List Stmt}{scope:Scope}{EX cV doc pm bU dP hP:af}{an c9:Option U}
  {kH:Array (Option af)} {N ps:List Str} {sp:cD} (dD:K.lookup f=some ⟨hP,c9,.func (fnOf name qual params body scope EX cV doc pm an bU dP),kH⟩) (lN:codeIn K bU qual=true) (S:c3 N ps scope)
  (len:∀vs H Q E,sp vs H Q E->vs.length=ps.length)
  (tR:∀(A:cU) (outer:List Env) (s:ar) (H:ah) (vs:List V) (Q:cM) (E:fG),c1 k (A.deeper (envOfC qual scope s.heap.objs.size f bU))->sp vs H Q E->
   ∃t,e_ (j7 CX P w K ae base N qual scope f bU A outer s H E) body t/\t {cG:=λ_ ab=>Q .b1 ab,ia:=Q} (start N vs) H):
  aQ P w K ae base CX (k+1) f (fnOf name qual params body scope EX cV doc pm an bU dP) ps sp:=by
 refine⟨len,λA outer s H args us vs Q E au dF I r lT=>?_⟩;have aC:=len _ _ _ _ lT;have bZ:K.In s.heap:=dF.mod.vP.keeps λb o e=>(dF.bs b o e).1;have lim:s.heap.NoLimit:=dF.mod.nolimit.keeps λb o e=>(dF.bs b o e).1;have Yf:∀y∈ps.zip us,scope.names.lookup y.1=some .local\/(scope.names.lookup y.1=some .cell/\((cellsFrom (s.heap.objs.size+1) scope.names []).lookup y.1).isSome=true):=λ⟨n,v⟩ bk=>by
  rcases S.par n (of_mem_zip bk).1 with q|q
  ·exact .inl q
  ·exact .inr ⟨q,PySem.W.cellsFrom_some _ _ _ (.inl q)⟩
 refine codeAny_call_function au.depth (bZ _ _ dD) rfl S.co S.gen rfl (PySem.W.codeRec_of bZ lN) (I _ _ _ _ ?_);refine wpAny_newFunctionEnv_cells S.kind Yf λenv he s1 x=>?_;subst he;refine⟨lim.keeps x.toInCall.keep,codeAny_func ?_⟩;obtain⟨t,bY,az⟩:=tR A outer s H vs Q E (au.deeper _) lT;have J:Inv (j7 CX P w K ae base N qual scope f bU A outer s H E) [] (start N vs) H s1:=Zw S au.hd dF aC r x;refine je (bY [] s1 (start N vs) H _ J az) (λfa s' aD=>?_) λe s' aD=>aD;have fin:∀{σ':St} {ab:ah} {v:V} {u:af},Inv (j7 CX P w K ae base N qual scope f bU A outer s H E) [] σ' ab s'->RelV v u->Q v ab->DJ outer P w H s Q u s':=
  λ{σ' ab v u} ez cy q=>⟨v,ab,ez.os,ez.bare,ez.base,ez.ba,cy,q⟩
 cases fa with
 |ret u=>obtain⟨v,σ',ab,ez,cy,q⟩:=aD;exact fin ez cy q
 |next=>obtain⟨σ',ab,ez,q⟩:=aD;exact fin (v:=V.b1) (u:=Value.none) ez rfl q
 |brk=>obtain⟨_,_,_,q⟩:=aD;exact False.elim q
 |cont=>obtain⟨_,_,_,q⟩:=aD;exact False.elim q
section
variable {id T:String}
def Ro (r:List V->ah->cM->Prop)(t:hq):TE:=λσ H Q=>t σ H λvs H1=>r vs H1 Q
def gX (ai:qe X (.builtin id) r)(bK:hV X x)(hm:X.ae x=none)(bx:bootBuiltins x=some (.builtin id))(al:fF X (e::es) t)(ak:x≠"__name__":=by decide)(mx:(x==("__debug__":Str))=false:=by decide)
  (he:starEach (e::es) X.env=(false,eval e X.env)::starEach es X.env:=by rfl) (jt:(backTo pos (starEach es X.env)).any (·.1)=false:=by rfl):bl X (.Call (.Name x p) (e::es) [] pos) (Ro r t):=by
 intro pins s σ H Q J h;refine o3 (sk J bK hm bx ?_ ak mx);exact PyProof.Rows.callWith_builtin1 (bN (al pos pins s σ H _ J h) λus s1 ⟨vs,H1,aP,cj,aX⟩=>ai pins s1 σ H1 vs us Q aP cj aX) he jt
def Cw (ai:qe X (.type T) r)(bK:hV X x)(hm:X.ae x=none)(bx:bootBuiltins x=some (.type T))(al:fF X (e::es) t)(ak:x≠"__name__":=by decide)(mx:(x==("__debug__":Str))=false:=by decide)
  (he:starEach (e::es) X.env=(false,eval e X.env)::starEach es X.env:=by rfl) (jt:(backTo pos (starEach es X.env)).any (·.1)=false:=by rfl):bl X (.Call (.Name x p) (e::es) [] pos) (Ro r t):=by
 intro pins s σ H Q J h;refine o3 (sk J bK hm bx ?_ ak mx);exact PyProof.Rows.callWith_type1 (bN (al pos pins s σ H _ J h) λus s1 ⟨vs,H1,aP,cj,aX⟩=>ai pins s1 σ H1 vs us Q aP cj aX) he jt
end
end aB
namespace iO
open PySem PyProof.Rows
section
open PySem.SeqAt
open PySem.AutoSeq1 (wpAny_loadPart')
open PySem.MeetsSeq PySem.MeetsSeq2 PySem.MeetsSeq3
end
def ke (n d:Nat):Option Int->Nat
 |none=>d
 |some v=>if v < 0 then(v+(n:Int)).toNat else min v.toNat n
def adS (n d:Nat):ke n d none=d:=rfl
def H_ (n d k:Nat):ke n d (some (k:Int))=min k n:=by show(if(k:Int) < 0 then((k:Int)+(n:Int)).toNat else min (k:Int).toNat n)=min k n;rw[aN (by omega),wM]
end iO
namespace aB
open PySem PySem.Spec PyProof.Rows
abbrev eo:=St->ah->(Option Int->ah->Prop)->Prop
def AH (X:bq)(e:Option Expr)(t:eo):Prop:=
 ∀(pins:List (U×Obj)) (s:ar) (σ:St) (H:ah) (Q:Option Int->ah->Prop),Inv X pins σ H s->t σ H Q->
  wpAny (model X.prog X.w) X.A (evalPart e X.env) (λu s'=>∃o ab,Inv X pins σ ab s'/\IsPart u o/\Q o ab) X.cK s
def afg:eo:=λ_ H Q=>Q none H
inductive I3i(Q:Option Int->ah->Prop)(x:V)(H1:ah):Prop|i(i)(_:x=.int i)(_:Q (some i) H1)
def I3 (t:TE):eo:=λσ H Q=>t σ H (I3i Q)
def ac3:AH X none afg:=by intro pins s σ H Q J h;rw[evalPart_none];exact bp ⟨none,H,J,.none,h⟩
def zA (h:bl X e te):AH X (some e) (I3 te):=by intro pins s σ H Q J hw;rw[evalPart_some];refine bN (h pins s σ H _ J hw) λu s1 ⟨x,H1,aP,cj,aX⟩=>?_;obtain⟨i,rfl,q⟩:=aX;obtain⟨t,rfl⟩:=cj;exact⟨some i,H1,aP,.int i t,q⟩
def Kn (X:bq)(r:V->Option Int->Option Int->ah->cM->Prop):Prop:=
 ∀(pins:List (U×Obj)) (s:ar) (σ:St) (H:ah) (x:V) (v oV sW:af) (lo aR:Option Int) (bh:U) (Q:cM),Inv X pins σ H s->RelV x v->s.heap.IsSliceOf bh oV sW .none->IsPart oV lo->IsPart sW aR->r x lo aR H Q->
  ∃T id,typeLookup (.type T) "__getitem__"=pure (some (.builtin id))/\s.TypeIs v T/\wpAny (model X.prog X.w) X.A (getItem v (.ref bh)) (hE X pins σ Q) X.cK s
def Rx (r:V->Option Int->Option Int->ah->cM->Prop)(te:TE)(gf Dv:eo):TE:=λσ H Q=>te σ H λx H1=>gf σ H1 λl ap=>Dv σ ap λu bz=>r x l u bz Q
def HG {X:bq}{e:Expr}{te:TE}{lo aR:Option Expr}{gf Dv:eo}{pos eI:Pos}{r:V->Option Int->Option Int->ah->cM->Prop}(au:Kn X r)(he:bl X e te)(aC:AH X lo gf)(aW:AH X aR Dv):bl X (.Subscript e (.Slice lo aR none eI) pos) (Rx r te gf Dv):=by intro pins s σ H Q J h;refine Subscript_ (bN (he pins s σ H _ J h) λv s1 ⟨x,H1,aP,cj,aX⟩=>?_);refine wpAny_Slice (bN (aC pins s1 σ H1 _ aP aX) λoV s2 ⟨l,ap,bP,pl,bt⟩=>bN (aW pins s2 σ ap _ bP bt) λsW s3 ⟨u,bz,dv,pu,cn⟩=>?_);rw[evalPart_none];refine bp ?_;have hX:Inv X pins σ bz {s3 with heap:=s3.heap.push {cls:=.type "slice",data:=.fields #[oV,sW,.none]}}:=dv.kept (t':=s3.toks) λb b2 q=>dx _ q;obtain⟨T,id,bW,bY,bK⟩:=au pins {s3 with heap:=s3.heap.push {cls:=.type "slice",data:=.fields #[oV,sW,.none]}} σ bz x v oV sW l u s3.heap.objs.size Q hX cj (Heap.IsSliceOf.new ..) pl pu cn;show wpAny (model X.prog X.w) X.A (subscriptTail e (.Slice lo aR none eI) v (.ref s3.heap.objs.size)) (hE X pins σ Q) X.cK {s3 with heap:=s3.heap.push {cls:=.type "slice",data:=.fields #[oV,sW,.none]}};exact tail_any (ops:=[.ref s3.heap.objs.size,v]) bY bW bK (by with_unfolding_all rfl)
def n8 (xs:List V)(lo aR:Option Int):List V:=(xs.drop (iO.ke xs.length 0 lo)).take (iO.ke xs.length xs.length aR - iO.ke xs.length 0 lo)
def UI (xs:List V)(lo aR:Option Int):(n8 xs lo aR).length<=xs.length:=by unfold n8;rw[mW,ja];omega
def sh (n:Nat)(i:Int):Option Nat:=if 0<=i then(if i < n then some i.toNat else none) else if -(n:Int)<=i then some (i+n).toNat else none
def ph (xs:List α)(i:Int):Option α:=(sh xs.length i).bind λj=>xs[j]?
def ZA {n:Nat}{i:Int}{j:Nat}(h:sh n i=some j):seqIndex? i n=some j/\j < n/\ -(n:Int)<=i/\i < n:=by
 unfold sh at h;by_cases h0:0<=i
 ·rw[aV h0] at h;by_cases aa:i < n
  ·rw[aV aa] at h;have e:i.toNat=j:=dZ h;exact⟨by rw[seqIndex_of h0 aa,e],by omega,by omega,aa⟩
  ·rw[aN aa] at h;cases h
 ·rw[aN h0] at h;by_cases aa:-(n:Int)<=i
  ·rw[aV aa] at h;have e:(i+n).toNat=j:=dZ h;exact⟨by rw[seqIndex_neg (by omega) aa,e],by omega,aa,by omega⟩
  ·rw[aN aa] at h;cases h
def EA {i:Int}(h:ph xs i=some v):∃j,seqIndex? i xs.length=some j/\xs[j]? =some v/\j < xs.length/\ -(xs.length:Int)<=i/\i < xs.length:=by
 unfold ph at h;cases e:sh xs.length i with
 |none=>rw[e] at h;cases h
 |some j=>rw[e] at h;obtain⟨aa,ac,av,bn⟩:=ZA e;exact⟨j,aa,h,ac,av,bn⟩
def dT {j:Nat}(h:xs[j]? =some v):ph xs (j:Int)=some v:=by
 have bF:j < xs.length:=(eX.mp h).1;have e:sh xs.length (j:Int)=some j:=by unfold sh;rw[aV (by omega),aV (by omega)];simp
 unfold ph;rw[e];exact h
def T0 (xs:List α)(v:α):ph (xs++[v]) (-1)=some v:=by
 have aC:(xs++[v]).length=xs.length+1:=by simp
 have e:sh (xs++[v]).length (-1)=some xs.length:=by
  unfold sh;rw[aC,aN (by decide),aV (by omega)]
  congr 1
  omega
 unfold ph;rw[e];show(xs++[v])[xs.length]? =some v;simp
def Tk (b:Expr):Prop:=∀o i,subscripted b false o i=operate [o,i] (getItem o i)
def rE (X:bq)(r:dt):Prop:=
 ∀(value slice:Expr) (pins:List (U×Obj)) (s:ar) (σ:St) (H:ah) (x y:V) (v u:af) (Q:cM),Inv X pins σ H s->RelV x v->RelV y u->r x y H Q->
  subscripted slice false v u=operate [v,u] (getItem v u)->wpAny (model X.prog X.w) X.A (subscriptTail value slice v u) (hE X pins σ Q) X.cK s
def Ea (X:bq)(id:String)(r:V->List V->ah->cM->Prop):Prop:=
 ∀(pins:List (U×Obj)) (s:ar) (σ:St) (H:ah) (x:V) (xs:List V) (v:af) (us:List af) (Q:cM),Inv X pins σ H s->RelV x v->b' xs us->r x xs H Q->
  wpAny (model X.prog X.w) X.A (call (.builtin id) (v::us)) (hE X pins σ Q) X.cK s
section
def da (au:rE X r)(al:bl X a aF)(I:bl X b cL)(aD:Tk b):bl X (.Subscript a b pos) (oR r aF cL):=by intro pins s σ H Q J h;exact Subscript_ (EF al I J h λv u s2 x y ap bP bG bB q=>au a b pins s2 σ ap x y v u Q bP bG bB q (aD _ _))
inductive Qm(K:PySem.W.Frag)(x:V)(y:V)(H:ah)(Q:cM):Prop|i(p)(xs)(i)(v)(_:x=.ref p)(_:y=.int i)(_:bA K H p xs)(_:ph xs i=some v)(_:Q v H)
inductive adm(K:PySem.W.Frag)(x:V)(y:V)(H:ah)(Q:cM):Prop|i(p)(xs)(i)(v)(_:x=.ref p)(_:y=.int i)(_:c5 K H p xs)(_:ph xs i=some v)(_:Q v H)
inductive adl (x:V)(y:V)(H:ah)(Q:cM):Prop|i(z)(i)(c)(_:x=.str z)(_:y=.int i)(_:z.length<=sizeLine)(_:ph z.cps.toList i=some c)(_:Q (.str ⟨#[c]⟩) H)
def gk:rE X (Qm X.K):=by
 intro value slice pins s σ H x y v u Q J bG bB h aD;obtain⟨p,xs,i,z,rfl,rfl,az,he,q⟩:=h;cases bG;obtain⟨t,rfl⟩:=bB;obtain⟨a3,r,pl,hz⟩:=J.list az;obtain⟨j,aa,ac,av,bn,cB⟩:=EA he;obtain⟨w,iv,iE⟩:=r.get ac;have aC:=r.length;have ak:=B0;have fin:hE X pins σ Q w s:=⟨z,H,J,iE,q⟩;by_cases h0:0<=i
 ·have bF:i.toNat=j:=by rw[seqIndex_of h0 cB] at aa;exact dZ aa
  exact item_listR pl.isList h0 (by omega) (by rw[bF];simpa using iv) fin aD
 ·have bF:(i+(a3.toArray.size:Int)).toNat=j:=by rw[seqIndex_neg (by omega) bn] at aa;rw[fL,<-aC];exact dZ aa
  exact subscriptTail_builtinR (x:=w) pl.isList.typeIs slot_list_getitem.lookup
   (wpAny_getItem_list_neg (Q:=λr s'=>r=w/\hE X pins σ Q r s') pl.isList (by omega) (by rw[fL]<;>omega) (by omega) (by rw[bF];simpa using iv) ⟨rfl,fin⟩) aD
def la:rE X (adm X.K):=by
 intro value slice pins s σ H x y v u Q J bG bB h aD;obtain⟨p,xs,i,z,rfl,rfl,az,he,q⟩:=h;cases bG;obtain⟨t,rfl⟩:=bB;obtain⟨a3,r,pl,hz⟩:=J.tuple az;obtain⟨j,aa,ac,av,bn,cB⟩:=EA he;obtain⟨w,iv,iE⟩:=r.get ac;have aC:=r.length;have ak:=B0;have fin:hE X pins σ Q w s:=⟨z,H,J,iE,q⟩;exact subscriptTail_builtinR (x:=w) pl.typeIs slot_tuple_getitem.lookup
  (getItem_tuple (j:=j) (Q:=λr s'=>r=w/\hE X pins σ Q r s') pl (by omega) (by omega) (by rw[fL,<-aC];exact aa) (by simpa using iv) ⟨rfl,fin⟩) aD
def ZE:rE X adl:=by
 intro value slice pins s σ H x y v u Q J bG bB h aD;obtain⟨z,i,c,rfl,rfl,hz,he,q⟩:=h;obtain⟨t,rfl⟩:=bG;obtain⟨t',rfl⟩:=bB;obtain⟨j,aa,ac,av,bn,cB⟩:=EA he;have aC:z.cps.toList.length=z.length:=by simp[Str.length]
 rw[aC] at aa bn cB;have ak:=B0;exact tail_any (typeIs_str s z t) slot_str_getitem.lookup (getItem_str (c:=c) (by
  have aE:decide (i < -(2 ^ 63:Int))=false:=cW (by omega);have aL:decide (i>=2 ^ 63)=false:=cW (by omega);rw[aE,aL,Bool.or_false]) (by rw[aa];simpa using ac) ⟨.str ⟨#[c]⟩,H,J.tok _,⟨_,rfl⟩,q⟩) aD
def aeu (lo aR:Option Int)(n:Nat):(sliceBounds lo aR none n).1=((iO.ke n 0 lo:Nat):Int)/\(sliceBounds lo aR none n).2.1=((iO.ke n n aR:Nat):Int)/\(sliceBounds lo aR none n).2.2=1:=by
 refine⟨?_,?_,rfl⟩
 ·cases lo with
  |none=>simp[sliceBounds,iO.ke]
  |some i=>
   simp only[sliceBounds,iO.ke,getD_none,show(1:Int) > 0 by decide,jY];by_cases h:i < 0
   ·simp only[h,jY]<;>omega
   ·simp only[h,fX]<;>omega
 ·cases aR with
  |none=>simp[sliceBounds,iO.ke]
  |some i=>
   simp only[sliceBounds,iO.ke,getD_none,show(1:Int) > 0 by decide,jY];by_cases h:i < 0
   ·simp only[h,jY]<;>omega
   ·simp only[h,fX]<;>omega
def aet (a3:List af)(lo aR:Option Int):slicePick a3.toArray lo aR none=((a3.drop (iO.ke a3.length 0 lo)).take (iO.ke a3.length a3.length aR - iO.ke a3.length 0 lo)).toArray:=by obtain⟨aa,ac,av⟩:=aeu lo aR a3.toArray.size;unfold slicePick;rw[aa,ac,av];simp only[sliceRange_one,pick_run,fL]<;>rfl
inductive Qq(K:PySem.W.Frag)(x:V)(lo:Option Int)(aR:Option Int)(H:ah)(Q:cM):Prop|i(a)(xs)(_:x=.ref a)(_:bA K H a xs)(_:∀p,H p=none->Q (.ref p) (upd H p (.lst (n8 xs lo aR))))
def Ip:Kn X (Qq X.K):=by intro pins s σ H x v oV sW lo aR bh Q J bG aD pl pu h;obtain⟨a,xs,rfl,ao,q⟩:=h;cases bG;obtain⟨a3,r,bY,hz⟩:=J.list ao;have d2:=r.length;refine⟨"list",_,slot_list_getitem.lookup,bY.isList.typeIs,?_⟩;refine wpAny_getItem_list_slice bY.isList aD pl pu .none (by simp) ?_ (by rw[fL]<;>omega);rw[aet,<-d2];refine⟨.ref s.heap.objs.size,_,J.laid (t':=s.toks) (o:=.lst (n8 xs lo aR)) (λb b2 q=>dx _ q) (b5 _) ?_,rfl,q _ (J.ba.fresh (b5 _))⟩;exact⟨gC (UI xs lo aR) hz,_,0,(r.drop (iO.ke xs.length 0 lo)).take (iO.ke xs.length xs.length aR - iO.ke xs.length 0 lo),fM _ rfl⟩
def pv:V->Bool
 |.b1=>true
 |.bL _=>true
 |.int _=>true
 |.str _=>true
 |_=>false
def rQ:V->V->Bool
 |.b1,.b1=>true
 |.bL a,.bL b=>a==b
 |.bL a,.int b=>(if a then 1 else 0)==b
 |.int a,.bL b=>a==(if b then 1 else 0)
 |.int a,.int b=>a==b
 |.str a,.str b=>a==b
 |_,_=>false
def Vi (bB:RelV y u)(bG:RelV x v)(VY:pv y=true)(pw:pv x=true):SeqAt.EqAt A s u v (rQ y x):=by
 cases y with
 |b1=>
  cases bB;cases x with
  |b1=>cases bG;exact SeqAt.EqAt.same _
  |bL b=>cases bG;exact SeqAt.EqAt.none_bool b
  |int b=>obtain⟨t,rfl⟩:=bG;exact SeqAt.EqAt.none_int b t
  |str b=>obtain⟨t,rfl⟩:=bG;exact SeqAt.EqAt.none_str b t
  |_=>exact absurd (show false=true from pw) gg
 |bL a=>
  cases bB;cases x with
  |b1=>cases bG;exact SeqAt.EqAt.bool_none a
  |bL b=>cases bG;exact SeqAt.EqAt.bool_bool a b
  |int b=>obtain⟨t,rfl⟩:=bG;exact SeqAt.EqAt.bool_int a b t
  |str b=>obtain⟨t,rfl⟩:=bG;exact SeqAt.EqAt.bool_str a b t
  |_=>exact absurd (show false=true from pw) gg
 |int a=>
  obtain⟨t',rfl⟩:=bB;cases x with
  |b1=>cases bG;exact SeqAt.EqAt.int_none a t'
  |bL b=>cases bG;exact SeqAt.EqAt.int_bool a t' b
  |int b=>obtain⟨t,rfl⟩:=bG;exact SeqAt.EqAt.int_int a t' b t
  |str b=>obtain⟨t,rfl⟩:=bG;exact SeqAt.EqAt.int_str a t' b t
  |_=>exact absurd (show false=true from pw) gg
 |str a=>
  obtain⟨t',rfl⟩:=bB;cases x with
  |b1=>cases bG;exact SeqAt.EqAt.str_none a t'
  |bL b=>cases bG;exact SeqAt.EqAt.str_bool a t' b
  |int b=>obtain⟨t,rfl⟩:=bG;exact SeqAt.EqAt.str_int a t' b t
  |str b=>obtain⟨t,rfl⟩:=bG;exact SeqAt.EqAt.str_str a t' b t
  |_=>exact absurd (show false=true from pw) gg
 |_=>exact absurd (show false=true from VY) gg
def qC (x:V)(u:af):Bool:=match u with
 |.none=>rQ .b1 x
 |.bool b=>rQ (.bL b) x
 |.int i _=>rQ (.int i) x
 |.str z _=>rQ (.str z) x
 |_=>false
def LG (r:RelV y u)(f:pv y=true):qC x u=rQ y x:=by
 cases y with
 |b1=>cases r;rfl
 |bL b=>cases r;rfl
 |int i=>obtain⟨t,rfl⟩:=r;rfl
 |str z=>obtain⟨t,rfl⟩:=r;rfl
 |_=>exact absurd (show false=true from f) gg
theorem Ex:∀{xs:List V} {us:List af},b' xs us->xs.all pv=true->us.any (qC x)=xs.any λy=>rQ y x
 |_,_,.nil,_=>rfl
 |y::xs,u::us,.cons r t,f=>by rw[all_cons,d6] at f;rw[wO,wO,LG r f.1,Ex t f.2]
theorem G0 (bG:RelV x v)(pw:pv x=true):∀{xs:List V} {us:List af},b' xs us->xs.all pv=true->∀u∈us,SeqAt.EqAt A s u v (qC x u)
 |_,_,.nil,_=>λu aW=>by cases aW
 |y::xs,u::us,.cons r t,f=>λiG aW=>by
  rw[all_cons,d6] at f;rcases cr.mp aW with rfl|aW
  ·rw[LG r f.1];exact Vi r bG f.1 pw
  ·exact G0 bG pw t f.2 iG aW
def q2 (x:V)(xs:List V):Bool:=xs.any λy=>rQ y x
inductive adk(K:PySem.W.Frag)(neg:Bool)(x:V)(y:V)(H:ah)(Q:cM):Prop|i(p)(xs)(_:y=.ref p)(_:bA K H p xs\/c5 K H p xs)(_:pv x=true)(_:xs.all pv=true)(_:Q (.bL (if neg then !q2 x xs else q2 x xs)) H)
def PW:hF X (compareOp .In) (adk X.K false):=by
 intro pins s σ H x y v u Q J bG bB h;obtain⟨p,xs,rfl,az,pw,bd,q⟩:=h;cases bB;rcases az with az|az
 ·obtain⟨a3,r,pl,hz⟩:=J.list az;refine SeqAt.in_listAt (qC x) pl.isList (λw hw=>G0 bG pw r bd w (by simpa using hw)) ⟨.bL _,H,J,rfl,?_⟩;rw[show a3.toArray.any (qC x)=a3.any (qC x) by simp,Ex r bd];exact q
 ·obtain⟨a3,r,pl,hz⟩:=J.tuple az;refine SeqAt.in_tupleAt (qC x) pl (λw hw=>G0 bG pw r bd w (by simpa using hw)) ⟨.bL _,H,J,rfl,?_⟩;rw[show a3.toArray.any (qC x)=a3.any (qC x) by simp,Ex r bd];exact q
def j6:qe X (.builtin "len") (λxs H Q=>∃p bO,xs=[.ref p]/\(bA X.K H p bO\/c5 X.K H p bO)/\Q (.int bO.length) H):=by
 intro pins s σ H xs us Q J r h;obtain⟨p,bO,rfl,az,q⟩:=h;obtain⟨u,rfl,bG⟩:=vals1 r;cases bG;have ak:=B0;rcases az with az|az
 ·obtain⟨a3,b8,pl,hz⟩:=J.list az;have d2:=b8.length;exact Calls.call_len_list pl.isList (by simp only[fL]<;>omega) ⟨.int bO.length,H,J.tok _,⟨s.toks+1,by rw[fL,d2]⟩,q⟩
 ·obtain⟨a3,b8,pl,hz⟩:=J.tuple az;have d2:=b8.length;exact len_tuple pl (by simp only[fL]<;>omega) ⟨.int bO.length,H,J.tok _,⟨s.toks+1,by rw[fL,d2]⟩,q⟩
def Ur:qe X (.type "list") (λxs H Q=>∃p bO,xs=[.ref p]/\(bA X.K H p bO\/c5 X.K H p bO)/\∀l,H l=none->Q (.ref l) (upd H l (.lst bO))):=by
 intro pins s σ H xs us Q J r h;obtain⟨p,bO,rfl,az,q⟩:=h;obtain⟨u,rfl,bG⟩:=vals1 r;cases bG;have fin:∀(a3:List af),b' bO a3->bO.length<=sizeLine->∀(h':a5) (b7:Nat),(∀b d5,s.heap.get? b=some d5->h'.get? b=some d5)->
   h'.get? s.heap.objs.size=some {cls:=.type "list",dict:=none,data:=.seq a3.toArray b7,slots:=#[]}->hE X pins σ Q (.ref s.heap.objs.size) {s with heap:=h'}:=λa3 b8 hz h' b7 bu e=>
  ⟨.ref s.heap.objs.size,_,J.laid (t':=s.toks) bu (b5 _) (show dq X.prog X.w _ h' _ (.lst bO) from⟨hz,a3,b7,b8,e⟩),rfl,q _ (J.ba.fresh (b5 _))⟩
 rcases az with az|az
 ·obtain⟨a3,b8,pl,hz⟩:=J.list az;have d2:=b8.length;obtain⟨o,aI,ai,n,hd⟩:=pl.isList;exact call_list_seq p (.inl rfl) aI ai hd (λh' b7 bu e=>fin a3 b8 hz h' b7 bu e) (by simp only[fL]<;>omega)
 ·obtain⟨a3,b8,pl,hz⟩:=J.tuple az;have d2:=b8.length;obtain⟨o,aI,ai,n,hd⟩:=pl;exact call_list_seq p (.inr rfl) aI ai hd (λh' b7 bu e=>fin a3 b8 hz h' b7 bu e) (by simp only[fL]<;>omega)
def KR:qe X (.type "tuple") (λxs H Q=>∃p bO,xs=[.ref p]/\((bA X.K H p bO/\∀l,H l=none->Q (.ref l) (upd H l (.tup bO)))\/(c5 X.K H p bO/\Q (.ref p) H))):=by
 intro pins s σ H xs us Q J r h;obtain⟨p,bO,rfl,h⟩:=h;obtain⟨u,rfl,bG⟩:=vals1 r;cases bG;rcases h with⟨az,q⟩|⟨az,q⟩
 ·obtain⟨a3,b8,pl,hz⟩:=J.list az;have d2:=b8.length;refine call_tuple_list pl.isList (λh' bu=>?_) (by simp only[fL]<;>omega);have aP:Inv X pins σ H {s with heap:=h'}:=J.kept (t':=s.toks) bu;have bP:Inv X pins σ (upd H h'.objs.size (.tup bO)) {s with heap:=h'.push {cls:=.type "tuple",data:=.seq a3.toArray}}:=
   aP.laid (t':=s.toks) (λb o e=>dx _ e) (b5 _) (show dq X.prog X.w _ _ _ (.tup bO) from⟨hz,a3,b8,IsTup.new _ _⟩)
  exact⟨.ref h'.objs.size,_,bP,rfl,q _ (aP.ba.fresh (b5 _))⟩
 ·obtain⟨a3,b8,pl,hz⟩:=J.tuple az;exact call_tuple_same pl ⟨.ref p,H,J,rfl,q⟩
def I9 (K:PySem.W.Frag)(T:String)(x:V)(H:ah):Prop:=match x with
 |.str _=>T="str"
 |.int _=>T="int"
 |.ref p=>(T="list"/\∃xs,bA K H p xs)\/(T="tuple"/\∃o,K.lookup p=some o/\o.cls=.type "tuple"/\o.dict=none)\/
   (T="dict"/\((∃kvs,H p=some (.cq kvs))\/∃kvs,H p=some (.e1 kvs)))\/(T="set"/\∃S n,H p=some (.set S n))
 |_=>False
def RM {T:String}(J:Inv X pins σ H s)(r:RelV x v)(ty:I9 X.K T x H):
  s.TypeIs v T/\∀a,v=.ref a->∃b2,s.heap.get? a=some b2/\b2.dict=none:=by
 cases x with
 |str z=>obtain⟨t,rfl⟩:=r;cases (show T="str" from ty);exact⟨typeIs_str s z t,λ_ e=>nomatch e⟩
 |int i=>obtain⟨t,rfl⟩:=r;cases (show T="int" from ty);exact⟨typeIs_int s i t,λ_ e=>nomatch e⟩
 |ref p=>
  cases r;rcases ty with⟨rfl,xs,az⟩|⟨rfl,o,aw,ai,hd⟩|⟨rfl,aw⟩|⟨rfl,S,n,aw⟩
  ·obtain⟨a3,_,pl,_⟩:=J.list az;refine⟨pl.isList.typeIs,λa e=>?_⟩;cases e;obtain⟨o,n,e,c,hd,_⟩:=pl;exact⟨o,e,hd⟩
  ·refine⟨⟨o,J.gv p o aw,ai⟩,λa e=>?_⟩;cases e;exact⟨o,J.gv _ o aw,hd⟩
  ·have z:∃o,s.heap.get? p=some o/\o.ExactDict:=by
    rcases aw with⟨kvs,aw⟩|⟨kvs,aw⟩
    ·obtain⟨_,_,_,_,o,_,_,e,ex,_⟩:=J.ba p _ aw;exact⟨o,e,ex⟩
    ·obtain⟨_,_,_,_,o,_,_,e,ex,_⟩:=J.ba p _ aw;exact⟨o,e,ex⟩
   obtain⟨o,e,ex⟩:=z;refine⟨⟨o,e,ex.1⟩,λa aL=>?_⟩;cases aL;exact⟨o,e,ex.2.1⟩
  ·obtain⟨o,_,_,_,e,ex,_⟩:=J.ba p _ aw;refine⟨⟨o,e,ex.1⟩,λa aL=>?_⟩;cases aL;exact⟨o,e,ex.2.1⟩
 |_=>exact False.elim ty
def ae3 (K:PySem.W.Frag)(T:String)(r:V->List V->ah->cM->Prop)(to:TE):TE:=λσ H Q=>to σ H λx H1=>I9 K T x H1/\r x [] H1 Q
def wD (K:PySem.W.Frag)(T:String)(r:V->List V->ah->cM->Prop)(to:TE)(t:hq):TE:=λσ H Q=>to σ H λx H1=>I9 K T x H1/\t σ H1 λxs ap=>r x xs ap Q
variable {T id:String}
def P4 (mI:PlainAttrs T)(slot:Slot T name id)(sf:typeOf (.builtin id)=pure (.type "method_descriptor"))(hm:Ea X id r)(aI:bl X o to)
  (yy:attributeBase o name X.env (eval o X.env)=eval o X.env:=by rfl) (yO:(apos.endLine==fj.line)=true:=by rfl):bl X (.Call (.Attribute o name apos) [] [] fj) (ae3 X.K T r to):=by
 intro pins s σ H Q J h;refine wpAny_Call_method0_late yy yO (bN (aI pins s σ H _ J h) λv s1 ⟨x,H1,aP,cj,ty,aX⟩=>?_);obtain⟨aa,ac⟩:=RM aP cj ty;exact⟨T,id,mI,slot,sf,aa,ac,Calls.callWith_builtin rfl (PySem.evalArgs_none (hm pins s1 σ H1 x [] v [] Q aP cj .nil aX))⟩
def lh (mI:PlainAttrs T)(slot:Slot T name id)(sf:typeOf (.builtin id)=pure (.type "method_descriptor"))(hm:Ea X id r)(aI:bl X o to)(al:fF X (e::es) t)
  (yy:attributeBase o name X.env (eval o X.env)=eval o X.env:=by rfl)
  (X4:((backTo fj (starEach (e::es) X.env)).all (λx=>!x.1)&&(backToKw fj (keywordEach [] X.env)).all (λx=>x.1.isSome)
   &&decide ((e::es).length+([]:List Keyword).length+(if([]:List Keyword).isEmpty then 0 else 1) < 30))=true:=by rfl)
  (yO:(apos.endLine==fj.line)=true:=by rfl) (aD:starEach (e::es) X.env=(false,eval e X.env)::starEach es X.env:=by rfl) (YI:(backTo fj (starEach es X.env)).any (·.1)=false:=by rfl):
  bl X (.Call (.Attribute o name apos) (e::es) [] fj) (wD X.K T r to t):=by
 intro pins s σ H Q J h;refine wpAny_Call_method_late yy X4 yO rfl (bN (aI pins s σ H _ J h) λv s1 ⟨x,H1,aP,cj,ty,aX⟩=>?_);obtain⟨aa,ac⟩:=RM aP cj ty;refine⟨T,id,mI,slot,sf,aa,ac,?_⟩;have e2:=al fj pins s1 σ H1 _ aP aX;rw[aD] at e2 ⊢;refine Calls.callWith_builtin (by show(false||(backTo fj (starEach es X.env)).any (·.1))=false;rw[YI]<;>rfl) (Calls.evalArgs_plain ?_);exact bN e2 λus s2 ⟨vs,ap,bP,dB,bt⟩=>hm pins s2 σ ap x vs v us Q bP cj dB bt
end
def AF (X:bq)(id:String)(r:V->List V->ah->cM->Prop):Prop:=
 ∀(pins:List (U×Obj)) (s:ar) (σ:St) (H:ah) (x:V) (xs:List V) (v:af) (us:List af) (Q:cM),Inv X pins σ H s->RelV x v->b' xs us->r x xs H Q->
  wpAny (model X.prog X.w) X.A (call (.builtin id) (v::us)) (hE X pins σ Q) X.cK s
def b'.one:∀{x:V} {us:List af},b' [x] us->∃u,us=[u]/\RelV x u
 |_,_,.cons r .nil=>⟨_,rfl,r⟩
def b'.zero:∀{us:List af},b' [] us->us=[]
 |_,.nil=>rfl
def b'.dropLast (h:b' xs us):b' xs.dropLast us.dropLast:=by
 induction h with
 |nil=>exact .nil
 |cons r t bE=>
  cases t with
  |nil=>exact .nil
  |cons q t'=>exact .cons r bE
theorem b'.eraseIdx:∀{xs:List V} {us:List af} (i:Nat),b' xs us->b' (xs.eraseIdx i) (us.eraseIdx i)
 |_,_,_,.nil=>.nil
 |_,_,0,.cons _ t=>t
 |_,_,i+1,.cons r t=>.cons r (b'.eraseIdx i t)
def Vr (l:List α):l.eraseIdx (l.length - 1)=l.dropLast:=by
 induction l with
 |nil=>rfl
 |cons a r bE=>
  cases r with
  |nil=>rfl
  |cons b r=>
   have e:(a::b::r).length - 1=((b::r).length - 1)+1:=by have aa:(a::b::r).length=r.length+2:=rfl;have ac:(b::r).length=r.length+1:=rfl;omega
   rw[e,DG,bE]
   all_goals rfl
theorem OH:∀(l:List α) (i:Nat),(l.eraseIdx i).length<=l.length
 |[],_=>b5 _
 |_::_,0=>Nat.le_succ _
 |_::r,i+1=>Nat.succ_le_succ (OH r i)
def Inv.B2 {s:ar}{bO:List V}{a3 its':List af}{n:Nat}{f:Array af->Array af}{t':Nat}(J:Inv X pins σ H s)(ix:H l=some (.lst xs))
  (e:s.heap.get? l=some {cls:=.type "list",data:=.seq a3.toArray n}) (hf:f a3.toArray=its'.toArray) (bx:b' bO its') (hz:bO.length<=sizeLine):
  Inv X pins σ (upd H l (.lst bO)) {s with heap:=s.heap.update l (Obj.mapSeq f),toks:=t'}:=by
 have q:=PySem.IsL.update e f;rw[hf] at q;refine J.write (x:=l) (e:=l) (by rw[ix];exact trivial) (.inl rfl) (λn5 u I aW=>(nL s.heap (Obj.mapSeq f) (gL I)).trans aW) ⟨_,q⟩ ?_;exact⟨hz,its',_,bx,q⟩
def Inv.aab {t':Nat}(J:Inv X pins σ H s)(bx:b' bO a3)(hz:bO.length<=sizeLine):
  Inv X pins σ (upd H s.heap.objs.size (.lst bO)) {s with heap:=s.heap.push {cls:=.type "list",data:=.seq a3.toArray},toks:=t'}:=
 J.laid (λ_ _ q=>dx _ q) (b5 _) ⟨hz,a3,0,bx,fM _ rfl⟩
def Inv.fresh (J:Inv X pins σ H s):H s.heap.objs.size=none:=J.ba.fresh (b5 _)
def Inv.ua (J:Inv X pins σ H s)(ix:H l=some (.lst xs)):xs.length<=sizeLine/\∃(a3:List af) (n:Nat),b' xs a3/\xs.length=a3.length/\s.heap.get? l=some {cls:=.type "list",data:=.seq a3.toArray n}:=by obtain⟨z,a3,n,r,e⟩:=J.ba l _ ix;exact⟨z,a3,n,r,r.length,e⟩
def abg {n:Nat}(h:n<=sizeLine):Builtin.List.listTooLong n=false:=by unfold Builtin.List.listTooLong;exact cW (by omega)
inductive wk (x:V)(vs:List V)(H:ah)(Q:cM):Prop|i(l)(xs)(y)(_:x=.ref l)(_:vs=[y])(_:H l=some (.lst xs))(_:xs.length < sizeLine)(_:Q .b1 (upd H l (.lst (xs++[y]))))
def nz:AF X "list.append" wk:=by intro pins s σ H x vs v us Q J bG cy h;obtain⟨l,xs,y,rfl,rfl,ix,hz,q⟩:=h;cases bG;obtain⟨u,rfl,c7⟩:=cy.one;obtain⟨z,a3,n,r,aC,e⟩:=J.ua ix;refine call_meets mY ⟨_,e,rfl⟩ F.entry_list_append (F.args_list_append_2 _ _) (PySem.list_append l a3.toArray n u (by rw[fL];omega)) ⟨e,?_⟩;refine⟨.b1,_,J.B2 (its':=a3++[u]) ix e (by simp) (r.append (.cons c7 .nil)) ?_,rfl,q⟩;rw[dC,List.length_singleton];omega
inductive adi (x:V)(vs:List V)(H:ah)(Q:cM):Prop|i(l)(b)(xs)(zs)(_:x=.ref l)(_:vs=[.ref b])(_:H l=some (.lst xs))(_:H b=some (.lst zs))(_:xs.length+zs.length<=sizeLine)(_:Q .b1 (upd H l (.lst (xs++zs))))
def O':AF X "list.extend" adi:=by
 intro pins s σ H x vs v us Q J bG cy h;obtain⟨l,b,xs,zs,rfl,rfl,ix,lM,hz,q⟩:=h;cases bG;obtain⟨u,rfl,c7⟩:=cy.one;cases c7;obtain⟨z,a3,n,r,aC,e⟩:=J.ua ix;obtain⟨cx,ow,eW,dB,hK,aL⟩:=J.ua lM;have hsz:a3.toArray.size+ow.toArray.size<=sizeLine:=by rw[fL,fL];omega
 have Ym:¬(!a3.toArray.isEmpty&&Builtin.List.listTooLong (a3.toArray.size+ow.toArray.size))=true:=by rw[abg hsz,Bool.and_false];exact gg
 refine call_meets F.slot_list_extend ⟨_,e,rfl⟩ F.entry_list_extend (F.args_list_extend_2 _ _)
  (AutoSeq1.list_extend_list_list_0 l a3.toArray n b ow.toArray eW Ym (by rw[fL];omega) (by omega)) ⟨e,aL,?_⟩
 refine⟨.b1,_,J.B2 (its':=a3++ow) ix e (by simp) (r.append dB) ?_,rfl,q⟩;rw[dC];omega
inductive adq (x:V)(vs:List V)(H:ah)(Q:cM):Prop|i(l)(xs)(y)(_:x=.ref l)(_:vs=[])(_:H l=some (.lst xs))(_:xs[xs.length - 1]? =some y)(_:Q y (upd H l (.lst xs.dropLast)))
def aaR:AF X "list.pop" adq:=by
 intro pins s σ H x vs v us Q J bG cy h;obtain⟨l,xs,y,rfl,rfl,ix,bk,q⟩:=h;cases bG;have t6:=cy.zero;subst t6;obtain⟨z,a3,n,r,aC,e⟩:=J.ua ix;obtain⟨u,aW,c7⟩:=r.get bk;have BO:a3.toArray[a3.toArray.size - 1]? =some u:=by show a3.toArray[a3.length - 1]? =some u;rw[<-Array.getElem?_toList,<-aC];exact aW
 refine call_meets F.slot_list_pop ⟨_,e,rfl⟩ F.entry_list_pop (F.args_list_pop_1 _) (MeetsSeq.list_pop_last l a3.toArray n u BO (by rw[fL];omega)) ⟨e,?_⟩;refine⟨y,_,J.B2 (its':=a3.dropLast) ix e ?_ r.dropLast ?_,c7,q⟩
 ·show a3.toArray.eraseIdxIfInBounds (a3.toArray.size - 1)=a3.dropLast.toArray;rw[fL,List.eraseIdxIfInBounds_toArray,Vr]
 ·rw[List.length_dropLast];omega
inductive adh (x:V)(y:V)(H:ah)(Q:cM):Prop|i(l)(b)(xs)(zs)(_:x=.ref l)(_:y=.ref b)(_:H l=some (.lst xs))(_:H b=some (.lst zs))(_:xs.length+zs.length<=sizeLine)(_:∀p,H p=none->Q (.ref p) (upd H p (.lst (xs++zs))))
def wb:hF X (binaryOp .Add) adh:=by
 intro pins s σ H x y v u Q J bG bB h;obtain⟨l,b,xs,zs,rfl,rfl,ix,lM,hz,q⟩:=h;cases bG;cases bB;obtain⟨z,a3,n,r,aC,e⟩:=J.ua ix;obtain⟨cx,ow,eW,dB,hK,aL⟩:=J.ua lM;refine PySem.P.add_list e aL ?_ (by rw[fL,fL];omega);have a9:a3.toArray++ow.toArray=(a3++ow).toArray:=by simp
 rw[a9];exact⟨.ref _,_,J.aab (t':=s.toks) (r.append dB) (by rw[dC];omega),rfl,q _ J.fresh⟩
theorem b'.ints:∀{ns:List Int} {us:List af},b' (ns.map V.int) us->IntsAre us ns
 |[],us,h=>by rw[p_] at h;cases h;exact IntsAre.nil
 |n::ns,us,h=>by
  rw[ck] at h;cases h with
  |cons r t=>obtain⟨k,rfl⟩:=r;exact IntsAre.cons n k (b'.ints t)
theorem RR:∀{us:List af} {ns:List Int},IntsAre us ns->b' (ns.map V.int) us
 |_,_,.nil=>by rw[p_];exact Paired.nil
 |_,_,.cons n t h=>by rw[ck];exact Paired.cons (show RelV (V.int n) (Value.int n t) from⟨t,rfl⟩) (RR h)
def b'.HV (r:b' [V.ref a] us):us=[Value.ref a]:=by
 cases r with
 |cons r t=>cases t;cases r;rfl
mutual
inductive hU (K:PySem.W.Frag)(H:ah):V->PyData->Prop
 |b1:hU K H .b1 .none
 |bL (b:Bool):hU K H (.bL b) (.bool b)
 |int (i:Int):hU K H (.int i) (.int i)
 |str (x:Str):hU K H (.str x) (.str x)
 |lst {a:U} {xs:List V} {ds:List PyData}:bA K H a xs->qj K H xs ds->hU K H (.ref a) (.list ds)
 |tup {a:U} {xs:List V} {ds:List PyData}:c5 K H a xs->qj K H xs ds->hU K H (.ref a) (.tuple ds)
inductive qj (K:PySem.W.Frag)(H:ah):List V->List PyData->Prop
 |nil:qj K H [] []
 |cons {v:V} {vs:List V} {d:PyData} {ds:List PyData}:hU K H v d->qj K H vs ds->qj K H (v::vs) (d::ds)
end
mutual
theorem hU.reads (J:Inv X pins σ H s):∀(d:PyData) (v:V) (u:af),hU X.K H v d->RelV v u->∃as,Reads s.heap u d as
 |.none,_,_,h,r=>by cases h;cases r;exact⟨_,Reads.none⟩
 |.bool b,_,_,h,r=>by cases h;cases r;exact⟨_,Reads.bool b⟩
 |.int i,_,_,h,r=>by cases h;obtain⟨t,rfl⟩:=r;exact⟨_,Reads.int i t⟩
 |.str x,_,_,h,r=>by cases h;obtain⟨t,rfl⟩:=r;exact⟨_,Reads.str x t⟩
 |.list ds,_,_,h,r=>by
  cases h with
  |lst aD al=>cases r;obtain⟨a3,cy,⟨o,n,aI,ai,_,hd⟩,_⟩:=J.list aD;obtain⟨as,au⟩:=hU.readsAll J ds _ a3 al cy;exact⟨_,Reads.list aI ai hd au⟩
 |.tuple ds,_,_,h,r=>by
  cases h with
  |tup aD al=>cases r;obtain⟨a3,cy,⟨o,aI,ai,n,hd⟩,_⟩:=J.tuple aD;obtain⟨as,au⟩:=hU.readsAll J ds _ a3 al cy;exact⟨_,Reads.tuple aI ai hd au⟩
 |.dict _,_,_,h,_=>by cases h
theorem hU.readsAll (J:Inv X pins σ H s):∀(ds:List PyData) (vs:List V) (us:List af),qj X.K H vs ds->b' vs us->∃as,ReadsAll s.heap us ds as
 |[],_,_,h,r=>by cases h;cases r;exact⟨_,ReadsAll.nil⟩
 |d::ds,_,_,h,r=>by
  cases h with
  |cons aa ac=>
   cases r with
   |cons cj dB=>obtain⟨as,aX⟩:=hU.reads J d _ _ aa cj;obtain⟨bs,bt⟩:=hU.readsAll J ds _ _ ac dB;exact⟨_,ReadsAll.cons aX bt⟩
end
inductive adp(K:PySem.W.Frag)(x:V)(y:V)(H:ah)(Q:cM):Prop|i(d)(e)(_:hU K H x d)(_:hU K H y e)(_:SeqAt.shaped d=true)(_:SeqAt.shaped e=true)(_:Q (.bL (!eqv d e)) H)
def acu (aW:X.A.units+64 < cLine):hF X (compareOp .NotEq) (adp X.K):=by intro pins s σ H x y v u Q J bG bB h;obtain⟨d,e,hd,he,aee,aeg,q⟩:=h;obtain⟨as,cj⟩:=hU.reads J d x v hd bG;obtain⟨bs,dB⟩:=hU.reads J e y u he bB;exact SeqAt.compareNe_shaped cj dB aee aeg aW ⟨.bL _,H,J,rfl,q⟩
abbrev Jq (h:a5)(c:U)(v:Option af):Prop:=h.IsCell c v
def adx (scope sc:Scope):Scope:=
 {scope with names:=scope.names.map λ(n,k)=>if(k==.free&&sc.kind==.function&&sc.names.lookup n==some .cell) then(n,.cell) else(n,k)}
def iq (cells:List (Str×U)):List (Str×NameKind)->List (Str×U)->List (Str×U)
 |[],acc=>acc
 |(n,k)::r,acc=>if k==.free then iq cells r ((n,(cells.lookup n).getD 0)::acc) else iq cells r acc
theorem K2 (env:Env)(f:Str×NameKind->List (Str×U)->Sem (ForInStep (List (Str×U))))
  (hf:∀n k c,f (n,k) c=if k==.free then(do let a <-cellOf env n;pure (.yield ((n,a)::c))) else pure (.yield c)):
  ∀(names:List (Str×NameKind)) (acc:List (Str×U)),(∀y∈names,y.2=.free->∃c,env.cells.lookup y.1=some c)->forIn names acc f=pure (iq env.cells names acc)
 |[],acc,_=>by rw[p9];rfl
 |(n,k)::r,acc,h=>by
  rw[kO,hf];have bE:=λacc=>K2 env f hf r acc λy bk=>h y (d7 _ bk);unfold iq;by_cases aw:(k==NameKind.free)=true
  ·rw[aV aw,aV aw];obtain⟨c,ai⟩:=h (n,k) dW (by simpa using aw);have e:cellOf env n=pure c:=by unfold cellOf;rw[ai]
   rw[e];have aL:(env.cells.lookup n).getD 0=c:=by rw[ai];rfl
   rw[aL];exact bE _
  ·rw[aN aw,aN aw];exact bE _
def UB (h:∀y∈scope.names,y.2=.free->∃c,env.cells.lookup y.1=some c):closureFor scope env=pure (iq env.cells scope.names []):=by simp only[closureFor];rw[K2 env _ (λn k c=>rfl) scope.names [] h];rfl
theorem mem_lookup:∀{l:List (Str×α)} {n:Str} {c:α},(n,c)∈l->∃b7,l.lookup n=some b7
 |(k,v)::r,n,c,h=>by
  rw[uR];cases I:n==k with
  |true=>exact⟨_,rfl⟩
  |false=>
   rcases cr.mp h with e|h
   ·cases e;simp at I
   ·exact mem_lookup h
theorem A1:∀{names:List (Str×NameKind)} {acc:List (Str×U)} {n:Str} {c:U},(n,c)∈iq cells names acc->(n,c)∈acc\/((n,.free)∈names/\c=(cells.lookup n).getD 0)
 |[],_,_,_,h=>.inl h
 |(m,k)::r,acc,n,c,h=>by
  unfold iq at h;split at h
  ·rename_i aw
   have aw:k=.free:=by simpa using aw
   rcases A1 h with h|⟨aa,ac⟩
   ·rcases cr.mp h with e|h
    ·cases e;exact .inr ⟨aw▸dW,rfl⟩
    ·exact .inl h
   ·exact .inr ⟨d7 _ aa,ac⟩
  ·rcases A1 h with h|⟨aa,ac⟩
   ·exact .inl h
   ·exact .inr ⟨d7 _ aa,ac⟩
theorem ER:∀{names:List (Str×NameKind)} {acc:List (Str×U)} {p:Str×U},p∈acc->p∈iq cells names acc
 |[],_,_,h=>h
 |(m,k)::r,acc,p,h=>by
  unfold iq;split
  ·exact ER (d7 _ h)
  ·exact ER h
theorem ES:∀{names:List (Str×NameKind)} {acc:List (Str×U)} {n:Str},(n,.free)∈names->(n,(cells.lookup n).getD 0)∈iq cells names acc
 |(m,k)::r,acc,n,h=>by
  unfold iq;rcases cr.mp h with e|h
  ·cases e;exact ER dW
  ·split
   ·exact ES h
   ·exact ES h
theorem xD:∀{names:List (Str×NameKind)} {h:a5} {acc:List (Str×U)} {x:Str} {c:U},(x,c)∈cellsFrom h.objs.size names acc->
  (x,c)∈acc\/((x,.cell)∈names/\h.objs.size<=c/\Jq (pushCells h names) c none)
 |[],_,_,_,_,h=>.inl h
 |(n,k)::r,h,acc,x,c,hm=>by
  unfold cellsFrom at hm;unfold pushCells;split at hm
  ·rename_i aw
   rw[aV aw];have aw:k=.cell:=by simpa using aw
   rw[<-jW h {cls:=.type "cell",data:=.cell none}] at hm;rcases xD hm with hm|⟨aa,ac,av⟩
   ·rcases cr.mp hm with e|hm
    ·cases e;exact .inr ⟨aw▸dW,b5 _,_,pushCells_keeps r _ _ _ (fM _ rfl),rfl⟩
    ·exact .inl hm
   ·rw[jW] at ac;exact .inr ⟨d7 _ aa,Nat.le_of_succ_le ac,av⟩
  ·rename_i aw
   rw[aN aw];rcases xD hm with hm|⟨aa,ac,av⟩
   ·exact .inl hm
   ·exact .inr ⟨d7 _ aa,ac,av⟩
theorem AY:∀{names:List (Str×NameKind)} {n:Nat} {acc:List (Str×U)} {p:Str×U},p∈acc->p∈cellsFrom n names acc
 |[],_,_,_,h=>h
 |(m,k)::r,n,acc,p,h=>by
  unfold cellsFrom;split
  ·exact AY (d7 _ h)
  ·exact AY h
theorem EO:∀{names:List (Str×NameKind)} {n:Nat} {acc:List (Str×U)} {x:Str},(x,.cell)∈names->∃c,(x,c)∈cellsFrom n names acc
 |(m,k)::r,n,acc,x,h=>by
  unfold cellsFrom;rcases cr.mp h with e|h
  ·cases e;exact⟨n,AY dW⟩
  ·split
   ·exact EO h
   ·exact EO h
theorem EP:∀{names:List (Str×NameKind)} {h:a5} {acc:List (Str×U)} {x y:Str} {c:U},(∀p∈acc,p.2 < h.objs.size)->(∀x y c,(x,c)∈acc->(y,c)∈acc->x=y)->
  (x,c)∈cellsFrom h.objs.size names acc->(y,c)∈cellsFrom h.objs.size names acc->x=y
 |[],_,_,_,_,_,_,aR,aa,ac=>aR _ _ _ aa ac
 |(n,k)::r,h,acc,x,y,c,aC,aR,aa,ac=>by
  unfold cellsFrom at aa ac;split at aa
  ·rename_i aw
   rw[aV aw] at ac;rw[<-jW h {cls:=.type "cell",data:=.cell none}] at aa ac;refine EP (h:=h.push _) (λp am=>?_) (λx y c a b=>?_) aa ac
   ·rw[jW];rcases cr.mp am with rfl|am
    ·exact p' _
    ·exact l_ (aC p am)
   ·rcases cr.mp a with e|a<;>rcases cr.mp b with bV|b
    ·cases e;cases bV;rfl
    ·cases e;exact absurd (aC _ b) (o2 _)
    ·cases bV;exact absurd (aC _ a) (o2 _)
    ·exact aR _ _ _ a b
  ·rename_i aw
   rw[aN aw] at ac;exact EP aC aR aa ac
def aa4 {M:Model}{A:cU}{E:af->ar->Prop}{s:ar}{scope:Scope}{globals:U}{closure:List (Str×U)}{qual:Str}{func:Option U}{code:af}{around:Env}{builtins:U}{Q:Env->ar->Prop}
  (h:Q (newEnv scope s.heap.objs.size globals (cellsFrom (s.heap.objs.size+1) scope.names closure) qual func code (some around) builtins)
   {s with heap:=pushCells (s.heap.push {cls:=.type "dict",data:=.dict #[]}) scope.names}):
  wpAny M A (newFunctionEnv scope globals closure [] qual func code (some around) builtins) Q E s:=by
 simp only[newFunctionEnv,Option.isSome_some,jY];refine aH (wpAny_alloc ?_);refine aH (wpAny_layCells _ (λn k c=>rfl) scope.names closure _ _ ?_);rw[show({s with heap:=s.heap.push {cls:=.type "dict",data:=.dict #[]}}:ar).heap.objs.size=s.heap.objs.size+1 from jW ..];rw[p9];exact aH (bp (bp h))
theorem GQ {sc:Scope}:∀{names:List (Str×NameKind)} {x:Str} {k:NameKind},
  (names.map λ(n,k)=>if(k==NameKind.free&&sc.kind==.function&&sc.names.lookup n==some .cell) then(n,NameKind.cell) else(n,k)).lookup x=some k->
  ∃b0,names.lookup x=some b0/\(k=b0\/(b0=.free/\k=.cell))
 |[],_,_,h=>by simp at h
 |(n,k₀)::r,x,k,h=>by
  have bE:=@GQ sc r x k;have h':List.lookup x ((if(k₀==NameKind.free&&sc.kind==.function&&sc.names.lookup n==some .cell)=true then(n,NameKind.cell) else(n,k₀))::(r.map _))=some k:=h;cases ao:x==n with
  |true=>
   simp only[uR,ao];by_cases ai:(k₀==NameKind.free&&sc.kind==.function&&sc.names.lookup n==some .cell)=true
   ·rw[aV ai] at h';simp only[uR,ao] at h';cases h';simp only[d6,jX] at ai;exact⟨k₀,rfl,.inr ⟨ai.1.1,rfl⟩⟩
   ·rw[aN ai] at h';simp only[uR,ao] at h';cases h';exact⟨_,rfl,.inl rfl⟩
  |false=>
   simp only[uR,ao];by_cases ai:(k₀==NameKind.free&&sc.kind==.function&&sc.names.lookup n==some .cell)=true
   ·rw[aV ai] at h';simp only[uR,ao] at h';exact bE h'
   ·rw[aN ai] at h';simp only[uR,ao] at h';exact bE h'
structure Ak (N:List Str)(sc scope:Scope)(own:List (Str×Nat)):Prop where
 kind:scope.kind=.function
 uniq:∀y∈scope.names,scope.names.lookup y.1=some y.2
 kC:∀p∈own,N[p.2]? =some p.1
 free:∀y∈scope.names,y.2=.free->sc.names.lookup y.1=some .cell\/sc.names.lookup y.1=some .free
 own:∀y∈scope.names,y.2=.local\/y.2=.cell->y.1∈own.map (·.1)\/y.1∉N
def hh (σ:St):List Nat->St
 |[]=>σ
 |v::vs=>(hh σ vs).set v none
theorem Jj (σ:St):∀vs:List Nat,(hh σ vs).length=σ.length
 |[]=>rfl
 |v::vs=>by unfold hh;rw[List.length_set,Jj σ vs]
theorem Jk {i:Nat}:∀{vs:List Nat},(hh σ vs)[i]? =some (some x)->σ[i]? =some (some x)/\i∉vs
 |[],h=>⟨h,by simp⟩
 |v::vs,h=>by
  unfold hh at h;by_cases aR:v=i
  ·subst aR;by_cases bx:v < (hh σ vs).length
   ·rw[wU bx] at h;cases h
   ·rw[Ae (by simpa using bx)] at h;cases h
  ·rw[getElem?_set_ne aR] at h;obtain⟨aa,ac⟩:=Jk h;exact⟨aa,by simp only[cr,hn];exact⟨λe=>aR e.symm,ac⟩⟩
abbrev bq.kr (X:bq)(s:ar)(H:ah)(scope:Scope)(f3:Env)(cw:List U):bq:={X with iF:=s,nR:=H,env:=f3,outer:=X.stack,ex:=cw,fn:=λx=>scope.names.lookup x==some .cell,cR:=[],cK:=λ_ _=>False}
def Ue {X:bq}{s:ar}{scope:Scope}{own:List (Str×Nat)}(J:Inv X pins σ H s)(ok:Ak X.N X.env.scope scope own)(c6:X.N.Nodup)(vx:∀b∈cw,nQ X pins H b/\b < s.heap.objs.size):
  Inv (X.kr s H scope (compEnvC scope (cellsFrom (s.heap.objs.size+1) scope.names (iq X.env.cells scope.names [])) s.heap.objs.size X.env) cw) [] (hh σ (own.map (·.2))) H {s with heap:=pushCells (s.heap.push {cls:=.type "dict",data:=.dict #[]}) scope.names}:=by
 have r8:∀y∈scope.names,y.2=.free->∃c,X.env.cells.lookup y.1=some c:=λy bk e=>by
  rcases ok.free y bk e with k|k
  ·exact J.ok.has _ (.inl k)
  ·exact J.ok.has _ (.inr k)
 generalize yB:compEnvC scope (cellsFrom (s.heap.objs.size+1) scope.names (iq X.env.cells scope.names [])) s.heap.objs.size X.env=f3;have bu:∀b o,s.heap.get? b=some o->(pushCells (s.heap.push {cls:=.type "dict",data:=.dict #[]}) scope.names).get? b=some o:=λb o e=>pushCells_keeps _ _ _ _ (dx _ e);have cT:f3.locals=s.heap.objs.size:=by rw[<-yB];rfl
 have dU:f3.cells=cellsFrom (s.heap.objs.size+1) scope.names (iq X.env.cells scope.names []):=by rw[<-yB];rfl
 have Gc:f3.scope=adx scope X.env.scope:=by rw[<-yB];rfl
 rw[<-jW s.heap {cls:=.type "dict",data:=.dict #[]}] at dU;have xG:∀{y c},(y,c)∈iq X.env.cells scope.names []->X.env.cells.lookup y=some c/\c < s.heap.objs.size:=λ{y c} hm=>by
  rcases A1 hm with hm|⟨aa,rfl⟩
  ·cases hm
  ·obtain⟨c,ai⟩:=r8 _ aa rfl;rw[ai];obtain⟨w,z⟩:=J.cell _ _ ai;exact⟨rfl,z.lt⟩
 have mem:∀{y c},f3.cells.lookup y=some c->(X.env.cells.lookup y=some c/\c < s.heap.objs.size)\/(s.heap.objs.size+1<=c/\Jq (pushCells (s.heap.push {cls:=.type "dict",data:=.dict #[]}) scope.names) c none):=λ{y c} e=>by
  rw[dU] at e;rcases xD (ly e) with hm|⟨_,ac,av⟩
  ·exact .inl (xG hm)
  ·rw[jW] at ac;exact .inr ⟨ac,av⟩
 have look:∀{y},scope.names.lookup y=some .free->∃c,f3.cells.lookup y=some c/\X.env.cells.lookup y=some c:=λ{y} aC=>by
  have bk:(y,NameKind.free)∈scope.names:=ly aC;obtain⟨b7,bV⟩:=mem_lookup (AY (names:=scope.names) (n:=(s.heap.push {cls:=.type "dict",data:=.dict #[]}).objs.size) (ES (cells:=X.env.cells) (acc:=[]) bk));rw[<-dU] at bV;refine⟨b7,bV,?_⟩;rw[dU] at bV;rcases xD (ly bV) with hm|⟨aa,_,_⟩
  ·exact(xG hm).1
  ·have:=ok.uniq _ aa;rw[aC] at this;cases this
 have abF:(X.kr s H scope f3 cw).Ok:=by
  refine⟨J.ok.mod,by show f3.scope.kind=_;rw[Gc];exact ok.kind,by show f3.globals=_;rw[<-yB];exact J.ok.glob,by show f3.builtins=_;rw[<-yB];exact J.ok.blt,by show s.heap.objs.size<=f3.locals;rw[cT];exact b5 _,
   λy z c aE aL=>?_,λy bk=>?_,λy c z e=>?_,J.ok.hd,J.ok.frames,.inl rfl,λb I=>⟨?_,λy c e z=>?_⟩,J.bs,gC J.ok.nf J.kg,λb o e I=>?_,λb I z=>?_,J.stack,J.wC⟩
  ·have aE:f3.cells.lookup y=some c:=aE;have aL:f3.cells.lookup z=some c:=aL;rw[dU] at aE aL;refine EP (λp am=>?_) (λy z c a b=>J.ok.inj y z c (xG a).1 (xG b).1) (ly aE) (ly aL);rw[jW];exact l_ (xG (y:=p.1) (c:=p.2) am).2
  ·show ∃c,f3.cells.lookup y=some c;have key:∀k,f3.kindOf y=some k->(k=.cell\/k=.free)->∃c,f3.cells.lookup y=some c:=λk aw vB=>by
    unfold Env.kindOf at aw;rw[Gc] at aw;obtain⟨b0,e,r⟩:=GQ aw;have:b0=.cell\/b0=.free:=by
     rcases r with rfl|⟨rfl,_⟩
     ·exact vB
     ·exact .inr rfl
    rcases this with rfl|rfl
    ·obtain⟨c,hm⟩:=EO (n:=(s.heap.push {cls:=.type "dict",data:=.dict #[]}).objs.size) (acc:=iq X.env.cells scope.names []) (ly e);obtain⟨b7,bV⟩:=mem_lookup hm;exact⟨b7,by rw[dU];exact bV⟩
    ·obtain⟨c,aa,_⟩:=look e;exact⟨c,aa⟩
   rcases bk with bk|bk
   ·exact key _ bk (.inl rfl)
   ·exact key _ bk (.inr rfl)
  ·have z:(scope.names.lookup y==some NameKind.cell)=true:=z;have z:scope.names.lookup y=some .cell:=by simpa using z
   have e:f3.cells.lookup y=some c:=e;rw[dU] at e;rcases xD (ly e) with hm|⟨_,ac,_⟩
   ·rcases A1 hm with hm|⟨aa,_⟩
    ·cases hm
    ·have q:=ok.uniq _ aa;rw[z] at q;cases q
   ·rw[jW] at ac;exact Nat.le_of_succ_le ac
  ·show b≠f3.locals;rw[cT];exact e8 (vx b I).2
  ·have e:f3.cells.lookup y=some c:=e;rcases mem e with⟨aa,_⟩|⟨aa,_⟩
   ·exact(vx b I).1.2.2.2.2.1 y c aa z
   ·have ac:s.heap.objs.size+1<=b:=by rw[<-z];exact aa
    exact absurd (hl (vx b I).2 (Nat.le_of_succ_le ac)) (o2 _)
  ·rcases(vx b I).1.2.2.2.1 with z|z
   ·exact J.ok.sB b o e z
   ·exact absurd (hl (dc e) (gC J.ok.nf z)) (o2 _)
  ·rcases cr.mp (J.IT b z) with z|z
   ·exact(vx b I).1.2.1 z
   ·exact(vx b I).1.2.2.1 z
 refine⟨abF,rfl,J.bare,g9.kept bu,⟨λ_=>none,?_,λi y T1 aE aL bI=>?_⟩,λy c e=>?_,?_,λy c e=>?_,λp am=>?_,J.ba.kept bu,by rw[Jj];exact J.len⟩
 ·show Heap.Ns _ f3.locals _;rw[cT];exact Heap.Ns.keeps (Heap.Ns.new ..) λb o e=>pushCells_keeps _ _ _ _ e
 ·obtain⟨aL,b9⟩:=Jk aL;have vy:scope.names.lookup y=some .free/\(f3.kindOf y=some .cell\/f3.kindOf y=some .free):=by
   have key:∀k,f3.scope.names.lookup y=some k->k=.local\/k=.cell\/k=.free->scope.names.lookup y=some .free/\(f3.kindOf y=some .cell\/f3.kindOf y=some .free):=λk aw vB=>by
    have FU:=aw;rw[Gc] at aw;obtain⟨b0,e,r⟩:=GQ aw;have no:¬(b0=.local\/b0=.cell):=λdz=>by
     rcases ok.own _ (ly e) dz with bV|bV
     ·obtain⟨p,am,YK⟩:=dp.mp bV;have bI:=ok.kC p am;have:p.1=y:=YK;rw[this] at bI;exact b9 (dp.mpr ⟨p,am,Hl c6 bI aE⟩)
     ·exact bV (l9 aE)
    rcases r with rfl|⟨rfl,rfl⟩
    ·rcases vB with rfl|rfl|rfl
     ·exact absurd (.inl rfl) no
     ·exact absurd (.inr rfl) no
     ·exact⟨e,.inr FU⟩
    ·exact⟨e,.inl FU⟩
   have bI:u' f3.scope y:=bI;rcases bI with bI|bI|bI
   ·exact key _ bI (.inl rfl)
   ·exact key _ bI (.inr (.inl rfl))
   ·exact key _ bI (.inr (.inr rfl))
  obtain⟨m,ak,aC⟩:=J.loc;have Y':u' X.env.scope y:=(ok.free _ (ly vy.1) rfl).elim (λk=>.inr (.inl k)) (λk=>.inr (.inr k));obtain⟨w,r,q⟩:=aC i y T1 aE aL Y';refine⟨w,r,.inr ⟨vy.2,?_⟩⟩;obtain⟨c,aa,ac⟩:=look vy.1;rcases q with⟨k,_⟩|⟨_,b7,bV,z⟩
  ·have k:X.env.scope.names.lookup y=some .local:=k;rcases ok.free _ (ly vy.1) rfl with b0|b0<;>rw[show X.env.scope.names.lookup y=_ from b0] at k<;>cases k
  ·rw[ac] at bV;cases bV;exact⟨c,aa,z.keeps bu⟩
 ·have e:f3.cells.lookup y=some c:=e;rcases mem e with⟨aa,_⟩|⟨_,z⟩
  ·obtain⟨w,z⟩:=J.cell y c aa;exact⟨w,z.keeps bu⟩
  ·exact⟨_,z⟩
 ·show H f3.locals=none;rw[cT];exact J.ba.fresh (b5 _)
 ·have e:f3.cells.lookup y=some c:=e;rcases mem e with⟨aa,_⟩|⟨aa,_⟩
  ·exact J.jq y c aa
  ·exact J.ba.fresh (Nat.le_of_succ_le aa)
 ·exact absurd (show p∈([]:List (U×Obj))++[] from am) (by simp)
def TR (J:Inv X pins σ H s)(fw:H D=some (.lst xs))(hz:xs.length < sizeLine)(r:RelV y v)
  (h:∀s',Inv X pins σ (upd H D (.lst (xs++[y]))) s'->Q .none s'):wpAny (model X.prog X.w) X.A (call (.builtin "list.append") [.ref D,v]) Q E s:=by
 obtain⟨vM,a3,n,wn,e⟩:=J.ba D _ fw;have aC:=wn.length;refine append_at (hsz:=by rw[fL];omega) e λh' dM lR=>?_;refine h {s with heap:=h'} (J.write (t':=s.toks) (by rw[fw];trivial) (.inl rfl) (λb u I q=>(dM.2 b I).trans q) ⟨_,lR⟩ ⟨by rw[dC];exact hz,a3++[v],n+1,wn.append (.cons r .nil),?_⟩);rw[lR];simp
def Ee (X:bq)(ifs:List Expr)(t:TT):Prop:=
 ∀(pins:List (U×Obj)) (s:ar) (σ:St) (H:ah) (Q:Bool->ah->Prop),Inv X pins σ H s->t σ H Q->
  wpAny (model X.prog X.w) X.A (forIn ifs true λc r=>if r=true then do let ok <-isTrue c X.env (eval c X.env);pure (ForInStep.yield ok) else pure (ForInStep.yield r)) (Eo X pins σ Q) X.cK s
def HO (h:fZ X c t):Ee X [c] t:=λpins s σ H Q J hw=>wpAny_tests_one (h pins s σ H Q J hw)
def wI (h:wpAny M A t Q (λ_ _=>False) s)(eV:∀a s,Q a s->jM a s):wpAny M A t jM E s:=je h eV λ_ _ z=>False.elim z
def UE (J:Nat->ar->Prop)
  (turn:∀n s,J n s->wpAny (model prog w) A (pyNext it) (λr s₁=>match r with
   |none=>R (.ok .next) s₁
   |some v=>wpAny (model prog w) A (letOwnedTupleGo target it v) (λ_ s₁'=>wpAny (model prog w) A (assign target env v) (λ_ s₂=>
     wpAny (model prog w) A (forIn ifs true λc r=>if r=true then do let ok <-isTrue c env (eval c env);pure (ForInStep.yield ok) else pure (ForInStep.yield r)) (λok s₃=>
      if ok=true then wpAny (model prog w) A (eval elt env) (λx s₄=>
       wpAny (model prog w) A (call (.builtin "list.append") [acc,x]) (λ_ s₅=>∃m,m < n/\J m s₅) (notedBy (model prog w) A env λe s'=>R (.error e) s') s₄) (notedBy (model prog w) A env λe s'=>R (.error e) s') s₃
      else ∃m,m < n/\J m s₃) (notedBy (model prog w) A env λe s'=>R (.error e) s') s₂) (notedBy (model prog w) A env λe s'=>R (.error e) s') s₁') (notedBy (model prog w) A env λe s'=>R (.error e) s') s₁) (notedBy (model prog w) A env λe s'=>R (.error e) s') s)
  (n:Nat) (h:J n s):
  codeAny (model prog w) A (.compLoop (.ListComp elt [⟨target,iter,ifs,0⟩] scope pos) 0 it acc env) R s:=by
 refine codeAny_loop rfl J (λn s iy=>?_) n h;show wpAny _ A ((compTurn (.ListComp elt [⟨target,iter,ifs,0⟩] scope pos) 0 it acc env).onRaise (λx=>do noteFrame x env;theTreesLotGoes x)) _ _ s;refine wpAny_noted ?_;rw[compTurn_list];refine aH (wpAny_standAt (aH (je (turn n s iy) (λr s₁ h₁=>?_) λ_ _ h'=>h')));cases r with
 |none=>exact bp h₁
 |some v=>
  refine aH (je h₁ (λ_ s₁' h₁'=>?_) λ_ _ h'=>h');refine aH (je h₁' (λ_ s₂ h₂=>aH (je h₂ (λok s₃ h₃=>?_) λ_ _ h'=>h')) λ_ _ h'=>h');cases ok with
  |false=>exact bp ⟨rfl,h₃⟩
  |true=>exact aH (aH (je h₃ (λx s₄ h₄=>aH (je h₄ (λ_ s₅ h₅=>bp (bp ⟨rfl,h₅⟩)) λ_ _ h'=>h')) λ_ _ h'=>h'))
def Rs (kl:TI)(g:iS)(tt:TT)(te:TE)(vs:List Nat):TE:=λσ H Q=>kl σ H λez H1=>∀D,H1 D=none->∃W:Nat->Nat->ah->Prop,(∃m,W 0 m (upd H1 D (.lst [])))/\∀i m H,W i m H->
 (ez.stop i H/\Q (.ref D) H)\/(ez.go i H/\∃md:ah->Prop,(∀ab,md ab->∃cQ,cQ < m/\W (i+1) cQ ab)/\∀x ab,ez.p6 i H x ab->g x (hh σ vs) ab λσ2 ap=>hh σ2 vs=hh σ vs/\tt σ2 ap λb bz=>
  if b=true then te σ2 bz λy c4=>∃acc,c4 D=some (.lst acc)/\acc.length < sizeLine/\md (upd c4 D (.lst (acc++[y]))) else md bz)
def Z2 {X:bq}{own:List (Str×Nat)}{use:Option (af->Sem Unit)}{AK:af->ar->Prop}
  (ai:X.calm=true) (c6:X.N.Nodup) (J:Inv X pins σ H s) (aR:qo X dE iter kl) (ok:Ak X.N X.env.scope scope own)
  (bK:∀(s:ar) (H:ah) (C:U) (cl:List (Str×U)) (cw:List U),g5 (X.kr s H scope (compEnvC scope cl C X.env) cw) dE g) (bY:∀(s:ar) (H:ah) (C:U) (cl:List (Str×U)) (cw:List U),Ee (X.kr s H scope (compEnvC scope cl C X.env) cw) ifs tt)
  (he:∀(s:ar) (H:ah) (C:U) (cl:List (Str×U)) (cw:List U),bl (X.kr s H scope (compEnvC scope cl C X.env) cw) elt te) (aD:∀x,foldedSetIterable iter X.env x=pure x)
  (h:Rs kl g tt te (own.map (·.2)) σ H Q)
  (Xw:∀D C s' m ab,Inv X pins σ ab s'->Q (.ref D) ab->s'.heap.Ns C m->nQ X pins ab C->compPost (model X.prog X.w) X.A X.cK use AK (.ref D) C (.ok .next) s'):
  wpAny (model X.prog X.w) X.A (comprehension (.ListComp elt [⟨dE,iter,ifs,0⟩] scope pos) scope X.env pos' (newList []) false (eval iter X.env) use) AK X.cK s:=by
 have r8:∀y∈scope.names,y.2=.free->∃c,X.env.cells.lookup y.1=some c:=λy bk e=>by
  rcases ok.free y bk e with k|k
  ·exact J.ok.has _ (.inl k)
  ·exact J.ok.has _ (.inr k)
 refine wpAny_comprehension_free (use:=use) rfl aD (UB r8) ok.kind (λy bk e=>by rw[ok.uniq y bk,e])
  (bN (aR pins s σ H _ J h) λaf3 s1 ao=>bN ao λGx s2 ac=>?_)
 obtain⟨it,cw,ie,ez,ap,e,bP,T,Dn,f2,q⟩:=ac;subst e;refine td (aa4 ?_) (by show 0<=sizeLine;decide);generalize fw:s2.heap.objs.size=D;have Xf:ap D=none:=bP.ba.fresh (le_of_eq fw);obtain⟨W,⟨m0,l6⟩,turn⟩:=q D Xf;generalize N2:({s2 with heap:=s2.heap.push {cls:=.type "list",data:=.seq ([]:List af).toArray}}:ar)=s3;have dv:Inv X pins σ (upd ap D (.lst [])) s3:=by rw[<-N2];refine bP.laid (t':=s2.toks) (λb o e=>dx _ e) (le_of_eq fw) ⟨eY _,[],0,.nil,?_⟩;rw[<-fw];exact fM _ rfl
 have av:s3.heap=s2.heap.push {cls:=.type "list",data:=.seq ([]:List af).toArray}:=by rw[<-N2]
 have kg:∀b∈cw,b < s2.heap.objs.size:=λb I=>by obtain⟨o,e,_⟩:=T.obj _ _ Dn b I;exact dc e
 have d8:∀b∈cw,nQ X pins (upd ap D (.lst [])) b/\b < s3.heap.objs.size:=λb I=>by have cO:=kg b I;refine⟨⟨?_,(f2 b I).2⟩,by rw[av,jW];exact l_ cO⟩;rw[aj (by rw[<-fw];exact e8 cO)];exact(f2 b I).1
 have lq:ie 0 s3.heap:=T.keep _ _ _ Dn λb _ o e=>by rw[av];exact dx _ e
 have hX:=Ue dv ok c6 d8;have zw:=bK s3 (upd ap D (.lst [])) s3.heap.objs.size (cellsFrom (s3.heap.objs.size+1) scope.names (iq X.env.cells scope.names [])) cw;have pt:=bY s3 (upd ap D (.lst [])) s3.heap.objs.size (cellsFrom (s3.heap.objs.size+1) scope.names (iq X.env.cells scope.names [])) cw;have HC:=he s3 (upd ap D (.lst [])) s3.heap.objs.size (cellsFrom (s3.heap.objs.size+1) scope.names (iq X.env.cells scope.names [])) cw;show codeAny _ _ (.compStart (.ListComp elt [⟨dE,iter,ifs,0⟩] scope pos) 0 (.ref it) (.ref D) (compEnvC scope (cellsFrom (s3.heap.objs.size+1) scope.names (iq X.env.cells scope.names [])) s3.heap.objs.size X.env)) (compPost (model X.prog X.w) X.A X.cK use AK (.ref D) s3.heap.objs.size) {s3 with heap:=pushCells (s3.heap.push {cls:=.type "dict",data:=.dict #[]}) scope.names};have Pp:∀b∈cw,(upd ap D (.lst [])) b=none:=λb I=>(d8 b I).1.1;generalize XN:compEnvC scope (cellsFrom (s3.heap.objs.size+1) scope.names (iq X.env.cells scope.names [])) s3.heap.objs.size X.env=ce at hX zw pt HC ⊢;have KQ:ce.locals=s3.heap.objs.size:=by subst XN;rfl
 generalize qI:upd ap D (.lst [])=bz at dv hX zw pt HC l6 Pp d8;generalize Y0:({s3 with heap:=pushCells (s3.heap.push {cls:=.type "dict",data:=.dict #[]}) scope.names}:ar)=s4 at hX ⊢;have Ri:ie 0 s4.heap:=T.keep _ _ _ lq λb _ o e=>by rw[<-Y0];exact pushCells_keeps _ _ _ _ (dx _ e)
 have uG:∀{σ':St} {ab:ah} {s':ar},Inv (X.kr s3 bz scope ce cw) [] σ' ab s'->(∀b∈cw,ab b=none)->∀b∈cw,nQ (X.kr s3 bz scope ce cw) [] ab b:=λ{σ' ab s'} jK ak b I=>
  ⟨ak b I,(jK.ok.tG b I).1,jK.ok.rT b I,.inl I,λx c e=>(jK.ok.tG b I).2 x c e,λp am=>absurd (show p∈([]:List (U×Obj))++[] from am) (by simp)⟩
 have mF:codeAny (model X.prog X.w) X.A (.compLoop (.ListComp elt [⟨dE,iter,ifs,0⟩] scope pos) 0 (.ref it) (.ref D) ce) (compPost (model X.prog X.w) X.A X.cK use AK (.ref D) s3.heap.objs.size) s4:=by
  refine UE (λn s'=>∃i ab,Inv (X.kr s3 bz scope ce cw) [] (hh σ (own.map (·.2))) ab s'/\ie i s'.heap/\(∀b∈cw,ab b=none)/\W i n ab) ?_ m0 ⟨0,bz,hX,Ri,Pp,l6⟩;rintro n s5 ⟨i,gi,j1,wz,G5,Jd⟩;rcases turn i n gi Jd with⟨stop,adc⟩|⟨go,md,Xt,step⟩
  ·have eu:=T.done (X.kr s3 bz scope ce cw) rfl rfl rfl ai i [] s5 _ gi (λ_ _=>False) j1 (uG j1 G5) wz stop;refine wI eu λr i6 ⟨au,nS⟩=>?_;subst au;have ho:Inv X pins σ gi i6:=dv.tz (ch:=cw) nS.os nS.base nS.ba nS.bare λb I=>⟨(d8 b I).1.2.2.2.1,(d8 b I).1.2.1,(d8 b I).1.2.2.2.2.1,(d8 b I).1.2.2.2.2.2⟩;have aaY:gi s3.heap.objs.size=none:=by have z:gi ce.locals=none:=nS.free;rw[KQ] at z;exact z
   obtain⟨m,ak,_⟩:=nS.loc;have ak:i6.heap.Ns ce.locals m:=ak;rw[KQ] at ak;exact Xw D s3.heap.objs.size i6 m gi ho adc ak (dv.xZ (b5 _) aaY)
  ·have kj:=T.item (X.kr s3 bz scope ce cw) rfl rfl rfl ai i [] s5 _ gi (λ_ _=>False) j1 (uG j1 G5) wz go;refine wI kj λr i6 ⟨u,au,gQ⟩=>?_;subst au;refine wI gQ λ_ jT ⟨x,j0,ho,zF,af5,IS,uc⟩=>?_;have S4:=ho.pinned (uG ho uc) (T.obj _ _ IS);refine wI (zw _ jT _ j0 x u _ S4 zF (step x j0 af5)) λ_ H7 ⟨σ8,As,S5,N_,adb⟩=>?_;refine wI (pt _ H7 σ8 As _ S5 adb) λb H8 ⟨m5,JQ,CF⟩=>?_;have fin:∀{s':ar} {ab:ah},Inv (X.kr s3 bz scope ce cw) ([]++zx cw jT.heap) σ8 ab s'->md ab->∃m,m < n/\∃i ab,Inv (X.kr s3 bz scope ce cw) [] (hh σ (own.map (·.2))) ab s'/\ie i s'.heap/\(∀b∈cw,ab b=none)/\W i m ab:=λ{s' ab} jK cG=>by
    obtain⟨cQ,hm,eF⟩:=Xt ab cG;have Qa:∀b∈cw,∀o,jT.heap.get? b=some o->s'.heap.get? b=some o/\ab b=none:=λb I o e=>
     let z:=jK.pin (b,o) (o0 _ (o0 _ (G1 I e)))
     ⟨z.1,z.2.1⟩
    have aC:(hh σ (own.map (·.2))).length=σ8.length:=by rw[<-N_,Jj]
    refine⟨cQ,hm,i+1,ab,(jK.Dz (pins:=[])).weak aC (λj v e=>?_),T.keep _ _ _ IS λb I o e=>(Qa b I o e).1,λb I=>?_,eF⟩
    ·rw[<-N_] at e;exact(Jk e).1
    ·obtain⟨o,e,_⟩:=T.obj _ _ IS b I;exact(Qa b I o e).2
   cases b with
   |false=>simp only[gK,fX] at CF ⊢;exact fin JQ CF
   |true=>simp only[jY] at CF ⊢;refine wI (HC _ H8 σ8 m5 _ JQ CF) λz ahc ⟨ahj,agd,S1,ade,acc,Xe,Zl,cG⟩=>?_;exact TR (X:=X.kr s3 bz scope ce cw) S1 Xe Zl ade λahd S2=>fin S2 cG
 exact codeAny_compStart_list mF (T.self X.A 0 _ _ _ Ri mF)
def HD (ai:X.calm=true)(c6:X.N.Nodup)(aR:qo X dE iter kl)(ok:Ak X.N X.env.scope scope own)
  (bK:∀(s:ar) (H:ah) (C:U) (cl:List (Str×U)) (cw:List U),g5 (X.kr s H scope (compEnvC scope cl C X.env) cw) dE g) (bY:∀(s:ar) (H:ah) (C:U) (cl:List (Str×U)) (cw:List U),Ee (X.kr s H scope (compEnvC scope cl C X.env) cw) ifs tt)
  (he:∀(s:ar) (H:ah) (C:U) (cl:List (Str×U)) (cw:List U),bl (X.kr s H scope (compEnvC scope cl C X.env) cw) elt te) (aD:∀x,foldedSetIterable iter X.env x=pure x:=by intro _;rfl):
  bl X (.ListComp elt [⟨dE,iter,ifs,0⟩] scope pos) (Rs kl g tt te (own.map (·.2))):=by
 intro pins s σ H Q J h;rw[eval_ListComp];refine Z2 ai c6 J aR ok bK bY he aD h λD C s' m ab jK q ak f=>⟨m,ak,λr3 dM=>?_⟩;obtain⟨f0,f1,f2,d8,f4,eU⟩:=f;exact⟨.ref D,ab,jK.turned (t':=s'.toks) (λb o I e=>(dM.2 b I).trans e) f0 f1 d8 f4 eU,rfl,q⟩
def OF {K:PySem.W.Frag}{a:U}{xs:List V}{g:iS}{tt:TT}{te:TE}{vs:List Nat}{σ:St}{H1:ah}{D:U}{xn:ah->Prop}(Pv:Nat->ah->Prop)(h0:Pv 0 (upd H1 D (.lst [])))(aC:∀i H,i<=xs.length->Pv i H->bA K H a xs)
  (aD:∀i x H,xs[i]? =some x->Pv i H->g x (hh σ vs) H λσ2 ap=>hh σ2 vs=hh σ vs/\tt σ2 ap λb bz=>
   if b=true then te σ2 bz λy c4=>∃acc,c4 D=some (.lst acc)/\acc.length < sizeLine/\Pv (i+1) (upd c4 D (.lst (acc++[y]))) else Pv (i+1) bz) (hd:∀H,Pv xs.length H->xn H):
  ∃W:Nat->Nat->ah->Prop,(∃m,W 0 m (upd H1 D (.lst [])))/\∀i m H,W i m H->
   ((rD K a).stop i H/\xn H)\/((rD K a).go i H/\∃md:ah->Prop,(∀ab,md ab->∃cQ,cQ < m/\W (i+1) cQ ab)/\∀x ab,(rD K a).p6 i H x ab->g x (hh σ vs) ab λσ2 ap=>hh σ2 vs=hh σ vs/\tt σ2 ap λb bz=>
    if b=true then te σ2 bz λy c4=>∃acc,c4 D=some (.lst acc)/\acc.length < sizeLine/\md (upd c4 D (.lst (acc++[y]))) else md bz):=by
 refine⟨λi m H=>m=xs.length - i/\i<=xs.length/\Pv i H,⟨xs.length,by simp,eY _,h0⟩,?_⟩;rintro i m H ⟨rfl,aR,p⟩;have q:=aC i H aR p;by_cases cO:i < xs.length
 ·refine .inr ⟨⟨xs,xs[i],q,by simp[cO]⟩,Pv (i+1),λab ef=>⟨xs.length - (i+1),by omega,rfl,cO,ef⟩,λx ab y=>?_⟩;obtain⟨e,y⟩:=y;subst e;exact aD i x _ (y xs q) p
 ·have e:i=xs.length:=by omega
  subst e;exact .inl ⟨⟨xs,q,b5 _⟩,hd H p⟩
def xA (N:List Str)(sc scope:Scope)(own:List (Str×Nat)):Bool:=
 (match scope.kind with|.function=>true|_=>false)&&(scope.names.all λy=>decide (scope.names.lookup y.1=some y.2))&&(own.all λp=>decide (N[p.2]? =some p.1))&&
  (scope.names.all λy=>match y.2 with
   |.free=>(match sc.names.lookup y.1 with|some .cell=>true|some .free=>true|_=>false)
   |.local=>decide (y.1∈own.map (·.1))||decide (y.1∉N)
   |.cell=>decide (y.1∈own.map (·.1))||decide (y.1∉N)
   |_=>true)
def EH (h:xA N sc scope own=true):Ak N sc scope own:=by
 unfold xA at h;simp only[d6,sY,mb] at h;obtain⟨⟨⟨aa,ac⟩,av⟩,bn⟩:=h;refine⟨?_,ac,av,λy bk e=>?_,λy bk e=>?_⟩
 ·split at aa
  ·assumption
  ·cases aa
 ·have q:=bn y bk;simp only[e] at q;split at q<;>first|exact .inl (by assumption)|exact .inr (by assumption)|cases q
 ·have q:=bn y bk;rcases e with e|e<;>(simp only[e,uN,mb] at q;exact q)
section
variable {κ:Type}[DecidableEq κ]
def ei (kvs:List (κ×V))(k:κ):Option V:=(kvs.find? λbJ=>decide (bJ.1=k)).map (·.2)
def fs (kvs:List (κ×V))(k:κ)(v:V):List (κ×V):=
 if(kvs.any λbJ=>decide (bJ.1=k))=true then kvs.map (λbJ=>if bJ.1=k then(bJ.1,v) else bJ) else kvs++[(k,v)]
def pn (kvs:List (κ×V))(k:κ):List (κ×V):=kvs.filter λbJ=>decide (bJ.1≠k)
def l5 {p:κ×V}{r:List (κ×V)}{k:κ}(e:p.1=k):ei (p::r) k=some p.2:=by simp[ei,i',e]
def jH {p:κ×V}{r:List (κ×V)}{k:κ}(e:¬p.1=k):ei (p::r) k=ei r k:=by simp[ei,i',e]
theorem z7 (k:κ):∀kvs:List (κ×V),(kvs.any λbJ=>decide (bJ.1=k))=(ei kvs k).isSome
 |[]=>rfl
 |p::r=>by
  rw[wO];by_cases e:p.1=k
  ·simp only[l5 e,ej e,Bool.true_or,Option.isSome_some]
  ·rw[jH e,cW e,Bool.false_or];exact z7 k r
def BY (kvs:List (κ×V))(k:κ)(v:V):(fs kvs k v).length<=kvs.length+1:=by
 unfold fs;split
 ·rw[cc];omega
 ·rw[dC,fK,wW];omega
def g7.vN (r:g7 o u):o.isSome=u.isSome:=by
 cases o with
 |none=>cases u with
  |none=>rfl
  |some _=>exact(show False from r).elim
 |some _=>cases u with
  |none=>exact(show False from r).elim
  |some _=>rfl
def g7.getD (r:g7 o u)(ax:RelV d d'):RelV (o.getD d) (u.getD d'):=by
 cases o with
 |none=>cases u with
  |none=>exact ax
  |some _=>exact(show False from r).elim
 |some _=>cases u with
  |none=>exact(show False from r).elim
  |some _=>exact r
def fh.val (r:fh kvs vs)(k:κ):g7 (ei kvs k) (valueAt vs k):=by
 unfold fh at r
 induction r with
 |nil=>exact True.intro
 |@cons p q ps kI h t bE=>
  obtain⟨aa,ac⟩:=h;by_cases e:p.1=k
  ·have bV:q.1=k:=aa.symm.trans e;have b:valueAt (q::kI) k=some q.2:=by simp[valueAt,i',bV]
   rw[l5 e,b];exact ac
  ·have bV:¬q.1=k:=λz=>e (aa.trans z);have b:valueAt (q::kI) k=valueAt kI k:=by simp[valueAt,i',bV]
   rw[jH e,b];exact bE
def fh.any (r:fh kvs vs)(k:κ):(kvs.any λbJ=>decide (bJ.1=k))=vs.any λbJ=>decide (bJ.1=k):=by
 unfold fh at r
 induction r with
 |nil=>rfl
 |cons h t bE=>rw[wO,wO,bE,h.1]
def fh.HW (r:fh kvs vs)(k:κ)(bB:RelV y u):
  fh (kvs.map λbJ=>if bJ.1=k then(bJ.1,y) else bJ) (vs.map λbJ=>if bJ.1=k then(bJ.1,u) else bJ):=by
 unfold fh at r ⊢
 induction r with
 |nil=>exact .nil
 |@cons p q ps kI h t bE=>
  rw[ck,ck];refine .cons ?_ bE;obtain⟨aa,ac⟩:=h;by_cases e:p.1=k
  ·rw[aV e,aV (aa.symm.trans e)];exact⟨aa,bB⟩
  ·rw[aN e,aN (λz=>e (aa.trans z))];exact⟨aa,ac⟩
def fh.put (r:fh kvs vs)(k:κ)(bB:RelV y u):fh (fs kvs k y) (stored vs k u):=by
 unfold fs stored;rw[r.any k];by_cases e:(vs.any λbJ=>decide (bJ.1=k))=true
 ·rw[aV e,aV e];exact r.HW k bB
 ·rw[aN e,aN e];exact snoc r ⟨rfl,bB⟩
def fh.drop (r:fh kvs vs)(k:κ):fh (pn kvs k) (without vs k):=by
 unfold fh at r ⊢;unfold pn without
 induction r with
 |nil=>exact .nil
 |@cons p q ps kI h t bE=>
  obtain⟨aa,ac⟩:=h;rw[uP,uP];by_cases e:p.1=k
  ·have a:¬decide (p.1≠k)=true:=by simp[e]
   have b:¬decide (q.1≠k)=true:=by simp[aa.symm.trans e]
   rw[aN a,aN b];exact bE
  ·have bV:¬q.1=k:=λz=>e (aa.trans z);have a:decide (p.1≠k)=true:=by simp[e]
   have b:decide (q.1≠k)=true:=by simp[bV]
   rw[aV a,aV b];exact .cons ⟨aa,ac⟩ bE
def fh.length (r:fh kvs vs):kvs.length=vs.length:=fu r
def U2 (kvs:List (κ×V))(k:κ):(pn kvs k).length<=kvs.length:=s7 _ _
end
def q4 (r:RelV (cV k) u):(hN P w).is k u=true:=by
 cases k with
 |inl i=>obtain⟨t,e⟩:=(show ∃t,u=Value.int i t from r);subst e;exact aaI P w i t
 |inr x=>obtain⟨t,e⟩:=(show ∃t,u=Value.str x t from r);subst e;exact aaJ P w x t
theorem Ot:∀{dY:List Key} {us:List af},b' (dY.map cV) us->ItemsAre (hN P w) dY us
 |[],_,r=>by rw[p_] at r;cases r;exact .nil
 |k::dY,_,r=>by
  rw[ck] at r;cases r with
  |cons h t=>exact .cons (q4 h) (Ot t)
abbrev KT (H:ah):List (List Key×V)->List (List Key×U×af)->Prop:=Paired λp q=>p.1=q.1/\H q.2.1=some (.tup (p.1.map cV))/\RelV p.2 q.2.2
def KT.val (r:KT H kvs xs)(k:List Key):g7 (ei kvs k) ((atKey xs k).map (·.2)):=by
 induction r with
 |nil=>exact True.intro
 |@cons p q ps kI h t bE=>
  obtain⟨aa,_,ac⟩:=h;by_cases e:p.1=k
  ·have bV:q.1=k:=aa.symm.trans e;have b:atKey (q::kI) k=some q.2:=by simp[atKey,i',bV]
   rw[l5 e,b];exact ac
  ·have bV:¬q.1=k:=λz=>e (aa.trans z);have b:atKey (q::kI) k=atKey kI k:=by simp[atKey,i',bV]
   rw[jH e,b];exact bE
def KT.HW (r:KT H kvs xs)(k:List Key)(bB:RelV y u):
  KT H (kvs.map λbJ=>if bJ.1=k then(bJ.1,y) else bJ) (xs.map (putAt k u)):=by
 induction r with
 |nil=>exact .nil
 |@cons p q ps kI h t bE=>
  rw[ck,ck];refine .cons ?_ bE;obtain⟨aa,ac,av⟩:=h;unfold putAt;by_cases e:p.1=k
  ·rw[aV e,aV (aa.symm.trans e)];exact⟨aa,ac,bB⟩
  ·rw[aN e,aN (λz=>e (aa.trans z))];exact⟨aa,ac,av⟩
def KT.put (r:KT H kvs xs)(k:List Key)(I:H b=some (.tup (k.map cV)))(bB:RelV y u):
  KT H (fs kvs k y) (storedH xs k b u):=by
 have e:(kvs.any λbJ=>decide (bJ.1=k))=(atKey xs k).isSome:=by rw[z7,(r.val k).vN,isSome_map]
 unfold fs storedH;rw[e];by_cases q:(atKey xs k).isSome=true
 ·rw[aV q,aV q];exact r.HW k bB
 ·rw[aN q,aN q];exact snoc r ⟨rfl,I,bB⟩
def KT.keeps (r:KT H kvs xs)(bY:∀b bO,H b=some (.tup bO)->ab b=some (.tup bO)):KT ab kvs xs:=
 Paired.gH r λ_ _ z=>⟨z.1,bY _ _ z.2.1,z.2.2⟩
def Qt (ok:dN P w H h)(e:aU H a u):dq P w H h a u:=e.ok ok
def pk (ok:dN P w H h)(e:aU H a (.cq kvs)):kvs.length<=sizeLine/\(a==sysModules)=false/\∃vs,fh kvs vs/\h.DictOf (hN P w) a vs:=
 show dq P w H h a (.cq kvs) from Qt ok e
def A7 (ok:dN P w H h)(e:H a=some (.cq kvs)):kvs.length<=sizeLine/\(a==sysModules)=false/\∃vs,fh kvs vs/\h.DictOf (hN P w) a vs:=pk ok (.inl e)
def vO (ok:dN P w H h)(e:H a=some (.tup (dY.map cV))):(tupleKind (hN P w)).is h dY a:=by obtain⟨_,a3,r,o,aa,ac,n,av⟩:=(show dq P w H h a (.tup (dY.map cV)) from ok a _ e);exact⟨o,a3.toArray,n,aa,ac,av,by simpa using Ot r⟩
def tC (ok:dN P w H h)(e:aU H a (.e1 kvs)):kvs.length<=sizeLine/\(a==sysModules)=false/\
  ∃xs,KT H kvs xs/\h.DictOfH (tupleKind (hN P w)) a xs:=by
 obtain⟨z,y,xs,r,o,es,ep,aa,ac,av,bn,cB⟩:=(show dq P w H h a (.e1 kvs) from Qt ok e);refine⟨z,y,xs,r,o,es,ep,aa,ac,av,bn,λx ao=>?_,cB⟩;have all:∀{l:List (List Key×V)} {m:List (List Key×U×af)},KT H l m->∀x∈m,(tupleKind (hN P w)).is h x.1 x.2.1:=by
  intro l m q
  induction q with
  |nil=>intro x ao;exact nomatch ao
  |@cons p q ps kI az t bE=>
   intro x ao;rcases cr.mp ao with e|ao
   ·subst e;exact vO ok (by rw[<-az.1];exact az.2.1)
   ·exact bE x ao
 exact all r x ao
def U5 (ok:dN P w H h)(e:H a=some (.e1 kvs)):kvs.length<=sizeLine/\(a==sysModules)=false/\
  ∃xs,KT H kvs xs/\h.DictOfH (tupleKind (hN P w)) a xs:=tC ok (.inl e)
def dy (H:ah)(a:U)(y:V)(r:Option V):Prop:=
 (∃kvs k,aU H a (.cq kvs)/\y=cV k/\r=ei kvs k)\/∃kvs k b,aU H a (.e1 kvs)/\y=.ref b/\H b=some (.tup (k.map cV))/\r=ei kvs k
def mc (H:ah)(a:U)(y v:V)(ab:ah):Prop:=
 (∃kvs k,H a=some (.cq kvs)/\y=cV k/\kvs.length < sizeLine/\ab=upd H a (.cq (fs kvs k v)))\/
 ∃kvs k b,H a=some (.e1 kvs)/\y=.ref b/\H b=some (.tup (k.map cV))/\kvs.length < sizeLine/\ab=upd H a (.e1 (fs kvs k v))
def dy.k {H:ah}{a:U}{kvs:List (Key×V)}{k:Key}(e:H a=some (.cq kvs)):dy H a (cV k) (ei kvs k):=.inl ⟨kvs,k,.inl e,rfl,rfl⟩
def dy.t {k:List Key}(e:H a=some (.e1 kvs))(dG:H b=some (.tup (k.map cV))):dy H a (.ref b) (ei kvs k):=.inr ⟨kvs,k,b,.inl e,rfl,dG,rfl⟩
def mc.k {H:ah}{a:U}{kvs:List (Key×V)}{k:Key}{v:V}(e:H a=some (.cq kvs))(aC:kvs.length < sizeLine):mc H a (cV k) v (upd H a (.cq (fs kvs k v))):=.inl ⟨kvs,k,e,rfl,aC,rfl⟩
def mc.t {kvs:List (List Key×V)}{k:List Key}(e:H a=some (.e1 kvs))(dG:H b=some (.tup (k.map cV)))(aC:kvs.length < sizeLine):
  mc H a (.ref b) v (upd H a (.e1 (fs kvs k v))):=.inr ⟨kvs,k,b,e,rfl,dG,aC,rfl⟩
def Inv.big (J:Inv X pins σ H s):sysModules < s.heap.objs.size:=by have h:mainGlobals < s.heap.objs.size:=(J.mod.glob.keeps J.hI).lt;exact Nat.lt_trans (by decide) h
def UM (aW:A.units+1 < cLine)(J:Inv X pins σ H s)(g:dy H a y (some v))(bB:RelV y u)(h:∀eF s',Inv X pins σ H s'->RelV v eF->Q eF s'):
  wpAny (model X.prog X.w) A (getItem (.ref a) u) Q E s:=by
 rcases g with⟨kvs,k,e,gF,l⟩|⟨kvs,k,b,e,gF,dG,l⟩
 ·subst gF;obtain⟨z,hd,vs,rel,b4⟩:=pk J.ba e;obtain⟨eF,hw,iE⟩:=g7.some_of (v:=v) (o:=valueAt vs k) (by rw[l];exact rel.val k);exact wpAny_getItem_of (q4 bB) b4.mapOf hw (h eF _ (J.tok _) iE)
 ·subst gF;cases (show u=Value.ref b from bB);obtain⟨z,hd,xs,rel,b4⟩:=tC J.ba e;obtain⟨eF,hw,iE⟩:=g7.some_of (v:=v) (o:=(atKey xs k).map (·.2)) (by rw[l];exact rel.val k);obtain⟨p,am,pJ⟩:=mX.mp hw;refine wpAny_getItem_heap (tupleKind_room_in1 aW) (vO J.ba dG) b4 am ?_;rw[pJ];exact h eF _ (J.tok _) iE
def UN (aW:A.units+1 < cLine)(J:Inv X pins σ H s)(g:dy H a y o)(bB:RelV y u)(h:∀s',Inv X pins σ H s'->Q (.bool o.isSome) s'):
  wpAny (model X.prog X.w) A (compareOp .In u (.ref a)) Q E s:=by
 rcases g with⟨kvs,k,e,gF,l⟩|⟨kvs,k,b,e,gF,dG,l⟩
 ·subst gF;obtain⟨z,hd,vs,rel,b4⟩:=pk J.ba e;refine wpAny_in_of (q4 bB) hd b4.mapOf ?_;rw[<-(rel.val k).vN,<-l];exact h _ (J.tok _)
 ·subst gF;cases (show u=Value.ref b from bB);obtain⟨z,hd,xs,rel,b4⟩:=tC J.ba e;refine wpAny_in_heap (tupleKind_room_in1 aW) (vO J.ba dG) hd b4 ?_;have q:=(rel.val k).vN;rw[isSome_map] at q;rw[<-q,<-l];exact h _ (J.tok _)
def UP (aW:A.units+1 < cLine)(J:Inv X pins σ H s)(g:dy H a y o)(bB:RelV y u)(h:∀s',Inv X pins σ H s'->Q (.bool (!o.isSome)) s'):
  wpAny (model X.prog X.w) A (compareOp .NotIn u (.ref a)) Q E s:=by
 rcases g with⟨kvs,k,e,gF,l⟩|⟨kvs,k,b,e,gF,dG,l⟩
 ·subst gF;obtain⟨z,hd,vs,rel,b4⟩:=pk J.ba e;refine wpAny_notIn_of (q4 bB) hd b4.mapOf ?_;rw[<-(rel.val k).vN,<-l];exact h _ (J.tok _)
 ·subst gF;cases (show u=Value.ref b from bB);obtain⟨z,hd,xs,rel,b4⟩:=tC J.ba e;refine wpAny_notIn_heap (tupleKind_room_in1 aW) (vO J.ba dG) hd b4 ?_;have q:=(rel.val k).vN;rw[isSome_map] at q;rw[<-q,<-l];exact h _ (J.tok _)
def tA {t':Nat}(J:Inv X pins σ H s)(hy:rF (H a))(aD:Heap.SameBut a s.heap h')(he:∃q,h'.get? a=some q)(new:dq X.prog X.w (upd H a b2) h' a b2):
  Inv X pins σ (upd H a b2) {s with heap:=h',toks:=t'}:=
 J.write (x:=a) (e:=a) hy (.inl rfl) (λb q I z=>(aD.2 b I).trans z) he new
def EZ (z:kvs.length<=sizeLine)(hd:(a==sysModules)=false)(rel:fh kvs vs)(b4:h'.DictOf (hN P w) a vs):
  dq P w ab h' a (.cq kvs):=⟨z,hd,vs,rel,b4⟩
def UR (aW:A.units+1 < cLine)(J:Inv X pins σ H s)(g:mc H a y v ab)(bB:RelV y u)(cy:RelV v r)(h:∀s',Inv X pins σ ab s'->Q () s'):
  wpAny (model X.prog X.w) A (setItem (.ref a) u r) Q E s:=by
 rcases g with⟨kvs,k,e,gF,l,E2⟩|⟨kvs,k,b,e,gF,dG,l,E2⟩
 ·subst gF E2;obtain⟨z,hd,vs,rel,b4⟩:=A7 J.ba e;have hz:vs.length<=sizeLine:=by rw[<-rel.length];exact z
  have aC:(fs kvs k v).length<=sizeLine:=by have:=BY kvs k v;omega
  refine wpAny_setItem_pairs (hsz:=hz) (q4 bB) b4 λh' iW aD=>h _ ?_;have he:∃q,h'.get? a=some q:=let ⟨q,_,_,az,_⟩:=iW;⟨q,az⟩;exact tA J (by rw[e];exact True.intro) aD he (EZ aC hd (rel.put k cy) iW)
 ·subst gF E2;cases (show u=Value.ref b from bB);obtain⟨z,hd,xs,rel,b4⟩:=U5 J.ba e;have hz:xs.length<=sizeLine:=by rw[<-fu rel];exact z
  have aC:(fs kvs k v).length<=sizeLine:=by have:=BY kvs k v;omega
  refine wpAny_setItem_heap (hsz:=hz) (tupleKind_room_in1 aW) (vO J.ba dG) b4 λh' iW aD=>h _ ?_;obtain⟨q,es,ep,az,ac,av,bn,_,cB⟩:=iW;refine tA J (by rw[e];exact True.intro) aD ⟨q,az⟩ ⟨aC,hd,_,(rel.put k dG cy).keeps λc bO n_=>?_,q,es,ep,az,ac,av,bn,cB⟩;rw[aj (fo n_ e (λz=>nomatch z))];exact n_
def K7 (J:Inv X pins σ H s)(e:H a=some (.cq kvs))(bB:RelV (cV k) u)(l:ei kvs k=some v)(hm:more=[]\/∃x,more=[x])
  (h:∀eF s',Inv X pins σ (upd H a (.cq (pn kvs k))) s'->RelV v eF->Q eF s'):wpAny (model X.prog X.w) A (call (.builtin "dict.pop") (.ref a::u::more)) Q E s:=by
 obtain⟨z,hd,vs,rel,b4⟩:=A7 J.ba e;obtain⟨eF,hw,iE⟩:=g7.some_of (v:=v) (o:=valueAt vs k) (by rw[<-l];exact rel.val k);have am:(keyPart u).isSome=true:=by
  cases k with
  |inl i=>obtain⟨t,q⟩:=(show ∃t,u=Value.int i t from bB);subst q;rfl
  |inr x=>obtain⟨t,q⟩:=(show ∃t,u=Value.str x t from bB);subst q;rfl
 have al:argsOk "dict.pop" ⟨.ref a::u::more,[]⟩:=by
  rcases hm with q|⟨x,q⟩
  ·subst q;exact PySem.F.args_dict_pop_2 _ _
  ·subst q;exact PySem.F.args_dict_pop_3 _ _ _
 refine call_meetsIn slot_dict_pop b4.typeIs PySem.F.entry_dict_pop al (meets_dict_pop_there (hN X.prog X.w) a (q4 bB) more hm am)
  ⟨vs,eF,b4,by rw[<-rel.length];exact z,hw,λh' iW aD=>h eF _ ?_ iE⟩
 have he:∃q,h'.get? a=some q:=let ⟨q,_,_,az,_⟩:=iW;⟨q,az⟩;exact tA J (by rw[e];exact True.intro) aD he (EZ (gC (U2 kvs k) z) hd (rel.drop k) iW)
def UQ (J:Inv X pins σ H s)(e:H a=some (.cq kvs))(bB:RelV (cV k) u)(l:ei kvs k=none)(h:∀s',Inv X pins σ H s'->Q r s'):
  wpAny (model X.prog X.w) A (call (.builtin "dict.pop") [.ref a,u,r]) Q E s:=by
 obtain⟨z,hd,vs,rel,b4⟩:=A7 J.ba e;have ak:valueAt vs k=none:=g7.none_of (by rw[<-l];exact rel.val k);have am:(keyPart u).isSome=true:=by
  cases k with
  |inl i=>obtain⟨t,q⟩:=(show ∃t,u=Value.int i t from bB);subst q;rfl
  |inr x=>obtain⟨t,q⟩:=(show ∃t,u=Value.str x t from bB);subst q;rfl
 exact call_meetsIn slot_dict_pop b4.typeIs PySem.F.entry_dict_pop (PySem.F.args_dict_pop_3 _ _ _) (meets_dict_pop_default (hN X.prog X.w) a (q4 bB) hd am r) ⟨vs,b4,ak,h _ (J.tok _)⟩
def UO (J:Inv X pins σ H s)(e:aU H a (.cq kvs))(h:∀t s',Inv X pins σ H s'->Q (.int kvs.length t) s'):wpAny (model X.prog X.w) A (call (.builtin "len") [.ref a]) Q E s:=by obtain⟨z,hd,vs,rel,b4⟩:=pk J.ba e;refine call_len_dict hd b4 (by rw[<-rel.length];rw[qb] at z;omega) ?_;rw[<-rel.length];exact h _ _ (J.tok _)
def Kf (i:Expr):Prop:=∀ee hL,subscripted i false ee hL=operate [ee,hL] (getItem ee hL)
def aeS {T id:String}
  (aC:typeLookup (.type T) "__getitem__"=pure (some (.builtin id))) (aD:Kf slice)
  (h:wpAny (model prog w) A (eval value env) (λo s₁=>wpAny (model prog w) A (eval slice env) (λi s₂=>s₂.TypeIs o T/\wpAny (model prog w) A (getItem o i) Q E s₂) E s₁) E s):
  wpAny (model prog w) A (eval (.Subscript value slice pos) env) Q E s:=by
 refine Subscript_ (je h (λo s₁ h₁=>je h₁ (λi s₂ h₂=>?_) λ_ _ x=>x) λ_ _ x=>x);obtain⟨bW,h₂⟩:=h₂;unfold subscriptTail;refine aH ?_;rw[getitemInPython_of_ne bW.not_modules];refine aH (wpAny_specialOf bW aC ?_);have fin:wpAny (model prog w) A (subscripted slice false o i) (λr s₃=>wpAny (model prog w) A (letTemporaryGo value o r >>= λ_=>pure r) Q E s₃) E s₂:=by rw[aD o i];exact wpAny_operating (je h₂ (λr s₃ h₃=>aH (wpAny_letTemporaryGo (bp h₃))) λ_ _ x=>x)
 first
  |exact bp (aH fin)
  |exact aH (bp (aH fin))
  |exact aH fin
def UU (J:Inv X pins σ H s)(g:dy H a y o):s.TypeIs (.ref a) "dict":=by
 rcases g with⟨kvs,k,e,_,_⟩|⟨kvs,k,b,e,_,_,_⟩
 ·obtain⟨_,_,vs,_,b4⟩:=pk J.ba e;exact b4.typeIs
 ·obtain⟨_,_,xs,_,b4⟩:=tC J.ba e;exact b4.typeIs
inductive I0i(Q:cM)(x:V)(y:V)(ap:ah):Prop|i(a)(v)(_:x=.ref a)(_:dy ap a y (some v))(_:Q v ap)
def I0 (eu ty:TE):TE:=λσ H Q=>eu σ H λx H1=>ty σ H1 (I0i Q x)
inductive ae6i(Q:cM)(y:V)(x:V)(ap:ah):Prop|i(a)(o)(_:x=.ref a)(_:dy ap a y o)(_:Q (.bL o.isSome) ap)
def ae6 (ty eu:TE):TE:=λσ H Q=>ty σ H λy H1=>eu σ H1 (ae6i Q y)
inductive ae9i(Q:cM)(y:V)(x:V)(ap:ah):Prop|i(a)(o)(_:x=.ref a)(_:dy ap a y o)(_:Q (.bL (!o.isSome)) ap)
def ae9 (ty eu:TE):TE:=λσ H Q=>ty σ H λy H1=>eu σ H1 (ae9i Q y)
inductive adPi(D:Ends)(σ:St)(v:V)(x:V)(y:V)(bz:ah):Prop|i(a)(c4)(_:x=.ref a)(_:mc bz a y v c4)(_:D.cG σ c4)
def adP (eu ty dS:TE):dj:=λD σ H=>dS σ H λv H1=>eu σ H1 λx ap=>ty σ ap (adPi D σ v x)
def jz (aW:X.A.units+1 < cLine)(aI:bl X o eu)(aR:bl X i ty)(aD:Kf i):bl X (.Subscript o i pos) (I0 eu ty):=by intro pins s σ H Q J h;refine aeS PySem.F.slot_dict_getitem.lookup aD (bN (aI pins s σ H _ J h) λu s1 ⟨x,H1,aP,bG,aX⟩=>bN (aR pins s1 σ H1 _ aP aX) λhL s2 ⟨y,ap,bP,bB,a,v,ex,g,bt⟩=>?_);subst ex;obtain rfl:u=Value.ref a:=bG;exact⟨UU bP g,UM aW bP g bB λeF s3 dv iE=>⟨v,ap,dv,iE,bt⟩⟩
def HA (aW:X.A.units+1 < cLine)(aR:bl X i ty)(aI:bl X o eu):xm X .In i o (ae6 ty eu):=by intro pins s σ H Q J h;refine bN (aR pins s σ H _ J h) λhL s1 ⟨y,H1,aP,bB,aX⟩=>bN (aI pins s1 σ H1 _ aP aX) λu s2 ⟨x,ap,bP,bG,a,ee,ex,g,bt⟩=>?_;subst ex;obtain rfl:u=Value.ref a:=bG;exact UN aW bP g bB λs3 dv=>⟨.bL ee.isSome,ap,dv,rfl,bt⟩
def pW (aW:X.A.units+1 < cLine)(aR:bl X i ty)(aI:bl X o eu):xm X .NotIn i o (ae9 ty eu):=by intro pins s σ H Q J h;refine bN (aR pins s σ H _ J h) λhL s1 ⟨y,H1,aP,bB,aX⟩=>bN (aI pins s1 σ H1 _ aP aX) λu s2 ⟨x,ap,bP,bG,a,ee,ex,g,bt⟩=>?_;subst ex;obtain rfl:u=Value.ref a:=bG;exact UP aW bP g bB λs3 dv=>⟨.bL (!ee.isSome),ap,dv,rfl,bt⟩
def wh (aW:X.A.units+1 < cLine)(aI:bl X o eu)(aR:bl X i ty)(bx:bl X value dS)(aD:swapsWith value (some (.Subscript o i pos')) pos.line X.env=pure false):
  fi X (.Assign [.Subscript o i pos'] value pos) (adP eu ty dS):=by
 intro pins s σ H D J h;refine wpAny_Assign_Subscript (bN (bx pins s σ H _ J h) λr s1 ⟨v,H1,aP,cy,aX⟩=>bN (aI pins s1 σ H1 _ aP aX) λu s2 ⟨x,ap,bP,bG,bt⟩=>bN (aR pins s2 σ ap _ bP bt) λhL s3 ⟨y,bz,dv,bB,a,c4,ex,g,cn⟩=>?_) aD;subst ex;obtain rfl:u=Value.ref a:=bG;exact UR aW dv g bB cy λs4 hX=>⟨σ,c4,hX,cn⟩
def A6 (h:a5)(I:sysModules < h.objs.size):dq P w H (h.push {cls:=.type "dict",data:=.dict #[]}) h.objs.size (.cq []):=
 ⟨eY _,ru.mpr (gL (e8 I)),[],.nil,Heap.DictOf.new h⟩
def U4 (h:a5)(I:sysModules < h.objs.size):dq P w H (h.push {cls:=.type "dict",data:=.dict #[]}) h.objs.size (.e1 []):=
 ⟨eY _,ru.mpr (gL (e8 I)),[],.nil,_,#[],0,fM _ rfl,⟨rfl,rfl,rfl⟩,rfl,rfl,nodup_nil⟩
def ae7:TE:=λ_ H Q=>∀p,H p=none->Q (.ref p) (upd H p (.cq []))
def ae8:TE:=λ_ H Q=>∀p,H p=none->Q (.ref p) (upd H p (.e1 []))
def Cx:bl X (.Dict [] [] pos) ae7:=λpins s σ H Q J h=>
 wpAny_Dict_empty ⟨.ref s.heap.objs.size,_,J.laid (a:=s.heap.objs.size) (o:=.cq []) (t':=s.toks) (λ_ _ q=>dx _ q) (b5 _) (A6 s.heap J.big),rfl,h _ (J.ba.fresh (b5 _))⟩
def acI:bl X (.Dict [] [] pos) ae8:=λpins s σ H Q J h=>
 wpAny_Dict_empty ⟨.ref s.heap.objs.size,_,J.laid (a:=s.heap.objs.size) (o:=.e1 []) (t':=s.toks) (λ_ _ q=>dx _ q) (b5 _) (U4 s.heap J.big),rfl,h _ (J.ba.fresh (b5 _))⟩
def I2:List (TE×TE)->St->ah->(List (V×V)->ah->Prop)->Prop
 |[],_,H,Q=>Q [] H
 |(tk,dS)::r,σ,H,Q=>tk σ H λx H1=>dS σ H1 λy ap=>I2 r σ ap λps bz=>Q ((x,y)::ps) bz
abbrev Ko:List (V×V)->List (af×af)->Prop:=Paired λp q=>RelV p.1 q.1/\RelV p.2 q.2
def ij (X:bq)(pos:Pos)(keys:List (Option Expr))(values:List Expr)(rn:List (TE×TE)):Prop:=
 ∀(pins:List (U×Obj)) (s:ar) (σ:St) (H:ah) (Q:List (V×V)->ah->Prop),Inv X pins σ H s->I2 rn σ H Q->
  wpAny (model X.prog X.w) X.A (evalPairs (pairTrees keys values X.env pos)) (λvs s'=>∃ps ab,Inv X pins σ ab s'/\Ko ps vs/\Q ps ab) X.cK s
def HJ:ij X pos [] [] []:=λpins s σ H Q J h=>pairTrees_nil_walk ⟨[],H,J,.nil,h⟩
def ux (aw:bl X k tk)(bx:bl X v dS)(au:ij X pos dY vs rn):
  ij X pos (some k::dY) (v::vs) ((tk,dS)::rn):=λpins s σ H Q J h=>
 pairTrees_cons_walk (bN (aw pins s σ H _ J h) λu s1 ⟨x,H1,aP,bG,aX⟩=>bN (bx pins s1 σ H1 _ aP aX) λp4 s2 ⟨y,ap,bP,bB,bt⟩=>
  bN (au pins s2 σ ap _ bP bt) λws s3 ⟨ps,bz,dv,rel,cn⟩=>⟨(x,y)::ps,bz,dv,.cons ⟨bG,bB⟩ rel,cn⟩)
def vV (kvs more:List (Key×V)):List (Key×V):=more.foldl (λacc bJ=>fs acc bJ.1 bJ.2) kvs
def fh.merge:∀{more:List (Key×V)} {rs:List (Key×af)} {kvs:List (Key×V)} {vs:List (Key×af)},fh more rs->fh kvs vs->fh (vV kvs more) (merged vs rs):=by
 intro more rs kvs vs r;unfold fh at r
 induction r generalizing kvs vs with
 |nil=>intro q;exact q
 |@cons p q ps kI h t bE=>
  intro h_;have e:fh (fs kvs p.1 p.2) (stored vs q.1 q.2):=by have:=h_.put p.1 h.2;rw[<-h.1];exact this
  exact bE e
theorem OI:∀(more kvs:List (Key×V)),(vV kvs more).length<=kvs.length+more.length
 |[],kvs=>by show kvs.length<=kvs.length+0;omega
 |p::r,kvs=>by have aa:=OI r (fs kvs p.1 p.2);have ac:=BY kvs p.1 p.2;show(vV (fs kvs p.1 p.2) r).length<=_;rw[fK];omega
theorem KU:∀{kvs:List (Key×V)} {ws:List (af×af)},Ko (kvs.map λbJ=>(cV bJ.1,bJ.2)) ws->∃rs,Carries (hN P w) ws rs/\fh kvs rs
 |[],_,r=>by rw[p_] at r;cases r;exact⟨[],True.intro,.nil⟩
 |p::kvs,_,r=>by
  rw[ck] at r;cases r with
  |@cons a b as bs h t=>obtain⟨rs,c,q⟩:=KU (P:=P) (w:=w) t;obtain⟨gM,gD⟩:=b;exact⟨(p.1,gD)::rs,⟨q4 h.1,rfl,c⟩,.cons ⟨rfl,h.2⟩ q⟩
def afa (rn:List (TE×TE)):TE:=λσ H Q=>∀p,H p=none->I2 rn σ (upd H p (.cq [])) λps ap=>ap p=some (.cq [])/\∃kvs:List (Key×V),ps=kvs.map (λbJ=>(cV bJ.1,bJ.2))/\kvs.length<=15/\Q (.ref p) (upd ap p (.cq (vV [] kvs)))
def P5 (h:ij X pos keys values rn)(fk:keys.all (·.isSome)=true)(aC:keys.length=values.length)(h0:keys≠[])
  (W3:keys.length<=15):bl X (.Dict keys values pos) (afa rn):=by
 intro pins s σ H Q J q;have ak:=J.ba.fresh (b5 s.heap.objs.size);have aP:=J.laid (a:=s.heap.objs.size) (o:=.cq []) (h':=s.heap.push {cls:=.type "dict",data:=.dict #[]}) (t':=s.toks) (λ_ _ q=>dx _ q) (b5 _) (A6 s.heap J.big);refine wpAny_Dict_walk (knd:=hN X.prog X.w) fk aC h0 W3 (bN (h pins _ σ _ _ aP (q _ ak)) λws s2 ⟨ps,ap,bP,rel,e,kvs,ep,dD,bt⟩=>?_);subst ep;obtain⟨rs,c,adF⟩:=KU (P:=X.prog) (w:=X.w) rel;obtain⟨z,hd,RT,h_,b4⟩:=A7 bP.ba e;cases h_;refine⟨rs,c,b4,λh' iW aD=>⟨.ref s.heap.objs.size,_,?_,rfl,bt⟩⟩;have hz:(vV [] kvs).length<=sizeLine:=by have aa:=OI kvs [];rw[wW] at aa;rw[qb];omega
 have he:∃q,h'.get? s.heap.objs.size=some q:=let ⟨q,_,_,az,_⟩:=iW;⟨q,az⟩;exact tA bP (by rw[e];exact True.intro) aD he (EZ hz hd (adF.merge .nil) iW)
structure fv (X:bq)(o:Expr)(m:Str)(apos:Pos)(e:Expr)(fj:Pos):Prop where
 base:attributeBase o m X.env (eval o X.env)=eval o X.env
 A':((backTo fj (starEach [e] X.env)).all (λx=>!x.1)&&(backToKw fj (keywordEach [] X.env)).all (λx=>x.1.isSome)
  &&decide (([e]:List Expr).length+([]:List Keyword).length+(if([]:List Keyword).isEmpty then 0 else 1) < 30))=true
 line:(apos.endLine==fj.line)=true
 trees:backTo fj (starEach [e] X.env)=[(false,eval e X.env)]
structure M2 (X:bq)(o:Expr)(m:Str)(apos:Pos)(e f:Expr)(fj:Pos):Prop where
 base:attributeBase o m X.env (eval o X.env)=eval o X.env
 A':((backTo fj (starEach [e,f] X.env)).all (λx=>!x.1)&&(backToKw fj (keywordEach [] X.env)).all (λx=>x.1.isSome)
  &&decide (([e,f]:List Expr).length+([]:List Keyword).length+(if([]:List Keyword).isEmpty then 0 else 1) < 30))=true
 line:(apos.endLine==fj.line)=true
 trees:backTo fj (starEach [e,f] X.env)=[(false,eval e X.env),(false,eval f X.env)]
def Av (H:ah)(a:U):Prop:=(∃kvs,aU H a (.cq kvs))\/∃kvs,aU H a (.e1 kvs)
def Gu (J:Inv X pins σ H s)(d:Av H a):
  s.TypeIs (.ref a) "dict"/\(∀b,Value.ref a=.ref b->∃b2,s.heap.get? b=some b2/\b2.dict=none)/\(a==sysModules)=false:=by
 rcases d with⟨kvs,e⟩|⟨kvs,e⟩
 ·obtain⟨_,hd,vs,_,b4⟩:=pk J.ba e;refine⟨b4.typeIs,λb q=>?_,hd⟩;cases q;obtain⟨b2,_,_,aa,ac,_⟩:=b4;exact⟨b2,aa,ac.2.1⟩
 ·obtain⟨_,hd,xs,_,b4⟩:=tC J.ba e;refine⟨b4.typeIs,λb q=>?_,hd⟩;cases q;obtain⟨b2,_,_,aa,ac,_⟩:=b4;exact⟨b2,aa,ac.2.1⟩
def UL (aW:A.units+1 < cLine)(J:Inv X pins σ H s)(g:dy H a y o)(bB:RelV y u)(ax:RelV d r)(h:∀eF s',Inv X pins σ H s'->RelV (o.getD d) eF->Q eF s'):
  wpAny (model X.prog X.w) A (call (.builtin "dict.get") [.ref a,u,r]) Q E s:=by
 rcases g with⟨kvs,k,e,gF,l⟩|⟨kvs,k,b,e,gF,dG,l⟩
 ·subst gF;obtain⟨z,hd,vs,rel,b4⟩:=pk J.ba e;refine call_meetsIn slot_dict_get b4.typeIs PySem.F.entry_dict_get (PySem.F.args_dict_get_3 _ _ _) (meets_dict_get_default (hN X.prog X.w) a (q4 bB) hd r) ⟨_,b4.mapOf,h _ _ (J.tok _) ?_⟩;rw[l];exact(rel.val k).getD ax
 ·subst gF;cases (show u=Value.ref b from bB);obtain⟨z,hd,xs,rel,b4⟩:=tC J.ba e;refine call_meetsIn slot_dict_get b4.typeIs PySem.F.entry_dict_get (PySem.F.args_dict_get_3 _ _ _) (meetsH_dict_get_default (tupleKind (hN X.prog X.w)) a b hd r) ⟨tupleKind_room_in1 aW,k,xs,vO J.ba dG,b4,h _ _ (J.tok _) ?_⟩;rw[l];exact(rel.val k).getD ax
def ae5 (eu ty sT:TE):TE:=λσ H Q=>eu σ H λx H1=>∃a,x=.ref a/\Av H1 a/\ty σ H1 λy ap=>sT σ ap λz bz=>∃o,dy bz a y o/\Q (o.getD z) bz
def ae_ (eu ty:TE):TE:=λσ H Q=>eu σ H λx H1=>∃a,x=.ref a/\Av H1 a/\ty σ H1 λy ap=>∃kvs k v,ap a=some (.cq kvs)/\y=cV k/\ei kvs k=some v/\Q v (upd ap a (.cq (pn kvs k)))
def ae' (eu ty sT:TE):TE:=λσ H Q=>eu σ H λx H1=>∃a,x=.ref a/\Av H1 a/\ty σ H1 λy ap=>sT σ ap λz bz=>∃kvs k,bz a=some (.cq kvs)/\y=cV k/\
 (∀v,ei kvs k=some v->Q v (upd bz a (.cq (pn kvs k))))/\(ei kvs k=none->Q z bz)
def acH (aW:X.A.units+1 < cLine)(aI:bl X o eu)(he:bl X e ty)(hf:bl X f sT)(m:M2 X o "get" apos e f fj):bl X (.Call (.Attribute o "get" apos) [e,f] [] fj) (ae5 eu ty sT):=by
 intro pins s σ H Q J h;refine wpAny_Call_method m.base m.A' m.line plainAttrs_dict slot_dict_get PySem.F.type_dict_get (bN (aI pins s σ H _ J h) λu s1 ⟨x,H1,aP,bG,a,ex,d,aX⟩=>?_);subst ex;obtain rfl:u=Value.ref a:=bG;obtain⟨t1,fV,_⟩:=Gu aP d;refine⟨t1,fV,?_⟩;rw[m.trees];refine Calls.callWith_builtin rfl (Calls.evalArgs_plain (Calls.spliced_cons (bN (he pins s1 σ H1 _ aP aX) λhL s2 ⟨y,ap,bP,bB,bt⟩=>
  Calls.spliced_cons (bN (hf pins s2 σ ap _ bP bt) λME s3 ⟨z,bz,dv,zK,ee,g,cn⟩=>Calls.spliced_nil ?_))))
 exact UL aW dv g bB zK λeF s4 hX iE=>⟨_,bz,hX,iE,cn⟩
def P6 (aI:bl X o eu)(he:bl X e ty)(m:fv X o "pop" apos e fj):bl X (.Call (.Attribute o "pop" apos) [e] [] fj) (ae_ eu ty):=by intro pins s σ H Q J h;refine wpAny_Call_method m.base m.A' m.line plainAttrs_dict slot_dict_pop PySem.F.type_dict_pop (bN (aI pins s σ H _ J h) λu s1 ⟨x,H1,aP,bG,a,ex,d,aX⟩=>?_);subst ex;obtain rfl:u=Value.ref a:=bG;obtain⟨t1,fV,_⟩:=Gu aP d;refine⟨t1,fV,?_⟩;rw[m.trees];refine Calls.callWith_builtin rfl (Calls.evalArgs_plain (Calls.spliced_cons (bN (he pins s1 σ H1 _ aP aX) λhL s2 ⟨y,ap,bP,bB,kvs,k,v,a9,gF,l,bt⟩=>Calls.spliced_nil ?_)));subst gF;exact K7 bP a9 bB l (.inl rfl) λeF s3 dv iE=>⟨v,_,dv,iE,bt⟩
def acJ (aI:bl X o eu)(he:bl X e ty)(hf:bl X f sT)(m:M2 X o "pop" apos e f fj):bl X (.Call (.Attribute o "pop" apos) [e,f] [] fj) (ae' eu ty sT):=by
 intro pins s σ H Q J h;refine wpAny_Call_method m.base m.A' m.line plainAttrs_dict slot_dict_pop PySem.F.type_dict_pop (bN (aI pins s σ H _ J h) λu s1 ⟨x,H1,aP,bG,a,ex,d,aX⟩=>?_);subst ex;obtain rfl:u=Value.ref a:=bG;obtain⟨t1,fV,_⟩:=Gu aP d;refine⟨t1,fV,?_⟩;rw[m.trees];refine Calls.callWith_builtin rfl (Calls.evalArgs_plain (Calls.spliced_cons (bN (he pins s1 σ H1 _ aP aX) λhL s2 ⟨y,ap,bP,bB,bt⟩=>
  Calls.spliced_cons (bN (hf pins s2 σ ap _ bP bt) λME s3 ⟨z,bz,dv,zK,kvs,k,a9,gF,cn,fS⟩=>Calls.spliced_nil ?_))))
 subst gF;cases l:ei kvs k with
 |some v=>exact K7 dv a9 bB l (.inr ⟨ME,rfl⟩) λeF s4 hX iE=>⟨v,_,hX,iE,cn v l⟩
 |none=>exact UQ dv a9 bB l λs4 hX=>⟨z,bz,hX,zK,fS l⟩
def Ug:bootBuiltins "reversed"=some (.type "reversed"):=by w_on
def Inv.RL {X:bq}{pins:List (U×Obj)}{σ:St}{H:ah}{s:ar}{h':a5}{t':Nat}{ch:List U}{T:U}{b2:c0}(J:Inv X pins σ H s)(k:∀b o,b∉ch->s.heap.get? b=some o->h'.get? b=some o)(hf:∀b∈ch,nQ X pins H b)(bW:s.heap.objs.size<=T)
  (new:dq X.prog X.w (upd H T b2) h' T b2):Inv X pins σ (upd H T b2) {s with heap:=h',toks:=t'}:=by
 have ak:H T=none:=J.ba.fresh bW;have zg:∀b u,H b=some u->b∉ch:=λb u e z=>by have q:=(hf b z).1;rw[q] at e;cases e
 refine J.step (g':=s.gens) (d':=s.drawn) (ch:=ch) (λb I=>⟨(hf b I).2.2.2.1,(hf b I).2.1,(hf b I).2.2.2.2.1,(hf b I).2.2.2.2.2⟩) (λb o _ _ ai e _=>k b o ai e) (λb o _ _ ai e _=>⟨o.slots,k b o ai e⟩)
  (λb o _ e n=>?_) (λb o ai e=>⟨o,k b o ai e⟩) (λb xs e=>?_) (λb o u e=>?_) (λb ps e=>⟨#[],?_⟩) (λm hm=>?_) (λb u e=>?_) J.bare
 ·rw[aj (e8 (hl (dc e) bW))];exact n
 ·rw[aj (a8 e ak)];exact e
 ·rw[aj (a8 e ak)];exact e
 ·rw[aj (a8 e ak),e];simp
 ·obtain⟨o,es,ep,aI,r⟩:=hm;exact⟨o,es,ep,k _ o (λz=>(hf _ z).2.1 rfl) aI,r⟩
 ·by_cases I:b=T
  ·subst I;rw[aG] at e;cases e;exact new
  ·rw[aj I] at e;refine(J.ba b u e).hS (λc v ai q=>k c v ?_ q) (λc q=>by rw[aj (a8 q ak)];exact q) λc xs q=>by rw[aj (a8 q ak)];exact q
   rcases ai with z|z
   ·rw[z];exact zg b u e
   ·exact zg c _ z
def Inv.lock (J:Inv X pins σ H s)(h:H d=some u)(hy:rF (some u)):∃c9,Inv X pins σ (upd H d (.eP c9 u)) s:=by
 have x:=J.ba d u h;have ex:∃c9,s.heap.get? d=some c9:=by
  cases u with
  |lst xs=>obtain⟨_,_,_,_,e⟩:=x;exact⟨_,e⟩
  |cq kvs=>obtain⟨_,_,_,_,o,_,_,e,_⟩:=x;exact⟨o,e⟩
  |e1 kvs=>obtain⟨_,_,_,_,o,_,_,e,_⟩:=x;exact⟨o,e⟩
  |set S n=>obtain⟨o,_,_,_,e,_⟩:=x;exact⟨o,e⟩
  |ins C aq bd=>obtain⟨_,_,_,e,_⟩:=x;exact⟨_,e⟩
  |ext φ=>obtain⟨_,⟨_,e⟩,_⟩:=x;exact⟨_,e⟩
  |_=>exact False.elim hy
 obtain⟨c9,e⟩:=ex;have new:dq X.prog X.w (upd H d (.eP c9 u)) s.heap d (.eP c9 u):=by
  refine⟨e,x.hS (λb v _ q=>q) (λb q=>?_) λb xs q=>?_⟩
  ·rw[aj (λz=>by rw[z,h] at q;cases q;exact hy)];exact q
  ·rw[aj (λz=>by rw[z,h] at q;cases q;exact hy)];exact q
 exact⟨c9,J.write (x:=d) (e:=d) (t':=s.toks) (h':=s.heap) (by rw[h];exact hy) (.inl rfl) (λb v _ q=>q) ⟨c9,e⟩ new⟩
def Inv.abd (J:Inv X pins σ H s)(h:H d=some u)(hy:rF (some u)):∀d5 iG,X.nR d≠some (.eP d5 iG):=λd5 iG e=>by have q:=J.base.mv d d5 iG e;rw[h] at q;cases q;exact hy
def Inv.unlock (J:Inv X pins σ H s)(h:H d=some (.eP c9 u))(ak:∀d5 iG,X.nR d≠some (.eP d5 iG)):Inv X pins σ (upd H d u) s:=by
 have q':∀b o,H b=some o->(∀d5 iG,o≠.eP d5 iG)->b≠d:=λb o e b9 z=>by rw[z,h] at e;cases e;exact b9 _ _ rfl
 have neN:∀b,H b=none->b≠d:=λb e z=>by rw[z,h] at e;cases e
 refine⟨J.ok,J.os,J.bare,⟨J.base.keep,J.base.slot,λb o e n ao=>?_,J.base.there,λb xs e=>?_,λb o x e=>?_,λb ps e=>?_⟩,J.loc,J.cell,?_,λx c e=>?_,λp am=>?_,λb o e=>?_,J.len⟩
 ·rw[aj (neN b (J.base.free b o e n ao))];exact J.base.free b o e n ao
 ·have q:=J.base.eK b xs e;rw[aj (q' b _ q (λ_ _ z=>nomatch z))];exact q
 ·have q:=J.base.mv b o x e;rw[aj (λz=>by rw[z] at e;exact ak _ _ e)];exact q
 ·obtain⟨m,q⟩:=J.base.oS b ps e;exact⟨m,by rw[aj (q' b _ q (λ_ _ z=>nomatch z))];exact q⟩
 ·rw[aj (neN _ J.free)];exact J.free
 ·rw[aj (neN c (J.jq x c e))];exact J.jq x c e
 ·obtain⟨e,n,r⟩:=J.pin p am;exact⟨e,by rw[aj (neN _ n)];exact n,r⟩
 ·by_cases I:b=d
  ·rw[I,aG] at e;cases e;rw[I];obtain⟨_,x⟩:=J.ba d _ h;exact x.hS (λc v _ q=>q) (λc q=>by rw[aj (q' c _ q (λ_ _ z=>nomatch z))];exact q) λc xs q=>by rw[aj (q' c _ q (λ_ _ z=>nomatch z))];exact q
  ·rw[aj I] at e;exact(J.ba b o e).hS (λc v _ q=>q) (λc q=>by rw[aj (q' c _ q (λ_ _ z=>nomatch z))];exact q) λc xs q=>by rw[aj (q' c _ q (λ_ _ z=>nomatch z))];exact q
def afd (t:TE):TE:=λσ H Q=>∃d u,H d=some u/\rF (some u)/\∀c9,t σ (upd H d (.eP c9 u)) λv ab=>ab d=some (.eP c9 u)/\Q v (upd ab d u)
def acN (h:bl X e t):bl X e (afd t):=by intro pins s σ H Q J hw;obtain⟨d,u,hd,hy,hw⟩:=hw;obtain⟨c9,aP⟩:=J.lock hd hy;refine bN (h pins s σ _ _ aP (hw c9)) λv s1 ⟨x,H1,bP,r,aL,q⟩=>?_;exact⟨x,_,bP.unlock aL (J.abd hd hy),r,q⟩
def Cz {tk:Nat}(J:Inv X pins σ H s)(o:Obj)
  (T:rH X.prog X.w X.K dE ez [s.heap.objs.size] s.heap.objs.size ie) (st:ie 0 (s.heap.push o)) (q:R ez H):Ed X pins σ dE R (.ref s.heap.objs.size) {s with heap:=s.heap.push o,toks:=tk}:=by
 refine⟨s.heap.objs.size,[s.heap.objs.size],ie,ez,H,rfl,J.kept λb b2 e=>dx _ e,T,st,λb I=>?_,q⟩;have e:b=s.heap.objs.size:=by simpa using I
 subst e;exact J.xZ (b5 _) (J.ba.fresh (b5 _))
def xd (K:PySem.W.Frag)(a:U)(n:Nat):iQ:=
 ⟨λi H=>i < n/\∃(xs:List V) (x:V),bA K H a xs/\xs[n - 1 - i]? =some x,λi H x ab=>ab=H/\∀xs,bA K H a xs->xs[n - 1 - i]? =some x,λi _=>n<=i⟩
def afH {P:bg}{w:bb}{K:PySem.W.Frag}{dE:Expr}(a it:U)(n:Nat):rH P w K dE (xd K a n) [it] it (λi h=>i<=n/\h.IsRevIter it a ((n:Int) - 1 - (i:Nat))) where
 mem:=by simp
 obj:=λi h st b I=>by
  have e:b=it:=by simpa using I
  subst e;obtain⟨_,o,e,c,d⟩:=st;exact⟨o,e,λv z=>by rw[d] at z;cases z⟩
 keep:=λi h h' st k=>⟨st.1,st.2.at λo e=>k it (by simp) o e⟩
 item:=by
  intro X fb hw d9 ai i pins s σ H E J hf st bK;subst fb hw d9;obtain⟨vA,xs,x,az,ao⟩:=bK;obtain⟨a3,cy,p,hz⟩:=J.list az;obtain⟨u,aW,c7⟩:=cy.get ao;obtain⟨f0,f1,f2,d8,f4,eU⟩:=hf it (by simp);obtain⟨_,hit⟩:=st;have aE:(n:Int) - 1 - ((i:Nat):Int)=((n - 1 - i:Nat):Int):=by omega
  rw[aE] at hit;refine wpAny_pyNext_rev_item hit p.isList (x:=u) (by simpa using aW) λh' eh dM=>?_;have aL:((n - 1 - i:Nat):Int) - 1=(n:Int) - 1 - ((i+1:Nat):Int):=by omega
  rw[aL] at eh;have aP:Inv X pins σ H {s with heap:=h'}:=J.turned (t':=s.toks) (λb o I e=>(dM.2 b I).trans e) f0 f1 d8 f4 eU;obtain⟨o,e,c,d⟩:=id eh;exact⟨u,rfl,Bj (s:={s with heap:=h'}) e c d (by decide) ⟨x,H,aP,c7,⟨rfl,λbO bk=>by rw[J.GO bk az];exact ao⟩,⟨vA,eh⟩,λb I=>(hf b I).1⟩⟩
 done:=by
  intro X fb hw d9 ai i pins s σ H E J hf st bK;subst fb hw d9;obtain⟨f0,f1,f2,d8,f4,eU⟩:=hf it (by simp);obtain⟨vA,hit⟩:=st;have agz:n<=i:=bK;have aE:(n:Int) - 1 - ((i:Nat):Int)= -1:=by omega
  rw[aE] at hit;exact wpAny_pyNext_rev_end (J.ok.hd ai) hit λh' dG=>⟨rfl,J.turned (t':=s.toks) (λb o I e=>dG b o I e) f0 f1 d8 f4 eU⟩
 self:=λA i s Q E st h=>wpAny_pyIter_revIter st.2 h
inductive Zoi(K:PySem.W.Frag)(R:iQ->ah->Prop)(vs:List V)(H1:ah):Prop|i(a:U)(xs:List V)(_:vs=[.ref a])(_:bA K H1 a xs)(_:R (xd K a xs.length) H1)
def Zo (K:PySem.W.Frag)(aF:hq):TI:=λσ H R=>aF σ H (Zoi K R)
def acW {X:bq}{dE:Expr}{e:Expr}{aF:hq}{p pos:Pos}(bK:hV X "reversed")(hm:X.ae "reversed"=none)(al:fF X [e] aF)(aD:starEach [e] X.env=[(false,eval e X.env)]:=by rfl):qo X dE (.Call (.Name "reversed" p) [e] [] pos) (Zo X.K aF):=by
 intro pins s σ H R J h;refine Call_ (sk J bK hm Ug (PyProof.Rows.callWith_type1 (bN (al pos pins s σ H _ J h) λus s1 ⟨vs,H1,aP,cj,aX⟩=>?_) aD rfl));obtain⟨a,xs,e,az,q⟩:=aX;subst e;cases cj with
 |cons r eb=>
  cases eb;cases r;obtain⟨a3,cy,ef,hz⟩:=aP.list az;have aC:=cy.length;have aE:((a3.toArray.size:Nat):Int) - 1=(xs.length:Int) - 1 - ((0:Nat):Int):=by simp only[fL];omega
  refine call_reversed_list ef.isList (wpAny_pyIter_revIter (l:=a) (i:=((a3.toArray.size:Nat):Int) - 1) ⟨_,fM _ rfl,rfl,rfl⟩ ?_);refine Cz (tk:=s1.toks) aP _ (afH a _ xs.length) ⟨eY _,?_⟩ q;rw[<-aE];exact⟨_,fM _ rfl,rfl,rfl⟩
def xb (x:Str):iQ:=⟨λi _=>i < x.cps.size,λi H v ab=>ab=H/\∃c,x.cps[i]? =some c/\v=.str ⟨#[c]⟩,λi _=>x.cps.size<=i⟩
def RK {P:bg}{w:bb}{K:PySem.W.Frag}{dE:Expr}(it:U)(x:Str)(t:Tok)(ty:String)(sf:ty="str_ascii_iterator"\/ty="str_iterator"):
  rH P w K dE (xb x) [it] it (λi h=>h.IsStrIter it ty x t i) where
 mem:=by simp
 obj:=λi h st b I=>by
  have e:b=it:=by simpa using I
  subst e;obtain⟨o,e,c,d⟩:=st;exact⟨o,e,λv z=>by rw[d] at z;cases z⟩
 keep:=λi h h' st k=>let ⟨o,aI,r⟩:=st;⟨o,k it (by simp) o aI,r⟩
 item:=by
  intro X fb hw d9 ai i pins s σ H E J hf st bK;subst fb hw d9;obtain⟨f0,f1,f2,d8,f4,eU⟩:=hf it (by simp);have W:Walks X.prog X.w X.A it [it] [it] x.cps.size (SignAt x) (λi h=>h.IsStrIter it ty x t i):=by
   rcases sf with e|e
   ·rw[e];exact Walks.strAscii (J.ok.hd ai) it x t
   ·rw[e];exact Walks.strWide (J.ok.hd ai) it x t
  have BE:["enumerate","zip","dict_itemiterator","dict_reverseitemiterator","odict_iterator","itertools.zip_longest","itertools.pairwise"].contains ty=false:=by
   rcases sf with e|e
   ·rw[e];decide
   ·rw[e];decide
  refine W.item i s _ _ bK st λv h' tk bx eh e5=>?_;obtain⟨c,u,XU,rfl⟩:=bx;have aP:Inv X pins σ H {s with heap:=h',toks:=tk}:=J.turned (λb o I e=>e5 b o (by simpa using I) e) f0 f1 d8 f4 eU;obtain⟨Cp,e,lF,b4⟩:=id eh;exact⟨_,rfl,Bj (s:={s with heap:=h',toks:=tk}) e lF b4 BE ⟨.str ⟨#[c]⟩,H,aP,⟨u,rfl⟩,⟨rfl,c,XU,rfl⟩,eh,λb I=>(hf b I).1⟩⟩
 done:=by
  intro X fb hw d9 ai i pins s σ H E J hf st bK;subst fb hw d9;obtain⟨f0,f1,f2,d8,f4,eU⟩:=hf it (by simp);have ao:x.cps[i]? =none:=DF bK;rcases sf with e|e
  ·rw[e] at st;exact wpAny_pyNext_ascii_end (J.ok.hd ai) st ao λh' dG=>⟨rfl,J.turned (t':=s.toks) (λb o I e=>dG b o I e) f0 f1 d8 f4 eU⟩
  ·rw[e] at st;exact wpAny_pyNext_wide_end (J.ok.hd ai) st ao λh' dG=>⟨rfl,J.turned (t':=s.toks) (λb o I e=>dG b o I e) f0 f1 d8 f4 eU⟩
 self:=λA i s Q E st h=>by
  rcases sf with e|e
  ·rw[e] at st;exact wpAny_pyIter_striter_ascii st h
  ·rw[e] at st;exact wpAny_pyIter_striter_wide st h
inductive Zpi(R:iQ->ah->Prop)(v:V)(H1:ah):Prop|i(x)(_:v=.str x)(_:R (xb x) H1)
def Zp (te:TE):TI:=λσ H R=>te σ H (Zpi R)
def acX {X:bq}{dE e:Expr}{te:TE}(he:bl X e te):qo X dE e (Zp te):=by
 intro pins s σ H R J h;refine bN (he pins s σ H _ J h) λv s1 ⟨y,H1,aP,cj,x,ex,q⟩=>?_;subst ex;obtain⟨t,rfl⟩:=cj;cases al:x.cps.all (·< 128)
 ·exact wpAny_pyIter_wide al (Cz (tk:=s1.toks) aP _ (RK _ x t "str_iterator" (.inr rfl)) ⟨_,fM _ rfl,rfl,rfl⟩ q)
 ·exact wpAny_pyIter_ascii al (Cz (tk:=s1.toks) aP _ (RK _ x t "str_ascii_iterator" (.inl rfl)) ⟨_,fM _ rfl,rfl,rfl⟩ q)
def ZT {κ:Type}{kvs:List (κ×V)}{vs:List (κ×af)}(h:fh kvs vs):∀{i:Nat} {k:κ} {v:V},kvs[i]? =some (k,v)->∃u,vs[i]? =some (k,u)/\RelV v u:=by
 unfold fh at h
 induction h with
 |nil=>intro i k v e;simp at e
 |@cons a b l₁ l₂ r t bE=>
  intro i k v e;cases i with
  |zero=>simp only[DH,uV] at e;subst e;refine⟨b.2,?_,r.2⟩;simp only[DH];exact iM some (Prod.ext r.1.symm rfl)
  |succ j=>simp only[List.getElem?_cons_succ] at e ⊢;exact bE e
def mJ {G:α->β->Prop}(h:Paired G l₁ l₂):∀{i:Nat} {a:α},l₁[i]? =some a->∃b,l₂[i]? =some b/\G a b:=by
 induction h with
 |nil=>intro i a e;simp at e
 |@cons a b l₁ l₂ r t bE=>
  intro i jk e;cases i with
  |zero=>simp only[DH,uV] at e;subst e;exact⟨b,rfl,r⟩
  |succ j=>simp only[List.getElem?_cons_succ] at e ⊢;exact bE e
def ady (h:si k u=true):RelV (cV k) u:=by
 rcases nx h with⟨i,t,rfl,rfl⟩|⟨x,t,rfl,rfl⟩
 ·exact⟨t,rfl⟩
 ·exact⟨t,rfl⟩
def Inv.Fl (J:Inv X pins σ H s)(h:H d=some (.eP o (.cq kvs))):
  (d==sysModules)=false/\s.heap.get? d=some o/\o.ExactDict/\∃(es:Array kU) (ep:Nat) (vs:List (Key×af)),o.data=.dict es ep/\es.size=kvs.length/\fh kvs vs/\s.heap.DictAt (hN X.prog X.w) d vs ep:=by
 obtain⟨hd,z,aD,vs,bJ,d5,es,ep,aI,ao,pC,r⟩:=J.ba d _ h;rw[hd] at aI;cases aI;refine⟨aD,hd,ao,es,ep,vs,pC,?_,bJ,o,es,hd,ao,pC,r⟩;have cY:=r.2.1.length;have eC:kvs.length=vs.length:=fu bJ;rw[Aa] at cY;omega
def xa (d:U)(o:Obj)(kvs:List (Key×V)):iQ:=
 ⟨λi H=>H d=some (.eP o (.cq kvs))/\i < kvs.length,λi H x ab=>∃T k v,kvs[i]? =some (k,v)/\x=.ref T/\H T=none/\ab=upd H T (.tup [cV k,v]),λi H=>H d=some (.eP o (.cq kvs))/\kvs.length<=i⟩
def La {o:Obj}{ep rP:Nat}(h:o.data=.dict es ep)(h':o.data=.dict rR rP):rR=es/\rP=ep:=by rw[h] at h';cases h';exact⟨rfl,rfl⟩
section
variable {ep:Nat}
def afF {P:bg}{w:bb}{K:PySem.W.Frag}{d:U}{o:Obj}{es:Array kU}{kvs:List (Key×V)}{elts:List Expr}{e5:Nat}{oU:Pos}(it:U)(sa:o.data=.dict es ep):
  rH P w K (.Tuple elts e5 oU) (xa d o kvs) [it] it (λi h=>∃ok ee,IsItemIter h it d i kvs.length ep ok ee) where
 mem:=by simp
 obj:=λi h st b I=>by
  have e:b=it:=by simpa using I
  subst e;obtain⟨ok,ee,e⟩:=st;exact⟨_,e,λv z=>nomatch z⟩
 keep:=λi h h' st k=>let ⟨ok,ee,e⟩:=st;⟨ok,ee,k it (by simp) _ e⟩
 item:=by
  intro X fb hw d9 ai i pins s σ H E J hf st bK;subst fb hw d9;obtain⟨hd,aR⟩:=bK;obtain⟨aD,Nz,ao,rR,rP,vs,pC,hsz,bJ,hm⟩:=J.Fl hd;obtain⟨rfl,rfl⟩:=La sa pC;obtain⟨⟨k,v⟩,ol⟩:∃p,kvs[i]? =some p:=⟨kvs[i],iK aR⟩;obtain⟨u,aW,c7⟩:=ZT bJ ol;have aC:kvs.length=vs.length:=fu bJ;obtain⟨ok,ee,he⟩:=st;rw[aC] at he;have cO:it < s.heap.objs.size:=dc he;refine wpAny_pyNext_items_item he hm aW λkey h' mz aI bW hz aw=>?_;refine⟨_,rfl,wpAny_letOwnedTupleGo_items (s:={s with heap:=h'}) aI λr3 iZ dM=>?_⟩;have FD:r3.get? s.heap.objs.size=some {cls:=.type "tuple",data:=.seq #[key,u]}:=(dM.2 _ (iL cO)).trans bW;have new:dq X.prog X.w (upd H s.heap.objs.size (.tup [cV k,v])) r3 s.heap.objs.size (.tup [cV k,v]):=
   ⟨by show 2<=sizeLine;decide,[key,u],.cons (ady (show si k key=true from mz)) (.cons c7 .nil),⟨_,FD,rfl,_,rfl⟩⟩
  have aP:Inv X pins σ (upd H s.heap.objs.size (.tup [cV k,v])) {s with heap:=r3}:=
   J.RL (t':=s.toks) (ch:=[it]) (λb b2 I e=>(dM.2 b (by simpa using I)).trans (aw b b2 (by simpa using I) e)) hf (b5 _) new
  refine⟨.ref s.heap.objs.size,_,aP,rfl,⟨_,k,v,ol,rfl,J.ba.fresh (b5 _),rfl⟩,⟨key,u,?_⟩,λb I=>?_⟩
  ·rw[aC];exact iZ
  ·have e:b=it:=by simpa using I
   rw[e,aj (e8 cO)];exact(hf it (by simp)).1
 done:=by intro X fb hw d9 ai i pins s σ H E J hf st bK;subst fb hw d9;obtain⟨hd,aR⟩:=bK;obtain⟨f0,f1,f2,d8,f4,eU⟩:=hf it (by simp);obtain⟨aD,Nz,ao,rR,rP,vs,pC,hsz,bJ,hm⟩:=J.Fl hd;obtain⟨rfl,rfl⟩:=La sa pC;have aC:kvs.length=vs.length:=fu bJ;obtain⟨ok,ee,he⟩:=st;rw[aC] at he;exact wpAny_pyNext_items_end (J.ok.hd ai) he hm (Ae (by omega)) λh' dG=>⟨rfl,J.turned (t':=s.toks) (λb b2 I e=>dG b b2 I e) f0 f1 d8 f4 eU⟩
 self:=λA i s Q E st h=>let ⟨_,_,e⟩:=st;PySem.W.kcp_self e h
end
inductive Zni(R:iQ->ah->Prop)(x:V)(H1:ah):Prop|i(d)(o)(kvs)(_:x=.ref d)(_:H1 d=some (.eP o (.cq kvs)))(_:R (xa d o kvs) H1)
def Zn (eu:TE):TI:=λσ H R=>eu σ H (Zni R)
def acV {X:bq}{e:Expr}{eu:TE}{apos fj:Pos}{elts:List Expr}{e5:Nat}{oU:Pos}(he:bl X e eu)(yy:attributeBase e "items" X.env (eval e X.env)=eval e X.env:=by rfl)(yO:(apos.endLine==fj.line)=true:=by rfl):
  qo X (.Tuple elts e5 oU) (.Call (.Attribute e "items" apos) [] [] fj) (Zn eu):=by
 intro pins s σ H R J h;refine wpAny_Call_method (T:="dict") (id:="dict.items") yy rfl yO F.plainAttrs_dict F.slot_dict_items F.type_dict_items (bN (he pins s σ H _ J h) λu s1 ⟨x,H1,aP,bG,d,o,kvs,ex,hd,q⟩=>?_);subst ex;obtain rfl:u=Value.ref d:=bG;obtain⟨aD,Nz,ao,es,ep,vs,pC,hsz,bJ,hm⟩:=aP.Fl hd;have aC:kvs.length=vs.length:=fu bJ;refine⟨hm.dictOf.typeIs,hm.dictOf.mapOf.noDict,?_⟩;have bP:Inv X pins σ H1 {s1 with heap:=s1.heap.push {cls:=.type "dict_items",data:=.fields #[.ref d]}}:=aP.kept (t':=s1.toks) λb b2 q=>dx _ q;have fin:wpAny (model X.prog X.w) X.A (pyIter (.ref s1.heap.objs.size)) (Ed X pins σ (.Tuple elts e5 oU) R) X.cK {s1 with heap:=s1.heap.push {cls:=.type "dict_items",data:=.fields #[.ref d]}}:=by refine wpAny_pyIter_items (d:=d) (knd:=hN X.prog X.w) ⟨_,fM _ rfl,rfl,rfl⟩ (hm.push _) (Cz (tk:=s1.toks) bP _ (afF _ pC) ⟨.none,.none,?_⟩ q);rw[aC];exact fM _ rfl
 show wpAny _ _ (callWith fj (.builtin "dict.items") [.ref d] [] []) _ X.cK s1;exact method_meetsIn F.slot_dict_items F.entry_dict_items rfl (PySem.evalArgs_none ⟨rfl,hm.dictOf.typeIs,F.args_dict_items_1 _,_,meets_dict_items (hN X.prog X.w) d aD,⟨vs,hm.dictOf⟩,fin⟩)
def w' (K:PySem.W.Frag)(a:U):iQ:=
 ⟨λi H=>∃(xs:List V) (x:V),bA K H a xs/\xs[i]? =some x,λi H v ab=>∃T x,v=.ref T/\H T=none/\ab=upd H T (.tup [.int (i:Nat),x])/\∀xs,bA K H a xs->xs[i]? =some x,λi H=>∃xs:List V,bA K H a xs/\xs.length<=i⟩
def afE {P:bg}{w:bb}{K:PySem.W.Frag}{elts:List Expr}{e5:Nat}{oU:Pos}(a e it:U):
  rH P w K (.Tuple elts e5 oU) (w' K a) [e,it] e (λi h=>(∃old,IsEnum h e it ((i:Nat):Int) old)/\h.IsListIter it a i/\e≠it) where
 mem:=by simp
 obj:=λi h st b I=>by
  obtain⟨⟨old,he⟩,⟨o,aI,ai,hd⟩,_⟩:=st;have bV:b=e\/b=it:=by simpa using I
  rcases bV with z|z
  ·rw[z];exact⟨_,he,λv q=>nomatch q⟩
  ·rw[z];exact⟨o,aI,λv q=>by rw[hd] at q;cases q⟩
 keep:=λi h h' st k=>let ⟨⟨old,he⟩,aR,b9⟩:=st;⟨⟨old,k e (by simp) _ he⟩,aR.at λo q=>k it (by simp) o q,b9⟩
 item:=by
  intro X fb hw d9 ai i pins s σ H E J hf st bK;subst fb hw d9;obtain⟨⟨old,he⟩,hit,b9⟩:=st;obtain⟨xs,x,az,ao⟩:=bK;obtain⟨a3,cy,p,hz⟩:=J.list az;obtain⟨u,aW,c7⟩:=cy.get ao;have vv:e < s.heap.objs.size:=dc he;have vz:it < s.heap.objs.size:=by obtain⟨_,q,_⟩:=hit;exact dc q
  refine wpAny_pyNext_enum_item he hit p.isList (x:=u) (by simpa using aW) b9 λh' aI Yb bW hsz aw=>?_;refine⟨_,rfl,wpAny_letOwnedTupleGo_enum (s:={s with heap:=h',toks:=s.toks+1}) aI λr3 iZ dM=>?_⟩;have FD:r3.get? s.heap.objs.size=some {cls:=.type "tuple",data:=.seq #[.int i s.toks,u]}:=(dM.2 _ (iL vv)).trans bW;have new:dq X.prog X.w (upd H s.heap.objs.size (.tup [.int (i:Nat),x])) r3 s.heap.objs.size (.tup [.int (i:Nat),x]):=
   ⟨by show 2<=sizeLine;decide,[.int i s.toks,u],.cons ⟨_,rfl⟩ (.cons c7 .nil),⟨_,FD,rfl,_,rfl⟩⟩
  have aP:Inv X pins σ (upd H s.heap.objs.size (.tup [.int (i:Nat),x])) {s with heap:=r3,toks:=s.toks+1}:=
   J.RL (ch:=[e,it]) (λb b2 I q=>(dM.2 b (λz=>I (by simp[z]))).trans (aw b b2 (λz=>I (by simp[z])) (λz=>I (by simp[z])) q)) hf (b5 _) new
  refine⟨.ref s.heap.objs.size,_,aP,rfl,⟨_,x,rfl,J.ba.fresh (b5 _),rfl,λbO bk=>by rw[J.GO bk az];exact ao⟩,⟨⟨u,?_⟩,Yb.at λo q=>(dM.2 it (gL b9)).trans q,b9⟩,λb I=>?_⟩
  ·have aE:((i+1:Nat):Int)=(i:Int)+1:=by omega
   rw[aE];exact iZ
  ·have yv:b < s.heap.objs.size:=by
    have bV:b=e\/b=it:=by simpa using I
    rcases bV with z|z
    ·rw[z];exact vv
    ·rw[z];exact vz
   rw[aj (e8 yv)];exact(hf b I).1
 done:=by intro X fb hw d9 ai i pins s σ H E J hf st bK;subst fb hw d9;obtain⟨⟨old,he⟩,hit,b9⟩:=st;obtain⟨xs,az,ao⟩:=bK;obtain⟨a3,cy,p,hz⟩:=J.list az;obtain⟨f0,f1,f2,d8,f4,eU⟩:=hf it (by simp);have aC:=cy.length;exact wpAny_pyNext_enum_end (J.ok.hd ai) he hit p.isList (by simp;omega) λh' dG=>⟨rfl,J.turned (t':=s.toks) (λb o I q=>dG b o I q) f0 f1 d8 f4 eU⟩
 self:=λA i s Q E st h=>let ⟨⟨_,he⟩,_⟩:=st;wpAny_pyIter_enum he h
inductive Zmi(K:PySem.W.Frag)(R:iQ->ah->Prop)(vs:List V)(H1:ah):Prop|i(a)(xs)(_:vs=[.ref a])(_:bA K H1 a xs)(_:R (w' K a) H1)
def Zm (K:PySem.W.Frag)(aF:hq):TI:=λσ H R=>aF σ H (Zmi K R)
def P_ {X:bq}{e:Expr}{aF:hq}{p pos oU:Pos}{elts:List Expr}{e5:Nat}(bK:hV X "enumerate")(hm:X.ae "enumerate"=none)(al:fF X [e] aF)(aD:starEach [e] X.env=[(false,eval e X.env)]:=by rfl):
  qo X (.Tuple elts e5 oU) (.Call (.Name "enumerate" p) [e] [] pos) (Zm X.K aF):=by
 intro pins s σ H R J h;refine Call_ (sk J bK hm boot_enumerate (PyProof.Rows.callWith_type1 (bN (al pos pins s σ H _ J h) λus s1 ⟨vs,H1,aP,cj,aX⟩=>?_) aD rfl));obtain⟨a,xs,ex,az,q⟩:=aX;subst ex;cases cj with
 |cons r eb=>
  cases eb;cases r;obtain⟨a3,cy,ef,hz⟩:=aP.list az;refine call_enumerate_list ef.isList λh' he hit hsz aw=>wpAny_pyIter_enum he ?_;have bP:Inv X pins σ H1 {s1 with heap:=h'}:=aP.kept (t':=s1.toks) aw
  refine⟨s1.heap.objs.size+1,[s1.heap.objs.size+1,s1.heap.objs.size],_,_,H1,rfl,bP,afE a (s1.heap.objs.size+1) s1.heap.objs.size,⟨⟨.none,he⟩,hit,Nat.succ_ne_self _⟩,λb I=>?_,q⟩;have bV:b=s1.heap.objs.size+1\/b=s1.heap.objs.size:=by simpa using I
  have hle:s1.heap.objs.size<=b:=by
   rcases bV with z|z
   ·rw[z];exact s_ _ _
   ·rw[z];exact b5 _
  exact aP.xZ hle (aP.ba.fresh hle)
def Uh:bootBuiltins "zip"=some (.type "zip"):=by w_on
end aB
namespace R8
open PySem PyProof.Rows
end R8
namespace Tr
open PySem PySem.Builtin PySem.Builtin.Str PySem.StrLaws
end Tr
namespace aB
open PySem PySem.Spec PyProof.Rows
end aB
namespace R7
open PySem PySem.W PySem.Calls PyProof.Rows
end R7
namespace aB
open PySem PySem.Spec PyProof.Rows
def q1 (s:Stmt)(j:Nat):Stmt:=match s with
 |.ClassDef _ _ _ body _ _ _ _ _ _ _=>body.getD j (.Pass ⟨0,0,0,0⟩)
 |_=>.Pass ⟨0,0,0,0⟩
def mn (s:Stmt):Arguments:=match s with
 |.FunctionDef _ a _ _ _ _ _ _ _ _=>a
 |_=>{posonlyargs:=[],args:=[],vararg:=none,kwonlyargs:=[],kw_defaults:=[],kwarg:=none,defaults:=[]}
def kt (s:Stmt):List Stmt:=match s with
 |.FunctionDef _ _ b _ _ _ _ _ _ _=>b
 |_=>[]
def ct (s:Stmt):Scope:=match s with
 |.FunctionDef _ _ _ _ _ _ sc _ _ _=>sc
 |_=>{kind:=.function,names:=[],isGenerator:=false,isCoroutine:=false}
abbrev bc:hT:=λ_ _ _ _ _ _=>False
abbrev ti:fG:=λ_ _ _=>False
def cA:mf bc X ti:=λ_ _ _ _ _ _ _ h=>h.elim
structure dd (K:PySem.W.Frag)(x qual:Str)(st:Stmt)(f:U)(fd:b6):Prop where
 ex:∃(hP:af) (c9:Option U) (cV doc pm:af) (an:Option U) (bU dP:af) (kH:Array (Option af)),
  fd=fnOf x qual (mn st) (kt st) (ct st) .none cV doc pm an bU dP/\K.lookup f=some ⟨hP,c9,.func fd,kH⟩/\codeIn K bU qual=true
 bu:keepIn K (.ref f)=true
def dd.ok {P:bg}{w:bb}{K:PySem.W.Frag}{ae:Str->Option af}{base:a5}{x qual:Str}{st:Stmt}{f:U}{fd:b6}{N ps:List Str}{k:Nat}{sp:cD}(F:dd K x qual st f fd)(S:c3 N ps (ct st))
  (tR:∀(bU:af) (A:cU) (outer:List Env) (s:ar) (H:ah) (vs:List V) (Q:cM) (E:fG),c1 k (A.deeper (envOfC qual (ct st) s.heap.objs.size f bU))->sp vs H Q E->
   ∃t,e_ (j7 bc P w K ae base N qual (ct st) f bU A outer s H E).Ci (kt st) t/\t {cG:=λ_ ab=>Q .b1 ab,ia:=Q} (start N vs) H)
  (len:∀vs H Q E,sp vs H Q E->vs.length=ps.length:=by intro vs H Q E h;cases h;subst_vars;rfl):aQ P w K ae base bc (k+1) f fd ps sp:=by
 obtain⟨hP,c9,cV,doc,pm,an,bU,dP,kH,rfl,dD,lN⟩:=F.ex;refine Ff dD lN S len λA outer s H vs Q E au lT=>?_;obtain⟨t,h,q⟩:=tR bU A outer s H vs Q E au lT;exact⟨t,h.Ci,q⟩
def dd.binds {K:PySem.W.Frag}{x qual:Str}{st:Stmt}{f:U}{fd:b6}{ps:List Str}(F:dd K x qual st f fd)
  (h:∀(cV doc pm:af) (an:Option U) (bU dP:af) (us:List af),us.length=ps.length->bindArgs (fnOf x qual (mn st) (kt st) (ct st) .none cV doc pm an bU dP) ⟨us,[]⟩=pure (ps.zip us)):Binds K fd ps []:=by
 obtain⟨hP,c9,cV,doc,pm,an,bU,dP,kH,rfl,dD,lN⟩:=F.ex;exact .all (h cV doc pm an bU dP)
def MD {K:PySem.W.Frag}{x qual:Str}{st:Stmt}{f:U}{hP:af}{c9 an:Option U}{kH:Array (Option af)}{cV doc pm bU dP:af}(l:K.lookup f=some ⟨hP,c9,.func (fnOf x qual (mn st) (kt st) (ct st) .none cV doc pm an bU dP),kH⟩)
  (c:codeIn K bU qual=true) (k:keepIn K (.ref f)=true):dd K x qual st f (fnOf x qual (mn st) (kt st) (ct st) .none cV doc pm an bU dP):=⟨⟨hP,c9,cV,doc,pm,an,bU,dP,kH,rfl,l,c⟩,k⟩
def kB {k:Nat}(au:c1 k A):A.units+1 < cLine:=Nat.lt_of_le_of_lt (Nat.add_le_add_left (by decide:1<=64) _) au.units
def ag (i:Nat)(c6:X.N[i]? =some x:=by rfl)(bx:u' X.env.scope x:=by first|exact Or.inl rfl|exact Or.inr (Or.inl rfl)|exact Or.inr (Or.inr rfl))(hd:(x==("__debug__":Str))=false:=by decide)
  (lN:(x==("__classdict__":Str))=false:=by decide):bl X (.Name x pos) (eE i):=acT c6 bx hd lN
def EK:qe X (.builtin "len") (λxs H Q=>∃a kvs,xs=[V.ref a]/\H a=some (.cq kvs)/\Q (.int kvs.length) H):=by intro pins s σ H xs us Q J r h;obtain⟨a,kvs,rfl,al,q⟩:=h;obtain⟨u,rfl,c7⟩:=vals1 r;cases c7;exact UO J (.inl al) λt s' jK=>⟨.int kvs.length,H,jK,⟨t,rfl⟩,q⟩
def eS {A B:Prop}(h:B):if false=true then A else B:=by rw[aN gg];exact h
def d3 {A B:Prop}(h:A):if true=true then A else B:=by rw[aV rfl];exact h
def Gv {c A B:Prop}[Decidable c](aa:c->A)(ac:¬c->B):if c then A else B:=by
 by_cases h:c
 ·rw[aV h];exact aa h
 ·rw[aN h];exact ac h
def Oq {c A B:Prop}[Decidable c](ai:c)(h:B):if(!decide c)=true then A else B:=by rw[ej ai];exact eS h
def aA (H ab:ah):Prop:=∀b o,H b=some o->ab b=some o
def aA.trans (a:aA H H1)(b:aA H1 ap):aA H ap:=λc o h=>b c o (a c o h)
def aA.free (e:aA H ab)(h:ab l=Option.none):H l=Option.none:=by
 cases q:H l with
 |none=>rfl
 |some o=>rw[e l o q] at h;cases h
section
variable {κ:Type}[DecidableEq κ]
end
end aB
end
namespace aB
open PySem PySem.Spec PyProof.Rows
open PySem.W (WData Codec OpenSpec Well WellAll ReadsW ReadsAllW)
mutual
inductive e9 (K:PySem.W.Frag)(H:ah):V->WData->Prop
 |b1:e9 K H .b1 .none
 |bL (b:Bool):e9 K H (.bL b) (.bool b)
 |int (i:Int):e9 K H (.int i) (.int i)
 |str (x:Str):e9 K H (.str x) (.str x)
 |j5 (b:Array UInt8):e9 K H (.j5 b) (.bytes b.toList)
 |lst {a:U} {xs:List V} {ds:List WData}:bA K H a xs->m2 K H xs ds->e9 K H (.ref a) (.list ds)
 |tup {a:U} {xs:List V} {ds:List WData}:c5 K H a xs->m2 K H xs ds->e9 K H (.ref a) (.tuple ds)
inductive m2 (K:PySem.W.Frag)(H:ah):List V->List WData->Prop
 |nil:m2 K H [] []
 |cons {v:V} {vs:List V} {d:WData} {ds:List WData}:e9 K H v d->m2 K H vs ds->m2 K H (v::vs) (d::ds)
end
theorem Lm {K:PySem.W.Frag}{H:ah}:∀ns:List Int,m2 K H (ns.map V.int) (ns.map WData.int)
 |[]=>.nil
 |n::r=>.cons (.int n) (Lm r)
theorem Ol {K:PySem.W.Frag}{H:ah}:∀(ns:List Int) (xs:List V),m2 K H xs (ns.map WData.int)->xs=ns.map V.int
 |[],xs,h=>by cases h;rfl
 |n::r,xs,h=>by
  cases h with
  |cons aa ac=>cases aa;rw[Ol r _ ac]<;>rfl
def aeB {K:PySem.W.Frag}{h:a5}(ba:dN P w H h)(bZ:K.In h)(q:bA K H a xs):∃(a3:List af) (o:Obj) (n:Nat),b' xs a3/\h.get? a=some o/\o.cls=.type "list"/\o.data=.seq a3.toArray n:=by
 rcases q with q|⟨o,a3,n,e,ai,_,hd,_,bx⟩
 ·obtain⟨_,a3,n,bx,e⟩:=(show dq P w H h a (.lst xs) from q.ok ba);exact⟨a3,_,n,bx,e,rfl,rfl⟩
 ·exact⟨a3.toList,o,n,bx,bZ _ _ e,ai,by simp[hd]⟩
def aeC {K:PySem.W.Frag}{h:a5}(ba:dN P w H h)(bZ:K.In h)(q:c5 K H a xs):∃(a3:List af) (o:Obj) (n:Nat),b' xs a3/\h.get? a=some o/\o.cls=.type "tuple"/\o.data=.seq a3.toArray n:=by
 rcases q with q|⟨o,a3,n,e,ai,hd,_,bx⟩
 ·obtain⟨_,a3,bx,o,e,ai,n,hd⟩:=(show dq P w H h a (.tup xs) from q.ok ba);exact⟨a3,o,n,bx,e,ai,hd⟩
 ·exact⟨a3.toList,o,n,bx,bZ _ _ e,ai,by simp[hd]⟩
mutual
theorem e9.reads {K:PySem.W.Frag}(ba:dN P w H h)(bZ:K.In h):∀(d:WData) (v:V) (u:af),e9 K H v d->RelV v u->∃as,ReadsW R cl h u d as
 |.none,_,_,x,r=>by cases x;cases r;exact⟨_,ReadsW.none⟩
 |.bool b,_,_,x,r=>by cases x;cases r;exact⟨_,ReadsW.bool b⟩
 |.int i,_,_,x,r=>by cases x;obtain⟨t,rfl⟩:=r;exact⟨_,ReadsW.int i t⟩
 |.str s,_,_,x,r=>by cases x;obtain⟨t,rfl⟩:=r;exact⟨_,ReadsW.str s t⟩
 |.bytes b,_,_,x,r=>by cases x;obtain⟨t,rfl⟩:=r;exact⟨_,ReadsW.bytes _ t⟩
 |.list ds,_,_,x,r=>by
  cases x with
  |lst aD al=>cases r;obtain⟨a3,o,n,cy,aI,ai,hd⟩:=aeB ba bZ aD;obtain⟨as,au⟩:=e9.readsAll ba bZ ds _ a3 al cy;exact⟨_,ReadsW.list aI ai hd au⟩
 |.tuple ds,_,_,x,r=>by
  cases x with
  |tup aD al=>cases r;obtain⟨a3,o,n,cy,aI,ai,hd⟩:=aeC ba bZ aD;obtain⟨as,au⟩:=e9.readsAll ba bZ ds _ a3 al cy;exact⟨_,ReadsW.tuple aI ai hd au⟩
 |.float _,_,_,x,_=>by cases x
 |.dict _,_,_,x,_=>by cases x
 |.bytearray _,_,_,x,_=>by cases x
 |.set _,_,_,x,_=>by cases x
 |.frozenset _,_,_,x,_=>by cases x
 |.obj _ _,_,_,x,_=>by cases x
theorem e9.readsAll {K:PySem.W.Frag}(ba:dN P w H h)(bZ:K.In h):∀(ds:List WData) (vs:List V) (us:List af),m2 K H vs ds->b' vs us->∃as,ReadsAllW R cl h us ds as
 |[],_,_,x,r=>by cases x;cases r;exact⟨_,ReadsAllW.nil⟩
 |d::ds,_,_,x,r=>by
  cases x with
  |cons aa ac=>
   cases r with
   |cons cj dB=>obtain⟨as,aX⟩:=e9.reads ba bZ d _ _ aa cj;obtain⟨bs,bt⟩:=e9.readsAll ba bZ ds _ _ ac dB;exact⟨_,ReadsAllW.cons aX bt⟩
end
mutual
def lY:WData->Bool
 |.none=>true
 |.bool _=>true
 |.int _=>true
 |.str _=>true
 |.bytes _=>true
 |.list xs=>nB xs
 |.tuple xs=>nB xs
 |_=>false
def nB:List WData->Bool
 |[]=>true
 |x::r=>lY x&&nB r
end
theorem Qb {f:α->WData}(h:∀a,lY (f a)=true):∀l:List α,nB (l.map f)=true
 |[]=>rfl
 |x::r=>by show(lY (f x)&&nB (r.map f))=true;rw[h x,Qb h r]<;>rfl
theorem sH:∀(c:Codec) (a:c.denote),lY (c.enc a)=true
 |.unit,_=>rfl
 |.bool,_=>rfl
 |.int _ _,_=>rfl
 |.nat _ _,_=>rfl
 |.u8,_=>rfl
 |.bytes _ _,_=>rfl
 |.text _ _ _ _,_=>rfl
 |.list _ _ c,a=>Qb (λx=>sH c x) a
 |.pair c d,a=>by show(lY (c.enc a.1)&&(lY (d.enc a.2)&&true))=true;rw[sH c a.1,sH d a.2]<;>rfl
 |.triple c d e,a=>by show(lY (c.enc a.1)&&(lY (d.enc a.2.1)&&(lY (e.enc a.2.2)&&true)))=true;rw[sH c a.1,sH d a.2.1,sH e a.2.2]<;>rfl
 |.option c,none=>rfl
 |.option c,some x=>sH c x
theorem Qc:∀(cs:List Codec) (a:Codec.denoteAll cs),nB (Codec.encAll cs a)=true
 |[],_=>rfl
 |c::cs,a=>by show(lY (c.enc a.1)&&nB (Codec.encAll cs a.2))=true;rw[sH c a.1,Qc cs a.2]<;>rfl
theorem Jg:∀{xs:List WData} {d:WData},d∈xs->d.weight<=WData.weightAll xs
 |[],d,h=>absurd h (by simp)
 |x::r,d,h=>by
  show d.weight<=x.weight+1+WData.weightAll r;rcases cr.mp h with e|m
  ·rw[e];omega
  ·have z:=Jg m;omega
def toV:af->V
 |.none=>.b1
 |.bool b=>.bL b
 |.int i _=>.int i
 |.str x _=>.str x
 |.bytes b _=>.j5 b
 |.ref a=>.ref a
 |_=>.b1
def me (A:List U):af->Prop
 |.none=>True
 |.bool _=>True
 |.int _ _=>True
 |.str _ _=>True
 |.bytes _ _=>True
 |.ref a=>a∈A
 |_=>False
def me.mono (h:∀a∈A,a∈B):∀{u:af},me A u->me B u:=λ{u} x=>by
 cases u with
 |ref a=>exact h a x
 |none=>trivial
 |bool b=>trivial
 |int i t=>trivial
 |str s t=>trivial
 |bytes b t=>trivial
 |_=>exact False.elim x
def adz (x:me A u):RelV (toV u) u:=by
 cases u with
 |ref a=>rfl
 |none=>rfl
 |bool b=>rfl
 |int i t=>exact⟨t,rfl⟩
 |str s t=>exact⟨t,rfl⟩
 |bytes b t=>exact⟨t,rfl⟩
 |_=>exact False.elim x
theorem wL:∀{vs:List af},(∀u∈vs,me A u)->b' (vs.map toV) vs
 |[],_=>.nil
 |u::r,h=>.cons (adz (h u (dW ..))) (wL λx ao=>h x (d7 _ ao))
def mZ (h:a5)(A:List U)(a:U):Prop:=∃vs:List af,vs.length<=sizeLine/\(∀u∈vs,me A u)/\
 (h.get? a=some {cls:=.type "list",data:=.seq vs.toArray}\/h.get? a=some {cls:=.type "tuple",data:=.seq vs.toArray})
def mZ.mono (k:∀a∈A,a∈B)(x:mZ h A a):mZ h B a:=by obtain⟨vs,aa,ac,av⟩:=x;exact⟨vs,aa,λu aW=>(ac u aW).mono k,av⟩
theorem DC:∀{vs:List af} {ds:List WData},WellAll P h vs ds->vs.length=ds.length
 |_,_,.nil=>rfl
 |_,_,.cons _ b=>by show _+1=_+1;rw[DC b]
def RX (x:Well P h v (.list ds)):∃(a:U) (vs:List af),v=.ref a/\h.get? a=some {cls:=.type "list",data:=.seq vs.toArray}/\WellAll P h vs ds:=by
 cases x with
 |list aI fk=>exact⟨_,_,rfl,aI,fk⟩
def RY (x:Well P h v (.tuple ds)):∃(a:U) (vs:List af),v=.ref a/\h.get? a=some {cls:=.type "tuple",data:=.seq vs.toArray}/\WellAll P h vs ds:=by
 cases x with
 |tuple aI fk=>exact⟨_,_,rfl,aI,fk⟩
def RW (x:WellAll P h us (d::ds)):∃(v:af) (vs:List af),us=v::vs/\Well P h v d/\WellAll P h vs ds:=by
 cases x with
 |cons a b=>exact⟨_,_,rfl,a,b⟩
def OK {n:Nat}(h:n<=1048576):n<=sizeLine:=gC h (by decide)
mutual
theorem TS:∀(d:WData) (v:af),Well P h v d->lY d=true->d.weight<=1048576->∃A:List U,me A v/\∀a∈A,mZ h A a
 |.none,_,x,_,_=>by cases x;exact⟨[],trivial,λa m=>absurd m (by simp)⟩
 |.bool b,_,x,_,_=>by cases x;exact⟨[],trivial,λa m=>absurd m (by simp)⟩
 |.int i,_,x,_,_=>by cases x;exact⟨[],trivial,λa m=>absurd m (by simp)⟩
 |.str s,_,x,_,_=>by cases x;exact⟨[],trivial,λa m=>absurd m (by simp)⟩
 |.bytes b,_,x,_,_=>by cases x;exact⟨[],trivial,λa m=>absurd m (by simp)⟩
 |.list ds,_,x,p,z=>by
  obtain⟨a,vs,rfl,aI,fk⟩:=RX x;have cx:WData.weightAll ds<=1048576:=z;obtain⟨A,aa,ac⟩:=AP ds _ fk p λd hd=>gC (Jg hd) cx;have k:∀b∈A,b∈a::A:=λb I=>d7 _ I;refine⟨a::A,dW ..,λb I=>?_⟩;rcases cr.mp I with e|m
  ·rw[e];exact⟨vs,OK (by rw[DC fk];exact gC (PySem.W.length_le_weightAllW ds) cx),λu aW=>(aa u aW).mono k,.inl aI⟩
  ·exact(ac b m).mono k
 |.tuple ds,_,x,p,z=>by
  obtain⟨a,vs,rfl,aI,fk⟩:=RY x;have cx:WData.weightAll ds<=1048576:=z;obtain⟨A,aa,ac⟩:=AP ds _ fk p λd hd=>gC (Jg hd) cx;have k:∀b∈A,b∈a::A:=λb I=>d7 _ I;refine⟨a::A,dW ..,λb I=>?_⟩;rcases cr.mp I with e|m
  ·rw[e];exact⟨vs,OK (by rw[DC fk];exact gC (PySem.W.length_le_weightAllW ds) cx),λu aW=>(aa u aW).mono k,.inr aI⟩
  ·exact(ac b m).mono k
 |.float _,_,_,p,_=>Bool.noConfusion (show false=true from p)
 |.dict _,_,_,p,_=>Bool.noConfusion (show false=true from p)
 |.bytearray _,_,_,p,_=>Bool.noConfusion (show false=true from p)
 |.set _,_,_,p,_=>Bool.noConfusion (show false=true from p)
 |.frozenset _,_,_,p,_=>Bool.noConfusion (show false=true from p)
 |.obj _ _,_,_,p,_=>Bool.noConfusion (show false=true from p)
theorem AP:∀(ds:List WData) (vs:List af),WellAll P h vs ds->nB ds=true->(∀d∈ds,d.weight<=1048576)->∃A:List U,(∀u∈vs,me A u)/\∀a∈A,mZ h A a
 |[],_,x,_,_=>by cases x;exact⟨[],λu m=>absurd m (by simp),λa m=>absurd m (by simp)⟩
 |d::ds,_,x,p,z=>by
  obtain⟨v,vs,rfl,x1,x2⟩:=RW x;have q:lY d=true/\nB ds=true:=Bool.and_eq_true_iff.mp p;obtain⟨A,a1,a2⟩:=TS d v x1 q.1 (z d (dW ..));obtain⟨B,gM,gD⟩:=AP ds vs x2 q.2 λe he=>z e (d7 _ he);have Ov:∀b∈A,b∈A++B:=λb I=>di.mpr (.inl I);have Ow:∀b∈B,b∈A++B:=λb I=>di.mpr (.inr I);refine⟨A++B,λu aW=>?_,λb I=>?_⟩
  ·rcases cr.mp aW with e|m
   ·rw[e];exact a1.mono Ov
   ·exact(gM u m).mono Ow
  ·rcases di.mp I with m|m
   ·exact(a2 b m).mono Ov
   ·exact(gD b m).mono Ow
end
def BH (o:Obj):Option c0:=match o.data with
 |.seq vs _=>if(o.cls==Value.type "list")=true then some (.eP o (.lst (vs.toList.map toV))) else some (.eP o (.tup (vs.toList.map toV)))
 |_=>none
def jl (K:PySem.W.Frag)(h:a5)(A:List U):ah:=λb=>if b∈A then(if(K.lookup b).isNone=true then(h.get? b).bind BH else none) else none
def xl (H:ah):Prop:=∀b,H b=none\/∃o u,H b=some (.eP o u)
def NQ (vs:List af):BH {cls:=.type "list",data:=.seq vs.toArray}=some (.eP {cls:=.type "list",data:=.seq vs.toArray} (.lst (vs.map toV))):=by show(if(Value.type "list"==Value.type "list")=true then some (c0.eP {cls:=.type "list",data:=.seq vs.toArray} (.lst (vs.toArray.toList.map toV))) else some (c0.eP {cls:=.type "list",data:=.seq vs.toArray} (.tup (vs.toArray.toList.map toV))))=_;rw[aV (beq_self_eq_true _)]
def NR (vs:List af):BH {cls:=.type "tuple",data:=.seq vs.toArray}=some (.eP {cls:=.type "tuple",data:=.seq vs.toArray} (.tup (vs.map toV))):=by show(if(Value.type "tuple"==Value.type "list")=true then some (c0.eP {cls:=.type "tuple",data:=.seq vs.toArray} (.lst (vs.toArray.toList.map toV))) else some (c0.eP {cls:=.type "tuple",data:=.seq vs.toArray} (.tup (vs.toArray.toList.map toV))))=_;rw[aN (by decide)]
def AQ {K:PySem.W.Frag}{h:a5}(I:b∈A)(aw:K.lookup b=none)(e:h.get? b=some o):jl K h A b=BH o:=by unfold jl;rw[aV I,aw,aV (show(none:Option Obj).isNone=true from rfl),e]<;>rfl
def abC {K:PySem.W.Frag}(q:jl K h A b=some u):b∈A/\K.lookup b=none:=by
 unfold jl at q;by_cases I:b∈A
 ·rw[aV I] at q;cases aw:K.lookup b with
  |none=>exact⟨I,rfl⟩
  |some o=>rw[aw,aN (by simp)] at q;cases q
 ·rw[aN I] at q;cases q
def AR {K:PySem.W.Frag}{h:a5}(hH:∀a∈A,mZ h A a)(q:jl K h A b=some u):K.lookup b=none/\∃vs:List af,vs.length<=sizeLine/\(∀u∈vs,me A u)/\
  ((h.get? b=some {cls:=.type "list",data:=.seq vs.toArray}/\u=.eP {cls:=.type "list",data:=.seq vs.toArray} (.lst (vs.map toV)))\/
   (h.get? b=some {cls:=.type "tuple",data:=.seq vs.toArray}/\u=.eP {cls:=.type "tuple",data:=.seq vs.toArray} (.tup (vs.map toV)))):=by
 obtain⟨I,aw⟩:=abC q;obtain⟨vs,aa,ac,av⟩:=hH b I;refine⟨aw,vs,aa,ac,?_⟩;rcases av with e|e
 ·rw[AQ I aw e,NQ] at q;exact .inl ⟨e,(dZ q).symm⟩
 ·rw[AQ I aw e,NR] at q;exact .inr ⟨e,(dZ q).symm⟩
def TV {K:PySem.W.Frag}{h:a5}{A:List U}(hH:∀a∈A,mZ h A a):xl (jl K h A):=λb=>by
 cases q:jl K h A b with
 |none=>exact .inl rfl
 |some u=>
  obtain⟨_,vs,_,_,⟨_,e⟩|⟨_,e⟩⟩:=AR hH q
  ·exact .inr ⟨_,_,by rw[e]⟩
  ·exact .inr ⟨_,_,by rw[e]⟩
def TU {P:bg}{w:bb}{K:PySem.W.Frag}{h:a5}{A:List U}(hH:∀a∈A,mZ h A a):dN P w (jl K h A) h:=λb u q=>by
 obtain⟨_,vs,aa,ac,⟨e,rfl⟩|⟨e,rfl⟩⟩:=AR hH q
 ·exact⟨e,by rw[cc];exact aa,vs,_,wL ac,e⟩
 ·exact⟨e,by rw[cc];exact aa,vs,wL ac,_,e,rfl,_,rfl⟩
def C5 {vs us:List af}(e:(some {cls:=c,data:=.seq vs.toArray}:Option Obj)=some {cls:=b7,data:=.seq us.toArray}):c=b7/\vs=us:=by have aE:=dZ e;have aL:c=b7:=iM Obj.cls aE;have bI:Data.seq vs.toArray=Data.seq us.toArray:=iM Obj.data aE;injection bI with gO;refine⟨aL,?_⟩;have qB:=iM Array.toList gO;simpa using qB
def TW {K:PySem.W.Frag}{h:a5}(bZ:K.In h)(hH:∀a∈A,mZ h A a){vs:List af}(al:a∈A)(e:h.get? a=some {cls:=.type "list",data:=.seq vs.toArray}):(∀u∈vs,me A u)/\bA K (jl K h A) a (vs.map toV):=by
 obtain⟨us,aa,ac,av⟩:=hH a al;have aW:us=vs:=by
  rcases av with q|q
  ·rw[e] at q;exact(C5 q).2.symm
  ·rw[e] at q;exact absurd (Value.type.inj (C5 q).1) (by decide)
 subst aW;refine⟨ac,?_⟩;cases aw:K.lookup a with
 |none=>exact .inl (.inr ⟨_,by rw[AQ al aw e,NQ]⟩)
 |some o=>have aL:=bZ a o aw;rw[e] at aL;obtain rfl:=dZ aL;exact .inr ⟨_,us.toArray,_,aw,rfl,rfl,rfl,by rw[fL];exact aa,by simpa using wL ac⟩
def TX {K:PySem.W.Frag}{h:a5}(bZ:K.In h)(hH:∀a∈A,mZ h A a){vs:List af}(al:a∈A)(e:h.get? a=some {cls:=.type "tuple",data:=.seq vs.toArray}):(∀u∈vs,me A u)/\c5 K (jl K h A) a (vs.map toV):=by
 obtain⟨us,aa,ac,av⟩:=hH a al;have aW:us=vs:=by
  rcases av with q|q
  ·rw[e] at q;exact absurd (Value.type.inj (C5 q).1) (by decide)
  ·rw[e] at q;exact(C5 q).2.symm
 subst aW;refine⟨ac,?_⟩;cases aw:K.lookup a with
 |none=>exact .inl (.inr ⟨_,by rw[AQ al aw e,NR]⟩)
 |some o=>have aL:=bZ a o aw;rw[e] at aL;obtain rfl:=dZ aL;exact .inr ⟨_,us.toArray,_,aw,rfl,rfl,by rw[fL];exact aa,by simpa using wL ac⟩
mutual
theorem U6 {K:PySem.W.Frag}(bZ:K.In h)(hH:∀a∈A,mZ h A a):∀(d:WData) (v:af),Well Ef h v d->lY d=true->me A v->e9 K (jl K h A) (toV v) d
 |.none,_,x,_,_=>by cases x;exact .b1
 |.bool b,_,x,_,_=>by cases x;exact .bL b
 |.int i,_,x,_,_=>by cases x;exact .int i
 |.str s,_,x,_,_=>by cases x;exact .str s
 |.bytes b,_,x,_,_=>by cases x;have z:=e9.j5 (K:=K) (H:=jl K h A) b.toArray;exact z
 |.list ds,_,x,p,aW=>by obtain⟨a,vs,rfl,aI,fk⟩:=RX x;obtain⟨ac,aD⟩:=TW bZ hH aW aI;exact .lst aD (A9 bZ hH ds _ fk p ac)
 |.tuple ds,_,x,p,aW=>by obtain⟨a,vs,rfl,aI,fk⟩:=RY x;obtain⟨ac,aD⟩:=TX bZ hH aW aI;exact .tup aD (A9 bZ hH ds _ fk p ac)
 |.float _,_,_,p,_=>Bool.noConfusion (show false=true from p)
 |.dict _,_,_,p,_=>Bool.noConfusion (show false=true from p)
 |.bytearray _,_,_,p,_=>Bool.noConfusion (show false=true from p)
 |.set _,_,_,p,_=>Bool.noConfusion (show false=true from p)
 |.frozenset _,_,_,p,_=>Bool.noConfusion (show false=true from p)
 |.obj _ _,_,_,p,_=>Bool.noConfusion (show false=true from p)
theorem A9 {K:PySem.W.Frag}(bZ:K.In h)(hH:∀a∈A,mZ h A a):∀(ds:List WData) (vs:List af),WellAll Ef h vs ds->nB ds=true->(∀u∈vs,me A u)->m2 K (jl K h A) (vs.map toV) ds
 |[],_,x,_,_=>by cases x;exact .nil
 |d::ds,_,x,p,aW=>by obtain⟨v,vs,rfl,x1,x2⟩:=RW x;have q:lY d=true/\nB ds=true:=Bool.and_eq_true_iff.mp p;exact .cons (U6 bZ hH d v x1 q.1 (aW _ (dW ..))) (A9 bZ hH ds vs x2 q.2 λu m=>aW u (d7 _ m))
end
def aeA {w:bb}{K:PySem.W.Frag}{ae so:Str->Option af}{k:Nat}{ps:List Str}{s₁:ar}{ds:List WData}{cl:Str->Option U}
  (bZ:K.In s₁.heap) (vD:s₁.heap.Ns mainGlobals ae) (I:s₁.heap.Ns builtinsNs so) (XG:∀x:Str,x≠"__name__"->so x=bootBuiltins x) (Yk:s₁.heap.NoLimit) (bK:s₁.gens=#[])
  (t7:WellAll w.params s₁.heap vals ds) (jt:nB ds=true) (ot:∀d∈ds,d.weight<=1048576) (au:c1 k callerA)
  (F:∀base:a5,K.In base->base.Ns mainGlobals ae->aQ P w K ae base CX k bS fd ps sp) (XH:∀(s:ar) (us:List af),us.length=ps.length->BindsTo s fd ⟨us,[]⟩ (ps.zip us)) (d2:ds.length=ps.length)
  (lT:∀(H:ah) (xs:List V),xl H->m2 K H xs ds->sp xs H (λv ab=>e9 K ab v d0) λ_ _ _=>False)
  (yg:∀H e s',CX [] H s₁ (λ_ _ _=>False) e s'->False):
  codeAny (model P w) callerA (.call (.ref bS) ⟨vals,[]⟩) (λr s'=>∃u as,r=.ok (.ret u)/\ReadsW R cl s'.heap u d0 as/\OldK s₁.heap s'.heap/\s'.os=s₁.os/\AllBare s'.gens) s₁:=by
 obtain⟨A,aI,hH⟩:=AP ds vals t7 jt ot;have d_:xl (jl K s₁.heap A):=TV hH;have ba:dN P w (jl K s₁.heap A) s₁.heap:=TU hH;have gR:=A9 bZ hH ds vals t7 jt aI;have XA:=wL aI;have d9:∀b u,jl K s₁.heap A b=some u->K.lookup b=none:=λb u q=>(AR hH q).1;have v7:∀{b:U} {o:Obj} {es:Array kU} {ep:Nat},s₁.heap.get? b=some o->o.data=.dict es ep->jl K s₁.heap A b=none:=λ{b o es ep} e d=>by
  cases q:jl K s₁.heap A b with
  |none=>rfl
  |some u=>
   obtain⟨_,vs,_,_,⟨aL,_⟩|⟨aL,_⟩⟩:=AR hH q
   ·rw[aL] at e;cases e;have d':Data.seq vs.toArray _=Data.dict es ep:=d;cases d'
   ·rw[aL] at e;cases e;have d':Data.seq vs.toArray _=Data.dict es ep:=d;cases d'
 generalize jl K s₁.heap A=H at d_ ba gR d9 v7;have Kz:∀{b:U} {o:Obj},s₁.heap.get? b=some o->H b=none->(qQ s₁.heap H).get? b=some o:=λe n=>X_ e n;have Cj:∀{b:U} {m:Str->Option af},s₁.heap.Ns b m->(qQ s₁.heap H).Ns b m:=λ{b m} ⟨o,es,ep,e,d,r⟩=>⟨o,es,ep,Kz e (v7 e d),d,r⟩;have ue:∀b o,K.lookup b=some o->H b=none:=λb o e=>by
  cases q:H b with
  |none=>rfl
  |some u=>rw[d9 b u q] at e;cases e
 have MZ:K.In (qQ s₁.heap H):=λb o e=>Kz (bZ b o e) (ue b o e);have yl:Mod K ae (qQ s₁.heap H):=⟨MZ,Cj vD,⟨so,Cj I,XG⟩,let ⟨GY,aa,ac⟩:=Yk;⟨GY,Cj aa,ac⟩⟩;have dF:tj P w K ae (qQ s₁.heap H) callerA [] s₁ H:=⟨rfl,yl,λb o e=>abD e,le_of_eq (X' _ _),trivial,λb I=>absurd (show b∈([]:List U) from I) (by simp),ba,.of_eq bK⟩;have aC:vals.length=ps.length:=by rw[DC t7];exact d2
 refine codeAny_mono ((F _ MZ (Cj vD)).run callerA [] s₁ H ⟨vals,[]⟩ vals (vals.map toV) _ _ au dF (XH s₁ vals aC) XA (lT H _ d_ gR)) λr s' x=>?_;cases r with
 |error e=>exact(yg H e s' x).elim
 |ok fa=>
  cases fa with
  |next=>exact False.elim x
  |brk=>exact False.elim x
  |cont=>exact False.elim x
  |ret u=>
   obtain⟨v,ab,os,bare,un,NU,b8,q⟩:=x;have kept:∀b o,s₁.heap.get? b=some o->s'.heap.get? b=some o:=λb o e=>by
    cases bt:H b with
    |none=>exact un.keep b o e bt (by intro z;exact absurd (show b∈([]:List U) from z) (by simp)) (by simp)
    |some kM=>
     rcases d_ b with z|⟨b2,I_,z⟩
     ·rw[bt] at z;cases z
     ·have cx:=un.mv b b2 _ z;obtain⟨aE,_⟩:=ba b _ z;obtain⟨aL,_⟩:=NU b _ cx;rw[e] at aE;cases aE;exact aL
   have S9:K.In s'.heap:=λb o e=>kept b o (bZ b o e);obtain⟨as,fl⟩:=e9.reads (R:=R) (cl:=cl) NU S9 d0 v u q b8;exact⟨u,as,rfl,fl,OldK.of_keep kept,os,bare⟩
def Z1 (h:WData.layableAll ds=true):∀d∈ds,d.weight<=1048576:=λd hd=>
 (PySem.W.layableW_iff.mp (sY.mp h d hd)).2.2
theorem Lw:∀(cs:List Codec) (a:Codec.denoteAll cs),(Codec.encAll cs a).length=cs.length
 |[],_=>rfl
 |c::cs,a=>by show(Codec.encAll cs a.2).length+1=cs.length+1;rw[Lw cs a.2]
def afU {r:OpenSpec}{k:Nat}{Er:(Str->Option af)->a5->Prop}{tv:bb->a5->Prop}{d:DefRec}{K:Params->PySem.W.Frag}{CX:bb->hT}{ps:List Str}{sp:bb->cD}
  (Gk:r.wellSaid=true) (No:d.params.defaults=[]) (d2:r.args.length=ps.length) (au:c1 k callerA)
  (FE:∀(w:bb) (h:a5),tv w h->(K w.params).In h)
  (F:∀(w:bb) (ae:Str->Option af) (bS:U) (h:a5),tv w h->(K w.params).In h->h.Ns mainGlobals ae->ae d.name=some (.ref bS)->
   ∃fd:b6,(∀(s:ar) (us:List af),us.length=ps.length->BindsTo s fd ⟨us,[]⟩ (ps.zip us))/\
    ∀base:a5,(K w.params).In base->base.Ns mainGlobals ae->aQ r.prog w (K w.params) ae base (CX w) k bS fd ps (sp w))
  (lT:∀(w:bb) (H:ah) (xs:List V) (a:Codec.denoteAll r.args),xl H->Codec.withinAll r.args a=true->Codec.app r.args r.asked a=true->m2 (K w.params) H xs (Codec.encAll r.args a)->
   sp w xs H (λv ab=>e9 (K w.params) ab v (r.ret.enc (Codec.app r.args r.f a))) λ_ _ _=>False)
  (yg:∀(w:bb) (H:ah) (s:ar) (e:af) (s':ar),CX w [] H s (λ_ _ _=>False) e s'->False):
  WalkOS q loose Er tv r d [] (λf vs=>PySem.call f vs):=by
 intro w iF s₁ ae so G Y bS o pm cd doc EX cV aI hd lN fw F3 bK args vals as qW Yj fl t7 iB;obtain⟨a,aE,aL⟩:=PySem.W.os_pre_some qW;obtain⟨bI,Gm⟩:=Codec.encAll_of_decAll r.args args a aE;subst bI;have bZ:=FE w _ Y;obtain⟨fd,I,eQ⟩:=F w ae bS _ Y bZ G.T.g F3;refine PySem.W.enter_call (codeAny_mono (aeA (R:=[]) (cl:=classAt iF.heap) (d0:=r.ret.enc (Codec.app r.args r.f a)) bZ G.T.g G.T.b G.T.builtins G.T.nolimit bK t7 (Qc _ _) (Z1 Yj) au eQ I (by rw[Lw];exact d2)
  (λH xs d_ gR=>lT w H xs a d_ Gm aL gR) λH e s'=>yg w H s₁ e s') λb8 s' az=>?_)
 obtain⟨u,TY,rfl,aa,ac,av,bn⟩:=az;exact⟨.inl ⟨u,_,TY,rfl,λ_=>rfl,aa,(OpenSpec.post_iff Gk Gm _ _).mpr rfl,λz=>Bool.noConfusion (show false=true from z)⟩,ac,av,bn⟩
def afV {r:OpenSpec}{k:Nat}{Er:(Str->Option af)->a5->Prop}{tv:bb->a5->Prop}{d:DefRec}{K:Params->PySem.W.Frag}{ps:List Str}{sp:PySem.W.Frag->cD}
  (Gk:r.wellSaid=true) (No:d.params.defaults=[]) (d2:r.args.length=ps.length) (au:c1 k callerA)
  (FE:∀(w:bb) (h:a5),tv w h->(K w.params).In h)
  (F:∀(w:bb) (ae:Str->Option af) (bS:U) (h:a5),tv w h->(K w.params).In h->h.Ns mainGlobals ae->ae d.name=some (.ref bS)->
   ∃fd:b6,(∀(s:ar) (us:List af),us.length=ps.length->BindsTo s fd ⟨us,[]⟩ (ps.zip us))/\
    ∀base:a5,(K w.params).In base->base.Ns mainGlobals ae->aQ r.prog w (K w.params) ae base CX k bS fd ps (sp (K w.params)))
  (lT:∀(K:PySem.W.Frag) (H:ah) (xs:List V) (a:Codec.denoteAll r.args),xl H->Codec.withinAll r.args a=true->Codec.app r.args r.asked a=true->m2 K H xs (Codec.encAll r.args a)->
   sp K xs H (λv ab=>e9 K ab v (r.ret.enc (Codec.app r.args r.f a))) λ_ _ _=>False)
  (yg:∀(H:ah) (s:ar) (e:af) (s':ar),CX [] H s (λ_ _ _=>False) e s'->False):
  WalkOS q loose Er tv r d [] (λf vs=>PySem.call f vs):=
 afU (K:=K) (CX:=λ_=>CX) (sp:=λw=>sp (K w.params)) Gk No d2 au FE F (λw H xs a aa ac av bn=>lT (K w.params) H xs a aa ac av bn) λ_ H s e s'=>yg H s e s'
end aB
namespace il
open PySem
open Builtin Builtin.ObjectAttr
def Ts (B h:a5)(e:U)(fa:af):Prop:=∃eT vs,h.get? e=some eT/\eT.data=.fields vs/\1 < vs.size/\
 ((vs[1]? =some .none/\fa=.none)\/∃T Co bC,vs[1]? =some (.ref T)/\B.get? T=none/\T≠e/\h.get? T=some Co/\Co.data=.fields bC/\bC[3]? =some fa)
def mh (h h':a5)(e:U):Prop:=∀eT vs,h.get? e=some eT->eT.data=.fields vs->∃rp,h'.get? e=some {eT with data:=.fields rp}/\rp.size=vs.size
def mh.refl (h:a5)(e:U):mh h h e:=λeT vs q d=>⟨vs,by rw[q,<-d],rfl⟩
def mh.trans (a:mh aa ac e)(b:mh ac av e):mh aa av e:=λeT vs q d=>by obtain⟨afQ,aX,cv⟩:=a eT vs q d;obtain⟨afR,bt,cx⟩:=b _ afQ aX rfl;exact⟨afR,bt,cx.trans cv⟩
structure m3 (B:a5)(l:List Env)(e:U)(fa:af)(h:a5):Prop where
 st:B.StaysIn h
 ne:B.get? e=none
 fr:h.FunFrames B l
 a4:Ts B h e fa
def aav (h:o.data=.fields vs)(f:Array af->Array af):Obj.mapFields f o={o with data:=.fields (f vs)}:=by obtain⟨c,d,vi,bh⟩:=o;cases h;rfl
def LD {A:cU}{s:ar}{B:a5}{env:Env}{eT:Obj}{vs:Array af}{vt:Bool}(e2:A.frames=some (env::outer))(eQ:s.heap.FunFrames B (env::outer))(cT:env.frame=some L)
  (q:s.heap.get? e=some eT) (st:B.StaysIn s.heap) (ne:B.get? e=none) (d:eT.data=.fields vs) (z:1 < vs.size)
  (k:∀h',m3 B (env::outer) e (rawInt L) h'->s.heap.UpToSlots h'->mh s.heap h' e->Q () {s with heap:=h'}):
  wpAny M A (do
   let a <-frameOf env
   let pl <-entryPlaceOf L vt
   let b <-EntryCells.newEntry head a .none (rawInt L) .none pl
   setField (.ref e) 1 b) Q E s:=by
 have h8:e∉(env::outer).filterMap (·.frame):=λm=>by obtain⟨_,o,aI,ak⟩:=eQ.mem m;cases q.symm.trans aI;exact ak vs d
 refine aH (wpAny_frameOf_fun e2 eQ cT λaa rj=>aH (wpAny_entryPlaceOf λpl Om=>?_));unfold EntryCells.newEntry newFields;refine aH (td ?_ (Om.sizeOk5 _ _ _ _ _));generalize NS:({cls:=.type "traceback",dict:=none,data:=.fields ([head,.ref L,.none,rawInt L,.none]++(if pl.isEmpty then replicate 6 Value.none else pl)).toArray}:Obj)=cL;have aX:aa.get? e=some eT:=(rj.2.1 e h8).trans q;have bt:(aa.push cL).get? e=some eT:=dx cL aX;refine wpAny_setField bt d z ?_;have RE:aa.objs.size≠e:=iL (dc aX);have xH:=Obj.data_mapFields d (·.setIfInBounds 1 (Value.ref aa.objs.size));have cn:((aa.push cL).update e (Obj.mapFields (·.setIfInBounds 1 (Value.ref aa.objs.size)))).get? e=some (Obj.mapFields (·.setIfInBounds 1 (Value.ref aa.objs.size)) eT):=qa _ bt (Obj.isFreed_of_fields xH);have t3:((aa.push cL).update e (Obj.mapFields (·.setIfInBounds 1 (Value.ref aa.objs.size)))).get? aa.objs.size=some cL:=by rw[nL _ _ (gL RE)];exact fM aa (by rw[<-NS];rfl)
 have hc:∀b o,b≠e->aa.get? b=some o->((aa.push cL).update e (Obj.mapFields (·.setIfInBounds 1 (Value.ref aa.objs.size)))).get? b=some o:=λb o n I=>by rw[nL _ _ (gL n)];exact dx cL I
 have sC:∀b o,s.heap.get? b=some o->(∀ws,o.data≠.fields ws)->b≠e:=λb o I ak y=>by subst y;cases q.symm.trans I;exact ak vs d
 have Rh:B.StaysIn aa:=λb o I=>(rj.2.1 b λm=>by rw[(eQ.mem m).1] at I;cases I).trans (st b o I);refine k _ ⟨λb o I=>hc b o (λy=>by rw[y,ne] at I;cases I) (Rh b o I),ne,eQ.of_keeps λb o I ak=>?_,?_⟩ (λb o I ak=>?_) λPJ rp er d'=>?_
 ·obtain⟨bh,aD⟩:=rj.2.2 b o I;exact⟨_,hc b _ (sC b o I ak) aD,rfl⟩
 ·refine⟨_,_,cn,xH,by rw[Array.size_setIfInBounds];exact z,.inr ⟨aa.objs.size,cL,_,by simp[z],Rh.fresh,RE,t3,by rw[<-NS],?_⟩⟩
  first|(simp;done)|(rcases Om with rfl|⟨_,_,_,_,_,_,_,rfl⟩<;>simp)
 ·obtain⟨bh,aD⟩:=rj.2.2 b o I;exact⟨bh,hc b _ (sC b o I ak) aD⟩
 ·cases q.symm.trans er;cases d.symm.trans d';exact⟨_,by rw[cn,aav d],by rw[Array.size_setIfInBounds]⟩
def Ps {A:cU}{s:ar}{env:Env}(e2:A.frames=some (env::outer))(cT:env.frame=some L)(x:m3 B (env::outer) e .none s.heap)
  (k:∀h',m3 B (env::outer) e (rawInt L) h'->s.heap.UpToSlots h'->mh s.heap h' e->Q () {s with heap:=h'}):wpAny M A (noteFrame (.ref e) env) Q E s:=by
 obtain⟨st,ne,eQ,eT,vs,q,d,z,c⟩:=x;unfold noteFrame;simp only[cT];rcases c with⟨t0,_⟩|⟨T,Co,bC,t1,h7,u7,uz,e1,t3⟩
 ·refine aH (kT q d t0 ?_);rw[aN (by decide)];exact LD e2 eQ cT q st ne d z k
 ·refine aH (kT q d t1 ?_);rw[aV (show(Value.ref T !=Value.none)=true by simp)];refine aH (kT uz e1 t3 ?_);rw[aN (show ¬((Value.none==rawInt L)=true) by simp[rawInt])];refine aH (wpAny_setField uz e1 (Array.getElem?_eq_some_iff.mp t3).1 ?_);have hc:∀b,b≠T->(s.heap.update T (Obj.mapFields (·.setIfInBounds 3 Value.none))).get? b=s.heap.get? b:=λb n=>nL _ _ (gL n);have sC:∀b o,s.heap.get? b=some o->(∀ws,o.data≠.fields ws)->b≠T:=λb o I ak y=>by subst y;cases uz.symm.trans I;exact ak bC e1
  have z1:mh s.heap (s.heap.update T (Obj.mapFields (·.setIfInBounds 3 Value.none))) e:=λPJ rp er d'=>⟨rp,by rw[hc e (gL u7),er,<-d'],rfl⟩;refine LD e2 (eQ.of_keeps λb o I ak=>⟨o,(hc b (sC b o I ak)).trans I,rfl⟩) cT ((hc e (gL u7)).trans q)
   (λb o I=>(hc b λy=>by rw[y,h7] at I;cases I).trans (st b o I)) ne d z λh' f u y=>k h' f (λb o I ak=>u b o ((hc b (sC b o I ak)).trans I) ak) (z1.trans y)
def BX (x:m3 B l e fa s.heap)(k:∀h',m3 B l e .none h'->s.heap.UpToSlots h'->mh s.heap h' e->Q () {s with heap:=h'}):wpAny M A (setFlight (.ref e) none) Q E s:=by
 obtain⟨st,ne,eQ,eT,vs,q,d,z,c⟩:=x;unfold setFlight;rcases c with⟨t0,_⟩|⟨T,Co,bC,t1,h7,u7,uz,e1,t3⟩
 ·refine aH (kT q d t0 ?_);rw[aN (by decide)];exact bp (k s.heap ⟨st,ne,eQ,eT,vs,q,d,z,.inl ⟨t0,rfl⟩⟩ (Heap.UpToSlots.refl _) (mh.refl _ _))
 ·refine aH (kT q d t1 ?_);rw[aV (show(Value.ref T !=Value.none)=true by simp)];have gm:3 < bC.size:=(Array.getElem?_eq_some_iff.mp t3).1;refine wpAny_setField uz e1 gm ?_;have hc:∀b,b≠T->(s.heap.update T (Obj.mapFields (·.setIfInBounds 3 ((none:Option U).elim Value.none λf=>rawInt f)))).get? b=s.heap.get? b:=λb n=>nL _ _ (gL n);have sC:∀b o,s.heap.get? b=some o->(∀ws,o.data≠.fields ws)->b≠T:=λb o I ak y=>by subst y;cases uz.symm.trans I;exact ak bC e1
  refine k _ ⟨λb o I=>(hc b λy=>by rw[y,h7] at I;cases I).trans (st b o I),ne,eQ.of_keeps λb o I ak=>⟨o,(hc b (sC b o I ak)).trans I,rfl⟩,eT,vs,(hc e (gL u7)).trans q,d,z,
   .inr ⟨T,_,_,t1,h7,u7,qa _ uz (Obj.isFreed_of_fields (Obj.data_mapFields e1 _)),Obj.data_mapFields e1 _,by simp[gm]⟩⟩ (λb o I ak=>⟨o.slots,(hc b (sC b o I ak)).trans I⟩)
   λPJ rp er d'=>⟨rp,by rw[hc e (gL u7),er,<-d'],rfl⟩
def m3.tail (x:m3 B (env::outer) e fa h):m3 B outer e fa h:=⟨x.st,x.ne,x.fr.2.2,x.a4⟩
def Z4 {A:cU}{s:ar}{env:Env}(e2:A.frames=some (env::outer))(cT:env.frame=some L)(x:m3 B (env::outer) e .none s.heap)
  (k:∀h',m3 B outer e .none h'->s.heap.UpToSlots h'->mh s.heap h' e->Q () {s with heap:=h'}):wpAny M A (leaving env (.ref e)) Q E s:=by
 unfold leaving;refine aH (Ps e2 cT x λaa x1 jU ew=>BX (s:={s with heap:=aa}) x1 λac x2 kM ft=>k ac x2.tail (jU.trans kM) (ew.trans ft))
abbrev nN:List af:=[.type "Exception",.type "BaseException",.type "object"]
structure qu (h:a5)(C f7:U)(f:Str):Prop where
 ex:∃nm q N bs sn sub dO col b4 fm cP bX dX gT i4 hO,h.get? C=some (excClassObj nm q C N bs nN true sn sub dO col b4 fm cP bX dX gT "Exception.__new__")/\h.Ns N i4/\i4 "__init__"=some (.ref f7)/\
  i4 "__setattr__"=none/\i4 "__getattribute__"=none/\i4 "__getattr__"=none/\i4 f=none/\h.get? f7=some hO/\hO.cls=.type "function"
 dD:typeLookup (.type "Exception") f=pure none
section
variable {t:Nat}
def aeO {prog:bg}{w:bb}{A:cU}{E:af->ar->Prop}{h:a5}{g:Array GenState}{d:Drawn}{os:OsState}{C f7 x:U}{f:Str}{v:af}{gd:Obj}{vs:Array af}{tk:Tok}{Q:Fin->ar->Prop}(c:qu h C f7 f)(ao:h.get? x=some gd)(ai:gd.cls=.ref C)(hd:gd.dict=none)(bx:gd.data=.fields vs)
  (k:∀h' tk,h'.get? x=some {gd with dict:=some h.objs.size}->h'.Ns1 h.objs.size (λy=>if y=f then some v else none)->(∀b o,b≠x->h.get? b=some o->h'.get? b=some o)->Q (.done (.ret .none)) ⟨h',g,d,tk,os⟩):
  wpAny (model prog w) A (Builtin.«object.__setattr__» ⟨[.ref x,.str f tk,v],[]⟩) Q E ⟨h,g,d,t,os⟩:=by
 obtain⟨⟨nm,q,N,bs,sn,sub,dO,col,b4,fm,cP,bX,dX,gT,i4,hO,eB,ak,_,rI,_,_,vd,_,_⟩,lM⟩:=c;have nX:=F.store_Exception;have acE:=nX.passes (.ref x);unfold Builtin.«object.__setattr__»
 repeat (first|(with_reducible refine Aj eB ak nX.mro lM ?_;rw[vd])|rw[refuse_eq]|(rw[refuseLoop_ref,acE])|(with_reducible refine qc ao ?_;rw[ai])|with_reducible refine wpAny_mroOf_exc eB ?_|wp_step)
 rw[hd,aN (by simp[typeHasDict])];split
 ·rename_i y
  cases y
 split
 ·rename_i y z
  rw[bx] at z;cases z
 have ns:x≠h.objs.size:=e8 (dc ao);have vK:(h.push {cls:=.type "dict",data:=.dict #[]}).get? x=some gd:=dx _ ao;refine aH (wpAny_alloc' ?_);refine aH (wpAny_update' vK ?_);refine bp ?_;have Wi:((h.push {cls:=.type "dict",data:=.dict #[]}).update x λo=>{cls:=o.cls,dict:=some h.objs.size,data:=o.data,slots:=o.slots}).get? h.objs.size=some {cls:=.type "dict",data:=.dict #[]}:=
  (Heap.get?_update_ne _ _ _ _ ns.symm).trans (Heap.get?_push_at rfl rfl)
 have nd:((h.push {cls:=.type "dict",data:=.dict #[]}).update x λo=>{cls:=o.cls,dict:=some h.objs.size,data:=o.data,slots:=o.slots}).Ns h.objs.size (λ_=>none):=⟨_,#[],_,Wi,rfl,λe he=>absurd he (by simp),λ_=>rfl⟩;show wpAny _ _ (storeInDict h.objs.size (.str f _) f v) _ _ _;unfold storeInDict newKeyGuard;refine aH (bp (aH (wpAny_nsSet1 (Heap.Ns1.of_empty nd) λh' r_ aD=>?_)));obtain⟨oC,Vv,Vh,F8,FM,FI⟩:=r_.count (Within.cons f v Within.nil);refine aH (wpAny_lookBehind F8 (by rw[FM];exact pastItsLine_dict (gC FI (by rw[fK,wW,qb];omega))) ?_)
 wp_walk
 refine k h' _ ?_ r_ λb o nb I=>?_
 ·refine(aD.2 x ns).trans (qa _ vK ?_);obtain⟨hP,c9,ag_,kH⟩:=gd;cases bx;rfl
 ·exact(aD.2 b (e8 (dc I))).trans ((Heap.get?_update_ne _ _ _ _ nb).trans (dx _ I))
def aeN {prog:bg}{w:bb}{A:cU}{h:a5}{g:Array GenState}{d:Drawn}{os:OsState}{C f7 x:U}{f:Str}{v:af}{gd:Obj}{vs:Array af}{tk:Tok}{R:Result->ar->Prop}{a6 owner:String}(nX:StoreFacts "Exception" nN a6 owner)(c:qu h C f7 f)(ao:h.get? x=some gd)(ai:gd.cls=.ref C)(hd:gd.dict=none)(bx:gd.data=.fields vs)
  (k:∀h' tk,h'.get? x=some {gd with dict:=some h.objs.size}->h'.Ns1 h.objs.size (λy=>if y=f then some v else none)->(∀b o,b≠x->h.get? b=some o->h'.get? b=some o)->R (.ok (.ret .none)) ⟨h',g,d,tk,os⟩):
  codeAny (model prog w) A (.call (.builtin a6) ⟨[.ref x,.str f tk,v],[]⟩) R ⟨h,g,d,t,os⟩:=by
 have b7:=c;obtain⟨⟨nm,q,N,bs,sn,sub,dO,col,b4,fm,cP,bX,dX,gT,i4,hO,eB,_⟩,_⟩:=b7;exact codeAny_call_builtin nX.slot.plain nX.entry (wpAny_check_sa nX eB ao ai (aeO c ao ai hd bx k))
def aeR {prog:bg}{w:bb}{A:cU}{E:af->ar->Prop}{h:a5}{g:Array GenState}{d:Drawn}{os:OsState}{C f7 x:U}{f:Str}{v:af}{gd:Obj}{vs:Array af}{Q:Unit->ar->Prop}{a6 owner:String}(nX:StoreFacts "Exception" nN a6 owner)(c:qu h C f7 f)(ao:h.get? x=some gd)(ai:gd.cls=.ref C)(hd:gd.dict=none)(bx:gd.data=.fields vs)
  (k:∀h' tk,h'.get? x=some {gd with dict:=some h.objs.size}->h'.Ns1 h.objs.size (λy=>if y=f then some v else none)->(∀b o,b≠x->h.get? b=some o->h'.get? b=some o)->Q () ⟨h',g,d,tk,os⟩):
  wpAny (model prog w) A (setAttr (.ref x) f v) Q E ⟨h,g,d,t,os⟩:=by
 have b7:=c;obtain⟨⟨nm,q,N,bs,sn,sub,dO,col,b4,fm,cP,bX,dX,gT,i4,hO,eB,ak,_,rI,_,_,vd,_,_⟩,lM⟩:=b7;have Uf:=nX.slot.bind (.ref x);unfold setAttr callSpecial? specialOf
 repeat (any_goals (first|assumption|(with_reducible refine Aj eB ak nX.mro nX.slot.lookup ?_;rw[rI])|(with_reducible refine qc ao ?_;rw[ai])|wp_step))
 refine aeN nX c ao ai hd bx λh' tk aE aL bI=>?_
 repeat (any_goals (first|assumption|wp_step))
 exact k h' tk aE aL bI
def aeQ {prog:bg}{w:bb}{A:cU}{E:af->ar->Prop}{h:a5}{g:Array GenState}{d:Drawn}{os:OsState}{C f7 x:U}{f:Str}{v:af}{gd:Obj}{vs:Array af}{Q:Unit->ar->Prop}(c:qu h C f7 f)(ao:h.get? x=some gd)(ai:gd.cls=.ref C)(hd:gd.dict=none)(bx:gd.data=.fields vs)
  (k:∀h' tk,h'.get? x=some {gd with dict:=some h.objs.size}->h'.Ns1 h.objs.size (λy=>if y=f then some v else none)->(∀b o,b≠x->h.get? b=some o->h'.get? b=some o)->Q () ⟨h',g,d,tk,os⟩):
  wpAny (model prog w) A (setAttr (.ref x) f v) Q E ⟨h,g,d,t,os⟩:=aeR F.store_Exception c ao ai hd bx k
def aac {prog:bg}{w:bb}{A:cU}{E:af->ar->Prop}{h:a5}{g:Array GenState}{d:Drawn}{os:OsState}{C f7 x:U}{f:Str}{v:af}{gd:Obj}{vs:Array af}{tk:Tok}{aq:U}{dR:Str->Option af}{Q:Fin->ar->Prop}(c:qu h C f7 f)(ao:h.get? x=some gd)(ai:gd.cls=.ref C)(hd:gd.dict=some aq)(bx:gd.data=.fields vs)(vD:h.Ns1 aq dR)
  (hm:dR f=some v) (k:Q (.done (.ret v)) ⟨h,g,d,t,os⟩):wpAny (model prog w) A (Builtin.«object.__getattribute__» ⟨[.ref x,.str f tk],[]⟩) Q E ⟨h,g,d,t,os⟩:=by
 obtain⟨⟨nm,q,N,bs,sn,sub,dO,col,b4,fm,cP,bX,dX,gT,i4,hO,eB,ak,_,_,_,_,vd,_,_⟩,lM⟩:=c;unfold Builtin.«object.__getattribute__»
 repeat (first|(with_reducible refine Aj eB ak F.store_Exception.mro lM ?_;rw[vd])|(with_reducible refine qc ao ?_;rw[ai])|wp_step)
 split
 ·rename_i y z
  rw[bx] at z;cases z
 unfold instanceDict
 repeat (first|with_reducible refine qc eB ?_|(with_reducible refine qc ao ?_;rw[ai])|wp_step)
 rw[hd]
 repeat (first|(with_reducible refine wpAny_nsGet vD.ns ?_;rw[hm])|wp_step)
 exact k
def aad {prog:bg}{w:bb}{A:cU}{E:af->ar->Prop}{h:a5}{g:Array GenState}{d:Drawn}{os:OsState}{C f7 x:U}{f:Str}{v:af}{gd:Obj}{vs:Array af}{aq:U}{dR:Str->Option af}{b:Bool}{Q:af->ar->Prop}(c:qu h C f7 f)(ao:h.get? x=some gd)(ai:gd.cls=.ref C)(hd:gd.dict=some aq)(bx:gd.data=.fields vs)(vD:h.Ns1 aq dR)
  (hm:dR f=some v) (aI:handedOut v=pure v) (k:Q v ⟨h,g,d,t+1,os⟩):wpAny (model prog w) A (getAttr (.ref x) f b) Q E ⟨h,g,d,t,os⟩:=by
 have b7:=c;obtain⟨⟨nm,q,N,bs,sn,sub,dO,col,b4,fm,cP,bX,dX,gT,i4,hO,eB,ak,_,_,AT,EI,_,_,_⟩,lM⟩:=b7;have FB:=F.attrBase_Exception;have Uf:=FB.ga.bind (.ref x);have z_:(b&&onTheHeap (Value.builtin "BaseException.__getattribute__"))=false:=by cases b<;>rfl
 have ft:(Value.builtin "BaseException.__getattribute__"==Value.builtin "object.__getattribute__")=false:=by w_on
 have ew:(onTheHeap (Value.ref C)&&Value.builtin "BaseException.__getattribute__"==Value.builtin "object.__getattribute__")=false:=by rw[ft];rfl
 unfold getAttr
 repeat (any_goals (first|assumption|(with_reducible refine Aj eB ak FB.mro FB.ga.lookup ?_;rw[AT])|(with_reducible refine Aj eB ak FB.mro FB.noGetattr ?_;rw[EI])|(with_reducible refine qc ao ?_;rw[ai])|wp_step))
 refine codeAny_call_builtin FB.ga.plain F.entry_bexc_ga (wpAny_check_ga_own FB eB .base ao ai (aac c ao ai hd bx vD hm ?_))
 repeat (any_goals (first|assumption|(rw[aI])|wp_step))
def va (h:a5)(C:U):Prop:=∃nm q N bs sn sub dO col b4 fm cP bX dX gT,h.get? C=some (excClassObj nm q C N bs nN true sn sub dO col b4 fm cP bX dX gT "Exception.__new__")
def qu.z9 (c:qu h C f7 f):va h C:=by obtain⟨⟨nm,q,N,bs,sn,sub,dO,col,b4,fm,cP,bX,dX,gT,i4,hO,eB,_⟩,_⟩:=c;exact⟨nm,q,N,bs,sn,sub,dO,col,b4,fm,cP,bX,dX,gT,eB⟩
def adu (dz:A.handled=none)
  (k:wpAny M A y (λu s1=>∃e eT ws,u=.ref e/\va s1.heap C/\s1.heap.get? e=some eT/\eT.cls=.ref C/\eT.data=.fields ws/\ws[1]? =some .none/\E (.ref e) s1) E s):
  wpAny M A (raiseStmt env (some y) none) Q E s:=by
 unfold raiseStmt;refine aH (je k (λu s1 z=>?_) λ_ _ z=>z);obtain⟨e,eT,ws,rfl,⟨nm,q,N,bs,sn,sub,dO,col,b4,fm,cP,bX,dX,gT,eB⟩,he,ai,hd,aa,fx⟩:=z;obtain⟨am,g,d,tk,os⟩:=s1;have Un:(Value.ref C::nN).contains (.type "BaseException")=true:=by simp
 have AV:(Value.ref C::nN).contains (.type "type")=false:=by simp
 repeat (first|with_reducible refine kT he hd aa ?_|(with_reducible refine qc he ?_;rw[ai])|with_reducible refine qc eB ?_|(with_reducible refine wpAny_isSubtype_exc eB ?_;first|rw[Un]|rw[AV])|wp_step)
 exact wpAny_raiseNew_none dz fx
def aaz {A:cU}{E:af->ar->Prop}{h:a5}{g:Array GenState}{d:Drawn}{os:OsState}{C:U}{M:Model}{D e:U}{eT:Obj}{Q:Bool->ar->Prop}(T3:va h C)(T4:va h D)(b9:C≠D)(he:h.get? e=some eT)(Bv:eT.cls=.ref C)
  (az:Q false ⟨h,g,d,t,os⟩):wpAny M A (excMatches (.ref e) (.ref D)) Q E ⟨h,g,d,t,os⟩:=by
 obtain⟨nm,q,N,bs,sn,sub,dO,col,b4,fm,cP,bX,dX,gT,eB⟩:=T3;obtain⟨ag8,er,N',KN,ahf,ahg,agi,agj,iW,agY,agZ,ag0,ag1,ag2,fw⟩:=T4;have XK:(Value.ref D::nN).contains (.type "BaseException")=true:=by simp
 have XM:(Value.ref C::nN).contains (.ref D)=false:=by simp[b9.symm]
 have f:=tc_notTuple;unfold excMatches
 repeat (first|(with_reducible refine qc he ?_;rw[Bv])|with_reducible refine qc fw ?_|(with_reducible refine wpAny_isSubtype_exc fw ?_;rw[XK])|(with_reducible refine wpAny_isSubtype_exc eB ?_;rw[XM])|wp_step)
 exact az
end
end il
namespace aB
open PySem PySem.Spec PyProof.Rows
def R2 (K:PySem.W.Frag)(C f7:U)(f:Str):Bool:=match K.lookup C with
 |some ⟨.type "type",_,.cls cd,bh⟩=>(match cd.mro,bh.toList with
  |.ref w6::bm,[_,_,_,_,some (.builtin n),_]=>w6==C&&n=="Exception.__new__"&&!cd.hasDel&&cd.hasDict&&bm==il.nN&&nsOkIn K cd.ns&&nsIn K cd.ns "__init__"==some (some (.ref f7))&&
    nsIn K cd.ns "__setattr__"==some none&&nsIn K cd.ns "__getattribute__"==some none&&nsIn K cd.ns "__getattr__"==some none&&nsIn K cd.ns f==some none
  |_,_=>false)
 |_=>false
def abn {K:PySem.W.Frag}{h:a5}{m:Str->Option af}(X:K.In h)(G:h.Ns N m)(e:nsIn K N n=some (some v)):m n=some v:=by
 obtain⟨o,es,ep,aI,hd,_,hf⟩:=G;unfold nsIn at e;split at e
 ·rename_i q
  have z:=X _ _ q;rw[aI] at z;cases z;cases hd;split at e
  ·rename_i en he
   rw[<-hf];unfold nsFind findBy;rw[<-Array.find?_toList,he];exact dZ e
  ·split at e<;>cases e
 ·cases e
structure qv (K:PySem.W.Frag)(C f7:U)(f:Str):Prop where
 ok:R2 K C f7 f=true
 fn:isFn K (.ref f7)=true
 bu:keepIn K (.ref C)=true
 dD:typeLookup (.type "Exception") f=pure none
def VI {K:PySem.W.Frag}(e:typeIn K (.ref a)=some t):∃o,K.lookup a=some o/\o.cls=t:=by
 unfold typeIn at e;cases q:K.lookup a with
 |none=>simp[q] at e
 |some o=>simp[q] at e;exact⟨o,rfl,e⟩
def qv.at {K:PySem.W.Frag}(c:qv K C f7 f)(X:K.In h):il.qu h C f7 f:=by
 refine⟨?_,c.dD⟩;obtain⟨hO,iy,Uo⟩:=VI (jX.mp c.fn);have q:=c.ok;unfold R2 at q;split at q
 ·rename_i b4 cd bh aI
  split at q
  ·rename_i w6 bm fm cP bX dX n gT hm aD
   simp only[d6,jX,Bool.not_eq_true'] at q;obtain⟨⟨⟨⟨⟨⟨⟨⟨⟨⟨aE,aL⟩,bI⟩,gO⟩,qB⟩,lH⟩,tD⟩,Lr⟩,Ls⟩,Lp⟩,Lq⟩:=q;obtain⟨nm,bs,mro,ns,zE,hd,sn,sub,dO,col,del⟩:=cd;dsimp only at hm bI gO lH tD Lr Ls Lp Lq;subst aE aL hm bI gO qB;have se:bh=#[fm,cP,bX,dX,some (.builtin "Exception.__new__"),gT]:=by obtain⟨l⟩:=bh;simp only at aD;rw[aD]
   subst se;have N:=Heap.Ns.of_isNs (isNs_of_in X lH);exact⟨nm,zE,ns,bs,sn,sub,dO,col,b4,fm,cP,bX,dX,gT,_,hO,X _ _ aI,N,abn X N tD,ns_none_of X N Lr,ns_none_of X N Ls,ns_none_of X N Lp,ns_none_of X N Lq,X _ _ iy,Uo⟩
  ·cases q
 ·cases q
def iT (C a:U):a5->Prop:=λh=>∃vs:Array af,h.get? a=some {cls:=.ref C,data:=.fields vs}/\1 < vs.size/\vs[1]? =some .none
def qw (C a:U)(aq:Option U):a5->Prop:=λh=>∃vs:Array af,h.get? a=some {cls:=.ref C,dict:=aq,data:=.fields vs}/\1 < vs.size/\vs[1]? =some .none
def k0 (C a:U)(aq:Option U):a5->Prop:=λh=>∃(eT:Obj) (vs:Array af),h.get? a=some eT/\eT.cls=.ref C/\eT.dict=aq/\eT.data=.fields vs/\1 < vs.size
def dq.some_of (x:dq P w H h a o):∃b2,h.get? a=some b2:=by
 cases o with
 |lst xs=>obtain⟨_,_,_,_,e⟩:=x;exact⟨_,e⟩
 |tup xs=>obtain⟨_,_,_,b2,e,_⟩:=x;exact⟨b2,e⟩
 |cq kvs=>obtain⟨_,_,_,_,b2,_,_,e,_⟩:=x;exact⟨b2,e⟩
 |e1 kvs=>obtain⟨_,_,_,_,b2,_,_,e,_⟩:=x;exact⟨b2,e⟩
 |set S n=>obtain⟨b2,_,_,_,e,_⟩:=x;exact⟨b2,e⟩
 |ins C aq bd=>obtain⟨_,_,_,e,_⟩:=x;exact⟨_,e⟩
 |own y=>exact x
 |nF bd=>obtain⟨_,⟨b2,_,_,e,_⟩,_⟩:=x;exact⟨b2,e⟩
 |CI lo aR=>obtain⟨_,_,_,e⟩:=x;exact⟨_,e⟩
 |eP b2 u=>exact⟨b2,x.1⟩
 |sQ ps=>exact⟨_,x⟩
 |met f y=>exact⟨_,x⟩
 |ext φ=>exact x.2.1
def dN.there (x:dN P w H h)(e:H a=some o):∃b2,h.get? a=some b2:=(x a o e).some_of
def dN.free (x:dN P w H h)(e:h.get? a=none):H a=none:=by
 cases q:H a with
 |none=>rfl
 |some o=>obtain⟨b2,z⟩:=x.there q;rw[e] at z;cases z
def Inv.GJ {t':Nat}(J:Inv X pins σ H s)(k:∀b u,s.heap.get? b=some u->h'.get? b=some u)(am:s.heap.get? a=none)(new:dq X.prog X.w (upd H a o) h' a o):
  Inv X pins σ (upd H a o) {s with heap:=h',toks:=t'}:=by
 have ak:=J.ba.free am;have nb:∀b u,s.heap.get? b=some u->b≠a:=λb u q z=>by rw[z,am] at q;cases q
 refine J.un ⟨λb u q _ _ _=>k b u q,λb u q _ _ _=>⟨u.slots,k b u q⟩,λb u q n _=>by rw[aj (nb b u q)];exact n,λb u q _=>⟨u,k b u q⟩,λb xs q=>by rw[aj (a8 q ak)];exact q,
  λb u xs q=>by rw[aj (a8 q ak)];exact q,λb ps q=>⟨#[],by rw[aj (a8 q ak),q];simp⟩⟩ λb u q=>?_
 by_cases I:b=a
 ·subst I;rw[aG] at q;cases q;exact new
 ·rw[aj I] at q;exact(J.ba b u q).hS (λc v _ r=>k c v r) (λc r=>by rw[aj (a8 r ak)];exact r) λc xs r=>by rw[aj (a8 r ak)];exact r
inductive adTi(C:U)(f:Str)(D:Ends)(σ:St)(y:V)(x:V)(ap:ah):Prop|i(a)(_:x=.ref a)(_:ap a=some (.ext (iT C a)))(_:∀aq,ap aq=none->aq≠a->D.cG σ (upd (upd ap aq (.nF [(f,y)])) a (.ext (qw C a (some aq)))))
def adT (C:U)(aF dS:TE)(f:Str):dj:=λD σ H=>dS σ H λy H1=>aF σ H1 (adTi C f D σ y)
def ac6 {X:bq}{pos:Pos}(c:qv X.K C f7 f)(al:bl X o aF)(bx:bl X value dS)(aD:swapsWith value (some (.Attribute o f pos')) pos.line X.env=pure false):
  fi X (.Assign [.Attribute o f pos'] value pos) (adT C aF dS f):=by
 intro pins s σ H D J h;refine plainObj_wpAny_Assign_Attribute (bN (bx pins s σ H _ J h) λRQ s1 ⟨y,H1,aP,bB,q⟩=>bN (al pins s1 σ H1 _ aP q) λee s2 ⟨x,ap,bP,bG,a,ex,a9,k⟩=>?_) aD;subst ex;obtain rfl:ee=Value.ref a:=bG;obtain⟨⟨vs,dF,lu,v1⟩,_,_⟩:=(show dq X.prog X.w ap s2.heap a (.ext (iT C a)) from bP.ba a _ a9);obtain⟨am,g,d,t,os⟩:=s2;refine il.aeQ (c.at bP.gv) dF rfl rfl rfl λh' tk aE aL bI=>?_;have nd:am.get? am.objs.size=none:=Heap.get?_none_of_le (b5 _);have hd:ap am.objs.size=none:=bP.ba.free nd;have mm:am.objs.size≠a:=iL (dc dF);have cG:=k am.objs.size hd mm;have agm:∃b2,h'.get? am.objs.size=some b2:=let ⟨b2,_,_,z,_⟩:=aL;⟨b2,z⟩;refine⟨σ,_,bP.un ⟨λb u q n _ _=>bI b u (λz=>by rw[z,a9] at n;cases n) q,λb u q n _ _=>⟨u.slots,bI b u (λz=>by rw[z,a9] at n;cases n) q⟩,λb u q n _=>?_,λb u q _=>?_,λb xs q=>?_,λb u xs q=>?_,λb ps q=>?_⟩ λb u q=>?_,cG⟩
 ·have aa:b≠a:=λz=>by rw[z,a9] at n;cases n
  have ac:b≠am.objs.size:=λz=>by rw[z,nd] at q;cases q
  rw[aj aa,aj ac];exact n
 ·by_cases z:b=a
  ·exact⟨_,by rw[z];exact aE⟩
  ·exact⟨u,bI b u z q⟩
 ·rw[aj (fo q a9 (by intro z;cases z)),aj (a8 q hd)];exact q
 ·rw[aj (fo q a9 (by intro z;cases z)),aj (a8 q hd)];exact q
 ·exact⟨#[],by rw[aj (fo q a9 (by intro z;cases z)),aj (a8 q hd),q];simp⟩
 ·by_cases aa:b=a
  ·subst aa;rw[aG] at q;cases q;refine⟨⟨vs,aE,lu,v1⟩,⟨_,aE⟩,λg1 g2 ⟨ws,hC,p4⟩ st=>⟨ws,st _ hC,p4⟩⟩
  ·rw[aj aa] at q;by_cases ac:b=am.objs.size
   ·subst ac;rw[aG] at q;cases q;refine⟨_,aL,λg=>?_⟩;show g7 (List.lookup g [(f,y)]) (if g=f then some RQ else none);by_cases bK:g=f
    ·have I:(g==f)=true:=jX.mpr bK;simp only[List.lookup,I,aV bK];exact bB
    ·have I:(g==f)=false:=ru.mpr bK;simp only[List.lookup,I,aN bK];trivial
   ·rw[aj ac] at q;refine(bP.ba b u q).hS (λc v ai r=>bI c v (λz=>?_) r) (λc r=>?_) λc xs r=>?_
    ·rcases ai with ai|ai
     ·exact aa (ai.symm.trans z)
     ·rw[z,a9] at ai;cases ai
    ·rw[aj (fo r a9 (by intro z;cases z)),aj (a8 r hd)];exact r
    ·rw[aj (fo r a9 (by intro z;cases z)),aj (a8 r hd)];exact r
def Rt (C:U)(sp:cD)(E:fG)(t:hq):TE:=λσ H Q=>t σ H λvs H1=>vs.length<=sizeLine/\∀a,H1 a=none->
 sp (.ref a::vs) (upd H1 a (.ext (iT C a))) (λv ap=>v=.b1/\Q (.ref a) ap) E
def adL {X:bq}{k:Nat}{vs:List V}(c:qv X.K C f7 f)(F:aQ X.prog X.w X.K X.ae X.base CX k f7 fd ps sp)(au:c1 (k+1) X.A)(I:Binds X.K fd ps [])
  (ao:mf CX X E) (J:Inv X pins σ H s) (r:b' vs us) (hz:vs.length<=sizeLine)
  (h:∀a,H a=none->sp (.ref a::vs) (upd H a (.ext (iT C a))) (λv ap=>v=.b1/\Q (.ref a) ap) E):wpAny (model X.prog X.w) X.A (call (.ref C) us) (hE X pins σ Q) X.cK s:=by
 obtain⟨⟨nm,q,N,bs,sn,sub,dO,col,b4,fm,cP,bX,dX,gT,i4,hO,eB,ak,aR,_,_,_,_,X1,X2⟩,_⟩:=c.at J.gv;obtain⟨am,g,d,t,os⟩:=s;refine wpAny_call_exc_init PySem.F.excBase_Exception eB ak aR X1 X2 (λh' e hm=>?_) (by rw[<-r.length];exact hz);obtain⟨tt,he,_,_⟩:=hm.there;have b9:H e=none:=J.ba.free hm.new;have az:=h e b9;have bP:Inv X pins σ (upd H e (.ext (iT C e))) ⟨h',g,d,t,os⟩:=J.GJ (t':=t) hm.keeps hm.new ⟨⟨_,he,by simp,rfl⟩,⟨_,he⟩,λg1 g2 ⟨ws,hC,p4⟩ st=>⟨ws,st _ hC,p4⟩⟩;have dB:b' (V.ref e::vs) (Value.ref e::us):=.cons rfl r;have aC:(Value.ref e::us++[]).length=ps.length:=by have z:=dB.length;rw[F.len _ _ _ _ az] at z;rw[l7];exact z.symm
 have Nc:=I ⟨h',g,d,t,os⟩ (Value.ref e::us) bP.gv aC;rw[l7] at Nc;refine wpAny_call (codeAny_mono (F.run _ X.stack _ _ ⟨Value.ref e::us,[]⟩ (Value.ref e::us) _ _ E (au.make C us []) (bP.E9.make C us []) Nc dB az) λr s' gS=>?_);cases r with
 |error y=>exact ao pins σ _ _ y s' bP gS
 |ok fa=>
  cases fa with
  |ret u=>obtain⟨v,ab,dv,cy,ev,cn⟩:=bP.after gS;subst ev;exact⟨cy,V.ref e,ab,dv,rfl,cn⟩
  |next=>exact False.elim gS
  |brk=>exact False.elim gS
  |cont=>exact False.elim gS
def wd {k:Nat}(c:qv X.K C f7 f)(F:aQ X.prog X.w X.K X.ae X.base CX k f7 fd ps sp)(au:c1 (k+1) X.A)(bK:hV X x)
  (hm:X.ae x=some (.ref C)) (I:Binds X.K fd ps []) (ao:mf CX X E) (al:fF X (e::es) t) (mx:(x==("__debug__":Str))=false:=by decide)
  (he:starEach (e::es) X.env=(false,eval e X.env)::starEach es X.env:=by rfl) (jt:(backTo pos (starEach es X.env)).any (·.1)=false:=by rfl):bl X (.Call (.Name x p) (e::es) [] pos) (Rt C sp E t):=by
 intro pins s σ H Q J h;refine o3 (sl J bK hm ?_ mx);refine callWith_K (h₀:=X.base) J.ok.mod.vP c.bu (bN (al pos pins s σ H _ J h) λus s1 ⟨vs,H1,aP,r,z,q⟩=>⟨aP.gv,?_⟩) he jt;exact adL c F au I ao aP r z q
def AN (X:bq)(C:U)(E:fG):Prop:=∀(pins:List (U×Obj)) (σ:St) (H:ah) (s:ar) (a:U) (aq:Option U),Inv X pins σ H s->H a=some (.ext (qw C a aq))->E (.ref C) (some a) (upd H a (.ext (k0 C a aq)))->X.cK (.ref a) s
def I4 (C:U)(E:fG)(te:TE):dj:=λ_ σ H=>te σ H λx H1=>∃a aq,x=.ref a/\H1 a=some (.ext (qw C a aq))/\E (.ref C) (some a) (upd H1 a (.ext (k0 C a aq)))
def Qg (c:∀h,X.K.In h->il.va h C)(bW:AN X C E)(ai:X.calm=true)(he:bl X e te):fi X (.Raise (some e) none pos) (I4 C E te):=by
 intro pins s σ H D J h;rw[arm_exec_Raise];have key:wpAny (model X.prog X.w) X.A (do standAt pos;raiseStmt X.env (some (do let v <-eval e X.env;standAt pos;pure v)) none) (nY X pins D) X.cK s:=by refine aH (wpAny_standAt (il.adu (C:=C) (J.ok.hd ai) (aH (bN (he pins s σ H _ J h) λu s1 ⟨x,H1,aP,bG,a,aq,ex,a9,q⟩=>aH (wpAny_standAt (bp ?_))))));subst ex;obtain rfl:u=Value.ref a:=bG;obtain⟨⟨vs,dF,lu,v1⟩,_,_⟩:=(show dq X.prog X.w H1 s1.heap a (.ext (qw C a aq)) from aP.ba a _ a9);exact⟨a,_,vs,rfl,c _ aP.gv,dF,rfl,rfl,v1,bW pins σ H1 s1 a aq aP a9 q⟩
 first
  |exact key
  |(simp only[evalOpt,Option.map];exact key)
def wi (c:qv X.K C f7 f)(bW:AN X C E)(ai:X.calm=true)(he:bl X e te):fi X (.Raise (some e) none pos) (I4 C E te):=Qg (λ_ k=>(c.at k).z9) bW ai he
inductive eL(P:bg)(w:bb)(C:U)(outer:List Env)(H:ah)(s:ar)(E:fG)(e:af)(s':ar):Prop|i(a:U)(aq:Option U)(ab:ah)(B:a5)(_:e=.ref a)(_:s'.os=s.os)(_:AllBare s'.gens)(_:g9 (gs outer) [] H ab s.heap s'.heap)(_:dN P w ab s'.heap)(_:il.m3 B outer a .none s'.heap)(_:ab a=some (.ext (k0 C a aq)))(_:∀b u,s'.heap.get? b=some u->((∃o,s.heap.get? b=some o)\/∃o,ab b=some o)->b∉gs outer->b≠a->B.get? b=some u)(_:E (.ref C) (some a) ab)
def Bb (r8:∀b∈gs l,ab b=none)(un:g9 (gs l) [] H ab h aa)(ok:dN P w ab aa)(x:il.m3 B l a fa aa)(a9:ab a=some (.ext (k0 C a aq)))
  (T:∀b u,aa.get? b=some u->((∃o,h.get? b=some o)\/∃o,ab b=some o)->b∉gs l->b≠a->B.get? b=some u) (st:B.StaysIn ac) (us:aa.UpToSlots ac) (z1:il.mh aa ac a):
  g9 (gs l) [] H ab h ac/\dN P w ab ac/\∀b u,ac.get? b=some u->((∃o,h.get? b=some o)\/∃o,ab b=some o)->b∉gs l->b≠a->B.get? b=some u:=by
 obtain⟨⟨eT,vs,dF,ng,d0,f0,lu⟩,_,_⟩:=(show dq P w ab aa a (.ext (k0 C a aq)) from ok a _ a9);obtain⟨rp,aL,cx⟩:=z1 eT vs dF f0;have na:∀b,ab b=none->b≠a:=λb n z=>by rw[z,a9] at n;cases n
 have Q5:∀b o,b∈gs l->aa.get? b=some o->∃bh,ac.get? b=some {o with slots:=bh}:=λb o I q=>by obtain⟨_,d5,er,h8⟩:=x.fr.mem I;cases q.symm.trans er;exact us b o q h8
 have u6:∀b u,ac.get? b=some u->((∃o,h.get? b=some o)\/∃o,ab b=some o)->b∉gs l->b≠a->B.get? b=some u:=λb u q I ak jN=>by
  have z:∃jU,aa.get? b=some jU:=by
   rcases I with⟨o,z⟩|⟨o,z⟩
   ·exact un.there b o z (by simp)
   ·exact ok.there z
  obtain⟨jU,aX⟩:=z;have y:=T b jU aX I ak jN;cases q.symm.trans (st b jU y);exact y
 refine⟨⟨λb o q n I _=>?_,λb o q n I _=>?_,un.free,λb o q ao=>?_,un.eK,un.mv,un.oS⟩,λb o q=>?_,u6⟩
 ·exact st b o (T b o (un.keep b o q n I (by simp)) (.inl ⟨o,q⟩) I (na b (un.free b o q n (by simp))))
 ·obtain⟨bh,aX⟩:=un.slot b o q n I (by simp);obtain⟨Io,bt⟩:=Q5 b _ I aX;exact⟨Io,bt⟩
 ·obtain⟨um,aX⟩:=un.there b o q ao;by_cases I:b∈gs l
  ·obtain⟨bh,bt⟩:=Q5 b um I aX;exact⟨_,bt⟩
  ·by_cases jN:b=a
   ·exact⟨_,by rw[jN];exact aL⟩
   ·exact⟨um,st b um (T b um aX (.inl ⟨o,q⟩) I jN)⟩
 ·by_cases jN:b=a
  ·subst jN;cases q.symm.trans a9;exact⟨⟨_,rp,aL,ng,d0,rfl,by rw[cx];exact lu⟩,⟨_,aL⟩,λg1 g2 ⟨v_,mR,ew,ft⟩ lq=>⟨v_,mR,lq _ ew,ft⟩⟩
  ·refine(ok b o q).hS (λc v ai r=>?_) (λ_ r=>r) λ_ _ r=>r;have j_:∃o,ab c=some o:=by
    rcases ai with rfl|ai
    ·exact⟨o,q⟩
    ·exact⟨_,ai⟩
   have e3:c≠a:=by
    rcases ai with rfl|ai
    ·exact jN
    ·intro z;rw[z,a9] at ai;cases ai
   have XO:c∉gs l:=λz=>by obtain⟨d5,y⟩:=j_;rw[r8 c z] at y;cases y
   exact st c v (T c v r (.inr j_) XO e3)
def Hz {P:bg}{w:bb}{K:PySem.W.Frag}{ae:Str->Option af}{base:a5}{N:List Str}{qual:Str}{scope:Scope}{f C:U}{cd:af}{A:cU}{outer:List Env}{s0:ar}{gh:ah}{E:fG}{CX:hT}(gR:∀{o H s E e s'},eL P w C o H s E e s'->CX o H s E e s'):mf (eL P w C) (j7 CX P w K ae base N qual scope f cd A outer s0 gh E) E:=by
 rintro pins σ H s e s' J ⟨a,aq,ab,B,rfl,os,bare,un,ok,fa,a9,T,fx⟩;have fR:(j7 CX P w K ae base N qual scope f cd A outer s0 gh E).stack=envOfC qual scope s0.heap.objs.size f cd::outer:=rfl;have e2:(j7 CX P w K ae base N qual scope f cd A outer s0 gh E).A.frames=some (envOfC qual scope s0.heap.objs.size f cd::outer):=J.ok.frames;have Aw:Inv (j7 CX P w K ae base N qual scope f cd A outer s0 gh E) pins σ ab s':=J.tz os un ok bare (λb z=>absurd z (by simp));refine il.Z4 (L:=s0.heap.objs.size) e2 rfl fa λac Ba us z1=>?_;obtain⟨afK,PL,u6⟩:=Bb Aw.wC un ok fa a9 T Ba.st us z1;have ez:Inv (j7 CX P w K ae base N qual scope f cd A outer s0 gh E) pins σ ab {s' with heap:=ac}:=J.tz (s':={s' with heap:=ac}) os afK PL bare (λb z=>absurd z (by simp));refine gR ⟨a,aq,ab,B,rfl,ez.os,ez.bare,ez.base,PL,Ba,a9,λb u q I ak jN=>?_,fx⟩;have aa:(∃o,s.heap.get? b=some o)\/∃o,ab b=some o:=by
  rcases I with⟨o,z⟩|z
  ·exact .inl (J.base.there b o z (λy=>absurd y (by simp[j7])))
  ·exact .inr z
 refine u6 b u q aa (λz=>?_) jN;have mU:b=s0.heap.objs.size\/b∈gs outer:=by
  have cx:b∈gs (envOfC qual scope s0.heap.objs.size f cd::outer):=z;unfold gs at cx;rw[nH] at cx;rcases cr.mp (show b∈s0.heap.objs.size::outer.filterMap (·.frame) from cx) with y|y
  ·exact .inl y
  ·exact .inr y
 rcases mU with mU|mU
 ·rcases I with⟨o,y⟩|⟨o,y⟩
  ·have:=dc y;rw[mU] at this;exact absurd this (o2 _)
  ·rw[Aw.wC b z] at y;cases y
 ·exact ak mU
def mK {P:bg}{w:bb}{K:PySem.W.Frag}{ae:Str->Option af}{base:a5}{N:List Str}{qual:Str}{scope:Scope}{f C:U}{cd:af}{A:cU}{outer:List Env}{s0:ar}{gh:ah}{E:fG}:mf (eL P w C) (j7 (eL P w C) P w K ae base N qual scope f cd A outer s0 gh E) E:=Hz id
def RD {P:bg}{w:bb}{K:PySem.W.Frag}{ae:Str->Option af}{base:a5}{N:List Str}{qual:Str}{scope:Scope}{f C:U}{cd:af}{A:cU}{outer:List Env}{s0:ar}{gh:ah}{E:fG}{CX:hT}(gR:∀{o H s E e s'},eL P w C o H s E e s'->CX o H s E e s'):AN (j7 CX P w K ae base N qual scope f cd A outer s0 gh E) C E:=by
 intro pins σ H s a aq J a9 fx;refine Hz gR pins σ H s (.ref a) s J ?_;obtain⟨⟨vs,dF,lu,v1⟩,_,_⟩:=(show dq P w H s.heap a (.ext (qw C a aq)) from J.ba a _ a9);have h8:∀b∈gs (envOfC qual scope s0.heap.objs.size f cd::outer),H b=none:=J.wC;refine⟨a,aq,upd H a (.ext (k0 C a aq)),hideAll s.heap (a::gs (envOfC qual scope s0.heap.objs.size f cd::outer)),rfl,rfl,J.bare,⟨λb o q _ _ _=>q,λb o q _ _ _=>⟨o.slots,q⟩,λb o q n _=>?_,λb o q _=>⟨o,q⟩,λb xs q=>?_,λb o u q=>?_,λb ps q=>?_⟩,
  λb o q=>?_,⟨λb o q=>of_hideAll _ q,hideAll_none _ (.head _),?_,_,vs,dF,rfl,lu,.inl ⟨v1,rfl⟩⟩,aG,λb u q _ ak jN=>hideAll_get _ q (λz=>?_),fx⟩
 ·rw[aj (λz=>by rw[z,a9] at n;cases n)];exact n
 ·rw[aj (fo q a9 (by intro z;cases z))];exact q
 ·rw[aj (fo q a9 (by intro z;cases z))];exact q
 ·exact⟨#[],by rw[aj (fo q a9 (by intro z;cases z)),q];simp⟩
 ·by_cases I:b=a
  ·subst I;rw[aG] at q;cases q;exact⟨⟨_,vs,dF,rfl,rfl,rfl,lu⟩,⟨_,dF⟩,λg1 g2 ⟨v_,mR,ew,ft⟩ lq=>⟨v_,mR,lq _ ew,ft⟩⟩
  ·rw[aj I] at q;exact(J.ba b o q).hS (λ_ _ _ r=>r) (λc r=>by rw[aj (fo r a9 (by intro z;cases z))];exact r) λc xs r=>by rw[aj (fo r a9 (by intro z;cases z))];exact r
 ·exact PySem.W.funFrames_hide J.stack λenv he b I=>.tail _ (Af.mpr ⟨env,he,I⟩)
 ·rcases cr.mp z with y|y
  ·exact jN y
  ·exact ak y
def wJ {P:bg}{w:bb}{K:PySem.W.Frag}{ae:Str->Option af}{base:a5}{N:List Str}{qual:Str}{scope:Scope}{f C:U}{cd:af}{A:cU}{outer:List Env}{s0:ar}{gh:ah}{E:fG}:AN (j7 (eL P w C) P w K ae base N qual scope f cd A outer s0 gh E) C E:=RD id
def Am (P:bg)(w:bb)(S:U->Prop):hT:=λouter H s E e s'=>∃C,S C/\eL P w C outer H s E e s'
inductive afni(C:U)(f:Str)(Q:cM)(x:V)(H1:ah):Prop|i(a)(aq)(bd)(v)(_:x=.ref a)(_:H1 a=some (.ext (k0 C a (some aq))))(_:H1 aq=some (.nF bd))(_:bd.lookup f=some v)(_:Q v H1)
def afn (C:U)(aF:TE)(f:Str):TE:=λσ H Q=>aF σ H (afni C f Q)
def P8 {X:bq}(c:qv X.K C f7 f)(he:bl X e aF)(I:attributeBase e f X.env (eval e X.env)=eval e X.env):bl X (.Attribute e f pos) (afn C aF f):=by intro pins s σ H Q J h;refine Ky I (bN (he pins s σ H _ J h) λu s1 ⟨x,H1,aP,bG,a,aq,bd,v,ex,a9,f5,l,q⟩=>?_);subst ex;obtain rfl:u=Value.ref a:=bG;obtain⟨⟨eT,vs,dF,ng,d0,f0,lu⟩,_,_⟩:=(show dq X.prog X.w H1 s1.heap a (.ext (k0 C a (some aq))) from aP.ba a _ a9);obtain⟨dR,ea,r⟩:=(show dq X.prog X.w H1 s1.heap aq (.nF bd) from aP.ba aq _ f5);obtain⟨RQ,aW,c7⟩:=g7.some_of (v:=v) (o:=dR f) (by rw[<-l];exact r f);obtain⟨am,g,d,t,os⟩:=s1;exact il.aad (c.at aP.gv) dF ng d0 f0 ea aW (PySem.W.handedOut_of (Na c7)) ⟨v,H1,aP.tok (t+1),c7,q⟩
def Ends.gone (D:Ends)(n:Nat):Ends where
 cG:=λ_ H=>D.cG (replicate n none) H
 ia:=D.ia
 hI:=λ_ H=>D.hI (replicate n none) H
 dP:=λ_ H=>D.dP (replicate n none) H
def Inv.acY (J:Inv X pins σ H s)(E:af->ar->Prop):Inv {X with cR:=X.cR++pins,cK:=E} [] σ H s:=
 ⟨⟨J.ok.mod,J.ok.kind,J.ok.glob,J.ok.blt,J.ok.above,J.ok.inj,J.ok.has,J.ok.rK,J.ok.hd,J.ok.frames,J.ok.uH,J.ok.tG,J.ok.bs,J.ok.nf,J.ok.sB,J.ok.rT,J.ok.k6,J.ok.mu⟩,J.os,J.bare,J.base,J.loc,J.cell,J.free,J.jq,
  λp am=>J.pin p (by simpa using am),J.ba,J.len⟩
def Inv.DA (J:Inv {X with cR:=X.cR++pins,cK:=E} CA σ H s)(ok:X.Ok):Inv X pins σ H s:=
 ⟨ok,J.os,J.bare,J.base,J.loc,J.cell,J.free,J.jq,λp am=>J.pin p (lw _ am),J.ba,J.len⟩
abbrev bq.lr (X:bq)(cR:List (U×Obj))(a:U):bq:={X with A:=X.A.mark (some (.ref a)),calm:=false,cR:=cR,cK:=λ_ _=>False}
def Inv.lr {X:bq}{E:af->ar->Prop}(J:Inv {X with cR:=cR,cK:=E} [] σ H s)(ok:X.Ok)(a:U):Inv (X.lr cR a) [] σ H s:=
 ⟨⟨ok.mod,ok.kind,ok.glob,ok.blt,ok.above,ok.inj,ok.has,ok.rK,(λz=>nomatch z),ok.frames,ok.uH,ok.tG,ok.bs,ok.nf,ok.sB,ok.rT,ok.k6,ok.mu⟩,J.os,J.bare,J.base,J.loc,J.cell,J.free,J.jq,J.pin,J.ba,J.len⟩
def Inv.z4 (J:Inv (X.lr cR a) [] σ H s)(ok:X.Ok)(h:∀p∈X.cR++pins,p∈cR):Inv X pins σ H s:=
 ⟨ok,J.os,J.bare,J.base,J.loc,J.cell,J.free,J.jq,λp am=>J.pin p (lw _ (h p am)),J.ba,J.len⟩
def Inv.forget {t':Nat}(J:Inv X pins σ H s)(ak:h'.Ns X.env.locals cQ)(dM:Heap.SameBut X.env.locals s.heap h'):Inv X pins (replicate X.N.length none) H {s with heap:=h',toks:=t'}:=by
 have hc:∀b o,b≠X.env.locals->s.heap.get? b=some o->h'.get? b=some o:=λb o n q=>(dM.2 b n).trans q;have vX:∀b o,X.iF.heap.get? b=some o->b≠X.env.locals:=λb o e=>e8 (hl (dc e) J.ok.above);have q':∀b o,H b=some o->b≠X.env.locals:=λb o e z=>by rw[z,J.free] at e;cases e
 refine⟨J.ok,J.os,J.bare,⟨λb o q n I ao=>hc b o (vX b o q) (J.base.keep b o q n I ao),λb o q n I ao=>?_,J.base.free,λb o q ao=>?_,J.base.eK,J.base.mv,J.base.oS⟩,⟨cQ,ak,λi x v _ z _=>?_⟩,λx c e=>?_,J.free,J.jq,λp am=>?_,λb o q=>?_,by simp⟩
 ·obtain⟨bh,z⟩:=J.base.slot b o q n I ao;exact⟨bh,hc b _ (vX b o q) z⟩
 ·obtain⟨d5,z⟩:=J.base.there b o q ao;exact⟨d5,hc b d5 (vX b o q) z⟩
 ·rw[List.getElem?_replicate] at z;split at z<;>cases z
 ·obtain⟨v,o,aI,hd⟩:=J.cell x c e;exact⟨v,o,hc c o (J.rM x c e) aI,hd⟩
 ·obtain⟨e,n,ne,r⟩:=J.pin p am;exact⟨hc _ _ ne e,n,ne,r⟩
 ·refine(J.ba b o q).hS (λc v ai r=>hc c v ?_ r) (λ_ r=>r) λ_ _ r=>r;rcases ai with rfl|ai
  ·exact q' _ o q
  ·exact q' c _ ai
def R1 (K:PySem.W.Frag)(C:U):Bool:=match K.lookup C with
 |some ⟨.type "type",_,.cls cd,bh⟩=>(match cd.mro,bh.toList with
  |.ref w6::bm,[_,_,_,_,some (.builtin n),_]=>w6==C&&n=="Exception.__new__"&&!cd.hasDel&&cd.hasDict&&bm==il.nN&&nsOkIn K cd.ns&&nsIn K cd.ns "__init__"==some none
  |_,_=>false)
 |_=>false
structure pg (K:PySem.W.Frag)(C:U):Prop where
 ok:R1 K C=true
 bu:keepIn K (.ref C)=true
def pg.at {K:PySem.W.Frag}{h:a5}(c:pg K C)(X:K.In h):∃nm q N bs sn sub dO col b4 fm cP bX dX gT i4,h.get? C=some (excClassObj nm q C N bs il.nN true sn sub dO col b4 fm cP bX dX gT "Exception.__new__")/\h.Ns N i4/\i4 "__init__"=none:=by
 have q:=c.ok;unfold R1 at q;split at q
 ·rename_i b4 cd bh aI
  split at q
  ·rename_i w6 bm fm cP bX dX n gT hm aD
   simp only[d6,jX,Bool.not_eq_true'] at q;obtain⟨⟨⟨⟨⟨⟨aE,aL⟩,bI⟩,gO⟩,qB⟩,lH⟩,tD⟩:=q;obtain⟨nm,bs,mro,ns,zE,hd,sn,sub,dO,col,del⟩:=cd;dsimp only at hm bI gO lH tD;subst aE aL hm bI gO qB;have se:bh=#[fm,cP,bX,dX,some (.builtin "Exception.__new__"),gT]:=by obtain⟨l⟩:=bh;simp only at aD;rw[aD]
   subst se;have N:=Heap.Ns.of_isNs (isNs_of_in X lH);exact⟨nm,zE,ns,bs,sn,sub,dO,col,b4,fm,cP,bX,dX,gT,_,X _ _ aI,N,ns_none_of X N tD⟩
  ·cases q
 ·cases q
def pg.z9 {K:PySem.W.Frag}(c:pg K C)(h:a5)(X:K.In h):il.va h C:=by obtain⟨nm,q,N,bs,sn,sub,dO,col,b4,fm,cP,bX,dX,gT,i4,eB,_⟩:=c.at X;exact⟨nm,q,N,bs,sn,sub,dO,col,b4,fm,cP,bX,dX,gT,eB⟩
def aff (C:U):TE:=λ_ H Q=>∀a,H a=none->Q (.ref a) (upd H a (.ext (qw C a none)))
def acO {X:bq}(c:pg X.K C)(bK:hV X x)(hm:X.ae x=some (.ref C))(mx:(x==("__debug__":Str))=false:=by decide):bl X (.Call (.Name x p) [] [] pos) (aff C):=by intro pins s σ H Q J h;refine o3 (sl J bK hm ?_ mx);refine callWith_K0 J.gv c.bu ?_;obtain⟨nm,q,N,bs,sn,sub,dO,col,b4,fm,cP,bX,dX,gT,i4,eB,ak,aR⟩:=c.at J.gv;obtain⟨am,g,d,t,os⟩:=s;refine wpAny_call_exc_sub PySem.F.excBase_Exception eB ak aR (λh' e hm=>?_) (by simp);obtain⟨tt,he,_,_⟩:=hm.there;have b9:H e=none:=J.ba.free hm.new;exact⟨V.ref e,_,J.GJ (o:=.ext (qw C e none)) (t':=t) hm.keeps hm.new ⟨⟨_,he,by simp,rfl⟩,⟨_,he⟩,λg1 g2 ⟨ws,hC,p4⟩ st=>⟨ws,st _ hC,p4⟩⟩,rfl,h e b9⟩
def afl (o6 qd:U)(n i:Nat)(E:fG)(cL Dy sS:dj):dj:=λD σ H=>cL D σ H/\(∀(a:U) (ab:ah) (σ':St),σ'.length=n->E (.ref o6) (some a) ab->Dy D σ' ab)/\
 ∀(a:U) (ab:ah) (σ':St),σ'.length=n->E (.ref qd) (some a) ab->sS (D.gone n) (σ'.set i (some (.ref a))) ab
def Qh {X:bq}{i:Nat}(ip:pg X.K o6)(fH:qv X.K qd f7 f)(Bk:qd≠o6)(fR:X.stack=X.env::X.outer)(vy:X.env.frame=some X.env.locals)
  (FO:hV X x1) (yP:X.ae x1=some (.ref o6)) (FP:hV X x2) (F2:X.ae x2=some (.ref qd)) (c6:X.N.Nodup) (aR:X.N[i]? =some n) (aC:X.env.scope.names.lookup n=some .local)
  (I:∀(cR:List (U×Obj)) (W:af->ar->Prop),mf (Am X.prog X.w λc=>c=o6\/c=qd) {X with cR:=cR,cK:=W} E->e_ {X with cR:=cR,cK:=W} body cL)
  (YZ:∀(cR:List (U×Obj)) (a:U),e_ (X.lr cR a) (gM::IU) Dy) (oq:∀(cR:List (U×Obj)) (a:U),e_ (X.lr cR a) (gD::IV) sS)
  (yE:(x1==("__debug__":Str))=false:=by decide) (hd2:(x2==("__debug__":Str))=false:=by decide):
  fi X (.Try body [.ExceptHandler (some (.Name x1 Pu)) none (gM::IU) NV,.ExceptHandler (some (.Name x2 Pw)) (some n) (gD::IV) F_] [] [] pos) (afl o6 qd X.N.length i E cL Dy sS):=by
 intro pins s σ H D J ⟨aa,ac,Bl⟩;have eD:=J.ok;refine wpAny_Try_except ?_;have e2:X.A.frames=some (X.env::X.outer):=by rw[<-fR];exact eD.frames
 have key:∀(e:af) (s1:ar),(∃p0 σ1 H1 s0,Inv {X with cR:=X.cR++pins,cK:=λ_ _=>True} p0 σ1 H1 s0/\Am X.prog X.w (λc=>c=o6\/c=qd) X.stack H1 s0 E e s1)->
   wpAny (model X.prog X.w) X.A (noteFrame e X.env) (λ_ s2=>wpAny (model X.prog X.w) X.A (setFlight e none) (λ_ s3=>wpAny (model X.prog X.w) X.A (handleBy e X.env
    [.ExceptHandler (some (.Name x1 Pu)) none (gM::IU) NV,.ExceptHandler (some (.Name x2 Pw)) (some n) (gD::IV) F_]) (nY X pins D) X.cK s3) X.cK s2) X.cK s1:=by
  rintro e s1 ⟨p0,σ1,H1,s0,iP,C,Xc,a,aq,ab,B,rfl,os,bare,un,ok,fa,a9,T,fx⟩;have Aw:Inv {X with cR:=X.cR++pins,cK:=λ_ _=>True} p0 σ1 ab s1:=iP.tz os un ok bare (λb z=>absurd z (by simp));have g0:∀b∈gs X.stack,ab b=none:=Aw.wC;rw[fR] at fa;refine il.Ps (L:=X.env.locals) e2 vy fa λqH Ba I' IX=>il.BX (s:={s1 with heap:=qH}) Ba λav Fd Ja IY=>?_;have G4:=Bb (l:=X.stack) g0 un ok (by rw[fR];exact fa) a9 T Fd.st (I'.trans Ja) (IX.trans IY);have S7:Inv {X with cR:=X.cR++pins,cK:=λ_ _=>True} p0 σ1 ab {s1 with heap:=av}:=iP.tz (s':={s1 with heap:=av}) os G4.1 G4.2.1 bare (λb z=>absurd z (by simp));have u2:Inv (X.lr (X.cR++pins) a) [] σ1 ab {s1 with heap:=av}:=Inv.lr (E:=λ_ _=>True) (S7.zy λp am=>absurd am (by simp)) eD a;obtain⟨⟨eT,vs,dF,ng,d0,f0,lu⟩,_,_⟩:=(show dq X.prog X.w ab av a (.ext (k0 C a aq)) from G4.2.1 a _ a9);refine wpAny_handleBy_cons (codeAny_handlers_test (sl (X:=X.lr (X.cR++pins) a) u2 FO yP ?_ yE)) (by intro q;cases q);rcases Xc with rfl|rfl
  ·
   obtain⟨nm,q,N,bs,sn,sub,dO,col,b4,fm,cP,bX,dX,gT,i4,eB,_⟩:=ip.at u2.gv;refine wpAny_excMatches_sub_self eB dF ng (by decide) (codeAny_handlers_suite ?_);refine il.BX (s:={s1 with heap:=av}) Fd λbn Fe Jb IZ=>?_;have zc:=Bb (l:=X.stack) g0 un ok (by rw[fR];exact fa) a9 T Fe.st ((I'.trans Ja).trans Jb) ((IX.trans IY).trans IZ);have D8:Inv {X with cR:=X.cR++pins,cK:=λ_ _=>True} p0 σ1 ab {s1 with heap:=bn}:=iP.tz (s':={s1 with heap:=bn}) os zc.1 zc.2.1 bare (λb z=>absurd z (by simp));have D9:Inv (X.lr (X.cR++pins) a) [] σ1 ab {s1 with heap:=bn}:=Inv.lr (E:=λ_ _=>True) (D8.zy λp am=>absurd am (by simp)) eD a;refine je (YZ (X.cR++pins) a [] _ σ1 ab D D9 (ac a ab σ1 iP.len fx)) (λr0 i6 az=>?_) λ_ _ z=>z.elim;show nY X pins D r0 i6;cases r0 with
   |next=>obtain⟨σ6,ey,g4,fT⟩:=az;exact⟨_,ey,g4.z4 eD λp am=>am,fT⟩
   |brk=>obtain⟨σ6,ey,g4,fT⟩:=az;exact⟨_,ey,g4.z4 eD λp am=>am,fT⟩
   |cont=>obtain⟨σ6,ey,g4,fT⟩:=az;exact⟨_,ey,g4.z4 eD λp am=>am,fT⟩
   |ret u=>obtain⟨v,σ6,ey,g4,cy,fT⟩:=az;exact⟨v,_,ey,g4.z4 eD λp am=>am,cy,fT⟩
  ·
   refine il.aaz (C:=C) (D:=o6) (fH.at u2.gv).z9 (ip.z9 _ u2.gv) Bk dF ng ?_;show wpAny _ _ (handleBy _ _ _) _ _ _;refine wpAny_handleBy_cons (codeAny_handlers_test (sl (X:=X.lr (X.cR++pins) a) u2 FP F2 ?_ hd2)) (by intro q;cases q);obtain⟨⟨nm,q,N,bs,sn,sub,dO,col,b4,fm,cP,bX,dX,gT,i4,hO,eB,_⟩,_⟩:=fH.at u2.gv;refine wpAny_excMatches_sub_self eB dF ng (by decide) (codeAny_handlers_suite_as ?_);refine il.BX (s:={s1 with heap:=av}) Fd λbn Fe Jb IZ=>?_;have zc:=Bb (l:=X.stack) g0 un ok (by rw[fR];exact fa) a9 T Fe.st ((I'.trans Ja).trans Jb) ((IX.trans IY).trans IZ);have D8:Inv {X with cR:=X.cR++pins,cK:=λ_ _=>True} p0 σ1 ab {s1 with heap:=bn}:=iP.tz (s':={s1 with heap:=bn}) os zc.1 zc.2.1 bare (λb z=>absurd z (by simp));have D9:Inv (X.lr (X.cR++pins) a) [] σ1 ab {s1 with heap:=bn}:=Inv.lr (E:=λ_ _=>True) (D8.zy λp am=>absurd am (by simp)) eD a;refine Do (X:=X.lr (X.cR++pins) a) (s:={s1 with heap:=bn}) (v:=.ref a) D9 c6 aR (Or.inl aC) rfl (λs5 S8=>?_) (.inr aC);refine je (oq (X.cR++pins) a [] s5 _ ab (D.gone X.N.length) S8 (Bl a ab σ1 iP.len fx)) (λr0 i6 az=>?_) λ_ _ z=>z.elim;have fin:∀{σ6:St} {ey:ah},Inv (X.lr (X.cR++pins) a) [] σ6 ey i6->(∀jT,Inv X pins (replicate X.N.length none) ey jT->nY X pins D r0 jT)->
     wpAny (model X.prog X.w) X.A (do bindName X.env n .none;unbindBehindTheSuite X.env n F_) (λ_ jT=>nY X pins D r0 jT) X.cK i6:=λ{σ6 ey} g4 k=>by
    have nS:Inv X pins σ6 ey i6:=g4.z4 eD λp am=>am;obtain⟨m,ak,_⟩:=nS.loc;refine wpAny_nameGoes aC ak (by rw[eD.kind];rfl) λh' cQ r_ dM=>k _ (nS.forget r_ dM)
   cases r0 with
   |next=>obtain⟨σ6,ey,g4,fT⟩:=az;exact fin g4 λjT ho=>⟨_,ey,ho,fT⟩
   |brk=>obtain⟨σ6,ey,g4,fT⟩:=az;exact fin g4 λjT ho=>⟨_,ey,ho,fT⟩
   |cont=>obtain⟨σ6,ey,g4,fT⟩:=az;exact fin g4 λjT ho=>⟨_,ey,ho,fT⟩
   |ret u=>obtain⟨v,σ6,ey,g4,cy,fT⟩:=az;exact fin g4 λjT ho=>⟨v,_,ey,ho,cy,fT⟩
 have jK:=J.acY (λe s1=>∃p0 σ1 H1 s0,Inv {X with cR:=X.cR++pins,cK:=λ_ _=>True} p0 σ1 H1 s0/\Am X.prog X.w (λc=>c=o6\/c=qd) X.stack H1 s0 E e s1);refine je (I (X.cR++pins) _ (λp0 σ1 H1 s0 e s1 iP q=>⟨p0,σ1,H1,s0,⟨⟨eD.mod,eD.kind,eD.glob,eD.blt,eD.above,eD.inj,eD.has,eD.rK,eD.hd,eD.frames,eD.uH,eD.tG,eD.bs,eD.nf,eD.sB,eD.rT,eD.k6,eD.mu⟩,iP.os,iP.bare,iP.base,iP.loc,iP.cell,iP.free,iP.jq,iP.pin,iP.ba,iP.len⟩,q⟩) [] s σ H D jK aa)
  (λr0 i6 az=>?_) key
 cases r0 with
 |next=>obtain⟨σ6,ey,g4,fT⟩:=az;exact wpAny_execs_nil ⟨σ6,ey,g4.DA eD,fT⟩
 |brk=>obtain⟨σ6,ey,g4,fT⟩:=az;exact⟨σ6,ey,g4.DA eD,fT⟩
 |cont=>obtain⟨σ6,ey,g4,fT⟩:=az;exact⟨σ6,ey,g4.DA eD,fT⟩
 |ret u=>obtain⟨v,σ6,ey,g4,cy,fT⟩:=az;exact⟨v,σ6,ey,g4.DA eD,cy,fT⟩
def Jp (i j:Int):Prop:=0<=j/\j<=1000/\i.natAbs < 2 ^ 1000
def ur:hF X (binaryOp .LShift) (HT Jp λi j=>.int (i * 2 ^ j.toNat)):=PV λ_ _ _ _ _ _ _ ai q=>lshift_int ai.1 (by
 have I:=intBits_le ai.2.2;have:=ai.2.1;omega) q
def vc (a b:Nat):Builtin.bitAnd (a:Int) (b:Int)=((a&&& b:Nat):Int):=by unfold Builtin.bitAnd;rw[ej (Int.natCast_nonneg a),ej (Int.natCast_nonneg b)];rfl
def rd (a b:Nat):Builtin.bitOr (a:Int) (b:Int)=((a|||b:Nat):Int):=by
 unfold Builtin.bitOr Builtin.bitNot Builtin.bitAnd;have al:decide (0<= -(a:Int) - 1)=false:=cW (by omega);have I:decide (0<= -(b:Int) - 1)=false:=cW (by omega);rw[al,I];unfold Builtin.bitNot;have aE:(-(-(a:Int) - 1) - 1).toNat=a:=by omega
 have aL:(-(-(b:Int) - 1) - 1).toNat=b:=by omega
 simp only[aE,aL];omega
def C8 (a k:Nat):((a:Int) * 2 ^ ((k:Int)).toNat)=((a <<< k:Nat):Int):=by
 rw[Nat.shiftLeft_eq,wM]
 push_cast
 rfl
theorem Cv:∀{xs:List α} {us:List β},xs.length=us.length->(∀(i:Nat) x u,xs[i]? =some x->us[i]? =some u->F x u)->Paired F xs us
 |[],[],_,_=>.nil
 |[],_::_,h,_=>by simp at h
 |_::_,[],h,_=>by simp at h
 |x::xs,u::us,h,k=>.cons (k 0 x u rfl rfl) (Cv (by simpa using h) λi y v aE aL=>k (i+1) y v (by simpa using aE) (by simpa using aL))
theorem ut:∀{xs:List α} {us:List β} {i:Nat} {x:α} {u:β},Paired F xs us->xs[i]? =some x->us[i]? =some u->F x u
 |_,_,_,_,_,.nil,h,_=>by simp at h
 |_,_,0,_,_,.cons r _,aa,ac=>by simp at aa ac;subst aa ac;exact r
 |_,_,i+1,_,_,.cons _ t,aa,ac=>ut (i:=i) t (by simpa using aa) (by simpa using ac)
section
variable {T:String}{n:Nat}
def UD (K:PySem.W.KdlSrc prog w T r d n P Kh)(dz:A.handled=none)(ba:Kh s.heap)(ak:n<=sizeLine)
  (eV:∀h' tk m_,(∀b o,s.heap.get? b=some o->h'.get? b=some o)->ItemsOf P m_ n->Q m_.toList {s with heap:=h',toks:=tk}):wpAny (model prog w) A (collect (.ref r)) Q E s:=by
 have cO:=K.there _ ba;have gR:(s.heap.push {cls:=.type "list",data:=.seq ([]:List af).toArray}).get? s.heap.objs.size=some {cls:=.type "list",data:=.seq #[] 0}:=fM _ rfl;have key:∀R:Result->ar->Prop,(∀h' tk m_ b7,(∀b o,s.heap.get? b=some o->h'.get? b=some o)->h'.get? s.heap.objs.size=some {cls:=.type "list",dict:=none,data:=.seq m_ b7,slots:=#[]}->ItemsOf P m_ n->
   R (.ok (.ret (.ref s.heap.objs.size))) {s with heap:=h',toks:=tk})->codeAny (model prog w) A (.builtin "list.__iadd__" ⟨[.ref s.heap.objs.size,.ref r],[]⟩) R {s with heap:=s.heap.push {cls:=.type "list",data:=.seq ([]:List af).toArray}}:=λR iz=>by
  refine tb PySem.F.entry_list_iadd ?_;rw[ta plain_list_iadd _];show wpAny _ A.in1 (Builtin.List.listExtendWith (.ref s.heap.objs.size) (.ref r) (.ref s.heap.objs.size)) _ _ _;exact PySem.W.kdl_extend (R:=R) (s:={s with heap:=s.heap.push {cls:=.type "list",data:=.seq ([]:List af).toArray}}) (A:=A) K dz (K.keep _ _ ba λb _ o e=>dx _ e) _ (iL cO.1) (iL cO.2) _ 0 gR
   (λh' tk m_ b7 aw r5 j9=>iz h' tk m_ b7 (λb o e=>aw b o (e8 (dc e)) (dx _ e)) r5 j9) ak
 unfold collect;refine aH (wpAny_runValue (tb PySem.F.entry_proto_collect ?_));rw[ta PySem.F.plain_proto_collect _];show wpAny _ A.in1 (newList [] >>= λl=>again (.builtin "list.__iadd__" ⟨[l,.ref r],[]⟩)) _ _ s;refine aH (td ?_);refine bp ⟨uX plain_list_iadd _,key _ λh' tk m_ b7 aw r5 j9=>?_⟩;show wpAny _ A (load s.heap.objs.size >>= _) _ _ _;refine aH (wpAny_load r5 ?_);exact bp (eV h' tk m_ aw j9)
end
inductive ads (x:V)(vs:List V)(H:ah)(Q:cM):Prop|i(l:U)(ns:List Int)(v:Int)(_:x=.ref l)(_:vs=[.int v])(_:H l=some (.lst (ns.map V.int)))(_:v∈ns)(_:Q .b1 (upd H l (.lst ((ns.erase v).map V.int))))
theorem OZ:∀(ns:List Int) (j:Nat),(ns.map V.int).eraseIdx j=(ns.eraseIdx j).map V.int
 |[],_=>rfl
 |_::_,0=>rfl
 |a::l,j+1=>by rw[ck,DG,DG,ck,OZ l j]
def Vq {ns:List Int}{v:Int}{j:Nat}(bF:ns[j]? =some v)(BE:∀m:Nat,m < j->ns[m]? ≠some v):ns.eraseIdx j=ns.erase v:=by
 induction ns generalizing j with
 |nil=>simp at bF
 |cons a l bE=>
  cases j with
  |zero=>
   have:a=v:=by simpa using bF
   subst this;simp
  |succ j=>have h0:a≠v:=λe=>BE 0 (by omega) (by simp[e]);rw[DG,List.erase_cons_tail (by simpa using h0)];rw[bE (by simpa using bF) (λm hm=>by have:=BE (m+1) (by omega);simpa using this)]
def aaC {ns:List Int}{v:Int}(h:v∈ns):∃j:Nat,ns[j]? =some v/\∀m:Nat,m < j->ns[m]? ≠some v:=by
 induction ns with
 |nil=>simp at h
 |cons a l bE=>
  by_cases e:a=v
  ·exact⟨0,by simp[e],λm hm=>absurd hm (Nat.not_lt_zero _)⟩
  ·have:v∈l:=by
    rcases cr.mp h with z|z
    ·exact absurd z.symm e
    ·exact z
   obtain⟨j,aa,ac⟩:=bE this;refine⟨j+1,by simpa using aa,λm hm=>?_⟩;cases m with
   |zero=>simpa using e
   |succ m=>simpa using ac m (by omega)
def aaS {X:bq}:AF X "list.remove" ads:=by
 intro pins s σ H x vs v us Q J bG cy h;obtain⟨l,ns,k,rfl,rfl,ix,aw,q⟩:=h;cases bG;obtain⟨u,rfl,c7⟩:=cy.one;obtain⟨t,rfl⟩:=c7;obtain⟨z,a3,n,r,aC,e⟩:=J.ua ix;obtain⟨j,aa,ac⟩:=aaC aw;have get:∀m (hm:m < a3.toArray.size),∃i t,ns[m]? =some i/\a3.toArray[m]=Value.int i t:=λm hm=>by
  have pF:m < ns.length:=by rw[fL] at hm;rw[cc] at aC;omega
  obtain⟨u,aE,t,aL⟩:=r.get (i:=m) (x:=V.int ns[m]) (by rw[hD,iK pF];rfl);refine⟨ns[m],t,iK pF,?_⟩;rw[<-aL];have:=(eX.mp aE).2;simpa using this
 have bF:j < a3.toArray.size:=by have:=(eX.mp aa).1;rw[fL];rw[cc] at aC;omega
 have eqs:∀y,y∈a3.toArray->MeetsSeq.EqGives y (.int k t) (match y with|.int i _=>i==k|_=>false):=λy bk=>by obtain⟨m,hm,rfl⟩:=Array.mem_iff_getElem.mp bk;obtain⟨i,t',_,aL⟩:=get m hm;rw[aL];exact MeetsSeq.EqGives.int i k t' t
 refine call_meets PySem.F.slot_list_remove ⟨_,e,rfl⟩ PySem.F.entry_list_remove (PySem.F.args_list_remove_2 _ _)
  (MeetsSeq.list_remove l a3.toArray n (.int k t) (λy=>match y with|.int i _=>i==k|_=>false) eqs j bF ?_ (λm hm Yu=>?_) (by rw[fL];omega)) ⟨e,?_⟩
 ·obtain⟨i,t',aE,aL⟩:=get j bF;rw[aa] at aE;cases aE;rw[aL];simp
 ·obtain⟨i,t',aE,aL⟩:=get m hm;rw[aL];have:i≠k:=λz=>ac m Yu (by rw[aE,z]);simpa using this
 ·have bI:(ns.erase k).map V.int=(ns.map V.int).eraseIdx j:=by rw[<-Vq aa ac];exact(OZ ns j).symm
  refine⟨.b1,_,J.B2 (its':=a3.eraseIdx j) ix e ?_ (by rw[bI];exact r.eraseIdx j) ?_,rfl,q⟩
  ·show a3.toArray.eraseIdxIfInBounds j=(a3.eraseIdx j).toArray;rw[List.eraseIdxIfInBounds_toArray]
  ·rw[bI];have:=OH (ns.map V.int) j;omega
def Uq (ai:X.calm=true):qe X (.type "list") (λxs H Q=>∃p kvs,xs=[.ref p]/\aU H p (.cq kvs)/\∀l,H l=none->Q (.ref l) (upd H l (.lst (kvs.map λbJ=>cV bJ.1)))):=by
 intro pins s σ H xs us Q J r h;obtain⟨p,kvs,rfl,am,q⟩:=h;obtain⟨u,rfl,bG⟩:=vals1 r;cases bG;obtain⟨z,hd,vs,rel,b4⟩:=pk J.ba am;obtain⟨ep,mm⟩:=b4.dictAt;refine PySem.W.kdl_call (kdl_dict hd) (J.ok.hd ai) mm (by rw[<-rel.length];exact z) λh' tk m_ b7 aw gR j9=>?_;have bx:b' (kvs.map λbJ=>cV bJ.1) m_.toList:=by
  have hK:=rel.length;have om:=j9.1;refine Cv (by rw[cc];simp only[Aa];omega) λi x u aE aL=>?_;obtain⟨k,y,aa,ac⟩:=j9.2 i u (by rw[<-Array.getElem?_toList];exact aL);rw[hD] at aE;obtain⟨bJ,ol,rfl⟩:=mX.mp aE;obtain⟨bt,_⟩:=ut rel ol aa;rcases nx ac with⟨i,t,bI,rfl⟩|⟨y,t,bI,rfl⟩
  ·rw[bt,bI];exact⟨t,rfl⟩
  ·rw[bt,bI];exact⟨t,rfl⟩
 exact⟨.ref s.heap.objs.size,_,J.laid (t':=tk) aw (b5 _) (show dq X.prog X.w _ h' _ (.lst _) from⟨by rw[cc];exact z,m_.toList,b7,bx,by simpa using gR⟩),rfl,q _ (J.ba.fresh (b5 _))⟩
end aB
namespace cm
open PySem PyProof.Rows
open Sem (wp)
structure xq where
 M:Model
 G:Ctx
 s:ar
 s':ar
 E:af->Pos->ar->Prop
 kd:SortKind
def be (T:xq)(f:StateT SortSt Sem α):Prop:=∀(st:SortSt),kindOf st=T.kd->∀(Q:α×SortSt->ar->Prop) (ef:Pos),wp T.M T.G (f.run st) (λx _ s1=>Q x s1) (λ_ _ _=>False) ef T.s'->
 ∀p,wp T.M T.G (f.run st) (λx _ s1=>s1=T.s/\kindOf x.2=T.kd/\Q x T.s') T.E p T.s
def nT (T:xq):Prop:=∀(x y:af) (Q:Except af Bool->ar->Prop) (ef:Pos),wp T.M T.G (keyLt' T.kd x y) (λb _ s1=>Q (.ok b) s1) (λe _ s1=>Q (.error e) s1) ef T.s'->
 ∀p,wp T.M T.G (keyLt' T.kd x y) (λb _ s1=>s1=T.s/\Q (.ok b) T.s') (λe _ s1=>s1=T.s/\Q (.error e) T.s') p T.s
def be.pure:be T (Pure.pure a:StateT SortSt Sem α):=λst aw Q ef h p=>by rw[StateT.run_pure,l'] at h ⊢;exact⟨rfl,aw,h⟩
def be.bind (hm:be T m)(aw:∀a,be T (k a)):be T (m >>= k):=λst fR Q ef h p=>by rw[StateT.run_bind,jc] at h ⊢;have aa:=hm st fR (λx s1=>∃fp,wp T.M T.G ((k x.1).run x.2) (λy _ s2=>Q y s2) (λ_ _ _=>False) fp s1) ef (wp_mono T.M T.G _ (λx fp s1 z=>⟨fp,z⟩) (λ_ _ _ z=>z) ef T.s' h) p;refine wp_mono T.M T.G _ (λx fp s1 z=>?_) (λ_ _ _ z=>z) p T.s aa;obtain⟨rfl,ao,eI,z⟩:=z;exact aw x.1 x.2 ao Q eI z fp
def be.get:be T (get:StateT SortSt Sem SortSt):=λst fR Q ef h p=>by rw[StateT.run_get,l'] at h ⊢;exact⟨rfl,fR,h⟩
def be.modify {f:SortSt->SortSt}(hf:∀st,kindOf (f st)=kindOf st):be T (modify f:StateT SortSt Sem PUnit):=λst fR Q ef h p=>by rw[StateT.run_modify,l'] at h ⊢;exact⟨rfl,(hf st).trans fR,h⟩
def be.MK {k:SortSt->StateT SortSt Sem β}(aw:∀a,kindOf a=T.kd->be T (k a)):be T ((MonadState.get:StateT SortSt Sem SortSt) >>= k):=λst fR Q ef h p=>by rw[StateT.run_bind,StateT.run_get,jc,l'] at h ⊢;exact aw st fR st fR Q ef h p
def be.set {eh:SortSt}(hf:kindOf eh=T.kd):be T (set eh:StateT SortSt Sem PUnit):=λst fR Q ef h p=>by rw[StateT.run_set,l'] at h ⊢;exact⟨rfl,hf,h⟩
def be.rule {tag:String}:be T (liftM (rule tag):StateT SortSt Sem Unit):=λst fR Q ef h p=>by
 have e:∀(post:Unit×SortSt->Pos->ar->Prop) (exc:af->Pos->ar->Prop) (q:Pos) (u:ar),wp T.M T.G ((liftM (PySem.rule tag):StateT SortSt Sem Unit).run st) post exc q u=post ((),st) q u:=λpost exc q u=>by show wp T.M T.G (PySem.rule tag >>= λa=>Pure.pure (a,st)) post exc q u=_;rw[jc];show wp T.M T.G (Sem.rule tag .pure) _ _ _ _=_;rw[Sem.wp_rule,wp_pure,l']
 rw[e] at h ⊢;exact⟨rfl,fR,h⟩
def be.unsupported {Ji:String}:be T (liftM (PySem.unsupported Ji:Sem α):StateT SortSt Sem α):=λst fR Q ef h p=>by have h':wp T.M T.G (PySem.unsupported Ji >>= λa:α=>Pure.pure (a,st)) (λx _ s1=>Q x s1) (λ_ _ _=>False) ef T.s':=h;rw[jc] at h';have ac:wp T.M T.G (Sem.unsupported Ji:Sem α) _ _ _ _:=h';rw[Sem.wp_unsupported] at ac;exact ac.elim
theorem be.Mj {f:Nat->β->StateT SortSt Sem (ForInStep β)}(hf:∀i b,be T (f i b)):∀(l:List Nat) (b:β),be T (forIn l b f)
 |[],b=>by rw[p9];exact be.pure
 |x::r,b=>by
  rw[kO];refine be.bind (hf x b) λa=>?_;cases a with
  |done n5=>exact be.pure
  |yield n5=>exact be.Mj hf r n5
def be.tI {a b:Nat}{f:Nat->β->StateT SortSt Sem (ForInStep β)}(hf:∀i b,be T (f i b)):be T (forIn [a:b] c f):=by rw[Std.Legacy.Range.forIn_eq_forIn_range'];exact be.Mj hf _ _
def be.lt (L:nT T)(x y:Keyed):be T (lt' x y):=by
 rw[lt'_eq];refine be.MK λa al=>?_;intro st fR Q ef h p;rw[StateT.run_bind,jc] at h ⊢;have e:∀(post:Except af Bool×SortSt->Pos->ar->Prop) (exc:af->Pos->ar->Prop) (q:Pos) (u:ar),wp T.M T.G ((liftM (keyLt' (kindOf a) x.1 y.1).attempt:StateT SortSt Sem (Except af Bool)).run st) post exc q u
   =wp T.M T.G (keyLt' T.kd x.1 y.1) (λb q u=>post (.ok b,st) q u) (λe q u=>post (.error e,st) q u) q u:=λpost exc q u=>by
  show wp T.M T.G ((keyLt' (kindOf a) x.1 y.1).attempt >>= λr=>Pure.pure (r,st)) post exc q u=_;rw[jc,Sem.wp_attempt,al];simp only[l']
 rw[e] at h ⊢;have aa:=L x.1 y.1 (λr s1=>∃fp,wp T.M T.G ((match r with
   |.ok b=>Pure.pure (some b)
   |.error e=>do _root_.modify (λs=>SortSt.mk' (kindOf s) (arrOf s) (pendingOf s) (gallopOf s) (some e));Pure.pure none:StateT SortSt Sem (Option Bool)).run st) (λy _ s2=>Q y s2) (λ_ _ _=>False) fp s1) ef
  (wp_mono T.M T.G _ (λb fp s1 z=>⟨fp,z⟩) (λb fp s1 z=>⟨fp,z⟩) ef T.s' h) p
 refine wp_mono T.M T.G _ (λb fp s1 z=>?_) (λe fp s1 z=>?_) p T.s aa
 ·obtain⟨rfl,eI,z⟩:=z;exact be.pure st fR Q eI z fp
 ·obtain⟨rfl,eI,z⟩:=z;exact be.bind (be.modify (f:=λs=>SortSt.mk' (kindOf s) (arrOf s) (pendingOf s) (gallopOf s) (some e)) λ_=>rfl) (λ_=>be.pure (a:=none)) st fR Q eI z fp
def be.ite {c:Prop}[Decidable c](al:be T a)(I:be T b):be T (if c then a else b):=by
 split
 ·exact al
 ·exact I
def be.elem (arr:Array Keyed)(i:Nat):be T (elem' arr i):=by
 rw[elem'_eq];split
 ·exact be.pure
 ·exact be.unsupported
def be.ltAt (L:nT T)(i j:Nat):be T (ltAt' i j):=by rw[ltAt'_eq];refine be.bind be.get λa=>be.bind (be.elem _ _) λx=>be.bind (be.elem _ _) λy=>be.lt L x y
def be.rev (i j:Nat):be T (reverseSlice' i j):=by rw[reverseSlice'_eq];exact be.modify λ_=>rfl
def be.down (i j:Nat):be T (moveDown' i j):=by rw[moveDown'_eq];exact be.modify λ_=>rfl
def be.O7 (g:Nat):be T (setMinGallop' g):=by rw[setMinGallop'_eq];exact be.modify λ_=>rfl
def be.countRun (L:nT T)(lo abk:Nat):be T (countRun' lo abk):=by
 rw[countRun'_eq]
 repeat' (first|(with_reducible exact be.pure)|(with_reducible exact be.ltAt L _ _)|(with_reducible exact be.rev _ _)|(with_reducible exact be.rule)|(with_reducible refine be.bind ?_ λ_=>?_)|(with_reducible refine be.tI λ_ _=>?_)|split|dsimp only)
def be.binary (L:nT T)(lo n ok:Nat):be T (binarySort' lo n ok):=by
 rw[binarySort'_eq]
 repeat' (first|(with_reducible exact be.pure)|(with_reducible exact be.ltAt L _ _)|(with_reducible exact be.down _ _)|(with_reducible exact be.rule)|(with_reducible refine be.bind ?_ λ_=>?_)|(with_reducible refine be.tI λ_ _=>?_)|split|dsimp only)
def be.beyond (L:nT T)(left:Bool)(key:Keyed)(arr:Array Keyed)(base i:Nat):be T (beyond' left key arr base i):=by
 unfold beyond'
 repeat' (first|(with_reducible exact be.pure)|(with_reducible exact be.lt L _ _)|(with_reducible exact be.elem _ _)|(with_reducible refine be.bind ?_ λ_=>?_)|split|dsimp only)
def be.gallop (L:nT T)(left:Bool)(key:Keyed)(arr:Array Keyed)(base n hint:Nat):be T (gallop' left key arr base n hint):=by
 rw[gallop'_eq]
 repeat' (first|(with_reducible exact be.pure)|(with_reducible exact be.beyond L _ _ _ _ _)|(with_reducible refine be.bind ?_ λ_=>?_)|(with_reducible refine be.tI λ_ _=>?_)|split|dsimp only)
def be.mergeLo (L:nT T)(a b:Array Keyed):be T (mergeLo' a b):=by
 rw[mergeLo'_eq]
 repeat' (first|(with_reducible exact be.pure)|(with_reducible exact be.lt L _ _)|(with_reducible exact be.elem _ _)|(with_reducible exact be.O7 _)|(with_reducible exact be.gallop L _ _ _ _ _ _)|(with_reducible exact be.get)|(with_reducible exact be.rule)|(with_reducible exact be.unsupported)|(with_reducible refine be.bind ?_ λ_=>?_)|(with_reducible refine be.tI λ_ _=>?_)|(with_reducible refine be.ite ?_ ?_)|split|dsimp only)
def be.mergeHi (L:nT T)(a b:Array Keyed):be T (mergeHi' a b):=by
 rw[mergeHi'_eq]
 repeat' (first|(with_reducible exact be.pure)|(with_reducible exact be.lt L _ _)|(with_reducible exact be.elem _ _)|(with_reducible exact be.O7 _)|(with_reducible exact be.gallop L _ _ _ _ _ _)|(with_reducible exact be.get)|(with_reducible exact be.rule)|(with_reducible exact be.unsupported)|(with_reducible refine be.bind ?_ λ_=>?_)|(with_reducible refine be.tI λ_ _=>?_)|(with_reducible refine be.ite ?_ ?_)|split|dsimp only)
def be.mergeAt (L:nT T)(i:Nat):be T (mergeAt' i):=by
 rw[mergeAt'_eq];refine be.MK λa al=>?_
 repeat' (first|(with_reducible exact be.pure)|(with_reducible exact be.lt L _ _)|(with_reducible exact be.elem _ _)|(with_reducible exact be.mergeLo L _ _)|(with_reducible exact be.mergeHi L _ _)|(with_reducible exact be.set al)|(with_reducible exact be.gallop L _ _ _ _ _ _)|(with_reducible exact be.get)|(with_reducible exact be.modify λ_=>rfl)|(with_reducible exact be.rule)|(with_reducible exact be.unsupported)|(with_reducible refine be.bind ?_ λ_=>?_)|(with_reducible refine be.tI λ_ _=>?_)|(with_reducible refine be.ite ?_ ?_)|split|dsimp only)
def be.sortRuns (L:nT T):be T sortRuns':=by
 rw[sortRuns'_eq]
 repeat' (first|(with_reducible exact be.pure)|(with_reducible exact be.countRun L _ _)|(with_reducible exact be.binary L _ _ _)|(with_reducible exact be.mergeAt L _)|(with_reducible exact be.get)|(with_reducible exact be.modify λ_=>rfl)|(with_reducible exact be.rule)|(with_reducible exact be.unsupported)|(with_reducible refine be.bind ?_ λ_=>?_)|(with_reducible refine be.tI λ_ _=>?_)|(with_reducible refine be.ite ?_ ?_)|split|dsimp only)
end cm
namespace cm
open PySem PyProof.Rows PySem.W
open Sem (wp)
def Mr:Obj:=⟨.none,none,.freed,#[]⟩
def wl (n:Nat):Obj:={cls:=.type "tuple",data:=.seq (replicate n Value.none).toArray}
def top (as:List U):Nat:=as.foldr (λa n=>max (a+1) n) 0
def aak (h:a∈as):a < top as:=by
 induction as with
 |nil=>simp at h
 |cons b r bE=>
  show a < max (b+1) (top r);rcases cr.mp h with e|e
  ·subst e;exact hl (p' a) (Nat.le_max_left _ _)
  ·exact hl (bE e) (Nat.le_max_right _ _)
def nE (as:List U)(rank:U->Nat):a5:={objs:=((range (top as)).map λa=>if a∈as then wl (rank a) else Mr).toArray}
def IW (h:a∈as):(nE as rank).get? a=some (wl (rank a)):=by
 have e:(nE as rank).objs[a]? =some (wl (rank a)):=by unfold nE;simp[aak h,h]
 unfold Heap.get?;rw[e];rfl
def aeT (h:a∉as):(nE as rank).get? a=none:=by
 unfold Heap.get?;by_cases aC:a < top as
 ·have e:(nE as rank).objs[a]? =some Mr:=by unfold nE;simp[aC,h]
  rw[e];rfl
 ·have e:(nE as rank).objs[a]? =none:=by unfold nE;simp;exact Nat.le_of_not_lt aC
  rw[e]
def RZ (post:Bool->Pos->ar->Prop)(exc:af->Pos->ar->Prop)(q:Pos)(u:ar):wp M G (eqBool .none .none) post exc q u=post true q u:=by unfold eqBool;rw[Sem.wp_holding];show wp M G (if(Value.none==Value.none)=true then _ else _) post exc q u=_;rw[aV (by rfl)];show wp M G (rule _ >>= λ_=>Pure.pure true) post exc q u=_;rw[jc];show wp M G (Sem.rule _ .pure) _ _ _ _=_;rw[Sem.wp_rule,wp_pure,l']
def Jl {n:Nat}(aI:s.heap.get? a=some o)(hd:o.data=.seq xs n)(post:Array af->Pos->ar->Prop)(exc:af->Pos->ar->Prop)(q:Pos):
  wp M G (Builtin.List.listItems (.ref a)) post exc q s=post xs q s:=by
 unfold Builtin.List.listItems seqItems?;rw[jc,jc];show wp M G (Sem.load a none .pure) _ _ _ _=_;rw[Sem.wp_load];apply propext;constructor
 ·rintro⟨d5,aa,ac⟩;rw[aI] at aa;cases aa;rw[wp_pure] at ac;rw[hd] at ac;simpa using ac
 ·intro h;refine⟨o,aI,?_⟩;rw[wp_pure,hd];simpa using h
def Gw (h:∀a,v=.ref a->s.heap.get? a=none)(k:wp M G (Builtin.List.listItems v) post exc q s):False:=by
 unfold Builtin.List.listItems at k;rw[jc] at k;cases v with
 |ref a=>unfold seqItems? at k;rw[jc] at k;have b0:wp M G (Sem.load a none .pure) _ _ _ _:=k;rw[Sem.wp_load] at b0;obtain⟨o,aa,_⟩:=b0;rw[h a rfl] at aa;cases aa
 |builtin id=>
  have b0:wp M G (notAStandIn (.builtin id) >>= λ_=>Pure.pure none) _ _ _ _:=k;rw[jc] at b0;unfold notAStandIn at b0;dsimp only at b0;by_cases aR:(withoutEnding? id "#opaque").isSome=true
  ·rw[aV aR] at b0;have bX:wp M G (Sem.unsupported _) _ _ _ _:=b0;rw[Sem.wp_unsupported] at bX;exact bX
  ·rw[aN aR,l',l'] at b0;have bX:wp M G (Sem.unsupported _) _ _ _ _:=b0;rw[Sem.wp_unsupported] at bX;exact bX
 |_=>have b0:wp M G (Pure.pure () >>= λ_=>Pure.pure none) _ _ _ _:=k;rw[jc,l',l'] at b0;have bX:wp M G (Sem.unsupported _) _ _ _ _:=b0;rw[Sem.wp_unsupported] at bX;exact bX
theorem OR (I:∀i (post:ForInStep (Option Bool×Unit)->Pos->ar->Prop) exc q u,wp M G (body ((.none,.none),i) (none,())) post exc q u=post (.yield (none,())) q u):
  ∀(n m i:Nat) (post:Option Bool×Unit->Pos->ar->Prop) (exc:af->Pos->ar->Prop) (q:Pos) (u:ar),wp M G (forIn (((replicate n Value.none).zip (replicate m Value.none)).zipIdx i) (none,()) body) post exc q u=post (none,()) q u
 |0,m,i,post,exc,q,u=>by rw[List.replicate_zero,List.zip_nil_left,List.zipIdx_nil,p9,l']
 |n+1,0,i,post,exc,q,u=>by rw[List.replicate_zero,List.zip_nil_right,List.zipIdx_nil,p9,l']
 |n+1,m+1,i,post,exc,q,u=>by rw[List.replicate_succ,List.replicate_succ,nJ,List.zipIdx_cons,kO,jc,I];exact OR I n m (i+1) post exc q u
def R0 {b:Bool}(al:a∈as)(ai:c∈as)(aD:s.heap=nE as rank)(post:Bool->Pos->ar->Prop)(exc:af->Pos->ar->Prop)(q:Pos):
  wp M G (keyLt' (tuples' b) (.ref a) (.ref c)) post exc q s=post (decide (rank a < rank c)) q s:=by
 have aa:s.heap.get? a=some (wl (rank a)):=by rw[aD];exact IW al
 have ac:s.heap.get? c=some (wl (rank c)):=by rw[aD];exact IW ai
 rw[kat_lt_eq,jc,Jl aa rfl,jc,Jl ac rfl,jc,OR]
 ·simp
 ·intro i post exc q u;dsimp only;rw[jc,RZ];simp
def Zv {b:Bool}(yj:G.In A)(aD:s'.heap=nE as rank)
  (h:∀a c,a∈as->c∈as->∀(Q:Bool->ar->Prop),Q (decide (rank a < rank c)) s->wpAny (model prog w) A (keyLt' (tuples' b) (.ref a) (.ref c)) Q (λ_ _=>False) s):
  nT ⟨model prog w,G,s,s',E,tuples' b⟩:=by
 intro x y Q ef k p;have isin:∀v,(∀a,v=Value.ref a->a∉as)->∀a,v=.ref a->s'.heap.get? a=none:=λv bx a e=>by rw[aD];exact aeT (bx a e)
 have out:(∀a,x=.ref a->a∉as)\/(∀a,y=.ref a->a∉as)->False:=λz=>by
  have b0:=k;dsimp only at b0;rw[kat_lt_eq,jc] at b0;rcases z with z|z
  ·exact Gw (isin x z) b0
  ·by_cases ao:∀a,x=.ref a->a∉as
   ·exact Gw (isin x ao) b0
   ·obtain⟨a,ao⟩:=Classical.not_forall.mp ao;have vI:=Classical.not_imp.mp ao;obtain⟨rfl,al⟩:=vI;have r6:a∈as:=Classical.not_not.mp al;have aa:s'.heap.get? a=some (wl (rank a)):=by rw[aD];exact IW r6
    rw[Jl aa rfl,jc] at b0;exact Gw (isin y z) b0
 obtain⟨a,rfl,al⟩:∃a,x=.ref a/\a∈as:=by refine Classical.byContradiction λz=>out (.inl λa e m=>z ⟨a,e,m⟩)
 obtain⟨c,rfl,ai⟩:∃c,y=.ref c/\c∈as:=by refine Classical.byContradiction λz=>out (.inr λa e m=>z ⟨a,e,m⟩)
 dsimp only at k ⊢;rw[R0 al ai aD] at k;exact wp_mono _ _ _ (λx _ s1 z=>z) (λ_ _ _ z=>z.elim) p s (h a c al ai (λx s1=>s1=s/\Q (.ok x) s') ⟨rfl,k⟩ G p yj)
@[reducible] def p1 (as:List U)(rank:U->Nat):KeyKind where
 α:=Nat
 blt:=λa b=>decide (a < b)
 irrefl:=λa=>by simp
 trans:=λa b c aa ac=>by simp at *;omega
 negTrans:=λa b c h=>by simp at *;omega
 total:=λa b aa ac=>by simp at *;omega
 keyOf:=λv=>match v with
  |.ref a=>if a∈as then some (rank a) else none
  |_=>none
 dflt:=0
def adv {b:Bool}(aD:s'.heap=nE as rank):G.LtAt prog w s' (p1 as rank) (tuples' b):=by
 intro A E x y i j Q ao bk az G p _;have key:∀(v:af) (k:Nat),(p1 as rank).keyOf v=some k->∃a,v=.ref a/\a∈as/\k=rank a:=λv k h=>by
  cases v with
  |ref a=>
   have h':(if a∈as then some (rank a) else none)=some k:=h;by_cases m:a∈as
   ·rw[aV m] at h';exact⟨a,rfl,m,(dZ h').symm⟩
   ·rw[aN m] at h';cases h'
  |_=>cases h
 obtain⟨a,rfl,al,rfl⟩:=key x i ao;obtain⟨c,rfl,ai,rfl⟩:=key y j bk;rw[R0 al ai aD];exact az
def adM {b:Bool}(aw:∀p∈a0.toList,∃a,p.1=.ref a/\a∈as)(ac:2<=a0.size)
  (h:∀a c,a∈as->c∈as->∀(Q:Bool->ar->Prop),Q (decide (rank a < rank c)) s->wpAny (model prog w) A (keyLt' (tuples' b) (.ref a) (.ref c)) Q (λ_ _=>False) s)
 (eV:∀eh,(arrOf eh).Perm a0->failedOf eh=none->SortedToK (p1 as rank) (arrOf eh) a0.size->Q () eh):
  wpS (model prog w) A E s sortRuns' Q (SortSt.mk' (tuples' b) a0 #[] 7 none):=by
 intro Γ p hΓ;have keys:KeysOf (p1 as rank) a0:=λq az=>by obtain⟨a,e,m⟩:=aw q az;exact⟨rank a,by rw[e];exact aV m⟩
 let s':ar:={s with heap:=nE as rank}
 have Z6:=G.wpS_sortRunsSt (prog:=prog) (w:=w) (A:=A) (E:=λ_ _=>False) (s:=s') (κ:=p1 as rank) (kd:=tuples' b) (a₀:=a0) (st:=SortSt.mk' (tuples' b) a0 #[] 7 none) (Q:=Q) (adv rfl) keys
  ⟨Array.Perm.refl _,rfl,rfl⟩ rfl (λ_=>rfl) ac (λeh aa ac av _=>eV eh aa ac av) Γ p hΓ
 have a4:=be.sortRuns (T:=⟨model prog w,Γ,s,s',λe _ s1=>E e s1,tuples' b⟩) (Zv hΓ rfl h) (SortSt.mk' (tuples' b) a0 #[] 7 none) rfl (λx s1=>s1=s'/\Q x.1 x.2) p Z6 p;exact wp_mono _ _ _ (λx _ s1 z=>⟨z.1,z.2.2.2⟩) (λ_ _ _ z=>z) p s a4
end cm
namespace cm
open PySem PyProof.Rows PySem.W
def adr:af->U
 |.ref a=>a
 |_=>0
def j4 (h h':a5):Prop:=∀b o,h.get? b=some o->o.cls=.type "tuple"->h'.get? b=some o
def j4.trans (a:j4 h aa)(b:j4 aa ac):j4 h ac:=λc o e t=>b c o (a c o e t) t
def j4.keeps (k:∀b o,h.get? b=some o->aa.get? b=some o):j4 h aa:=λc o e _=>k c o e
theorem Jn:∀(l:List α),l.zip l=l.map λx=>(x,x)
 |[]=>rfl
 |x::r=>by rw[nJ,ck,Jn r]
def acz (am:xs.Perm (((as.map Value.ref).toArray.zip (as.map Value.ref).toArray).reverse))(aD:SortedToK (p1 as rank) xs as.length):
  ∃bs:List U,(xs.map (·.2)).reverse=(bs.map Value.ref).toArray/\bs.Perm as/\bs.Pairwise λa b=>rank b<=rank a:=by
 have dF:((as.map Value.ref).toArray.zip (as.map Value.ref).toArray).reverse.toList=(as.reverse.map λa=>(Value.ref a,Value.ref a)):=by rw[toList_reverse,Array.toList_zip,List.toList_toArray,Jn,ff,List.map_reverse];rfl
 have pH:=Array.perm_iff_toList_perm.mp am;rw[dF] at pH;have all:∀p∈xs.toList,∃a,a∈as/\p=(Value.ref a,Value.ref a):=λp az=>by obtain⟨a,al,e⟩:=dp.mp (pH.mem_iff.mp az);exact⟨a,mem_reverse.mp al,e.symm⟩
 have em:xs.toList.map (·.2)=(xs.toList.map λp=>adr p.1).map Value.ref:=by rw[ff];refine kP λp az=>?_;obtain⟨a,_,rfl⟩:=all p az;rfl
 have d2:xs.size=as.length:=by have:=pH.length_eq;simpa using this
 refine⟨(xs.toList.map λp=>adr p.1).reverse,?_,?_,?_⟩
 ·apply Array.ext';rw[toList_reverse,Array.toList_map,em,<-List.map_reverse]
 ·refine(List.reverse_perm _).trans ?_;have:=pH.map (λp=>adr p.1);rw[ff] at this;refine this.trans ?_;have aL:as.reverse.map ((λp:af×af=>adr p.1) ∘ λa=>(Value.ref a,Value.ref a))=as.reverse:=by rw[show((λp:af×af=>adr p.1) ∘ λa=>(Value.ref a,Value.ref a))=id from rfl,s8]
  rw[aL];exact List.reverse_perm _
 ·rw[List.pairwise_reverse,w0,List.pairwise_iff_getElem];intro i j aR bF NB;have tW:i < xs.size:=by simpa using aR
  have oj:j < xs.size:=by simpa using bF
  have hle:=aD i j (le_of_lt NB) (by omega);obtain⟨a,al,a9⟩:=all xs.toList[i] (getElem_mem aR);obtain⟨c,ai,n_⟩:=all xs.toList[j] (getElem_mem bF);have cP:KK (p1 as rank) xs i=rank a:=by
   unfold KK;have:xs[i]? =some (Value.ref a,Value.ref a):=by rw[DE tW,<-a9];simp
   rw[this];show((if a∈as then some (rank a) else none).getD 0)=_;rw[aV al];rfl
  have bX:KK (p1 as rank) xs j=rank c:=by
   unfold KK;have:xs[j]? =some (Value.ref c,Value.ref c):=by rw[DE oj,<-n_];simp
   rw[this];show((if c∈as then some (rank c) else none).getD 0)=_;rw[aV ai];rfl
  rw[cP,bX] at hle;rw[a9,n_];have av:decide (rank c < rank a)=false:=hle;show rank a<=rank c;have:=tf av;omega
def aey {s:ar}{as:List U}{rank:U->Nat}{b:Bool}{n:Nat}{P:Fin->ar->Prop}(aI:s.heap.get? a=some (seqObj "list" (as.map Value.ref).toArray n))(cT:as.length<=sizeLine)
  (FW:2<=as.length->∀(s2:ar) (Q:SortKind->ar->Prop),j4 s.heap s2.heap->Q (tuples' b) s2->wpAny (model prog w) A (keyKind' (as.map Value.ref).toArray) Q E s2)
  (FK:∀(s2:ar),j4 s.heap s2.heap->∀x y,x∈as->y∈as->∀(Q:Bool->ar->Prop),Q (decide (rank x < rank y)) s2->wpAny (model prog w) A (keyLt' (tuples' b) (.ref x) (.ref y)) Q (λ_ _=>False) s2)
  (h:∀bs:List U,bs.Perm as->(bs.Pairwise λx y=>rank y<=rank x)->P (.done (.ret .none)) {s with heap:=sortedHeap s.heap a (as.map Value.ref) (bs.map Value.ref).toArray}):
  wpAny (model prog w) A (Builtin.«list.sort» ⟨[.ref a],[(Str.ofString "reverse",.bool true)]⟩) P E s:=by
 rw[list_sort_rev];have hsz:(as.map Value.ref).toArray.size=as.length:=by simp
 have qK:=cT;rw[qb] at qK;have al:a < s.heap.objs.size:=dc aI;refine aH (listItems_at aI rfl ?_);refine aH (listUpdate_at aI rfl ?_);obtain⟨aE,pG⟩:∃aE,(s.heap.update a (Obj.mapSeq λ_=>#[])).get? a=some (seqObj "list" #[] aE):=⟨_,get?_update_seq aI (λ_=>#[])⟩;refine aH (seqEpoch_at pG rfl (aH (wpAny_newTuple (aH (wpAny_newList (nM ?_))))));have BG:(((s.heap.update a (Obj.mapSeq λ_=>#[])).push (seqObj "tuple" (as.map Value.ref).toArray 0)).push (seqObj "list" #[] 0)).get? a=some (seqObj "list" #[] aE):=
  dx _ (dx _ pG)
 have keep:j4 s.heap (((s.heap.update a (Obj.mapSeq λ_=>#[])).push (seqObj "tuple" (as.map Value.ref).toArray 0)).push (seqObj "list" #[] 0)):=λc o e t=>by
  have e3:c≠a:=λz=>by subst z;rw[aI] at e;cases e;injection t with t;exact absurd t (by decide)
  exact dx _ (dx _ ((Heap.get?_update_ne _ _ _ _ e3).trans e))
 show wpAny (model prog w) A _ P E {s with heap:=((s.heap.update a (Obj.mapSeq λ_=>#[])).push (seqObj "tuple" (as.map Value.ref).toArray 0)).push (seqObj "list" #[] 0)};dsimp only;rw[aV rfl];refine aH (wpAny_rule ?_);have fin:∀eh:SortSt,(arrOf eh).Perm (((as.map Value.ref).toArray.zip (as.map Value.ref).toArray).reverse)->SortedToK (p1 as rank) (arrOf eh) as.length->
   P (.done (.ret .none)) {s with heap:=sortedHeap s.heap a (as.map Value.ref) ((arrOf eh).map (·.2)).reverse}:=λeh aa ac=>by
  obtain⟨bs,e,av,bn⟩:=acz aa ac;rw[e];exact h bs av bn
 have room:∀eh:SortSt,(arrOf eh).Perm (((as.map Value.ref).toArray.zip (as.map Value.ref).toArray).reverse)->((arrOf eh).map (·.2)).reverse.size<=sizeLine+1:=λeh aa=>by have:=aa.size_eq;rw[Array.size_reverse,Array.size_map,this];simp;rw[qb];omega
 by_cases ac:(as.map Value.ref).toArray.size < 2
 ·rw[aV ac,aV ac];refine aH (bp ?_);rw[StateT.run_pure];refine aH (bp ?_);dsimp only;refine aH (seqEpoch_at BG rfl (aH (listUpdate_at BG rfl ?_ (hsz2:=?_))))
  ·simp only[bne_self_eq_false,gK,fX];refine bp (fin (SortSt.mk' general' (((as.map Value.ref).toArray.zip (as.map Value.ref).toArray).reverse) #[] 7 none) (Array.Perm.refl _) λi j NB bF=>?_);have:i=j:=by omega
   subst this;exact KeyOrd.kle_refl _
  ·exact room (SortSt.mk' general' (((as.map Value.ref).toArray.zip (as.map Value.ref).toArray).reverse) #[] 7 none) (Array.Perm.refl _)
 ·rw[aN ac,aN ac];refine aH (FW (by omega) _ _ keep ?_);have hz:(((as.map Value.ref).toArray.zip (as.map Value.ref).toArray).reverse).size=as.length:=by simp
  refine aH (je (adM (as:=as) (rank:=rank) (b:=b) (a0:=((as.map Value.ref).toArray.zip (as.map Value.ref).toArray).reverse)
   (Q:=λ_ eh=>(arrOf eh).Perm (((as.map Value.ref).toArray.zip (as.map Value.ref).toArray).reverse)/\failedOf eh=none/\SortedToK (p1 as rank) (arrOf eh) as.length) ?_ (by rw[hz];omega) (FK _ keep) λeh aX bt cn=>⟨aX,bt,by rw[hz] at cn;exact cn⟩) ?_ λ_ _ e=>e)
  ·intro p am;rw[toList_reverse,Array.toList_zip,List.toList_toArray,Jn,ff] at am;obtain⟨x,ao,e⟩:=dp.mp (mem_reverse.mp am);exact⟨x,by rw[<-e];rfl,ao⟩
  ·rintro⟨⟨⟩,eh⟩ s' ⟨rfl,am,hf,aD⟩;dsimp only;refine aH (seqEpoch_at BG rfl (aH (listUpdate_at BG rfl ?_ (hsz2:=?_))))
   ·rw[hf];simp only[bne_self_eq_false,gK,fX];exact bp (fin eh am aD)
   ·exact room eh am
def TupAt (h:a5)(a:U)(xs:List af):Prop:=∃o n,h.get? a=some o/\o.cls=.type "tuple"/\o.data=.seq xs.toArray n
def TupAt.eK (t:TupAt h a xs)(k:j4 h h'):TupAt h' a xs:=by obtain⟨o,n,e,c,d⟩:=t;exact⟨o,n,k a o e c,c,d⟩
def lC (h:a5)(a:U)(x y:Int):Prop:=∃t u,TupAt h a [.int x t,.int y u]
def lC.eK {x y:Int}(t:lC h a x y)(k:j4 h h'):lC h' a x y:=by obtain⟨p,q,e⟩:=t;exact⟨p,q,e.eK k⟩
def lC.key {x y:Int}(p:lC h a x y):IsTupleKey (PySem.intKind prog w) h [x,y] a:=by obtain⟨t,u,o,n,e,c,d⟩:=p;exact⟨o,_,n,e,c,d,.cons (by simp[PySem.intKind,Value.isInt]) (.cons (by simp[PySem.intKind,Value.isInt]) .nil)⟩
def LH {x y fW iI:Int}(aW:A.units < cLine)(al:lC s.heap a x y)(I:lC s.heap b fW iI)(h:Q (decide (x=fW/\y=iI)) s):wpAny (model prog w) A (eqBool (.ref a) (.ref b)) Q E s:=by refine wpAny_eqBool_tuple aW al.key I.key ?_;have e:decide ([x,y]=[fW,iI])=decide (x=fW/\y=iI):=ma.mpr (by simp);rw[e];exact h
def sE (x y fW iI:Int):Bool:=decide (x < fW\/(x=fW/\y < iI))
def adB {x y fW iI:Int}(aW:A.units < cLine)(al:lC s.heap a x y)(I:lC s.heap b fW iI)(h:Q (.bool (sE x y fW iI)) s):wpAny (model prog w) A (richCompare .Lt (.ref a) (.ref b)) Q E s:=by
 have yp:=(al.key (prog:=prog) (w:=w)).typeIs;have yq:=(I.key (prog:=prog) (w:=w)).typeIs;obtain⟨t,u,kG,na,a9,ca,mm⟩:=al;obtain⟨t',iG,b2,nb,dG,AX,db⟩:=I;refine wpAny_richCompare_same_room (op:=.Lt) yp yq PySem.F.slot_tuple_lt (o4 PySem.F.slot_tuple_lt yp PySem.F.entry_tuple_lt ?_ (PySem.F.args_tuple_lt_2 _ _)) aW;show wpAny _ _ (isInstance (.ref b) (.type "tuple") >>= _) _ _ s;refine aH (w5 yq isSubtype_tuple_tuple ?_);simp only[mV,gK,fX];refine aH (wpAny_tupleItemsOf a9 mm (aH (wpAny_tupleItemsOf dG db ?_)));show wpAny _ _ (forIn [(Value.int x t,Value.int fW t'),(Value.int y u,Value.int iI iG)] _ _ >>= _) _ _ s;rw[kO];have fin:∀v:Bool,v=sE x y fW iI->(∃eF:af,(Fin.done (Flow.ret (Value.bool v)))=Fin.done (Flow.ret eF)/\eF≠Value.notImplemented/\Q eF s):=λv e=>⟨_,rfl,by simp,by rw[e];exact h⟩;refine aH (aH (aH (tc ?_)));by_cases aa:x=fW
 ·subst aa;rw[show(x==x)=true by simp];simp only[mV,gK,fX];refine bp ?_;dsimp only;rw[kO];refine aH (aH (tc ?_));by_cases ac:y=iI
  ·subst ac;rw[show(y==y)=true by simp];simp only[mV,gK,fX];refine bp ?_;dsimp only;rw[p9];refine bp ?_;dsimp only;refine bp (fin false ?_);unfold sE;exact(cW (by omega)).symm
  ·rw[show(y==iI)=false by simpa using ac];simp only[Bool.not_false,jY];refine aH (wpAny_rule (aH (show wpAny (model prog w) _ (richCompare .Lt (.int y u) (.int iI iG)) _ _ s from PyProof.Rows.lt_int ?_)));refine aH (bp (bp ?_));dsimp only;refine bp ?_;dsimp only;refine bp (fin (decide (y < iI)) ?_);unfold sE;exact ma.mpr (by omega)
 ·rw[show(x==fW)=false by simpa using aa];simp only[Bool.not_false,jY];refine aH (wpAny_rule (aH (show wpAny (model prog w) _ (richCompare .Lt (.int x t) (.int fW t')) _ _ s from PyProof.Rows.lt_int ?_)));refine aH (bp (bp ?_));dsimp only;refine bp ?_;dsimp only;refine bp (fin (decide (x < fW)) ?_);unfold sE;exact ma.mpr (by omega)
def Hr {f:Bool}{a b:Int}(h:Q (decide (a < b)) s):wpAny (model prog w) A (oneLt' f (.int a t) (.int b u)) Q E s:=by
 cases f with
 |true=>exact oneLt_int h
 |false=>rw[oneLt'_eq];simp only[gK,fX];exact aH (show wpAny (model prog w) A (richCompare .Lt (.int a t) (.int b u)) _ E s from PyProof.Rows.lt_int (o5 h))
def acq {f p q:Bool}(h:Q (decide (b2i p < b2i q)) s):wpAny (model prog w) A (oneLt' f (.bool p) (.bool q)) Q E s:=by
 cases f with
 |true=>rw[oneLt'_eq];simp only[jY];refine aH (wpAny_cRoomFor_byValue rfl ?_);refine aH (wpAny_callSpecialIfBound?_slot (typeIs_bool' s p) slot_bool_lt (o4 slot_bool_lt (typeIs_bool' s p) PySem.F.entry_int_lt ?_ (PySem.F.args_int_lt_2 _ _)));have g:=gives_int_lt_bools p q;show wpAny _ _ (ret (.bool (decide (b2i p < b2i q)))) _ _ s;exact bp ⟨_,rfl,o5 h⟩
 |false=>rw[oneLt'_eq];simp only[gK,fX];exact aH (show wpAny (model prog w) A (richCompare .Lt (.bool p) (.bool q)) _ E s from lt_bool (o5 h))
def PU {x y fW iI:Int}(aW:A.units < cLine)(al:lC s.heap a x y)(I:lC s.heap b fW iI)(h:Q (sE x y fW iI) s):wpAny (model prog w) A (oneLt' false (.ref a) (.ref b)) Q E s:=by rw[oneLt'_eq];simp only[gK,fX];exact aH (adB aW al I (o5 h))
structure mg where
 s:Bool
 t:Int
 g:Int
 c:Int
 n:Int
def jS (k b0:mg):Bool:=decide (b2i k.s < b2i b0.s\/(k.s=b0.s/\(k.t < b0.t\/(k.t=b0.t/\(k.g < b0.g\/(k.g=b0.g/\(k.c < b0.c\/(k.c=b0.c/\k.n < b0.n))))))))
def qq (h:a5)(a:U)(k:mg):Prop:=∃c_ t u,TupAt h a [.bool k.s,.ref c_,.int k.c t,.int k.n u]/\lC h c_ k.t k.g
def qq.eK (r:qq h a k)(x:j4 h h'):qq h' a k:=by obtain⟨c_,t,u,aa,ac⟩:=r;exact⟨c_,t,u,aa.eK x,ac.eK x⟩
def adC (aW:A.units < cLine)(al:qq s.heap a k)(ai:qq s.heap c b0)(h:Q (jS k b0) s):wpAny (model prog w) A (keyLt' (tuples' true) (.ref a) (.ref c)) Q E s:=by
 obtain⟨c_,t,u,⟨kG,na,a9,ca,mm⟩,mI⟩:=al;obtain⟨Jf,t',iG,⟨hP,Hb,n_,lF,a7⟩,pc⟩:=ai;have go:∀b:Bool,b=jS k b0->Q b s:=λb e=>by rw[e];exact h
 refine kat_lt a9 mm n_ a7 ?_;show KatLex prog w A true _ Q [(.bool k.s,.bool b0.s),(.ref c_,.ref Jf),(.int k.c t,.int b0.c t'),(.int k.n u,.int b0.n iG)] 0 s;refine kat_cons (SeqAt.EqAt.bool_bool k.s b0.s _ _ _ _ ?_);by_cases aa:k.s=b0.s
 ·rw[show(k.s==b0.s)=true by simpa using aa];refine kat_yes (kat_cons (LH aW mI pc ?_));by_cases ac:k.t=b0.t/\k.g=b0.g
  ·rw[ej ac];refine kat_yes (kat_cons (tc ?_));by_cases av:k.c=b0.c
   ·rw[show(k.c==b0.c)=true by simpa using av];refine kat_yes (kat_cons (tc ?_));by_cases bn:k.n=b0.n
    ·rw[show(k.n==b0.n)=true by simpa using bn];refine kat_yes (kat_nil (go _ ?_));unfold jS;simp only[fL,fK,wW];rw[aa];refine ma.mpr ?_;omega
    ·rw[show(k.n==b0.n)=false by simpa using bn];refine kat_no (Hr (go _ ?_));unfold jS;rw[aa];refine ma.mpr ?_;simp only[true_and];omega
   ·rw[show(k.c==b0.c)=false by simpa using av];refine kat_no (Hr (go _ ?_));unfold jS;rw[aa];refine ma.mpr ?_;simp only[true_and];omega
  ·rw[cW ac];refine kat_no (PU aW mI pc (go _ ?_));unfold jS sE;rw[aa];refine ma.mpr ?_;simp only[true_and];omega
 ·rw[show(k.s==b0.s)=false by simpa using aa];refine kat_no (acq (go _ ?_));unfold jS;refine ma.mpr ?_;constructor
  ·intro z;exact .inl z
  ·rintro(z|z)
   ·exact z
   ·exact absurd z.1 aa
theorem Qz {s:ar}:∀{as:List U},(∀a∈as,∃k,qq s.heap a k)->∃bd:List af,KatTups s.heap (as.map Value.ref) bd/\bd.length=as.length/\∀v∈bd,∃b,v=.bool b
 |[],_=>⟨[],KatTups.nil,rfl,λv h=>by simp at h⟩
 |a::r,h=>by
  obtain⟨bd,aa,ac,av⟩:=Qz (as:=r) λx ao=>h x (d7 _ ao);obtain⟨k,c_,t,u,⟨o,n,e,c,d⟩,_⟩:=h a (dW ..);refine⟨.bool k.s::bd,KatTups.cons e c d rfl aa,by simp[ac],λv bx=>?_⟩;rcases cr.mp bx with z|z
  ·exact⟨_,z⟩
  ·exact av v z
def adD {s:ar}{as:List U}{Q:SortKind->ar->Prop}(h0:2<=as.length)(al:∀a∈as,∃k,qq s.heap a k)(h:Q (tuples' true) s):wpAny (model prog w) A (keyKind' (as.map Value.ref).toArray) Q E s:=by obtain⟨bd,aa,ac,av⟩:=Qz al;refine kat_kind (T:=.type "bool") aa (by omega) (λv bx=>?_) rfl h;obtain⟨b,rfl⟩:=av v bx;exact Looks.of_pure rfl
structure iN where
 t:Int
 g:Int
 b:Int
def ku (k b0:iN):Bool:=decide (k.t < b0.t\/(k.t=b0.t/\(k.g < b0.g\/(k.g=b0.g/\k.b < b0.b))))
def qk (h:a5)(a:U)(k:iN):Prop:=∃c_ t,TupAt h a [.ref c_,.int k.b t]/\lC h c_ k.t k.g
def qk.eK (r:qk h a k)(x:j4 h h'):qk h' a k:=by obtain⟨c_,t,aa,ac⟩:=r;exact⟨c_,t,aa.eK x,ac.eK x⟩
def Vd (aW:A.units < cLine)(al:qk s.heap a k)(ai:qk s.heap c b0)(h:Q (ku k b0) s):wpAny (model prog w) A (keyLt' (tuples' false) (.ref a) (.ref c)) Q E s:=by
 obtain⟨c_,t,⟨kG,na,a9,ca,mm⟩,mI⟩:=al;obtain⟨Jf,t',⟨hP,Hb,n_,lF,a7⟩,pc⟩:=ai;have go:∀b:Bool,b=ku k b0->Q b s:=λb e=>by rw[e];exact h
 refine kat_lt a9 mm n_ a7 ?_;show KatLex prog w A false _ Q [(.ref c_,.ref Jf),(.int k.b t,.int b0.b t')] 0 s;refine kat_cons (LH aW mI pc ?_);by_cases ac:k.t=b0.t/\k.g=b0.g
 ·rw[ej ac];refine kat_yes (kat_cons (tc ?_));by_cases av:k.b=b0.b
  ·rw[show(k.b==b0.b)=true by simpa using av];refine kat_yes (kat_nil (go _ ?_));unfold ku;simp only[fL,fK,wW];refine ma.mpr ?_;omega
  ·rw[show(k.b==b0.b)=false by simpa using av];refine kat_no (Hr (go _ ?_));unfold ku;refine ma.mpr ?_;omega
 ·rw[cW ac];refine kat_no (PU aW mI pc (go _ ?_));unfold ku sE;refine ma.mpr ?_;omega
theorem Ly {s:ar}:∀{as:List U},(∀a∈as,∃k,qk s.heap a k)->∃bd:List af,KatTups s.heap (as.map Value.ref) bd/\bd.length=as.length/\∀v∈bd,∃(b:U) (o:Obj),v=.ref b/\s.heap.get? b=some o/\o.cls=.type "tuple"
 |[],_=>⟨[],KatTups.nil,rfl,λv h=>by simp at h⟩
 |a::r,h=>by
  obtain⟨bd,aa,ac,av⟩:=Ly (as:=r) λx ao=>h x (d7 _ ao);obtain⟨k,c_,t,⟨o,n,e,c,d⟩,_,_,uo,_,aL,fH,_⟩:=h a (dW ..);refine⟨.ref c_::bd,KatTups.cons e c d rfl aa,by simp[ac],λv bx=>?_⟩;rcases cr.mp bx with z|z
  ·exact⟨c_,uo,z,aL,fH⟩
  ·exact av v z
def Ve {s:ar}{as:List U}{Q:SortKind->ar->Prop}(h0:2<=as.length)(al:∀a∈as,∃k,qk s.heap a k)(h:Q (tuples' false) s):wpAny (model prog w) A (keyKind' (as.map Value.ref).toArray) Q E s:=by obtain⟨bd,aa,ac,av⟩:=Ly al;refine kat_kind (T:=.type "tuple") aa (by omega) (λv bx=>?_) rfl h;obtain⟨b,o,rfl,e,c⟩:=av v bx;have z:Looks (model prog w) s.heap (typeOf (Value.ref b)) o.cls:=(Looks.ld e).andThen .now;rw[c] at z;exact z
structure Em {κ:Type}(lt:κ->κ->Bool):Prop where
 y3:∀a,lt a a=false
 a4:∀a b c,lt a b=true->lt b c=true->lt a c=true
 neg:∀a b c,lt a c=true->lt a b=true\/lt b c=true
theorem EU:∀{l:List α},(∀x∈l,p x=true->q x=true)->l.countP p<=l.countP q
 |[],_=>by simp
 |x::r,h=>by
  have bE:=EU (l:=r) λy bk=>h y (d7 _ bk);rw[countP_cons,countP_cons];by_cases am:p x=true
  ·rw[aV am,aV (h x (dW ..) am)];omega
  ·rw[aN am];split<;>omega
theorem K4:∀{l:List α},(∀x∈l,p x=true->q x=true)->(∃x∈l,q x=true/\p x=false)->l.countP p < l.countP q
 |[],_,h=>by obtain⟨x,ao,_⟩:=h;simp at ao
 |x::r,h,⟨y,bk,az,am⟩=>by
  rw[countP_cons,countP_cons];have agR:=EU (l:=r) λz hz=>h z (d7 _ hz);rcases cr.mp bk with e|e
  ·subst e;rw[aV az,aN (by rw[am];decide)];omega
  ·have bE:=K4 (l:=r) (λz hz=>h z (d7 _ hz)) ⟨y,e,az,am⟩;by_cases F':p x=true
   ·rw[aV F',aV (h x (dW ..) F')];omega
   ·rw[aN F'];split<;>omega
def zG (lt:κ->κ->Bool)(key:U->κ)(as:List U)(a:U):Nat:=as.countP λb=>lt (key b) (key a)
def CG (S:Em lt)(al:a∈as):decide (zG lt key as a < zG lt key as c)=lt (key a) (key c):=by
 unfold zG;cases h:lt (key a) (key c) with
 |true=>exact ej (K4 (λx _ ao=>S.a4 _ _ _ ao h) ⟨a,al,h,S.y3 _⟩)
 |false=>
  refine cW (not_lt.mpr (EU λx _ ao=>?_));rcases S.neg _ (key a) _ ao with z|z
  ·exact z
  ·rw[h] at z;cases z
def Q8 (XP:wpAny (model prog w) A.in1 (collect x) (λvs s1=>∃(as:List U) (rank:U->Nat) (b:Bool),vs=as.map Value.ref/\as.length<=sizeLine/\
   (2<=as.length->∀(s2:ar) (Q:SortKind->ar->Prop),j4 s1.heap s2.heap->Q (tuples' b) s2->wpAny (model prog w) A.in1.in1 (keyKind' (as.map Value.ref).toArray) Q E s2)/\
   (∀(s2:ar),j4 s1.heap s2.heap->∀x y,x∈as->y∈as->∀(Q:Bool->ar->Prop),Q (decide (rank x < rank y)) s2->wpAny (model prog w) A.in1.in1 (keyLt' (tuples' b) (.ref x) (.ref y)) Q (λ_ _=>False) s2)/\
   ∀(bs:List U) (h':a5) (e:Nat),bs.Perm as->(bs.Pairwise λx y=>rank y<=rank x)->(∀b o,s1.heap.get? b=some o->h'.get? b=some o)->h'.get? s1.heap.objs.size=some {cls:=.type "list",data:=.seq (bs.map Value.ref).toArray e}->
    Q (.ref s1.heap.objs.size) {s1 with heap:=h'}) E s):
  wpAny (model prog w) A (call (.builtin "sorted") [x] [(Str.ofString "reverse",.bool true)]) Q E s:=by
 refine call_function_entry_kw kind_sorted plain_sorted entry_sorted (args_sorted_rev _ _) ?_;unfold Builtin.«sorted»;refine aH (m:=checkCount "sorted" 1 1 _) (bp ?_);refine aH (je XP (λvs s1 az=>?_) λ_ _ z=>z);obtain⟨as,rank,b,rfl,cT,FW,FK,fin⟩:=az;refine aH (wpAny_newList ?_);have qS:(s1.heap.push (seqObj "list" (as.map Value.ref).toArray 0)).get? s1.heap.objs.size=some (seqObj "list" (as.map Value.ref).toArray 0):=fM _ rfl;have fm:j4 s1.heap (s1.heap.push (seqObj "list" (as.map Value.ref).toArray 0)):=j4.keeps λ_ _ e=>dx _ e;refine aH (nM (wpAny_call_entry_kw slot_list_sort ⟨_,qS,rfl⟩ entry_list_sort (aey (s:={s1 with heap:=s1.heap.push (seqObj "list" (as.map Value.ref).toArray 0)}) qS cT
  (λac s2 jM k az=>FW ac s2 jM (fm.trans k) az) (λs2 k=>FK s2 (fm.trans k)) λbs aa ac=>⟨_,rfl,?_⟩) (args_list_sort_rev _ _)))
 obtain⟨e,he⟩:=sortedHeap_at (vs:=as.map Value.ref) (out:=(bs.map Value.ref).toArray) qS;refine bp ⟨_,rfl,fin bs _ e aa ac (λc o q=>?_) he⟩;have cO:=dc q;rw[sortedHeap_old (e8 cO) (by rw[size_push'];exact l_ cO)];exact dx _ q
def Qy:Em jS where
 y3:=λa=>by unfold jS;exact cW (by omega)
 a4:=λa b c aa ac=>by unfold jS at *;have aa:=rv aa;have ac:=rv ac;refine ej ?_;obtain⟨s1,t1,g1,ip,ea⟩:=a;obtain⟨s2,fV,g2,fH,eW⟩:=b;obtain⟨s3,t3,g3,k2,gI⟩:=c;cases s1<;>cases s2<;>cases s3<;>simp[b2i] at *<;>omega
 neg:=λa b c h=>by unfold jS at *;have h:=rv h;simp only[mb];obtain⟨s1,t1,g1,ip,ea⟩:=a;obtain⟨s2,fV,g2,fH,eW⟩:=b;obtain⟨s3,t3,g3,k2,gI⟩:=c;cases s1<;>cases s2<;>cases s3<;>simp[b2i] at *<;>omega
def Lx:Em ku where
 y3:=λa=>by unfold ku;exact cW (by omega)
 a4:=λa b c aa ac=>by unfold ku at *;have aa:=rv aa;have ac:=rv ac;exact ej (by omega)
 neg:=λa b c h=>by unfold ku at *;have h:=rv h;simp only[mb];omega
end cm
namespace aB
open PySem PySem.Spec PyProof.Rows
def ik (H:ah)(a:U)(k:cm.mg):Prop:=∃c_,H a=some (.tup [.bL k.s,.ref c_,.int k.c,.int k.n])/\H c_=some (.tup [.int k.t,.int k.g])
def wK (ok:dN P w H h)(e:H a=some (.tup xs)):∃a3,b' xs a3/\cm.TupAt h a a3:=by obtain⟨_,a3,r,o,aa,ac,n,av⟩:=(show dq P w H h a (.tup xs) from ok a _ e);exact⟨a3,r,o,n,aa,ac,av⟩
def PZ {x y:Int}(ok:dN P w H h)(e:H a=some (.tup [.int x,.int y])):cm.lC h a x y:=by
 obtain⟨a3,r,t⟩:=wK ok e;cases r with
 |cons cj dB=>
  cases dB with
  |cons kJ l0=>cases l0;obtain⟨t1,rfl⟩:=cj;obtain⟨fV,rfl⟩:=kJ;exact⟨t1,fV,t⟩
def ik.at (ok:dN P w H h)(v:ik H a k):cm.qq h a k:=by
 obtain⟨c_,aE,aL⟩:=v;obtain⟨a3,r,t⟩:=wK ok aE;cases r with
 |cons cj dB=>
  cases dB with
  |cons kJ l0=>
   cases l0 with
   |cons uA HR=>
    cases HR with
    |cons zF adf=>cases adf;cases cj;cases kJ;obtain⟨t1,rfl⟩:=uA;obtain⟨fV,rfl⟩:=zF;exact⟨c_,t1,fV,t,PZ ok aL⟩
theorem RS:∀{as:List U} {us:List af},b' (as.map V.ref) us->us=as.map Value.ref
 |[],_,r=>by rw[p_] at r;cases r;rfl
 |a::as,_,r=>by
  rw[ck] at r;cases r with
  |cons h t=>rw[ck,<-RS t,show _=Value.ref a from h]
theorem CH:∀(as:List U),b' (as.map V.ref) (as.map Value.ref)
 |[]=>.nil
 |_::as=>.cons rfl (CH as)
def afk (K:PySem.W.Frag)(te:TE):TE:=λσ H Q=>te σ H λx H1=>∃(l:U) (as:List U) (key:U->cm.mg),x=.ref l/\bA K H1 l (as.map V.ref)/\(∀a∈as,ik H1 a (key a))/\
 ∀(bs:List U) (p:U),bs.Perm as->(bs.Pairwise λa b=>cm.jS (key a) (key b)=false)->H1 p=none->Q (.ref p) (upd H1 p (.lst (bs.map V.ref)))
def acS {j:Nat}(bK:hV X "sorted")(hm:X.ae "sorted"=none)(aW:X.A.units+64 < cLine)(he:bl X e te)
  (aD:starEach [e] X.env=[(false,eval e X.env)]:=by rfl):
  bl X (.Call (.Name "sorted" p) [e] [⟨some "reverse",.Constant (.bool true) j fj,bu⟩] pos) (afk X.K te):=by
 intro pins s σ H Q J h;refine o3 (sk J bK hm (by w_on:bootBuiltins "sorted"=some (.builtin "sorted")) ?_ (by decide) (by decide));refine PyProof.Rows.callWith_kw (env:=X.env) (rest:=[]) (bN (aK he aY aD pos pins s σ H (λvs H1=>match vs with
  |[x]=>∃(l:U) (as:List U) (key:U->cm.mg),x=.ref l/\bA X.K H1 l (as.map V.ref)/\(∀a∈as,ik H1 a (key a))/\
    ∀(bs:List U) (p:U),bs.Perm as->(bs.Pairwise λa b=>cm.jS (key a) (key b)=false)->H1 p=none->Q (.ref p) (upd H1 p (.lst (bs.map V.ref)))
  |_=>False) J h) λus s1 ⟨vs,H1,aP,cj,aX⟩=>?_) (by rw[aD];rfl) (by rw[aD];rfl) rfl rfl
 refine kws_cons (Constant_bool (kws_nil ?_))
 match vs,cj,aX with
 |[x],cj,aX=>
  obtain⟨l,as,key,rfl,aC,aw,q⟩:=aX;rw[b'.HV cj];obtain⟨a3,cy,pl,hz⟩:=aP.list aC;have vM:as.length<=sizeLine:=by rw[cc] at hz;exact hz
  obtain rfl:=RS cy;refine cm.Q8 (collect_list pl.isList ?_ (by rw[cc];exact vM));have bu:∀b o,s1.heap.get? b=some o->((s1.heap.push (seqObj "list" #[] 0)).update s1.heap.objs.size (Obj.mapSeq (·++(as.map Value.ref).toArray))).get? b=some o:=λb o e=>
   (Heap.get?_update_ne _ _ _ _ (e8 (dc e))).trans (dx _ e)
  have bP:Inv X pins σ H1 {s1 with heap:=(s1.heap.push (seqObj "list" #[] 0)).update s1.heap.objs.size (Obj.mapSeq (·++(as.map Value.ref).toArray))}:=aP.kept (t':=s1.toks) bu;have cy:∀a∈as,cm.qq ((s1.heap.push (seqObj "list" #[] 0)).update s1.heap.objs.size (Obj.mapSeq (·++(as.map Value.ref).toArray))) a (key a):=λa al=>(aw a al).at bP.ba;have pL:X.A.in1.in1.units < cLine:=by show X.A.units+1+1 < cLine;omega
  refine⟨as,cm.zG cm.jS key as,true,rfl,vM,λac s2 jM k az=>cm.adD ac (λa al=>⟨key a,(cy a al).eK k⟩) az,λs2 k x y ao bk jM az=>?_,λbs h' e aa ac av bn=>?_⟩
  ·rw[cm.CG cm.Qy ao] at az;exact cm.adC pL ((cy x ao).eK k) ((cy y bk).eK k) az
  ·have qX:bs.Pairwise λa b=>cm.jS (key a) (key b)=false:=by refine Pairwise.imp_of_mem (λ{a b} al I pB=>?_) ac;rw[<-cm.CG cm.Qy (key:=key) (as:=as) (a:=a) (c:=b) (aa.mem_iff.mp al)];exact cW (not_lt.mpr pB)
   have hf:=bP.ba.fresh (a:=((s1.heap.push (seqObj "list" #[] 0)).update s1.heap.objs.size (Obj.mapSeq (·++(as.map Value.ref).toArray))).objs.size) (b5 _);refine⟨.ref _,_,bP.laid (t':=s1.toks) (o:=.lst (bs.map V.ref)) av (b5 _) ⟨by rw[cc,aa.length_eq];exact vM,bs.map Value.ref,e,CH bs,bn⟩,rfl,q bs _ aa qX hf⟩
 |[],_,aX=>exact aX.elim
 |_::_::_,_,aX=>exact aX.elim
end aB
namespace xv
open PySem PyProof.Rows PySem.W
def Raw (h:a5)(d:U)(es:Array kU)(ep:Nat):Prop:=∃o,h.get? d=some o/\o.cls=.type "dict"/\o.dict=none/\o.data=.dict es ep
def Raw.keep {ep:Nat}(r:Raw h d es ep)(k:∀o,h.get? d=some o->h'.get? d=some o):Raw h' d es ep:=by obtain⟨o,e,c⟩:=r;exact⟨o,k o e,c⟩
def pP (f0 f1:af)(d:U)(i n ep:Nat)(k v:af):Obj:={cls:=.type "dict_itemiterator",dict:=none,data:=.fields #[f0,f1,.ref d,.int i 0,.int n 0,.int ep 0,k,v],slots:=#[]}
def iQ (h:a5)(it d:U)(i n ep:Nat):Prop:=∃f0 f1 k v,h.get? it=some (pP f0 f1 d i n ep k v)/\((f0=.none/\f1=.bool false)\/∃a o b,f0=rawInt (a:Nat)/\f1=.bool b/\h.get? a=some o/\a≠it)
section
variable {prog:bg}{w:bb}{A:cU}{E:af->ar->Prop}{s:ar}{it d:U}{i ep:Nat}{es:Array kU}
def acA {n:Nat}(hit:s.heap.get? it=some (pP f0 f1 d i n ep k v))(hf:(f0=.none/\f1=.bool false)\/∃a o b,f0=rawInt (a:Nat)/\f1=.bool b/\s.heap.get? a=some o/\a≠it)
  (eV:∀h',iQ h' it d i n ep->h'.get? s.heap.objs.size=some {cls:=.type "tuple",data:=.seq #[key,val]}->h'.objs.size=s.heap.objs.size+1->(∀b o,b≠it->s.heap.get? b=some o->h'.get? b=some o)->Q (.ref s.heap.objs.size) {s with heap:=h'}):
  wpAny (model prog w) A (Builtin.Dict_items.pairFromOwner (.ref it) 6 key val) Q E s:=by
 have vz:it < s.heap.objs.size:=dc hit;have nil:s.heap.objs.size≠it:=iL vz;unfold Builtin.Dict_items.pairFromOwner;refine aH (wpAny_newTuple ?_);generalize Bz:s.heap.push {cls:=.type "tuple",data:=.seq #[key,val]}=ac;have aL:ac.get? it=some (pP f0 f1 d i n ep k v):=by rw[<-Bz];exact dx _ hit
 have fV:ac.get? s.heap.objs.size=some {cls:=.type "tuple",data:=.seq #[key,val]}:=by rw[<-Bz];exact fM _ rfl
 have cx:ac.objs.size=s.heap.objs.size+1:=by rw[<-Bz,jW]
 have bX:∀b o,s.heap.get? b=some o->ac.get? b=some o:=λb o e=>by rw[<-Bz];exact dx _ e
 show wpAny _ _ (Builtin.Dict_items.ownedTupleIsFree (.ref it) >>= _) _ _ ({s with heap:=ac}:ar);refine aH ?_;unfold Builtin.Dict_items.ownedTupleIsFree;rcases hf with⟨rfl,rfl⟩|⟨a,kG,b,rfl,rfl,al,FF⟩
 ·refine aH (kT aL rfl (x:=.none) rfl (bp ?_));simp only[jY];refine aH (kT aL rfl (x:=k) rfl (aH (kT aL rfl (x:=v) rfl ?_)));refine aH (uZ aL (by simp) λav bI s3=>aH (uZ bI (by simp) λbn gO s4=>aH (uZ gO (by simp) λcB qB s5=>aH (uZ qB (by simp) λgQ lH i6=>?_))));have e5:∀b o,b≠it->ac.get? b=some o->gQ.get? b=some o:=λb o I e=>i6.extBut b o I (s5.extBut b o I (s4.extBut b o I (s3.extBut b o I e)));have Dq:=e5 _ _ nil fV;have Jm:gQ.objs.size=s.heap.objs.size+1:=by have a1:gQ.objs.size=cB.objs.size:=i6.1;have a2:cB.objs.size=bn.objs.size:=s5.1;have qx:bn.objs.size=av.objs.size:=s4.1;have Kp:av.objs.size=ac.objs.size:=s3.1;rw[a1,a2,qx,Kp,cx]
  refine aH (wpAny_letGo (bp (eV gQ ⟨_,_,_,_,lH,.inr ⟨s.heap.objs.size,_,false,rfl,rfl,Dq,nil⟩⟩ Dq Jm λb o I e=>e5 b o I (bX b o e))))
 ·refine aH (kT aL rfl (x:=rawInt a) rfl ?_);show wpAny _ _ (loadIfAlive ((a:Int).toNat) >>= _) _ _ _;rw[wM];refine aH (kdx_alive (bX a kG al) ?_);simp only[Option.isNone_some,gK,fX];refine aH (kT aL rfl (x:=.bool b) rfl ?_);cases b with
  |true=>rw[aN (by decide)];refine bp ?_;simp only[gK,fX];exact bp (eV ac ⟨_,_,_,_,aL,.inr ⟨a,kG,true,rfl,rfl,bX a kG al,FF⟩⟩ fV cx λb o _ e=>bX b o e)
  |false=>rw[aV (by decide)];refine aH (uZ aL (by simp) λav bI s3=>bp ?_);simp only[gK,fX];have gm:av.objs.size=ac.objs.size:=s3.1;refine bp (eV av ⟨_,_,_,_,bI,.inr ⟨a,kG,true,rfl,rfl,s3.extBut a kG FF (bX a kG al),FF⟩⟩ (s3.extBut _ _ nil fV) (by rw[gm,cx]) λb o I e=>s3.extBut b o I (bX b o e))
def next_item (hit:iQ s.heap it d i es.size ep)(hm:Raw s.heap d es ep)(ao:es[i]? =some en)
  (eV:∀h',iQ h' it d (i+1) es.size ep->h'.get? s.heap.objs.size=some {cls:=.type "tuple",data:=.seq #[en.key,en.val]}->h'.objs.size=s.heap.objs.size+1->(∀b o,b≠it->s.heap.get? b=some o->h'.get? b=some o)->
   Q (some (.ref s.heap.objs.size)) {s with heap:=h'}):wpAny (model prog w) A (pyNext (.ref it)) Q E s:=by
 obtain⟨f0,f1,k,v,iy,hf⟩:=hit;obtain⟨c9,sa,_,_,yF⟩:=hm;have bW:s.TypeIs (.ref it) "dict_itemiterator":=⟨_,iy,rfl⟩;unfold pyNext;refine aH (wpAny_attempt (wpAny_callSpecial?_slot (name:=Str.ofString "__next__") bW Ai
  (o4 Ai bW PySem.F.entry_dict_itemiterator_next ?_ (PySem.F.args_dict_itemiterator_next_1 _))))
 refine aH (bp (aH (aH ?_)))
 first|refine aH (DI bW (bp ?_))|refine aH (wpAny_typeNameOf_itemiter bW (bp ?_))
 refine aH (wpAny_fieldsOf iy rfl ?_);have own:Builtin.Dict_items.ownsTuple "dict_itemiterator"=true:=by decide
 simp only[own,jY];show wpAny _ _ (if(Value.ref d==Value.none)=true then _ else _) _ _ s;rw[aN (by show ¬((Value.ref d==Value.none)=true);exact gg)];refine aH (bp (aH (wpAny_dictEntries sa yF ?_)));rw[aN (by simp)];refine aH (bp (aH (wpAny_dictEpoch sa yF ?_)));rw[aN (by simp)];refine bp ?_;simp only[show ¬((i:Int) < 0) from by omega,fX,wM,ao];refine aH ?_
 first|refine aH (DI bW (bp ?_))|refine aH (wpAny_typeNameOf_itemiter bW (bp ?_))
 refine aH (wpAny_isOneOf_itemiter bW ?_);show wpAny _ _ (setField (.ref it) 3 (rawInt ((i:Int)+1)) >>= _) _ _ s;refine aH (uZ iy (by simp) λaa aE s1=>?_);have Lo:aa.get? it=some (pP f0 f1 d (i+1) es.size ep k v):=by
  have e:((i+1:Nat):Int)=(i:Int)+1:=by omega
  unfold pP;rw[e];simpa[rawInt] using aE
 have cv:aa.objs.size=s.heap.objs.size:=s1.1;have M6:Shared.TypeIs {s with heap:=aa} (.ref it) "dict_itemiterator":=⟨_,Lo,rfl⟩;refine aH (nM (aH (wpAny_isOneOf_itemiter M6 (aH (wpAny_isOneOf_itemiter M6 ?_)))));show wpAny _ _ (Builtin.Dict_items.pairFromOwner (.ref it) 6 en.key en.val) _ _ ({s with heap:=aa}:ar);refine acA (s:={s with heap:=aa}) Lo ?_ λac aX bt cn fS=>?_
 ·rcases hf with z|⟨a,o,b,cv,cx,gm,p7⟩
  ·exact .inl z
  ·exact .inr ⟨a,o,b,cv,cx,s1.extBut a o p7 gm,p7⟩
 ·have Qi:ac.get? aa.objs.size=_:=bt;have Qj:ac.objs.size=aa.objs.size+1:=cn;rw[cv] at Qi Qj;refine bp ⟨_,rfl,bp ?_⟩;show Q (some (.ref aa.objs.size)) _;rw[cv];exact eV ac aX Qi Qj λb o I e=>fS b o I (s1.extBut b o I e)
def next_end (dz:A.handled=none)(hit:iQ s.heap it d es.size es.size ep)(hm:Raw s.heap d es ep)(eV:∀h',(∀b o,b≠it->s.heap.get? b=some o->h'.get? b=some o)->Q none {s with heap:=h'}):
  wpAny (model prog w) A (pyNext (.ref it)) Q E s:=by
 obtain⟨f0,f1,k,v,iy,hf⟩:=hit;obtain⟨c9,sa,_,_,yF⟩:=hm;have bW:s.TypeIs (.ref it) "dict_itemiterator":=⟨_,iy,rfl⟩;unfold pyNext;refine aH (wpAny_attempt (wpAny_callSpecial?_slot (name:=Str.ofString "__next__") bW Ai
  (o4 Ai bW PySem.F.entry_dict_itemiterator_next ?_ (PySem.F.args_dict_itemiterator_next_1 _))))
 refine aH (bp (aH (aH ?_)))
 first|refine aH (DI bW (bp ?_))|refine aH (wpAny_typeNameOf_itemiter bW (bp ?_))
 refine aH (wpAny_fieldsOf iy rfl ?_);have own:Builtin.Dict_items.ownsTuple "dict_itemiterator"=true:=by decide
 simp only[own,jY];show wpAny _ _ (if(Value.ref d==Value.none)=true then _ else _) _ _ s;rw[aN (by show ¬((Value.ref d==Value.none)=true);exact gg)];refine aH (bp (aH (wpAny_dictEntries sa yF ?_)));rw[aN (by simp)];refine aH (bp (aH (wpAny_dictEpoch sa yF ?_)));rw[aN (by simp)];refine bp ?_;simp only[show ¬((es.size:Int) < 0) from by omega,fX,wM,DF (b5 _)];refine aH ?_
 first|refine aH (DI bW (bp ?_))|refine aH (wpAny_typeNameOf_itemiter bW (bp ?_))
 show wpAny _ _ (setField (.ref it) 2 .none >>= _) _ _ s;refine aH (wpAny_setField iy rfl (by simp) ?_);show wpAny _ _ (newExc (.type "StopIteration") [] >>= _) _ _ _;refine aH ?_;simp only[newExc,newTuple];refine aH (td (aH (m:=firstArgMember _ _) (wpAny_of_eq (a:=Value.none) (by first|rfl|(simp only[firstArgMember];rfl)) (td ?_ (by size_fits)))) (by size_fits));simp only[raiseNew];refine aH (wpAny_handled ?_);rw[show A.in1.handled=none from dz];refine aH (bp (wpAny_throw ?_));refine aH (w5 (T:="StopIteration") (b:=true) ⟨_,fM _ rfl,rfl⟩ isSubtype_stop ?_);refine bp (eV _ λb o I e=>?_);exact dx _ (dx _ ((Heap.get?_update_ne _ _ _ _ I).trans e))
structure kW (h:a5)(lo:Nat)(es:List kU)(as:List U):Prop where
 len:as.length=es.length
 above:∀a∈as,lo<=a
 nd:as.Nodup
 at_:∀(j:Nat) (a:U) (e:kU),as[j]? =some a->es[j]? =some e->h.get? a=some {cls:=.type "tuple",data:=.seq #[e.key,e.val]}
def kW.keep {h h':a5}{lo:Nat}{es:List kU}{as:List U}(o:kW h lo es as)(k:∀a,a∈as->∀b2,h.get? a=some b2->h'.get? a=some b2):kW h' lo es as:=
 ⟨o.len,o.above,o.nd,λj a e aa ac=>k a (l9 aa) _ (o.at_ j a e aa ac)⟩
def mF {lo:Nat}(dz:A.handled=none)(Xx:S≠d)(FC:S≠J)(Xl:J≠d)(res:af)(ak:es.size<=sizeLine)(iB:S < lo/\J < lo/\d < lo)(base:a5)
  (iz:∀h' tk as c,(∀b o,b≠S->b≠J->base.get? b=some o->h'.get? b=some o)->h'.get? S=some {cls:=.type "list",dict:=none,data:=.seq (as.map Value.ref).toArray c,slots:=#[]}->kW h' lo es.toList as->R (.ok (.ret res)) {s with heap:=h',toks:=tk}):
  ∀(k i:Nat) (h:a5) (tk:Nat) (as:List U) (c:Nat),es.size - i=k->i<=es.size->iQ h J d i es.size ep->Raw h d es ep->h.get? S=some {cls:=.type "list",dict:=none,data:=.seq (as.map Value.ref).toArray c,slots:=#[]}->kW h lo (es.toList.take i) as->
   (∀b o,b≠S->b≠J->base.get? b=some o->h.get? b=some o)->lo<=h.objs.size->
   codeAny (model prog w) A (.builtin "list.extend.loop" ⟨[.ref S,.ref J,res],[]⟩) R {s with heap:=h,toks:=tk}:=by
 intro k
 induction k with
 |zero=>
  intro i h tk as c aw aR iy fw gR d_ I hz;have f6:i=es.size:=by omega
  subst f6;refine tb entry_extend_loop ?_;rw[ta rt _];show wpAny _ A.in1 (pyNext (.ref J) >>= _) _ _ _;refine aH (next_end (s:={s with heap:=h,toks:=tk}) dz iy fw λh' b0=>bp ?_);rw[List.take_of_length_le (by simp)] at d_;have F4:∀a∈as,a≠J:=λa al z=>by have:=d_.above a al;rw[z] at this;exact absurd this (not_le.mpr iB.2.1)
  exact iz h' tk as c (λb o aa ac e=>b0 b o ac (I b o aa ac e)) (b0 _ _ FC gR) (d_.keep λa al b2 e=>b0 a b2 (F4 a al) e)
 |succ k bE=>
  intro i h tk as c aw aR iy fw gR d_ I hz;have cO:i < es.size:=by omega
  refine tb entry_extend_loop ?_;rw[ta rt _];show wpAny _ A.in1 (pyNext (.ref J) >>= _) _ _ _;refine aH (next_item (s:={s with heap:=h,toks:=tk}) (en:=es[i]) iy fw (by simp[cO]) λh' aX bt cn fS=>?_);have r5:=fS _ _ FC gR;have F5:h.objs.size≠S:=iL (dc gR);show wpAny _ A.in1 (updateSeq S (·.push (.ref h.objs.size)) >>= _) _ _ _;refine aH ?_;have iA:as.length=i:=by rw[d_.len];simp;omega
  refine u0 r5 rfl (bp ⟨uX rt _,?_⟩) (by simp[iA];omega) (by simp[iA];rw[qb] at *;omega);have hs:∀b o,b≠S->h'.get? b=some o->(h'.update S (Obj.mapSeq (·.push (Value.ref h.objs.size)))).get? b=some o:=λb o yx e=>(nL _ _ (gL yx)).trans e;have n9:(h'.update S (Obj.mapSeq (·.push (Value.ref h.objs.size)))).get? S=some {cls:=.type "list",dict:=none,data:=.seq ((as++[h.objs.size]).map Value.ref).toArray (c+1),slots:=#[]}:=by rw[qa _ r5 rfl];simp[Obj.mapSeq]
  have Xk:iQ (h'.update S (Obj.mapSeq (·.push (Value.ref h.objs.size)))) J d (i+1) es.size ep:=by
   obtain⟨f0,f1,k,v,cv,cx⟩:=aX;refine⟨f0,f1,k,v,hs _ _ FC.symm cv,?_⟩;rcases cx with cx|⟨a,o,b,cx,gm,p7,DD⟩
   ·exact .inl cx
   ·by_cases yt:a=S
    ·subst yt;exact .inr ⟨a,_,b,cx,gm,n9,DD⟩
    ·exact .inr ⟨a,o,b,cx,gm,hs _ _ yt p7,DD⟩
  have Xd:Raw (h'.update S (Obj.mapSeq (·.push (Value.ref h.objs.size)))) d es ep:=fw.keep λo e=>hs _ _ Xx.symm (fS _ _ Xl.symm e);have vM:lo<=(h'.update S (Obj.mapSeq (·.push (Value.ref h.objs.size)))).objs.size:=by rw[uW];have:h'.objs.size=h.objs.size+1:=cn;rw[this];exact Nat.le_succ_of_le hz
  refine bE (i+1) _ tk (as++[h.objs.size]) (c+1) (by omega) cO Xk Xd n9 ⟨?_,λa al=>?_,?_,λj a e aa ac=>?_⟩ (λb o aa ac e=>hs b o aa (fS b o ac (I b o aa ac e))) vM
  ·simp[iA];omega
  ·rcases di.mp al with z|z
   ·exact d_.above a z
   ·rw[ec.mp z];exact hz
  ·refine jb.mpr ⟨d_.nd,by simp,λa al b yv=>?_⟩;rw[ec.mp yv];obtain⟨j,bF⟩:=wX.mp al;have oj:j < as.length:=(eX.mp bF).1;have FS:(es.toList.take i)[j]? =some es[j]:=by rw[wV,aV (by omega)];simp
   exact e8 (dc (d_.at_ j a _ bF FS))
  ·by_cases bF:j < as.length
   ·rw[wT bF] at aa;have FS:(es.toList.take i)[j]? =some e:=by rw[wV,aV (by omega)];rw[wV,aV (by omega)] at ac;exact ac
    have al:a∈as:=l9 aa;have aC:=d_.above a al;have F4:a≠J:=λz=>by rw[z] at aC;exact absurd aC (not_le.mpr iB.2.1)
    have Yw:a≠S:=λz=>by rw[z] at aC;exact absurd aC (not_le.mpr iB.1)
    exact hs _ _ Yw (fS _ _ F4 (d_.at_ j a e aa FS))
   ·rw[Ad (by omega)] at aa;have FR:j - as.length=0:=by have:=(eX.mp aa).1;simp at this;omega
    rw[FR] at aa;have a9:a=h.objs.size:=by simpa using aa.symm
    have FT:j=i:=by omega
    subst FT;have E6:e=es[j]:=by rw[wV,aV (by omega)] at ac;simp[cO] at ac;exact ac.symm
    rw[a9,E6];exact hs _ _ F5 bt
end
section
variable {ep:Nat}
def Zy (bx:s.heap.IsItemsView r d)(hm:Raw s.heap d es ep)(hz:es.size<=sizeLine)(eV:Q (.ref s.heap.objs.size) {s with heap:=s.heap.push (pP .none (.bool false) d 0 es.size ep .none .none)}):
  wpAny (model prog w) A (pyIter (.ref r)) Q E s:=by
 obtain⟨ee,YF,Ni,XW⟩:=id bx;obtain⟨o,aI,_,_,Nj⟩:=hm;refine wpAny_pyIter_slot bx.typeIs PySem.F.slot_dict_items_iter (o4 PySem.F.slot_dict_items_iter bx.typeIs PySem.F.entry_dict_items_iter ?_ (PySem.F.args_dict_items_iter_1 _));unfold Builtin.«dict_items.__iter__»;refine aH (bp (aH ?_));unfold Builtin.Dict_items.dictOf;refine aH (kT YF XW (x:=.ref d) rfl (bp (aH ?_)));unfold Builtin.Dict_items.newIterator;refine aH (wpAny_dictEntries aI Nj (aH (wpAny_dictEpoch aI Nj ?_)));have own:Builtin.Dict_items.ownsTuple "dict_itemiterator"=true:=by decide
 simp only[own,jY];refine td (bp ⟨_,rfl,"dict_itemiterator",_,⟨_,fM _ rfl,rfl⟩,Ai.lookup,?_⟩)
  (by simp only[sizeOk,Builtin.Dict_items.ownedTupleFields,fL,dC,fK,wW,qb];omega)
 simpa[rawInt,Builtin.Dict_items.ownedTupleFields,pP] using eV
def UC (dz:A.handled=none)(bx:s.heap.IsItemsView r d)(hm:Raw s.heap d es ep)(hz:es.size<=sizeLine)
  (eV:∀h' tk as,(∀b o,s.heap.get? b=some o->h'.get? b=some o)->kW h' s.heap.objs.size es.toList as->Q (as.map Value.ref) {s with heap:=h',toks:=tk}):wpAny (model prog w) A (collect (.ref r)) Q E s:=by
 have au:r < s.heap.objs.size:=let ⟨_,aI,_⟩:=bx;dc aI;have hd:d < s.heap.objs.size:=let ⟨_,aI,_⟩:=hm;dc aI;have key:∀R:Result->ar->Prop,(∀h' tk as c,(∀b o,s.heap.get? b=some o->h'.get? b=some o)->h'.get? s.heap.objs.size=some {cls:=.type "list",dict:=none,data:=.seq (as.map Value.ref).toArray c,slots:=#[]}->kW h' s.heap.objs.size es.toList as->
   R (.ok (.ret (.ref s.heap.objs.size))) {s with heap:=h',toks:=tk})->codeAny (model prog w) A (.builtin "list.__iadd__" ⟨[.ref s.heap.objs.size,.ref r],[]⟩) R {s with heap:=s.heap.push {cls:=.type "list",data:=.seq ([]:List af).toArray}}:=λR iz=>by
  refine tb PySem.F.entry_list_iadd ?_;rw[ta plain_list_iadd _];show wpAny _ A.in1 (Builtin.List.listExtendWith (.ref s.heap.objs.size) (.ref r) (.ref s.heap.objs.size)) _ _ _;generalize oi:s.heap.push {cls:=.type "list",data:=.seq ([]:List af).toArray}=aa;have cP:∀b o,s.heap.get? b=some o->aa.get? b=some o:=λb o e=>by rw[<-oi];exact dx _ e
  have cv:aa.objs.size=s.heap.objs.size+1:=by rw[<-oi,jW]
  have kY:aa.get? s.heap.objs.size=some {cls:=.type "list",data:=.seq #[] 0}:=by rw[<-oi];exact fM _ rfl
  have Gj:aa.IsItemsView r d:=let ⟨o,aI,x⟩:=bx;⟨o,cP _ _ aI,x⟩;have yP:Raw aa d es ep:=hm.keep λo e=>cP _ _ e;have go:∀(h:a5) (c tk:Nat),(∀b o,b≠s.heap.objs.size->(aa.push (pP .none (.bool false) d 0 es.size ep .none .none)).get? b=some o->h.get? b=some o)->h.get? s.heap.objs.size=some {cls:=.type "list",data:=.seq #[] c}->aa.objs.size+1<=h.objs.size->
    codeAny (model prog w) A (.builtin "list.extend.loop" ⟨[.ref s.heap.objs.size,.ref aa.objs.size,.ref s.heap.objs.size],[]⟩) R {s with heap:=h,toks:=tk}:=λh c tk aw gR hsz=>by
   have Pj:∀b o,s.heap.get? b=some o->b≠s.heap.objs.size:=λb o e=>e8 (dc e);have iy:h.get? aa.objs.size=some (pP .none (.bool false) d 0 es.size ep .none .none):=aw _ _ (by rw[cv];exact Nat.succ_ne_self _) (fM _ rfl);refine mF (s:=s) (d:=d) (es:=es) (ep:=ep) (lo:=aa.objs.size+1) dz (iL hd) (by rw[cv];exact e8 (p' _)) (by rw[cv];exact iL (l_ hd)) _ hz ⟨by rw[cv];exact l_ (p' _),p' _,by rw[cv];exact l_ (l_ hd)⟩ s.heap
    (λh' Dw as b7 aX bt cn=>iz h' Dw as b7 (λb o e=>aX b o (Pj b o e) (by rw[cv];exact e8 (l_ (dc e))) e) bt ⟨cn.len,λa al=>gC (by rw[cv];omega) (cn.above a al),cn.nd,cn.at_⟩)
    _ 0 h tk [] c rfl (eY _) ⟨_,_,_,_,iy,.inl ⟨rfl,rfl⟩⟩ (hm.keep λo e=>aw _ _ (Pj _ _ e) (dx _ (cP _ _ e))) gR ⟨rfl,λa al=>by simp at al,nodup_nil,λj a e aa ac=>by simp at aa⟩
    (λb o yx agx e=>aw _ _ yx (dx _ (cP _ _ e))) hsz
  unfold Builtin.List.listExtendWith;refine aH (wpAny_typeOf (s:={s with heap:=aa}) (T:="dict_items") Gj.typeIs ?_);have Xz:s.heap.objs.size≠r:=iL au;have aX:Builtin.List.listSameRef (.ref s.heap.objs.size) (.ref r)=false:=by simp[Builtin.List.listSameRef,Xz]
  have bt:(Value.type "dict_items"==Value.type "list")=false:=by decide
  have cn:(Value.type "dict_items"==Value.type "tuple")=false:=by decide
  simp only[aX,bt,cn,Bool.or_false,gK,fX];refine aH (Zy (s:={s with heap:=aa}) Gj yP hz ?_);have u5:=dx (pP .none (.bool false) d 0 es.size ep .none .none) kY;refine aH (nM (kdx_hint (let ⟨o,aI,ai,_⟩:=Gj;⟨o,dx _ aI,ai⟩) ?_));refine wpAny_ite_split (λ_=>?_) (λ_=>bp ⟨uX rt _,go _ 0 _ (λb o _ e=>e) u5 (by rw[jW];exact b5 _)⟩);refine aH (wpAny_rule (aH ?_));show wpAny _ _ (updateSeq s.heap.objs.size (·.push .none) >>= λ_=>updateSeq s.heap.objs.size (·.pop)) _ _ _;refine aH (u0 u5 rfl ?_);have tr:=qa (Obj.mapSeq (·.push Value.none)) u5 rfl;refine u0 (hz:=by seq_fits) tr rfl ?_;have Ei:=qa (Obj.mapSeq (·.pop)) tr rfl;refine bp ⟨uX rt _,go _ _ _ (λb o I e=>?_) Ei (by rw[uW,uW,jW];exact b5 _)⟩;exact(nL _ _ (gL I)).trans ((nL _ _ (gL I)).trans e)
 unfold collect;refine aH (wpAny_runValue (tb PySem.F.entry_proto_collect ?_));rw[ta PySem.F.plain_proto_collect _];show wpAny _ A.in1 (newList [] >>= λl=>again (.builtin "list.__iadd__" ⟨[l,.ref r],[]⟩)) _ _ s;refine aH (td (bp ⟨uX plain_list_iadd _,key _ λh' tk as c aw r5 d_=>?_⟩));show wpAny _ A (load s.heap.objs.size >>= _) _ _ _;refine aH (wpAny_load r5 (bp ?_));exact eV h' tk as aw d_
def Up (hm:Raw s.heap d es ep)(lo:(d==sysModules)=false)(eV:Q (.ref s.heap.objs.size) {s with heap:=s.heap.push {cls:=.type "dict_items",data:=.fields #[.ref d]}}):
  wpAny (model prog w) A (call (.builtin "dict.items") [.ref d]) Q E s:=by
 obtain⟨o,aI,ai,_,_⟩:=hm;have bW:s.TypeIs (.ref d) "dict":=⟨o,aI,ai⟩;refine o4 PySem.F.slot_dict_items bW PySem.F.entry_dict_items ?_ (PySem.F.args_dict_items_1 _);unfold Builtin.«dict.items»;refine aH ?_;unfold Builtin.Dict.noArgs;refine aH (wpAny_notOrdered_dict bW ?_);show wpAny _ _ (pure d) _ _ s;refine bp ?_;show wpAny _ _ (Builtin.Dict.showsAll d >>= _) _ _ s;unfold Builtin.Dict.showsAll;rw[aN (by rw[lo];exact gg)];exact aH (bp (aH (td (bp ⟨_,rfl,eV⟩))))
end
end xv
namespace aB
open PySem PySem.Spec PyProof.Rows
def i9 (H:ah):List (U×c0)->ah
 |[]=>H
 |(a,o)::r=>upd (i9 H r) a o
theorem p3:∀{ps:List (U×c0)} {b:U},(∀p∈ps,p.1≠b)->i9 H ps b=H b
 |[],_,_=>rfl
 |(a,o)::r,b,h=>by show upd (i9 H r) a o b=_;rw[aj (gL (h (a,o) (dW ..)))];exact p3 λp am=>h p (d7 _ am)
theorem z5:∀{ps:List (U×c0)} {b:U} {o:c0},(ps.map (·.1)).Nodup->(b,o)∈ps->i9 H ps b=some o
 |(a,u)::r,b,o,ak,h=>by
  show upd (i9 H r) a u b=_;rw[ck,hk] at ak;rcases cr.mp h with e|e
  ·cases e;exact aG
  ·have I:b≠a:=λz=>ak.1 (by rw[<-z];exact dp.mpr ⟨(b,o),e,rfl⟩);rw[aj I];exact z5 ak.2 e
theorem RO:∀{ps:List (U×c0)} {b:U} {o:c0},i9 H ps b=some o->(b,o)∈ps\/(H b=some o/\∀p∈ps,p.1≠b)
 |[],_,_,h=>.inr ⟨h,λp am=>by simp at am⟩
 |(a,u)::r,b,o,h=>by
  have h':upd (i9 H r) a u b=some o:=h;by_cases e:b=a
  ·subst e;rw[aG] at h';cases h';exact .inl (dW ..)
  ·rw[aj e] at h';rcases RO h' with z|⟨z,y⟩
   ·exact .inl (d7 _ z)
   ·refine .inr ⟨z,λp am=>?_⟩;rcases cr.mp am with q|q
    ·rw[q];exact gL e
    ·exact y p q
def Inv.GK {t':Nat}(J:Inv X pins σ H s)(k:∀b u,s.heap.get? b=some u->h'.get? b=some u)(am:∀p∈ps,s.heap.objs.size<=p.1)(new:∀p∈ps,∀ap:ah,dq X.prog X.w ap h' p.1 p.2):
  Inv X pins σ (i9 H ps) {s with heap:=h',toks:=t'}:=by
 have nb:∀b u,s.heap.get? b=some u->∀p∈ps,p.1≠b:=λb u q p yV z=>by have:=am p yV;rw[z] at this;exact absurd (dc q) (not_lt.mpr this)
 have ud:∀b o,H b=some o->∀p∈ps,p.1≠b:=λb o q p yV z=>by have:=am p yV;rw[z] at this;exact absurd (J.ba.lt q) (not_lt.mpr this)
 refine J.un ⟨λb u q _ _ _=>k b u q,λb u q _ _ _=>⟨u.slots,k b u q⟩,λb u q n _=>by rw[p3 (nb b u q)];exact n,λb u q _=>⟨u,k b u q⟩,λb xs q=>by rw[p3 (ud b _ q)];exact q,
  λb u xs q=>by rw[p3 (ud b _ q)];exact q,λb aha q=>⟨#[],by rw[p3 (ud b _ q),q];simp⟩⟩ λb u q=>?_
 rcases RO q with z|⟨z,y⟩
 ·exact new (b,u) z _
 ·exact(J.ba b u z).hS (λc v _ r=>k c v r) (λc r=>by rw[p3 (ud c _ r)];exact r) λc xs r=>by rw[p3 (ud c _ r)];exact r
def u_ (r d:U):a5->Prop:=λh=>h.IsItemsView r d
def DB (k:cm.iN):List Key×V:=([.inl k.t,.inl k.g],.int k.b)
def ry (H:ah)(a:U)(k:cm.iN):Prop:=∃c_,H a=some (.tup [.ref c_,.int k.b])/\H c_=some (.tup [.int k.t,.int k.g])
def JE (H1 ap:ah)(a:U)(k:cm.iN):Prop:=∃c_,H1 a=none/\ap a=some (.tup [.ref c_,.int k.b])/\H1 c_=some (.tup [.int k.t,.int k.g])
def ry.at (ok:dN P w H h)(v:ry H a k):cm.qk h a k:=by
 obtain⟨c_,aE,aL⟩:=v;obtain⟨a3,r,t⟩:=wK ok aE;cases r with
 |cons cj dB=>
  cases dB with
  |cons kJ l0=>cases l0;cases cj;obtain⟨t1,rfl⟩:=kJ;exact⟨c_,t1,t,PZ ok aL⟩
theorem GD (z:κ):∀(as:List U) (ws:List κ),as.Nodup->as.length=ws.length->∃key:U->κ,∀(j:Nat) a k,as[j]? =some a->ws[j]? =some k->key a=k
 |[],_,_,_=>⟨λ_=>z,λj a k h=>by simp at h⟩
 |a::as,[],_,h=>by simp at h
 |a::as,w::ws,ak,h=>by
  obtain⟨key,aw⟩:=GD z as ws (hk.mp ak).2 (by simpa using h);refine⟨λx=>if x=a then w else key x,λj b k aa ac=>?_⟩;cases j with
  |zero=>
   have aE:a=b:=by simpa using aa
   have aL:w=k:=by simpa using ac
   subst aE aL;exact aV rfl
  |succ j=>
   have qG:as[j]? =some b:=by simpa using aa
   have I:b≠a:=λe=>(hk.mp ak).1 (by rw[<-e];exact l9 qG);show(if b=a then w else key b)=k;rw[aN I];exact aw j b k qG (by simpa using ac)
theorem Hy:∀{l:List α},(∀a∈l,F a (f a))->Paired F l (l.map f)
 |[],_=>.nil
 |a::l,h=>.cons (h a (dW ..)) (Hy λx ao=>h x (d7 _ ao))
def aaQ:Ea X "dict.items" (λx xs H Q=>∃d kvs,x=.ref d/\xs=[]/\H d=some (.e1 kvs)/\∀r,H r=none->Q (.ref r) (upd H r (.ext (u_ r d)))):=by intro pins s σ H x xs v us Q J bG rs h;obtain⟨d,kvs,rfl,rfl,hd,q⟩:=h;cases bG;cases rs;obtain⟨z,lo,bO,rel,o,es,ep,aa,ac,av,bn,cB⟩:=J.ba d _ hd;refine xv.Up ⟨o,aa,ac.1,ac.2.1,av⟩ lo ?_;refine⟨.ref s.heap.objs.size,_,J.laid (t':=s.toks) (o:=.ext (u_ s.heap.objs.size d)) (λ_ _ e=>dx _ e) (b5 _) ⟨⟨_,fM _ rfl,rfl,rfl⟩,⟨_,fM _ rfl⟩,λg1 g2 ⟨ee,e,y⟩ st=>⟨ee,st _ e,y⟩⟩,rfl,q _ (J.ba.fresh (b5 _))⟩
def afj (te:TE):TE:=λσ H Q=>te σ H λx H1=>∃(r d:U) (ws:List cm.iN),x=.ref r/\H1 r=some (.ext (u_ r d))/\H1 d=some (.e1 (ws.map DB))/\
 ∀(ap:ah) (bs:List U) (dY:List cm.iN) (l:U),aA H1 ap->H1 l=none->ap l=some (.lst (bs.map V.ref))->dY.Perm ws->(dY.Pairwise λa b=>cm.ku a b=false)->Paired (JE H1 ap) bs dY->Q (.ref l) ap
def acR {j:Nat}(bK:hV X "sorted")(hm:X.ae "sorted"=none)(aW:X.A.units+64 < cLine)(yz:X.calm=true)(he:bl X e te)
  (aD:starEach [e] X.env=[(false,eval e X.env)]:=by rfl):
  bl X (.Call (.Name "sorted" p) [e] [⟨some "reverse",.Constant (.bool true) j fj,bu⟩] pos) (afj te):=by
 intro pins s σ H Q J h;refine o3 (sk J bK hm (by w_on:bootBuiltins "sorted"=some (.builtin "sorted")) ?_ (by decide) (by decide));refine PyProof.Rows.callWith_kw (env:=X.env) (rest:=[]) (bN (aK he aY aD pos pins s σ H (λvs H1=>match vs with
  |[x]=>∃(r d:U) (ws:List cm.iN),x=.ref r/\H1 r=some (.ext (u_ r d))/\H1 d=some (.e1 (ws.map DB))/\
    ∀(ap:ah) (bs:List U) (dY:List cm.iN) (l:U),aA H1 ap->H1 l=none->ap l=some (.lst (bs.map V.ref))->dY.Perm ws->(dY.Pairwise λa b=>cm.ku a b=false)->Paired (JE H1 ap) bs dY->Q (.ref l) ap
  |_=>False) J h) λus s1 ⟨vs,H1,aP,cj,aX⟩=>?_) (by rw[aD];rfl) (by rw[aD];rfl) rfl rfl
 refine kws_cons (Constant_bool (kws_nil ?_))
 match vs,cj,aX with
 |[],_,aX=>exact aX.elim
 |_::_::_,_,aX=>exact aX.elim
 |[x],cj,aX=>
  obtain⟨r,d,ws,rfl,au,hd,q⟩:=aX;rw[b'.HV cj];obtain⟨bx,_,_⟩:=(show dq X.prog X.w H1 s1.heap r (.ext (u_ r d)) from aP.ba r _ au);obtain⟨z,lo,xs,rel,o,es,ep,aa,ac,av,bn,cB⟩:=(show dq X.prog X.w H1 s1.heap d (.e1 (ws.map DB)) from aP.ba d _ hd);have Ob:xs.length=ws.length:=by rw[<-fu rel,cc]
  have Nw:es.toList.length=ws.length:=by rw[bn,cc,Ob]
  have yH:es.size<=sizeLine:=by
   have:es.size=ws.length:=by rw[<-Nw];simp
   rw[this];rw[cc] at z;exact z
  refine cm.Q8 (xv.UC (aP.ok.hd yz) bx ⟨o,aa,ac.1,ac.2.1,av⟩ yH λh' tk as aw d_=>?_);have iA:as.length=ws.length:=by rw[d_.len,Nw]
  have ent:∀(j:Nat) (a:U) (k:cm.iN),as[j]? =some a->ws[j]? =some k->∃(c_:U) (t:Tok),cm.TupAt h' a [.ref c_,.int k.b t]/\H1 c_=some (.tup [.int k.t,.int k.g]):=λj a k al vB=>by
   have bF:j < xs.length:=by rw[Ob];exact(eX.mp vB).1
   have ao:xs[j]? =some xs[j]:=iK bF;obtain⟨aE,aL,bI⟩:=ut rel (by rw[hD,vB];rfl) ao;obtain⟨t,h3⟩:=bI;have XZ:es.toList[j]? =some (entryOfKey (tupleKind (hN X.prog X.w)) xs[j]):=by rw[bn,hD,ao];rfl
   have r6:=d_.at_ j a _ al XZ;refine⟨xs[j].2.1,t,⟨_,0,r6,rfl,?_⟩,aL⟩;show Data.seq #[Value.ref xs[j].2.1,xs[j].2.2] 0=_;rw[h3]
  obtain⟨wf,Ze⟩:∃wf:U->U,∀a∈as,∃(k:cm.iN) (t:Tok),(∃j:Nat,as[j]? =some a/\ws[j]? =some k)/\cm.TupAt h' a [.ref (wf a),.int k.b t]/\H1 (wf a)=some (.tup [.int k.t,.int k.g]):=by
   refine Classical.axiomOfChoice (r:=λ(a:U) (c_:U)=>a∈as->∃(k:cm.iN) (t:Tok),(∃j:Nat,as[j]? =some a/\ws[j]? =some k)/\cm.TupAt h' a [.ref c_,.int k.b t]/\H1 c_=some (.tup [.int k.t,.int k.g])) λa=>?_;by_cases al:a∈as
   ·obtain⟨j,bF⟩:=wX.mp al;have oj:j < ws.length:=by rw[<-iA];exact(eX.mp bF).1
    obtain⟨c_,t,aa,ac⟩:=ent j a ws[j] bF (iK oj);exact⟨c_,λ_=>⟨ws[j],t,⟨j,bF,iK oj⟩,aa,ac⟩⟩
   ·exact⟨0,λz=>absurd z al⟩
  obtain⟨key,mz⟩:=GD (κ:=cm.iN) ⟨0,0,0⟩ as ws d_.nd iA;have Gl:∀a∈as,∃t:Tok,cm.TupAt h' a [.ref (wf a),.int (key a).b t]/\H1 (wf a)=some (.tup [.int (key a).t,.int (key a).g]):=λa al=>by obtain⟨k,t,⟨j,aa,ac⟩,av,bn⟩:=Ze a al;rw[mz j a k aa ac];exact⟨t,av,bn⟩
  have emap:as.map key=ws:=by
   refine List.ext_getElem? λj=>?_;rw[hD];cases al:as[j]? with
   |none=>
    have:ws.length<=j:=by rw[<-iA];exact List.getElem?_eq_none_iff.mp al
    rw[Ae this];rfl
   |some a=>
    have oj:j < ws.length:=by rw[<-iA];exact(eX.mp al).1
    rw[iK oj];exact iM some (mz j a _ al (iK oj))
  let ps:List (U×c0):=as.map λa=>(a,c0.tup [.ref (wf a),.int (key a).b])
  have zB:(ps.map (·.1)).Nodup:=by rw[ff];show(as.map id).Nodup;rw[s8];exact d_.nd
  have bP:Inv X pins σ (i9 H1 ps) {s1 with heap:=h',toks:=tk}:=aP.GK (t':=tk) aw (λp am=>by
    obtain⟨a,al,rfl⟩:=dp.mp am;exact d_.above a al) λp am ap=>by
   obtain⟨a,al,rfl⟩:=dp.mp am;obtain⟨t,⟨b2,n,g1,g2,g3⟩,_⟩:=Gl a al;exact⟨by show 2<=sizeLine;decide,_,.cons rfl (.cons ⟨t,rfl⟩ .nil),b2,g1,g2,n,g3⟩
  have fr:∀p∈ps,H1 p.1=none:=λp am=>by obtain⟨a,al,rfl⟩:=dp.mp am;exact aP.ba.fresh (d_.above a al)
  have bQ:aA H1 (i9 H1 ps):=λb b2 e=>by rw[p3 λp am z=>by rw[<-z,fr p am] at e;cases e];exact e
  have ev:∀a∈as,ry (i9 H1 ps) a (key a):=λa al=>by obtain⟨t,_,g2⟩:=Gl a al;exact⟨wf a,z5 zB (dp.mpr ⟨a,al,rfl⟩),bQ _ _ g2⟩
  have cy:∀a∈as,cm.qk h' a (key a):=λa al=>(ev a al).at bP.ba;have pL:X.A.in1.in1.units < cLine:=by show X.A.units+1+1 < cLine;omega
  have Od:as.length<=sizeLine:=by rw[iA];rw[cc] at z;exact z
  refine⟨as,cm.zG cm.ku key as,false,rfl,Od,λac s2 jM k az=>cm.Ve ac (λa al=>⟨key a,(cy a al).eK k⟩) az,λs2 k x y ao bk jM az=>?_,λbs av e g1 g2 g3 yb=>?_⟩
  ·rw[cm.CG cm.Lx ao] at az;exact cm.Vd pL ((cy x ao).eK k) ((cy y bk).eK k) az
  ·have qX:bs.Pairwise λa b=>cm.ku (key a) (key b)=false:=by refine Pairwise.imp_of_mem (λ{a b} al I pB=>?_) g2;rw[<-cm.CG cm.Lx (key:=key) (as:=as) (a:=a) (c:=b) (g1.mem_iff.mp al)];exact cW (not_lt.mpr pB)
   have hf:=bP.ba.fresh (a:=h'.objs.size) (b5 _);have dv:Inv X pins σ (upd (i9 H1 ps) h'.objs.size (.lst (bs.map V.ref))) {s1 with heap:=av,toks:=tk}:=
    bP.laid (t':=tk) (o:=.lst (bs.map V.ref)) g3 (b5 _) ⟨by rw[cc,g1.length_eq];exact Od,bs.map Value.ref,e,CH bs,yb⟩
   have jD:aA (i9 H1 ps) (upd (i9 H1 ps) h'.objs.size (.lst (bs.map V.ref))):=λb b2 e=>by rw[aj (a8 e hf)];exact e
   refine⟨.ref h'.objs.size,_,dv,rfl,q _ bs (bs.map key) h'.objs.size (bQ.trans jD) (bQ.free hf) aG (by rw[<-emap];exact g1.map key) (by rw[w0];exact qX) ?_⟩;refine Hy λa al=>?_;have r6:=g1.mem_iff.mp al;obtain⟨t,_,g2⟩:=Gl a r6;have NW:(a,c0.tup [.ref (wf a),.int (key a).b])∈ps:=dp.mpr ⟨a,r6,rfl⟩;exact⟨wf a,fr _ NW,jD _ _ (z5 zB NW),g2⟩
def G9:Option Int->af->Bool
 |none,v=>v==.none
 |some k,v=>Value.isInt k v
def ud:Option Int->Int
 |none=>reduceHash 0xFCA86420
 |some k=>hashInt k
def ug:Option Int->V
 |none=>.b1
 |some k=>.int k
def q9:∀{k:Option Int} {v:af},G9 k v=true->(k=none/\v=.none)\/∃i t,k=some i/\v=.int i t
 |none,v,h=>.inl ⟨rfl,by
  cases v with
  |none=>rfl
  |_=>simp[G9] at h⟩
 |some i,v,h=>by obtain⟨t,e⟩:=Value.isInt_shape (k:=i) (v:=v) h;exact .inr ⟨i,t,rfl,e⟩
def Vj (h:Q true s):wpAny (model prog w) A (eqBool .none .none) Q E s:=λΓ p _=>by rw[cm.RZ];exact h
def Hv (prog:bg)(w:bb):PySem.KeyKind prog w (Option Int) where
 is:=G9
 hash:=ud
 inj:=λv a b al I=>by
  rcases q9 al with⟨rfl,rfl⟩|⟨i,t,rfl,rfl⟩
  ·rcases q9 I with⟨rfl,_⟩|⟨j,u,rfl,e⟩
   ·rfl
   ·exact nomatch e
  ·rcases q9 I with⟨rfl,e⟩|⟨j,u,rfl,e⟩
   ·exact nomatch e
   ·injection e with aE _;rw[aE]
 byValue:=λk v h=>by rcases q9 h with⟨rfl,rfl⟩|⟨i,t,rfl,rfl⟩<;>rfl
 pyHash:=λbx h=>by
  rcases q9 bx with⟨rfl,rfl⟩|⟨i,t,rfl,rfl⟩
  ·exact pyHash_slot (T:="NoneType") rfl PySem.F.slot_NoneType_hash PySem.F.entry_NoneType_hash (PySem.F.args_NoneType_hash_1 _) (beq_builtin_none _) (.inl rfl) (aH (bp (aH (wpAny_mkInt (bp ⟨_,_,rfl,h⟩)))))
  ·exact wpAny_pyHash_int h
 eqBool:=λaW bx h=>by
  rcases q9 aW with⟨rfl,rfl⟩|⟨i,t,rfl,rfl⟩
  ·rcases q9 bx with⟨rfl,rfl⟩|⟨j,u,rfl,rfl⟩
   ·exact Vj h
   ·exact SeqAt.EqAt.none_int j u _ _ _ _ h
  ·rcases q9 bx with⟨rfl,rfl⟩|⟨j,u,rfl,rfl⟩
   ·exact SeqAt.EqAt.int_none i t _ _ _ _ h
   ·refine tc ?_;have e:decide (some i=some j)=(i==j):=by
     by_cases z:i=j
     ·subst z;simp
     ·rw[cW (λy=>z (dZ y))];exact(ru.mpr z).symm
    rw[<-e];exact h
 «strs»:=λk x t v h=>by
  rcases q9 h with⟨rfl,e⟩|⟨i,u,rfl,e⟩
  ·exact nomatch e
  ·exact nomatch e
def G_ (r:RelV (ug k) u):(Hv P w).is k u=true:=by
 cases k with
 |none=>cases (show u=Value.none from r);rfl
 |some i=>obtain⟨t,rfl⟩:=(show ∃t,u=Value.int i t from r);show Value.isInt i (.int i t)=true;simp[Value.isInt]
def fE (P:bg)(w:bb)(a:U)(kvs:List (Option Int×V)):a5->Prop:=λh=>kvs.length<=sizeLine/\(a==sysModules)=false/\∃vs,fh kvs vs/\h.DictOf (Hv P w) a vs
def Hf (x:fE P w a kvs h):dq P w H h a (.ext (fE P w a kvs)):=by obtain⟨z,y,vs,r,o,es,ep,e,c⟩:=id x;refine⟨x,⟨o,e⟩,λg1 g2 ⟨z,y,vs,r,o,es,ep,e,c⟩ st=>⟨z,y,vs,r,o,es,ep,st _ e,c⟩⟩
def Qn (P:bg)(w:bb):dt:=λx y H Q=>∃d kvs k v,x=.ref d/\H d=some (.ext (fE P w d kvs))/\y=ug k/\ei kvs k=some v/\Q v H
def ZD:rE X (Qn X.prog X.w):=by intro value slice pins s σ H x y v u Q J bG bB h aD;obtain⟨d,kvs,k,z,rfl,hd,rfl,hz,q⟩:=h;cases bG;obtain⟨⟨_,lo,vs,rel,b4⟩,_,_⟩:=(show dq X.prog X.w H s.heap d (.ext (fE X.prog X.w d kvs)) from J.ba d _ hd);obtain⟨eF,hw,iE⟩:=g7.some_of (v:=z) (o:=valueAt vs k) (by rw[<-hz];exact rel.val k);exact tail_any b4.typeIs PySem.F.slot_dict_getitem.lookup (wpAny_getItem_of (G_ bB) b4.mapOf hw ⟨z,H,J.tok _,iE,q⟩) aD
def Qo (P:bg)(w:bb):xp:=λo i v H Q=>∃d kvs k,o=.ref d/\H d=some (.ext (fE P w d kvs))/\i=ug k/\kvs.length < sizeLine/\Q (upd H d (.ext (fE P w d (fs kvs k v))))
def ael:AI X (Qo X.prog X.w):=by
 intro pins s σ H o i v ee hL u Q J oL wn cy h;obtain⟨d,kvs,k,rfl,hd,rfl,aC,q⟩:=h;cases oL;obtain⟨⟨z,lo,vs,rel,b4⟩,_,_⟩:=(show dq X.prog X.w H s.heap d (.ext (fE X.prog X.w d kvs)) from J.ba d _ hd);have hz:vs.length<=sizeLine:=by rw[<-rel.length];exact z
 refine wpAny_setItem_pairs (hsz:=hz) (G_ wn) b4 λh' iW aD=>⟨_,?_,q⟩;have he:∃q,h'.get? d=some q:=let ⟨q,_,_,az,_⟩:=iW;⟨q,az⟩;have hK:(fs kvs k v).length<=sizeLine:=by have:=BY kvs k v;omega
 exact tA J (by rw[hd];exact True.intro) aD he (Hf ⟨hK,lo,_,rel.put k cy,iW⟩)
def Ru (P:bg)(w:bb)(te:TE):TE:=λσ H Q=>∀p,H p=none->te σ (upd H p (.ext (fE P w p []))) λy ap=>ap p=some (.ext (fE P w p []))/\Q (.ref p) (upd ap p (.ext (fE P w p [(none,y)])))
def acP {j:Nat}(he:bl X e te):bl X (.Dict [some (.Constant .none j bu)] [e] pos) (Ru X.prog X.w te):=by
 intro pins s σ H Q J q;have ak:=J.ba.fresh (b5 s.heap.objs.size);obtain⟨lu,z_,RT,h_,US⟩:=(show dq X.prog X.w (upd H s.heap.objs.size (.cq [])) (s.heap.push {cls:=.type "dict",data:=.dict #[]}) s.heap.objs.size (.cq []) from A6 s.heap J.big);have aa1:fE X.prog X.w s.heap.objs.size [] (s.heap.push {cls:=.type "dict",data:=.dict #[]}):=
  ⟨eY _,z_,[],.nil,_,#[],0,fM _ rfl,⟨rfl,rfl,rfl⟩,rfl,λe he=>by simp at he,by first|exact .nil|trivial|simp[agf],nodup_nil⟩
 have aP:=J.laid (a:=s.heap.objs.size) (o:=.ext (fE X.prog X.w s.heap.objs.size [])) (h':=s.heap.push {cls:=.type "dict",data:=.dict #[]}) (t':=s.toks) (λ_ _ q=>dx _ q) (b5 _) (Hf aa1);refine wpAny_Dict_walk (knd:=Hv X.prog X.w) rfl rfl (by simp) (by simp) (bN (ux sG he HJ pins _ σ _ (λps ap=>match ps with
  |[(.b1,y)]=>ap s.heap.objs.size=some (.ext (fE X.prog X.w s.heap.objs.size []))/\Q (.ref s.heap.objs.size) (upd ap s.heap.objs.size (.ext (fE X.prog X.w s.heap.objs.size [(none,y)])))
  |_=>False) aP (q _ ak)) λws s2 ⟨ps,ap,bP,rel,bt⟩=>?_)
 obtain⟨y,rfl,aL,bt⟩:∃y,ps=[(.b1,y)]/\ap s.heap.objs.size=some (.ext (fE X.prog X.w s.heap.objs.size []))/\Q (.ref s.heap.objs.size) (upd ap s.heap.objs.size (.ext (fE X.prog X.w s.heap.objs.size [(none,y)]))):=by
  revert bt
  split
  ·intro bt;exact⟨_,rfl,bt⟩
  ·intro bt;exact bt.elim
 cases rel with
 |@cons a b as bs h t=>cases t;obtain⟨gM,gD⟩:=b;obtain⟨⟨z,lo,vs,rel,b4⟩,_,_⟩:=(show dq X.prog X.w ap s2.heap s.heap.objs.size (.ext (fE X.prog X.w s.heap.objs.size [])) from bP.ba _ _ aL);cases rel;refine⟨[(none,gD)],⟨G_ (k:=none) h.1,rfl,True.intro⟩,b4,λh' iW aD=>⟨.ref s.heap.objs.size,_,?_,rfl,bt⟩⟩;have he:∃q,h'.get? s.heap.objs.size=some q:=let ⟨q,_,_,az,_⟩:=iW;⟨q,az⟩;exact tA bP (by rw[aL];exact True.intro) aD he (Hf ⟨by show 1<=sizeLine;decide,lo,_,.cons ⟨rfl,h.2⟩ .nil,iW⟩)
end aB
namespace XL
open PySem PyProof.Rows
abbrev hY:=Int×List Int×List Str
def o_ (prog:bg)(w:bb)(h:a5)(k:hY)(a:U):Prop:=∃c t tk,cm.TupAt h a [.int k.1 tk,.ref c,.ref t]/\IsTupleKey (PySem.intKind prog w) h k.2.1 c/\IsTupleKey (PySem.strKind prog w) h k.2.2 t
def afC (x:cm.TupAt h a xs)(y:cm.TupAt h a bO):xs=bO:=by obtain⟨o,n,e,_,d⟩:=x;obtain⟨d5,hA,bV,_,d'⟩:=y;rw[e] at bV;cases bV;rw[d] at d';cases d';rfl
def Oo (ao:o_ prog w h x a)(bk:o_ prog w h y a):x=y:=by obtain⟨c,t,tk,aa,ac,av⟩:=ao;obtain⟨b7,t',Dw,g1,g2,g3⟩:=bk;have e:=afC aa g1;injection e with aE e;injection e with aL e;injection e with bI e;injection aE with aE _;injection aL with aL;injection bI with bI;subst aL bI;obtain⟨x1,x2,x3⟩:=x;obtain⟨ew,ft,mT⟩:=y;have aX:x1=ew:=aE;have bt:x2=ft:=ac.inj g2;have cn:x3=mT:=av.inj g3;rw[aX,bt,cn]
def Tt {ep:Nat}(x:cm.TupAt h a xs)(aI:h.get? d=some o)(hd:o.data=.dict es ep)(aD:Heap.SameBut d h h'):cm.TupAt h' a xs:=by
 obtain⟨kG,n,e,c,q⟩:=x;have:a≠d:=λz=>by subst z;rw[aI] at e;cases e;rw[hd] at q;cases q
 exact⟨kG,n,(aD.2 a this).trans e,c,q⟩
def GP (prog:bg)(w:bb)(k:hY):Int:=reduceHash (Builtin.Tuple.tupleHashOf [hashInt k.1,tupleKeyHash (PySem.intKind prog w) k.2.1,tupleKeyHash (PySem.strKind prog w) k.2.2])
def B1 {s:ar}(x:o_ prog w s.heap k a):s.TypeIs (.ref a) "tuple":=by obtain⟨c,t,tk,⟨o,n,e,cl,_⟩,_⟩:=x;exact⟨o,e,cl⟩
def aag {A:cU}{s:ar}{Q:Int->ar->Prop}(aW:A.units+1 < cLine)(x:o_ prog w s.heap k a)(h:Q (GP prog w k) {s with toks:=s.toks+(k.2.1.length+k.2.2.length+4)}):wpAny (model prog w) A (pyHash (.ref a)) Q E s:=by
 have bW:=B1 x;obtain⟨c,t,tk,⟨o,n,e,cl,vi⟩,ai,bY⟩:=x;refine pyHash_slot bW PySem.F.slot_tuple_hash PySem.F.entry_tuple_hash (PySem.F.args_tuple_hash_1 _) (beq_builtin_none _) (.inr (by omega)) ?_;have sg:A.in1.units < cLine:=aW;show wpAny _ _ (Builtin.Tuple.tupleItemsOf (.ref a) >>= _) _ _ s;refine aH (wpAny_tupleItemsOf e vi (aH ?_));rw[<-forIn_toList];show wpAny _ _ (forIn [Value.int k.1 tk,Value.ref c,Value.ref t] _ _) _ _ s;rw[kO];refine aH (aH (wpAny_pyHash_int ?_))
 first|refine aH (bp (bp ?_))|refine bp ?_
 dsimp only;rw[kO];refine aH (aH (wpAny_pyHash_tuple sg ai ?_))
 first|refine aH (bp (bp ?_))|refine bp ?_
 dsimp only;rw[kO];refine aH (aH (wpAny_pyHash_tuple sg bY ?_))
 first|refine aH (bp (bp ?_))|refine bp ?_
 dsimp only;rw[p9];refine bp ?_;show wpAny _ _ (retInt (Builtin.Tuple.tupleHashOf [hashInt k.1,tupleKeyHash (PySem.intKind prog w) k.2.1,tupleKeyHash (PySem.strKind prog w) k.2.2])) _ _ _;unfold retInt;refine aH (wpAny_mkInt (bp ⟨_,_,rfl,?_⟩));have h3:s.toks+1+(k.2.1.length+1)+(k.2.2.length+1)+1=s.toks+(k.2.1.length+k.2.2.length+4):=by omega
 show Q (GP prog w k) {s with toks:=s.toks+1+(k.2.1.length+1)+(k.2.2.length+1)+1};rw[h3];exact h
def aaf {A:cU}{s:ar}{Q:Bool->ar->Prop}(aW:A.units+1 < cLine)(ao:o_ prog w s.heap x a)(bk:o_ prog w s.heap y b)(h:Q (decide (x=y)) s):wpAny (model prog w) A (eqBool (.ref a) (.ref b)) Q E s:=by
 unfold eqBool;refine nM ?_;show wpAny _ _ (if(Value.ref a==Value.ref b)=true then _ else _) Q E s;by_cases pB:(Value.ref a==Value.ref b)=true
 ·rw[aV pB];have e:a=b:=by have:=eq_of_beq pB;injection this
  subst e;obtain rfl:=Oo ao bk;exact aH (wpAny_rule (bp (by simpa using h)))
 ·rw[aN pB];have yp:=B1 ao;have yq:=B1 bk;obtain⟨c,t,tk,⟨kG,na,a9,ca,mm⟩,ai,bY⟩:=ao;obtain⟨b7,t',Dw,⟨b2,nb,dG,AX,db⟩,j_,Y5⟩:=bk;have sg:A.in1.units < cLine:=aW;refine aH (wpAny_richCompare_same_room (op:=.Eq) yp yq PySem.F.slot_tuple_eq (o4 PySem.F.slot_tuple_eq yp PySem.F.entry_tuple_eq ?_ (PySem.F.args_tuple_eq_2 _ _)) (by omega));show wpAny _ _ (isInstance (.ref b) (.type "tuple") >>= _) _ _ s;refine aH (w5 yq isSubtype_tuple_tuple ?_);simp only[mV,gK,fX];refine aH (wpAny_tupleItemsOf a9 mm (aH (wpAny_tupleItemsOf dG db ?_)));show wpAny _ _ (forIn [(Value.int x.1 tk,Value.int y.1 Dw),(Value.ref c,Value.ref b7),(Value.ref t,Value.ref t')] _ _ >>= _) _ _ s;have fin:∀v:Bool,v=decide (x=y)->(∃eF:af,(Fin.done (Flow.ret (Value.bool v)))=Fin.done (Flow.ret eF)/\eF≠Value.notImplemented/\wpAny (model prog w) A (truthOfDropped eF) Q E s):=λv e=>⟨_,rfl,by simp,by rw[e];exact o5 h⟩;obtain⟨x1,x2,x3⟩:=x;obtain⟨ew,ft,mT⟩:=y;rw[kO];refine aH (aH (aH (tc ?_)));by_cases aa:x1=ew
  ·rw[show(x1==ew)=true by simpa using aa];simp only[mV,gK,fX];refine bp ?_;dsimp only;rw[kO];refine aH (aH (wpAny_eqBool_tuple sg ai j_ ?_));by_cases ac:x2=ft
   ·rw[show decide ((x1,x2,x3).2.1=(ew,ft,mT).2.1)=true from ej ac];simp only[mV,gK,fX];refine bp ?_;dsimp only;rw[kO];refine aH (aH (wpAny_eqBool_tuple sg bY Y5 ?_));by_cases av:x3=mT
    ·rw[show decide ((x1,x2,x3).2.2=(ew,ft,mT).2.2)=true from ej av];simp only[mV,gK,fX];refine bp ?_;dsimp only;rw[p9];refine bp ?_;dsimp only;refine bp (fin true ?_);exact(ej (by rw[aa,ac,av])).symm
    ·rw[show decide ((x1,x2,x3).2.2=(ew,ft,mT).2.2)=false from cW av];simp only[Bool.not_false,jY];refine aH (bp (bp ?_));dsimp only;refine bp ?_;dsimp only;refine bp (fin false ?_);exact(cW (λz=>av (by injection z with _ z;injection z))).symm
   ·rw[show decide ((x1,x2,x3).2.1=(ew,ft,mT).2.1)=false from cW ac];simp only[Bool.not_false,jY];refine aH (bp (bp ?_));dsimp only;refine bp ?_;dsimp only;refine bp (fin false ?_);exact(cW (λz=>ac (by injection z with _ z;injection z))).symm
  ·rw[show(x1==ew)=false by simpa using aa];simp only[Bool.not_false,jY];refine aH (bp (bp ?_));dsimp only;refine bp ?_;dsimp only;refine bp (fin false ?_);exact(cW (λz=>aa (by injection z))).symm
def Ql {prog:bg}{w:bb}{A:cU}{E:af->ar->Prop}{s:ar}{K:Type}[DecidableEq K]{knd:KeyKind prog w K}{dY:List K}{a:U}{n:Nat}{Q:Bool->ar->Prop}(aw:IsTupleKey knd s.heap dY a)(h:Q true s):wpAny (model prog w) A (eqIsQuiet (n+1) (.ref a)) Q E s:=by
 have bW:=aw.typeIs;obtain⟨o,items,m,aI,_,hd,aR⟩:=aw;unfold eqIsQuiet;refine aH (wpAny_specialOf bW PySem.F.slot_tuple_eq.lookup ?_);show wpAny _ _ (isInstance (.ref a) (.type "tuple") >>= _) _ _ s;refine aH (w5 bW isSubtype_tuple_tuple ?_);simp only[mV,gK,fX];refine aH (wpAny_seqItems aI hd (aH ?_));show wpAny _ _ (forIn items _ _) _ _ s;rw[<-forIn_toList];refine wpAny_forIn_list _ (λrest r s'=>r.1=none/\s'=s/\∀v∈rest,carriedByValue v=true) _ ?_ ?_ _ _ ⟨rfl,rfl,aR.byValue⟩
 ·rintro v rest r s' ⟨au,rfl,fk⟩;rw[eqIsQuiet_byValue _ (fk v dW)];refine aH (bp ?_);simp only[mV,gK,fX];exact bp ⟨rfl,rfl,λu Y9=>fk u (d7 _ Y9)⟩
 ·rintro⟨cj,dB⟩ s' ⟨au,rfl,_⟩;simp only at au;subst au;exact bp h
def aah {prog:bg}{w:bb}{A:cU}{E:af->ar->Prop}{s:ar}{k:hY}{a:U}{Q:Bool->ar->Prop}(x:o_ prog w s.heap k a)(h:Q true s):wpAny (model prog w) A (eqIsQuiet 8 (.ref a)) Q E s:=by have bW:=B1 x;obtain⟨c,t,tk,⟨o,n,e,cl,vi⟩,ai,bY⟩:=x;unfold eqIsQuiet;refine aH (wpAny_specialOf bW PySem.F.slot_tuple_eq.lookup ?_);show wpAny _ _ (isInstance (.ref a) (.type "tuple") >>= _) _ _ s;refine aH (w5 bW isSubtype_tuple_tuple ?_);simp only[mV,gK,fX];refine aH (wpAny_seqItems e vi (aH ?_));show wpAny _ _ (forIn [Value.int k.1 tk,Value.ref c,Value.ref t].toArray _ _) _ _ s;rw[<-forIn_toList];show wpAny _ _ (forIn [Value.int k.1 tk,Value.ref c,Value.ref t] _ _) _ _ s;rw[kO,eqIsQuiet_byValue _ rfl];refine aH (aH (bp ?_));simp only[mV,gK,fX];refine bp ?_;dsimp only;rw[kO];refine aH (aH (Ql ai ?_));simp only[mV,gK,fX];refine bp ?_;dsimp only;rw[kO];refine aH (aH (Ql bY ?_));simp only[mV,gK,fX];refine bp ?_;dsimp only;rw[p9];exact bp (bp h)
def vS (prog:bg)(w:bb):HeapKind prog w hY where
 is:=o_ prog w
 hash:=GP prog w
 draws:=λk=>k.2.1.length+k.2.2.length+4
 room:=λA=>A.units+1 < cLine
 inj:=Oo
 keeps:=λ⟨c,t,tk,aa,ac,av⟩ aI hd aD=>⟨c,t,tk,Tt aa aI hd aD,ac.keeps aI hd aD,av.keeps aI hd aD⟩
 pyHash:=λaW aw h=>aag aW aw h
 eqBool:=λaW ao bk h=>aaf aW ao bk h
 quiet:=λaw h=>aah aw h
end XL
namespace aB
open PySem PySem.Spec PyProof.Rows
open XL (hY vS o_)
def hp (H:ah)(a:U)(k:hY):Prop:=∃c t,H a=some (.tup [.int k.1,.ref c,.ref t])/\H c=some (.tup (k.2.1.map V.int))/\H t=some (.tup (k.2.2.map V.str))
def hp.same (e:aA H ab):hp H a k->hp ab a k
 |⟨c,t,aa,ac,av⟩=>⟨c,t,e _ _ aa,e _ _ ac,e _ _ av⟩
def hp.eK (e:∀b xs,H b=some (.tup xs)->ab b=some (.tup xs)):hp H a k->hp ab a k
 |⟨c,t,aa,ac,av⟩=>⟨c,t,e _ _ aa,e _ _ ac,e _ _ av⟩
theorem Oj:∀{dY:List Int} {us:List af},b' (dY.map V.int) us->ItemsAre (PySem.intKind P w) dY us
 |[],_,r=>by rw[p_] at r;cases r;exact .nil
 |k::dY,_,r=>by
  rw[ck] at r;cases r with
  |cons h t=>obtain⟨tk,rfl⟩:=h;exact .cons (by simp[PySem.intKind,Value.isInt]) (Oj t)
theorem Rl:∀{dY:List Str} {us:List af},b' (dY.map V.str) us->ItemsAre (PySem.strKind P w) dY us
 |[],_,r=>by rw[p_] at r;cases r;exact .nil
 |k::dY,_,r=>by
  rw[ck] at r;cases r with
  |cons h t=>obtain⟨tk,rfl⟩:=h;exact .cons (by simp[PySem.strKind,Value.isStrOf]) (Rl t)
def hp.at (ok:dN P w H h)(v:hp H a k):o_ P w h k a:=by
 obtain⟨c,t,aE,aL,bI⟩:=v;obtain⟨a3,r,aF⟩:=wK ok aE;obtain⟨agS,rc,hP,Hb,g1,g2,g3⟩:=wK ok aL;obtain⟨agT,ia,acy,abp,f1,f2,d8⟩:=wK ok bI;cases r with
 |cons cj dB=>
  cases dB with
  |cons kJ l0=>
   cases l0 with
   |cons uA HR=>cases HR;obtain⟨tk,rfl⟩:=cj;cases kJ;cases uA;exact⟨c,t,tk,aF,⟨hP,_,Hb,g1,g2,g3,by simpa using Oj rc⟩,⟨acy,_,abp,f1,f2,d8,by simpa using Rl ia⟩⟩
abbrev LE:=hY×U×V
abbrev xf (kvs:List LE)(xs:List (hY×U×af)):Prop:=Paired (λ(p:LE) (q:hY×U×af)=>p.1=q.1/\p.2.1=q.2.1/\RelV p.2.2 q.2.2) kvs xs
def lB (P:bg)(w:bb)(a:U)(kvs:List LE):a5->Prop:=λh=>kvs.length<=sizeLine/\(a==sysModules)=false/\∃xs,xf kvs xs/\
 ∃o es ep,h.get? a=some o/\o.ExactDict/\o.data=.dict es ep/\es.toList=xs.map (entryOfKey (vS P w))/\(xs.map (·.1)).Nodup
def ld_obj (x:lB P w a kvs h):dq P w H h a (.ext (lB P w a kvs)):=by obtain⟨z,y,xs,r,o,es,ep,e,c⟩:=id x;exact⟨x,⟨o,e⟩,λg1 g2 ⟨z,y,xs,r,o,es,ep,e,c⟩ st=>⟨z,y,xs,r,o,es,ep,st _ e,c⟩⟩
def kD (kvs:List LE)(k:hY):Option V:=(kvs.find? λp=>decide (p.1=k)).map (·.2.2)
theorem xf.at:∀{kvs:List LE} {xs:List (hY×U×af)} (k:hY),xf kvs xs->g7 (kD kvs k) ((atKey xs k).map (·.2))
 |_,_,_,.nil=>True.intro
 |p::ps,q::kI,k,.cons h t=>by
  obtain⟨aa,_,av⟩:=h;by_cases e:p.1=k
  ·have bV:q.1=k:=aa.symm.trans e;have a1:kD (p::ps) k=some p.2.2:=by simp[kD,i',e]
   have a2:atKey (q::kI) k=some q.2:=by simp[atKey,i',bV]
   rw[a1,a2];exact av
  ·have bV:¬q.1=k:=λz=>e (aa.trans z);have a1:kD (p::ps) k=kD ps k:=by simp[kD,i',e]
   have a2:atKey (q::kI) k=atKey kI k:=by simp[atKey,i',bV]
   rw[a1,a2];exact xf.at k t
def GN (J:Inv X pins σ H s)(hd:H d=some (.ext (lB X.prog X.w d kvs)))(aw:∀p∈kvs,hp H p.2.1 p.1):kvs.length<=sizeLine/\(d==sysModules)=false/\∃xs,xf kvs xs/\s.heap.DictOfH (vS X.prog X.w) d xs:=by
 obtain⟨⟨z,y,xs,r,o,es,ep,aa,ac,av,bn,cB⟩,_,_⟩:=(show dq X.prog X.w H s.heap d (.ext (lB X.prog X.w d kvs)) from J.ba d _ hd);refine⟨z,y,xs,r,o,es,ep,aa,ac,av,bn,λx ao=>?_,cB⟩;obtain⟨j,bF⟩:=wX.mp ao;have oj:j < kvs.length:=by rw[fu r];exact(eX.mp bF).1
 obtain⟨aE,aL,_⟩:=ut r (iK oj) bF;rw[<-aE,<-aL];exact(aw _ (getElem_mem oj)).at J.ba
def afb (P:bg)(w:bb)(ty eu:TE):TE:=λσ H Q=>ty σ H λy H1=>eu σ H1 λx ap=>∃d kvs b k,x=.ref d/\ap d=some (.ext (lB P w d kvs))/\(∀p∈kvs,hp ap p.2.1 p.1)/\y=.ref b/\hp ap b k/\Q (.bL (!(kD kvs k).isSome)) ap
def acF (aW:X.A.units+2 < cLine)(aR:bl X i ty)(aI:bl X o eu):xm X .NotIn i o (afb X.prog X.w ty eu):=by intro pins s σ H Q J h;refine bN (aR pins s σ H _ J h) λhL s1 ⟨y,H1,aP,bB,aX⟩=>bN (aI pins s1 σ H1 _ aP aX) λu s2 ⟨x,ap,bP,bG,d,kvs,b,k,ex,hd,aw,gF,I,bt⟩=>?_;subst ex gF;obtain rfl:u=Value.ref d:=bG;obtain rfl:hL=Value.ref b:=bB;obtain⟨z,lo,xs,rel,b4⟩:=GN bP hd aw;refine wpAny_notIn_heap (knd:=vS X.prog X.w) (show X.A.units+1+1 < cLine from aW) (I.at bP.ba) lo b4 ?_;have e:=(rel.at k).vN;rw[isSome_map] at e;rw[<-e];exact⟨.bL (!(kD kvs k).isSome),ap,bP.tok _,rfl,bt⟩
def adn (P:bg)(w:bb):dt:=λx y H Q=>∃d kvs b k v,x=.ref d/\H d=some (.ext (lB P w d kvs))/\(∀p∈kvs,hp H p.2.1 p.1)/\y=.ref b/\hp H b k/\kD kvs k=some v/\Q v H
def ZC (aW:X.A.units+2 < cLine):rE X (adn X.prog X.w):=by intro value slice pins s σ H x y v u Q J bG bB h aD;obtain⟨d,kvs,b,k,z,rfl,hd,aw,rfl,I,hz,q⟩:=h;cases bG;cases bB;obtain⟨_,lo,xs,rel,b4⟩:=GN J hd aw;obtain⟨eF,hw,iE⟩:=g7.some_of (v:=z) (o:=(atKey xs k).map (·.2)) (by rw[<-hz];exact rel.at k);obtain⟨p,am,pJ⟩:=mX.mp hw;refine tail_any b4.typeIs PySem.F.slot_dict_getitem.lookup (wpAny_getItem_heap (knd:=vS X.prog X.w) (show X.A.units+1+1 < cLine from aW) (I.at J.ba) b4 am ?_) aD;rw[pJ];exact⟨z,H,J.tok _,iE,q⟩
def ado (P:bg)(w:bb):xp:=λo i v H Q=>∃d kvs b k,o=.ref d/\H d=some (.ext (lB P w d kvs))/\(∀p∈kvs,hp H p.2.1 p.1)/\i=.ref b/\hp H b k/\kD kvs k=none/\kvs.length < sizeLine/\Q (upd H d (.ext (lB P w d (kvs++[(k,b,v)]))))
def aej (aW:X.A.units+2 < cLine):AI X (ado X.prog X.w):=by
 intro pins s σ H o i v ee hL u Q J oL wn cy h;obtain⟨d,kvs,b,k,rfl,hd,aw,rfl,I,ak,aC,q⟩:=h;cases oL;cases wn;obtain⟨z,lo,xs,rel,b4⟩:=GN J hd aw;have hz:xs.length<=sizeLine:=by rw[<-fu rel];exact z
 have r_:atKey xs k=none:=by
  have:=rel.at k;rw[ak] at this;cases e:atKey xs k with
  |none=>rfl
  |some p=>rw[e] at this;exact this.elim
 refine wpAny_setItem_heap (knd:=vS X.prog X.w) (hsz:=hz) (show X.A.units+1+1 < cLine from aW) (I.at J.ba) b4 λh' iW aD=>⟨_,?_,q⟩;rw[storedH_new r_] at iW;obtain⟨Qk,es,ep,g1,g2,g3,yb,_,V1⟩:=iW;exact tA J (by rw[hd];exact True.intro) aD ⟨Qk,g1⟩ (ld_obj ⟨by rw[dC,List.length_singleton];omega,lo,_,snoc rel ⟨rfl,rfl,cy⟩,Qk,es,ep,g1,g2,g3,yb,V1⟩)
def Rr (P:bg)(w:bb):TE:=λ_ H Q=>∀p,H p=none->Q (.ref p) (upd H p (.ext (lB P w p [])))
def acL:bl X (.Dict [] [] pos) (Rr X.prog X.w):=λpins s σ H Q J h=>by obtain⟨lu,z_,RT,h_,US⟩:=(show dq X.prog X.w (upd H s.heap.objs.size (.cq [])) (s.heap.push {cls:=.type "dict",data:=.dict #[]}) s.heap.objs.size (.cq []) from A6 s.heap J.big);refine wpAny_Dict_empty ⟨.ref s.heap.objs.size,_,J.laid (a:=s.heap.objs.size) (o:=.ext (lB X.prog X.w s.heap.objs.size [])) (t':=s.toks) (λ_ _ q=>dx _ q) (b5 _) (ld_obj ⟨eY _,z_,[],.nil,_,#[],0,fM _ rfl,⟨rfl,rfl,rfl⟩,rfl,rfl,nodup_nil⟩),rfl,h _ (J.ba.fresh (b5 _))⟩
end aB
namespace AO
open PySem PyProof.Rows PySem.W
def agb:typeLookup (.type "zip") "__len__"=pure none:=by rw[typeLookup_type,builtinLookup_eq_fast];kernel_rfl
def aga:typeLookup (.type "zip") "__length_hint__"=pure none:=by rw[typeLookup_type,builtinLookup_eq_fast];kernel_rfl
def z' (f0:af)(b:Bool)(TI eo:U):Obj:={cls:=.type "zip",dict:=none,data:=.fields #[f0,.bool b,.bool false,.ref TI,.ref eo],slots:=#[]}
def Zip (h:a5)(z TI eo:U):Prop:=∃f0 b,h.get? z=some (z' f0 b TI eo)/\((f0=.none/\b=false)\/∃a o,f0=rawInt (a:Nat)/\h.get? a=some o/\a≠z)
section
variable {k:Nat}
def PY {b:Bool}(dz:A.handled=none)(D:ZipApart z TI eo dm c2 cY eC)(hz:s.heap.get? z=some (z' f0 b TI eo))(hf:f0=rawInt (a:Nat))(al:s.heap.get? a=some o)
  (qM:IsPair s.heap TI (.ref dm) (.ref c2)) (aa:s.heap.IsListIter dm cY k) (ac:s.heap.IsListIter c2 eC k) (eR:s.heap.IsList cY xs) (hK:s.heap.IsList eC bO)
  (eV:∀x y h',xs[k]? =some x->bO[k]? =some y->h'.get? z=some (z' f0 true TI eo)->h'.IsListIter dm cY (k+1)->h'.IsListIter c2 eC (k+1)->IsPair h' s.heap.objs.size x y->h'.objs.size=s.heap.objs.size+1->
   (∀c o,c≠z->c≠dm->c≠c2->s.heap.get? c=some o->h'.get? c=some o)->R (.done (.ret (.ref s.heap.objs.size))) {s with heap:=h'})
  (fx:∀h' e,(xs[k]? =none\/bO[k]? =none)->(∀c o,c≠z->c≠dm->c≠c2->s.heap.get? c=some o->h'.get? c=some o)->(∃o,h'.get? e=some o/\o.cls=.type "StopIteration")->E (.ref e) {s with heap:=h'}):
  wpAny (model prog w) A (Builtin.«zip.__next__» ⟨[.ref z],[]⟩) R E s:=by
 subst hf;show wpAny _ _ (field (.ref z) 2 >>= _) _ _ _;refine aH (kT hz rfl (x:=.bool false) rfl ?_);show wpAny _ _ (field (.ref z) 3 >>= _) _ _ _;refine aH (kT hz rfl (x:=.ref TI) rfl (aH (wpAny_seqItems qM rfl ?_)));show wpAny _ _ (Builtin.SmallTypes.ownedTupleIsFree (.ref z) >>= _) _ _ _;have own:wpAny (model prog w) A (Builtin.SmallTypes.ownedTupleIsFree (.ref z)) (λr s'=>r=false/\∃oi,s'={s with heap:=oi}/\oi.get? z=some (z' (rawInt a) true TI eo)/\Heap.SameBut z s.heap oi) E s:=by
  unfold Builtin.SmallTypes.ownedTupleIsFree;refine aH (kT hz rfl (x:=rawInt a) rfl ?_);show wpAny _ _ (loadIfAlive ((a:Int).toNat) >>= _) _ _ _;rw[wM];refine aH (kdx_alive al ?_);simp only[Option.isNone_some,gK,fX];refine aH (kT hz rfl (x:=.bool b) rfl ?_);cases b with
  |true=>rw[aN (by decide)];exact bp ⟨rfl,s.heap,rfl,hz,Heap.SameBut.refl _ _⟩
  |false=>rw[aV (by decide)];exact aH (uZ hz (by simp) λav bI s3=>bp ⟨rfl,av,rfl,bI,s3⟩)
 refine aH (je own (λr s' ⟨lI,g,es,W0,px⟩=>?_) λ_ _ x=>x);subst lI es;simp only[gK,fX];have cv:g.objs.size=s.heap.objs.size:=px.1;refine aH ?_;show wpAny _ _ (forIn (#[Value.ref dm,Value.ref c2]:Array af) _ _) _ _ _;rw[<-forIn_toList];show wpAny _ _ (forIn [Value.ref dm,Value.ref c2] _ _) _ _ _;rw[kO];refine aH (aH (nM ?_));show wpAny _ _ (Builtin.SmallTypes.nextOf (.ref dm) >>= _) _ _ _;cases ao:xs[k]? with
 |none=>refine aH (wpAny_nextOf_list_end (s:={s with heap:=g}) dz (aa.extBut px.extBut D.i1z) (eR.extBut px.extBut D.l1z) ao λav e s3 he=>?_);exact fx av e (.inl ao) (λc o ip fH k2 q=>s3 _ _ fH (px.extBut _ _ ip q)) he
 |some x=>
  refine aH (wpAny_nextOf_list_item (s:={s with heap:=g}) (aa.extBut px.extBut D.i1z) (eR.extBut px.extBut D.l1z) ao λav cn s3=>bp ?_);dsimp only;refine bp ?_;dsimp only;rw[kO];refine aH (aH (nM ?_));show wpAny _ _ (Builtin.SmallTypes.nextOf (.ref c2) >>= _) _ _ _;have wo:Heap.SameBut dm g av:=s3;have Op:av.IsListIter c2 eC k:=(ac.extBut px.extBut D.i2z).extBut wo.extBut D.i12.symm;have OS:av.IsList eC bO:=(hK.extBut px.extBut D.l2z).extBut wo.extBut D.l2i1;cases bk:bO[k]? with
  |none=>refine aH (wpAny_nextOf_list_end (s:={s with heap:=av}) dz Op OS bk λbn e s4 he=>?_);exact fx bn e (.inr bk) (λc o ip fH k2 q=>s4 _ _ k2 (wo.extBut _ _ fH (px.extBut _ _ ip q))) he
  |some y=>
   refine aH (wpAny_nextOf_list_item (s:={s with heap:=av}) Op OS bk λbn fS s4=>bp ?_);dsimp only;refine bp ?_;dsimp only;rw[p9];refine bp ?_;have CL:Heap.SameBut c2 av bn:=s4;have p7:bn.objs.size=s.heap.objs.size:=by have a1:bn.objs.size=av.objs.size:=CL.1;have a2:av.objs.size=g.objs.size:=wo.1;rw[a1,a2,cv]
   show wpAny _ _ (newTuple [x,y] >>= _) _ _ _;refine aH (wpAny_newTuple ?_);have W1:bn.get? z=some (z' (rawInt a) true TI eo):=CL.extBut _ _ D.i2z.symm (wo.extBut _ _ D.i1z.symm W0);have fin:=eV x y (bn.push {cls:=.type "tuple",data:=.seq #[x,y]}) ao bk (dx _ W1) ((cn.extBut CL.extBut D.i12).at λo e=>dx _ e) (fS.at λo e=>dx _ e)
    (by rw[<-p7];exact fM _ rfl) (by rw[jW,p7]) λc o ip fH k2 q=>dx _ (CL.extBut _ _ k2 (wo.extBut _ _ fH (px.extBut _ _ ip q)))
   rw[<-p7] at fin;exact bp fin
def next_item (dz:A.handled=none)(D:ZipApart z TI eo dm c2 cY eC)(hz:Zip s.heap z TI eo)(qM:IsPair s.heap TI (.ref dm) (.ref c2))(pA:∃a b,IsPair s.heap eo a b)
  (aa:s.heap.IsListIter dm cY k) (ac:s.heap.IsListIter c2 eC k) (eR:s.heap.IsList cY xs) (hK:s.heap.IsList eC bO) (ao:xs[k]? =some x) (bk:bO[k]? =some y)
  (eV:∀h',Zip h' z TI eo->(∃a b,IsPair h' eo a b)->h'.IsListIter dm cY (k+1)->h'.IsListIter c2 eC (k+1)->IsPair h' s.heap.objs.size x y->h'.objs.size=s.heap.objs.size+1->
   (∀c o,c≠z->c≠eo->c≠dm->c≠c2->s.heap.get? c=some o->h'.get? c=some o)->Q (some (.ref s.heap.objs.size)) {s with heap:=h'}):wpAny (model prog w) A (pyNext (.ref z)) Q E s:=by
 obtain⟨f0,b,nv,hf⟩:=hz;obtain⟨aF,cL,pA⟩:=pA;have bW:s.TypeIs (.ref z) "zip":=⟨_,nv,rfl⟩;have agc:=dc nv;rcases hf with⟨rfl,rfl⟩|⟨a,o,rfl,al,yu⟩
 ·exact wpAny_pyNext_zip_item D nv qM pA aa ac eR hK ao bk λh' aX bt cn fS wj fT hR=>eV h' ⟨_,_,aX,.inr ⟨s.heap.objs.size,_,rfl,wj,iL agc⟩⟩ ⟨_,_,bt⟩ cn fS wj fT hR
 ·unfold pyNext;refine aH (wpAny_attempt (wpAny_callSpecial?_slot (name:=Str.ofString "__next__") bW slot_zip_next (o4 slot_zip_next bW PySem.F.entry_zip_next
   (PY (A:=A.in1) dz D nv rfl al qM aa ac eR hK (λfW iI h' aE aL aX cn fS wj fT hR=>?_) (λh' e cv _ _=>?_)) (PySem.F.args_zip_next_1 _))))
  ·rw[ao] at aE;rw[bk] at aL;cases aE;cases aL;refine⟨_,rfl,bp (eV h' ⟨_,true,aX,?_⟩ ⟨aF,cL,hR _ _ D.TOz D.TOi1 D.TOi2 pA⟩ cn fS wj fT λc o ip _ k2 rI e=>hR c o ip k2 rI e)⟩;by_cases M9:a=dm
   ·obtain⟨Cp,f6,_⟩:=id cn;exact .inr ⟨a,Cp,rfl,by rw[M9];exact f6,yu⟩
   ·by_cases M_:a=c2
    ·obtain⟨Cp,f6,_⟩:=id fS;exact .inr ⟨a,Cp,rfl,by rw[M_];exact f6,yu⟩
    ·exact .inr ⟨a,o,rfl,hR _ _ yu M9 M_ al,yu⟩
  ·rcases cv with cv|cv
   ·rw[ao] at cv;cases cv
   ·rw[bk] at cv;cases cv
def next_end (dz:A.handled=none)(D:ZipApart z TI eo dm c2 cY eC)(hz:Zip s.heap z TI eo)(qM:IsPair s.heap TI (.ref dm) (.ref c2))(pA:∃a b,IsPair s.heap eo a b)
  (aa:s.heap.IsListIter dm cY k) (ac:s.heap.IsListIter c2 eC k) (eR:s.heap.IsList cY xs) (hK:s.heap.IsList eC bO) (he:xs[k]? =none\/bO[k]? =none)
  (eV:∀h',(∀c o,c≠z->c≠eo->c≠dm->c≠c2->s.heap.get? c=some o->h'.get? c=some o)->Q none {s with heap:=h'}):wpAny (model prog w) A (pyNext (.ref z)) Q E s:=by
 obtain⟨f0,b,nv,hf⟩:=hz;obtain⟨aF,cL,pA⟩:=pA;have bW:s.TypeIs (.ref z) "zip":=⟨_,nv,rfl⟩;rcases hf with⟨rfl,rfl⟩|⟨a,o,rfl,al,yu⟩
 ·exact wpAny_pyNext_zip_end dz D nv qM pA aa ac eR hK he λh' q=>eV h' q
 ·unfold pyNext;refine aH (wpAny_attempt (wpAny_callSpecial?_slot (name:=Str.ofString "__next__") bW slot_zip_next (o4 slot_zip_next bW PySem.F.entry_zip_next
   (PY (A:=A.in1) dz D nv rfl al qM aa ac eR hK (λfW iI h' aE aL _ _ _ _ _ _=>?_) (λh' e cv hR aD=>?_)) (PySem.F.args_zip_next_1 _))))
  ·rcases he with cv|cv
   ·rw[cv] at aE;cases aE
   ·rw[cv] at aL;cases aL
  ·obtain⟨eT,aE,aL⟩:=aD;refine aH (w5 (s:={s with heap:=h'}) (T:="StopIteration") (b:=true) ⟨eT,aE,aL⟩ isSubtype_stop (bp (eV h' λc o ip _ k2 rI e=>hR c o ip k2 rI e)))
end
structure kW (h:a5)(lo:Nat)(xs bO:Array af)(i:Nat)(as:List U):Prop where
 len:as.length=i
 above:∀a∈as,lo<=a
 nd:as.Nodup
 at_:∀(j:Nat) (a:U),as[j]? =some a->∃x y,xs[j]? =some x/\bO[j]? =some y/\IsPair h a x y
def kW.keep {lo:Nat}{i:Nat}(o:kW h lo xs bO i as)(k:∀a,a∈as->∀b2,h.get? a=some b2->h'.get? a=some b2):kW h' lo xs bO i as:=
 ⟨o.len,o.above,o.nd,λj a e=>let ⟨x,y,aE,aL,bI⟩:=o.at_ j a e;⟨x,y,aE,aL,k a (l9 e) _ bI⟩⟩
structure St (h:a5)(z TI eo dm c2 cY eC:U)(xs bO:Array af)(k:Nat):Prop where
 z:Zip h z TI eo
 kj:IsPair h TI (.ref dm) (.ref c2)
 to:∃a b,IsPair h eo a b
 dm:h.IsListIter dm cY k
 c2:h.IsListIter c2 eC k
 cY:h.IsList cY xs
 eC:h.IsList eC bO
def mF {prog:bg}{w:bb}{A:cU}{s:ar}{z TI eo dm c2 cY eC:U}{xs bO:Array af}{S:U}{lo n:Nat}(dz:A.handled=none)(D:ZipApart z TI eo dm c2 cY eC)(gR:S≠z/\S≠TI/\S≠eo/\S≠dm/\S≠c2/\S≠cY/\S≠eC)(res:af)(ak:n=min xs.size bO.size)(hz:n<=sizeLine)
  (iB:S < lo/\z < lo/\eo < lo/\dm < lo/\c2 < lo) {R:Result->ar->Prop} (base:a5)
  (iz:∀h' tk as c,(∀b o,b≠S->b≠z->b≠eo->b≠dm->b≠c2->base.get? b=some o->h'.get? b=some o)->h'.get? S=some {cls:=.type "list",dict:=none,data:=.seq (as.map Value.ref).toArray c,slots:=#[]}->kW h' lo xs bO n as->R (.ok (.ret res)) {s with heap:=h',toks:=tk}):
  ∀(k i:Nat) (h:a5) (tk:Nat) (as:List U) (c:Nat),n - i=k->i<=n->St h z TI eo dm c2 cY eC xs bO i->h.get? S=some {cls:=.type "list",dict:=none,data:=.seq (as.map Value.ref).toArray c,slots:=#[]}->kW h lo xs bO i as->
   (∀b o,b≠S->b≠z->b≠eo->b≠dm->b≠c2->base.get? b=some o->h.get? b=some o)->lo<=h.objs.size->codeAny (model prog w) A (.builtin "list.extend.loop" ⟨[.ref S,.ref z,res],[]⟩) R {s with heap:=h,toks:=tk}:=by
 obtain⟨En,Tn,Ej,Ek,El,To,Tp⟩:=gR;have rf:∀{h:a5} {i:Nat} {as:List U} {b:U},kW h lo xs bO i as->b < lo->∀a∈as,a≠b:=λo I a al e=>by have:=o.above a al;rw[e] at this;exact absurd this (not_le.mpr I)
 intro k
 induction k with
 |zero=>
  intro i h tk as c aw aR bW cT d_ I hsz;have f6:i=n:=by omega
  subst f6;refine tb entry_extend_loop ?_;rw[ta rt _];show wpAny _ A.in1 (pyNext (.ref z) >>= _) _ _ _;have he:xs[i]? =none\/bO[i]? =none:=by
   by_cases aa:xs.size<=i
   ·exact .inl (DF aa)
   ·exact .inr (DF (by omega))
  refine aH (next_end (s:={s with heap:=h,toks:=tk}) dz D bW.z bW.kj bW.to bW.dm bW.c2 bW.cY bW.eC he λh' q=>bp ?_);exact iz h' tk as c (λb o gM gD nc tw tx e=>q b o gD nc tw tx (I b o gM gD nc tw tx e)) (q _ _ En Ej Ek El cT) (d_.keep λa al b2 e=>q a b2 (rf d_ iB.2.1 a al) (rf d_ iB.2.2.1 a al) (rf d_ iB.2.2.2.1 a al) (rf d_ iB.2.2.2.2 a al) e)
 |succ k bE=>
  intro i h tk as c aw aR bW cT d_ I hsz;have cO:i < n:=by omega
  have ao:xs[i]? =some xs[i]:=DE (by omega);have bk:bO[i]? =some bO[i]:=DE (by omega);refine tb entry_extend_loop ?_;rw[ta rt _];show wpAny _ A.in1 (pyNext (.ref z) >>= _) _ _ _;refine aH (next_item (s:={s with heap:=h,toks:=tk}) dz D bW.z bW.kj bW.to bW.dm bW.c2 bW.cY bW.eC ao bk λh' aX bt cn fS wj fT hR=>?_);have qK:=hR _ _ En Ej Ek El cT;have F5:h.objs.size≠S:=iL (dc cT);have iA:as.length=i:=d_.len;show wpAny _ A.in1 (updateSeq S (·.push (.ref h.objs.size)) >>= _) _ _ _;refine aH ?_;refine u0 qK rfl (bp ⟨uX rt _,?_⟩) (by simp[iA];omega) (by simp[iA];rw[qb] at *;omega);have hs:∀b o,b≠S->h'.get? b=some o->(h'.update S (Obj.mapSeq (·.push (Value.ref h.objs.size)))).get? b=some o:=λb o yx e=>(nL _ _ (gL yx)).trans e;have n9:(h'.update S (Obj.mapSeq (·.push (Value.ref h.objs.size)))).get? S=some {cls:=.type "list",dict:=none,data:=.seq ((as++[h.objs.size]).map Value.ref).toArray (c+1),slots:=#[]}:=by rw[qa _ qK rfl];simp[Obj.mapSeq]
  have pb:St (h'.update S (Obj.mapSeq (·.push (Value.ref h.objs.size)))) z TI eo dm c2 cY eC xs bO (i+1):=by
   refine⟨?_,hs _ _ Tn.symm (hR _ _ D.TIz D.TITO D.TIi1 D.TIi2 bW.kj),?_,cn.at λo e=>hs _ _ Ek.symm e,fS.at λo e=>hs _ _ El.symm e,?_,?_⟩
   ·obtain⟨f0,b,e,hf⟩:=aX;refine⟨f0,b,hs _ _ En.symm e,?_⟩;rcases hf with hf|⟨a,o,aE,aL,bI⟩
    ·exact .inl hf
    ·by_cases yt:a=S
     ·exact .inr ⟨a,_,aE,by rw[yt];exact n9,bI⟩
     ·exact .inr ⟨a,o,aE,hs _ _ yt aL,bI⟩
   ·obtain⟨a,b,e⟩:=bt;exact⟨a,b,hs _ _ Ej.symm e⟩
   ·obtain⟨o,e,x⟩:=bW.cY;exact⟨o,hs _ _ To.symm (hR _ _ D.l1z D.l1TO D.l1i1 D.l1i2 e),x⟩
   ·obtain⟨o,e,x⟩:=bW.eC;exact⟨o,hs _ _ Tp.symm (hR _ _ D.l2z D.l2TO D.l2i1 D.l2i2 e),x⟩
  have ada:h'.objs.size=h.objs.size+1:=fT;refine bE (i+1) _ tk (as++[h.objs.size]) (c+1) (by omega) cO pb n9 ⟨by simp[iA],λa al=>?_,?_,λj a e=>?_⟩ (λb o gM gD nc tw tx e=>hs b o gM (hR b o gD nc tw tx (I b o gM gD nc tw tx e))) (by rw[uW,ada];exact Nat.le_succ_of_le hsz)
  ·rcases di.mp al with y|y
   ·exact d_.above a y
   ·rw[ec.mp y];exact hsz
  ·refine jb.mpr ⟨d_.nd,by simp,λa al b yv=>?_⟩;rw[ec.mp yv];obtain⟨j,bF⟩:=wX.mp al;obtain⟨x,y,_,_,bI⟩:=d_.at_ j a bF;exact e8 (dc bI)
  ·by_cases bF:j < as.length
   ·rw[wT bF] at e;obtain⟨x,y,aE,aL,bI⟩:=d_.at_ j a e;have al:a∈as:=l9 e;exact⟨x,y,aE,aL,hs _ _ (rf d_ iB.1 a al) (hR _ _ (rf d_ iB.2.1 a al) (rf d_ iB.2.2.1 a al) (rf d_ iB.2.2.2.1 a al) (rf d_ iB.2.2.2.2 a al) bI)⟩
   ·rw[Ad (by omega)] at e;have FR:j - as.length=0:=by have:=(eX.mp e).1;simp at this;omega
    rw[FR] at e;have a9:a=h.objs.size:=by simpa using e.symm
    have FT:j=i:=by omega
    subst FT;rw[a9];exact⟨_,_,ao,bk,hs _ _ F5 wj⟩
def Z8 {prog:bg}{w:bb}{A:cU}{E:af->ar->Prop}{s:ar}{z TI eo dm c2 cY eC:U}{xs bO:Array af}{Q:af->ar->Prop}(dz:A.handled=none)(D:ZipApart z TI eo dm c2 cY eC)(bW:St s.heap z TI eo dm c2 cY eC xs bO 0)(hz:min xs.size bO.size<=sizeLine)
  (eV:∀h' tk as c,(∀b o,b≠z->b≠eo->b≠dm->b≠c2->s.heap.get? b=some o->h'.get? b=some o)->h'.get? s.heap.objs.size=some {cls:=.type "list",dict:=none,data:=.seq (as.map Value.ref).toArray c,slots:=#[]}->kW h' (s.heap.objs.size+1) xs bO (min xs.size bO.size) as->
   Q (.ref s.heap.objs.size) {s with heap:=h',toks:=tk}):wpAny (model prog w) A (call (.type "list") [.ref z]) Q E s:=by
 have lt:∀{b:U} {o:Obj},s.heap.get? b=some o->b < s.heap.objs.size:=λe=>dc e;have R5:z < s.heap.objs.size:=let ⟨_,_,e,_⟩:=bW.z;lt e;have afx:TI < s.heap.objs.size:=lt bW.kj;have RF:eo < s.heap.objs.size:=let ⟨_,_,e⟩:=bW.to;lt e;have Oe:dm < s.heap.objs.size:=let ⟨_,e,_⟩:=bW.dm;lt e;have Of:c2 < s.heap.objs.size:=let ⟨_,e,_⟩:=bW.c2;lt e;have ZV:cY < s.heap.objs.size:=let ⟨_,e,_⟩:=bW.cY;lt e;have ZW:eC < s.heap.objs.size:=let ⟨_,e,_⟩:=bW.eC;lt e;refine callType_codes (Q₁:=λobj s₁=>obj=.ref s.heap.objs.size/\s₁={s with heap:=s.heap.push {cls:=.type "list",data:=.seq #[]}}) PySem.F.called_list (PySem.F.typeCall_list_1 _) PySem.F.entry_list_init
  (code_list_new _ ⟨rfl,rfl⟩) λobj s₁ h₁=>?_
 obtain⟨rfl,rfl⟩:=h₁;generalize oi:s.heap.push {cls:=.type "list",data:=.seq #[]}=aa;have cP:∀b o,s.heap.get? b=some o->aa.get? b=some o:=λb o e=>by rw[<-oi];exact dx _ e
 have kY:aa.get? s.heap.objs.size=some {cls:=.type "list",data:=.seq #[]}:=by rw[<-oi];exact fM _ rfl
 have cv:aa.objs.size=s.heap.objs.size+1:=by rw[<-oi,jW]
 refine⟨⟨_,kY,rfl⟩,PySem.F.args_list_init_2 _ _,?_⟩;have hS:∀ac:a5,(∀b o,b≠s.heap.objs.size->aa.get? b=some o->ac.get? b=some o)->St ac z TI eo dm c2 cY eC xs bO 0:=λac bX=>by
  have e5:∀b o,s.heap.get? b=some o->ac.get? b=some o:=λb o e=>bX b o (e8 (lt e)) (cP b o e);refine⟨?_,e5 _ _ bW.kj,?_,bW.dm.at λo e=>e5 _ _ e,bW.c2.at λo e=>e5 _ _ e,?_,?_⟩
  ·obtain⟨f0,b,e,hf⟩:=bW.z;refine⟨f0,b,e5 _ _ e,?_⟩;rcases hf with hf|⟨a,o,aE,aL,bI⟩
   ·exact .inl hf
   ·exact .inr ⟨a,o,aE,e5 _ _ aL,bI⟩
  ·obtain⟨a,b,e⟩:=bW.to;exact⟨a,b,e5 _ _ e⟩
  ·obtain⟨o,e,x⟩:=bW.cY;exact⟨o,e5 _ _ e,x⟩
  ·obtain⟨o,e,x⟩:=bW.eC;exact⟨o,e5 _ _ e,x⟩
 show wpAny _ _ (do let old <-Builtin.List.listItems (.ref s.heap.objs.size);Builtin.List.listUpdate (.ref s.heap.objs.size) (λ_=>#[]);letGo old.toList.reverse;Builtin.List.listExtendWith (.ref s.heap.objs.size) (.ref z) .none) _ _ ({s with heap:=aa}:ar);refine aH ?_;unfold Builtin.List.listItems;refine aH (wpAny_seqItems kY rfl (bp ?_));show wpAny _ _ (updateSeq s.heap.objs.size (λ_=>#[]) >>= λ_=>letGo (#[]:Array af).toList.reverse >>= λ_=>Builtin.List.listExtendWith (.ref s.heap.objs.size) (.ref z) .none) _ _ _;refine aH (u0 kY rfl (aH (wpAny_letGo ?_)));have u5:=qa (Obj.mapSeq (λ_=>(#[]:Array af))) kY rfl;have uo:∀b o,b≠s.heap.objs.size->aa.get? b=some o->(aa.update s.heap.objs.size (Obj.mapSeq (λ_=>(#[]:Array af)))).get? b=some o:=λb o I e=>(nL _ _ (gL I)).trans e;have u6:=hS _ uo;unfold Builtin.List.listExtendWith;have vr:Shared.TypeIs {s with heap:=aa.update s.heap.objs.size (Obj.mapSeq (λ_=>(#[]:Array af)))} (.ref z) "zip":=let ⟨_,_,e,_⟩:=u6.z;⟨_,e,rfl⟩;refine aH (wpAny_typeOf vr ?_);have Cn:s.heap.objs.size≠z:=iL R5;have aX:Builtin.List.listSameRef (.ref s.heap.objs.size) (.ref z)=false:=by simp[Builtin.List.listSameRef,Cn]
 have bt:(Value.type "zip"==Value.type "list")=false:=by decide
 have cn:(Value.type "zip"==Value.type "tuple")=false:=by decide
 simp only[aX,bt,cn,Bool.or_false,gK,fX];obtain⟨f0,agp,E',hf⟩:=id u6.z;have Zz:∀(Jo:cU) (JD:af->ar->Prop) (jM:af->ar->Prop),jM (.ref z) {s with heap:=aa.update s.heap.objs.size (Obj.mapSeq (λ_=>(#[]:Array af)))}->wpAny (model prog w) Jo (pyIter (.ref z)) jM JD {s with heap:=aa.update s.heap.objs.size (Obj.mapSeq (λ_=>(#[]:Array af)))}:=λJo JD jM az=>by refine wpAny_pyIter_slot vr PySem.F.slot_zip_iter (o4 PySem.F.slot_zip_iter vr PySem.F.entry_zip_iter ?_ (PySem.F.args_zip_iter_1 _));show wpAny _ _ (ret (.ref z)) _ _ _;exact bp ⟨_,rfl,"zip",_,vr,slot_zip_next.lookup,az⟩
 refine aH (Zz _ _ _ (aH (nM ?_)));unfold Builtin.List.listLengthHint;refine aH (wpAny_specialOf vr agb ?_);show wpAny _ _ (specialOf (Value.ref z) (Str.ofString "__length_hint__") >>= _) _ _ _;refine aH (wpAny_specialOf vr aga (bp ?_));simp only[Bool.true_or,jY];refine aH (wpAny_rule (aH ?_));show wpAny _ _ (updateSeq s.heap.objs.size (·.push .none) >>= λ_=>updateSeq s.heap.objs.size (·.pop)) _ _ _;refine aH (u0 u5 rfl ?_);have tr:=qa (Obj.mapSeq (·.push Value.none)) u5 rfl;refine u0 (hz:=by seq_fits) tr rfl ?_;have Ei:=qa (Obj.mapSeq (·.pop)) tr rfl;have PI:∀b o,b≠s.heap.objs.size->aa.get? b=some o->((((aa.update s.heap.objs.size (Obj.mapSeq (λ_=>(#[]:Array af)))).update s.heap.objs.size (Obj.mapSeq (·.push Value.none)))).update s.heap.objs.size (Obj.mapSeq (·.pop))).get? b=some o:=λb o I e=>
  (nL _ _ (gL I)).trans ((nL _ _ (gL I)).trans (uo b o I e))
 refine bp ⟨uX rt _,?_⟩;refine mF (A:=A.in1) (s:=s) (S:=s.heap.objs.size) (lo:=s.heap.objs.size+1) dz D ⟨Cn,iL afx,iL RF,iL Oe,iL Of,iL ZV,iL ZW⟩ .none rfl hz
  ⟨p' _,l_ R5,l_ RF,l_ Oe,l_ Of⟩ s.heap (λh' tk as c g1 g2 g3=>⟨rfl,eV h' tk as c (λb o gD nc tw tx e=>g1 b o (e8 (lt e)) gD nc tw tx e) g2 g3⟩)
  _ 0 _ _ [] _ rfl (eY _) (hS _ PI) Ei ⟨rfl,λa al=>by simp at al,nodup_nil,λj a e=>by simp at e⟩ (λb o gM _ _ _ _ e=>PI b o gM (cP b o e)) (by rw[uW,uW,uW,cv];exact b5 _)
end AO
namespace aB
open PySem PySem.Spec PyProof.Rows
def afc (K:PySem.W.Frag)(aF:hq):TE:=λσ H Q=>aF σ H λvs H1=>∃(a b:U) (xs bO:List V),vs=[.ref a,.ref b]/\bA K H1 a xs/\bA K H1 b bO/\bO.length<=xs.length/\
 ∀(ap:ah) (as:List U) (l:U),aA H1 ap->H1 l=none->ap l=some (.lst (as.map V.ref))->as.length=bO.length->(∀(j:Nat) (p:U) (x y:V),as[j]? =some p->xs[j]? =some x->bO[j]? =some y->ap p=some (.tup [x,y]))->Q (.ref l) ap
def acK (yz:X.calm=true)(FO:hV X "list")(yP:X.ae "list"=none)(FP:hV X "zip")(F2:X.ae "zip"=none)(al:fF X [aE,aL] aF)
  (aD:starEach [aE,aL] X.env=(false,eval aE X.env)::starEach [aL] X.env:=by rfl) (jt:(backTo wg (starEach [aL] X.env)).any (·.1)=false:=by rfl)
  (aI:starEach [.Call (.Name "zip" eI) [aE,aL] [] wg] X.env=[(false,eval (.Call (.Name "zip" eI) [aE,aL] [] wg) X.env)]:=by rfl):
  bl X (.Call (.Name "list" fp) [.Call (.Name "zip" eI) [aE,aL] [] wg] [] ac4) (afc X.K aF):=by
 intro pins s σ H Q J h;refine o3 (sk J FO yP (by w_on:bootBuiltins "list"=some (.type "list")) ?_ (by decide) (by decide));refine PyProof.Rows.callWith_type1 ?_ aI rfl;rw[aI];show wpAny _ _ (spliced ((false,eval (.Call (.Name "zip" eI) [aE,aL] [] wg) X.env)::[])) _ _ s;refine Calls.spliced_cons ?_;refine o3 (sk J FP F2 Uh ?_ (by decide) (by decide));refine PyProof.Rows.callWith_type1 (bN (al wg pins s σ H _ J h) λus s1 ⟨vs,H1,aP,cj,aX⟩=>?_) aD jt;obtain⟨a,b,xs,bO,rfl,ao,bk,d2,q⟩:=aX;cases cj with
 |cons r b8=>
  cases b8 with
  |cons dB kJ=>
   cases kJ;cases r;cases dB;obtain⟨a3,cy,HH,cv⟩:=aP.list ao;obtain⟨ow,QH,HI,cx⟩:=aP.list bk;have c':a < s1.heap.objs.size:=HH.lt;have GL:b < s1.heap.objs.size:=HI.lt;refine call_zip_2 HH.isList HI.isList λh' hz qM pA aa ac hsz aw=>Calls.spliced_nil ?_;have D:=PySem.W.ktu_apart s1.heap.objs.size a b c' GL;have D_:h'.IsList a a3.toArray:=let ⟨o,e,x⟩:=HH.isList;⟨o,aw _ _ e,x⟩;have aB:h'.IsList b ow.toArray:=let ⟨o,e,x⟩:=HI.isList;⟨o,aw _ _ e,x⟩;have en:min a3.toArray.size ow.toArray.size=bO.length:=by rw[fL,fL,<-cy.length,<-QH.length];omega
   refine AO.Z8 (s:={s1 with heap:=h'}) (aP.ok.hd yz) D ⟨⟨_,_,hz,.inl ⟨rfl,rfl⟩⟩,qM,⟨_,_,pA⟩,aa,ac,D_,aB⟩ (by rw[en];exact cx) λav tk as c dX tr o'=>?_;have e5:∀b o,s1.heap.get? b=some o->av.get? b=some o:=λb o e=>by have cO:=dc e;exact dX b o (e8 (hl cO (s_ _ _))) (e8 (hl cO (s_ _ _))) (e8 cO) (e8 (hl cO (s_ _ _))) (aw b o e)
   have Gf:h'.objs.size=s1.heap.objs.size+5:=hsz;rw[en] at o';have lo:∀q∈as,s1.heap.objs.size<=q:=λq az=>gC (by show s1.heap.objs.size<=h'.objs.size+1;rw[Gf];exact s_ _ 6) (o'.above q az);obtain⟨key,mz⟩:=GD (κ:=V×V) (.b1,.b1) as ((xs.take bO.length).zip bO) o'.nd (by rw[o'.len];simp;omega);have fy:∀(j:Nat) (q:U) (x y:V),as[j]? =some q->xs[j]? =some x->bO[j]? =some y->key q=(x,y):=λj q x y aE aL bI=>by have bF:j < bO.length:=(eX.mp bI).1;refine mz j q (x,y) aE ?_;rw[List.getElem?_zip_eq_some];exact⟨by rw[wV,aV bF];exact aL,bI⟩
   let ps:List (U×c0):=as.map λq=>(q,c0.tup [(key q).1,(key q).2])
   have zB:(ps.map (·.1)).Nodup:=by rw[ff];show(as.map id).Nodup;rw[s8];exact o'.nd
   have bP:Inv X pins σ (i9 H1 ps) {s1 with heap:=av,toks:=tk}:=aP.GK (t':=tk) e5 (λp am=>by
     obtain⟨q,az,rfl⟩:=dp.mp am;exact lo q az) λp am ap=>by
    obtain⟨q,az,rfl⟩:=dp.mp am;obtain⟨j,bF⟩:=wX.mp az;obtain⟨u,v,aE,aL,bI⟩:=o'.at_ j q bF;have ND:j < bO.length:=by rw[<-o'.len];exact(eX.mp bF).1
    have vI:xs[j]? =some (xs[j]'(by omega)):=iK (by omega);have BO:bO[j]? =some bO[j]:=iK ND;rw[fy j q _ _ bF vI BO];obtain⟨iG,g1,g2⟩:=cy.get vI;obtain⟨z6,g3,yb⟩:=QH.get BO;have Vx:u=iG:=by
     have:a3[j]? =some u:=by simpa using aE
     rw[g1] at this;exact(dZ this).symm
    have ev:v=z6:=by
     have:ow[j]? =some v:=by simpa using aL
     rw[g3] at this;exact(dZ this).symm
    subst Vx ev;exact⟨by show 2<=sizeLine;decide,[u,v],.cons g2 (.cons yb .nil),_,bI,rfl,_,rfl⟩
   have fr:∀p∈ps,H1 p.1=none:=λp am=>by obtain⟨q,az,rfl⟩:=dp.mp am;exact aP.ba.fresh (lo q az)
   have bQ:aA H1 (i9 H1 ps):=λb b2 e=>by rw[p3 λp am z=>by rw[<-z,fr p am] at e;cases e];exact e
   have Z5:h'.objs.size∉as:=λm=>absurd (o'.above _ m) (not_le.mpr (p' _));have Nx:H1 h'.objs.size=none:=aP.ba.fresh (by rw[Gf];exact s_ _ _);have hf:i9 H1 ps h'.objs.size=none:=by
    rw[p3 λp am z=>by obtain⟨q,az,rfl⟩:=dp.mp am;exact Z5 (by rw[<-z];exact az)]
    exact Nx
   have Yp:(as.map V.ref).length<=sizeLine:=by rw[cc,o'.len];exact cx
   have dv:Inv X pins σ (upd (i9 H1 ps) h'.objs.size (.lst (as.map V.ref))) {s1 with heap:=av,toks:=tk}:=by
    have hX:=aP.GK (t':=tk) (ps:=(h'.objs.size,c0.lst (as.map V.ref))::ps) e5 (λp am=>?_) (λp am ap=>?_)
    ·exact hX
    ·rcases cr.mp am with e|e
     ·rw[e];show s1.heap.objs.size<=h'.objs.size;rw[Gf];exact s_ _ _
     ·obtain⟨q,az,rfl⟩:=dp.mp e;exact lo q az
    ·rcases cr.mp am with e|e
     ·rw[e];exact⟨Yp,as.map Value.ref,c,CH as,tr⟩
     ·obtain⟨q,az,rfl⟩:=dp.mp e;have:=bP.ba q _ (z5 zB e);obtain⟨g1,its',g2,g3⟩:=this;exact⟨g1,its',g2,g3⟩
   have jD:aA (i9 H1 ps) (upd (i9 H1 ps) h'.objs.size (.lst (as.map V.ref))):=λb b2 e=>by rw[aj (a8 e hf)];exact e
   refine⟨.ref h'.objs.size,_,dv,rfl,q _ as h'.objs.size (bQ.trans jD) Nx aG o'.len λj er x y aE aL bI=>?_⟩;refine jD _ _ ?_;rw[z5 zB (dp.mpr ⟨er,l9 aE,rfl⟩),fy j er x y aE aL bI]
def Us (yz:X.calm=true):qe X (.builtin "sorted") (λxs H Q=>∃(p:U) (kvs:List (Key×V)) (ns:List Int),xs=[.ref p]/\aU H p (.cq kvs)/\kvs.map (·.1)=ns.map Sum.inl/\ns.length < 64/\
  ∀(pV:List Int) (l:U),pV.Perm ns->pV.Pairwise (·<=·)->H l=none->Q (.ref l) (upd H l (.lst (pV.map V.int)))):=by
 intro pins s σ H xs us Q J r h;obtain⟨p,kvs,ns,rfl,am,pE,tL,q⟩:=h;rw[b'.HV r];obtain⟨z,hd,vs,rel,b4⟩:=pk J.ba am;obtain⟨ep,mm⟩:=b4.dictAt;refine Calls.call_function_entry kind_sorted plain_sorted entry_sorted (args_sorted1 _) ?_;unfold Builtin.«sorted»;refine aH (m:=checkCount "sorted" 1 1 _) (bp ?_);refine aH (UD (A:=X.A.in1) (kdl_dict hd) (J.ok.hd yz) mm (by rw[<-rel.length];exact z) λh' tk acc aw j9=>?_);have FX:kvs.length=ns.length:=by have:=iM length pE;simpa using this
 have aR:IntsAre acc.toList ns:=by
  have bx:b' (ns.map V.int) acc.toList:=by
   have hK:=rel.length;have om:=j9.1;refine Cv (by rw[cc];simp only[Aa];omega) λi x u aE aL=>?_;obtain⟨k,y,g1,g2⟩:=j9.2 i u (by rw[<-Array.getElem?_toList];exact aL);rw[hD] at aE;obtain⟨n,ak,rfl⟩:=mX.mp aE;have Ya:i < kvs.length:=by have:=(eX.mp ak).1;omega
   have ol:kvs[i]? =some kvs[i]:=iK Ya;obtain⟨bt,_⟩:=ut rel ol g1;have rO:(kvs.map (·.1))[i]? =some (Sum.inl n):=by rw[pE,hD,ak];rfl
   rw[hD,ol] at rO;have xK:kvs[i].1=Sum.inl n:=dZ rO;rw[bt] at xK;rcases nx g2 with⟨agN,t,bI,rfl⟩|⟨iI,t,bI,rfl⟩
   ·rw[bI] at xK;cases xK;exact⟨t,rfl⟩
   ·rw[bI] at xK;cases xK
  exact bx.ints
 refine aH (wpAny_newList ?_);have qS:(h'.push (seqObj "list" acc.toList.toArray 0)).get? h'.objs.size=some (seqObj "list" acc.toList.toArray 0):=fM _ rfl;refine aH (nM (o4 slot_list_sort ⟨_,qS,rfl⟩ entry_list_sort (list_sort_tree (s:={s with heap:=h'.push (seqObj "list" acc.toList.toArray 0),toks:=tk}) qS aR (by rw[aR.length];exact tL) λout pV a1 a2 qx=>⟨_,rfl,?_⟩) (args_list_sort _)));obtain⟨e,he⟩:=sortedHeap_at (vs:=acc.toList) (out:=out) qS;have bu:∀b o,s.heap.get? b=some o->(sortedHeap (h'.push (seqObj "list" acc.toList.toArray 0)) h'.objs.size acc.toList out).get? b=some o:=λb o q=>by have er:=aw b o q;have cO:=dc er;rw[sortedHeap_old (e8 cO) (by rw[size_push'];exact l_ cO)];exact dx _ er
 have hle:s.heap.get? h'.objs.size=none:=by
  cases e:s.heap.get? h'.objs.size with
  |none=>rfl
  |some o=>exact absurd (dc (aw _ _ e)) (o2 _)
 have d2:(pV.map V.int).length<=sizeLine:=by rw[cc,a2.length_eq,<-FX];exact z
 exact bp ⟨_,rfl,.ref h'.objs.size,_,J.GJ (o:=.lst (pV.map V.int)) (t':=tk) bu hle ⟨d2,out.toList,e,RR a1,by simpa using he⟩,rfl,q pV _ a2 qx (J.ba.free hle)⟩
def yc (K:PySem.W.Frag)(d:U)(ps:List (Int×Int)):Bool:=match K.lookup d with
 |some ⟨.type "dict",none,.dict es _,bh⟩=>bh.isEmpty&&es.toList.length==ps.length&&(es.toList.zip ps).all λq=>q.1.hash==hashInt q.2.1&&Value.isInt q.2.1 q.1.key&&Value.isInt q.2.2 q.1.val
 |_=>false
theorem MH:∀(es:List kU) (ps:List (Int×Int)),es.length=ps.length->(∀q∈es.zip ps,q.1.hash=hashInt q.2.1/\Value.isInt q.2.1 q.1.key=true/\Value.isInt q.2.2 q.1.val=true)->
  Pairs (PySem.intKind P w) es ((es.zip ps).map λq=>(q.2.1,q.1.val))/\(∀e∈es,∃k,Value.isInt k e.key=true/\e.hash=hashInt k)
 |[],[],_,_=>⟨by first|exact .nil|trivial|simp[Pairs],λe he=>by simp at he⟩
 |[],_::_,h,_=>by simp at h
 |_::_,[],h,_=>by simp at h
 |e::es,p::ps,h,k=>by
  obtain⟨aa,ac⟩:=MH (P:=P) (w:=w) es ps (by simpa using h) λq az=>k q (by rw[nJ];exact d7 _ az);obtain⟨cP,bX,dX⟩:=k (e,p) (by rw[nJ];exact dW ..);refine⟨by rw[nJ,ck];exact .cons bX rfl aa,λbV he=>?_⟩;rcases cr.mp he with z|z
  ·rw[z];exact⟨p.1,bX,cP⟩
  ·exact ac bV z
theorem MJ:∀(es:List kU) (ps:List (Int×Int)),es.length=ps.length->((es.zip ps).map λq=>(q.2.1,q.1.val)).map (·.1)=ps.map (·.1)
 |[],[],_=>rfl
 |[],_::_,h=>by simp at h
 |_::_,[],h=>by simp at h
 |e::es,p::ps,h=>by rw[nJ,ck,ck,ck,MJ es ps (by simpa using h)]
theorem MI:∀(es:List kU) (ps:List (Int×Int)) (i v:Int),es.length=ps.length->(∀q∈es.zip ps,Value.isInt q.2.2 q.1.val=true)->ps.lookup i=some v->∃t,valueAt ((es.zip ps).map λq=>(q.2.1,q.1.val)) i=some (.int v t)
 |[],[],_,_,_,_,h=>by simp at h
 |[],_::_,_,_,h,_,_=>by simp at h
 |_::_,[],_,_,h,_,_=>by simp at h
 |e::es,p::ps,i,v,h,k,aC=>by
  by_cases z:p.1=i
  ·have ht:v=p.2:=by simp only[List.lookup,z,beq_self_eq_true] at aC;exact(dZ aC).symm
   have dX:=k (e,p) (by rw[nJ];exact dW ..);obtain⟨t,h3⟩:=Value.isInt_shape (k:=p.2) (v:=e.val) dX;refine⟨t,?_⟩;rw[nJ,ck];simp[valueAt,i',z,h3,ht]
  ·have ht:ps.lookup i=some v:=by have:(i==p.1)=false:=ru.mpr (gL z);simpa[List.lookup,this] using aC
   obtain⟨t,bY⟩:=MI es ps i v (by simpa using h) (λq az=>k q (by rw[nJ];exact d7 _ az)) ht;refine⟨t,?_⟩;rw[<-bY,nJ,ck];simp[valueAt,i',z]
def Wk {K:PySem.W.Frag}{h:a5}{ps:List (Int×Int)}(X:K.In h)(g:yc K d ps=true)(ak:(ps.map (·.1)).Nodup):
  ∃kvs:List (Int×af),h.DictOf (PySem.intKind P w) d kvs/\∀i v,ps.lookup i=some v->∃t,valueAt kvs i=some (.int v t):=by
 unfold yc at g;split at g
 ·rename_i es ep bh aI
  rw[d6,d6] at g;obtain⟨⟨g1,g2⟩,g3⟩:=g;have aC:es.toList.length=ps.length:=by simpa using g2
  have fk:∀q∈es.toList.zip ps,q.1.hash=hashInt q.2.1/\Value.isInt q.2.1 q.1.key=true/\Value.isInt q.2.2 q.1.val=true:=λq az=>by have:=sY.mp g3 q az;rw[d6,d6] at this;exact⟨by simpa using this.1.1,this.1.2,this.2⟩
  obtain⟨aa,ac⟩:=MH (P:=P) (w:=w) es.toList ps aC fk;have se:bh=#[]:=by simpa using g1
  refine⟨_,⟨_,es,ep,X _ _ aI,⟨rfl,rfl,se⟩,rfl,λe he=>ac e (by simpa using he),aa,by rw[MJ _ _ aC];exact ak⟩,λi v bx=>MI es.toList ps i v aC (λq az=>(fk q az).2.2) bx⟩
 ·cases g
def adj (K:PySem.W.Frag):dt:=λx y H Q=>∃(d:U) (ps:List (Int×Int)) (i v:Int),x=.ref d/\yc K d ps=true/\(ps.map (·.1)).Nodup/\y=.int i/\ps.lookup i=some v/\Q (.int v) H
def ZB {X:bq}:rE X (adj X.K):=by intro value slice pins s σ H x y v u Q J bG bB h aD;obtain⟨d,ps,i,z,rfl,bK,ak,rfl,hz,q⟩:=h;cases bG;obtain⟨t,rfl⟩:=bB;obtain⟨kvs,b4,bx⟩:=Wk (P:=X.prog) (w:=X.w) J.gv bK ak;obtain⟨fV,bY⟩:=bx i z hz;exact tail_any b4.typeIs PySem.F.slot_dict_getitem.lookup (wpAny_getItem_of (knd:=PySem.intKind X.prog X.w) (k:=i) (by simp[PySem.intKind,Value.isInt]) b4.mapOf bY ⟨.int z,H,J.tok _,⟨_,rfl⟩,q⟩) aD
end aB
namespace aU
open Sty
def h2:Nat->Nat->Bytes->Read Nat
 |v,k,c::r=>if isDigit c=true then(if v≠0/\10 * v+(c.toNat - 48) < BIG then h2 (10 * v+(c.toNat - 48)) (k+1) r else .error k) else .ok (v,k)
 |v,k,[]=>.ok (v,k)
def lg (t:Bytes):Read Nat:=match t with
 |c::r=>if isDigit c=true then h2 (c.toNat - 48) 1 r else .error 0
 |[]=>.error 0
def dig (t:Bytes):Prop:=∃c r,t=c::r/\isDigit c=true
def iR (x fW:Read α)(t:Bytes):Prop:=fW=x\/∃k a,fW=.error k/\x=.ok (a,k)/\dig (t.drop k)
theorem Le:∀(r:Bytes) (v k:Nat),v≠0->h2 v k r=digits v k r
 |[],v,k,_=>by simp[digits,h2]
 |c::r,v,k,bx=>by
  unfold digits h2;by_cases ai:isDigit c=true
  ·rw[aV ai,aV ai];by_cases I:BIG<=10 * v+(c.toNat - 48)
   ·rw[aN (by omega)];simp only;rw[aV I]
   ·rw[aV ⟨bx,by omega⟩];simp only;rw[aN I];exact Le r _ _ (by omega)
  ·rw[aN ai,aN ai]
def vg {c:UInt8}(h:isDigit c=true):48<=c.toNat/\c.toNat<=57:=by unfold isDigit at h;simp only[d6,mb] at h;exact h
def Ul {c:UInt8}(h:c.toNat=48):c=48:=by have:c.toNat=(48:UInt8).toNat:=h;exact UInt8.toNat_inj.mp this
def abu (c:UInt8)(r:Bytes):number (c::r)=if isDigit c=false then .error 0 else if c=48 then .ok (0,1) else digits (c.toNat - 48) 1 r:=rfl
def Cm (c:UInt8)(r:Bytes):lg (c::r)=if isDigit c=true then h2 (c.toNat - 48) 1 r else .error 0:=rfl
def PF (t:Bytes):iR (number t) (lg t) t:=by
 cases t with
 |nil=>exact .inl rfl
 |cons c r=>
  rw[abu,Cm];by_cases ai:isDigit c=true
  ·rw[aV ai,aN (by rw[ai];decide)];by_cases h0:c=48
   ·subst h0;rw[aV rfl];cases r with
    |nil=>exact .inl rfl
    |cons d q=>
     by_cases hd:isDigit d=true
     ·refine .inr ⟨1,0,?_,rfl,d,q,rfl,hd⟩;unfold h2;rw[aV hd,aN (by intro z;exact z.1 rfl)]
     ·refine .inl ?_;unfold h2;rw[aN hd];rfl
   ·rw[aN h0];refine .inl (Le r _ _ ?_);have:=vg ai;intro e;exact h0 (Ul (by omega))
  ·rw[aN ai,aV (by simpa using ai)];exact .inl rfl
def i7 (t:Bytes):Read Simple:=if t.head?=some 46 then(match lg t.tail with
  |.error k=>.error (1+k)
  |.ok (n,k)=>.ok (.cls n,1+k)) else oneOf COLON t
def oe (t:Bytes):Read Head:=if t.head?=some 42 then .ok (.any,1) else if(t.head?.any isDigit)=true then(match lg t with
  |.error k=>.error k
  |.ok (n,k)=>.ok (.tag n,k)) else .ok (.none_,0)
def Q3 (t:Bytes):simple t=if t.head?=some 46 then(match number t.tail with
  |.error k=>.error (1+k)
  |.ok (n,k)=>.ok (.cls n,1+k)) else oneOf COLON t:=by
 unfold simple;split
 ·rfl
 ·rename_i h
  rw[aN];intro e;cases t with
  |nil=>cases e
  |cons c r=>exact h r (by have:c=46:=(by simpa using e);rw[this])
def XY (t:Bytes):headIn t=if t.head?=some 42 then .ok (.any,1) else if(t.head?.any isDigit)=true then(match number t with
  |.error k=>.error k
  |.ok (n,k)=>.ok (.tag n,k)) else .ok (.none_,0):=by
 unfold headIn;split
 ·rfl
 ·rename_i c r h
  rw[aN (show ¬(c::r).head?=some 42 by intro e;exact h (by simpa using e))];rfl
 ·rfl
def many (one:Bytes->Read α)(r:Bytes):Read (List α):=manyOf one (r.length+1) r
def mL (t:Bytes):Read Plain:=then_ (oe t) t λ(h:Head) (r:Bytes)=>if h.isNone=true/\begins r=false then .error 0 else(many i7 r).map λ(x:List Simple×Nat)=>(⟨h,x.1⟩,x.2)
def A2 (p:Plain)(z:Bytes):Read Test:=match z with
 |41::_=>.ok (.isnt p,1)
 |_=>.error 0
def sR (t:Bytes):Read Test:=if NOT.isPrefixOf t=true then(then_ (.ok ((),NOT.length)) t λ(_:Unit) (r:Bytes)=>then_ (mL r) r A2)
 else match i7 t with
  |.ok (s,n)=>.ok (.is s,n)
  |.error k=>.error (if t.head?==some 46 then k else max k (agree NOT t))
def ny (t:Bytes):Read Kind:=then_ (oe t) t λ(h:Head) (r:Bytes)=>if h.isNone=true/\begins r=false then .error 0 else(many sR r).map λ(x:List Test×Nat)=>(⟨h,x.1⟩,x.2)
def mE:Nat->Bytes->Read (List (Link×Kind))
 |0,_=>.ok ([],0)
 |f+1,t=>match t.head?.bind linkOf with
  |none=>.ok ([],0)
  |some l=>then_ (.ok ((),1)) t λ(_:Unit) (r:Bytes)=>then_ (ny r) r λ(k:Kind) (q:Bytes)=>(mE f q).map λ(x:List (Link×Kind)×Nat)=>((l,k)::x.1,x.2)
def jm (t:Bytes):Read Chain:=then_ (ny t) t λ(k:Kind) (r:Bytes)=>(mE (r.length+1) r).map λ(x:List (Link×Kind)×Nat)=>(⟨k,x.1⟩,x.2)
def mj:Nat->Bytes->Read Selector
 |0,_=>.error 0
 |f+1,t=>then_ (jm t) t λ(c:Chain) (r:Bytes)=>match r with
  |[]=>.ok ([c],0)
  |44::q=>match mj f q with
   |.error k=>.error (1+k)
   |.ok (l,n)=>.ok (c::l,1+n)
  |_=>.error 0
def Qu (t:Bytes):Except Nat Selector:=(mj (t.length+1) t).map Prod.fst
def Tq (x:Read α):Prop:=(∃a,x=.ok (a,0))\/x=.error 0
def wH (ao:iR x fW t)(hf:∀a n,x=.ok (a,n)->iR (f a (t.drop n)) (f' a (t.drop n)) (t.drop n))
  (aD:∀a r,dig r->Tq (f a r)):iR (then_ x t f) (then_ fW t f') t:=by
 rcases ao with rfl|⟨k,a,rfl,rfl,hd⟩
 ·cases fW with
  |error k=>exact .inl rfl
  |ok y=>
   obtain⟨a,n⟩:=y;show iR (match f a (t.drop n) with|.error k=>.error (n+k)|.ok (b,m)=>.ok (b,n+m)) (match f' a (t.drop n) with|.error k=>.error (n+k)|.ok (b,m)=>.ok (b,n+m)) t;rcases hf a n rfl with e|⟨k,b,aE,aL,hd⟩
   ·rw[e];exact .inl rfl
   ·rw[aE,aL];exact .inr ⟨n+k,b,rfl,rfl,by rw[<-iJ];exact hd⟩
 ·show iR (match f a (t.drop k) with|.error j=>.error (k+j)|.ok (b,m)=>.ok (b,k+m)) (.error k) t;rcases aD a _ hd with⟨b,e⟩|e
  ·rw[e];exact .inr ⟨k,b,rfl,rfl,hd⟩
  ·rw[e];exact .inl rfl
def y' {x fW:Read α}{g:α->β}(ao:iR x fW t):iR (x.map λ(y:α×Nat)=>(g y.1,y.2)) (fW.map λ(y:α×Nat)=>(g y.1,y.2)) t:=by
 rcases ao with rfl|⟨k,a,rfl,rfl,hd⟩
 ·exact .inl rfl
 ·exact .inr ⟨k,g a,rfl,rfl,hd⟩
def A4 {c:UInt8}(h:dig r)(ai:isDigit c=false):r.head?≠some c:=by
 obtain⟨d,q,rfl,hd⟩:=h;intro e;have:d=c:=by simpa using e
 subst this;rw[hd] at ai;cases ai
def UW (h:dig r):begins r=false:=by unfold begins;have aa:=A4 (c:=46) h (by decide);have ac:=A4 (c:=58) h (by decide);simp[aa,ac]
def Q4 (t:Bytes):iR (simple t) (i7 t) t:=by
 rw[Q3];unfold i7;by_cases h:t.head?=some 46
 ·rw[aV h,aV h];rcases PF t.tail with e|⟨k,a,aE,aL,hd⟩
  ·rw[e];exact .inl rfl
  ·rw[aE,aL];refine .inr ⟨1+k,.cls a,rfl,rfl,?_⟩;rw[<-iJ,drop_one];exact hd
 ·rw[aN h,aN h];exact .inl rfl
def Nu (t:Bytes):iR (headIn t) (oe t) t:=by
 rw[XY];unfold oe;by_cases h:t.head?=some 42
 ·rw[aV h,aV h];exact .inl rfl
 ·rw[aN h,aN h];by_cases ai:(t.head?.any isDigit)=true
  ·rw[aV ai,aV ai];rcases PF t with e|⟨k,a,aE,aL,hd⟩
   ·rw[e];exact .inl rfl
   ·rw[aE,aL];exact .inr ⟨k,.tag a,rfl,rfl,hd⟩
  ·rw[aN ai,aN ai];exact .inl rfl
def GX (one:Bytes->Read α)(f:Nat)(h:dig r):manyOf one f r=.ok ([],0):=by
 cases f with
 |zero=>rfl
 |succ f=>unfold manyOf;rw[UW h];rfl
theorem GW {one PT:Bytes->Read α}(h:∀t,iR (one t) (PT t) t):∀(f:Nat) (t:Bytes),iR (manyOf one f t) (manyOf PT f t) t
 |0,_=>.inl rfl
 |f+1,t=>by
  unfold manyOf;by_cases I:begins t=true
  ·rw[aV I,aV I];refine wH (h t) (λa n _=>y' (g:=λl=>a::l) (GW h f _)) (λa r hd=>.inl ⟨[a],?_⟩);rw[GX one f hd];rfl
  ·rw[aN I,aN I];exact .inl rfl
def ac2 (t:Bytes):iR (plain t) (mL t) t:=by
 unfold plain mL;refine wH (Nu t) (λh n _=>?_) (λh r hd=>?_)
 ·split
  ·exact .inl rfl
  ·exact y' (g:=λl=>(⟨h,l⟩:Plain)) (GW Q4 _ _)
 ·split
  ·exact .inr rfl
  ·rw[GX _ _ hd];exact .inl ⟨_,rfl⟩
def mQ {n:Nat}(h:iR (f a (t.drop n)) (f' a (t.drop n)) (t.drop n)):iR (then_ (.ok (a,n)) t f) (then_ (.ok (a,n)) t f') t:=by
 show iR (match f a (t.drop n) with|.error k=>.error (n+k)|.ok (b,m)=>.ok (b,n+m)) (match f' a (t.drop n) with|.error k=>.error (n+k)|.ok (b,m)=>.ok (b,n+m)) t;rcases h with e|⟨k,b,aE,aL,hd⟩
 ·rw[e];exact .inl rfl
 ·rw[aE,aL];exact .inr ⟨n+k,b,rfl,rfl,by rw[<-iJ];exact hd⟩
def afu (t:Bytes):iR (test t) (sR t) t:=by
 unfold test sR;by_cases h:NOT.isPrefixOf t=true
 ·rw[aV h,aV h];refine mQ (wH (f':=A2) (ac2 _) (λ_ _ _=>.inl rfl) (λp r hd=>?_));split
  ·exact absurd rfl (A4 (c:=41) hd (by decide))
  ·exact .inr rfl
 ·rw[aN h,aN h];have aD:=Q4 t;by_cases oc:t.head?=some 46
  ·rcases aD with e|⟨k,a,aE,aL,hd⟩
   ·rw[e];exact .inl rfl
   ·rw[aE,aL];refine .inr ⟨k,.is a,?_,rfl,hd⟩;dsimp only;rw[aV (by rw[oc];rfl)]
  ·have e:i7 t=simple t:=by rw[Q3];unfold i7;rw[aN oc,aN oc]
   rw[e];exact .inl rfl
def Oz (t:Bytes):iR (kind t) (ny t) t:=by
 unfold kind ny;refine wH (Nu t) (λh n _=>?_) (λh r hd=>?_)
 ·split
  ·exact .inl rfl
  ·exact y' (g:=λl=>(⟨h,l⟩:Kind)) (GW afu _ _)
 ·split
  ·exact .inr rfl
  ·rw[GX _ _ hd];exact .inl ⟨_,rfl⟩
def UY (h:dig r):r.head?.bind linkOf=none:=by
 obtain⟨c,q,rfl,ai⟩:=h;have:=vg ai;show linkOf c=none;unfold linkOf;rw[aN,aN,aN,aN]
 all_goals (intro e;subst e;revert this;decide)
def OO (f:Nat)(h:dig r):links f r=.ok ([],0):=by
 cases f with
 |zero=>rfl
 |succ f=>unfold links;rw[UY h]
theorem ON:∀(f:Nat) (t:Bytes),iR (links f t) (mE f t) t
 |0,_=>.inl rfl
 |f+1,t=>by
  unfold links mE;cases aC:t.head?.bind linkOf with
  |none=>exact .inl rfl
  |some l=>dsimp only;refine mQ (wH (Oz _) (λk n _=>y' (g:=λx=>(l,k)::x) (ON f _)) (λk r hd=>.inl ⟨[(l,k)],?_⟩));rw[OO f hd];rfl
def Uy (t:Bytes):iR (chain t) (jm t) t:=by unfold chain jm;refine wH (Oz t) (λk n _=>y' (g:=λx=>(⟨k,x⟩:Chain)) (ON _ _)) (λk r hd=>.inl ⟨⟨k,[]⟩,?_⟩);rw[OO _ hd];rfl
def rest (next:Bytes->Read Selector)(c:Chain)(r:Bytes):Read Selector:=match r with
 |[]=>.ok ([c],0)
 |44::q=>match next q with
  |.error k=>.error (1+k)
  |.ok (l,n)=>.ok (c::l,1+n)
 |_=>.error 0
def adA (h:dig r):rest next c r=.error 0:=by
 unfold rest;split
 ·obtain⟨_,_,e,_⟩:=h;cases e
 ·exact absurd rfl (A4 (c:=44) h (by decide))
 ·rfl
theorem K1:∀(f:Nat) (t:Bytes),mj f t=chains f t
 |0,_=>rfl
 |f+1,t=>by
  show then_ (jm t) t (rest (mj f))=then_ (chain t) t (rest (chains f));have dF:mj f=chains f:=funext (K1 f);rw[dF];rcases Uy t with e|⟨k,a,aE,aL,hd⟩
  ·rw[e]
  ·rw[aE,aL];unfold then_;dsimp only;rw[adA hd];rfl
def adw (t:Bytes):Qu t=readSel t:=by unfold Qu readSel;rw[K1]
def pre (acc:List α)(k:Nat)(x:Read (List α)):Read (List α):=match x with
 |.error j=>.error (k+j)
 |.ok (l,n)=>.ok (acc++l,k+n)
def CB (x:Read (List α)):pre [] 0 x=x:=by
 unfold pre;split
 ·rw[uU]
 ·rw[uU];rfl
def u1 (one:Bytes->Read α):Prop:=∀t a n,one t=.ok (a,n)->1<=n
theorem OX (h:u1 one):∀(f g:Nat) (r:Bytes),r.length < f->r.length < g->manyOf one f r=manyOf one g r
 |0,_,_,hf,_=>by omega
 |_,0,_,_,bK=>by omega
 |f+1,g+1,r,hf,bK=>by
  unfold manyOf;by_cases I:begins r=true
  ·rw[aV I,aV I];cases e:one r with
   |error k=>rfl
   |ok x=>
    obtain⟨a,n⟩:=x;have ak:=h r a n e;have au:r≠[]:=by intro z;subst z;revert I;decide
    have aC:(r.drop n).length < r.length:=by rw[ja];have:0 < r.length:=uQ.mpr au;omega
    unfold then_;dsimp only;rw[OX h f g (r.drop n) (by omega) (by omega)]
  ·rw[aN I,aN I]
section
variable {k n:Nat}{j:Nat}
def GV (I:begins r=false):many one r=.ok ([],0):=by unfold many manyOf;rw[I];rfl
def OW (I:begins r=true)(e:one r=.error j):many one r=.error j:=by unfold many manyOf;rw[aV I,e];rfl
def OY (h:u1 one)(I:begins r=true)(e:one r=.ok (a,n)):many one r=pre [a] n (many one (r.drop n)):=by
 have ak:=h r a n e;have au:r≠[]:=by intro z;subst z;revert I;decide
 have am:0 < r.length:=uQ.mpr au
 conv=>lhs;unfold many manyOf
 rw[aV I,e];unfold then_;dsimp only;have aL:manyOf one r.length (r.drop n)=many one (r.drop n):=OX h _ _ _ (by rw[ja];omega) (by omega);rw[aL];cases many one (r.drop n) with
 |error q=>rfl
 |ok q=>rfl
def HK {m:Nat}:pre acc k (pre l m x)=pre (acc++l) (k+m) x:=by
 cases x with
 |error q=>show Except.error (k+(m+q))=Except.error (k+m+q);rw[kQ]
 |ok q=>show Except.ok (acc++(l++q.1),k+(m+q.2))=Except.ok (acc++l++q.1,k+m+q.2);rw[wP,kQ]
end
def i8 (inner:Bool)(t:Bytes):Read Test:=if inner=true then(i7 t).map λ(x:Simple×Nat)=>(.is x.1,x.2) else sR t
def t8 (inner:Bool)(t:Bytes):Read Kind:=then_ (oe t) t λ(h:Head) (r:Bytes)=>if h.isNone=true/\begins r=false then .error 0 else(many (i8 inner) r).map λ(x:List Test×Nat)=>(⟨h,x.1⟩,x.2)
def BV (t:Bytes):t8 false t=ny t:=rfl
def sm:(Except.ok a:Except Nat α).map f=.ok (f a):=rfl
def aat (f:Nat):∀r:Bytes,manyOf (i8 true) f r=(manyOf i7 f r).map λ(x:List Simple×Nat)=>(x.1.map Test.is,x.2):=by
 induction f with
 |zero=>intro r;rfl
 |succ f bE=>
  intro r;unfold manyOf;by_cases I:begins r=true
  ·rw[aV I,aV I];have aE:i8 true r=(i7 r).map λ(x:Simple×Nat)=>(Test.is x.1,x.2):=rfl;rw[aE];cases i7 r with
   |error k=>rfl
   |ok x=>
    obtain⟨a,n⟩:=x;rw[sm];unfold then_;dsimp only;rw[bE];cases manyOf i7 f (r.drop n) with
    |error q=>rfl
    |ok q=>rfl
  ·rw[aN I,aN I];rfl
def n4 (p:Plain):Kind:=⟨p.head,p.tests.map Test.is⟩
def Oy (t:Bytes):t8 true t=(mL t).map λ(x:Plain×Nat)=>(n4 x.1,x.2):=by
 unfold t8 mL;cases oe t with
 |error k=>rfl
 |ok x=>
  obtain⟨h,n⟩:=x;unfold then_;dsimp only;by_cases ai:h.isNone=true/\begins (t.drop n)=false
  ·rw[aV ai,aV ai];rfl
  ·rw[aN ai,aN ai];unfold many;rw[aat];cases manyOf i7 ((t.drop n).length+1) (t.drop n) with
   |error q=>rfl
   |ok q=>rfl
def K3:COLON=[([58,102,105,114,115,116],.first),([58,108,97,115,116],.last),([58,101,109,112,116,121],.empty)]:=by rfl
def v9:NOT=[58,110,111,116,40]:=by rfl
def WF:Bytes:=[102,105,114,115,116]
def n3:Bytes:=[108,97,115,116]
def n2:Bytes:=[101,109,112,116,121]
def kq:Bytes:=[110,111,116,40]
def jx (w r:Bytes):Read Unit:=if w.isPrefixOf r=true then .ok ((),w.length) else .error (agree w r)
def acs (r:Bytes):oneOf COLON (58::r)=if WF.isPrefixOf r=true then .ok (.first,6) else if n3.isPrefixOf r=true then .ok (.last,5) else if n2.isPrefixOf r=true then .ok (.empty,6)
  else .error (max (max (agree WF r) (agree n3 r)) (agree n2 r)+1):=by
 rw[K3];unfold oneOf;have aE:isPrefixOf [58,102,105,114,115,116] (58::r)=WF.isPrefixOf r:=by simp[isPrefixOf,WF]
 have aL:isPrefixOf [58,108,97,115,116] (58::r)=n3.isPrefixOf r:=by simp[isPrefixOf,n3]
 have bI:isPrefixOf [58,101,109,112,116,121] (58::r)=n2.isPrefixOf r:=by simp[isPrefixOf,n2]
 have a1:agree [58,102,105,114,115,116] (58::r)=agree WF r+1:=by simp[agree,WF]
 have a2:agree [58,108,97,115,116] (58::r)=agree n3 r+1:=by simp[agree,n3]
 have qx:agree [58,101,109,112,116,121] (58::r)=agree n2 r+1:=by simp[agree,n2]
 simp only[List.find?,aE,aL,bI,List.map,a1,a2,qx,List.foldl];cases WF.isPrefixOf r<;>cases n3.isPrefixOf r<;>cases n2.isPrefixOf r<;>simp<;>omega
def TG (h:∀c q v,r=c::q->w.head?=some v->v≠c):agree w r=0:=by
 cases w with
 |nil=>rfl
 |cons v w=>
  cases r with
  |nil=>rfl
  |cons c q=>unfold agree;rw[aN (h c q v rfl rfl)]
def mM {w r:Bytes}{v:UInt8}(hw:w.head?=some v)(h:r.head?≠some v):w.isPrefixOf r=false:=by
 cases w with
 |nil=>cases hw
 |cons u w=>
  have:u=v:=by simpa using hw
  subst this;cases r with
  |nil=>rfl
  |cons c q=>
   have:¬c=u:=by simpa using h
   simp[isPrefixOf];intro z;exact absurd z.symm this
def m' {v:UInt8}(hw:w.head?=some v)(h:r.head?≠some v):agree w r=0:=TG λc q u e aL=>by subst e;rw[hw] at aL;cases aL;intro z;subst z;exact h rfl
def oW (inner:Bool)(r:Bytes):Read Test:=
 if r.head?=some 102 then(jx WF r).map λ(x:Unit×Nat)=>(.is .first,x.2)
 else if r.head?=some 108 then(jx n3 r).map λ(x:Unit×Nat)=>(.is .last,x.2)
 else if r.head?=some 101 then(jx n2 r).map λ(x:Unit×Nat)=>(.is .empty,x.2)
 else if inner=true then .error 0
 else then_ (jx kq r) r λ(_:Unit) (q:Bytes)=>then_ (mL q) q λ(p:Plain) (z:Bytes)=>if z.head?=some 41 then .ok (.isnt p,1) else .error 0
def kL (x:Read α):Read α:=match x with
 |.error k=>.error (1+k)
 |.ok (a,n)=>.ok (a,1+n)
def aes (r:Bytes):i7 (58::r)=oneOf COLON (58::r):=by unfold i7;rw[aN (by simp)]
def abi (r:Bytes):NOT.isPrefixOf (58::r)=kq.isPrefixOf r:=by rw[v9];simp[isPrefixOf,kq]
def abh (r:Bytes):agree NOT (58::r)=agree kq r+1:=by rw[v9];simp[agree,kq]
def UA (p:Plain)(z:Bytes):A2 p z=if z.head?=some 41 then .ok (.isnt p,1) else .error 0:=by
 unfold A2;split
 ·rfl
 ·rename_i h
  rw[aN];intro e;cases z with
  |nil=>cases e
  |cons c r=>
   have:c=41:=by simpa using e
   subst this;exact h r rfl
def af0 (inner:Bool)(r:Bytes):i8 inner (58::r)=kL (oW inner r):=by
 have eQ:WF.head?=some 102:=rfl;have cT:n3.head?=some 108:=rfl;have fx:n2.head?=some 101:=rfl;have c6:kq.head?=some 110:=rfl;unfold i8 sR oW;rw[aes,acs,abi,abh];by_cases aa:r.head?=some 102
 ·have eW:r.head?≠some 108:=by rw[aa];decide
  have gI:r.head?≠some 101:=by rw[aa];decide
  have lb:r.head?≠some 110:=by rw[aa];decide
  rw[aV aa,mM cT eW,mM fx gI,mM c6 lb,m' cT eW,m' fx gI,m' c6 lb];unfold jx;cases am:WF.isPrefixOf r<;>cases inner<;>simp[kL,Except.map]<;>first|rfl|omega
 ·by_cases ac:r.head?=some 108
  ·have gI:r.head?≠some 101:=by rw[ac];decide
   have lb:r.head?≠some 110:=by rw[ac];decide
   rw[aN aa,aV ac,mM eQ aa,mM fx gI,mM c6 lb,m' eQ aa,m' fx gI,m' c6 lb];unfold jx;cases am:n3.isPrefixOf r<;>cases inner<;>simp[kL,Except.map]<;>first|rfl|omega
  ·by_cases av:r.head?=some 101
   ·have lb:r.head?≠some 110:=by rw[av];decide
    rw[aN aa,aN ac,aV av,mM eQ aa,mM cT ac,mM c6 lb,m' eQ aa,m' cT ac,m' c6 lb];unfold jx;cases am:n2.isPrefixOf r<;>cases inner<;>simp[kL,Except.map]<;>first|rfl|omega
   ·rw[aN aa,aN ac,aN av,mM eQ aa,mM cT ac,mM fx av,m' eQ aa,m' cT ac,m' fx av];cases inner with
    |true=>simp[kL,Except.map]
    |false=>
     simp only[gK,fX];unfold jx;cases am:kq.isPrefixOf r with
     |false=>simp[kL,then_];omega
     |true=>
      simp only[jY];unfold then_;have f5:(58::r).drop NOT.length=r.drop kq.length:=by rw[v9];rfl
      have tE:NOT.length=5:=by rw[v9];rfl
      have iv:kq.length=4:=rfl;dsimp only;rw[f5];cases mL (r.drop kq.length) with
      |error k=>simp[kL,tE,iv];omega
      |ok x=>
       obtain⟨p,n⟩:=x;dsimp only;have n_:=UA p ((r.drop kq.length).drop n);rw[n_];by_cases ai:((r.drop kq.length).drop n).head?=some 41
       ·rw[aV ai];simp[kL,tE,iv];omega
       ·rw[aN ai];simp[kL,tE,iv];omega
def Kt:u1 i7:=λt a n e=>by
 unfold i7 at e;by_cases h:t.head?=some 46
 ·rw[aV h] at e;split at e
  ·cases e
  ·cases e;omega
 ·rw[aN h] at e;unfold oneOf at e;split at e
  ·rename_i x ao
   have hm:=s9 ao;cases e;rw[K3] at hm;simp only[cr,List.not_mem_nil,or_false] at hm;rcases hm with rfl|rfl|rfl<;>decide
  ·cases e
def afw {n:Nat}(e:then_ x t f=.ok (b,n)):∃a m k,x=.ok (a,m)/\f a (t.drop m)=.ok (b,k)/\n=m+k:=by
 unfold then_ at e;split at e
 ·cases e
 ·rename_i a m
  split at e
  ·cases e
  ·rename_i n5 k hf
   cases e;exact⟨a,m,k,rfl,hf,rfl⟩
def Tz:u1 sR:=λt a n e=>by
 unfold sR at e;by_cases h:NOT.isPrefixOf t=true
 ·rw[aV h] at e;obtain⟨_,m,k,aE,_,bI⟩:=afw e;cases aE;have:NOT.length=5:=by rw[v9];rfl
  omega
 ·rw[aN h] at e;split at e
  ·rename_i s m aD
   cases e;exact Kt t s n aD
  ·cases e
def Ev (inner:Bool):u1 (i8 inner):=λt a n e=>by
 cases inner with
 |false=>exact Tz t a n e
 |true=>
  have aE:i8 true t=(i7 t).map λ(x:Simple×Nat)=>(Test.is x.1,x.2):=rfl;rw[aE] at e;cases aD:i7 t with
  |error k=>rw[aD] at e;cases e
  |ok x=>rw[aD] at e;cases e;exact Kt t x.1 x.2 aD
def ED (r:Bytes):begins r=true↔r.head?=some 46\/r.head?=some 58:=by unfold begins;simp
def afr (inner:Bool)(r:Bytes)(h:r.head?=some 46):i8 inner r=match lg r.tail with
  |.error k=>.error (1+k)
  |.ok (n,k)=>.ok (.is (.cls n),1+k):=by
 have aD:i7 r=match lg r.tail with
  |.error k=>.error (1+k)
  |.ok (n,k)=>.ok (.cls n,1+k):=by
  unfold i7;rw[aV h];try rfl
 unfold i8;cases inner with
 |true=>
  rw[aV rfl,aD];cases lg r.tail with
  |error k=>rfl
  |ok x=>rfl
 |false=>
  rw[aN (by decide)];unfold sR;have ak:NOT.isPrefixOf r=false:=by refine mM (v:=58) (by rw[v9];rfl) ?_;rw[h];decide
  rw[ak,aD];cases lg r.tail with
  |error k=>simp[h]
  |ok x=>simp
def afq (inner:Bool)(r:Bytes)(h:r.head?=some 58):i8 inner r=kL (oW inner r.tail):=by
 cases r with
 |nil=>cases h
 |cons c q=>
  have:c=58:=by simpa using h
  subst this;exact af0 inner q
def dD (r:Bytes):Read (List (Link×Kind)):=mE (r.length+1) r
theorem OL:∀(f g:Nat) (r:Bytes),r.length < f->r.length < g->mE f r=mE g r
 |0,_,_,hf,_=>by omega
 |_,0,_,_,bK=>by omega
 |f+1,g+1,r,hf,bK=>by
  unfold mE;cases aC:r.head?.bind linkOf with
  |none=>rfl
  |some l=>
   dsimp only;have au:r≠[]:=by intro z;subst z;cases aC
   have am:0 < r.length:=uQ.mpr au;unfold then_;dsimp only;cases ny (r.drop 1) with
   |error k=>rfl
   |ok x=>obtain⟨k,n⟩:=x;dsimp only;rw[OL f g ((r.drop 1).drop n) (by rw[ja,ja];omega) (by rw[ja,ja];omega)]
def Z' (h:r.head?.bind linkOf=none):dD r=.ok ([],0):=by unfold dD mE;rw[h]
def Z_ {j:Nat}(h:r.head?.bind linkOf=some l)(e:ny (r.drop 1)=.error j):dD r=.error (1+j):=by unfold dD mE;rw[h];dsimp only;unfold then_;dsimp only;rw[e]
def aaa {n:Nat}(h:r.head?.bind linkOf=some l)(e:ny (r.drop 1)=.ok (k,n)):dD r=pre [(l,k)] (1+n) (dD (r.drop (1+n))):=by
 have au:r≠[]:=by intro z;subst z;cases h
 have am:0 < r.length:=uQ.mpr au
 conv=>lhs;unfold dD mE
 rw[h];dsimp only;unfold then_;dsimp only;rw[e];dsimp only;have aL:mE r.length ((r.drop 1).drop n)=dD (r.drop (1+n)):=by rw[iJ];exact OL _ _ _ (by rw[ja];omega) (by omega)
 rw[aL];cases dD (r.drop (1+n)) with
 |error q=>show Except.error (1+(n+q))=Except.error (1+n+q);rw[kQ]
 |ok q=>show Except.ok ((l,k)::q.1,1+(n+q.2))=Except.ok ([(l,k)]++q.1,1+n+q.2);rw[kQ];rfl
def Uv {j:Nat}(e:ny t=.error j):jm t=.error j:=by unfold jm;rw[e];rfl
def Ux {n:Nat}(e:ny t=.ok (k,n)):jm t=match dD (t.drop n) with
  |.error j=>.error (n+j)
  |.ok (l,m)=>.ok (⟨k,l⟩,n+m):=by
 unfold jm;rw[e];unfold then_;dsimp only;have:mE ((t.drop n).length+1) (t.drop n)=dD (t.drop n):=rfl;rw[this];cases dD (t.drop n) with
 |error q=>rfl
 |ok q=>rfl
def sel (t:Bytes):Read Selector:=mj (t.length+1) t
def after (r:Bytes):Read Selector:=if r=[] then .ok ([],0) else if r.head?=some 44 then kL (sel r.tail) else .error 0
def HX (next:Bytes->Read Selector)(c:Chain)(r:Bytes):rest next c r=pre [c] 0 (if r=[] then .ok ([],0) else if r.head?=some 44 then kL (next r.tail) else .error 0):=by
 unfold rest;split
 ·rfl
 ·rename_i q
  rw[aN (by simp),aV (show(44::q).head?=some 44 from rfl)];show _=pre [c] 0 (kL (next q));cases next q with
  |error k=>simp[pre,kL]
  |ok x=>simp[pre,kL]
 ·rename_i aa ac
  cases r with
  |nil=>exact absurd rfl aa
  |cons d q=>
   rw[aN (by simp),aN]
   ·rfl
   ·intro e;have:d=44:=by simpa using e
    subst this;exact ac q rfl
theorem KZ:∀(f g:Nat) (t:Bytes),t.length < f->t.length < g->mj f t=mj g t
 |0,_,_,hf,_=>by omega
 |_,0,_,_,bK=>by omega
 |f+1,g+1,t,hf,bK=>by
  show then_ (jm t) t (rest (mj f))=then_ (jm t) t (rest (mj g));cases jm t with
  |error k=>rfl
  |ok x=>
   obtain⟨c,n⟩:=x;unfold then_;dsimp only;rw[HX,HX];by_cases aa:t.drop n=[]
   ·rw[aV aa,aV aa]
   ·rw[aN aa,aN aa];have am:0 < (t.drop n).length:=uQ.mpr aa;have aC:(t.drop n).length<=t.length:=by rw[ja];omega
    rw[KZ f g (t.drop n).tail (by rw[length_tail];omega) (by rw[length_tail];omega)]
def Ij (t:Bytes):sel t=match jm t with
  |.error j=>.error j
  |.ok (c,n)=>pre [c] n (after (t.drop n)):=by
 have dF:sel t=then_ (jm t) t (rest (mj t.length)):=rfl;rw[dF];cases jm t with
 |error k=>rfl
 |ok x=>
  obtain⟨c,n⟩:=x;unfold then_;dsimp only;rw[HX];have aE:(if t.drop n=[] then(.ok ([],0):Read Selector) else if(t.drop n).head?=some 44 then kL (mj t.length (t.drop n).tail) else .error 0)=after (t.drop n):=by
   unfold after;by_cases aa:t.drop n=[]
   ·rw[aV aa,aV aa]
   ·rw[aN aa,aN aa];have am:0 < (t.drop n).length:=uQ.mpr aa;have aC:(t.drop n).length<=t.length:=by rw[ja];omega
    have:mj t.length (t.drop n).tail=sel (t.drop n).tail:=KZ _ _ _ (by rw[length_tail];omega) (by omega);rw[this]
  rw[aE];cases after (t.drop n) with
  |error q=>show Except.error (n+(0+q))=Except.error (n+q);rw[uU]
  |ok q=>show Except.ok ([c]++q.1,n+(0+q.2))=Except.ok ([c]++q.1,n+q.2);rw[uU]
def TC:after []=.ok ([],0):=rfl
def TA (aa:r≠[])(ac:r.head?≠some 44):after r=.error 0:=by unfold after;rw[aN aa,aN ac]
def TB {j:Nat}(h:r.head?=some 44)(e:jm (r.drop 1)=.error j):after r=.error (1+j):=by
 have au:r≠[]:=by intro z;subst z;cases h
 unfold after;rw[aN au,aV h,Ij,<-drop_one,e];rfl
def TF {n:Nat}(h:r.head?=some 44)(e:jm (r.drop 1)=.ok (c,n)):after r=pre [c] (1+n) (after (r.drop (1+n))):=by
 have au:r≠[]:=by intro z;subst z;cases h
 conv=>lhs;unfold after
 rw[aN au,aV h,Ij,<-drop_one,e];dsimp only;rw[iJ];cases after (r.drop (1+n)) with
 |error q=>show Except.error (1+(n+q))=Except.error (1+n+q);rw[kQ]
 |ok q=>show Except.ok ([c]++q.1,1+(n+q.2))=Except.ok ([c]++q.1,1+n+q.2);rw[kQ]
def Qv (t:Bytes):readSel t=(sel t).map Prod.fst:=by rw[<-adw];rfl
theorem digits_le:∀(r:Bytes) (v k u n:Nat),h2 v k r=.ok (u,n)->k<=n/\n<=k+r.length
 |[],v,k,u,n,e=>by unfold h2 at e;cases e;exact⟨b5 _,b5 _⟩
 |c::r,v,k,u,n,e=>by
  unfold h2 at e;split at e
  ·split at e
   ·have:=digits_le r _ _ _ _ e;rw[fK];omega
   ·cases e
  ·cases e;exact⟨b5 _,s_ _ _⟩
end aU
namespace Tm
open Sty
structure bD (W:State):Prop where
 root:∃t cs r,W.nodes=⟨0,0,t,cs⟩::r
 nd:(W.nodes.map (·.id)).Nodup
 par:∀pre n post,W.nodes=pre++n::post->pre≠[]->n.parent≠n.id/\n.parent∈pre.map (·.id)
 lt:∀n∈W.nodes,n.id < 128
 cls:∀n∈W.nodes,n.classes.Nodup/\n.classes.length<=16
def ids (W:State):List Nat:=W.nodes.map (·.id)
def kC (W:State)(x:Nat):Nat:=(ids W).idxOf x
def gy {x:Nat}:x∈ids W↔∃n∈W.nodes,n.id=x:=by unfold ids;rw[dp]
def VC {l:List Node}(nd:(l.map (·.id)).Nodup){n:Node}(h:n∈l):l.find? (λm=>m.id==n.id)=some n:=by
 induction l with
 |nil=>simp at h
 |cons a l bE=>
  rw[ck,hk] at nd;rw[i'];rcases cr.mp h with rfl|h
  ·simp
  ·have:a.id≠n.id:=λz=>nd.1 (by rw[z];exact o1 h);rw[show(a.id==n.id)=false by simpa using this];exact bE nd.2 h
def bD.jy {W:State}(w:bD W){n:Node}(h:n∈W.nodes):node W n.id=some n:=VC w.nd h
def ra {x:Nat}(h:node W x=some n):n∈W.nodes/\n.id=x:=by unfold node at h;exact⟨s9 h,by simpa using find?_some h⟩
def Ch {x:Nat}:node W x=none↔x∉ids W:=by
 unfold node;rw[sZ,gy];constructor
 ·rintro h ⟨n,aa,ac⟩;exact h n aa (by simpa using ac)
 ·intro h n aa ac;exact h ⟨n,aa,by simpa using ac⟩
def bD.inj (w:bD W)(h:n∈W.nodes)(h':m∈W.nodes)(e:n.id=m.id):n=m:=by have a:=w.jy h;rw[e,w.jy h'] at a;exact(dZ a).symm
def bD.zero (w:bD W):0∈ids W:=by obtain⟨t,cs,r,e⟩:=w.root;unfold ids;rw[e];simp
def bD.uC (w:bD W)(h:n∈W.nodes):n.parent=n.id↔n.id=0:=by
 obtain⟨t,cs,r,e⟩:=w.root;constructor
 ·intro z;obtain⟨pre,post,bV⟩:=rq h;by_cases am:pre=[]
  ·rw[am,uT,e] at bV;injection bV with aE _;rw[<-aE]
  ·exact absurd z (w.par pre n post bV am).1
 ·intro z;have:n=⟨0,0,t,cs⟩:=w.inj h (by rw[e];simp) z;rw[this]
def bD.uv (w:bD W)(h:n∈W.nodes):n.parent∈ids W:=by
 obtain⟨pre,post,bV⟩:=rq h;by_cases am:pre=[]
 ·obtain⟨t,cs,r,e⟩:=w.root;rw[am,uT,e] at bV;injection bV with aE _;rw[<-aE];exact w.zero
 ·have:=(w.par pre n post bV am).2;unfold ids;rw[bV,hi];exact lw _ this
def bD.uu (w:bD W)(h:n∈W.nodes)(ak:n.parent≠n.id):kC W n.parent < kC W n.id:=by
 obtain⟨pre,post,bV⟩:=rq h;have am:pre≠[]:=λz=>by obtain⟨t,cs,r,e⟩:=w.root;rw[z,uT,e] at bV;injection bV with aE _;rw[<-aE] at ak;exact ak rfl
 have hm:=(w.par pre n post bV am).2;have fz:=w.nd;rw[bV,hi,ck,jb] at fz;have F7:n.id∉pre.map (·.id):=λz=>fz.2.2 _ z _ (dW ..) rfl;unfold kC ids;rw[bV,hi,ck,List.idxOf_append,List.idxOf_append,aV hm,aN F7];have:=List.idxOf_lt_length_iff.mpr hm;omega
def BR {x:Nat}(h:x∈ids W):kC W x < W.nodes.length:=by have:=List.idxOf_lt_length_iff.mpr h;unfold ids at this;rw[cc] at this;exact this
def mG {x c:Nat}:c∈children W x↔∃n∈W.nodes,n.id=c/\n.parent=x/\c≠x:=by
 unfold children;rw[dp];constructor
 ·rintro⟨n,h,rfl⟩;rw[hj] at h;obtain⟨aa,ac⟩:=h;rw[d6] at ac;exact⟨n,aa,rfl,by simpa using ac.1,by simpa using ac.2⟩
 ·rintro⟨n,aa,rfl,ac,av⟩;exact⟨n,hj.mpr ⟨aa,by rw[d6];exact⟨by simpa using ac,by simpa using av⟩⟩,rfl⟩
def bD.A0 (w:bD W)(x:Nat):(children W x).Nodup:=by unfold children;exact sX (wN _ nI) w.nd
def ml {x c:Nat}(h:c∈children W x):c∈ids W:=by obtain⟨n,aa,ac,_⟩:=mG.mp h;exact gy.mpr ⟨n,aa,ac⟩
def bD.ve (w:bD W){x c:Nat}(h:c∈children W x):kC W x < kC W c:=by obtain⟨n,aa,ac,av,bn⟩:=mG.mp h;have:=w.uu aa (by rw[ac,av];exact bn.symm);rw[ac,av] at this;exact this
theorem bD.order_eq (w:bD W):∀(m k x:Nat),x∈ids W->W.nodes.length - kC W x<=m->m<=k->order W k x=order W m x
 |0,k,x,ao,hm,_=>by have:=BR ao;omega
 |m+1,k,x,ao,hm,aw=>by
  obtain⟨k,rfl⟩:∃j,k=j+1:=⟨k - 1,by omega⟩;show x::(children W x).flatMap (order W k)=x::(children W x).flatMap (order W m)
  congr 1
  rw[s6,s6]
  congr 1
  refine kP λc ai=>?_;have:=w.ve ai;exact w.order_eq m k c (ml ai) (by omega) (by omega)
def ord (W:State)(x:Nat):List Nat:=order W W.nodes.length x
def bD.oG (w:bD W){x:Nat}(ao:x∈ids W):ord W x=x::(children W x).flatMap (ord W):=by
 have h:=BR ao;unfold ord;obtain⟨k,aw⟩:∃j,W.nodes.length=j+1:=⟨W.nodes.length - 1,by omega⟩;rw[aw];show x::(children W x).flatMap (order W k)=x::(children W x).flatMap (order W (k+1))
 congr 1
 rw[s6,s6]
 congr 1
 refine kP λc ai=>?_;have:=w.ve ai;exact(w.order_eq k (k+1) c (ml ai) (by omega) (by omega)).symm
def zr:ordered W=ord W 0:=rfl
def bD.down (w:bD W){P:Nat->Prop}(h:∀x,x∈ids W->(∀c,c∈children W x->P c)->P x):∀x,x∈ids W->P x:=by
 have:∀m x,x∈ids W->W.nodes.length - kC W x<=m->P x:=by
  intro m
  induction m with
  |zero=>intro x ao hm;have:=BR ao;omega
  |succ m bE=>intro x ao hm;refine h x ao λc ai=>bE c (ml ai) ?_;have:=w.ve ai;omega
 exact λx ao=>this _ x ao (b5 _)
def bD.up {W:State}(w:bD W){P:Nat->Prop}(h:∀n,n∈W.nodes->(n.parent≠n.id->P n.parent)->P n.id):∀x,x∈ids W->P x:=by
 have:∀m x,x∈ids W->kC W x<=m->P x:=by
  intro m
  induction m with
  |zero=>intro x ao hm;obtain⟨n,aa,rfl⟩:=gy.mp ao;exact h n aa λak=>by have:=w.uu aa ak;omega
  |succ m bE=>intro x ao hm;obtain⟨n,aa,rfl⟩:=gy.mp ao;refine h n aa λak=>bE n.parent (w.uv aa) ?_;have:=w.uu aa ak;omega
 exact λx ao=>this _ x ao (b5 _)
def bD.Hx (w:bD W){x:Nat}(ao:x∈ids W):x∈ord W x:=by rw[w.oG ao];exact dW ..
def bD.Ct (w:bD W):∀x,x∈ids W->∀y∈ord W x,y∈ids W/\kC W x<=kC W y:=by
 refine w.down λx ao bE y bk=>?_;rw[w.oG ao] at bk;rcases cr.mp bk with rfl|bk
 ·exact⟨ao,b5 _⟩
 ·obtain⟨c,ai,h⟩:=l8.mp bk;have:=bE c ai y h;have:=w.ve ai;exact⟨by simp_all,by omega⟩
def bD.acv (w:bD W):∀x,x∈ids W->∀y c,y∈ord W x->c∈children W y->c∈ord W x:=by
 refine w.down λx ao bE y c bk ai=>?_;rw[w.oG ao] at bk ⊢;refine d7 _ (l8.mpr ?_);rcases cr.mp bk with rfl|bk
 ·exact⟨c,ai,w.Hx (ml ai)⟩
 ·obtain⟨d,hd,h⟩:=l8.mp bk;exact⟨d,hd,bE d hd y c h ai⟩
def bD.Hw {W:State}(w:bD W):∀x,x∈ids W->∀n∈W.nodes,n.id∈ord W x->n.id≠x->n.parent≠n.id/\n.parent∈ord W x:=by
 refine w.down λx ao bE n ak bk b9=>?_;rw[w.oG ao] at bk;rw[w.oG ao];rcases cr.mp bk with h|bk
 ·exact absurd h b9
 ·obtain⟨c,ai,h⟩:=l8.mp bk;by_cases e:n.id=c
  ·obtain⟨m,hv,gG,jv,pT⟩:=mG.mp ai;have:m=n:=w.inj hv ak (by rw[gG,e]);subst this;exact⟨by rw[jv,gG];exact λz=>pT z.symm,by rw[jv];exact dW ..⟩
  ·obtain⟨aa,ac⟩:=bE c ai n ak h e;exact⟨aa,d7 _ (l8.mpr ⟨c,ai,ac⟩)⟩
def bD.ub (w:bD W){x:Nat}:x∈ordered W↔x∈ids W:=by
 constructor
 ·exact λh=>(w.Ct 0 w.zero x h).1
 ·intro h;rw[zr];refine w.up (P:=λx=>x∈ord W 0) (λn ak bE=>?_) x h;by_cases am:n.parent=n.id
  ·rw[(w.uC ak).mp am];exact w.Hx w.zero
  ·exact w.acv 0 w.zero _ _ (bE am) (mG.mpr ⟨n,ak,rfl,rfl,λz=>am z.symm⟩)
def bD.apart (w:bD W){x c d:Nat}(ai:c∈children W x)(hd:d∈children W x)(b9:c≠d):∀y,y∈ids W->¬(y∈ord W c/\y∈ord W d):=by
 refine w.up λn ak bE=>?_;rintro⟨aa,ac⟩;have yC:=ml ai;have XV:=ml hd;have par:∀e f,e∈children W x->f∈children W x->e≠f->n.id=e->n.id∈ord W f->False:=by intro e f he hf X0 aE h;obtain⟨m,hv,gG,jv,pT⟩:=mG.mp he;have:m=n:=w.inj hv ak (by rw[gG,aE]);subst this;have av:=(w.Hw f (ml hf) m hv h (by rw[aE];exact X0)).2;rw[jv] at av;have:=(w.Ct f (ml hf) x av).2;have:=w.ve hf;omega
 by_cases aE:n.id=c
 ·exact par c d ai hd b9 aE ac
 ·by_cases aL:n.id=d
  ·exact par d c hd ai b9.symm aL aa
  ·obtain⟨fp,eI⟩:=w.Hw c yC n ak aa aE;obtain⟨_,zt⟩:=w.Hw d XV n ak ac aL;exact bE fp ⟨eI,zt⟩
def bD.acw (w:bD W):∀x,x∈ids W->(ord W x).Nodup:=by
 refine w.down λx ao bE=>?_;rw[w.oG ao,hk];constructor
 ·intro h;obtain⟨c,ai,h⟩:=l8.mp h;have:=(w.Ct c (ml ai) x h).2;have:=w.ve ai;omega
 ·unfold Nodup;rw[List.pairwise_flatMap];refine⟨λc ai=>bE c ai,?_⟩;refine Pairwise.imp_of_mem (R:=λa b=>a≠b) (λ{a b} al I b9 u aW v bx e=>?_) (w.A0 x);subst e;exact w.apart al I b9 u (w.Ct a (ml al) u aW).1 ⟨aW,bx⟩
def bD.zq (w:bD W):(ordered W).Nodup:=w.acw 0 w.zero
def bD.kE (w:bD W):W.nodes.length<=128:=by
 have h:(W.nodes.map (·.id)) ⊆ range 128:=λx ao=>by obtain⟨n,aa,ac⟩:=dp.mp ao;rw[<-ac];exact uS.mpr (w.lt n aa)
 have:=w.nd.length_le_of_subset h;simpa using this
def bD.Cu (w:bD W):(ordered W).length=W.nodes.length:=by have h:(ordered W).Perm (ids W):=(List.perm_ext_iff_of_nodup w.zq w.nd).mpr λa=>w.ub;rw[h.length_eq];unfold ids;rw[cc]
def g_ (W:State)(x:Nat):Option Nat:=match node W x with
 |none=>none
 |some n=>(ahead n.id (siblings W n)).getLast?
def lz (l:List Nat)(z y:Nat):Prop:=∃p q,l=p++y::q/\z∈p
def lz.wide {z y:Nat}(a b:List Nat)(h:lz l z y):lz (a++l++b) z y:=by obtain⟨p,q,rfl,h⟩:=h;exact⟨a++p,q++b,by simp,o0 _ h⟩
def lz.cons {z y x:Nat}(h:lz l z y):lz (x::l) z y:=by have:=h.wide [x] [];simpa using this
def KA {f:Nat->List Nat}{l:List Nat}{z y c:Nat}(ai:c∈l)(h:lz (f c) z y):lz (l.flatMap f) z y:=by obtain⟨a,b,rfl⟩:=rq ai;have:=h.wide (a.flatMap f) (b.flatMap f);simpa using this
def Ew {x a:Nat}(h:(ahead x l).getLast?=some a)(ao:x∈l):∃p q,l=p++a::x::q:=by
 unfold ahead at h;obtain⟨p,e⟩:=List.getLast?_eq_some_iff.mp h;have aC:l=l.takeWhile (λy=>y !=x)++l.dropWhile (λy=>y !=x):=List.takeWhile_append_dropWhile.symm;cases hd:l.dropWhile (λy=>y !=x) with
 |nil=>rw[hd,l7] at aC;rw[aC] at ao;have:=List.all_takeWhile (p:=λy=>y !=x) (l:=l);rw[sY] at this;have:=this x ao;simp at this
 |cons u q=>
  have aW:=List.head?_dropWhile_not (λy=>y !=x) l;rw[hd] at aW;have aW:u=x:=by simpa using aW
  refine⟨p,q,?_⟩;rw[hd,e,aW] at aC;rw[aC];simp
def bD.before {W:State}(w:bD W):∀x,x∈ids W->∀n∈W.nodes,n.id∈ord W x->n.id≠x->lz (ord W x) n.parent n.id/\∀a,g_ W n.id=some a->lz (ord W x) a n.id:=by
 refine w.down λx ao bE n ak bk b9=>?_;rw[w.oG ao] at bk;rw[w.oG ao];rcases cr.mp bk with h|bk
 ·exact absurd h b9
 ·obtain⟨c,ai,h⟩:=l8.mp bk;by_cases e:n.id=c
  ·subst e;obtain⟨m,hv,gG,jv,pT⟩:=mG.mp ai;have:m=n:=w.inj hv ak gG;subst this;constructor
   ·obtain⟨p,q,e⟩:=rq bk;exact⟨x::p,q,by rw[e];rfl,by rw[jv];exact dW ..⟩
   ·intro a al;unfold g_ at al;rw[w.jy hv] at al;simp only at al;have aD:siblings W m=children W x:=by unfold siblings;rw[aN (by rw[jv];exact λz=>pT z.symm),jv]
    rw[aD] at al;obtain⟨p,q,e⟩:=Ew al ai;have e3:a∈children W x:=by rw[e];simp
    have aa:=w.Hx (ml e3);refine lz.cons ?_;rw[e,oZ,kN,kN];have ac:=w.oG (ml ai);exact⟨p.flatMap (ord W)++ord W a,(children W m.id).flatMap (ord W)++q.flatMap (ord W),by rw[ac];simp,o0 _ aa⟩
  ·obtain⟨aa,ac⟩:=bE c ai n ak h e;exact⟨(KA ai aa).cons,λa al=>(KA ai (ac a al)).cons⟩
def bD.HY (w:bD W):g_ W 0=none:=by obtain⟨n,ak,e⟩:=gy.mp w.zero;unfold g_;rw[<-e,w.jy ak];simp only;unfold siblings;rw[aV ((w.uC ak).mpr e)];simp[ahead]
instance:DecidableEq Link:=λa b=>by cases a<;>cases b<;>first|exact isTrue rfl|exact isFalse (by intro h;cases h)
structure Look where
 tag:Nat
 cls:List Nat
 fst:Bool
 lst:Bool
 emp:Bool
 deriving DecidableEq
def oO (l:List Nat):List Nat:=l.mergeSort λa b=>decide (a<=b)
def ju (W:State)(n:Node):Look:=⟨n.tag,oO n.classes,(siblings W n).head?==some n.id,(siblings W n).getLast?==some n.id,(children W n.id).isEmpty⟩
def C' (L:Look):Simple->Bool
 |.cls k=>L.cls.contains k
 |.first=>L.fst
 |.last=>L.lst
 |.empty=>L.emp
def tT (L:Look):Head->Bool
 |.tag t=>L.tag==t
 |_=>true
def we (L:Look)(p:Plain):Bool:=tT L p.head&&p.tests.all (C' L)
def wG (L:Look):Test->Bool
 |.is s=>C' L s
 |.isnt p=>!we L p
def lU (L:Look)(k:Kind):Bool:=tT L k.head&&k.tests.all (wG L)
def UH (l:List Nat)(k:Nat):(oO l).contains k=l.contains k:=by have h:(oO l).Perm l:=List.mergeSort_perm l _;rw[lv,kn,kn];exact h.mem_iff
def Q2 (W:State)(n:Node)(s:Simple):s.holds W n=C' (ju W n) s:=by
 cases s with
 |cls k=>exact(UH n.classes k).symm
 |first=>rfl
 |last=>rfl
 |empty=>rfl
def Nt (W:State)(n:Node)(h:Head):h.holds n=tT (ju W n) h:=by cases h<;>rfl
def ac0 (W:State)(n:Node)(p:Plain):p.holds W n=we (ju W n) p:=by unfold Plain.holds we;rw[Nt W,show Simple.holds W n=C' (ju W n) from funext λs=>Q2 W n s]
def afs (W:State)(n:Node)(t:Test):t.holds W n=wG (ju W n) t:=by
 cases t with
 |is s=>exact Q2 W n s
 |isnt p=>show(!p.holds W n)= !we (ju W n) p;rw[ac0]
def ZP (W:State)(n:Node)(k:Kind):k.holds W n=lU (ju W n) k:=by unfold Kind.holds lU;rw[Nt W,show Test.holds W n=wG (ju W n) from funext λs=>afs W n s]
structure Row where
 num:Nat
 par:Option Nat
 io:Option Nat
 look:Look
 deriving DecidableEq
def rowOf (W:State)(n:Node):Row:=⟨n.id,if n.parent=n.id then none else some n.parent,g_ W n.id,ju W n⟩
def oz (W:State)(x:Nat):Node:=(node W x).getD ⟨0,0,0,[]⟩
def rowsOf (W:State):List Row:=(ordered W).map λx=>rowOf W (oz W x)
def bD.v8 (w:bD W)(h:n∈W.nodes):oz W n.id=n:=by unfold oz;rw[w.jy h];rfl
def mask (p:Nat->Bool):Nat->Nat
 |0=>0
 |n+1=>if p n=true then mask p n|||(1 <<< n) else mask p n
def EG (n i:Nat):(1 <<< n).testBit i=decide (i=n):=by
 rw[Nat.testBit_shiftLeft];by_cases h:i=n
 ·subst h;simp
 ·by_cases ac:n<=i
  ·obtain⟨d,rfl⟩:∃d,i=n+(d+1):=⟨i - n - 1,by omega⟩;rw[cW h,show n+(d+1) - n=d+1 by omega,Nat.testBit_succ];simp
  ·simp[h,ac]
theorem za (p:Nat->Bool):∀n i,(mask p n).testBit i=(decide (i < n)&&p i)
 |0,i=>by simp[mask]
 |n+1,i=>by
  unfold mask;by_cases am:p n=true
  ·rw[aV am,w2,za p n i,EG];by_cases h:i=n
   ·subst h;simp[am]
   ·by_cases ac:i < n
    ·have:i < n+1:=by omega
     simp[h,ac,this]
    ·have:¬i < n+1:=by omega
     simp[h,ac,this]
  ·rw[aN am,za p n i];by_cases h:i=n
   ·subst h;have:p i=false:=by simpa using am
    simp[this]
   ·by_cases ac:i < n
    ·have:i < n+1:=by omega
     simp[ac,this]
    ·have:¬i < n+1:=by omega
     simp[ac,this]
theorem O2:∀{n:Nat},(∀i,i < n->p i=q i)->mask p n=mask q n
 |0,_=>rfl
 |n+1,h=>by unfold mask;rw[h n (by omega),O2 (p:=p) (q:=q) λi aR=>h i (by omega)]
def aay (p:Nat->Bool)(n:Nat):mask p n < 2 ^ n:=Nat.lt_pow_two_of_testBit _ λi aR=>by
 rw[za];have:¬i < n:=by omega
 simp[this]
abbrev eG:=List (Option Link×Kind)
def ov (aZ:eG)(lo:Option Link)(j:Nat):Bool:=match aZ[j]? with
 |some p=>decide (p.1=lo)
 |none=>false
def k' (aZ:eG)(L:Look)(j:Nat):Bool:=match aZ[j]? with
 |some p=>lU L p.2
 |none=>false
def behind (aZ:eG)(lo:Option Link):Nat:=mask (ov aZ lo) aZ.length
def qy (aZ:eG)(L:Look):Nat:=mask (k' aZ L) aZ.length
def T_ (aZ:eG)(p:Option Link×Kind)(lo:Option Link):behind (aZ++[p]) lo=if p.1=lo then behind aZ lo|||(1 <<< aZ.length) else behind aZ lo:=by
 unfold behind;rw[dC];show mask _ (aZ.length+1)=_;have e:mask (ov (aZ++[p]) lo) aZ.length=mask (ov aZ lo) aZ.length:=O2 λi aR=>by unfold ov;rw[wT aR]
 have aL:ov (aZ++[p]) lo aZ.length=decide (p.1=lo):=by unfold ov;rw[Ad (b5 _),Nat.sub_self];rfl
 have bI:mask (ov (aZ++[p]) lo) (aZ.length+1)=if ov (aZ++[p]) lo aZ.length=true then mask (ov (aZ++[p]) lo) aZ.length|||(1 <<< aZ.length) else mask (ov (aZ++[p]) lo) aZ.length:=rfl
 rw[bI,e,aL];by_cases h:p.1=lo
 ·rw[aV (ej h),aV h]
 ·rw[aN (by simpa using h),aN h]
def Ud (aZ:eG)(L:Look):qy aZ L < 2 ^ aZ.length:=aay _ _
structure Cell where
 num:Nat
 re:Nat
 dO:Nat
 a9:Nat
def f_ (cs:List Cell):Option Nat->Cell
 |none=>⟨0,0,0,0⟩
 |some n=>(cs.find? λc=>c.num==n).getD ⟨0,0,0,0⟩
def vb (aZ:eG)(above parent ahead U9:Nat):Nat:=
 (behind aZ none|||(((above <<< 1)&&& behind aZ (some .below))|||((parent <<< 1)&&& behind aZ (some .child))))|||(((ahead <<< 1)&&& behind aZ (some .next))|||((U9 <<< 1)&&& behind aZ (some .later)))
def l3 (aZ:eG)(cs:List Cell)(r:Row):Cell:=
 let p:=f_ cs r.par
 let a:=f_ cs r.io
 ⟨r.num,vb aZ (p.dO|||p.re) p.re a.re (a.a9|||a.re)&&& qy aZ r.look,p.dO|||p.re,a.a9|||a.re⟩
def cells (aZ:eG)(rows:List Row):List Cell:=rows.foldl (λcs r=>cs++[l3 aZ cs r]) []
def EQ (aZ:eG)(rows:List Row)(r:Row):cells aZ (rows++[r])=cells aZ rows++[l3 aZ (cells aZ rows) r]:=by unfold cells;rw[wS];rfl
def one (W:State)(prev:List Nat):Option Link->Kind->List Nat
 |none,k=>(W.nodes.filter (k.holds W)).map λ(n:Node)=>n.id
 |some l,k=>(W.nodes.filter λ(n:Node)=>k.holds W n&&(allowed W prev l).contains n.id).map λ(n:Node)=>n.id
def lV (W:State):List Nat->eG->List (List Nat)
 |_,[]=>[]
 |m,(lo,k)::r=>one W m lo k::lV W (one W m lo k) r
theorem O5 (W:State):∀(aZ:eG) (m:List Nat),(lV W m aZ).length=aZ.length
 |[],_=>rfl
 |(lo,k)::r,m=>by show(lV W _ r).length+1=r.length+1;rw[O5 W r]
def mt (W:State)(aZ:eG)(j:Nat):List Nat:=(lV W [] aZ).getD j []
theorem O4 (W:State):∀(aZ:eG) (m:List Nat) (j:Nat) (p:Option Link×Kind),aZ[j]? =some p->(lV W m aZ)[j]? =some (one W (match j with
  |0=>m
  |i+1=>(lV W m aZ).getD i []) p.1 p.2)
 |[],m,j,p,h=>by simp at h
 |(lo,k)::r,m,0,p,h=>by simp only[DH,uV] at h;subst h;rfl
 |(lo,k)::r,m,j+1,p,h=>by
  have h':r[j]? =some p:=by simpa using h
  have:=O4 W r (one W m lo k) j p h';show(lV W (one W m lo k) r)[j]? =_;rw[this];cases j with
  |zero=>rfl
  |succ i=>rfl
def aaP (W:State)(aZ:eG){j:Nat}(h:aZ[j]? =some p):mt W aZ j=one W (match j with
  |0=>[]
  |i+1=>mt W aZ i) p.1 p.2:=by
 unfold mt;have e:=O4 W aZ [] j p h;rw[List.getD_eq_getElem?_getD,e];cases j<;>rfl
def AJ (aZ:eG):Prop:=∀p,aZ[0]? =some p->p.1=none
section
variable {W:State}
def bD.aaE (w:bD W)(ak:n∈W.nodes):n.id∈one W m lo k↔k.holds W n=true/\∀l,lo=some l->n.id∈allowed W m l:=by
 cases lo with
 |none=>
  unfold one;rw[dp];constructor
  ·rintro⟨a,aa,ac⟩;rw[hj] at aa;have:=w.inj aa.1 ak ac;subst this;exact⟨aa.2,λl h=>by cases h⟩
  ·rintro⟨h,_⟩;exact⟨n,hj.mpr ⟨ak,h⟩,rfl⟩
 |some l=>
  unfold one;rw[dp];constructor
  ·rintro⟨a,aa,ac⟩;rw[hj,d6,kn] at aa;have:=w.inj aa.1 ak ac;subst this;exact⟨aa.2.1,λhM h=>by cases h;exact aa.2.2⟩
  ·rintro⟨h,h'⟩;exact⟨n,hj.mpr ⟨ak,by rw[d6,kn];exact⟨h,h' l rfl⟩⟩,rfl⟩
def bD.GZ (w:bD W)(ak:n∈W.nodes)(aC:l≠.below):n.id∈allowed W m l↔∃y∈linked W n l,y∈m:=by
 have e:allowed W m l=(W.nodes.filter λ(n:Node)=>(linked W n l).any m.contains).map λ(n:Node)=>n.id:=by
  cases l with
  |below=>exact absurd rfl aC
  |child=>rfl
  |next=>rfl
  |later=>rfl
 rw[e,dp];constructor
 ·rintro⟨a,aa,ac⟩;rw[hj,oY] at aa;have:=w.inj aa.1 ak ac;subst this;obtain⟨y,av,bn⟩:=aa.2;exact⟨y,av,by simpa using bn⟩
 ·rintro⟨y,av,bn⟩;exact⟨n,hj.mpr ⟨ak,oY.mpr ⟨y,av,by simpa using bn⟩⟩,rfl⟩
def aaB {m:List Nat}{n:Node}:(∃y∈linked W n .child,y∈m)↔n.parent≠n.id/\n.parent∈m:=by
 unfold linked;by_cases h:n.parent=n.id
 ·simp[h]
 ·simp[h]
def aaD (w:bD W){m:List Nat}{n:Node}(ak:n∈W.nodes):(∃y∈linked W n .next,y∈m)↔∃a,g_ W n.id=some a/\a∈m:=by
 unfold linked g_;rw[w.jy ak];simp only;cases (ahead n.id (siblings W n)).getLast? with
 |none=>simp
 |some a=>simp
def xy (l b:List Nat)(n:Node):List Nat:=if n.parent !=n.id&&(l.contains n.parent||b.contains n.parent) then n.id::b else b
def T' (l:List Nat):belowAll W l=W.nodes.foldl (xy l) []:=rfl
def EC {x:Nat}:x∈xy l b n↔x∈b\/(x=n.id/\n.parent≠n.id/\(n.parent∈l\/n.parent∈b)):=by
 unfold xy;by_cases h:(n.parent !=n.id&&(l.contains n.parent||b.contains n.parent))=true
 ·rw[aV h,cr];rw[d6,uN,kn,kn] at h;have aa:n.parent≠n.id:=by simpa using h.1
  constructor
  ·rintro(rfl|ao)
   ·exact .inr ⟨rfl,aa,h.2⟩
   ·exact .inl ao
  ·rintro(ao|⟨ao,_⟩)
   ·exact .inr ao
   ·exact .inl ao
 ·rw[aN h];rw[d6,uN,kn,kn] at h;constructor
  ·exact λao=>.inl ao
  ·rintro(ao|⟨rfl,aa,ac⟩)
   ·exact ao
   ·exact absurd ⟨by simpa using aa,ac⟩ h
theorem Bd {x:Nat}:∀(ns:List Node) (b:List Nat),x∉ns.map (·.id)->(x∈ns.foldl (xy l) b↔x∈b)
 |[],_,_=>Iff.rfl
 |n::ns,b,h=>by
  rw[ck,cr,hn] at h;rw[p8,Bd ns _ h.2,EC];constructor
  ·rintro(h'|⟨h',_⟩)
   ·exact h'
   ·exact absurd h' h.1
  ·exact .inl
def bD.Ua (w:bD W)(ak:n∈W.nodes):n.id∈belowAll W l↔n.parent≠n.id/\(n.parent∈l\/n.parent∈belowAll W l):=by
 obtain⟨pre,post,e⟩:=rq ak;have fz:=w.nd;rw[e,hi,ck,jb,hk] at fz;obtain⟨_,⟨aa,_⟩,av⟩:=fz;have F7:n.id∉pre.map (·.id):=λz=>av _ z _ (dW ..) rfl;rw[T',e,wS,p8,Bd post _ aa,EC];have ao:n.id∉pre.foldl (xy l) []:=λz=>by have:=(Bd pre [] F7).mp z;simp at this
 by_cases am:n.parent=n.id
 ·constructor
  ·rintro(h|⟨_,h,_⟩)
   ·exact absurd h ao
   ·exact absurd am h
  ·rintro⟨h,_⟩;exact absurd am h
 ·have qW:pre≠[]:=λz=>by obtain⟨t,cs,r,lI⟩:=w.root;rw[z,uT,lI] at e;injection e with aE _;rw[<-aE] at am;exact am rfl
  have nr:=(w.par pre n post e qW).2;have yV:n.parent∉post.map (·.id):=λz=>av _ nr _ (d7 _ z) rfl;rw[Bd post _ yV,EC];constructor
  ·rintro(h|⟨_,bn,cB⟩)
   ·exact absurd h ao
   ·exact⟨bn,cB.imp id λz=>.inl z⟩
  ·rintro⟨bn,cB⟩;refine .inr ⟨rfl,bn,cB.imp id ?_⟩;rintro(z|⟨z,_⟩)
   ·exact z
   ·exact absurd z bn
def TJ {x a:Nat}(nd:l.Nodup)(ao:x∈l)(h:(ahead x l).getLast?=some a):ahead x l=ahead a l++[a]:=by
 obtain⟨p,q,rfl⟩:=Ew h ao;rw[jb,hk,hk] at nd;obtain⟨_,⟨aa,ac,_⟩,av⟩:=nd;have XF:a≠x:=λz=>aa (by rw[z];exact dW ..);have am:∀y∈p,y≠x:=λy bk=>av y bk x (by simp);have pJ:∀y∈p,y≠a:=λy bk=>av y bk a (by simp);have t:∀(r:List Nat) (z:Nat),(∀y∈p,y≠z)->(p++z::r).takeWhile (λy=>y !=z)=p:=by intro r z hz;rw[w1 (λy bk=>by simpa using hz y bk)];simp
 unfold ahead;rw[t _ a pJ,show p++a::x::q=(p++[a])++x::q by simp];rw[w1 (λy bk=>by
  rcases di.mp bk with bk|bk
  ·simpa using am y bk
  ·rw[ec.mp bk];simpa using XF)]
 simp
def bD.aer (w:bD W)(n:Node):(siblings W n).Nodup:=by
 unfold siblings;split
 ·simp
 ·exact w.A0 _
def bD.Im (w:bD W)(ak:n∈W.nodes):n.id∈siblings W n:=by
 unfold siblings;split
 ·simp
 ·rename_i h
  exact mG.mpr ⟨n,ak,rfl,rfl,λz=>h z.symm⟩
def bD.TK (w:bD W){a:Nat}(ak:n∈W.nodes)(h:g_ W n.id=some a):∃m∈W.nodes,m.id=a/\siblings W m=siblings W n/\ahead n.id (siblings W n)=ahead m.id (siblings W m)++[a]:=by
 unfold g_ at h;rw[w.jy ak] at h;simp only at h;have e:=TJ (w.aer n) (w.Im ak) h;have al:a∈siblings W n:=by obtain⟨p,q,e⟩:=Ew h (w.Im ak);rw[e];simp
 by_cases au:n.parent=n.id
 ·exfalso;unfold siblings at h;rw[aV au] at h;simp[ahead] at h
 ·have aD:siblings W n=children W n.parent:=by unfold siblings;rw[aN au]
  rw[aD] at al;obtain⟨m,hv,gG,jv,pT⟩:=mG.mp al;have N1:siblings W m=siblings W n:=by rw[aD];unfold siblings;rw[aN (by rw[jv,gG];exact λz=>pT z.symm),jv]
  exact⟨m,hv,gG,N1,by rw[N1,gG];exact e⟩
structure Good (W:State)(aZ:eG)(c:Cell):Prop where
 re:∀j,c.re.testBit j=true↔j < aZ.length/\c.num∈mt W aZ j
 dO:∀j,c.dO.testBit j=true↔j < aZ.length/\c.num∈belowAll W (mt W aZ j)
 a9:∀j,c.a9.testBit j=true↔j < aZ.length/\∃n∈W.nodes,n.id=c.num/\∃y∈ahead n.id (siblings W n),y∈mt W aZ j
def L9 {x:Nat}(h:x∈cs.map (·.num)):∃c∈cs,f_ cs (some x)=c/\c.num=x:=by
 show ∃c∈cs,(cs.find? λc=>c.num==x).getD ⟨0,0,0,0⟩=c/\c.num=x;cases e:cs.find? (λc=>c.num==x) with
 |none=>rw[sZ] at e;obtain⟨c,aa,ac⟩:=dp.mp h;exact absurd (by simpa using ac) (e c aa)
 |some c=>exact⟨c,s9 e,rfl,by simpa using find?_some e⟩
def bD.Wu (w:bD W){aZ:eG}(aw:AJ aZ){cs:List Cell}{n:Node}(ak:n∈W.nodes)(bK:∀c∈cs,Good W aZ c)(am:n.parent≠n.id->n.parent∈cs.map (·.num))(al:∀a,g_ W n.id=some a->a∈cs.map (·.num)):
  Good W aZ (l3 aZ cs (rowOf W n)):=by
 have fb:∀j,((f_ cs (rowOf W n).par).re.testBit j=true↔j < aZ.length/\n.parent≠n.id/\n.parent∈mt W aZ j)/\((f_ cs (rowOf W n).par).dO.testBit j=true↔j < aZ.length/\n.parent≠n.id/\n.parent∈belowAll W (mt W aZ j)):=by
  intro j;unfold rowOf;by_cases au:n.parent=n.id
  ·simp only[aV au,f_];constructor<;>simp[au]
  ·simp only[aN au];obtain⟨c,aa,ac,av⟩:=L9 (am au);rw[ac];have g:=bK c aa;rw[g.re,g.dO,av];simp[au]
 have e2:∀j,((f_ cs (rowOf W n).io).re.testBit j=true↔j < aZ.length/\∃a,g_ W n.id=some a/\a∈mt W aZ j)/\((f_ cs (rowOf W n).io).a9.testBit j=true↔j < aZ.length/\∃a,g_ W n.id=some a/\∃m∈W.nodes,m.id=a/\∃y∈ahead m.id (siblings W m),y∈mt W aZ j):=by
  intro j;show((f_ cs (g_ W n.id)).re.testBit j=true↔_)/\((f_ cs (g_ W n.id)).a9.testBit j=true↔_);cases e:g_ W n.id with
  |none=>constructor<;>simp[f_]
  |some a=>obtain⟨c,aa,ac,av⟩:=L9 (al a e);rw[ac];have g:=bK c aa;rw[g.re,g.a9,av];simp
 have pB:∀j,((l3 aZ cs (rowOf W n)).dO.testBit j=true↔j < aZ.length/\n.id∈belowAll W (mt W aZ j)):=by
  intro j;show((f_ cs (rowOf W n).par).dO|||(f_ cs (rowOf W n).par).re).testBit j=true↔_;rw[w2,uN,(fb j).1,(fb j).2,w.Ua ak];constructor
  ·rintro(⟨aa,ac,av⟩|⟨aa,ac,av⟩)
   ·exact⟨aa,ac,.inr av⟩
   ·exact⟨aa,ac,.inl av⟩
  ·rintro⟨aa,ac,av|av⟩
   ·exact .inr ⟨aa,ac,av⟩
   ·exact .inl ⟨aa,ac,av⟩
 have Nr:∀j,((l3 aZ cs (rowOf W n)).a9.testBit j=true↔j < aZ.length/\∃y∈ahead n.id (siblings W n),y∈mt W aZ j):=by
  intro j;show((f_ cs (rowOf W n).io).a9|||(f_ cs (rowOf W n).io).re).testBit j=true↔_;rw[w2,uN,(e2 j).1,(e2 j).2];cases e:g_ W n.id with
  |none=>
   have:ahead n.id (siblings W n)=[]:=by unfold g_ at e;rw[w.jy ak] at e;simpa using e
   rw[this];simp
  |some a=>
   obtain⟨m,hv,gG,jv,pT⟩:=w.TK ak e;rw[pT];constructor
   ·rintro(⟨aa,jk,bV,cQ,aal,aam,y,ac,av⟩|⟨aa,jk,bV,ac⟩)
    ·cases bV;have:=w.inj hv aal (by rw[gG,aam]);subst this;exact⟨aa,y,lw _ ac,av⟩
    ·cases bV;exact⟨aa,a,by simp,ac⟩
   ·rintro⟨aa,y,ac,av⟩;rcases di.mp ac with ac|ac
    ·exact .inl ⟨aa,a,rfl,m,hv,gG,y,ac,av⟩
    ·rw[ec.mp ac] at av;exact .inr ⟨aa,a,rfl,av⟩
 refine⟨λj=>?_,pB,λj=>?_⟩
 ·show(vb aZ (l3 aZ cs (rowOf W n)).dO (f_ cs (rowOf W n).par).re (f_ cs (rowOf W n).io).re (l3 aZ cs (rowOf W n)).a9&&& qy aZ (ju W n)).testBit j=true↔j < aZ.length/\n.id∈mt W aZ j;rw[testBit_and,d6];unfold qy;rw[za,d6,mb];by_cases bF:j < aZ.length
  ·obtain⟨p,BI⟩:∃p,aZ[j]? =some p:=⟨aZ[j],iK bF⟩;have rO:k' aZ (ju W n) j=p.2.holds W n:=by unfold k';rw[BI,ZP]
   have tE:∀lo,(behind aZ lo).testBit j=decide (p.1=lo):=λlo=>by unfold behind;rw[za,ej bF];unfold ov;rw[BI];simp
   rw[rO,aaP W aZ BI,w.aaE ak];unfold vb;simp only[w2,testBit_and,Nat.testBit_shiftLeft,tE,uN,d6,mb];cases iB:p.1 with
   |none=>simp[bF]
   |some l=>
    obtain⟨i,rfl⟩:∃i,j=i+1:=by
     cases j with
     |zero=>rw[aw p BI] at iB;cases iB
     |succ i=>exact⟨i,rfl⟩
    have aR:i < aZ.length:=by omega
    rw[Nat.add_sub_cancel,pB i,(fb i).1,(e2 i).1,Nr i];have I:l=.below->(n.id∈allowed W (mt W aZ i) l↔n.id∈belowAll W (mt W aZ i)):=λz=>by subst z;exact Iff.rfl
    cases l with
    |below=>rw[show(∀l,some Link.below=some l->n.id∈allowed W (mt W aZ i) l)↔n.id∈belowAll W (mt W aZ i) from⟨λz=>z _ rfl,λz l e=>by cases e;exact z⟩];simp[aR,bF,and_comm]
    |child=>rw[show(∀l,some Link.child=some l->n.id∈allowed W (mt W aZ i) l)↔n.id∈allowed W (mt W aZ i) .child from⟨λz=>z _ rfl,λz l e=>by cases e;exact z⟩,w.GZ ak (by intro z;cases z),aaB];simp[aR,bF,and_comm]
    |next=>rw[show(∀l,some Link.next=some l->n.id∈allowed W (mt W aZ i) l)↔n.id∈allowed W (mt W aZ i) .next from⟨λz=>z _ rfl,λz l e=>by cases e;exact z⟩,w.GZ ak (by intro z;cases z),aaD w ak];simp[aR,bF,and_comm]
    |later=>rw[show(∀l,some Link.later=some l->n.id∈allowed W (mt W aZ i) l)↔n.id∈allowed W (mt W aZ i) .later from⟨λz=>z _ rfl,λz l e=>by cases e;exact z⟩,w.GZ ak (by intro z;cases z),show linked W n .later=ahead n.id (siblings W n) from rfl];simp[aR,bF,and_comm]
  ·simp[bF]
 ·rw[Nr j];constructor
  ·rintro⟨aa,ac⟩;exact⟨aa,n,ak,rfl,ac⟩
  ·rintro⟨aa,m,hv,gG,ac⟩;have:m=n:=w.inj hv ak gG;subst this;exact⟨aa,ac⟩
def AZ (aZ:eG)(rows:List Row):(cells aZ rows).map (·.num)=rows.map (·.num):=by
 have:∀(rows:List Row) (cs:List Cell),(rows.foldl (λcs r=>cs++[l3 aZ cs r]) cs).map (·.num)=cs.map (·.num)++rows.map (·.num):=by
  intro rows
  induction rows with
  |nil=>intro cs;simp
  |cons r rs bE=>intro cs;rw[p8,bE];simp[l3]
 simpa[cells] using this rows []
def bD.Wt (w:bD W)(aw:AJ aZ):∀(k:Nat) (l q:List Nat),l.length=k->ordered W=l++q->∀c∈cells aZ (l.map λx=>rowOf W (oz W x)),Good W aZ c:=by
 intro k
 induction k with
 |zero=>intro l q aC e c ai;rw[List.length_eq_zero_iff.mp aC] at ai;simp[cells] at ai
 |succ k bE=>
  intro l q aC e c ai;obtain⟨hM,x,rfl⟩:∃hM x,l=hM++[x]:=⟨l.dropLast,l.getLast (by intro z;rw[z] at aC;cases aC),(Ab _).symm⟩;rw[hi,ck,p_,EQ] at ai;have bV:ordered W=hM++([x]++q):=by rw[e];simp
  have Oh:=bE hM _ (by simpa using aC) bV;rcases di.mp ai with ai|ai
  ·exact Oh c ai
  ·rw[ec.mp ai];have ao:x∈ordered W:=by rw[e];simp
   obtain⟨n,ak,rfl⟩:=gy.mp (w.ub.mp ao);rw[w.v8 ak];have nums:(cells aZ (hM.map λx=>rowOf W (oz W x))).map (·.num)=hM:=by
    rw[AZ,ff]
    conv=>rhs;rw[<-s8 hM]
    refine kP λy bk=>?_;have:y∈ordered W:=by rw[e];simp[bk]
    obtain⟨m,hm,rfl⟩:=gy.mp (w.ub.mp this);show(oz W m.id).id=m.id;rw[w.v8 hm]
   have xz:∀z,lz (ord W 0) z n.id->z∈hM:=by
    rintro z ⟨p,r,ep,hz⟩;rw[<-zr,bV] at ep;have nd:=w.zq;rw[bV] at nd;have:hM=p:=by
     have aa:(hM++([n.id]++q)).takeWhile (λy=>y !=n.id)=hM:=by
      rw[w1 (λy bk=>?_)]
      ·simp
      ·rw[jb] at nd;have:=nd.2.2 y bk n.id (by simp);simpa using this
     have ac:(p++n.id::r).takeWhile (λy=>y !=n.id)=p:=by
      rw[w1 (λy bk=>?_)]
      ·simp
      ·rw[ep,jb] at nd;have:=nd.2.2 y bk n.id (by simp);simpa using this
     rw[<-aa,ep,ac]
    rw[this];exact hz
   refine w.Wu aw ak Oh (λau=>?_) λa al=>?_
   ·rw[nums];have h0:n.id≠0:=λz=>au ((w.uC ak).mpr z);exact xz _ (w.before 0 w.zero n ak (by rw[<-zr];exact ao) h0).1
   ·rw[nums];have h0:n.id≠0:=λz=>by rw[z,w.HY] at al;cases al
    exact xz _ ((w.before 0 w.zero n ak (by rw[<-zr];exact ao) h0).2 a al)
def bD.good (w:bD W)(aw:AJ aZ):∀c∈cells aZ (rowsOf W),Good W aZ c:=w.Wt aw _ (ordered W) [] rfl (by simp)
end
def fD (c:Chain):eG:=(none,c.first)::c.rest.map λx=>(some x.1,x.2)
def cb (s:Selector):eG:=s.flatMap fD
def uy (c:Chain):(fD c).length=c.rest.length+1:=by simp[fD]
def gq:Nat->Selector->List (Chain×Nat)
 |_,[]=>[]
 |o,c::s=>(c,o+c.rest.length)::gq (o+(c.rest.length+1)) s
theorem xE:∀(o:Nat) (s:Selector),(gq o s).map (·.1)=s
 |_,[]=>rfl
 |o,c::s=>by show c::(gq _ s).map (·.1)=c::s;rw[xE _ s]
def ac5 (s:Selector):AJ (cb s):=by
 intro p h;cases s with
 |nil=>simp[cb] at h
 |cons c s=>
  have:(cb (c::s))[0]? =some (none,c.first):=by simp[cb,fD]
  rw[this] at h;rw[<-dZ h]
theorem O6 (W:State)(t:eG):∀(r:List (Link×Kind)) (m:List Nat),(m::lV W m ((r.map λx=>(some x.1,x.2))++t))[r.length]? =some (r.foldl (λ(l:List Nat) (x:Link×Kind)=>
  let b:=allowed W l x.1
  (W.nodes.filter λ(n:Node)=>x.2.holds W n&&b.contains n.id).map λ(n:Node)=>n.id) m)
 |[],m=>rfl
 |x::r,m=>by have:=O6 W t r (one W m (some x.1) x.2);rw[p8];exact this
def aaA (W:State)(m:List Nat)(c:Chain)(t:eG):(lV W m (fD c++t))[c.rest.length]? =some (matched W c):=O6 W t c.rest (one W m none c.first)
theorem O3 (W:State):∀(a b:eG) (m:List Nat),∃cQ,∀i,(lV W m (a++b))[a.length+i]? =(lV W cQ b)[i]?
 |[],b,m=>⟨m,λi=>by simp⟩
 |(lo,k)::a,b,m=>by obtain⟨cQ,h⟩:=O3 W a b (one W m lo k);refine⟨cQ,λi=>?_⟩;rw[<-h i];show(one W m lo k::lV W (one W m lo k) (a++b))[a.length+1+i]? =_;rw[show a.length+1+i=a.length+i+1 by omega,List.getElem?_cons_succ]
theorem KY (W:State):∀(s:Selector) (a:eG) (p:Chain×Nat),p∈gq a.length s->(lV W [] (a++cb s))[p.2]? =some (matched W p.1)
 |[],a,p,h=>by simp[gq] at h
 |c::s,a,p,h=>by
  rcases cr.mp h with rfl|h
  ·obtain⟨cQ,e⟩:=O3 W a (cb (c::s)) [];rw[e];show(lV W cQ (fD c++cb s))[c.rest.length]? =_;exact aaA W cQ c _
  ·have h':p∈gq (a++fD c).length s:=by rw[dC,uy];exact h
   have:=KY W s (a++fD c) p h';rw[wP] at this;exact this
def aaO (W:State)(s:Selector)(h:p∈gq 0 s):mt W (cb s) p.2=matched W p.1/\p.2 < (cb s).length:=by
 have e:=KY W s [] p h;rw[uT] at e;constructor
 ·unfold mt;rw[List.getD_eq_getElem?_getD,e];rfl
 ·have:=(eX.mp e).1;rw[O5] at this;exact this
def lE (es:List (Weight×Nat))(w:Weight)(b:Nat):List (Weight×Nat):=
 if(es.any λe=>decide (e.1=w))=true then es.map λe=>if e.1=w then(e.1,e.2|||b) else e else es++[(w,b)]
def tF (s:Selector):List (Weight×Nat):=(gq 0 s).foldl (λes p=>lE es p.1.weight (1 <<< p.2)) []
def B3 (a b:Weight×Nat):Bool:=decide (a.1.1 < b.1.1\/(a.1.1=b.1.1/\(a.1.2 < b.1.2\/(a.1.2=b.1.2/\a.2 < b.2))))
structure tm (s:Selector)(es:List (Weight×Nat)):Prop where
 perm:es.Perm (tF s)
 desc:es.Pairwise λa b=>B3 a b=false
structure nP (l:List (Chain×Nat))(es:List (Weight×Nat)):Prop where
 nd:(es.map (·.1)).Nodup
 bit:∀e∈es,∀j,e.2.testBit j=true↔∃p∈l,p.1.weight=e.1/\p.2=j
 has:∀p∈l,∃e∈es,e.1=p.1.weight
def nP.add (h:nP l es)(p:Chain×Nat):nP (l++[p]) (lE es p.1.weight (1 <<< p.2)):=by
 unfold lE;by_cases al:(es.any λe=>decide (e.1=p.1.weight))=true
 ·rw[aV al];have aw:(es.map λe=>if e.1=p.1.weight then(e.1,e.2|||1 <<< p.2) else e).map (·.1)=es.map (·.1):=by rw[ff];refine kP λe _=>?_;show(if e.1=p.1.weight then(e.1,e.2|||1 <<< p.2) else e).1=e.1;split<;>rfl
  refine⟨by rw[aw];exact h.nd,λe he j=>?_,λq az=>?_⟩
  ·obtain⟨bV,iZ,rfl⟩:=dp.mp he;by_cases hw:bV.1=p.1.weight
   ·rw[aV hw];simp only;rw[w2,uN,h.bit bV iZ,EG,mb];constructor
    ·rintro(⟨q,aX,bt,cn⟩|rfl)
     ·exact⟨q,lw _ aX,bt,cn⟩
     ·exact⟨p,by simp,hw.symm,rfl⟩
    ·rintro⟨q,aX,bt,cn⟩;rcases di.mp aX with aX|aX
     ·exact .inl ⟨q,aX,bt,cn⟩
     ·rw[ec.mp aX] at cn;exact .inr cn.symm
   ·rw[aN hw,h.bit bV iZ];constructor
    ·rintro⟨q,aX,bt,cn⟩;exact⟨q,lw _ aX,bt,cn⟩
    ·rintro⟨q,aX,bt,cn⟩;rcases di.mp aX with aX|aX
     ·exact⟨q,aX,bt,cn⟩
     ·rw[ec.mp aX] at bt;exact absurd bt.symm hw
  ·have:p.1.weight∈es.map (·.1):=by obtain⟨e,he,hw⟩:=oY.mp al;exact dp.mpr ⟨e,he,by simpa using hw⟩
   have gS:q.1.weight∈es.map (·.1):=by
    rcases di.mp az with az|az
    ·obtain⟨e,he,hw⟩:=h.has q az;exact dp.mpr ⟨e,he,hw⟩
    ·rw[ec.mp az];exact this
   rw[<-aw] at gS;obtain⟨e,he,hw⟩:=dp.mp gS;exact⟨e,he,hw⟩
 ·rw[aN al];have ak:∀e∈es,e.1≠p.1.weight:=λe he z=>al (oY.mpr ⟨e,he,by simpa using z⟩);refine⟨?_,λe he j=>?_,λq az=>?_⟩
  ·rw[hi,jb];refine⟨h.nd,by simp,λa r6 b I=>?_⟩;obtain⟨e,he,rfl⟩:=dp.mp r6;rw[show b=p.1.weight by simpa using I];exact ak e he
  ·rcases di.mp he with he|he
   ·rw[h.bit e he];constructor
    ·rintro⟨q,aX,bt,cn⟩;exact⟨q,lw _ aX,bt,cn⟩
    ·rintro⟨q,aX,bt,cn⟩;rcases di.mp aX with aX|aX
     ·exact⟨q,aX,bt,cn⟩
     ·rw[ec.mp aX] at bt;exact absurd bt.symm (ak e he)
   ·rw[ec.mp he];simp only;rw[EG,mb];constructor
    ·rintro rfl;exact⟨p,by simp,rfl,rfl⟩
    ·rintro⟨q,aX,bt,cn⟩;rcases di.mp aX with aX|aX
     ·obtain⟨bV,iZ,hw⟩:=h.has q aX;exact absurd (hw.trans bt) (ak bV iZ)
     ·rw[ec.mp aX] at cn;exact cn.symm
  ·rcases di.mp az with az|az
   ·obtain⟨e,he,hw⟩:=h.has q az;exact⟨e,lw _ he,hw⟩
   ·rw[ec.mp az];exact⟨(p.1.weight,1 <<< p.2),by simp,rfl⟩
theorem nP.all:∀(l m:List (Chain×Nat)) (es:List (Weight×Nat)),nP m es->nP (m++l) (l.foldl (λes p=>lE es p.1.weight (1 <<< p.2)) es)
 |[],m,es,h=>by simpa using h
 |p::l,m,es,h=>by have:=nP.all l (m++[p]) _ (h.add p);simpa using this
def Lz (s:Selector):nP (gq 0 s) (tF s):=by exact nP.all (gq 0 s) [] [] ⟨by simp,λe he=>by simp at he,λp am=>by simp at am⟩
def Nv (x y:Weight):heavier x y=true↔y.1 < x.1\/(x.1=y.1/\y.2 < x.2):=by simp[heavier]
def og (x y:Weight):heavier x y=false↔¬(y.1 < x.1\/(x.1=y.1/\y.2 < x.2)):=by rw[<-Nv];simp
def OT (h:B3 a b=false):heavier b.1 a.1=false:=by unfold B3 at h;have h:=tf h;rw[og];omega
def FN (aa:heavier x y=false)(ac:heavier y x=false):x=y:=by
 rw[og] at aa ac;obtain⟨a,b⟩:=x;obtain⟨c,d⟩:=y;simp only at aa ac;have:a=c:=by omega
 have:b=d:=by omega
 simp_all
theorem Jh:∀(l:List Chain) (r:Weight),let q:=l.foldl (λ(x:Weight) (c:Chain)=>if heavier c.weight x=true then c.weight else x) r
  (q=r\/∃c∈l,q=c.weight)/\heavier r q=false/\∀c∈l,heavier c.weight q=false
 |[],r=>⟨.inl rfl,by rw[og];exact λz=>by have:r.1 < r.1\/r.1=r.1/\r.2 < r.2:=z;omega,λc ai=>by simp at ai⟩
 |c::l,r=>by
  intro q;obtain⟨aa,ac,av⟩:=Jh l (if heavier c.weight r=true then c.weight else r);have e:q=l.foldl (λ(x:Weight) (c:Chain)=>if heavier c.weight x=true then c.weight else x) (if heavier c.weight r=true then c.weight else r):=rfl;rw[<-e] at aa ac av;by_cases ai:heavier c.weight r=true
  ·rw[aV ai] at aa ac;refine⟨.inr ?_,?_,λd hd=>?_⟩
   ·rcases aa with aa|⟨d,eA,k3⟩
    ·exact⟨c,dW ..,aa⟩
    ·exact⟨d,d7 _ eA,k3⟩
   ·rw[Nv] at ai;rw[og] at ac ⊢;omega
   ·rcases cr.mp hd with rfl|hd
    ·exact ac
    ·exact av d hd
  ·rw[aN ai] at aa ac;refine⟨aa.imp id λ⟨d,eA,k3⟩=>⟨d,d7 _ eA,k3⟩,ac,λd hd=>?_⟩;rcases cr.mp hd with rfl|hd
   ·have ai:heavier d.weight r=false:=by simpa using ai
    rw[og] at ai ac ⊢;omega
   ·exact av d hd
def afX (ai:c∈l)(h:∀d∈l,heavier d.weight c.weight=false):weightOf l=c.weight:=by
 obtain⟨aa,ac,av⟩:=Jh l (0,0);have e:weightOf l=l.foldl (λ(x:Weight) (c:Chain)=>if heavier c.weight x=true then c.weight else x) (0,0):=rfl;rw[<-e] at aa ac av;refine FN ?_ (av c ai);rcases aa with aa|⟨d,eA,k3⟩
 ·rw[aa,og];simp
 ·rw[k3];exact h d eA
def afY (h:l≠[]):∃c∈l,weightOf l=c.weight/\∀d∈l,heavier d.weight c.weight=false:=by
 obtain⟨aa,ac,av⟩:=Jh l (0,0);have e:weightOf l=l.foldl (λ(x:Weight) (c:Chain)=>if heavier c.weight x=true then c.weight else x) (0,0):=rfl;rw[<-e] at aa ac av;rcases aa with aa|⟨d,eA,k3⟩
 ·obtain⟨c,hM,rfl⟩:=List.exists_cons_of_ne_nil h;have ai:=av c (dW ..);have:c.weight=(0,0):=by rw[aa] at ai;refine FN ai ?_;rw[og];simp
  exact⟨c,dW ..,by rw[aa,this],λd hd=>by rw[this,<-aa];exact av d hd⟩
 ·exact⟨d,eA,k3,λe he=>by rw[<-k3];exact av e he⟩
def mS (es:List (Weight×Nat))(re:Nat):Option Weight:=(es.find? λe=>decide (re&&& e.2≠0)).map (·.1)
def TN {a b:Nat}:a&&& b≠0↔∃j,a.testBit j=true/\b.testBit j=true:=by
 constructor
 ·intro h;obtain⟨j,bF⟩:=Nat.exists_testBit_of_ne_zero h;rw[testBit_and,d6] at bF;exact⟨j,bF⟩
 ·rintro⟨j,h⟩ z;have:(a&&& b).testBit j=true:=by rw[testBit_and,d6];exact h
  rw[z] at this;simp at this
def afT (h:tm s es)(re:Nat):mS es re=if((gq 0 s).filter λp=>re.testBit p.2).isEmpty=true then none else some (weightOf (((gq 0 s).filter λp=>re.testBit p.2).map (·.1))):=by
 have E:=Lz s;have hit:∀e∈es,(re&&& e.2≠0↔∃p∈(gq 0 s).filter (λp=>re.testBit p.2),p.1.weight=e.1):=λe he=>by
  rw[TN];constructor
  ·rintro⟨j,Ou,Gy⟩;obtain⟨p,fp,eI,zt⟩:=(E.bit e (h.perm.mem_iff.mp he) j).mp Gy;exact⟨p,hj.mpr ⟨fp,by rw[zt];exact Ou⟩,eI⟩
  ·rintro⟨p,fp,eI⟩;obtain⟨fp,zt⟩:=hj.mp fp;exact⟨p.2,zt,(E.bit e (h.perm.mem_iff.mp he) p.2).mpr ⟨p,fp,eI,rfl⟩⟩
 unfold mS;cases hf:es.find? (λe=>decide (re&&& e.2≠0)) with
 |none=>
  rw[sZ] at hf;have:(gq 0 s).filter (λp=>re.testBit p.2)=[]:=by refine List.eq_nil_iff_forall_not_mem.mpr λp am=>?_;obtain⟨e,he,hw⟩:=E.has p (hj.mp am).1;have he:=h.perm.mem_iff.mpr he;exact hf e he (by simpa using(hit e he).mpr ⟨p,am,hw.symm⟩)
  rw[this];rfl
 |some e=>
  obtain⟨aa,as,bs,ac,av⟩:=List.find?_eq_some_iff_append.mp hf;have he:e∈es:=by rw[ac];simp
  obtain⟨p,am,hw⟩:=(hit e he).mp (by simpa using aa);rw[aN (by intro z;rw[isEmpty_iff.mp z] at am;simp at am)];show some e.1=_
  congr 1
  rw[<-hw];refine(afX (o1 am) λd hd=>?_).symm;obtain⟨q,az,rfl⟩:=dp.mp hd;obtain⟨bV,iZ,N9⟩:=E.has q (hj.mp az).1;have iZ:=h.perm.mem_iff.mpr iZ;have dz:=(hit bV iZ).mpr ⟨q,az,N9.symm⟩;rw[hw,<-N9];rw[ac] at iZ;rcases di.mp iZ with z|z
  ·have:=av bV z;rw[ej dz] at this;cases this
  ·rcases cr.mp z with rfl|z
   ·rw[og];omega
   ·have hd:=h.desc;rw[ac,Ag,wZ] at hd;exact OT (hd.2.1.1 bV z)
def tm.first (h:tm s es)(aD:s≠[]):∃b r,es=(weightOf s,b)::r:=by
 have E:=Lz s;obtain⟨c,ai,hw,hm⟩:=afY aD;have j_:c∈(gq 0 s).map (·.1):=by rw[xE];exact ai
 obtain⟨p,am,rfl⟩:=dp.mp j_;obtain⟨e,he,Zd⟩:=E.has p am;have he:=h.perm.mem_iff.mpr he;cases es with
 |nil=>simp at he
 |cons a r=>
  refine⟨a.2,r,?_⟩
  congr 1
  have al:a∈tF s:=h.perm.mem_iff.mp (dW ..);have:∃q∈gq 0 s,q.1.weight=a.1:=by
   by_cases z:a.2=0
   ·exfalso;have Cn:∀(l:List (Chain×Nat)) (es:List (Weight×Nat)),(∀e∈es,e.2≠0)->∀e∈l.foldl (λes p=>lE es p.1.weight (1 <<< p.2)) es,e.2≠0:=by
     intro l
     induction l with
     |nil=>exact λes h=>h
     |cons p l bE=>
      intro es yH;refine bE _ λe he=>?_;have one:(1 <<< p.2)≠0:=by rw[Nat.shiftLeft_eq];have:=two_pow_pos p.2;omega
      replace he:e∈lE es p.1.weight (1 <<< p.2):=he;unfold lE at he;split at he
      ·obtain⟨bV,iZ,rfl⟩:=dp.mp he;split
       ·intro z;have:=yH bV iZ;obtain⟨j,bF⟩:=Nat.exists_testBit_of_ne_zero this;have hz:(bV.2|||1 <<< p.2).testBit j=true:=by rw[w2,bF];rfl
        rw[show bV.2|||1 <<< p.2=0 from z] at hz;simp at hz
       ·exact yH bV iZ
      ·rcases di.mp he with he|he
       ·exact yH e he
       ·rw[ec.mp he];exact one
    exact Cn (gq 0 s) [] (λe he=>by simp at he) a al z
   ·obtain⟨j,bF⟩:=Nat.exists_testBit_of_ne_zero z;obtain⟨q,aX,bt,cn⟩:=(E.bit a al j).mp bF;exact⟨q,aX,bt⟩
  obtain⟨q,az,YM⟩:=this;have aa:heavier a.1 p.1.weight=false:=by rw[<-YM];exact hm q.1 (by rw[<-xE 0 s];exact o1 az)
  have ac:heavier p.1.weight a.1=false:=by
   rw[<-Zd];rcases cr.mp he with rfl|he
   ·rw[og];omega
   ·exact OT ((wZ.mp h.desc).1 e he)
  rw[hw,<-FN aa ac]
def nD (aZ:eG)(es:List (Weight×Nat))(rows:List Row):List (Nat×Weight):=(cells aZ rows).filterMap λc=>(mS es c.re).map λw=>(c.num,w)
def gB (W:State)(s:Selector)(x:Nat):Option Weight:=if(s.filter λc=>(matched W c).contains x).isEmpty=true then none else some (weightOf (s.filter λc=>(matched W c).contains x))
def bD.IQ (w:bD W)(h:tm s es):nD (cb s) es (rowsOf W)=(ordered W).filterMap λx=>(gB W s x).map λv=>(x,v):=by
 have g:=w.good (ac5 s);have nums:(cells (cb s) (rowsOf W)).map (·.num)=ordered W:=by
  rw[AZ];unfold rowsOf;rw[ff]
  conv=>rhs;rw[<-s8 (ordered W)]
  refine kP λy bk=>?_;obtain⟨m,hm,rfl⟩:=gy.mp (w.ub.mp bk);show(oz W m.id).id=m.id;rw[w.v8 hm]
 unfold nD;rw[<-nums,List.filterMap_map];have:∀c∈cells (cb s) (rowsOf W),(mS es c.re).map (λw=>(c.num,w))=((λx=>(gB W s x).map λv=>(x,v)) ∘ λc:Cell=>c.num) c:=λc ai=>by
  show _=(gB W s c.num).map λv=>(c.num,v);have Wh:=g c ai;rw[afT h];have X3:((gq 0 s).filter λp=>c.re.testBit p.2)=(gq 0 s).filter λp=>(matched W p.1).contains c.num:=by refine filter_congr λp am=>?_;obtain⟨aa,ac⟩:=aaO W s am;rw[lv,Wh.re,kn,aa];exact⟨λz=>z.2,λz=>⟨ac,z⟩⟩
  have hm:((gq 0 s).filter λp=>(matched W p.1).contains c.num).map (·.1)=s.filter λb7=>(matched W b7).contains c.num:=by
   conv=>rhs;rw[<-xE 0 s,wR]
   rfl
  unfold gB;rw[X3,<-hm,List.isEmpty_map]
 have UF:∀{l:List Cell},(∀c∈l,(mS es c.re).map (λw=>(c.num,w))=((λx=>(gB W s x).map λv=>(x,v)) ∘ λc:Cell=>c.num) c)->l.filterMap (λc=>(mS es c.re).map λw=>(c.num,w))=l.filterMap ((λx=>(gB W s x).map λv=>(x,v)) ∘ λc:Cell=>c.num):=by
  intro l
  induction l with
  |nil=>intro _;rfl
  |cons a l bE=>intro h;rw[nH,nH,h a (dW ..),bE λc ai=>h c (d7 _ ai)]
 exact UF this
def QV (W:State)(s:Selector)(x:Nat):selects W s x=(gB W s x).isSome:=by
 unfold selects gB Chain.matches_;by_cases h:(s.filter λc=>(matched W c).contains x).isEmpty=true
 ·rw[aV h];rw[isEmpty_iff,List.filter_eq_nil_iff] at h;rw[show(none:Option Weight).isSome=false from rfl,List.any_eq_false];exact h
 ·rw[aN h];show _=true;rw[oY];obtain⟨c,ai⟩:=List.exists_mem_of_ne_nil _ (λz=>h (isEmpty_iff.mpr z));exact⟨c,(hj.mp ai).1,(hj.mp ai).2⟩
def aeh (W:State)(s:Selector):((ordered W).filter λx=>(gB W s x).isSome)=(ordered W).filter (s.flatMap (matched W)).contains:=by
 refine filter_congr λx _=>?_;rw[<-QV];unfold selects Chain.matches_;rw[lv,oY,kn,l8];constructor
 ·rintro⟨c,aa,ac⟩;exact⟨c,aa,by simpa using ac⟩
 ·rintro⟨c,aa,ac⟩;exact⟨c,aa,by simpa using ac⟩
def afW (W:State)(p x:Nat):weighed (tabled W p) x=(W.rules.filter λr=>r.prop==p).filterMap λr=>(gB W r.sel x).map λv=>(r,v):=by
 unfold weighed tabled;rw[List.filterMap_map]
 congr 1
 funext r
 show(if(((r.sel.map λc=>(c,matched W c)).filter λc=>c.2.contains x).map λc=>c.1).isEmpty=true then none else some (r,weightOf (((r.sel.map λc=>(c,matched W c)).filter λc=>c.2.contains x).map λc=>c.1)))=_;have e:((r.sel.map λc=>(c,matched W c)).filter λc=>c.2.contains x).map (λc=>c.1)=r.sel.filter λc=>(matched W c).contains x:=by rw[wR,ff];show List.map (λc=>c) _=_;rw[List.map_id'];rfl
 rw[e];unfold gB;split<;>rfl
abbrev hZ:=Nat×Rule×Weight
def EB (b:Bool):Nat:=if b=true then 1 else 0
def q8 (a b:hZ):Bool:=decide (EB a.2.1.strong < EB b.2.1.strong\/(a.2.1.strong=b.2.1.strong/\(a.2.2.1 < b.2.2.1\/(a.2.2.1=b.2.2.1/\(a.2.2.2 < b.2.2.2\/(a.2.2.2=b.2.2.2/\a.1 < b.1))))))
def tH (w:Option (Rule×Weight))(r:Rule×Weight):Option (Rule×Weight):=match w with
 |none=>some r
 |some q=>if(if r.1.strong !=q.1.strong then r.1.strong else !heavier q.2 r.2)=true then some r else some q
def Ma (l:List (Rule×Weight)):first l=l.foldl tH none:=rfl
def VE (l:List (Rule×Weight))(r:Rule×Weight):first (l++[r])=tH (first l) r:=by rw[Ma,Ma,wS];rfl
def VD (l:List (Rule×Weight))(h:first l=some q):q∈l:=by
 have:∀(l:List (Rule×Weight)) (w:Option (Rule×Weight)),l.foldl tH w=some q->q∈l\/w=some q:=by
  intro l
  induction l with
  |nil=>exact λw h=>.inr h
  |cons a l bE=>
   intro w h;rcases bE _ h with h|h
   ·exact .inl (d7 _ h)
   ·cases w with
    |none=>rw[<-dZ (show some a=some q from h)];exact .inl (dW ..)
    |some u=>
     by_cases ai:(if a.1.strong !=u.1.strong then a.1.strong else !heavier u.2 a.2)=true
     ·rw[show tH (some u) a=some a from aV ai] at h;rw[<-dZ h];exact .inl (dW ..)
     ·rw[show tH (some u) a=some u from aN ai] at h;exact .inr h
 rcases this l none h with h|h
 ·exact h
 ·cases h
def Mb (h:hZ):∀(l:List hZ),h∈l->(l.Pairwise λa b=>a.1 < b.1)->(∀q∈l,q8 h q=false)->first (l.map (·.2))=some h.2:=by
 have key:∀(k:Nat) (l:List hZ),l.length=k->h∈l->(l.Pairwise λa b=>a.1 < b.1)->(∀q∈l,q8 h q=false)->first (l.map (·.2))=some h.2:=by
  intro k
  induction k with
  |zero=>intro l aC hm;rw[List.length_eq_zero_iff.mp aC] at hm;simp at hm
  |succ k bE=>
   intro l aC hm am az;obtain⟨hM,r,rfl⟩:∃hM r,l=hM++[r]:=⟨l.dropLast,l.getLast (by intro z;rw[z] at aC;cases aC),(Ab _).symm⟩;rw[Ag] at am;obtain⟨YG,_,YH⟩:=am;rw[hi,ck,p_,VE];have au:=tf (az r (by simp));by_cases FQ:h∈hM
   ·rw[bE hM (by simpa using aC) FQ YG λq z=>az q (lw _ z)];unfold tH;simp only;have ai:=YH h FQ r (by simp);rw[aN];intro z;by_cases aD:r.2.1.strong=h.2.1.strong
    ·rw[aN (by simpa using aD)] at z;have z:heavier h.2.2 r.2.2=false:=by simpa using z
     rw[og] at z;apply au;exact .inr ⟨aD.symm,by omega⟩
    ·rw[aV (by simpa using aD)] at z;apply au
     left
     cases dz:h.2.1.strong
     ·rw[z];decide
     ·rw[dz] at aD;exact absurd z aD
   ·have e:h=r:=by
     rcases di.mp hm with z|z
     ·exact absurd z FQ
     ·simpa using z
    subst e;cases hf:first (hM.map (·.2)) with
    |none=>rfl
    |some q=>
     obtain⟨er,gS,rfl⟩:=dp.mp (VD _ hf);have hz:=tf (az er (lw _ gS));unfold tH;simp only;rw[aV];by_cases aD:h.2.1.strong=er.2.1.strong
     ·rw[aN (by simpa using aD)];have:heavier er.2.2 h.2.2=false:=by rw[og];intro z;apply hz;exact .inr ⟨aD,by omega⟩
      rw[this];rfl
     ·rw[aV (by simpa using aD)];cases dz:h.2.1.strong
      ·exfalso;apply hz
       left
       cases X8:er.2.1.strong
       ·rw[dz,X8] at aD;exact absurd rfl aD
       ·rw[dz];decide
      ·rfl
 exact λl=>key _ l rfl
theorem QA:∀(L:List hZ) (l:List hZ) (n:Nat),L.Perm l->(L.Pairwise λa b=>q8 a b=false)->(l.Pairwise λa b=>a.1 < b.1)->(l.map λt=>t.2.1.id).Nodup->L.length<=n->rivals n (l.map (·.2))=L.map (·.2)
 |[],l,n,am,_,_,_,_=>by rw[am.symm.eq_nil];cases n<;>rfl
 |h::L,l,0,_,_,_,_,ak=>by simp at ak
 |h::L,l,n+1,am,hd,aR,fz,ak=>by
  obtain⟨yE,hd2⟩:=wZ.mp hd;have hm:h∈l:=am.mem_iff.mp (dW ..);have y3:q8 h h=false:=cW (by omega);have Ys:∀q∈l,q8 h q=false:=λq az=>by
   rcases cr.mp (am.mem_iff.mpr az) with rfl|az
   ·exact y3
   ·exact yE q az
  have hf:=Mb h l hm aR Ys;show(match first (l.map λt:hZ=>t.2) with
   |none=>[]
   |some r=>r::rivals n ((l.map λt:hZ=>t.2).filter λq=>q.1.id !=r.1.id))=_
  rw[hf];simp only;rw[ck]
  congr 1
  have aE:(l.map (·.2)).filter (λq=>q.1.id !=h.2.1.id)=(l.filter λt=>t.2.1.id !=h.2.1.id).map (·.2):=by rw[wR];rfl
  rw[aE];have cT:(h::L).filter (λt=>t.2.1.id !=h.2.1.id)=L:=by rw[uP,aN (by simp)];refine filter_eq_self.mpr λq az=>?_;have NN:((h::L).map λt=>t.2.1.id).Nodup:=((am.map _).nodup_iff).mpr fz;rw[ck,hk] at NN;have:q.2.1.id≠h.2.1.id:=λz=>NN.1 (by rw[<-z];exact o1 (f:=λt:hZ=>t.2.1.id) az);simpa using this
  have pH:L.Perm (l.filter λt=>t.2.1.id !=h.2.1.id):=by have:=am.filter λt=>t.2.1.id !=h.2.1.id;rw[cT] at this;exact this
  exact QA L _ n pH hd2 (aR.sublist nI) (sX (wN _ nI) fz) (by simpa using ak)
def VF {L l:List hZ}(am:L.Perm l)(hd:L.Pairwise λa b=>q8 a b=false)(aR:l.Pairwise λa b=>a.1 < b.1):first (l.map (·.2))=L.head?.map (·.2):=by
 cases L with
 |nil=>rw[am.symm.eq_nil];rfl
 |cons h L=>
  have hm:h∈l:=am.mem_iff.mp (dW ..);obtain⟨yE,hd2⟩:=wZ.mp hd;refine Mb h l hm aR λq az=>?_;rcases cr.mp (am.mem_iff.mpr az) with rfl|az
  ·exact cW (by omega)
  ·exact yE q az
def gN (W:State)(x:Nat):Nat->List Rule->List hZ
 |_,[]=>[]
 |i,r::rs=>match gB W r.sel x with
  |none=>gN W x (i+1) rs
  |some v=>(i,r,v)::gN W x (i+1) rs
theorem EM (W:State)(x:Nat):∀(rs:List Rule) (i:Nat),(gN W x i rs).map (·.2)=rs.filterMap λr=>(gB W r.sel x).map λv=>(r,v)
 |[],_=>rfl
 |r::rs,i=>by
  unfold gN;rw[nH];cases gB W r.sel x with
  |none=>exact EM W x rs (i+1)
  |some v=>show(r,v)::(gN W x (i+1) rs).map (·.2)=_;rw[EM W x rs (i+1)];rfl
theorem EL (W:State)(x:Nat):∀(rs:List Rule) (i:Nat),∀q∈gN W x i rs,i<=q.1
 |[],_,q,h=>by simp[gN] at h
 |r::rs,i,q,h=>by
  unfold gN at h;cases e:gB W r.sel x with
  |none=>rw[e] at h;have:=EL W x rs (i+1) q h;omega
  |some v=>
   rw[e] at h;rcases cr.mp h with rfl|h
   ·exact b5 _
   ·have:=EL W x rs (i+1) q h;omega
theorem AW (W:State)(x:Nat):∀(rs:List Rule) (i:Nat),(gN W x i rs).Pairwise λa b=>a.1 < b.1
 |[],_=>.nil
 |r::rs,i=>by
  unfold gN;cases gB W r.sel x with
  |none=>exact AW W x rs (i+1)
  |some v=>exact .cons (λq az=>by have:=EL W x rs (i+1) q az;show i < q.1;omega) (AW W x rs (i+1))
theorem xC (W:State)(x:Nat):∀(rs:List Rule) (i:Nat),((gN W x i rs).map λt=>t.2.1).Sublist rs
 |[],_=>.slnil
 |r::rs,i=>by
  unfold gN;cases gB W r.sel x with
  |none=>exact .cons _ (xC W x rs (i+1))
  |some v=>exact .cons_cons _ (xC W x rs (i+1))
theorem EN (W:State)(x:Nat):∀(rs:List Rule) (i:Nat) (r:Rule),gN W x i (rs++[r])=gN W x i rs++(match gB W r.sel x with
  |none=>[]
  |some v=>[(i+rs.length,r,v)])
 |[],i,r=>by
  show gN W x i [r]=_;unfold gN;cases gB W r.sel x with
  |none=>rfl
  |some v=>rfl
 |q::rs,i,r=>by
  rw[cons_append];unfold gN;have e:i+1+rs.length=i+(rs.length+1):=by omega
  cases gB W q.sel x with
  |none=>simp only;rw[EN W x rs (i+1) r,e];rfl
  |some v=>simp only;rw[EN W x rs (i+1) r,e];rfl
def h4 (W:State)(p:Nat):List Rule:=W.rules.filter λr=>r.prop==p
def RV (W:State)(p x:Nat):weighed (tabled W p) x=(gN W x 0 (h4 W p)).map (·.2):=by rw[afW,EM];rfl
structure rC (W:State)(p x:Nat)(L:List hZ):Prop where
 perm:L.Perm (gN W x 0 (h4 W p))
 desc:L.Pairwise λa b=>q8 a b=false
def rC.first {p x:Nat}(h:rC W p x L):first (weighed (tabled W p) x)=L.head?.map (·.2):=by rw[RV];exact VF h.perm h.desc (AW W x _ 0)
def rC.rivals {p x:Nat}(h:rC W p x L)(nd:(W.rules.map (·.id)).Nodup):rivals W.rules.length (weighed (tabled W p) x)=L.map (·.2):=by
 rw[RV];have aD:=xC W x (h4 W p) 0;refine QA L _ _ h.perm h.desc (AW W x _ 0) ?_ ?_
 ·have:((gN W x 0 (h4 W p)).map λt=>t.2.1.id)=((gN W x 0 (h4 W p)).map λt=>t.2.1).map (·.id):=by rw[ff];rfl
  rw[this];exact sX (wN _ (aD.trans nI)) nd
 ·have aa:=(aD.trans nI).length_le;rw[cc] at aa;rw[h.perm.length_eq];exact aa
theorem bD.Kr (w:bD W):∀(m k x:Nat),x∈ids W->kC W x<=m->m<=k->above W k x=above W m x
 |0,0,x,_,_,_=>rfl
 |0,k+1,x,ao,hm,_=>by
  obtain⟨n,ak,rfl⟩:=gy.mp ao;have:n.parent=n.id:=by
   by_cases z:n.parent=n.id
   ·exact z
   ·have:=w.uu ak z;omega
  show(match node W n.id with
   |some jw=>if jw.parent=n.id then[] else jw.parent::above W k jw.parent
   |none=>[])=[]
  rw[w.jy ak];simp only;rw[aV this]
 |m+1,0,x,_,_,aw=>by omega
 |m+1,k+1,x,ao,hm,aw=>by
  obtain⟨n,ak,rfl⟩:=gy.mp ao;show(match node W n.id with
   |some jw=>if jw.parent=n.id then[] else jw.parent::above W k jw.parent
   |none=>[])=(match node W n.id with
   |some jw=>if jw.parent=n.id then[] else jw.parent::above W m jw.parent
   |none=>[])
  rw[w.jy ak];simp only;by_cases z:n.parent=n.id
  ·rw[aV z,aV z]
  ·rw[aN z,aN z];have:=w.uu ak z;rw[w.Kr m k n.parent (w.uv ak) (by omega) (by omega)]
def xw (W:State)(x:Nat):List Nat:=above W W.nodes.length x
def bD.Tv (w:bD W)(ak:n∈W.nodes):xw W n.id=if n.parent=n.id then[] else n.parent::xw W n.parent:=by
 have ao:n.id∈ids W:=gy.mpr ⟨n,ak,rfl⟩;have aC:=BR ao;unfold xw;obtain⟨k,aw⟩:∃j,W.nodes.length=j+1:=⟨W.nodes.length - 1,by omega⟩;by_cases z:n.parent=n.id
 ·rw[aV z,aw];show(match node W n.id with
   |some jw=>if jw.parent=n.id then[] else jw.parent::above W k jw.parent
   |none=>[])=[]
  rw[w.jy ak];simp only;rw[aV z]
 ·rw[aN z,aw];show(match node W n.id with
   |some jw=>if jw.parent=n.id then[] else jw.parent::above W k jw.parent
   |none=>[])=_
  rw[w.jy ak];simp only;have:=w.uu ak z;rw[aN z,w.Kr k (k+1) n.parent (w.uv ak) (by omega) (by omega)]
def ya (W:State)(p y:Nat):Option Rule:=(first (weighed (tabled W p) y)).map λr=>r.1
def QF (p x:Nat):ruleAt W p x=((x::(if DOWN<=p then xw W x else[])).filterMap (ya W p)).head?:=rfl
def Mf {y:Nat}(h:f y=none):((y::l).filterMap f).head?=(l.filterMap f).head?:=by rw[nH,h]
def Mg {y:Nat}(h:f y=some r):((y::l).filterMap f).head?=some r:=by rw[nH,h];rfl
section
variable {W:State}
def L_ {l:List Nat}{p:Nat->Bool}{k:Nat}(aC:l.Pairwise (·< ·))(aw:k∈l)(am:p k=true)(h:∀j∈l,j < k->p j=false):l.find? p=some k:=by rw[List.find?_eq_some_iff_append];obtain⟨a,b,rfl⟩:=rq aw;refine⟨am,a,b,rfl,λj bF=>?_⟩;rw[Ag] at aC;rw[h j (by simp[bF]) (aC.2.2 j bF k (by simp))];rfl
def xg (l:List Nat)(f k:Nat):Prop:=f<=k/\k∉l/\∀j,f<=j->j < k->j∈l
def xg.lt {f k m:Nat}(h:xg l f k)(aC:l.length < m):k < f+m:=by
 by_cases z:k < f+m
 ·exact z
 ·exfalso;have aD:(range' f m) ⊆ l:=λj bF=>by obtain⟨i,aR,rfl⟩:=wY.mp bF;exact h.2.2 _ (by omega) (by omega)
  have:=(List.nodup_range' (s:=f) (n:=m) (step:=1)).length_le_of_subset aD;rw[List.length_range'] at this;omega
def bD.Fk (w:bD W){k:Nat}(h:xg (ids W) 0 k)(aC:W.nodes.length≠128):freeNode W=some k:=by
 have cO:k < 0+128:=h.lt (by unfold ids;rw[cc];have:=w.kE;omega);unfold freeNode;refine L_ (by rw[show NODES=128 from rfl];exact List.pairwise_lt_range) (uS.mpr (by unfold NODES;omega)) ?_ λj _ bF=>?_
 ·rw[Ch.mpr h.2.1];rfl
 ·have:=h.2.2 j (eY _) bF;cases e:node W j with
  |none=>exact absurd this (Ch.mp e)
  |some n=>rfl
def bD.Fj (w:bD W)(aC:W.nodes.length=128):freeNode W=none:=by
 unfold freeNode;rw[sZ];intro k aw;have aw:k < 128:=uS.mp aw;have:k∈ids W:=by
  by_cases z:k∈ids W
  ·exact z
  ·exfalso;have aD:(k::ids W) ⊆ range 128:=λj bF=>by
    rcases cr.mp bF with rfl|bF
    ·exact uS.mpr aw
    ·obtain⟨n,ak,rfl⟩:=gy.mp bF;exact uS.mpr (w.lt n ak)
   have:=(hk.mpr ⟨z,w.nd⟩:(k::ids W).Nodup).length_le_of_subset aD;simp[ids] at this;omega
 cases e:node W k with
 |none=>exact absurd this (Ch.mp e)
 |some n=>simp
structure w8 (s:Selector):Prop where
 ne:s≠[]
 len:(cb s).length<=257
 tests:∀c∈s,∀p∈fD c,p.2.tests.length<=257/\∀q,Test.isnt q∈p.2.tests->q.tests.length<=257
structure gp (W:State):Prop where
 nd:(W.rules.map (·.id)).Nodup
 lt:∀r∈W.rules,1<=r.id/\r.id<=64
 fit:∀r∈W.rules,w8 r.sel
def ll (W:State):List Nat:=W.rules.map (·.id)
def B5 {x:Nat}:x∈ll W↔∃n∈W.rules,n.id=x:=by unfold ll;rw[dp]
def gp.kE (w:gp W):W.rules.length<=64:=by
 have h:(W.rules.map (·.id)) ⊆ range' 1 64:=λx ao=>by obtain⟨n,aa,ac⟩:=dp.mp ao;rw[<-ac];have:=w.lt n aa;exact wY.mpr ⟨n.id - 1,by omega,by omega⟩
 have:=w.nd.length_le_of_subset h;simpa using this
def Hp {x:Nat}(h:rule W x=some n):n∈W.rules/\n.id=x:=by unfold rule at h;exact⟨s9 h,by simpa using find?_some h⟩
def gp.zJ (w:gp W)(h:r∈W.rules):rule W r.id=some r:=by
 have:∀{l:List Rule},(l.map (·.id)).Nodup->r∈l->l.find? (λm=>m.id==r.id)=some r:=by
  intro l nd h
  induction l with
  |nil=>simp at h
  |cons a l bE=>
   rw[ck,hk] at nd;rw[i'];rcases cr.mp h with rfl|h
   ·simp
   ·have:a.id≠r.id:=λz=>nd.1 (by rw[z];exact o1 h);rw[show(a.id==r.id)=false by simpa using this];exact bE nd.2 h
 exact this w.nd h
def Qs:(range (RULES+1)).drop 1=range' 1 64:=by w_on
def Ey (k:Nat):(W.rules.any λr=>r.id==k)=true↔k∈ll W:=by
 rw[oY,B5];constructor
 ·rintro⟨r,aa,ac⟩;exact⟨r,aa,by simpa using ac⟩
 ·rintro⟨r,aa,ac⟩;exact⟨r,aa,by simpa using ac⟩
def gp.Fk (w:gp W){k:Nat}(h:xg (ll W) 1 k)(aC:W.rules.length≠64):freeRule W=some k:=by
 have cO:k < 1+64:=h.lt (by unfold ll;rw[cc];have:=w.kE;omega);unfold freeRule;rw[Qs];refine L_ (List.pairwise_lt_range' (step:=1)) (wY.mpr ⟨k - 1,by omega,by have:=h.1;omega⟩) ?_ λj bF Yc=>?_
 ·rw[Bool.not_eq_true',<-Bool.not_eq_true,Ey];exact h.2.1
 ·obtain⟨i,aR,rfl⟩:=wY.mp bF;have:=h.2.2 _ (by omega) Yc;rw[(Ey _).mpr this];rfl
def gp.Fj (w:gp W)(aC:W.rules.length=64):freeRule W=none:=by
 unfold freeRule;rw[Qs,sZ];intro k aw;have:k∈ll W:=by
  by_cases z:k∈ll W
  ·exact z
  ·exfalso;have aD:(k::ll W) ⊆ range' 1 64:=λj bF=>by
    rcases cr.mp bF with rfl|bF
    ·exact aw
    ·obtain⟨n,ak,rfl⟩:=B5.mp bF;have:=w.lt n ak;exact wY.mpr ⟨n.id - 1,by omega,by omega⟩
   have:=(hk.mpr ⟨z,w.nd⟩:(k::ll W).Nodup).length_le_of_subset aD;simp[ll] at this;omega
 rw[(Ey k).mpr this];simp
def gp.add (w:gp W)(aa:r.id∉ll W)(ac:1<=r.id)(av:r.id<=64)(hf:w8 r.sel):gp {W with rules:=W.rules++[r]}:=by
 refine⟨?_,λq az=>?_,λq az=>?_⟩
 ·show((W.rules++[r]).map (·.id)).Nodup;rw[hi,jb];refine⟨w.nd,by simp,λa al b I=>?_⟩;rw[show b=r.id by simpa using I];exact λz=>aa (z▸al)
 ·rcases di.mp (show q∈W.rules++[r] from az) with az|az
  ·exact w.lt q az
  ·rw[ec.mp az];exact⟨ac,av⟩
 ·rcases di.mp (show q∈W.rules++[r] from az) with az|az
  ·exact w.fit q az
  ·rw[ec.mp az];exact hf
def gp.drop (w:gp W)(p:Rule->Bool):gp {W with rules:=W.rules.filter p}:=
 ⟨sX (wN _ nI) w.nd,λr au=>w.lt r (hj.mp au).1,λr au=>w.fit r (hj.mp au).1⟩
def gp.nodes (w:gp W)(ns:List Node):gp {W with nodes:=ns}:=⟨w.nd,w.lt,w.fit⟩
def bD.rules (w:bD W)(rs:List Rule):bD {W with rules:=rs}:=⟨w.root,w.nd,w.par,w.lt,w.cls⟩
def Be (t:Nat):bD (fresh t) where
 root:=⟨t,[],[],rfl⟩
 nd:=by show([0]:List Nat).Nodup;simp
 par:=λpre n post e am=>by
  exfalso;have h:(pre++n::post).length=1:=by rw[<-e];rfl
  have am:=uQ.mpr am;rw[dC,fK] at h;omega
 lt:=λn ak=>by rw[ec.mp ak];show 0 < 128;decide
 cls:=λn ak=>by rw[ec.mp ak];exact⟨.nil,by simp⟩
def Bf (t:Nat):gp (fresh t):=⟨.nil,λr au=>(by cases au),λr au=>(by cases au)⟩
def bD.add (w:bD W){p k t:Nat}(am:p∈ids W)(aw:k∉ids W)(aC:k < 128):bD {W with nodes:=W.nodes++[⟨k,p,t,[]⟩]}:=by
 have sb:p≠k:=λz=>aw (z▸am);refine⟨?_,?_,λpre n post e qW=>?_,λn ak=>?_,λn ak=>?_⟩
 ·obtain⟨t',cs,r,e⟩:=w.root;exact⟨t',cs,r++[⟨k,p,t,[]⟩],by show W.nodes++_=_;rw[e];rfl⟩
 ·show((W.nodes++[_]).map λn:Node=>n.id).Nodup;rw[hi,jb];refine⟨w.nd,by simp,λa al b I=>?_⟩;rw[show b=k by simpa using I];exact λz=>aw (z▸al)
 ·have e:W.nodes++[⟨k,p,t,[]⟩]=pre++n::post:=e;rcases List.append_eq_append_iff.mp e with⟨as,aa,ac⟩|⟨bs,aa,ac⟩
  ·cases as with
   |nil=>rw[uT] at ac;injection ac with ac _;subst ac;rw[aa,l7];exact⟨sb,am⟩
   |cons a as=>simp at ac
  ·cases bs with
   |nil=>rw[uT] at ac;injection ac with ac _;subst ac;rw[l7] at aa;rw[<-aa];exact⟨sb,am⟩
   |cons b bs=>injection ac with ac av;subst ac;exact w.par pre n bs aa qW
 ·rcases di.mp (show n∈W.nodes++[_] from ak) with ak|ak
  ·exact w.lt n ak
  ·rw[ec.mp ak];exact aC
 ·rcases di.mp (show n∈W.nodes++[_] from ak) with ak|ak
  ·exact w.cls n ak
  ·rw[ec.mp ak];exact⟨.nil,by simp⟩
def Tx {p k t x:Nat}(sb:p≠k):children {W with nodes:=W.nodes++[⟨k,p,t,[]⟩]} x=if x=p then children W p++[k] else children W x:=by
 unfold children;rw[Ac,hi];by_cases h:x=p
 ·subst h;rw[aV rfl]
  congr 1
  rw[uP,aV (by simp;exact λz=>sb z.symm)];rfl
 ·rw[aN h,uP,aN (by simp;exact λz=>absurd z.symm h)];simp
def bD.aa_ (w:bD W){k:Nat}(aw:k∉ids W):children W k=[]:=by refine List.eq_nil_iff_forall_not_mem.mpr λc ai=>?_;obtain⟨n,aa,ac,av,bn⟩:=mG.mp ai;exact aw (av▸w.uv aa)
def bD.drop (w:bD W){x:Nat}(ao:x≠0)(ai:children W x=[]):bD {W with nodes:=W.nodes.filter λm=>m.id !=x}:=by
 refine⟨?_,sX (wN _ nI) w.nd,λpre m post e qW=>?_,λn ak=>w.lt n (hj.mp ak).1,λn ak=>w.cls n (hj.mp ak).1⟩
 ·obtain⟨t,cs,r,e⟩:=w.root;refine⟨t,cs,r.filter λm=>m.id !=x,?_⟩;show W.nodes.filter (λm=>m.id !=x)=_;rw[e,uP,aV (by simpa using λz=>ao z.symm)]
 ·have e:W.nodes.filter (λm=>m.id !=x)=pre++m::post:=e;obtain⟨a,b,aa,ac,av⟩:=List.filter_eq_append_iff.mp e;obtain⟨cY,eC,bn,cB,gQ,od⟩:=List.filter_eq_cons_iff.mp av;have bV:W.nodes=(a++cY)++m::eC:=by rw[aa,bn];simp
  have al:a++cY≠[]:=λz=>by rw[List.append_eq_nil_iff] at z;rw[z.1] at ac;exact qW (by rw[<-ac];rfl)
  obtain⟨fp,eI⟩:=w.par _ m eC bV al;refine⟨fp,?_⟩;obtain⟨u,aW,yK⟩:=dp.mp eI;have b9:m.parent≠x:=λz=>by have:m.id∈children W x:=mG.mpr ⟨m,by rw[bV];simp,rfl,z,λmU=>fp (by rw[z,mU])⟩;rw[ai] at this;cases this
  rcases di.mp aW with aW|aW
  ·rw[<-ac,<-yK];exact o1 (hj.mpr ⟨aW,by rw[yK];simpa using b9⟩)
  ·have:=cB u aW;rw[yK] at this;exact absurd (by simpa using this) b9
def U3 (x y:Nat):children {W with nodes:=W.nodes.filter λm=>m.id !=x} y=(children W y).filter λc=>c !=x:=by
 unfold children;rw[wR,List.filter_filter,List.filter_filter]
 congr 1
 refine filter_congr λn _=>?_;show((n.parent==y&&n.id !=y)&&(n.id !=x))=((n.id !=x)&&(n.parent==y&&n.id !=y));rw[Bool.and_comm]
def VB {l:List Nat}(nd:l.Nodup)(x:Nat):(l.filter λc=>c !=x)=l.erase x:=by rw[nd.erase_eq_filter]
def aax (m:Node)(k:Nat)(b:Bool):(marked m k b).id=m.id/\(marked m k b).parent=m.parent/\(marked m k b).tag=m.tag:=⟨rfl,rfl,rfl⟩
def gb (x k:Nat)(b:Bool)(m:Node):Node:=if m.id=x then marked m k b else m
def ox (x k:Nat)(b:Bool)(m:Node):(gb x k b m).id=m.id/\(gb x k b m).parent=m.parent/\(gb x k b m).tag=m.tag:=by
 unfold gb;split
 ·exact aax _ _ _
 ·exact⟨rfl,rfl,rfl⟩
def aaw (x k:Nat)(b:Bool)(y:Nat):children {W with nodes:=W.nodes.map (gb x k b)} y=children W y:=by
 unfold children;rw[wR,ff];have:((λn:Node=>n.parent==y&&n.id !=y) ∘ gb x k b)=λn:Node=>n.parent==y&&n.id !=y:=funext λn=>by show((gb x k b n).parent==y&&(gb x k b n).id !=y)=_;rw[(ox x k b n).1,(ox x k b n).2.1]
 rw[this];refine kP λn _=>(ox x k b n).1
def bD.mark (w:bD W){x k:Nat}{b:Bool}(ak:∀n∈W.nodes,n.id=x->b=true->n.classes.contains k=false->n.classes.length < 16):bD {W with nodes:=W.nodes.map (gb x k b)}:=by
 refine⟨?_,?_,λpre m post e qW=>?_,λn h=>?_,λn h=>?_⟩
 ·obtain⟨t,cs,r,e⟩:=w.root;show ∃t cs b8,W.nodes.map (gb x k b)=_;rw[e,ck];unfold gb;split
  ·exact⟨_,_,_,rfl⟩
  ·exact⟨_,_,_,rfl⟩
 ·show((W.nodes.map (gb x k b)).map (·.id)).Nodup;rw[ff];have:((λn:Node=>n.id) ∘ gb x k b)=λn:Node=>n.id:=funext λn=>(ox x k b n).1;rw[this];exact w.nd
 ·have e:W.nodes.map (gb x k b)=pre++m::post:=e;obtain⟨a,c,aa,ac,av⟩:=List.map_eq_append_iff.mp e;obtain⟨cQ,b7,bn,cB,gQ⟩:=List.map_eq_cons_iff.mp av;rw[bn] at aa;have al:a≠[]:=λz=>qW (by rw[<-ac,z];rfl);obtain⟨fp,eI⟩:=w.par a cQ b7 aa al;rw[<-cB,(ox x k b cQ).1,(ox x k b cQ).2.1];refine⟨fp,?_⟩;rw[<-ac,ff];have:((λn:Node=>n.id) ∘ gb x k b)=λn:Node=>n.id:=funext λn=>(ox x k b n).1;rw[this];exact eI
 ·obtain⟨m,hm,rfl⟩:=dp.mp (show n∈W.nodes.map (gb x k b) from h);rw[(ox x k b m).1];exact w.lt m hm
 ·obtain⟨m,hm,rfl⟩:=dp.mp (show n∈W.nodes.map (gb x k b) from h);obtain⟨ip,fH⟩:=w.cls m hm;unfold gb;split
  ·rename_i ao
   unfold marked;cases b with
   |false=>exact⟨sX nI ip,gC nI.length_le fH⟩
   |true=>
    by_cases aw:m.classes.contains k=true
    ·rw[aV rfl,aV aw];exact⟨ip,fH⟩
    ·rw[aV rfl,aN aw];have aw:m.classes.contains k=false:=by simpa using aw
     have aC:=ak m hm ao rfl aw;refine⟨?_,by rw[dC];simp;omega⟩;rw[jb];refine⟨ip,by simp,λa al c ai z=>?_⟩;rw[show c=k by simpa using ai] at z;rw[z] at al;rw[kn.mpr al] at aw;cases aw
  ·exact⟨ip,fH⟩
end
def mQ {n:Nat}(h:then_ x t f=.ok (b,n)):∃a m k,x=.ok (a,m)/\f a (t.drop m)=.ok (b,k)/\n=m+k:=by
 unfold then_ at h;split at h
 ·cases h
 ·rename_i a m
  split at h
  ·cases h
  ·rename_i n5 k e
   injection h with h;injection h with aa ac;subst aa;exact⟨a,m,k,rfl,e,ac.symm⟩
def sm (h:Except.map g x=.ok y):∃z,x=.ok z/\g z=y:=by
 cases x with
 |error k=>cases h
 |ok z=>exact⟨z,rfl,by injection h⟩
theorem GU {one:Bytes->Read α}:∀(f:Nat) (t:Bytes) (l:List α) (n:Nat),manyOf one f t=.ok (l,n)->l.length<=f
 |0,t,l,n,h=>by unfold manyOf at h;injection h with h;injection h with h _;rw[<-h];simp
 |f+1,t,l,n,h=>by
  unfold manyOf at h;split at h
  ·obtain⟨a,m,k,aa,ac,av⟩:=mQ h;obtain⟨z,bn,cB⟩:=sm ac;have:=GU f _ z.1 z.2 bn;injection cB with cB _;rw[<-cB];simp;omega
  ·injection h with h;injection h with h _;rw[<-h];simp
theorem OV {one:Bytes->Read α}{P:α->Prop}{N:Nat}(aI:∀t a n,t.length<=N->one t=.ok (a,n)->P a):∀(f:Nat) (t:Bytes) (l:List α) (n:Nat),t.length<=N->manyOf one f t=.ok (l,n)->∀a∈l,P a
 |0,t,l,n,_,h=>by unfold manyOf at h;injection h with h;injection h with h _;rw[<-h];simp
 |f+1,t,l,n,bY,h=>by
  unfold manyOf at h;split at h
  ·obtain⟨a,m,k,aa,ac,av⟩:=mQ h;obtain⟨z,bn,cB⟩:=sm ac;have bE:=OV aI f _ z.1 z.2 (by rw[ja];omega) bn;injection cB with cB _;rw[<-cB];intro b I;rcases cr.mp I with rfl|I
   ·exact aI _ _ _ bY aa
   ·exact bE b I
  ·injection h with h;injection h with h _;rw[<-h];simp
def ac1 {t:Bytes}{p:Plain}{n:Nat}(h:plain t=.ok (p,n)):p.tests.length<=t.length+1:=by
 unfold plain at h;obtain⟨a,m,k,aa,ac,av⟩:=mQ h;split at ac
 ·cases ac
 ·obtain⟨z,bn,cB⟩:=sm ac;injection cB with cB _;rw[<-cB];have:=GU _ _ z.1 z.2 bn;rw[ja] at this;show z.1.length<=_;omega
def aft {n:Nat}(h:test t=.ok (x,n)):∀q,x=.isnt q->q.tests.length<=t.length+1:=by
 intro q az;subst az;unfold test at h;split at h
 ·obtain⟨a,m,k,aa,ac,av⟩:=mQ h;obtain⟨p,cQ,b0,bn,cB,gQ⟩:=mQ ac;have:=ac1 bn;rw[ja] at this;split at cB
  ·injection cB with cB;injection cB with cB _;injection cB with cB;rw[<-cB];omega
  ·cases cB
 ·split at h
  ·injection h with h;injection h with h _;cases h
  ·cases h
def kind_le {t:Bytes}{x:Kind}{n N:Nat}(bY:t.length<=N)(h:kind t=.ok (x,n)):x.tests.length<=N+1/\∀q,Test.isnt q∈x.tests->q.tests.length<=N+1:=by
 unfold kind at h;obtain⟨a,m,k,aa,ac,av⟩:=mQ h;split at ac
 ·cases ac
 ·obtain⟨z,bn,cB⟩:=sm ac;injection cB with cB _;rw[<-cB];have gQ:=GU _ _ z.1 z.2 bn;have od:=OV (P:=λx=>∀q,x=.isnt q->q.tests.length<=N+1) (N:=N) (λt a n bY h q az=>by have:=aft h q az;omega) _ _ z.1 z.2 (by rw[ja];omega) bn;rw[ja] at gQ;exact⟨by show z.1.length<=_;omega,λq az=>od _ az q rfl⟩
def xe (N:Nat)(x:Kind):Prop:=x.tests.length<=N+1/\∀q,Test.isnt q∈x.tests->q.tests.length<=N+1
theorem OM {N:Nat}:∀(f:Nat) (t:Bytes) (l:List (Link×Kind)) (n:Nat),t.length<=N->links f t=.ok (l,n)->l.length+(t.drop n).length<=t.length/\∀x∈l,xe N x.2
 |0,t,l,n,_,h=>by unfold links at h;injection h with h;injection h with aa ac;rw[<-aa,<-ac];simp
 |f+1,t,l,n,bY,h=>by
  unfold links at h;cases e:t.head?.bind linkOf with
  |none=>rw[e] at h;injection h with h;injection h with aa ac;rw[<-aa,<-ac];simp
  |some dD=>
   rw[e] at h;obtain⟨c,r,rfl⟩:∃c r,t=c::r:=by
    cases t with
    |nil=>cases e
    |cons c r=>exact⟨c,r,rfl⟩
   obtain⟨a,m,k,aa,ac,av⟩:=mQ h;injection aa with aa;injection aa with _ aa;subst aa;obtain⟨kd,cQ,b0,bn,cB,gQ⟩:=mQ ac;obtain⟨z,od,tM⟩:=sm cB;injection tM with tM yf;have d2:((c::r).drop 1).length<=N:=by simp at bY ⊢;omega
   obtain⟨dm,c2⟩:=OM (N:=N) f _ z.1 z.2 (by rw[ja];omega) od;rw[<-tM];constructor
   ·rw[av,gQ,<-yf];rw[show(c::r).drop (1+(cQ+z.2))=(((c::r).drop 1).drop cQ).drop z.2 by rw[iJ,iJ]];simp only[fK,ja] at dm ⊢;omega
   ·intro x ao;rcases cr.mp ao with rfl|ao
    ·exact kind_le d2 bn
    ·exact c2 x ao
def Uw {N:Nat}{n:Nat}(bY:t.length<=N)(h:chain t=.ok (c,n)):c.rest.length+(t.drop n).length<=t.length/\xe N c.first/\∀x∈c.rest,xe N x.2:=by
 unfold chain at h;obtain⟨a,m,k,aa,ac,av⟩:=mQ h;obtain⟨z,bn,cB⟩:=sm ac;injection cB with cB gQ;have hd:(t.drop m).length<=t.length:=by rw[ja];omega
 obtain⟨dm,c2⟩:=OM _ _ z.1 z.2 (gC hd bY) bn;rw[<-cB];refine⟨?_,kind_le bY aa,c2⟩;rw[av,<-gQ,<-iJ];show z.1.length+_<=_;omega
theorem K0 {N:Nat}:∀(f:Nat) (t:Bytes) (s:Selector) (n:Nat),t.length<=N->chains f t=.ok (s,n)->s≠[]/\(cb s).length<=t.length+1/\∀c∈s,∀p∈fD c,xe N p.2
 |0,t,s,n,_,h=>by unfold chains at h;cases h
 |f+1,t,s,n,bY,h=>by
  unfold chains at h;obtain⟨c,m,k,aa,ac,av⟩:=mQ h;obtain⟨dm,c2,Gp⟩:=Uw bY aa;have am:∀p∈fD c,xe N p.2:=λp am=>by
   unfold fD at am;rcases cr.mp am with rfl|am
   ·exact c2
   ·obtain⟨x,ao,rfl⟩:=dp.mp am;exact Gp x ao
  split at ac
  ·injection ac with ac;injection ac with ac _;rw[<-ac];refine⟨by simp,?_,λd hd=>by rw[ec.mp hd];exact am⟩;show(cb [c]).length<=_;unfold cb;rw[kN,List.flatMap_nil,l7,uy];omega
  ·rename_i q e
   split at ac
   ·cases ac
   ·rename_i l hA aL
    injection ac with ac;injection ac with ac _;rw[<-ac];have az:q.length+1=(t.drop m).length:=by rw[e];rfl
    obtain⟨Ou,Gy,ZF⟩:=K0 (N:=N) f q l hA (by rw[ja] at az;omega) aL;refine⟨by simp,?_,λd hd=>?_⟩
    ·show(cb (c::l)).length<=_;unfold cb at Gy ⊢;rw[kN,dC,uy];omega
    ·rcases cr.mp hd with rfl|hd
     ·exact am
     ·exact ZF d hd
  ·cases ac
def Qw (bY:t.length<=256)(h:readSel t=.ok s):w8 s:=by
 unfold readSel at h;cases e:chains (t.length+1) t with
 |error k=>rw[e] at h;cases h
 |ok z=>rw[e] at h;injection h with h;obtain⟨cv,cx⟩:=z;obtain⟨aa,ac,av⟩:=K0 _ t cv cx bY e;have h:cv=s:=h;subst h;exact⟨aa,by omega,λc ai p am=>av c ai p am⟩
structure DL (rows:List Row):Prop where
 nd:(rows.map (·.num)).Nodup
 par:∀pre r post,rows=pre++r::post->(∀p,r.par=some p->p∈pre.map (·.num))/\∀a,r.io=some a->a∈pre.map (·.num)
 len:rows.length<=128
def bD.H0 (w:bD W):(rowsOf W).map (·.num)=ordered W:=by
 unfold rowsOf;rw[ff]
 conv=>rhs;rw[<-s8 (ordered W)]
 refine kP λy bk=>?_;obtain⟨m,hm,rfl⟩:=gy.mp (w.ub.mp bk);show(oz W m.id).id=m.id;rw[w.v8 hm]
def T8 {x z:Nat}(nd:l.Nodup)(e:l=pre++x::post)(h:lz l z x):z∈pre:=by
 obtain⟨p,q,bV,hz⟩:=h;have t:∀(a b:List Nat),l=a++x::b->l.takeWhile (λy=>y !=x)=a:=by intro a b e;rw[e] at nd ⊢;rw[jb] at nd;rw[w1 (λy bk=>by have:=nd.2.2 y bk x (by simp);simpa using this)];simp
 rw[<-t pre post e,t p q bV];exact hz
def bD.closed (w:bD W):DL (rowsOf W):=by
 refine⟨by rw[w.H0];exact w.zq,λpre r post e=>?_,?_⟩
 ·have aL:ordered W=pre.map (·.num)++r.num::post.map (·.num):=by rw[<-w.H0,e];simp
  have au:r∈rowsOf W:=by rw[e];simp
  unfold rowsOf at au;obtain⟨x,ao,rfl⟩:=dp.mp au;obtain⟨n,ak,rfl⟩:=gy.mp (w.ub.mp ao);rw[w.v8 ak] at aL ⊢;have xz:∀z,lz (ord W 0) z n.id->z∈pre.map (·.num):=λz hz=>T8 w.zq aL hz;constructor
  ·intro p am;unfold rowOf at am;simp only at am;split at am
   ·cases am
   ·rename_i b9
    rw[<-dZ am];exact xz _ (w.before 0 w.zero n ak ao (λz=>b9 ((w.uC ak).mpr z))).1
  ·intro a al;have al:g_ W n.id=some a:=al;have h0:n.id≠0:=λz=>by rw[z,w.HY] at al;cases al
   exact xz _ ((w.before 0 w.zero n ak ao h0).2 a al)
 ·have:=iM length w.H0;rw[cc,w.Cu] at this;rw[this];exact w.kE
def nW (n:Nat)(c:Cell):Prop:=c.re < 2 ^ n/\c.dO < 2 ^ n/\c.a9 < 2 ^ n
def Bi {n:Nat}(h:∀c∈cs,nW n c)(o:Option Nat):nW n (f_ cs o):=by
 have z:nW n ⟨0,0,0,0⟩:=⟨two_pow_pos n,two_pow_pos n,two_pow_pos n⟩;cases o with
 |none=>exact z
 |some x=>
  show nW n ((cs.find? λc=>c.num==x).getD ⟨0,0,0,0⟩);cases e:cs.find? (λc=>c.num==x) with
  |none=>exact z
  |some c=>exact h c (s9 e)
def Rj (h:∀c∈cs,nW aZ.length c)(r:Row):nW aZ.length (l3 aZ cs r):=by have aa:=Bi h r.par;have ac:=Bi h r.io;refine⟨?_,Nat.or_lt_two_pow aa.2.1 aa.1,Nat.or_lt_two_pow ac.2.2 ac.1⟩;show _&&& qy aZ r.look < _;exact Nat.and_lt_two_pow _ (Ud aZ r.look)
def Ut (aZ:eG)(rows:List Row):∀c∈cells aZ rows,nW aZ.length c:=by
 have:∀(rows:List Row) (cs:List Cell),(∀c∈cs,nW aZ.length c)->∀c∈rows.foldl (λcs r=>cs++[l3 aZ cs r]) cs,nW aZ.length c:=by
  intro rows
  induction rows with
  |nil=>exact λcs h=>h
  |cons r rows bE=>
   intro cs h;refine bE _ λc ai=>?_;rcases di.mp ai with ai|ai
   ·exact h c ai
   ·rw[ec.mp ai];exact Rj h r
 exact this rows [] λc ai=>by simp at ai
def Wl (h:c.num∉cs.map (·.num)):f_ (cs++[c]) (some c.num)=c:=by show((cs++[c]).find? λd=>d.num==c.num).getD ⟨0,0,0,0⟩=c;have:cs.find? (λd=>d.num==c.num)=none:=sZ.mpr λd hd z=>h (dp.mpr ⟨d,hd,by simpa using z⟩);rw[List.find?_append,this];simp
def aeD (aZ:eG)(es:List (Weight×Nat))(rows:List Row)(r:Row):nD aZ es (rows++[r])=nD aZ es rows++(match mS es (l3 aZ (cells aZ rows) r).re with
  |none=>[]
  |some v=>[(r.num,v)]):=by
 unfold nD;rw[EQ,List.filterMap_append]
 congr 1
 rw[nH,List.filterMap_nil];cases mS es (l3 aZ (cells aZ rows) r).re with
 |none=>rfl
 |some v=>rfl
def Rg (aZ:eG)(es:List (Weight×Nat))(rows:List Row):((nD aZ es rows).map (·.1)).Sublist (rows.map (·.num)):=by
 rw[<-AZ aZ rows];unfold nD;generalize cells aZ rows=cs
 induction cs with
 |nil=>exact .slnil
 |cons c cs bE=>
  rw[nH];cases mS es c.re with
  |none=>exact .cons _ bE
  |some v=>exact .cons_cons _ bE
def iu (s:Selector)(i:Nat):List (Weight×Nat):=((gq 0 s).take i).foldl (λes p=>lE es p.1.weight (1 <<< p.2)) []
def KX (o:Nat)(s:Selector):(gq o s).length=s.length:=by have:=iM length (xE o s);simpa using this
def Vf (s:Selector):iu s s.length=tF s:=by unfold iu tF;rw[<-KX 0 s,lx]
theorem KW:∀(s:Selector) (o i:Nat) (c:Chain),s[i]? =some c->(gq o s)[i]? =some (c,o+(cb (s.take i)).length+c.rest.length)
 |[],_,_,_,h=>by simp at h
 |d::s,o,0,c,h=>by
  have h:d=c:=by simpa using h
  subst h;simp[gq,cb]
 |d::s,o,i+1,c,h=>by
  have h:s[i]? =some c:=by simpa using h
  have:=KW s (o+(d.rest.length+1)) i c h;show(gq (o+(d.rest.length+1)) s)[i]? =_;rw[this]
  congr 2
  show _=o+(cb (d::s.take i)).length+c.rest.length;rw[show cb (d::s.take i)=fD d++cb (s.take i) from rfl,dC,uy];omega
def BW (s:Selector){i:Nat}(h:s[i]? =some c):cb (s.take (i+1))=cb (s.take i)++fD c:=by unfold cb;rw[ko,h,oZ];simp
def LB (s:Selector){i:Nat}(h:s[i]? =some c):iu s (i+1)=lE (iu s i) c.weight (1 <<< ((cb (s.take (i+1))).length - 1)):=by
 unfold iu;rw[ko,KW s 0 i c h,wS];show lE _ _ _=_
 congr 2
 rw[BW s h,dC,uy];show 0+_+_=_;omega
def Tw (es:List (Weight×Nat))(fe:Weight)(b:Nat):(lE es fe b).length<=es.length+1:=by
 unfold lE;split
 ·rw[cc];omega
 ·rw[dC];simp
theorem LA (s:Selector):∀(i:Nat),(iu s i).length<=i
 |0=>by simp[iu]
 |i+1=>by
  have bE:=LA s i;cases h:s[i]? with
  |some c=>rw[LB s h];have:=Tw (iu s i) c.weight (1 <<< ((cb (s.take (i+1))).length - 1));omega
  |none=>
   have e:iu s (i+1)=iu s i:=by
    unfold iu;rw[ko];have:(gq 0 s)[i]? =none:=by rw[List.getElem?_eq_none_iff,KX];exact List.getElem?_eq_none_iff.mp h
    rw[this];simp
   rw[e];omega
def ZS (s:Selector):s.length<=(cb s).length:=by
 induction s with
 |nil=>simp
 |cons c s bE=>rw[show cb (c::s)=fD c++cb s from rfl,dC,uy,fK];omega
def HL (l:List Nat):Nat->Option Nat
 |0=>none
 |i+1=>l[i]?
def TH (nd:cs.Nodup){j c:Nat}(h:cs[j]? =some c):(ahead c cs).getLast?=HL cs j:=by
 have cO:j < cs.length:=(eX.mp h).1;have ai:cs[j]=c:=(eX.mp h).2;have e:cs=cs.take j++c::cs.drop (j+1):=by rw[<-ai,<-wQ cO,Ah]
 have bY:ahead c cs=cs.take j:=by
  have Pg:=nd;rw[e,jb] at Pg;unfold ahead
  conv=>lhs;rw[e]
  rw[w1 (λy bk=>by have:=Pg.2.2 y bk c (by simp);simpa using this)];simp
 rw[bY];cases j with
 |zero=>simp[HL]
 |succ i=>
  show _=cs[i]?;rw[List.getLast?_eq_getElem?,mW,wV];have:min (i+1) cs.length=i+1:=by omega
  rw[this];simp
section
variable {W:State}
def bD.Uz (w:bD W){x j c:Nat}(h:(children W x)[j]? =some c):g_ W c=HL (children W x) j:=by have ai:c∈children W x:=l9 h;obtain⟨m,hv,gG,jv,pT⟩:=mG.mp ai;rw[<-TH (w.A0 x) h];unfold g_;rw[<-gG,w.jy hv];simp only;unfold siblings;rw[aN (by rw[jv,gG];exact λz=>pT z.symm),jv]
structure qt (W:State)(done st:List Nat):Prop where
 eq:done++st.reverse.flatMap (ord W)=ordered W
 mem:∀x∈st,x∈ids W
def bD.aeM (w:bD W):qt W [] [0]:=⟨by simp[zr],λx ao=>by rw[ec.mp ao];exact w.zero⟩
def qt.next (w:bD W){x:Nat}(h:qt W done (st++[x])):qt W (done++[x]) (st++(children W x).reverse):=by
 have ao:x∈ids W:=h.mem x (by simp);refine⟨?_,λy bk=>?_⟩
 ·rw[<-h.eq,List.reverse_append,List.reverse_append,List.reverse_reverse,oZ,oZ];rw[show[x].reverse.flatMap (ord W)=ord W x by simp,w.oG ao];simp
 ·rcases di.mp bk with bk|bk
  ·exact h.mem y (by simp[bk])
  ·exact ml (mem_reverse.mp bk)
def qt.len (w:bD W)(h:qt W done st):done.length+st.length<=128:=by
 have aa:=iM length h.eq;rw[w.Cu,dC] at aa;have ac:st.reverse.length<=(st.reverse.flatMap (ord W)).length:=by
  have:∀l:List Nat,(∀x∈l,x∈ids W)->l.length<=(l.flatMap (ord W)).length:=by
   intro l
   induction l with
   |nil=>intro _;simp
   |cons a l bE=>intro aC;have e:=w.oG (aC a (by simp));have:=bE λx ao=>aC x (by simp[ao]);rw[kN,dC,e,fK,fK];omega
  exact this _ λx ao=>h.mem x (mem_reverse.mp ao)
 rw[List.length_reverse] at ac;have:=w.kE;omega
def qt.done {done:List Nat}(h:qt W done []):done=ordered W:=by have:=h.eq;simpa using this
end
def iU:Call->Nat
 |.new _=>1
 |.add _ _=>2
 |.drop _=>3
 |.mark _ _ _=>4
 |.rule _ _ _ _=>5
 |.unrule _=>6
 |.value _ _=>7
 |.matches_ _ _=>8
 |.select _=>9
 |.weight _=>10
 |.rivals _ _=>11
def e0:Call->List Nat
 |.new t=>[t]
 |.add p t=>[p,t]
 |.drop x=>[x]
 |.mark x k o=>[x,k,o]
 |.rule p v s _=>[p,v,s]
 |.unrule r=>[r]
 |.value x p=>[x,p]
 |.matches_ r x=>[r,x]
 |.select _=>[]
 |.weight r=>[r]
 |.rivals x p=>[x,p]
def qz:Call->Option Bytes
 |.rule _ _ _ t=>some t
 |.select t=>some t
 |_=>none
def pi (b:UInt8):Int:=(b.toNat:Int)
def rJ:Option Bytes->List Int
 |none=>[]
 |some t=>(t.length:Int)::t.map pi
def enc (c:Call):List Int:=(iU c:Int)::((e0 c).map Int.ofNat++rJ (qz c))
def l4 (a:Answer):List Int:=((a.nums.length+2:Nat):Int)::a.ret::(a.nums.length:Int)::a.nums.map Int.ofNat
def tell:State->List Call->List Int
 |_,[]=>[]
 |W,c::r=>l4 (step W c).2++tell (step W c).1 r
def after:State->List Call->State
 |W,[]=>W
 |W,c::r=>after (step W c).1 r
theorem Ku:∀(l:List Call) (W:State) (c:Call),after W (l++[c])=(step (after W l) c).1
 |[],_,_=>rfl
 |d::l,W,c=>Ku l (step W d).1 c
theorem RA:∀(l:List Call) (W:State) (c:Call),tell W (l++[c])=tell W l++l4 (step (after W l) c).2
 |[],W,c=>by show l4 _++[]=[]++_;rw[l7];rfl
 |d::l,W,c=>by show l4 _++tell _ (l++[c])=(l4 _++tell _ l)++_;rw[RA l,wP];rfl
def aaZ {z:Int}{k:Nat}(h:natural z k=true):((nat z:Nat):Int)=z:=by unfold natural at h;rw[d6,mb] at h;unfold nat;omega
theorem RC:∀{l:List Int},(l.all λz=>natural z 8)=true->(text l).map pi=l
 |[],_=>rfl
 |z::l,h=>by
  rw[all_cons,d6] at h;have aC:=RC h.2;unfold text at aC ⊢;rw[ck,ck,aC]
  congr 1
  have aa:=h.1;unfold natural at aa;rw[d6,mb,mb] at aa;show((UInt8.ofNat z.toNat).toNat:Int)=z;rw[UInt8.toNat_ofNat'];have:z.toNat % 2 ^ 8=z.toNat:=Nat.mod_eq_of_lt (by omega);rw[this];omega
def afv (l:List Int):(text l).length=l.length:=by unfold text;rw[cc]
def QD (h:PyFlat.row l=some (x,t))(ao:(x.all λz=>natural z 8)=true):l=rJ (some (text x))++t:=by
 unfold PyFlat.row at h;cases l with
 |nil=>cases h
 |cons n r=>
  simp only at h;split at h
  ·rename_i ai
   rw[uV,w3] at h;obtain⟨rfl,rfl⟩:=h;show n::r=((text (r.take n.toNat)).length:Int)::(text (r.take n.toNat)).map pi++r.drop n.toNat;rw[RC ao,afv,mW,min_eq_left ai.2,cons_append,Ah]
   congr 1
   omega
  ·cases h
def QE (h:PyFlat.rows 1 r=some (xs,t)):∃x,xs=[x]/\PyFlat.row r=some (x,t):=by
 unfold PyFlat.rows at h;cases au:PyFlat.row r with
 |none=>rw[au] at h;cases h
 |some v=>rw[au] at h;obtain⟨x,s⟩:=v;have h:some ([x],s)=some (xs,t):=h;rw[uV,w3] at h;exact⟨x,h.1.symm,by rw[h.2]⟩
def n7 {p:Int}{n k:Nat}(aD:shape p=some (n,k))(h:PyFlat.call shape (p::r)=some (c,t)):∃xs,n<=r.length/\PyFlat.rows k (r.drop n)=some (xs,t)/\c=(p::r.take n)::xs:=by
 unfold PyFlat.call at h;simp only[aD] at h;split at h
 ·cases h
 ·rename_i ak
  cases au:PyFlat.rows k (r.drop n) with
  |none=>rw[au] at h;cases h
  |some v=>rw[au] at h;obtain⟨xs,t'⟩:=v;have h:some ((p::r.take n)::xs,t')=some (c,t):=h;rw[uV,w3] at h;exact⟨xs,by omega,by rw[h.2],h.1.symm⟩
def lm (h:PyFlat.rows 0 r=some (xs,t)):xs=[]/\t=r:=by unfold PyFlat.rows at h;rw[uV,w3] at h;exact⟨h.1.symm,h.2.symm⟩
def jR {z:Int}{k:Nat}(h:natural z k=true):Int.ofNat (nat z)=z:=aaZ h
def t9 (h:1<=r.length):∃a s,r=a::s:=by
 cases r with
 |nil=>simp at h
 |cons a s=>exact⟨a,s,rfl⟩
def y9 (h:2<=r.length):∃a b s,r=a::b::s:=by obtain⟨a,s,rfl⟩:=t9 (gC (by decide) h);obtain⟨b,s,rfl⟩:=t9 (r:=s) (by simp at h;omega);exact⟨a,b,s,rfl⟩
def OG (h:3<=r.length):∃a b c s,r=a::b::c::s:=by obtain⟨a,b,s,rfl⟩:=y9 (gC (by decide) h);obtain⟨c,s,rfl⟩:=t9 (r:=s) (by simp at h;omega);exact⟨a,b,c,s,rfl⟩
def acr {p:Int}(h:PyFlat.call shape (p::r)=some (c,t))(al:asked1 (PyWqahap.whole c)=true):∃lF,callOf (PyWqahap.whole c)=some lF/\p::r=enc lF++t:=by
 have ha:shape p≠none:=λz=>by unfold PyFlat.call at h;simp only[z] at h;cases h
 have am:p=1\/p=2\/p=3\/p=4\/p=5\/p=6\/p=7\/p=8\/p=9\/p=10\/p=11:=by
  by_cases z:p=1\/p=2\/p=3\/p=4\/p=5\/p=6\/p=7\/p=8\/p=9\/p=10\/p=11
  ·exact z
  ·exfalso;simp only[hn] at z;obtain⟨cv,cx,gm,p7,DD,Jm,af8,af9,af_,af6,af7⟩:=z;refine ha ?_;unfold shape;rw[aN cv,aN cx,aN gm,aN p7,aN DD,aN Jm,aN af8,aN af9,aN af_,aN af6,aN af7]
 rcases am with rfl|rfl|rfl|rfl|rfl|rfl|rfl|rfl|rfl|rfl|rfl
 ·obtain⟨xs,ak,au,rfl⟩:=n7 (n:=1) (k:=0) rfl h;obtain⟨rfl,rfl⟩:=lm au;obtain⟨a,s,rfl⟩:=t9 ak;have al:natural a 32=true:=al;exact⟨.new (nat a),rfl,by show 1::a::s=1::Int.ofNat (nat a)::s;rw[jR al]⟩
 ·obtain⟨xs,ak,au,rfl⟩:=n7 (n:=2) (k:=0) rfl h;obtain⟨rfl,rfl⟩:=lm au;obtain⟨a,b,s,rfl⟩:=y9 ak;have al:(natural a 32&&natural b 32)=true:=al;rw[d6] at al;exact⟨.add (nat a) (nat b),rfl,by show 2::a::b::s=2::Int.ofNat (nat a)::Int.ofNat (nat b)::s;rw[jR al.1,jR al.2]⟩
 ·obtain⟨xs,ak,au,rfl⟩:=n7 (n:=1) (k:=0) rfl h;obtain⟨rfl,rfl⟩:=lm au;obtain⟨a,s,rfl⟩:=t9 ak;have al:natural a 32=true:=al;exact⟨.drop (nat a),rfl,by show 3::a::s=3::Int.ofNat (nat a)::s;rw[jR al]⟩
 ·obtain⟨xs,ak,au,rfl⟩:=n7 (n:=3) (k:=0) rfl h;obtain⟨rfl,rfl⟩:=lm au;obtain⟨a,b,d,s,rfl⟩:=OG ak;have al:(natural a 32&&(natural b 32&&natural d 32))=true:=al;rw[d6,d6] at al;exact⟨.mark (nat a) (nat b) (nat d),rfl,by show 4::a::b::d::s=4::Int.ofNat (nat a)::Int.ofNat (nat b)::Int.ofNat (nat d)::s;rw[jR al.1,jR al.2.1,jR al.2.2]⟩
 ·obtain⟨xs,ak,au,rfl⟩:=n7 (n:=3) (k:=1) rfl h;obtain⟨x,rfl,ao⟩:=QE au;obtain⟨a,b,d,s,rfl⟩:=OG ak;have al:(natural a 32&&(natural b 32&&(natural d 32&&x.all λ(z:Int)=>natural z 8)))=true:=al;rw[d6,d6,d6] at al;have ao:PyFlat.row s=some (x,t):=ao;refine⟨.rule (nat a) (nat b) (nat d) (text x),rfl,?_⟩;show 5::a::b::d::s=5::Int.ofNat (nat a)::Int.ofNat (nat b)::Int.ofNat (nat d)::(rJ (some (text x))++t);rw[jR al.1,jR al.2.1,jR al.2.2.1,<-QD ao al.2.2.2]
 ·obtain⟨xs,ak,au,rfl⟩:=n7 (n:=1) (k:=0) rfl h;obtain⟨rfl,rfl⟩:=lm au;obtain⟨a,s,rfl⟩:=t9 ak;have al:natural a 32=true:=al;exact⟨.unrule (nat a),rfl,by show 6::a::s=6::Int.ofNat (nat a)::s;rw[jR al]⟩
 ·obtain⟨xs,ak,au,rfl⟩:=n7 (n:=2) (k:=0) rfl h;obtain⟨rfl,rfl⟩:=lm au;obtain⟨a,b,s,rfl⟩:=y9 ak;have al:(natural a 32&&natural b 32)=true:=al;rw[d6] at al;exact⟨.value (nat a) (nat b),rfl,by show 7::a::b::s=7::Int.ofNat (nat a)::Int.ofNat (nat b)::s;rw[jR al.1,jR al.2]⟩
 ·obtain⟨xs,ak,au,rfl⟩:=n7 (n:=2) (k:=0) rfl h;obtain⟨rfl,rfl⟩:=lm au;obtain⟨a,b,s,rfl⟩:=y9 ak;have al:(natural a 32&&natural b 32)=true:=al;rw[d6] at al;exact⟨.matches_ (nat a) (nat b),rfl,by show 8::a::b::s=8::Int.ofNat (nat a)::Int.ofNat (nat b)::s;rw[jR al.1,jR al.2]⟩
 ·obtain⟨xs,ak,au,rfl⟩:=n7 (n:=0) (k:=1) rfl h;obtain⟨x,rfl,ao⟩:=QE au;have al:(x.all λ(z:Int)=>natural z 8)=true:=al;have ao:PyFlat.row r=some (x,t):=ao;refine⟨.select (text x),rfl,?_⟩;show 9::r=9::(rJ (some (text x))++t);rw[<-QD ao al]
 ·obtain⟨xs,ak,au,rfl⟩:=n7 (n:=1) (k:=0) rfl h;obtain⟨rfl,rfl⟩:=lm au;obtain⟨a,s,rfl⟩:=t9 ak;have al:natural a 32=true:=al;exact⟨.weight (nat a),rfl,by show 10::a::s=10::Int.ofNat (nat a)::s;rw[jR al]⟩
 ·obtain⟨xs,ak,au,rfl⟩:=n7 (n:=2) (k:=0) rfl h;obtain⟨rfl,rfl⟩:=lm au;obtain⟨a,b,s,rfl⟩:=y9 ak;have al:(natural a 32&&natural b 32)=true:=al;rw[d6] at al;exact⟨.rivals (nat a) (nat b),rfl,by show 11::a::b::s=11::Int.ofNat (nat a)::Int.ofNat (nat b)::s;rw[jR al.1,jR al.2]⟩
def afy (a:Answer):((told a).length:Int)::told a=l4 a:=by unfold told l4;rw[fK,fK,cc];rfl
theorem KS:∀(f:Nat) (l:List Int) (cs:List (List (List Int))),calls shape f l=some cs->((cs.map PyWqahap.whole).all asked1)=true->
  ∃ks:List Call,l=ks.flatMap enc/\ks.length=cs.length/\∀W,PyFlat.told (played StyNeutral.step W (cs.map PyWqahap.whole))=tell W ks
 |f,[],cs,h,_=>by
  have:calls shape f []=some []:=by cases f<;>rfl
  rw[this] at h;cases h;exact⟨[],rfl,rfl,λ_=>rfl⟩
 |0,p::r,cs,h,_=>by cases h
 |f+1,p::r,cs,h,al=>by
  unfold calls at h;cases ai:PyFlat.call shape (p::r) with
  |none=>rw[ai] at h;cases h
  |some v=>
   obtain⟨c,t⟩:=v;rw[ai] at h;simp only at h;cases bY:calls shape f t with
   |none=>rw[bY] at h;cases h
   |some ds=>
    rw[bY] at h;have h:some (c::ds)=some cs:=h;cases h;rw[ck,all_cons,d6] at al;obtain⟨lF,aa,ac⟩:=acr ai al.1;obtain⟨ks,av,bn,cB⟩:=KS f t ds bY al.2;refine⟨lF::ks,by rw[kN,<-av,ac],by rw[fK,fK,bn],λW=>?_⟩;rw[ck];unfold played;have e:StyNeutral.step W (PyWqahap.whole c)=((step W lF).1,told (step W lF).2):=by unfold StyNeutral.step;rw[aa]
    rw[e];show PyFlat.told (told (step W lF).2::played StyNeutral.step (step W lF).1 (ds.map PyWqahap.whole))=l4 (step W lF).2++tell (step W lF).1 ks;rw[<-cB,<-afy];rfl
def TP (h:answers_asked l=true):∃ks:List Call,l=ks.flatMap enc/\ks.length<=400/\answers l=tell start ks:=by
 unfold answers_asked at h;unfold answers;unfold PyWqahap.calls at h ⊢;cases ai:calls shape l.length l with
 |none=>rw[ai] at h;cases h
 |some cs=>rw[ai] at h;have h:(atMost 400 (cs.map PyWqahap.whole)&&StyNeutral.asked (cs.map PyWqahap.whole))=true:=h;rw[d6] at h;obtain⟨aa,ac⟩:=h;unfold atMost at aa;rw[mb,cc] at aa;unfold StyNeutral.asked at ac;rw[d6] at ac;obtain⟨ks,aE,aL,bI⟩:=KS _ _ _ ai ac.1;exact⟨ks,aE,by rw[aL];exact aa,bI _⟩
def VR {k:Nat}(h:freeNode W=some k):k∉ids W/\k < 128:=by unfold freeNode at h;have aa:=s9 h;have ac:=find?_some h;rw[Option.isNone_iff_eq_none] at ac;exact⟨Ch.mp ac,uS.mp aa⟩
def VS {k:Nat}(h:freeRule W=some k):k∉ll W/\1<=k/\k<=64:=by
 unfold freeRule at h;have aa:=s9 h;have ac:=find?_some h;refine⟨λz=>?_,?_⟩
 ·obtain⟨r,au,e⟩:=B5.mp z;have:(W.rules.any λ(r:Rule)=>r.id==k)=true:=oY.mpr ⟨r,au,by simpa using e⟩;rw[this] at ac;cases ac
 ·have key:∀k∈(range (RULES+1)).drop 1,1<=k/\k<=64:=by decide
  exact key k aa
def wB (w:bD W)(r:gp W)(c:Call):bD (step W c).1/\gp (step W c).1:=by
 cases c with
 |new t=>exact⟨Be t,Bf t⟩
 |add p t=>
  unfold step;simp only;split
  ·exact⟨w,r⟩
  ·exact⟨w,r⟩
  ·rename_i n k aa ac
   obtain⟨f1,f2⟩:=VR ac;obtain⟨g1,g2⟩:=ra aa;exact⟨w.add (gy.mpr ⟨n,g1,rfl⟩) f1 f2,r.nodes _⟩
 |drop x=>
  unfold step;simp only;split
  ·exact⟨w,r⟩
  ·rename_i n aa
   obtain⟨g1,g2⟩:=ra aa;split
   ·exact⟨w,r⟩
   ·rename_i ai
    simp only[hn,Classical.not_not] at ai;exact⟨w.drop (λz=>ai.1 ((w.uC g1).mpr z)) ai.2,r.nodes _⟩
 |mark x k on=>
  unfold step;simp only;split
  ·exact⟨w,r⟩
  ·rename_i n aa
   obtain⟨g1,g2⟩:=ra aa;split
   ·exact⟨w,r⟩
   ·rename_i ai
    refine⟨w.mark (x:=n.id) (k:=k) (b:=on !=0) λm hm aE aL bI=>?_,r.nodes _⟩;have gO:=w.inj hm g1 aE;subst gO;by_cases aC:m.classes.length < 16
    ·exact aC
    ·exact absurd ⟨by simpa using aL,bI,by show 16<=_;omega⟩ ai
 |rule p v s t=>
  unfold step;simp only;split
  ·exact⟨w,r⟩
  ·rename_i aC
   split
   ·exact⟨w,r⟩
   ·rename_i bh aa
    split
    ·exact⟨w,r⟩
    ·rename_i k ac
     obtain⟨f1,f2,d8⟩:=VS ac;exact⟨w.rules _,r.add f1 f2 d8 (Qw (by unfold LONG at aC;omega) aa)⟩
 |unrule q=>
  unfold step;simp only;split
  ·exact⟨w,r⟩
  ·exact⟨w.rules _,r.drop _⟩
 |value x p=>exact⟨w,r⟩
 |matches_ q x=>exact⟨w,r⟩
 |select t=>exact⟨w,r⟩
 |weight q=>exact⟨w,r⟩
 |rivals x p=>exact⟨w,r⟩
theorem Kv:∀(l:List Call) (W:State),bD W->gp W->bD (after W l)/\gp (after W l)
 |[],_,w,r=>⟨w,r⟩
 |c::l,W,w,r=>Kv l _ (wB w r c).1 (wB w r c).2
theorem QB:∀(n:Nat) (l:List (Rule×Weight)),(rivals n l).length<=n
 |0,_=>b5 _
 |n+1,l=>by
  unfold rivals;split
  ·exact eY _
  ·rw[fK];exact Nat.succ_le_succ (QB n _)
def VG (l:List (Rule×Weight)):(l.flatMap λ(r:Rule×Weight)=>[r.1.id,r.2.1,r.2.2]).length=3 * l.length:=by
 induction l with
 |nil=>rfl
 |cons a l bE=>rw[kN,dC,bE];show 3+3 * l.length=3 * (l.length+1);omega
def Rk (w:bD W)(r:gp W)(c:Call):(step W c).2.nums.length<=192:=by
 cases c with
 |new t=>exact eY _
 |add p t=>unfold step;simp only;split<;>exact eY _
 |drop x=>
  unfold step;simp only;split
  ·exact eY _
  ·split<;>exact eY _
 |mark x k on=>
  unfold step;simp only;split
  ·exact eY _
  ·split<;>exact eY _
 |rule p v s t=>
  unfold step;simp only;split
  ·exact eY _
  ·split
   ·show 1<=192;decide
   ·split<;>exact eY _
 |unrule q=>unfold step;simp only;split<;>exact eY _
 |value x p=>
  unfold step;simp only;split
  ·exact eY _
  ·split
   ·show 1<=192;decide
   ·exact eY _
 |matches_ q x=>unfold step;simp only;split<;>exact eY _
 |select t=>
  unfold step;simp only;split
  ·exact eY _
  ·split
   ·show 1<=192;decide
   ·rename_i s _
    show((ordered W).filter (s.flatMap (matched W)).contains).length<=192;refine gC (s7 _ _) ?_;rw[w.Cu];have:=w.kE;omega
 |weight q=>
  unfold step;simp only;split
  ·exact eY _
  ·show 2<=192;decide
 |rivals x p=>
  unfold step;simp only;split
  ·exact eY _
  ·rename_i n _
   show((Sty.rivals W.rules.length (weighed (tabled W p) n.id)).flatMap λ(r:Rule×Weight)=>[r.1.id,r.2.1,r.2.2]).length<=192;rw[VG];have:=QB W.rules.length (weighed (tabled W p) n.id);have:=r.kE;omega
theorem Rz:∀(l:List Call) (W:State),bD W->gp W->(tell W l).length<=195 * l.length
 |[],_,_,_=>b5 _
 |c::l,W,w,r=>by
  have aa:=Rz l _ (wB w r c).1 (wB w r c).2;have ac:=Rk w r c;unfold tell;rw[dC,fK];have av:(l4 (step W c).2).length=(step W c).2.nums.length+3:=by unfold l4;simp
  omega
end Tm
namespace aB
open PySem PySem.Spec PyProof.Rows
def dd.eD {P:bg}{w:bb}{K:PySem.W.Frag}{ae:Str->Option af}{base:a5}{C:U}{x qual:Str}{st:Stmt}{f:U}{fd:b6}{N ps:List Str}{k:Nat}{sp:cD}(F:dd K x qual st f fd)(S:c3 N ps (ct st))
  (tR:∀(bU:af) (A:cU) (outer:List Env) (s:ar) (H:ah) (vs:List V) (Q:cM) (E:fG),c1 k (A.deeper (envOfC qual (ct st) s.heap.objs.size f bU))->sp vs H Q E->
   ∃t,e_ (j7 (eL P w C) P w K ae base N qual (ct st) f bU A outer s H E) (kt st) t/\t {cG:=λ_ ab=>Q .b1 ab,ia:=Q} (start N vs) H)
  (len:∀vs H Q E,sp vs H Q E->vs.length=ps.length:=by intro vs H Q E h;cases h;subst_vars;rfl):aQ P w K ae base (eL P w C) (k+1) f fd ps sp:=by
 obtain⟨hP,c9,cV,doc,pm,an,bU,dP,kH,rfl,dD,lN⟩:=F.ex;exact Ff dD lN S len λA outer s H vs Q E au lT=>tR bU A outer s H vs Q E au lT
def cH (n:Nat)(h:n<=99:=by decide):n<=sizeLine:=gC h (by decide)
def VL {x:Str}{g:iS}{cL:dj}{D:Ends}{σ:St}{H:ah}(Pv:Nat->St->ah->Prop)(h0:Pv 0 σ H)
  (aD:∀i c σ H,x.cps[i]? =some c->Pv i σ H->g (.str ⟨#[c]⟩) σ H λσ2 ap=>cL {D with cG:=Pv (i+1),dP:=Pv (i+1),hI:=D.cG} σ2 ap) (hd:∀σ H,Pv x.cps.size σ H->D.cG σ H):
  ∃W:Nat->Nat->St->ah->Prop,(∃m,W 0 m σ H)/\∀i m σ H,W i m σ H->
   ((xb x).stop i H/\D.cG σ H)\/((xb x).go i H/\∃N:St->ah->Prop,(∀σ' ab,N σ' ab->∃cQ,cQ < m/\W (i+1) cQ σ' ab)/\∀v ab,(xb x).p6 i H v ab->g v σ ab λσ2 ap=>cL {D with cG:=N,dP:=N,hI:=D.cG} σ2 ap):=by
 refine⟨λi m σ H=>m=x.cps.size - i/\i<=x.cps.size/\Pv i σ H,⟨x.cps.size,by simp,eY _,h0⟩,?_⟩;rintro i m σ H ⟨rfl,aR,p⟩;by_cases cO:i < x.cps.size
 ·refine .inr ⟨cO,Pv (i+1),λσ' ab ef=>⟨x.cps.size - (i+1),by omega,rfl,cO,ef⟩,λv ab y=>?_⟩;obtain⟨e,c,ai,rfl⟩:=y;subst e;exact aD i c σ _ ai p
 ·have e:i=x.cps.size:=by omega
  subst e;exact .inl ⟨b5 _,hd σ H p⟩
end aB
namespace bf
open PySem PySem.Spec PyProof.Rows aB
open Sty (Bytes)
def top (i:Nat):Stmt:=PySem.Challenge.pw_treestylesdesk_s01_answers.main.body.getD i (.Pass ⟨0,0,0,0⟩)
abbrev sK:Stmt:=q1 (top 4) 0
abbrev CV:Stmt:=q1 (top 5) 0
abbrev cS (j:Nat):Stmt:=q1 (top 6) j
def bv (b:UInt8):V:=.int (b.toNat:Int)
def dM (w:Bytes):Str:=⟨(w.map UInt8.toNat).toArray⟩
def jB (aF:U)(p:Int):List (Str×V):=[("text",.ref aF),("place",.int p)]
def wm (aF:U)(p:Int):(jB aF p).lookup ("text":Str)=some (.ref aF):=by simp[jB]
def jC (aF:U)(p:Int):(jB aF p).lookup ("place":Str)=some (.int p):=by
 have h:(("place":Str)==("text":Str))=false:=by w_on
 simp[jB,List.lookup,h]
def Qx (aF:U)(p q:Int):dw "place" (.int q) (jB aF p)=jB aF q:=by
 have h:¬("text":Str)=("place":Str):=by w_on
 simp[jB,dw,h]
def fU (aF:U)(p:Int)(aa:(m==("text":Str))=false)(ac:(m==("place":Str))=false):(jB aF p).lookup m=none:=by simp[jB,List.lookup,aa,ac]
structure d1 (aJ:U)(H:ah)(r aF:U)(t:Bytes)(p:Nat):Prop where
 ins:∃dr,H r=some (.ins aJ dr (jB aF p))
 txt:H aF=some (.lst (t.map bv))
 le:p<=t.length
 kg:t.length<=256
def de (r:U)(H ab:ah):Prop:=∀b o,H b=some o->b≠r->ab b=some o
def de.refl (r:U)(H:ah):de r H H:=λ_ _ h _=>h
def de.trans (a:de r H H1)(b:de r H1 ap):de r H ap:=λc o h n=>b c o (a c o h n) n
def aA.keep (a:aA H H1):de r H H1:=λc o h _=>a c o h
def d1.ne {aJ:U}{H:ah}{r aF:U}{t:Bytes}{p:Nat}(R:d1 aJ H r aF t p):aF≠r:=by obtain⟨dr,h⟩:=R.ins;exact fo R.txt h nofun
def d1.move {aJ:U}{H:ah}{r aF dr:U}{t:Bytes}{p q:Nat}(R:d1 aJ H r aF t p)(az:q<=t.length):d1 aJ (upd H r (.ins aJ dr (jB aF q))) r aF t q:=
 ⟨⟨dr,aG⟩,by rw[aj R.ne];exact R.txt,az,R.kg⟩
def y6:de r H (upd H r o):=λb u h n=>by rw[aj n];exact h
def pa (CX r:U)(H:ah)(E:fG)(p:Nat):Prop:=∀(ab:ah) (a aq:U),de r H ab->ab a=some (.ext (k0 CX a (some aq)))->ab aq=some (.nF [("place",.int (p:Int))])->E (.ref CX) (some a) ab
def pa.keep {p:Nat}(h:pa CX r H E p)(k:de r H H1):pa CX r H1 E p:=λab a aq b0=>h ab a aq (k.trans b0)
structure g8 (K:PySem.W.Frag)(ae:Str->Option af)(CX ay aJ cF cZ:U):Prop where
 km:qv K CX cF "place"
 sr:ae "SelectorFault"=some (.ref CX)
 aaH:ae "Kind"=some (.ref ay)
 rL:jI K ay
 Ca:fY K ay "tag"
 B':fY K ay "tests"
 cN:jI K aJ
 h7:fY K aJ "text"
 h6:fY K aJ "place"
 len:ae "len"=none
 ord:ae "ord"=none
 Wv:∃t,ae "GREATEST_NUMBER"=some (.int 4294967295 t)
 iH:∃a,ae "WORDS"=some (.ref a)/\∀H,c5 K H a [.str "first",.str "last",.str "empty"]
 dD:∃a,ae "LINKS"=some (.ref a)/\∀H,c5 K H a [.str " ",.str ">",.str "+",.str "~"]
inductive sO(CX:U)(vs:List V)(H:ah)(Q:cM)(_:fG):Prop|i(a:U)(v:V)(_:vs=[.ref a,v])(_:H a=some (.ext (iT CX a)))(_:∀aq,H aq=none->aq≠a->Q .b1 (upd (upd H aq (.nF [("place",v)])) a (.ext (qw CX a (some aq)))))
def aed:c3 ahw ahw (ct sK):={}
def zn {P:bg}{w:bb}{K:PySem.W.Frag}{ae:Str->Option af}{base:a5}{CX ay aJ cF cZ:U}{fd:b6}(F:dd K "__init__" "SelectorFault.__init__" sK cF fd)(T:g8 K ae CX ay aJ cF cZ):aQ P w K ae base bc 1 cF fd ahw (sO CX):=by refine F.ok aed (λbU A outer s H vs Q E au h=>?_);obtain⟨a,v,rfl,al,k⟩:=h;refine⟨_,bo (ac6 T.km (ag 0) (ag 1) rfl),?_⟩;exact⟨_,rfl,_,rfl,a,rfl,al,λaq aa ac=>k aq aa ac⟩
inductive Di(aJ:U)(vs:List V)(H:ah)(Q:cM)(_:fG):Prop|i(r aF:U)(t:Bytes)(p:Nat)(c:UInt8)(_:vs=[.ref r,.str (dM [c])])(_:d1 aJ H r aF t p)(_:Q (.bL (decide ((t.drop p).head?=some c))) H)
def ad6:c3 ahp ahp (ct (cS 1)):={}
def Hq {P:bg}{w:bb}{K:PySem.W.Frag}{ae:Str->Option af}{base:a5}{CX ay aJ cF cZ:U}{f:U}{fd:b6}(F:dd K "sees" "Reader.sees" (cS 1) f fd)(T:g8 K ae CX ay aJ cF cZ):aQ P w K ae base bc 1 f fd ahp (Di aJ):=by
 refine F.ok ad6 (λbU A outer s H vs Q E au h=>?_);obtain⟨r,aF,t,p,c,rfl,R,k⟩:=h;obtain⟨dr,a'⟩:=R.ins;refine⟨_,bo (cp (P2 (uw Hu (bT (ag 0) rfl) (gX j6 (by rfl) T.len jd (aK (bT (ag 0) rfl) aY)) (d4 _))
  (P7 (uw gA (da gk (bT (ag 0) rfl) (bT (ag 0) rfl) (λ_ _=>rfl)) (gX xB (by rfl) T.ord boot_ord (aK (ag 1) aY)) (d4 _))))),?_⟩
 refine⟨_,rfl,r,aJ,dr,_,_,rfl,a',T.cN,T.h6,jC _ _,_,rfl,r,aJ,dr,_,_,rfl,a',T.cN,T.h7,wm _ _,aF,_,rfl,.inl (bA.of R.txt),_,_,rfl,rfl,_,rfl,?_⟩;rw[cc];refine Gv (λaC=>?_) (λaC=>?_)
 ·have aC:p < t.length:=by have:=rv aC;omega
  refine⟨_,rfl,r,aJ,dr,_,_,rfl,a',T.cN,T.h7,wm _ _,_,rfl,r,aJ,dr,_,_,rfl,a',T.cN,T.h6,jC _ _,aF,_,_,bv t[p],rfl,rfl,bA.of R.txt,
   dT (by rw[hD,iK aC];rfl),_,rfl,_,rfl,rfl,rfl,?_⟩
  have e:decide (bv t[p]=V.int (((dM [c]).cps.getD 0 0:Nat):Int))=decide ((t.drop p).head?=some c):=by
   rw[rr,iK aC];unfold bv dM;by_cases ai:t[p]=c
   ·subst ai;simp
   ·rw[cW,cW]
    ·intro z;exact ai (dZ z)
    ·intro z;apply ai;have mU:((t[p].toNat:Nat):Int)=((c.toNat:Nat):Int):=by simpa using z
     exact UInt8.toNat_inj.mp (nG mU)
  rw[<-e] at k;exact k
 ·have aC:¬p < t.length:=λz=>aC (ej (by omega));rw[rr,Ae (by omega)] at k;exact k
end bf
namespace aU
open Sty
theorem Qe:∀(w r:Bytes),(∀j,j < w.length->r[j]? =w[j]?)->w.isPrefixOf r=true
 |[],r,_=>by simp
 |c::w,[],h=>by have:=h 0 (by simp);simp at this
 |c::w,d::r,h=>by
  have h0:=h 0 (by simp);have e:d=c:=by simpa using h0
  subst e;have bE:=Qe w r λj bF=>by have:=h (j+1) (by simpa using bF);simpa using this
  simp[isPrefixOf,bE]
theorem Kw:∀(w r:Bytes) (i:Nat) (c:UInt8),(∀j,j < i->r[j]? =w[j]?)->w[i]? =some c->r[i]? ≠some c->w.isPrefixOf r=false/\agree w r=i
 |[],_,_,_,_,h,_=>by simp at h
 |d::w,[],i,c,bF,ai,ak=>by
  cases i with
  |zero=>exact⟨rfl,rfl⟩
  |succ i=>have:=bF 0 (by omega);simp at this
 |d::w,e::r,0,c,_,ai,ak=>by
  have aa:d=c:=by simpa using ai
  have ac:¬e=c:=by simpa using ak
  subst aa;have av:¬d=e:=λz=>ac z.symm;refine⟨by simp[isPrefixOf,av],?_⟩;unfold agree;rw[aN av]
 |d::w,e::r,i+1,c,bF,ai,ak=>by
  have h0:=bF 0 (by omega);have aa:e=d:=by simpa using h0
  subst aa;obtain⟨a,b⟩:=Kw w r i c (λj h=>by have:=bF (j+1) (by omega);simpa using this) (by simpa using ai) (by simpa using ak)
  refine⟨by simp[isPrefixOf,a],?_⟩;unfold agree;rw[aV rfl,b]
end aU
namespace bf
open PySem PySem.Spec PyProof.Rows aB
open Sty (Bytes)
structure cC (K:PySem.W.Frag)(C:U)(m qual:Str)(st:Stmt)(ps:List Str)(f:U)(fd:b6):Prop where
 fn:dd K m qual st f fd
 dJ:AA K C m f
 bi:Binds K fd ps []
def uB {p:Nat}(h:pa CX r H E p)(k:de r H H1)(a:U)(al:H1 a=none):
  sO CX (.ref a::[V.int (p:Int)]) (upd H1 a (.ext (iT CX a))) (λv ap=>v=.b1/\∃jk aq,V.ref a=.ref jk/\ap jk=some (.ext (qw CX jk aq))/\E (.ref CX) (some jk) (upd ap jk (.ext (k0 CX jk aq)))) ti:=by
 refine⟨a,.int p,rfl,aG,λaq aa ac=>⟨rfl,a,some aq,rfl,aG,?_⟩⟩;have hd:H1 aq=none:=by rw[aj ac] at aa;exact aa
 refine h _ a aq (λb o q n=>?_) aG ?_
 ·have aX:=k b o q n;have na:=a8 aX al;rw[aj na,aj na,aj (a8 aX hd),aj na];exact aX
 ·rw[aj ac,aj ac,aG]
inductive wx(aJ:U)(vs:List V)(H:ah)(Q:cM)(_:fG):Prop|i(r aF:U)(t:Bytes)(p:Nat)(c:UInt8)(_:vs=[.ref r,.str (dM [c])])(_:d1 aJ H r aF t p)(_:(t.drop p).head?=some c->∀ab,d1 aJ ab r aF t (p+1)->de r H ab->Q (.bL true) ab)(_:(t.drop p).head?≠some c->Q (.bL false) H)
def ad':c3 ahp ahp (ct (cS 2)):={}
def Bx {t:Bytes}{p:Nat}{c:UInt8}(h:(t.drop p).head?=some c):p+1<=t.length:=by rw[rr] at h;exact(eX.mp h).1
def zo {P:bg}{w:bb}{K:PySem.W.Frag}{ae:Str->Option af}{base:a5}{CX ay aJ cF cZ:U}{f f1:U}{fd fO:b6}(F:dd K "takes" "Reader.takes" (cS 2) f fd)(T:g8 K ae CX ay aJ cF cZ)(fv:cC K aJ "sees" "Reader.sees" (cS 1) ahp f1 fO):
  aQ P w K ae base bc 2 f fd ahp (wx aJ):=by
 have kV:aQ P w K ae base bc 1 f1 fO ahp (Di aJ):=Hq fv.fn T;refine F.ok ad' (λbU A outer s H vs Q E au h=>?_);obtain⟨r,aF,t,p,c,rfl,R,cP,bX⟩:=h;obtain⟨dr,a'⟩:=R.ins;refine⟨_,a_ (dh (zC (lk (fC (ag 0) T.cN fv.dJ kV au fv.bi .nil cA (aK (ag 1) aY)))) (bo (cp pX)) dn)
  (a_ (Qf (ag 0) bM Oi) (bo (cp pX))),?_⟩
 refine⟨_,rfl,r,dr,_,rfl,a',fU _ _ (by w_on) (by w_on),_,rfl,r,aF,t,p,c,rfl,R,_,rfl,?_⟩;by_cases ai:(t.drop p).head?=some c
 ·rw[ej ai];refine eS ?_;refine⟨_,rfl,r,aJ,dr,_,_,rfl,a',T.cN,T.h6,jC _ _,_,_,rfl,rfl,dr,_,a',(by show 2 < 1000;decide),?_⟩;have aE:dw "place" (V.int ((p:Int)+1)) (jB aF p)=jB aF ((p+1:Nat):Int):=by rw[Qx];rfl
  rw[aE];exact cP ai _ (R.move (Bx ai)) y6
 ·rw[cW ai];refine d3 ?_;exact bX ai
inductive Dd(CX aJ:U)(vs:List V)(H:ah)(Q:cM)(E:fG):Prop|i(r aF:U)(t:Bytes)(p:Nat)(iH:Bytes)(_:vs=[.ref r,.str (dM iH)])(_:d1 aJ H r aF t p)(_:∀n,aU.jx iH (t.drop p)=.ok ((),n)->∀ab,d1 aJ ab r aF t (p+n)->de r H ab->Q .b1 ab)(_:∀j,aU.jx iH (t.drop p)=.error j->pa CX r H E (p+j))
def QQ:c3 ["self","signs","sign"] ahI (ct (cS 3)):={}
def ab_ {P:bg}{w:bb}{K:PySem.W.Frag}{ae:Str->Option af}{base:a5}{CX ay aJ cF cZ:U}{f f1 f2:U}{fd fO gP jp:b6}(F:dd K "needs" "Reader.needs" (cS 3) f fd)(T:g8 K ae CX ay aJ cF cZ)(fv:cC K aJ "sees" "Reader.sees" (cS 1) ahp f1 fO)
  (M2:cC K aJ "takes" "Reader.takes" (cS 2) ahp f2 gP) (ql:dd K "__init__" "SelectorFault.__init__" sK cF jp) (pj:Binds K jp ahw []):
  aQ P w K ae base (eL P w CX) 3 f fd ahI (Dd CX aJ):=by
 have jZ:aQ P w K ae base bc 2 f2 gP ahp (wx aJ):=zo M2.fn T fv;have o9:aQ P w K ae base bc 1 cF jp ahw (sO CX):=zn ql T;refine F.eD QQ (λbU A outer s H vs Q E au h=>?_);obtain⟨r,aF,t,p,iH,rfl,R,cP,bX⟩:=h;refine⟨_,bo (lZ w4 rfl (acX (ag 1)) (fJ (i:=2) QQ.nd) (bo (dh (zC (lk (fC (ag 0) T.cN M2.dJ jZ au M2.bi .nil cA (aK (ag 2) aY))))
  (bo (wi T.km wJ rfl (wd T.km o9 au rfl T.sr pj cA (aK (bT (ag 0) rfl) aY)))) dn))),?_⟩
 have kg:(dM iH).cps.size=iH.length:=by simp[dM]
 refine⟨_,rfl,dM iH,rfl,VL (λi σ ab=>∃v,σ=[some (.ref r),some (.str (dM iH)),v]/\d1 aJ ab r aF t (p+i)/\de r H ab/\∀j,j < i->(t.drop p)[j]? =iH[j]?) ⟨none,rfl,R,de.refl _ _,λj h=>absurd h (Nat.not_lt_zero _)⟩ ?_ ?_⟩
 ·rintro i b7 σ ab aR ⟨v,rfl,R',bu,bF⟩;obtain⟨c,ai,rfl⟩:∃c,iH[i]? =some c/\b7=c.toNat:=by
   have tW:(iH.map UInt8.toNat)[i]? =some b7:=by simpa[dM] using aR
   rw[hD] at tW;cases e:iH[i]? with
   |none=>rw[e] at tW;cases tW
   |some c=>rw[e] at tW;exact⟨c,rfl,(dZ tW).symm⟩
  obtain⟨dr,a'⟩:=R'.ins;have dz:(t.drop (p+i)).head?=(t.drop p)[i]? :=by rw[rr,List.getElem?_drop]
  refine⟨_,rfl,r,dr,_,rfl,a',fU _ _ (by w_on) (by w_on),_,rfl,r,aF,t,p+i,c,rfl,R',λaz ap dt e6=>⟨_,rfl,eS ?_⟩,λaz=>⟨_,rfl,d3 ?_⟩⟩
  ·refine⟨_,rfl,dt,bu.trans e6,λj cO=>?_⟩;by_cases e:j=i
   ·subst e;rw[<-dz,az,ai]
   ·exact bF j (by omega)
  ·refine⟨_,rfl,r,aJ,dr,_,_,rfl,a',T.cN,T.h6,jC _ _,(cH 1),uB (bX i ?_) bu⟩;obtain⟨a1,a2⟩:=aU.Kw iH (t.drop p) i c bF ai (by rw[<-dz];exact az);unfold aU.jx;rw[a1,a2];rfl
 ·rintro σ ab ⟨v,rfl,R',bu,bF⟩;rw[kg] at R' bF;refine cP iH.length ?_ ab R' bu;unfold aU.jx;rw[aU.Qe _ _ bF];rfl
end bf
namespace aU
open Sty
theorem A5:∀(r:Bytes) (v k:Nat),h2 v k r=match h2 v 0 r with
  |.error j=>.error (k+j)
  |.ok (n,m)=>.ok (n,k+m)
 |[],v,k=>by simp[h2]
 |c::r,v,k=>by
  unfold h2;by_cases ai:isDigit c=true
  ·rw[aV ai,aV ai];by_cases bx:v≠0/\10 * v+(c.toNat - 48) < BIG
   ·rw[aV bx,aV bx,A5 r _ (k+1),A5 r _ (0+1)];cases h2 (10 * v+(c.toNat - 48)) 0 r with
    |error j=>simp only;congr 1;omega
    |ok x=>simp only;congr 2;omega
   ·rw[aN bx,aN bx];rfl
  ·rw[aN ai,aN ai];rfl
end aU
namespace bf
open PySem PySem.Spec PyProof.Rows aB
open Sty (Bytes)
def UX (c:UInt8):Sty.isDigit c=(decide ((48:Int)<=(c.toNat:Int))&&decide ((c.toNat:Int)<=57)):=by
 unfold Sty.isDigit
 congr 1
 ·exact ma.mpr (by omega)
 ·exact ma.mpr (by omega)
def l2 (t:Bytes)(p:Nat):Bool:=(t.drop p).head?.any Sty.isDigit
inductive IL(aJ:U)(vs:List V)(H:ah)(Q:cM)(_:fG):Prop|i(r aF:U)(t:Bytes)(p:Nat)(_:vs=[.ref r])(_:d1 aJ H r aF t p)(_:Q (.bL (l2 t p)) H)
def ad7:c3 ahn ahn (ct (cS 4)):={}
def PQ {P:bg}{w:bb}{K:PySem.W.Frag}{ae:Str->Option af}{base:a5}{CX ay aJ cF cZ:U}{f:U}{fd:b6}(F:dd K "sees_digit" "Reader.sees_digit" (cS 4) f fd)(T:g8 K ae CX ay aJ cF cZ):aQ P w K ae base bc 1 f fd ahn (IL aJ):=by
 refine F.ok ad7 (λbU A outer s H vs Q E au h=>?_);obtain⟨r,aF,t,p,rfl,R,k⟩:=h;obtain⟨dr,a'⟩:=R.ins;refine⟨_,a_ (dh (eJ gA (bT (ag 0) rfl) (gX j6 (by rfl) T.len jd (aK (bT (ag 0) rfl) aY)) (d4 _)) (bo (cp pX)) dn)
  (bo (cp (acG Cs Cs (gX xB (by rfl) T.ord boot_ord (aK fq aY)) (da gk (bT (ag 0) rfl) (bT (ag 0) rfl) (λ_ _=>rfl)) (gX xB (by rfl) T.ord boot_ord (aK fq aY))))),?_⟩
 refine⟨_,rfl,r,aJ,dr,_,_,rfl,a',T.cN,T.h6,jC _ _,_,rfl,r,aJ,dr,_,_,rfl,a',T.cN,T.h7,wm _ _,aF,_,rfl,.inl (bA.of R.txt),rfl,_,rfl,?_⟩;rw[cc];have hle:=R.le;refine Gv (λaC=>?_) (λaC=>?_)
 ·have aC:(p:Int)=(t.length:Int):=by have:=rv aC;injection this
  have e:l2 t p=false:=by unfold l2;rw[rr,Ae (by omega)];rfl
  rw[e] at k;exact k
 ·have aC:p < t.length:=by have:¬(p:Int)=(t.length:Int):=λz=>aC (ej (by rw[z]));omega
  refine⟨_,rfl,rfl,?_⟩;refine⟨_,rfl,r,aJ,dr,_,_,rfl,a',T.cN,T.h7,wm _ _,_,rfl,r,aJ,dr,_,_,rfl,a',T.cN,T.h6,jC _ _,aF,_,_,bv t[p],rfl,rfl,bA.of R.txt,
   dT (by rw[hD,iK aC];rfl),_,_,rfl,rfl,_,rfl,?_⟩
  have e:l2 t p=(decide ((48:Int)<=(t[p].toNat:Int))&&decide ((t[p].toNat:Int)<=57)):=by unfold l2;rw[rr,iK aC];exact UX _
  rw[e] at k;refine Gv (λaa=>?_) (λaa=>?_)
  ·refine⟨_,rfl,rfl,_,_,rfl,rfl,?_⟩;have qG:decide ((48:Int)<=(t[p].toNat:Int))=true:=aa;rw[qG,Bool.true_and] at k;exact k
  ·have qG:decide ((48:Int)<=(t[p].toNat:Int))=false:=eq_false_of_ne_true aa;rw[qG,Bool.false_and] at k;exact k
inductive Rb(aJ:U)(vs:List V)(H:ah)(Q:cM)(_:fG):Prop|i(r aF:U)(t:Bytes)(p:Nat)(c:UInt8)(_:vs=[.ref r])(_:d1 aJ H r aF t p)(_:(t.drop p).head?=some c)(_:Sty.isDigit c=true)(_:∀ab,d1 aJ ab r aF t (p+1)->de r H ab->Q (.int ((c.toNat - 48:Nat):Int)) ab)
def QR:c3 ["self","digit"] ahn (ct (cS 5)):={}
def aci {P:bg}{w:bb}{K:PySem.W.Frag}{ae:Str->Option af}{base:a5}{CX ay aJ cF cZ:U}{f:U}{fd:b6}(F:dd K "takes_digit" "Reader.takes_digit" (cS 5) f fd)(T:g8 K ae CX ay aJ cF cZ):aQ P w K ae base bc 1 f fd ahn (Rb aJ):=by
 refine F.ok QR (λbU A outer s H vs Q E au h=>?_);obtain⟨r,aF,t,p,c,rfl,R,ai,hd,k⟩:=h;obtain⟨dr,a'⟩:=R.ins;refine⟨_,a_ (cE (i:=1) QR.nd (eg zp (da gk (bT (ag 0) rfl) (bT (ag 0) rfl) (λ_ _=>rfl)) (gX xB (by rfl) T.ord boot_ord (aK fq aY))))
  (a_ (Qf (ag 0) bM Oi) (bo (cp (ag 1)))),?_⟩
 have aC:=Bx ai;have am:t[p]? =some c:=by rw[<-rr];exact ai
 have Ll:=aU.vg hd;refine⟨_,rfl,r,aJ,dr,_,_,rfl,a',T.cN,T.h7,wm _ _,_,rfl,r,aJ,dr,_,_,rfl,a',T.cN,T.h6,jC _ _,aF,_,_,bv c,rfl,rfl,bA.of R.txt,
   dT (by rw[hD,am];rfl),_,rfl,rfl,_,_,rfl,rfl,?_⟩
 refine⟨_,rfl,r,aJ,dr,_,_,rfl,a',T.cN,T.h6,jC _ _,_,_,rfl,rfl,dr,_,a',(by show 2 < 1000;decide),?_⟩;have aE:dw "place" (V.int ((p:Int)+1)) (jB aF p)=jB aF ((p+1:Nat):Int):=by rw[Qx];rfl
 rw[aE];refine⟨_,rfl,?_⟩;have aL:((c.toNat:Int) - 48)=((c.toNat - 48:Nat):Int):=by omega
 have b0:=k _ (R.move (dr:=dr) aC) y6;rw[<-aL] at b0;exact b0
inductive Q_(aJ:U)(vs:List V)(H:ah)(Q:cM)(_:fG):Prop|i(r aF:U)(t:Bytes)(p:Nat)(c:UInt8)(v:Nat)(_:vs=[.ref r,.int (v:Int)])(_:d1 aJ H r aF t p)(_:(t.drop p).head?=some c)(_:Sty.isDigit c=true)(_:v < Sty.BIG)(_:Q (.bL (decide (v≠0/\10 * v+(c.toNat - 48) < Sty.BIG))) H)
def QL:c3 ["self","number","digit"] ahq (ct (cS 6)):={}
def ab2 {P:bg}{w:bb}{K:PySem.W.Frag}{ae:Str->Option af}{base:a5}{CX ay aJ cF cZ:U}{f:U}{fd:b6}(F:dd K "may_grow" "Reader.may_grow" (cS 6) f fd)(T:g8 K ae CX ay aJ cF cZ):aQ P w K ae base bc 1 f fd ahq (Q_ aJ):=by
 refine F.ok QL (λbU A outer s H vs Q E au h=>?_);obtain⟨r,aF,t,p,c,v,rfl,R,ai,hd,bx,k⟩:=h;obtain⟨dr,a'⟩:=R.ins;obtain⟨gt,bK⟩:=T.Wv;refine⟨_,a_ (cE (i:=2) QL.nd (eg zp (da gk (bT (ag 0) rfl) (bT (ag 0) rfl) (λ_ _=>rfl)) (gX xB (by rfl) T.ord boot_ord (aK fq aY))))
  (bo (cp (P2 (uw wc (ag 1) bM (d4 _)) (P7 (uw Cs (eg uq (eg PX (ag 1) bM) (ag 2)) (hg (v:=.int 4294967295) rfl bK ⟨gt,rfl⟩) (d4 _)))))),?_⟩
 have aC:=Bx ai;have am:t[p]? =some c:=by rw[<-rr];exact ai
 have Ll:=aU.vg hd;have lM:Sty.BIG=4294967296:=rfl;refine⟨_,rfl,r,aJ,dr,_,_,rfl,a',T.cN,T.h7,wm _ _,_,rfl,r,aJ,dr,_,_,rfl,a',T.cN,T.h6,jC _ _,aF,_,_,bv c,rfl,rfl,bA.of R.txt,
   dT (by rw[hD,am];rfl),_,rfl,rfl,_,_,rfl,rfl,?_⟩
 refine⟨_,rfl,rfl,_,rfl,?_⟩;by_cases h0:v=0
 ·subst h0;rw[cW (by intro z;exact z.1 rfl)] at k;refine Oq rfl ?_;exact k
 ·have ak:¬V.int (v:Int)=V.int 0:=by intro z;injection z with z;omega
  have bI:(!decide (V.int (v:Int)=V.int 0))=true:=by simp[ak]
  rw[bI];refine d3 ?_;refine⟨_,rfl,_,_,rfl,rfl,.inl ⟨by omega,by omega⟩,_,rfl,_,_,rfl,rfl,_,_,rfl,rfl,?_⟩;have gO:decide ((v:Int) * 10+((c.toNat:Int) - ((48:Nat):Int))<=4294967295)=decide (v≠0/\10 * v+(c.toNat - 48) < Sty.BIG):=by
   refine ma.mpr ?_;rw[lM];constructor
   ·intro z;exact⟨h0,by omega⟩
   ·intro z;have:=z.2;omega
  rw[<-gO] at k;exact k
inductive De(CX aJ:U)(vs:List V)(H:ah)(Q:cM)(E:fG):Prop|i(r aF:U)(t:Bytes)(p:Nat)(_:vs=[.ref r])(_:d1 aJ H r aF t p)(_:∀n k,aU.lg (t.drop p)=.ok (n,k)->n < Sty.BIG->∀ab,d1 aJ ab r aF t (p+k)->de r H ab->Q (.int (n:Int)) ab)(_:∀j,aU.lg (t.drop p)=.error j->pa CX r H E (p+j))
def Ic:c3 ahq ahn (ct (cS 7)):={}
def drop_cons {t:Bytes}{p:Nat}{c:UInt8}(h:(t.drop p).head?=some c):t.drop p=c::t.drop (p+1):=by have aC:=Bx h;rw[rr] at h;have am:=(eX.mp h).2;rw[<-am];exact wQ (by omega)
def aca {P:bg}{w:bb}{K:PySem.W.Frag}{ae:Str->Option af}{base:a5}{CX ay aJ cF cZ:U}{f f4 eU xO:U}{fd n' lL xT jp:b6}(F:dd K "read_number" "Reader.read_number" (cS 7) f fd)(T:g8 K ae CX ay aJ cF cZ)(j2:cC K aJ "sees_digit" "Reader.sees_digit" (cS 4) ahn f4 n')
  (j3:cC K aJ "takes_digit" "Reader.takes_digit" (cS 5) ahn eU lL) (tn:cC K aJ "may_grow" "Reader.may_grow" (cS 6) ahq xO xT) (ql:dd K "__init__" "SelectorFault.__init__" sK cF jp) (pj:Binds K jp ahw []):
  aQ P w K ae base (eL P w CX) 3 f fd ahn (De CX aJ):=by
 have rA:aQ P w K ae base bc 1 f4 n' ahn (IL aJ):=PQ j2.fn T;have o8:aQ P w K ae base bc 1 eU lL ahn (Rb aJ):=aci j3.fn T;have DX:aQ P w K ae base bc 1 xO xT ahq (Q_ aJ):=ab2 tn.fn T;have o9:aQ P w K ae base bc 1 cF jp ahw (sO CX):=zn ql T;refine F.eD Ic (λbU A outer s H vs Q E au h=>?_);obtain⟨r,aF,t,p,rfl,R,cP,bX⟩:=h;obtain⟨dr,a'⟩:=R.ins;have gu:c1 1 _:=au.mono (by decide);refine⟨_,a_ (dh (zC (lk (lj (ag 0) T.cN j2.dJ rA gu j2.bi .nil cA))) (bo (wi T.km wJ rfl (wd T.km o9 au rfl T.sr pj cA (aK (bT (ag 0) rfl) aY)))) dn)
  (a_ (cE (i:=1) Ic.nd (lj (ag 0) T.cN j3.dJ o8 gu j3.bi .nil cA))
  (a_ (sI w4 (lk (lj (ag 0) T.cN j2.dJ rA gu j2.bi .nil cA))
   (a_ (dh (zC (lk (fC (ag 0) T.cN tn.dJ DX gu tn.bi .nil cA (aK (ag 1) aY)))) (bo (wi T.km wJ rfl (wd T.km o9 au rfl T.sr pj cA (aK (bT (ag 0) rfl) aY)))) dn)
   (bo (cE (i:=1) Ic.nd (eg uq (eg PX (ag 1) bM) (lj (ag 0) T.cN j3.dJ o8 gu j3.bi .nil cA))))))
  (bo (cp (ag 1))))),?_⟩
 refine⟨_,rfl,r,dr,_,rfl,a',fU _ _ (by w_on) (by w_on),r,aF,t,p,rfl,R,_,rfl,?_⟩;cases aD:(t.drop p).head? with
 |none=>
  have e:l2 t p=false:=by unfold l2;rw[aD];rfl
  rw[e];refine d3 ⟨_,rfl,r,aJ,dr,_,_,rfl,a',T.cN,T.h6,jC _ _,(cH 1),uB (bX 0 ?_) (de.refl _ _)⟩;have z:t.drop p=[]:=by simpa using aD
  rw[z];rfl
 |some c=>
  have f5:l2 t p=Sty.isDigit c:=by unfold l2;rw[aD];rfl
  have a7:=drop_cons aD;by_cases hd:Sty.isDigit c=true
  ·rw[f5,hd];refine eS ?_;refine⟨_,rfl,r,dr,_,rfl,a',fU _ _ (by w_on) (by w_on),r,aF,t,p,c,rfl,R,aD,hd,λH1 e' dI=>?_⟩;have Ll:=aU.vg hd;have lM:Sty.BIG=4294967296:=rfl;have en:aU.lg (t.drop p)=match aU.h2 (c.toNat - 48) 0 (t.drop (p+1)) with
     |.error j=>.error (1+j)
     |.ok (n,m)=>.ok (n,1+m):=by
    rw[a7,aU.Cm,aV hd];exact aU.A5 _ _ 1
   refine afZ (λσ ab=>∃(v i:Nat),σ=[some (.ref r),some (.int (v:Int))]/\d1 aJ ab r aF t (p+1+i)/\de r H ab/\v < Sty.BIG/\
     aU.lg (t.drop p)=match aU.h2 v 0 (t.drop (p+1+i)) with|.error j=>.error (1+i+j)|.ok (n,m)=>.ok (n,1+i+m))
    (λσ ab=>match ab r with|some (.ins _ _ bd)=>(match bd.lookup ("place":Str) with|some (.int q)=>t.length - q.toNat|_=>0)|_=>0)
    ⟨c.toNat - 48,0,rfl,e',dI,by omega,en⟩ ?_ ?_
   ·rintro σ ab ⟨v,i,rfl,R',bu,bx,eq⟩;obtain⟨k5,fA⟩:=R'.ins;refine⟨_,rfl,r,k5,_,rfl,fA,fU _ _ (by w_on) (by w_on),r,aF,t,p+1+i,rfl,R',_,rfl,?_⟩;cases oq:(t.drop (p+1+i)).head? with
    |none=>
     have e:l2 t (p+1+i)=false:=by unfold l2;rw[oq];rfl
     rw[e];refine eS ⟨_,rfl,?_⟩;have z:t.drop (p+1+i)=[]:=by simpa using oq
     rw[z] at eq;have g6:d1 aJ ab r aF t (p+(1+i+0)):=by
      have:p+(1+i+0)=p+1+i:=by omega
      rw[this];exact R'
     exact cP v (1+i+0) eq bx ab g6 bu
    |some fH=>
     have Lv:l2 t (p+1+i)=Sty.isDigit fH:=by unfold l2;rw[oq];rfl
     have EY:=drop_cons oq;by_cases hd2:Sty.isDigit fH=true
     ·rw[Lv,hd2];refine d3 ⟨_,rfl,r,k5,_,rfl,fA,fU _ _ (by w_on) (by w_on),_,rfl,r,aF,t,p+1+i,fH,v,rfl,R',oq,hd2,bx,_,rfl,?_⟩;have agl:=aU.vg hd2;by_cases bK:v≠0/\10 * v+(fH.toNat - 48) < Sty.BIG
      ·rw[ej bK];refine eS ?_;refine⟨_,rfl,_,_,rfl,rfl,.inl ⟨by omega,by omega⟩,_,rfl,r,k5,_,rfl,fA,fU _ _ (by w_on) (by w_on),r,aF,t,p+1+i,fH,rfl,R',oq,hd2,λbz g6 hu=>?_⟩;refine⟨_,_,rfl,rfl,⟨10 * v+(fH.toNat - 48),i+1,?_,g6,bu.trans hu,bK.2,?_⟩,?_⟩
       ·have qB:((v:Int) * 10+((fH.toNat - 48:Nat):Int))=((10 * v+(fH.toNat - 48):Nat):Int):=by omega
        rw[<-qB];rfl
       ·rw[eq,EY]
        conv=>lhs;unfold aU.h2
        rw[aV hd2,aV bK,aU.A5 _ _ (0+1)];have lH:p+1+(i+1)=p+1+i+1:=by omega
        rw[lH];cases aU.h2 (10 * v+(fH.toNat - 48)) 0 (t.drop (p+1+i+1)) with
        |error j=>simp only;congr 1;omega
        |ok x=>simp only;congr 2;omega
       ·obtain⟨vh,k9⟩:=g6.ins;rw[k9,fA];simp only[jC];have:=g6.le;omega
      ·rw[cW bK];refine d3 ⟨_,rfl,r,aJ,k5,_,_,rfl,fA,T.cN,T.h6,jC _ _,(cH 1),?_⟩;have hz:pa CX r H E (p+1+i):=by
        have:=bX (1+i+0) (by
         rw[eq,EY];unfold aU.h2;rw[aV hd2,aN bK])
        have tD:p+(1+i+0)=p+1+i:=by omega
        rw[tD] at this;exact this
       exact uB hz bu
     ·have FL:Sty.isDigit fH=false:=by simpa using hd2
      rw[Lv,FL];refine eS ⟨_,rfl,?_⟩;rw[EY] at eq;unfold aU.h2 at eq;rw[aN hd2] at eq;have g6:d1 aJ ab r aF t (p+(1+i+0)):=by
       have:p+(1+i+0)=p+1+i:=by omega
       rw[this];exact R'
      exact cP v (1+i+0) eq bx ab g6 bu
   ·rintro σ ab agg agh eV ⟨v,aa,a,aq,bd,ac,av,bn,b8,afo,t',ef,cB,gQ,b7,od,tM⟩;exact⟨v,aa,a,aq,bd,ac,av,bn,b8,afo,t',ef,cB,gQ,b7,od,eV _ _ tM⟩
  ·have FL:Sty.isDigit c=false:=by simpa using hd
   rw[f5,FL];refine d3 ⟨_,rfl,r,aJ,dr,_,_,rfl,a',T.cN,T.h6,jC _ _,(cH 1),uB (bX 0 ?_) (de.refl _ _)⟩;rw[a7,aU.Cm,aN hd]
def Diff (H ab:ah):ah:=λb=>match H b with
 |none=>ab b
 |some _=>none
def iX (n:H b=none)(h:ab b=some o):Diff H ab b=some o:=by unfold Diff;rw[n];exact h
def mH (h:Diff H ab b=some o):H b=none/\ab b=some o:=by
 unfold Diff at h;cases e:H b with
 |none=>rw[e] at h;exact⟨rfl,h⟩
 |some u=>rw[e] at h;cases h
def nh (k:de r H1 ap)(au:gh r≠none):aA (Diff gh H1) (Diff gh ap):=λb o h=>by obtain⟨aa,ac⟩:=mH h;exact iX aa (k b o ac λe=>au (by rw[<-e];exact aa))
def qA (d:∀b,H1 b=none->gh b=none):aA (Diff H1 ap) (Diff gh ap):=λb o h=>by obtain⟨aa,ac⟩:=mH h;exact iX (d b aa) ac
def UV:aA (Diff H ab) ab:=λb o h=>(mH h).2
def aA.upd (h:H p=none):aA H (upd H p o):=λb u e=>by rw[aj (a8 e h)];exact e
def aA.refl (H:ah):aA H H:=λ_ _ h=>h
def _root_.aB.aA.VQ (e:aA H ab)(b:U)(h:ab b=none):H b=none:=e.free h
def uJ:Sty.Head->V
 |.tag t=>.int (t:Int)
 |_=>.b1
def mi (H:ah)(v:V):Sty.Simple->Prop
 |.cls k=>∃p,v=.ref p/\H p=some (.tup [.str "class",.int (k:Int)])
 |.first=>∃p,v=.ref p/\H p=some (.tup [.str "first",.b1])
 |.last=>∃p,v=.ref p/\H p=some (.tup [.str "last",.b1])
 |.empty=>∃p,v=.ref p/\H p=some (.tup [.str "empty",.b1])
def mi.same (e:aA H ab):∀{s:Sty.Simple},mi H v s->mi ab v s
 |.cls _,⟨p,h,q⟩=>⟨p,h,e _ _ q⟩
 |.first,⟨p,h,q⟩=>⟨p,h,e _ _ q⟩
 |.last,⟨p,h,q⟩=>⟨p,h,e _ _ q⟩
 |.empty,⟨p,h,q⟩=>⟨p,h,e _ _ q⟩
def pQ (dS:V)(l:U):List (Str×V):=[("tag",dS),("tests",.ref l)]
def qm (ay:U)(A:ah->V->α->Prop)(H:ah)(v:V)(h:Sty.Head)(l:List α):Prop:=
 ∃a aq lt bC,v=.ref a/\H a=some (.ins ay aq (pQ (uJ h) lt))/\H lt=some (.lst bC)/\Paired (A H) bC l
def qm.same (e2:∀v a,A H v a->A ab v a)(e:aA H ab):qm ay A H v h l->qm ay A ab v h l
 |⟨a,aq,lt,bC,aa,ac,av,bn⟩=>⟨a,aq,lt,bC,aa,e _ _ ac,e _ _ av,Paired.gH bn e2⟩
def jj (ay:U)(H:ah)(v:V):Sty.Test->Prop
 |.is s=>mi H v s
 |.isnt p=>∃a k,v=.ref a/\H a=some (.tup [.str "not",k])/\qm ay mi H k p.head p.tests
def jj.same (e:aA H ab):∀{s:Sty.Test},jj ay H v s->jj ay ab v s
 |.is _,h=>mi.same e h
 |.isnt _,⟨a,k,aa,ac,av⟩=>⟨a,k,aa,e _ _ ac,av.same (λ_ _ z=>mi.same e z) e⟩
abbrev jg (ay:U)(H:ah)(v:V)(k:Sty.Kind):Prop:=qm ay (jj ay) H v k.head k.tests
def jg.same (e:aA H ab)(h:jg ay H v k):jg ay ab v k:=qm.same (λ_ _ z=>jj.same e z) e h
theorem P1:∀{bC:List V} {l:List Sty.Simple},Paired (jj ay H) bC (l.map Sty.Test.is)->Paired (mi H) bC l
 |_,[],.nil=>.nil
 |_,_::_,.cons r t=>.cons r (P1 t)
def jg.plain (h:jg ay H v (aU.n4 p)):qm ay mi H v p.head p.tests:=by obtain⟨a,aq,lt,bC,aa,ac,av,bn⟩:=h;exact⟨a,aq,lt,bC,aa,ac,av,P1 bn⟩
inductive Dg(CX aJ:U)(Kl:Bytes->Sty.Read α)(A:ah->V->α->Prop)(more:List V)(vs:List V)(H:ah)(Q:cM)(E:fG):Prop|i(r aF:U)(t:Bytes)(p:Nat)(_:vs=.ref r::more)(_:d1 aJ H r aF t p)(_:∀x n,Kl (t.drop p)=.ok (x,n)->∀ab v,d1 aJ ab r aF t (p+n)->de r H ab->A (Diff H ab) v x->Q v ab)(_:∀j,Kl (t.drop p)=.error j->pa CX r H E (p+j))
def Dm (CX ay aJ:U)(inner:Bool):cD:=Dg CX aJ (aU.oW inner) (jj ay) [.bL inner]
def sN (CX ay aJ:U)(inner:Bool):cD:=Dg CX aJ (aU.t8 inner) (jg ay) [.bL inner]
def z0 (CX ay aJ:U)(inner:Bool):cD:=Dg CX aJ (aU.many (aU.i8 inner)) (λH v l=>∃a bC,v=.ref a/\H a=some (.lst bC)/\Paired (jj ay H) bC l) [.bL inner]
def Ig:c3 ["self","inner","word","kind"] ahr (ct (cS 8)):={}
def af1:(("first":Str)=dM aU.WF)/\(("last":Str)=dM aU.n3)/\(("empty":Str)=dM aU.n2)/\(("not(":Str)=dM aU.kq)/\((")":Str)=dM [41]):=by w_on
def d1.same {aJ:U}{H ab:ah}{r aF:U}{t:Bytes}{p:Nat}(R:d1 aJ H r aF t p)(e:aA H ab):d1 aJ ab r aF t p:=by obtain⟨dr,h⟩:=R.ins;exact⟨⟨dr,e _ _ h⟩,e _ _ R.txt,R.le,R.kg⟩
def d1.eM {aJ:U}{H ab:ah}{r aF:U}{t:Bytes}{p:Nat}(R:d1 aJ ab r aF t p)(k:de r H ab)(b:U)(e:ab b=none):H b=none:=by
 cases q:H b with
 |none=>rfl
 |some o=>
  by_cases I:b=r
  ·obtain⟨dr,h⟩:=R.ins;rw[I,h] at e;cases e
  ·rw[k b o q I] at e;cases e
def d1.some {aJ:U}{H:ah}{r aF:U}{t:Bytes}{p:Nat}(R:d1 aJ H r aF t p):H r≠none:=by obtain⟨dr,h⟩:=R.ins;rw[h];nofun
def d1.free {aJ:U}{H:ah}{r aF x:U}{t:Bytes}{p:Nat}(R:d1 aJ H r aF t p)(e:H x=none):x≠r:=by obtain⟨dr,h⟩:=R.ins;exact(a8 h e).symm
def Mh {P:bg}{w:bb}{K:PySem.W.Frag}{ae:Str->Option af}{base:a5}{f:U}{fd:b6}{ps:List Str}{k:Nat}{R_:hT}{sp:cD}(h:∀vs H Q E,¬sp vs H Q E):aQ P w K ae base R_ k f fd ps sp:=
 ⟨λvs H Q E z=>(h vs H Q E z).elim,λ_ _ _ H _ _ vs Q E _ _ _ _ z=>(h vs H Q E z).elim⟩
def PS {P:bg}{w:bb}{K:PySem.W.Frag}{ae:Str->Option af}{base:a5}{CX ay aJ cF cZ:U}{inner:Bool}{f f1 d8 Md:U}{fd fO rV L2 jp:b6}{k:Nat}(aw:4<=k)(F:dd K "read_word" "Reader.read_word" (cS 8) f fd)(T:g8 K ae CX ay aJ cF cZ)(fv:cC K aJ "sees" "Reader.sees" (cS 1) ahp f1 fO)
  (m6:cC K aJ "needs" "Reader.needs" (cS 3) ahI d8 rV) (tl:aQ P w K ae base (eL P w CX) 3 d8 rV ahI (Dd CX aJ)) (ql:dd K "__init__" "SelectorFault.__init__" sK cF jp) (pj:Binds K jp ahw [])
  (jL:cC K aJ "read_kind" "Reader.read_kind" (cS 10) ahr Md L2) (SD:aQ P w K ae base (eL P w CX) k Md L2 ahr (λvs H Q E=>inner=false/\sN CX ay aJ true vs H Q E)):
  aQ P w K ae base (eL P w CX) (k+1) f fd ahr (Dm CX ay aJ inner):=by
 have kV:aQ P w K ae base bc 1 f1 fO ahp (Di aJ):=Hq fv.fn T;have o9:aQ P w K ae base bc 1 cF jp ahw (sO CX):=zn ql T;refine F.eD Ig (λbU A outer s H vs Q E au h=>?_);obtain⟨r,aF,t,p,rfl,R,cP,bX⟩:=h;obtain⟨dr,a'⟩:=R.ins;obtain⟨c_,Zc,yr⟩:=T.iH;obtain⟨hC,p4,mR,RU,Jd⟩:=af1;have gu:c1 1 _:=au.mono (by omega);have fA:c1 2 _:=au.mono (by omega);have k9:c1 3 _:=au.mono (by omega);refine⟨_,a_ (lZ w4 rfl (P' (hg (v:=.ref c_) rfl Zc rfl)) (fJ (i:=2) Ig.nd)
   (bo (dh (lk (fC (ag 0) T.cN fv.dJ kV gu fv.bi .nil cA (aK (da ZE (ag 2) bM (λ_ _=>rfl)) aY)))
    (a_ (hQ (fC (ag 0) T.cN m6.dJ tl k9 m6.bi .nil mK (aK (ag 2) aY))) (bo (cp (nA (aK (ag 2) (aK sG aY)))))) dn)))
  (a_ (dh (lk (ag 1)) (bo (wi T.km wJ rfl (wd T.km o9 fA rfl T.sr pj cA (aK (bT (ag 0) rfl) aY)))) dn)
  (a_ (hQ (fC (ag 0) T.cN m6.dJ tl k9 m6.bi .nil mK (aK fq aY)))
  (a_ (cE (i:=3) Ig.nd (fC (ag 0) T.cN jL.dJ SD au jL.bi .nil mK (aK pX aY)))
  (a_ (hQ (fC (ag 0) T.cN m6.dJ tl k9 m6.bi .nil mK (aK fq aY)))
  (bo (cp (nA (aK fq (aK (ag 3) aY))))))))),?_⟩
 refine⟨c_,rfl,⟨_,yr H⟩,Ml (K:=K) (a:=c_) (xs:=[.str "first",.str "last",.str "empty"]) (λi σ ab=>∃v,σ=[some (.ref r),some (.bL inner),v,none]/\ab=H/\
   (0 < i->(t.drop p).head?≠some 102)/\(1 < i->(t.drop p).head?≠some 108)/\(2 < i->(t.drop p).head?≠some 101)) ⟨none,rfl,rfl,by omega,by omega,by omega⟩ (λi σ ab _ _=>yr ab) ?_ ?_⟩
 ·rintro i x σ _ aR ⟨v,rfl,rfl,ea,eW,gI⟩;obtain⟨c,iH,S,word,rfl,dF,aE,aL,bI⟩:∃(c:UInt8) (iH:Bytes) (S:Sty.Simple) (word:Str),x=.str word/\word.length<=sizeLine/\word=dM (c::iH)/\(∀ab q,ab q=some (.tup [.str word,.b1])->mi ab (.ref q) S)/\
    ((t.drop p).head?=some c->aU.oW inner (t.drop p)=(aU.jx (c::iH) (t.drop p)).map λ(x:Unit×Nat)=>(.is S,x.2))/\
    ((t.drop p).head?≠some c->(0 < i+1->(t.drop p).head?≠some 102)/\(1 < i+1->(t.drop p).head?≠some 108)/\(2 < i+1->(t.drop p).head?≠some 101)):=by
   match i,aR with
   |0,aR=>cases dZ aR;refine⟨102,[105,114,115,116],.first,_,rfl,by w_on,hC,λab q h=>⟨q,rfl,h⟩,λh=>?_,λh=>⟨λ_=>h,by omega,by omega⟩⟩;unfold aU.oW;rw[aV h];rfl
   |1,aR=>cases dZ aR;refine⟨108,[97,115,116],.last,_,rfl,by w_on,p4,λab q h=>⟨q,rfl,h⟩,λh=>?_,λh=>⟨λ_=>ea (by omega),λ_=>h,by omega⟩⟩;unfold aU.oW;rw[aN (ea (by omega)),aV h];rfl
   |2,aR=>cases dZ aR;refine⟨101,[109,112,116,121],.empty,_,rfl,by w_on,mR,λab q h=>⟨q,rfl,h⟩,λh=>?_,λh=>⟨λ_=>ea (by omega),λ_=>eW (by omega),λ_=>h⟩⟩;unfold aU.oW;rw[aN (ea (by omega)),aN (eW (by omega)),aV h];rfl
   |i+3,aR=>simp at aR
  obtain⟨bI,gO⟩:=bI;have TZ:ph word.cps.toList 0=some c.toNat:=by rw[aE];exact dT (j:=0) rfl
  refine⟨_,rfl,r,dr,_,rfl,a',fU _ _ (by w_on) (by w_on),_,rfl,_,_,_,rfl,rfl,dF,TZ,r,aF,t,p,c,rfl,R,_,rfl,?_⟩
  ·by_cases ai:(t.drop p).head?=some c
   ·rw[ej ai];refine d3 ⟨_,rfl,r,dr,_,rfl,a',fU _ _ (by w_on) (by w_on),_,rfl,r,aF,t,p,c::iH,by rw[<-aE];rfl,R,λn en H1 e' dI=>?_,λj ed=>?_⟩
    ·refine⟨_,rfl,cH 2,λq az=>?_⟩;refine cP (.is S) n ?_ _ _ (e'.same (aA.upd az)) (dI.trans (aA.keep (aA.upd az))) ?_
     ·rw[bI ai,en];rfl
     ·exact aL _ q (iX (e'.eM dI q az) aG)
    ·refine bX j ?_;rw[bI ai,ed];rfl
   ·rw[cW ai];refine eS ⟨_,rfl,rfl,gO ai⟩
 ·rintro σ nR ⟨v,rfl,rfl,ea,eW,gI⟩;have ea:=ea (by decide);have eW:=eW (by decide);have gI:=gI (by decide);have iv:aU.oW inner (t.drop p)=if inner=true then .error 0
    else Sty.then_ (aU.jx aU.kq (t.drop p)) (t.drop p) λ(_:Unit) (q:Bytes)=>Sty.then_ (aU.mL q) q λ(p:Sty.Plain) (z:Bytes)=>if z.head?=some 41 then .ok (.isnt p,1) else .error 0:=by
   unfold aU.oW;rw[aN ea,aN eW,aN gI]
  refine⟨_,rfl,inner,rfl,?_⟩;cases inner with
  |true=>refine d3 ⟨_,rfl,r,aJ,dr,_,_,rfl,a',T.cN,T.h6,jC _ _,(cH 1),uB (bX 0 iv) (de.refl _ _)⟩
  |false=>
   have iv:aU.oW false (t.drop p)=Sty.then_ (aU.jx aU.kq (t.drop p)) (t.drop p) λ(_:Unit) (q:Bytes)=>Sty.then_ (aU.mL q) q λ(p:Sty.Plain) (z:Bytes)=>if z.head?=some 41 then .ok (.isnt p,1) else .error 0:=iv
   refine eS ⟨_,rfl,r,dr,_,rfl,a',fU _ _ (by w_on) (by w_on),r,aF,t,p,aU.kq,by rw[<-RU];rfl,R,λn en H1 e' dI=>?_,λj ed=>bX j (by rw[iv,ed];rfl)⟩;rw[en] at iv;obtain⟨mo,mB⟩:=e'.ins;have b4:(t.drop p).drop n=t.drop (p+n):=by rw[iJ]
   refine⟨_,rfl,r,mo,_,rfl,mB,fU _ _ (by w_on) (by w_on),rfl,r,aF,t,p+n,rfl,e',λx m em ap bJ dt e6 e2=>?_,λj ed=>?_⟩
   ·rw[aU.Oy] at em;obtain⟨pl,A_,rfl⟩:∃pl,aU.mL (t.drop (p+n))=.ok (pl,m)/\x=aU.n4 pl:=by
     cases e:aU.mL (t.drop (p+n)) with
     |error j=>rw[e] at em;cases em
     |ok y=>rw[e] at em;cases em;exact⟨y.1,rfl,rfl⟩
    obtain⟨k5,vG⟩:=dt.ins;refine⟨_,rfl,r,k5,_,rfl,vG,fU _ _ (by w_on) (by w_on),r,aF,t,p+n+m,[41],by rw[<-Jd];rfl,dt,λi f6 bz g6 hu=>?_,λj ed=>?_⟩
    ·have Fs:(t.drop (p+n+m)).head?=some 41/\i=1:=by
      unfold aU.jx at f6;cases e:t.drop (p+n+m) with
      |nil=>rw[e] at f6;cases f6
      |cons c q=>
       rw[e] at f6;by_cases ai:c=41
       ·subst ai;have:([41]:Bytes).isPrefixOf (41::q)=true:=by simp[isPrefixOf]
        rw[aV this] at f6;cases f6;exact⟨rfl,rfl⟩
       ·have:([41]:Bytes).isPrefixOf (c::q)=false:=by simp[isPrefixOf];exact λz=>ai z.symm
        rw[aN (by rw[this];decide)] at f6;cases f6
     obtain⟨Fs,rfl⟩:=Fs;refine⟨_,rfl,cH 2,λq az=>?_⟩;refine cP (.isnt pl) (n+(m+1)) ?_ _ _ (by rw[show p+(n+(m+1))=p+n+m+1 by omega];exact g6.same (aA.upd az)) (((dI.trans e6).trans hu).trans (aA.keep (aA.upd az))) ?_
     ·rw[iv];simp only[Sty.then_,b4,A_];rw[iJ,Fs];rfl
     ·have bQ:aA (Diff H1 ap) (Diff nR (upd bz q (.tup [.str "not",bJ]))):=(qA (e'.eM dI)).trans (nh (hu.trans (aA.keep (aA.upd az))) R.some);exact⟨q,bJ,rfl,iX (g6.eM ((dI.trans e6).trans hu) q az) aG,(jg.plain e2).same (λ_ _ z=>mi.same bQ z) bQ⟩
    ·have E1:(t.drop (p+n+m)).head?≠some 41/\j=0:=by
      unfold aU.jx at ed;cases e:t.drop (p+n+m) with
      |nil=>rw[e] at ed;cases ed;exact⟨by simp,rfl⟩
      |cons c q=>
       rw[e] at ed;by_cases ai:c=41
       ·subst ai;have:([41]:Bytes).isPrefixOf (41::q)=true:=by simp[isPrefixOf]
        rw[aV this] at ed;cases ed
       ·have ac:([41]:Bytes).isPrefixOf (c::q)=false:=by simp[isPrefixOf];exact λz=>ai z.symm
        rw[aN (by rw[ac];decide)] at ed;have av:Sty.agree [41] (c::q)=0:=by unfold Sty.agree;rw[aN (λz=>ai z.symm)]
        rw[av] at ed;cases ed;exact⟨by simpa using ai,rfl⟩
     obtain⟨E1,rfl⟩:=E1;have z:=bX (n+(m+0)) (by
      rw[iv];simp only[Sty.then_,b4,A_];rw[iJ,aN E1])
     rw[show p+(n+(m+0))=p+n+m+0 by omega] at z;exact z.keep (dI.trans e6)
   ·rw[aU.Oy] at ed;have A_:aU.mL (t.drop (p+n))=.error j:=by
     cases e:aU.mL (t.drop (p+n)) with
     |error i=>rw[e] at ed;cases ed;rfl
     |ok y=>rw[e] at ed;cases ed
    have z:=bX (n+j) (by
     rw[iv];simp only[Sty.then_,b4,A_])
    rw[show p+(n+j)=p+n+j by omega] at z;exact z.keep dI
def C_:((".":Str)=dM [46])/\((":":Str)=dM [58])/\(("*":Str)=dM [42])/\((",":Str)=dM [44])/\((" ":Str)=dM [32])/\((">":Str)=dM [62])/\(("+":Str)=dM [43])/\(("~":Str)=dM [126]):=by w_on
def Pk {c:UInt8}(h:r.head?=some c):aU.jx [c] r=.ok ((),1):=by
 cases r with
 |nil=>simp at h
 |cons d q=>
  have:d=c:=by simpa using h
  subst this;simp[aU.jx,isPrefixOf]
theorem oH:∀{l:List α} {m:List β} {a:α} {b:β},Paired F l m->F a b->Paired F (l++[a]) (m++[b])
 |_,_,_,_,.nil,h=>.cons h .nil
 |_,_,_,_,.cons r t,h=>.cons r (oH t h)
def BZ {n:Nat}(h:n<=256):n < sizeLine:=Nat.lt_of_le_of_lt h (by decide)
def QS:c3 ["self","inner","tests"] ahr (ct (cS 9)):={}
def PR {P:bg}{w:bb}{K:PySem.W.Frag}{ae:Str->Option af}{base:a5}{CX ay aJ cF cZ:U}{inner:Bool}{f f1 f2 d8 rU f8:U}{fd fO gP rV rW xU:b6}{k:Nat}(aw:4<=k)(F:dd K "read_tests" "Reader.read_tests" (cS 9) f fd)(T:g8 K ae CX ay aJ cF cZ)(fv:cC K aJ "sees" "Reader.sees" (cS 1) ahp f1 fO)
  (M2:cC K aJ "takes" "Reader.takes" (cS 2) ahp f2 gP) (m6:cC K aJ "needs" "Reader.needs" (cS 3) ahI d8 rV) (tl:aQ P w K ae base (eL P w CX) 3 d8 rV ahI (Dd CX aJ))
  (xh:cC K aJ "read_number" "Reader.read_number" (cS 7) ahn rU rW) (w9:aQ P w K ae base (eL P w CX) 3 rU rW ahn (De CX aJ))
  (JZ:cC K aJ "read_word" "Reader.read_word" (cS 8) ahr f8 xU) (DY:aQ P w K ae base (eL P w CX) k f8 xU ahr (Dm CX ay aJ inner)):
  aQ P w K ae base (eL P w CX) (k+1) f fd ahr (z0 CX ay aJ inner):=by
 have kV:aQ P w K ae base bc 1 f1 fO ahp (Di aJ):=Hq fv.fn T;have jZ:aQ P w K ae base bc 2 f2 gP ahp (wx aJ):=zo M2.fn T fv;refine F.eD QS (λbU A outer s H vs Q E au h=>?_);obtain⟨r,aF,t,p,rfl,R,cP,bX⟩:=h;obtain⟨s1,s2,_⟩:=C_;have gu:c1 1 _:=au.mono (by omega);have fA:c1 2 _:=au.mono (by omega);have k9:c1 3 _:=au.mono (by omega);refine⟨_,a_ (cE (i:=2) QS.nd (dL aY))
  (a_ (sI w4 (kX.pt (CD (lk (fC (ag 0) T.cN fv.dJ kV gu fv.bi .nil cA (aK fq aY))) (CE (lk (fC (ag 0) T.cN fv.dJ kV gu fv.bi .nil cA (aK fq aY))))))
   (bo (dh (lk (fC (ag 0) T.cN M2.dJ jZ fA M2.bi .nil cA (aK fq aY)))
    (bo (hQ (lh kR mY nK nz (ag 2) (aK (nA (aK fq (aK (lj (ag 0) T.cN xh.dJ w9 k9 xh.bi .nil mK) aY))) aY))))
    (a_ (hQ (fC (ag 0) T.cN m6.dJ tl k9 m6.bi .nil mK (aK fq aY)))
     (bo (hQ (lh kR mY nK nz (ag 2) (aK (fC (ag 0) T.cN JZ.dJ DY au JZ.bi .nil mK (aK (ag 1) aY)) aY))))))))
  (bo (cp (ag 2)))),?_⟩
 refine⟨eY _,λl aC=>?_⟩;have hb:l≠r:=R.free aC;refine⟨λm σ ab=>∃i bC acc,m=t.length - (p+i)/\σ=[some (.ref r),some (.bL inner),some (.ref l)]/\ab l=some (.lst bC)/\d1 aJ ab r aF t (p+i)/\de r H ab/\bC.length<=i/\Paired (jj ay (Diff (upd H l (.lst [])) ab)) bC acc/\
  aU.many (aU.i8 inner) (t.drop p)=aU.pre acc i (aU.many (aU.i8 inner) (t.drop (p+i))),⟨_,0,[],[],rfl,rfl,aG,R.same (aA.upd aC),aA.keep (aA.upd aC),b5 _,.nil,(aU.CB _).symm⟩,?_⟩
 rintro m σ ab ⟨i,bC,acc,rfl,rfl,ht,R',bu,nu,e2,eq⟩;obtain⟨dr,a'⟩:=R'.ins;have hle:=R'.le;have hsz:=R'.kg;have mD:(t.drop (p+i)).tail=t.drop (p+i+1):=by rw[List.tail_drop]
 have more:∀{a:Sty.Test} {n:Nat} {v:V} {ap:ah},Sty.begins (t.drop (p+i))=true->aU.i8 inner (t.drop (p+i))=.ok (a,n)->ap l=some (.lst bC)->d1 aJ ap r aF t (p+(i+n))->de r ab ap->jj ay (Diff ab ap) v a->
   ∃cQ,cQ < t.length - (p+i)/\∃c2 sS Ks,cQ=t.length - (p+c2)/\([some (.ref r),some (.bL inner),some (.ref l)]:List (Option V))=[some (.ref r),some (.bL inner),some (.ref l)]/\(upd ap l (.lst (bC++[v]))) l=some (.lst sS)/\
    d1 aJ (upd ap l (.lst (bC++[v]))) r aF t (p+c2)/\de r H (upd ap l (.lst (bC++[v])))/\sS.length<=c2/\Paired (jj ay (Diff (upd H l (.lst [])) (upd ap l (.lst (bC++[v]))))) sS Ks/\
    aU.many (aU.i8 inner) (t.drop p)=aU.pre Ks c2 (aU.many (aU.i8 inner) (t.drop (p+c2))):=λ{a n v ap} I h3 hK dt e6 bx=>by
  have ak:=aU.Ev inner _ _ _ h3;have agD:=dt.le;have y7:de l ap (upd ap l (.lst (bC++[v]))):=y6;have yd:(upd H l (.lst [])) l≠none:=by rw[aG];nofun
  have r4:(upd H l (.lst [])) r≠none:=by rw[aj hb.symm];exact R.some
  have rN:∀b,ab b=none->(upd H l (.lst [])) b=none:=λb I=>by
   have kx:b≠l:=λz=>by rw[z,ht] at I;cases I
   rw[aj kx];exact R'.eM bu b I
  have bQ:aA (Diff (upd H l (.lst [])) ap) (Diff (upd H l (.lst [])) (upd ap l (.lst (bC++[v])))):=nh y7 yd;refine⟨_,?_,i+n,bC++[v],acc++[a],rfl,rfl,aG,?_,λb o I ak=>?_,by rw[dC];simp;omega,?_,?_⟩
  ·omega
  ·obtain⟨k5,fA⟩:=dt.ins;exact⟨⟨k5,by rw[aj hb.symm];exact fA⟩,by rw[aj (a8 R.txt aC)];exact dt.txt,dt.le,dt.kg⟩
  ·rw[aj (a8 I aC)];exact e6 b o (bu b o I ak) ak
  ·refine oH (Paired.gH e2 λx y z=>jj.same ((nh e6 r4).trans bQ) z) (jj.same ((qA rN).trans bQ) bx)
  ·rw[eq,aU.OY (aU.Ev inner) I h3,aU.HK,iJ,kQ]
 have fail:∀{j:Nat},Sty.begins (t.drop (p+i))=true->aU.i8 inner (t.drop (p+i))=.error j->pa CX r H E (p+i+j):=λ{j} I h3=>by have z:=bX (i+j) (by rw[eq,aU.OW I h3];rfl);rw[<-kQ] at z;exact z
 refine⟨_,rfl,r,dr,_,rfl,a',fU _ _ (by w_on) (by w_on),r,aF,t,p+i,46,by rw[<-s1];rfl,R',_,rfl,?_⟩;by_cases oc:(t.drop (p+i)).head?=some 46
 ·have I:Sty.begins (t.drop (p+i))=true:=(aU.ED _).mpr (.inl oc);rw[ej oc];refine d3 (d3 ⟨_,λ_ _ z=>z,?_⟩);refine⟨_,rfl,r,dr,_,rfl,a',fU _ _ (by w_on) (by w_on),r,aF,t,p+i,46,by rw[<-s1];rfl,R',λ_ H1 e' dI=>⟨_,rfl,d3 ?_⟩,λz=>absurd oc z⟩;obtain⟨mo,mB⟩:=e'.ins;have h3:=aU.afr inner _ oc;rw[mD] at h3;refine⟨_,rfl,.inl ⟨rfl,_,bA.of (dI _ _ ht hb)⟩,_,rfl,r,mo,_,rfl,mB,fU _ _ (by w_on) (by w_on),r,aF,t,p+i+1,rfl,e',λn m en lM ap dt e6=>?_,λj ed=>?_⟩
  ·refine⟨cH 2,λq az=>?_⟩;have vF:de r H1 (upd ap q (.tup [.str "class",.int (n:Int)])):=e6.trans (aA.keep (aA.upd az));refine⟨l,bC,_,rfl,rfl,vF _ _ (dI _ _ ht hb) hb,BZ (by omega),?_⟩;rw[en] at h3;refine more I h3 (vF _ _ (dI _ _ ht hb) hb) (by rw[show p+(i+(1+m))=p+i+1+m by omega];exact dt.same (aA.upd az)) (dI.trans vF) ⟨q,rfl,iX (dt.eM (dI.trans e6) q az) aG⟩
  ·rw[ed] at h3;have z:=fail I h3;rw[<-kQ] at z;exact(z.keep bu).keep dI
 ·rw[cW oc];refine eS ⟨_,rfl,r,dr,_,rfl,a',fU _ _ (by w_on) (by w_on),r,aF,t,p+i,58,by rw[<-s2];rfl,R',_,rfl,?_⟩;by_cases tK:(t.drop (p+i)).head?=some 58
  ·have I:Sty.begins (t.drop (p+i))=true:=(aU.ED _).mpr (.inr tK);rw[ej tK];refine d3 ⟨_,λ_ _ z=>z,?_⟩;refine⟨_,rfl,r,dr,_,rfl,a',fU _ _ (by w_on) (by w_on),r,aF,t,p+i,46,by rw[<-s1];rfl,R',λz=>absurd z oc,λ_=>⟨_,rfl,eS ?_⟩⟩;refine⟨_,rfl,r,dr,_,rfl,a',fU _ _ (by w_on) (by w_on),r,aF,t,p+i,[58],by rw[<-s2];rfl,R',λn en H1 e' dI=>?_,λj ed=>?_⟩
   ·rw[Pk tK] at en;cases en;obtain⟨mo,mB⟩:=e'.ins;have h3:=aU.afq inner _ tK;rw[mD] at h3;refine⟨_,rfl,.inl ⟨rfl,_,bA.of (dI _ _ ht hb)⟩,_,rfl,r,mo,_,rfl,mB,fU _ _ (by w_on) (by w_on),_,rfl,r,aF,t,p+i+1,rfl,e',λx m em ap v dt e6 bx=>?_,λj ed=>?_⟩
    ·rw[em] at h3;refine⟨l,bC,_,rfl,rfl,e6 _ _ (dI _ _ ht hb) hb,BZ (by omega),?_⟩;exact more I h3 (e6 _ _ (dI _ _ ht hb) hb) (by rw[show p+(i+(1+m))=p+i+1+m by omega];exact dt) (dI.trans e6) (jj.same (qA (e'.eM dI)) bx)
    ·rw[ed] at h3;have z:=fail I h3;rw[<-kQ] at z;exact(z.keep bu).keep dI
   ·rw[Pk tK] at ed;cases ed
  ·have I:Sty.begins (t.drop (p+i))=false:=by
    cases e:Sty.begins (t.drop (p+i)) with
    |false=>rfl
    |true=>exact absurd ((aU.ED _).mp e) (by rintro(z|z);exact oc z;exact tK z)
   rw[cW tK];refine eS ⟨_,rfl,?_⟩;have aL:aU.many (aU.i8 inner) (t.drop p)=.ok (acc,i):=by rw[eq,aU.GV I];simp[aU.pre]
   have rN:∀b,(upd H l (.lst [])) b=none->H b=none:=λb I=>by
    have kx:b≠l:=λz=>by rw[z,aG] at I;cases I
    rw[aj kx] at I;exact I
   exact cP acc i aL ab _ R' bu ⟨l,bC,rfl,iX aC ht,Paired.gH e2 λx y z=>jj.same (qA rN) z⟩
end bf
namespace aU
open Sty
def aau (h:u1 one){m:Nat}(I:begins r=true)(e:many one r=.ok (l,m)):1<=m:=by
 cases aL:one r with
 |error j=>rw[OW I aL] at e;cases e
 |ok x=>
  obtain⟨a,n⟩:=x;have ak:=h r a n aL;rw[OY h I aL] at e;cases bI:many one (r.drop n) with
  |error j=>rw[bI] at e;cases e
  |ok y=>rw[bI] at e;obtain⟨eC,gG⟩:=y;simp only[pre] at e;cases e;omega
def abv {n k:Nat}(e:lg t=.ok (n,k)):1<=k:=by
 cases t with
 |nil=>cases e
 |cons c r=>
  rw[Cm] at e;by_cases ai:isDigit c=true
  ·rw[aV ai] at e;exact(digits_le _ _ _ _ _ e).1
  ·rw[aN ai] at e;cases e
end aU
namespace bf
open PySem PySem.Spec PyProof.Rows aB
open Sty (Bytes)
inductive IC(ay:U)(vs:List V)(H:ah)(Q:cM)(_:fG):Prop|i(a aq lt:U)(dS:V)(_:vs=[.ref a,dS,.ref lt])(_:H a=some (.ins ay aq []))(_:Q .b1 (upd H a (.ins ay aq (pQ dS lt))))
def ad1:c3 ahH ahH (ct CV):={}
def abI {P:bg}{w:bb}{K:PySem.W.Frag}{ae:Str->Option af}{base:a5}{CX ay aJ cF cZ:U}{fd:b6}(F:dd K "__init__" "Kind.__init__" CV cZ fd)(T:g8 K ae CX ay aJ cF cZ):aQ P w K ae base bc 1 cZ fd ahH (IC ay):=by
 refine F.ok ad1 (λbU A outer s H vs Q E au h=>?_);obtain⟨a,aq,lt,dS,rfl,al,k⟩:=h;refine⟨_,a_ (gZ (ag 0) (ag 1) rfl) (bo (gZ (ag 0) (ag 2) rfl)),?_⟩;refine⟨_,rfl,_,rfl,a,ay,aq,_,rfl,al,T.rL,T.Ca,(by show 0 < 1000;decide),?_⟩;refine⟨_,rfl,_,rfl,a,ay,aq,_,rfl,aG,T.rL,T.B',(by show 1 < 1000;decide),?_⟩;rw[i_];have e:dw "tests" (.ref lt) (dw "tag" dS [])=pQ dS lt:=by
  have h:¬("tag":Str)=("tests":Str):=by w_on
  simp[pQ,dw,h]
 rw[e];exact k
def zT:c3 ["self","inner","tag","start","tests"] ahr (ct (cS 10)):={}
def PO {P:bg}{w:bb}{K:PySem.W.Frag}{ae:Str->Option af}{base:a5}{CX ay aJ cF cZ:U}{inner:Bool}{f f1 f2 f4 rU xP:U}{fd fO gP n' rW xV jp Fb:b6}{k:Nat}(aw:4<=k)(F:dd K "read_kind" "Reader.read_kind" (cS 10) f fd)(T:g8 K ae CX ay aJ cF cZ)(fv:cC K aJ "sees" "Reader.sees" (cS 1) ahp f1 fO)
  (M2:cC K aJ "takes" "Reader.takes" (cS 2) ahp f2 gP) (j2:cC K aJ "sees_digit" "Reader.sees_digit" (cS 4) ahn f4 n')
  (xh:cC K aJ "read_number" "Reader.read_number" (cS 7) ahn rU rW) (w9:aQ P w K ae base (eL P w CX) 3 rU rW ahn (De CX aJ))
  (J0:cC K aJ "read_tests" "Reader.read_tests" (cS 9) ahr xP xV) (DZ:aQ P w K ae base (eL P w CX) k xP xV ahr (z0 CX ay aJ inner))
  (ql:dd K "__init__" "SelectorFault.__init__" sK cF jp) (pj:Binds K jp ahw []) (S':jL K ay cZ) (Se:dd K "__init__" "Kind.__init__" CV cZ Fb) (T5:Binds K Fb ahH []):
  aQ P w K ae base (eL P w CX) (k+1) f fd ahr (sN CX ay aJ inner):=by
 have jZ:aQ P w K ae base bc 2 f2 gP ahp (wx aJ):=zo M2.fn T fv;have rA:aQ P w K ae base bc 1 f4 n' ahn (IL aJ):=PQ j2.fn T;have o9:aQ P w K ae base bc 1 cF jp ahw (sO CX):=zn ql T;have Sj:aQ P w K ae base bc 1 cZ Fb ahH (IC ay):=abI Se T;refine F.eD zT (λbU A outer s H vs Q E au h=>?_);obtain⟨r,aF,t,p,rfl,R,cP,bX⟩:=h;obtain⟨_,_,s3,_⟩:=C_;have gu:c1 1 _:=au.mono (by omega);have fA:c1 2 _:=au.mono (by omega);have k9:c1 3 _:=au.mono (by omega);obtain⟨dr,a'⟩:=R.ins;refine⟨_,a_ (cE (i:=2) zT.nd sG) (a_ (cE (i:=3) zT.nd (bT (ag 0) rfl))
  (a_ (dh (lk (lj (ag 0) T.cN j2.dJ rA gu j2.bi .nil cA)) (bo (cE (i:=2) zT.nd (lj (ag 0) T.cN xh.dJ w9 k9 xh.bi .nil mK)))
   (bo (hQ (fC (ag 0) T.cN M2.dJ jZ fA M2.bi .nil cA (aK fq aY)))))
  (a_ (cE (i:=4) zT.nd (fC (ag 0) T.cN J0.dJ DZ au J0.bi .nil mK (aK (ag 1) aY)))
  (a_ (dh (eJ gA (bT (ag 0) rfl) (ag 3) (d4 _)) (bo (wi T.km wJ rfl (wd T.km o9 fA rfl T.sr pj cA (aK (bT (ag 0) rfl) aY)))) dn)
  (bo (cp (sF S' Sj fA rfl T.aaH T5 .nil cA (aK (ag 2) (aK (ag 4) aY))))))))),?_⟩
 refine⟨_,rfl,r,aJ,dr,_,_,rfl,a',T.cN,T.h6,jC _ _,?_⟩;refine⟨_,rfl,r,dr,_,rfl,a',fU _ _ (by w_on) (by w_on),r,aF,t,p,rfl,R,_,rfl,?_⟩;have tail:∀(hd:Sty.Head) (n:Nat) (H1:ah),aU.oe (t.drop p)=.ok (hd,n)->(hd.isNone=true↔n=0)->d1 aJ H1 r aF t (p+n)->de r H H1->
   (ki (rl (wF aJ "read_tests" (z0 CX ay aJ inner) [] E (eE 0) (jE (eE 1) kh)) (jr 4))
    (ki (oP (Du (oR HS (mP K (eE 0) "place") (eE 3))) (I4 CX E (Rt CX (sO CX) ti (jE (mP K (eE 0) "place") kh))) oQ) (z3 (I1 ay (IC ay) [] ti (jE (eE 2) (jE (eE 4) kh))))))
    {cG:=λ_ ab=>Q .b1 ab,ia:=Q} [some (.ref r),some (.bL inner),some (uJ hd),some (.int (p:Int)),none] H1:=by
  intro hd n H1 xJ ak e' dI;obtain⟨mo,mB⟩:=e'.ins;have b4:(t.drop p).drop n=t.drop (p+n):=by rw[iJ]
  have rO:aU.t8 inner (t.drop p)=match (if hd.isNone=true/\Sty.begins (t.drop (p+n))=false then(.error 0:Sty.Read Sty.Kind) else(aU.many (aU.i8 inner) (t.drop (p+n))).map λ(x:List Sty.Test×Nat)=>(⟨hd,x.1⟩,x.2)) with
    |.error k=>.error (n+k)
    |.ok (b,m)=>.ok (b,n+m):=by
   unfold aU.t8;rw[xJ];unfold Sty.then_;dsimp only;rw[b4];generalize (if hd.isNone=true/\Sty.begins (t.drop (p+n))=false then(.error 0:Sty.Read Sty.Kind) else(aU.many (aU.i8 inner) (t.drop (p+n))).map λ(x:List Sty.Test×Nat)=>(⟨hd,x.1⟩,x.2))=z;cases z<;>rfl
  refine⟨_,rfl,r,mo,_,rfl,mB,fU _ _ (by w_on) (by w_on),_,rfl,r,aF,t,p+n,rfl,e',λl m em ap v dt e6 bx=>?_,λj ed=>?_⟩
  ·obtain⟨c',bC,rfl,aC,e2⟩:=bx;obtain⟨k5,vG⟩:=dt.ins;refine⟨_,rfl,r,aJ,k5,_,_,rfl,vG,T.cN,T.h6,jC _ _,_,rfl,rfl,_,rfl,?_⟩;by_cases hz:n+m=0
   ·have YC:hd.isNone=true:=ak.mpr (by omega);have I:Sty.begins (t.drop (p+n))=false:=by
     cases e:Sty.begins (t.drop (p+n)) with
     |false=>rfl
     |true=>have:=aU.aau (aU.Ev inner) e em;omega
    have f6:V.int ((p+n+m:Nat):Int)=V.int (p:Int):=by congr 2;omega
    rw[ej f6];refine d3 ⟨_,rfl,r,aJ,k5,_,_,rfl,vG,T.cN,T.h6,jC _ _,(cH 1),uB ?_ (dI.trans e6)⟩;have z:=bX (n+0) (by rw[rO,aV ⟨YC,I⟩]);rw[show p+(n+0)=p+n+m by omega] at z;exact z
   ·have f6:¬V.int ((p+n+m:Nat):Int)=V.int (p:Int):=by intro z;injection z with z;omega
    rw[cW f6];refine eS ⟨_,rfl,_,rfl,λx aq cG gW ag7=>?_⟩;refine⟨x,aq,c',_,rfl,aG,rfl,?_⟩;rw[i_];have bQ:aA ap (upd (upd ap aq (.own x)) x (.ins ay aq (pQ (uJ hd) c'))):=λb o e=>by rw[aj (a8 e cG),aj (a8 e gW)];exact e
    refine cP ⟨hd,l⟩ (n+m) ?_ _ _ (by rw[<-kQ];exact dt.same bQ) ((dI.trans e6).trans (aA.keep bQ)) ?_
    ·rw[rO,aN,em]
     ·rfl
     ·rintro⟨aa,ac⟩;rw[aU.GV ac] at em;cases em;have:=ak.mp aa;omega
    ·have jD:aA (Diff H1 ap) (Diff H (upd (upd ap aq (.own x)) x (.ins ay aq (pQ (uJ hd) c')))):=(qA (e'.eM dI)).trans (nh (aA.keep bQ) R.some);exact⟨x,aq,c',bC,rfl,iX (dt.eM (dI.trans e6) x cG) aG,jD _ _ aC,Paired.gH e2 λ_ _ z=>jj.same jD z⟩
  ·have z:=bX (n+j) (by
    rw[rO,aN,ed]
    ·rfl
    ·rintro⟨aa,ac⟩;rw[aU.GV ac] at ed;cases ed)
   rw[<-kQ] at z;exact z.keep dI
 cases N4:l2 t p with
 |true=>
  have yG:(t.drop p).head?.any Sty.isDigit=true:=N4;have ye:(t.drop p).head?≠some 42:=by intro z;rw[z] at yG;revert yG;decide
  have xJ:aU.oe (t.drop p)=match aU.lg (t.drop p) with
    |.error k=>.error k
    |.ok (n,k)=>.ok (.tag n,k):=by
   unfold aU.oe;rw[aN ye,aV yG];try (cases aU.lg (t.drop p)<;>rfl)
  refine d3 ⟨_,rfl,r,dr,_,rfl,a',fU _ _ (by w_on) (by w_on),r,aF,t,p,rfl,R,λn m en lM H1 e' dI=>?_,λj ed=>?_⟩
  ·rw[en] at xJ;exact tail (.tag n) m H1 xJ ⟨λz=>Bool.noConfusion z,λz=>by have:=aU.abv en;omega⟩ e' dI
  ·refine bX j ?_;unfold aU.t8;rw[xJ,ed];rfl
 |false=>
  have yG:¬(t.drop p).head?.any Sty.isDigit=true:=by have:(t.drop p).head?.any Sty.isDigit=false:=N4;rw[this];decide
  refine eS ⟨_,rfl,r,dr,_,rfl,a',fU _ _ (by w_on) (by w_on),r,aF,t,p,42,by rw[<-s3];rfl,R,λye H1 e' dI=>?_,λye=>?_⟩
  ·refine tail .any 1 H1 ?_ ⟨λz=>Bool.noConfusion z,λz=>by omega⟩ e' dI;unfold aU.oe;rw[aV ye]
  ·refine tail .none_ 0 H ?_ ⟨λ_=>rfl,λ_=>rfl⟩ R (de.refl _ _);unfold aU.oe;rw[aN ye,aN yG]
def q7:Sty.Link->Str
 |.below=>" "
 |.child=>">"
 |.next=>"+"
 |.later=>"~"
def gw:Option Sty.Link->Str
 |none=>""
 |some l=>q7 l
def qp (ay:U)(H:ah)(v:V)(x:Option Sty.Link×Sty.Kind):Prop:=∃p bJ,v=.ref p/\H p=some (.tup [.str (gw x.1),bJ])/\jg ay H bJ x.2
def qp.same (e:aA H ab):qp ay H v x->qp ay ab v x
 |⟨p,bJ,aa,ac,av⟩=>⟨p,bJ,aa,e _ _ ac,av.same e⟩
def acC (c:Sty.Chain):List (Option Sty.Link×Sty.Kind):=(none,c.first)::c.rest.map λx=>(some x.1,x.2)
def qf (ay:U)(H:ah)(v:V)(c:Sty.Chain):Prop:=∃a bC,v=.ref a/\H a=some (.lst bC)/\Paired (qp ay H) bC (acC c)
def qf.same (e:aA H ab):qf ay H v c->qf ay ab v c
 |⟨a,bC,aa,ac,av⟩=>⟨a,bC,aa,e _ _ ac,Paired.gH av λ_ _ z=>z.same e⟩
def Km (ay:U)(H:ah)(v:V)(s:Sty.Selector):Prop:=∃a bC,v=.ref a/\H a=some (.lst bC)/\Paired (qf ay H) bC s
def Lb (h:ap l=none):aA (Diff H ap) (Diff (upd H l o) (upd ap l d5)):=λb u q=>by obtain⟨aa,ac⟩:=mH q;have n:=a8 ac h;exact iX (by rw[aj n];exact aa) (by rw[aj n];exact ac)
def Lc (h:H l=none):aA (Diff (upd H l o) ap) (Diff H ap):=qA λb I=>by
 have kx:b≠l:=λz=>by rw[z,aG] at I;cases I
 rw[aj kx] at I;exact I
inductive Db(aJ:U)(vs:List V)(H:ah)(Q:cM)(_:fG):Prop|i(r aF:U)(t:Bytes)(p:Nat)(_:vs=[.ref r])(_:d1 aJ H r aF t p)(_:∀l,(t.drop p).head?.bind Sty.linkOf=some l->∀ab,d1 aJ ab r aF t (p+1)->de r H ab->Q (.str (q7 l)) ab)(_:(t.drop p).head?.bind Sty.linkOf=none->Q (.str "") H)
def QO:c3 ["self","link"] ahn (ct (cS 11)):={}
def Z7 (c:UInt8):Sty.linkOf c=if c=32 then some .below else if c=62 then some .child else if c=43 then some .next else if c=126 then some .later else none:=rfl
def ab7 {P:bg}{w:bb}{K:PySem.W.Frag}{ae:Str->Option af}{base:a5}{CX ay aJ cF cZ:U}{f f1 f2:U}{fd fO gP:b6}(F:dd K "read_link" "Reader.read_link" (cS 11) f fd)(T:g8 K ae CX ay aJ cF cZ)(fv:cC K aJ "sees" "Reader.sees" (cS 1) ahp f1 fO)
  (M2:cC K aJ "takes" "Reader.takes" (cS 2) ahp f2 gP):aQ P w K ae base bc 3 f fd ahn (Db aJ):=by
 have jZ:aQ P w K ae base bc 2 f2 gP ahp (wx aJ):=zo M2.fn T fv;refine F.ok QO (λbU A outer s H vs Q E au h=>?_);obtain⟨r,aF,t,p,rfl,R,cP,bX⟩:=h;obtain⟨dr,a'⟩:=R.ins;obtain⟨c',Yi,cT⟩:=T.dD;obtain⟨_,_,_,_,s5,i6,jT,H7⟩:=C_;refine⟨_,a_ (lZ kS rfl (P' (hg (v:=.ref c') rfl Yi rfl)) (fJ (i:=1) QO.nd)
   (bo (dh (lk (fC (ag 0) T.cN M2.dJ jZ au M2.bi .nil cA (aK (ag 1) aY))) (bo (cp (ag 1))) dn)))
  (bo (cp fq)),?_⟩
 refine⟨c',rfl,⟨_,cT H⟩,Ml (K:=K) (a:=c') (xs:=[.str " ",.str ">",.str "+",.str "~"]) (λi σ ab=>∃v,σ=[some (.ref r),v]/\ab=H/\
   (0 < i->(t.drop p).head?≠some 32)/\(1 < i->(t.drop p).head?≠some 62)/\(2 < i->(t.drop p).head?≠some 43)/\(3 < i->(t.drop p).head?≠some 126)) ⟨none,rfl,rfl,by omega,by omega,by omega,by omega⟩ (λi σ ab _ _=>cT ab) ?_ ?_⟩
 ·rintro i x σ nR aR ⟨v,rfl,rfl,ea,eW,gI,lb⟩;obtain⟨c,L,rfl,aE,aL,bI⟩:∃(c:UInt8) (L:Sty.Link),x=.str (q7 L)/\q7 L=dM [c]/\Sty.linkOf c=some L/\
    ((t.drop p).head?≠some c->(0 < i+1->(t.drop p).head?≠some 32)/\(1 < i+1->(t.drop p).head?≠some 62)/\(2 < i+1->(t.drop p).head?≠some 43)/\(3 < i+1->(t.drop p).head?≠some 126)):=by
   match i,aR with
   |0,aR=>cases dZ aR;exact⟨32,.below,rfl,s5,rfl,λh=>⟨λ_=>h,by omega,by omega,by omega⟩⟩
   |1,aR=>cases dZ aR;exact⟨62,.child,rfl,i6,rfl,λh=>⟨λ_=>ea (by omega),λ_=>h,by omega,by omega⟩⟩
   |2,aR=>cases dZ aR;exact⟨43,.next,rfl,jT,rfl,λh=>⟨λ_=>ea (by omega),λ_=>eW (by omega),λ_=>h,by omega⟩⟩
   |3,aR=>cases dZ aR;exact⟨126,.later,rfl,H7,rfl,λh=>⟨λ_=>ea (by omega),λ_=>eW (by omega),λ_=>gI (by omega),λ_=>h⟩⟩
   |i+4,aR=>simp at aR
  refine⟨_,rfl,r,dr,_,rfl,a',fU _ _ (by w_on) (by w_on),_,rfl,r,aF,t,p,c,by rw[<-aE];rfl,R,λai H1 e' dI=>⟨_,rfl,d3 ⟨_,rfl,?_⟩⟩,λai=>⟨_,rfl,eS ⟨_,rfl,rfl,bI ai⟩⟩⟩;exact cP L (by rw[ai];exact aL) H1 e' dI
 ·rintro σ nR ⟨v,rfl,rfl,ea,eW,gI,lb⟩;refine bX ?_;cases e:(t.drop p).head? with
  |none=>rfl
  |some c=>show Sty.linkOf c=none;rw[e] at ea eW gI lb;rw[Z7,aN (λz=>ea (by decide) (by rw[z])),aN (λz=>eW (by decide) (by rw[z])),aN (λz=>gI (by decide) (by rw[z])),aN (λz=>lb (by decide) (by rw[z]))]
def Iy (CX ay aJ:U):cD:=Dg CX aJ aU.jm (qf ay) []
def C2:c3 ["self","chain","link"] ahn (ct (cS 12)):={}
def ab0 {P:bg}{w:bb}{K:PySem.W.Frag}{ae:Str->Option af}{base:a5}{CX ay aJ cF cZ:U}{f xM xN:U}{fd xR xS:b6}{k:Nat}(aw:4<=k)(F:dd K "read_chain" "Reader.read_chain" (cS 12) f fd)(T:g8 K ae CX ay aJ cF cZ)
  (Ax:cC K aJ "read_kind" "Reader.read_kind" (cS 10) ahr xM xR) (Ao:aQ P w K ae base (eL P w CX) k xM xR ahr (sN CX ay aJ false))
  (Ay:cC K aJ "read_link" "Reader.read_link" (cS 11) ahn xN xS) (Ap:aQ P w K ae base bc 3 xN xS ahn (Db aJ)):
  aQ P w K ae base (eL P w CX) (k+1) f fd ahn (Iy CX ay aJ):=by
 refine F.eD C2 (λbU A outer s H vs Q E au h=>?_);obtain⟨r,aF,t,p,rfl,R,cP,bX⟩:=h;have k9:c1 3 _:=au.mono (by omega);obtain⟨dr,a'⟩:=R.ins;refine⟨_,a_ (cE (i:=1) C2.nd (dL (aK (nA (aK fq (aK (fC (ag 0) T.cN Ax.dJ Ao au Ax.bi .nil mK (aK pX aY)) aY))) aY)))
  (a_ (cE (i:=2) C2.nd (lj (ag 0) T.cN Ay.dJ Ap k9 Ay.bi .nil cA))
  (a_ (sI w4 (eJ wc (ag 2) fq (d4 _))
   (a_ (hQ (lh kR mY nK nz (ag 1) (aK (nA (aK (ag 2) (aK (fC (ag 0) T.cN Ax.dJ Ao au Ax.bi .nil mK (aK pX aY)) aY))) aY)))
   (bo (cE (i:=2) C2.nd (lj (ag 0) T.cN Ay.dJ Ap k9 Ay.bi .nil cA)))))
  (bo (cp (ag 1))))),?_⟩
 refine⟨_,rfl,r,dr,_,rfl,a',fU _ _ (by w_on) (by w_on),r,aF,t,p,rfl,R,λx0 cI xL H1 bJ e' dI d9=>?_,λj ed=>bX j (aU.Uv (by rw[<-aU.BV];exact ed))⟩;rw[aU.BV] at xL;refine⟨cH 2,λq az=>⟨cH 1,λl aC=>?_⟩⟩;have eR:H1 l=none:=by
  by_cases z:l=q
  ·rw[z];exact az
  ·rw[aj z] at aC;exact aC
 have NK:l≠q:=λz=>by rw[z,aG] at aC;cases aC
 have i1:H l=none:=e'.eM dI l eR;have hb:l≠r:=e'.free eR;have yd:(upd H l (.lst [])) l≠none:=by rw[aG];nofun
 have r4:(upd H l (.lst [])) r≠none:=by rw[aj hb.symm];exact R.some
 have Lu:=aU.Ux xL;have mF:∀(i:Nat) (bC:List V) (acc:List (Sty.Link×Sty.Kind)) (ab:ah) (lo:Option Sty.Link),ab l=some (.lst bC)->d1 aJ ab r aF t (p+cI+i+(if lo.isSome=true then 1 else 0))->de r H ab->bC.length<=i+1->
   Paired (qp ay (Diff (upd H l (.lst [])) ab)) bC ((none,x0)::acc.map λx=>(some x.1,x.2))->aU.dD (t.drop (p+cI))=aU.pre acc i (aU.dD (t.drop (p+cI+i)))->(t.drop (p+cI+i)).head?.bind Sty.linkOf=lo->
   (ki (I6 (Du (oR Qp (eE 2) (ls (.str "")))) (ki (wE (wD K "list" wk (eE 1) (jE (I5 (jE (eE 2) (jE (wF aJ "read_kind" (sN CX ay aJ false) [] E (eE 0) (jE (ls (.bL false)) kh)) kh))) kh)))
    (rl (wF aJ "read_link" (Db aJ) [] ti (eE 0) kh) (jr 2)))) (z3 (eE 1))) {cG:=λ_ ab=>Q .b1 ab,ia:=Q} [some (.ref r),some (.ref l),some (.str (gw lo))] ab:=by
  intro i bC acc ab lo aa ac av bn cB gQ od;refine⟨λm σ ab=>∃i bC acc lo,m=t.length+1 - (p+cI+i)/\σ=[some (.ref r),some (.ref l),some (.str (gw lo))]/\ab l=some (.lst bC)/\d1 aJ ab r aF t (p+cI+i+(if lo.isSome=true then 1 else 0))/\de r H ab/\bC.length<=i+1/\
   Paired (qp ay (Diff (upd H l (.lst [])) ab)) bC ((none,x0)::acc.map λx=>(some x.1,x.2))/\aU.dD (t.drop (p+cI))=aU.pre acc i (aU.dD (t.drop (p+cI+i)))/\(t.drop (p+cI+i)).head?.bind Sty.linkOf=lo,⟨_,i,bC,acc,lo,rfl,rfl,aa,ac,av,bn,cB,gQ,od⟩,?_⟩
  clear aa ac av bn cB gQ od;rintro m σ ab ⟨i,bC,acc,lo,rfl,rfl,ht,R',bu,nu,e2,eq,iB⟩;obtain⟨mo,mB⟩:=R'.ins;have hsz:=R'.kg;refine⟨_,rfl,rfl,_,rfl,?_⟩;cases lo with
  |none=>refine Oq rfl ⟨_,rfl,?_⟩;rw[aU.Z' iB] at eq;refine cP ⟨x0,acc⟩ (cI+i) ?_ ab _ (by rw[<-kQ];exact R') bu ⟨l,bC,rfl,iX i1 ht,Paired.gH e2 λ_ _ z=>z.same (Lc i1)⟩;rw[Lu];rw[iJ,eq];simp[aU.pre]
  |some L=>
   have hle:p+cI+i+1<=t.length:=R'.le;have bI:(!decide (V.str (gw (some L))=V.str ""))=true:=by cases L<;>decide+kernel
   rw[bI];refine d3 ⟨_,λ_ _ z=>z,?_⟩;refine⟨_,rfl,.inl ⟨rfl,_,bA.of ht⟩,_,rfl,_,rfl,r,mo,_,rfl,mB,fU _ _ (by w_on) (by w_on),r,aF,t,p+cI+i+1,rfl,R',λx n en ap vQ dt e6 Xn=>?_,λj ed=>?_⟩
   ·rw[aU.BV] at en;refine⟨cH 2,λbt vF=>?_⟩;have sP:aA ap (upd ap bt (.tup [.str (gw (some L)),vQ])):=aA.upd vF;have GI:de r ab (upd ap bt (.tup [.str (gw (some L)),vQ])):=e6.trans (aA.keep sP);have hK:=GI _ _ ht hb;refine⟨l,bC,_,rfl,rfl,hK,BZ (by have:=R'.le;omega),?_⟩;generalize qI:upd ap bt (.tup [.str (gw (some L)),vQ])=bz at *;have g6:d1 aJ (upd bz l (.lst (bC++[.ref bt]))) r aF t (p+cI+i+1+n):=by obtain⟨k5,fA⟩:=(dt.same sP).ins;exact⟨⟨k5,by rw[aj hb.symm];exact fA⟩,by rw[aj (a8 R.txt i1)];exact(dt.same sP).txt,dt.le,dt.kg⟩
    obtain⟨vh,Ga⟩:=g6.ins;have y7:de l bz (upd bz l (.lst (bC++[.ref bt]))):=y6;have rN:∀b,ab b=none->(upd H l (.lst [])) b=none:=λb I=>by
     have kx:b≠l:=λz=>by rw[z,ht] at I;cases I
     rw[aj kx];exact R'.eM bu b I
    have bQ:aA (Diff (upd H l (.lst [])) bz) (Diff (upd H l (.lst [])) (upd bz l (.lst (bC++[.ref bt])))):=nh y7 yd;have hu:de r H (upd bz l (.lst (bC++[.ref bt]))):=λb o I ak=>by rw[aj (a8 I i1)];exact GI b o (bu b o I ak) ak
    have Ft:Paired (qp ay (Diff (upd H l (.lst [])) (upd bz l (.lst (bC++[.ref bt]))))) (bC++[.ref bt]) ((none,x0)::(acc++[(L,x)]).map λx=>(some x.1,x.2)):=by rw[hi];refine oH (m:=(none,x0)::acc.map λx=>(some x.1,x.2)) (Paired.gH e2 λ_ _ z=>z.same ((nh GI r4).trans bQ)) ?_;have ac':(upd H l (.lst [])) bt=none:=rN bt (dt.eM e6 bt vF);refine⟨bt,vQ,rfl,bQ _ _ (iX ac' (by rw[<-qI];exact aG)),jg.same ((qA rN).trans ((nh (aA.keep sP) r4).trans bQ)) Xn⟩
    have E8:aU.ny ((t.drop (p+cI+i)).drop 1)=.ok (x,n):=by rw[iJ];exact en
    have eq3:aU.dD (t.drop (p+cI))=aU.pre (acc++[(L,x)]) (i+(1+n)) (aU.dD (t.drop (p+cI+(i+(1+n))))):=by rw[eq,aU.aaa iB E8,aU.HK,iJ,kQ (p+cI)]
    have done:∀(y_:Option Sty.Link) (c4:ah),d1 aJ c4 r aF t (p+cI+(i+(1+n))+(if y_.isSome=true then 1 else 0))->de r (upd bz l (.lst (bC++[.ref bt]))) c4->(t.drop (p+cI+(i+(1+n)))).head?.bind Sty.linkOf=y_->
      ∃cQ,cQ < t.length+1 - (p+cI+i)/\∃i bC acc lo,cQ=t.length+1 - (p+cI+i)/\([some (.ref r),some (.ref l),some (.str (gw y_))]:List (Option V))=[some (.ref r),some (.ref l),some (.str (gw lo))]/\c4 l=some (.lst bC)/\d1 aJ c4 r aF t (p+cI+i+(if lo.isSome=true then 1 else 0))/\de r H c4/\bC.length<=i+1/\
       Paired (qp ay (Diff (upd H l (.lst [])) c4)) bC ((none,x0)::acc.map λx=>(some x.1,x.2))/\aU.dD (t.drop (p+cI))=aU.pre acc i (aU.dD (t.drop (p+cI+i)))/\(t.drop (p+cI+i)).head?.bind Sty.linkOf=lo:=by
     intro y_ c4 xo kb bn;refine⟨_,?_,i+(1+n),bC++[.ref bt],acc++[(L,x)],y_,rfl,rfl,kb _ _ aG hb,xo,hu.trans kb,by rw[dC];simp;omega,Paired.gH Ft λ_ _ z=>z.same (nh kb r4),eq3,bn⟩;have:=g6.le;omega
    have ep:p+cI+i+1+n=p+cI+(i+(1+n)):=by omega
    refine⟨_,rfl,r,vh,_,rfl,Ga,fU _ _ (by w_on) (by w_on),r,aF,t,p+cI+i+1+n,rfl,g6,λaB vq c4 xo kb=>?_,λvq=>?_⟩
    ·exact done (some aB) c4 (by rw[<-ep];exact xo) kb (by rw[<-ep];exact vq)
    ·exact done none _ (by rw[<-ep];exact g6) (de.refl _ _) (by rw[<-ep];exact vq)
   ·rw[aU.BV] at ed;have E7:aU.ny ((t.drop (p+cI+i)).drop 1)=.error j:=by rw[iJ];exact ed
    rw[aU.Z_ iB E7] at eq;have z:=bX (cI+(i+(1+j))) (by rw[Lu,iJ,eq];rfl);rw[show p+(cI+(i+(1+j)))=p+cI+i+1+j by omega] at z;exact z.keep bu
 have sP:aA H1 (upd H1 q (.tup [.str "",bJ])):=aA.upd az;have bh:aA (upd H1 q (.tup [.str "",bJ])) (upd (upd H1 q (.tup [.str "",bJ])) l (.lst [.ref q])):=aA.upd aC;have g6:=(e'.same sP).same bh;obtain⟨vh,Ga⟩:=g6.ins;have hu:de r H (upd (upd H1 q (.tup [.str "",bJ])) l (.lst [.ref q])):=dI.trans (aA.keep (sP.trans bh));have bQ:aA (Diff H H1) (Diff (upd H l (.lst [])) (upd (upd H1 q (.tup [.str "",bJ])) l (.lst [.ref q]))):=(nh (aA.keep sP) R.some).trans (Lb aC);have MQ:Paired (qp ay (Diff (upd H l (.lst [])) (upd (upd H1 q (.tup [.str "",bJ])) l (.lst [.ref q])))) [.ref q] ((none,x0)::([]:List (Sty.Link×Sty.Kind)).map λx=>(some x.1,x.2)):=by refine .cons ⟨q,bJ,rfl,iX (by rw[aj NK.symm];exact e'.eM dI q az) (by rw[aj NK.symm];exact aG),jg.same bQ d9⟩ .nil
 refine⟨_,rfl,r,vh,_,rfl,Ga,fU _ _ (by w_on) (by w_on),r,aF,t,p+cI,rfl,g6,λL cT c4 xo kb=>?_,λcT=>?_⟩
 ·exact mF 0 [.ref q] [] c4 (some L) (kb _ _ aG hb) xo (hu.trans kb) (by simp) (Paired.gH MQ λ_ _ z=>z.same (nh kb r4)) (aU.CB _).symm cT
 ·exact mF 0 [.ref q] [] _ none aG g6 hu (by simp) MQ (aU.CB _).symm cT
inductive Ra(aJ:U)(vs:List V)(H:ah)(Q:cM)(_:fG):Prop|i(a aq aF:U)(_:vs=[.ref a,.ref aF])(_:H a=some (.ins aJ aq []))(_:Q .b1 (upd H a (.ins aJ aq (jB aF 0))))
def ad4:c3 ahO ahO (ct (cS 0)):={}
def abK {P:bg}{w:bb}{K:PySem.W.Frag}{ae:Str->Option af}{base:a5}{CX ay aJ cF cZ:U}{qD:U}{fd:b6}(F:dd K "__init__" "Reader.__init__" (cS 0) qD fd)(T:g8 K ae CX ay aJ cF cZ):aQ P w K ae base bc 1 qD fd ahO (Ra aJ):=by
 refine F.ok ad4 (λbU A outer s H vs Q E au h=>?_);obtain⟨a,aq,lt,rfl,al,k⟩:=h;refine⟨_,a_ (gZ (ag 0) (ag 1) rfl) (bo (gZ (ag 0) bM rfl)),?_⟩;refine⟨_,rfl,_,rfl,a,aJ,aq,_,rfl,al,T.cN,T.h7,(by show 0 < 1000;decide),?_⟩;refine⟨_,rfl,a,aJ,aq,_,rfl,aG,T.cN,T.h6,(by show 1 < 1000;decide),?_⟩;rw[i_];have e:dw "place" (.int 0) (dw "text" (.ref lt) [])=jB lt 0:=by
  have h:¬("text":Str)=("place":Str):=by w_on
  simp[jB,dw,h]
 rw[e];exact k
abbrev CW:Stmt:=top 7
def JG (CX:U)(H:ah)(E:fG)(j:Nat):Prop:=∀(ab:ah) (a aq:U),aA H ab->ab a=some (.ext (k0 CX a (some aq)))->ab aq=some (.nF [("place",.int (j:Int))])->E (.ref CX) (some a) ab
inductive IM(CX ay:U)(vs:List V)(H:ah)(Q:cM)(E:fG):Prop|i(aF:U)(t:Bytes)(_:vs=[.ref aF])(_:H aF=some (.lst (t.map bv)))(_:t.length<=256)(_:∀s,Sty.readSel t=.ok s->∀ab v,aA H ab->Km ay (Diff H ab) v s->Q v ab)(_:∀j,Sty.readSel t=.error j->JG CX H E j)
def Ie:c3 ["text","reader","chains"] ahJ (ct CW):={}
def acg {P:bg}{w:bb}{K:PySem.W.Frag}{ae:Str->Option af}{base:a5}{CX ay aJ cF cZ:U}{f f1 f2 LN qD:U}{fd fO gP LY jp Fc:b6}{k:Nat}(aw:4<=k)(F:dd K "read_selector" "read_selector" CW f fd)(T:g8 K ae CX ay aJ cF cZ)(G2:ae "Reader"=some (.ref aJ))
  (fv:cC K aJ "sees" "Reader.sees" (cS 1) ahp f1 fO) (M2:cC K aJ "takes" "Reader.takes" (cS 2) ahp f2 gP)
  (Az:cC K aJ "read_chain" "Reader.read_chain" (cS 12) ahn LN LY) (JH:aQ P w K ae base (eL P w CX) k LN LY ahn (Iy CX ay aJ))
  (Ta:jL K aJ qD) (Sf:dd K "__init__" "Reader.__init__" (cS 0) qD Fc) (T6:Binds K Fc ahO []) (ql:dd K "__init__" "SelectorFault.__init__" sK cF jp) (pj:Binds K jp ahw []):
  aQ P w K ae base (eL P w CX) (k+1) f fd ahJ (IM CX ay):=by
 have jZ:aQ P w K ae base bc 2 f2 gP ahp (wx aJ):=zo M2.fn T fv;have o9:aQ P w K ae base bc 1 cF jp ahw (sO CX):=zn ql T;have D1:aQ P w K ae base bc 1 qD Fc ahO (Ra aJ):=abK Sf T;refine F.eD Ie (λbU A outer s H vs Q E au h=>?_);obtain⟨aF,t,rfl,bY,hz,cP,bX⟩:=h;obtain⟨_,_,_,s4,_⟩:=C_;have fA:c1 2 _:=au.mono (by omega);refine⟨_,a_ (cE (i:=1) Ie.nd (sF Ta D1 fA rfl G2 T6 .nil cA (aK (ag 0) aY)))
  (a_ (cE (i:=2) Ie.nd (dL (aK (lj (ag 1) T.cN Az.dJ JH au Az.bi .nil mK) aY)))
  (a_ (sI w4 (lk (fC (ag 1) T.cN M2.dJ jZ fA M2.bi .nil cA (aK fq aY)))
   (bo (hQ (lh kR mY nK nz (ag 2) (aK (lj (ag 1) T.cN Az.dJ JH au Az.bi .nil mK) aY)))))
  (a_ (dh (eJ Hu (bT (ag 1) rfl) (gX j6 (by rfl) T.len jd (aK (ag 0) aY)) (d4 _)) (bo (wi T.km wJ rfl (wd T.km o9 fA rfl T.sr pj cA (aK (bT (ag 1) rfl) aY)))) dn)
  (bo (cp (ag 2)))))),?_⟩
 refine⟨_,rfl,λr dr PA aa3 ag6=>⟨r,dr,aF,rfl,aG,rfl,?_⟩⟩;rw[i_];generalize Fw:upd (upd H dr (.own r)) r (.ins aJ dr (jB aF 0))=gh;have s0:aA H gh:=λb o e=>by rw[<-Fw,aj (a8 e PA),aj (a8 e aa3)];exact e
 have Eg:d1 aJ gh r aF t 0:=⟨⟨dr,by rw[<-Fw];exact aG⟩,s0 _ _ bY,eY _,hz⟩;have OA:∀{ab:ah},de r gh ab->aA H ab:=λk b o e=>k b o (s0 b o e) (a8 e PA);have UK:∀{ab:ah},aA (Diff gh ab) (Diff H ab):=qA s0.VQ;have nv:∀{j:Nat},aU.sel t=.error j->pa CX r gh E j:=λ{j} e ab a aq bu aa ac=>bX j (by rw[aU.Qv,e];rfl) ab a aq (OA bu) aa ac;have rS:=aU.Ij t;refine⟨_,rfl,r,dr,_,rfl,by rw[<-Fw];exact aG,fU _ _ (by w_on) (by w_on),r,aF,t,0,rfl,Eg,λng cI xL H1 v0 e' dI eB=>?_,λj ed=>?_⟩
 ·rw[List.drop_zero] at xL;rw[xL] at rS;replace rS:aU.sel t=aU.pre [ng] cI (aU.after (t.drop cI)):=rS;rw[uU] at e';refine⟨cH 1,λl aC=>?_⟩;have i1:gh l=none:=e'.eM dI l aC;have hb:l≠r:=e'.free aC;have yd:(upd gh l (.lst [])) l≠none:=by rw[aG];nofun
  have r4:(upd gh l (.lst [])) r≠none:=by rw[aj hb.symm];exact Eg.some
  refine⟨λm σ ab=>∃i bC acc,m=t.length - (cI+i)/\σ=[some (.ref aF),some (.ref r),some (.ref l)]/\ab l=some (.lst bC)/\d1 aJ ab r aF t (cI+i)/\de r gh ab/\bC.length<=i+1/\
   Paired (qf ay (Diff (upd gh l (.lst [])) ab)) bC (ng::acc)/\aU.after (t.drop cI)=aU.pre acc i (aU.after (t.drop (cI+i))),⟨_,0,[v0],[],rfl,rfl,aG,e'.same (aA.upd aC),dI.trans (aA.keep (aA.upd aC)),by simp,
    .cons (qf.same (Lb aC) eB) .nil,(aU.CB _).symm⟩,?_⟩
  rintro m σ ab ⟨i,bC,acc,rfl,rfl,ht,R',bu,nu,e2,eq⟩;obtain⟨mo,mB⟩:=R'.ins;have hsz:=R'.kg;have hle:=R'.le;refine⟨_,rfl,r,mo,_,rfl,mB,fU _ _ (by w_on) (by w_on),r,aF,t,cI+i,44,by rw[<-s4];rfl,R',λBm ap dt e6=>⟨_,rfl,d3 ⟨_,λ_ _ z=>z,?_⟩⟩,λBm=>⟨_,rfl,eS ?_⟩⟩
  ·obtain⟨k5,vG⟩:=dt.ins;refine⟨_,rfl,.inl ⟨rfl,_,bA.of (e6 _ _ ht hb)⟩,_,rfl,r,k5,_,rfl,vG,fU _ _ (by w_on) (by w_on),r,aF,t,cI+i+1,rfl,dt,λc n en bz v g6 hu Xb=>?_,λj ed=>?_⟩
   ·have om:bz l=some (.lst bC):=hu _ _ (e6 _ _ ht hb) hb;have agE:=g6.le;refine⟨l,bC,_,rfl,rfl,om,BZ (by omega),?_⟩;have y7:de l bz (upd bz l (.lst (bC++[v]))):=y6;have bQ:aA (Diff (upd gh l (.lst [])) bz) (Diff (upd gh l (.lst [])) (upd bz l (.lst (bC++[v])))):=nh y7 yd;have rN:∀b,ap b=none->(upd gh l (.lst [])) b=none:=λb I=>by
     have kx:b≠l:=λz=>by rw[z,e6 _ _ ht hb] at I;cases I
     rw[aj kx];exact R'.eM bu b (dt.eM e6 b I)
    have E8:aU.jm ((t.drop (cI+i)).drop 1)=.ok (c,n):=by rw[iJ];exact en
    refine⟨_,?_,i+(1+n),bC++[v],acc++[c],rfl,rfl,aG,?_,λb o I ak=>?_,by rw[dC];simp;omega,?_,?_⟩
    ·omega
    ·obtain⟨vh,k9⟩:=g6.ins;rw[show cI+(i+(1+n))=cI+i+1+n by omega];exact⟨⟨vh,by rw[aj hb.symm];exact k9⟩,by rw[aj (a8 Eg.txt i1)];exact g6.txt,g6.le,g6.kg⟩
    ·rw[aj (a8 I i1)];exact hu b o (e6 b o (bu b o I ak) ak) ak
    ·exact oH (m:=ng::acc) (Paired.gH e2 λ_ _ z=>z.same ((nh (e6.trans hu) r4).trans bQ)) (qf.same ((qA rN).trans bQ) Xb)
    ·rw[eq,aU.TF Bm E8,aU.HK,iJ,kQ]
   ·have E7:aU.jm ((t.drop (cI+i)).drop 1)=.error j:=by rw[iJ];exact ed
    have z:=nv (j:=cI+(i+(1+j))) (by rw[rS,eq,aU.TB Bm E7];rfl);rw[show cI+(i+(1+j))=cI+i+1+j by omega] at z;exact(z.keep bu).keep e6
  ·refine⟨_,rfl,r,aJ,mo,_,_,rfl,mB,T.cN,T.h6,jC _ _,_,rfl,aF,_,rfl,.inl (bA.of R'.txt),_,_,rfl,rfl,_,rfl,?_⟩;rw[cc];by_cases cO:cI+i < t.length
   ·rw[ej (by omega:((cI+i:Nat):Int) < (t.length:Int))];refine d3 ⟨_,rfl,r,aJ,mo,_,_,rfl,mB,T.cN,T.h6,jC _ _,(cH 1),uB (nv (j:=cI+i) ?_) bu⟩;have b9:t.drop (cI+i)≠[]:=by
     intro z;have:(t.drop (cI+i)).length=0:=by rw[z];rfl
     rw[ja] at this;omega
    rw[rS,eq,aU.TA b9 Bm];rfl
   ·rw[cW (by omega:¬((cI+i:Nat):Int) < (t.length:Int))];refine eS ⟨_,rfl,?_⟩;have YA:t.drop (cI+i)=[]:=List.drop_eq_nil_of_le (by omega);refine cP (ng::acc) ?_ ab _ (OA bu) ⟨l,bC,rfl,iX (s0.free i1) ht,Paired.gH e2 λ_ _ z=>z.same ((Lc i1).trans UK)⟩;rw[aU.Qv,rS,eq,YA,aU.TC];simp[aU.pre,Except.map]
 ·rw[List.drop_zero] at ed;rw[ed] at rS;rw[uU];exact nv rS
structure cX (K:PySem.W.Frag)(ae:Str->Option af)(x:Str)(st:Stmt)(ps:List Str)(f:U)(fd:b6):Prop where
 fn:dd K x x st f fd
 ae:ae x=some (.ref f)
 bu:keepIn K (.ref f)=true
 bi:Binds K fd ps []
def lq (a b c:Bool):List Str:=(if a=true then([("first":Str)]:List Str) else[])++((if b=true then([("last":Str)]:List Str) else[])++(if c=true then([("empty":Str)]:List Str) else[]))
def kf (L:Tm.Look):List Str:=lq L.fst L.lst L.emp
def df {b:Bool}{A B:Prop}(e:b=false)(h:B):if b=true then A else B:=by rw[e];exact eS h
def fB {b:Bool}{A B:Prop}(e:b=true)(h:A):if b=true then A else B:=by rw[e];exact d3 h
def iD (L:Tm.Look):XL.hY:=((L.tag:Int),L.cls.map Int.ofNat,kf L)
def TQ (l:List Int)(k:Int):q2 (.int k) (l.map V.int)=l.contains k:=by
 unfold q2;rw[List.any_map]
 induction l with
 |nil=>rfl
 |cons a l bE=>
  rw[wO,List.contains_cons,bE]
  congr 1
  show(a==k)=(k==a);rw[lv,jX,jX];exact eq_comm
def TL (l:List Int):(l.map V.int).all pv=true:=by rw[all_map,sY];exact λ_ _=>rfl
def TM (l:List Str):(l.map V.str).all pv=true:=by rw[all_map,sY];exact λ_ _=>rfl
def UG (l:List Nat)(k:Nat):(l.map Int.ofNat).contains (k:Int)=l.contains k:=by
 rw[lv,kn,kn,dp];constructor
 ·rintro⟨a,aa,ac⟩;have:a=k:=nG ac;rw[<-this];exact aa
 ·exact λh=>⟨k,h,rfl⟩
def Gq (L:Tm.Look):q2 (.str "first") ((kf L).map V.str)=L.fst/\q2 (.str "last") ((kf L).map V.str)=L.lst/\q2 (.str "empty") ((kf L).map V.str)=L.emp:=by unfold kf;generalize L.fst=a;generalize L.lst=b;generalize L.emp=d;cases a<;>cases b<;>cases d<;>decide+kernel
def Qd (h:qm ay mi H v p.head p.tests):jg ay H v (aU.n4 p):=by
 obtain⟨a,aq,lt,bC,aa,ac,av,bn⟩:=h;refine⟨a,aq,lt,bC,aa,ac,av,?_⟩;show Paired (jj ay H) bC (p.tests.map Sty.Test.is);clear aa ac av;generalize p.tests=l at bn
 induction bn with
 |nil=>exact .nil
 |cons r t bE=>exact .cons r bE
def acZ (L:Tm.Look)(p:Sty.Plain):Tm.lU L (aU.n4 p)=Tm.we L p:=by unfold Tm.lU Tm.we aU.n4;simp only;rw[all_map];rfl
abbrev zN:Stmt:=top 9
abbrev wq:Stmt:=top 10
inductive zY(ay:U)(inner:Bool)(vs:List V)(H:ah)(Q:cM)(_:fG):Prop|i(dS:V)(c':U)(t:Sty.Test)(L:Tm.Look)(_:vs=[dS,.ref c'])(_:jj ay H dS t)(_:inner=true->∃s,t=.is s)(_:hp H c' (iD L))(_:Q (.bL (Tm.wG L t)) H)
inductive sM(ay:U)(inner:Bool)(vs:List V)(H:ah)(Q:cM)(_:fG):Prop|i(bJ:V)(c':U)(k:Sty.Kind)(L:Tm.Look)(_:vs=[bJ,.ref c'])(_:jg ay H bJ k)(_:inner=true->∀t∈k.tests,∃s,t=.is s)(_:hp H c' (iD L))(_:Q (.bL (Tm.lU L k)) H)
def QM:c3 ["test","look","name"] ahG (ct zN):={}
def Pb:(decide (V.str "first"=V.str "class")=false/\decide (V.str "last"=V.str "class")=false/\decide (V.str "empty"=V.str "class")=false/\decide (V.str "not"=V.str "class")=false)/\
  (decide (V.str "first"=V.str "not")=false/\decide (V.str "last"=V.str "not")=false/\decide (V.str "empty"=V.str "not")=false):=by w_on
def PM {P:bg}{w:bb}{K:PySem.W.Frag}{ae:Str->Option af}{base:a5}{ay:U}{inner:Bool}{f ob:U}{fd oa:b6}{k:Nat}(D:cX K ae "holds" zN ahG f fd)(m1:cX K ae "is_of_kind" wq ahA ob oa)
  (G:aQ P w K ae base bc k ob oa ahA (λvs H Q E=>inner=false/\sM ay true vs H Q E)):aQ P w K ae base bc (k+1) f fd ahG (zY ay inner):=by
 refine D.fn.ok QM (λbU A outer s H vs Q E au h=>?_);obtain⟨dS,c',t,L,rfl,bW,iy,cT,q⟩:=h;obtain⟨c,st,eR,hK,om⟩:=cT;obtain⟨⟨ea,eW,gI,lb⟩,hv,gG,jv⟩:=Pb;refine⟨_,a_ (cE (i:=2) QM.nd (da la (ag 0) bM (λ_ _=>rfl)))
  (a_ (dh (eJ gA (ag 2) fq (d4 _)) (bo (cp (uw PW (da la (ag 0) bM (λ_ _=>rfl)) (da la (ag 1) bM (λ_ _=>rfl)) (by with_unfolding_all rfl)))) dn)
  (a_ (dh (eJ gA (ag 2) fq (d4 _)) (bo (cp (acQ (hB G au rfl m1.ae m1.bu m1.bi .nil cA (aK (da la (ag 0) bM (λ_ _=>rfl)) (aK (ag 1) aY)))))) dn)
  (bo (cp (uw PW (ag 2) (da la (ag 1) bM (λ_ _=>rfl)) (by with_unfolding_all rfl)))))),?_⟩
 have afA:(∃e5 p,t=.is (.cls e5)/\dS=.ref p/\H p=some (.tup [.str "class",.int (e5:Int)]))\/
   (∃(p:U) (n:Str),dS=.ref p/\H p=some (.tup [.str n,.b1])/\decide (V.str n=V.str "class")=false/\decide (V.str n=V.str "not")=false/\Q (.bL (q2 (.str n) ((kf L).map V.str))) H)\/
   (∃pl p bJ,t=.isnt pl/\dS=.ref p/\H p=some (.tup [.str "not",bJ])/\qm ay mi H bJ pl.head pl.tests):=by
  cases t with
  |is s=>
   cases s with
   |cls e5=>obtain⟨p,e,am⟩:=bW;exact .inl ⟨e5,p,rfl,e,am⟩
   |first=>obtain⟨p,e,am⟩:=bW;exact .inr (.inl ⟨p,_,e,am,ea,hv,by rw[(Gq L).1];exact q⟩)
   |last=>obtain⟨p,e,am⟩:=bW;exact .inr (.inl ⟨p,_,e,am,eW,gG,by rw[(Gq L).2.1];exact q⟩)
   |empty=>obtain⟨p,e,am⟩:=bW;exact .inr (.inl ⟨p,_,e,am,gI,jv,by rw[(Gq L).2.2];exact q⟩)
  |isnt pl=>obtain⟨p,bJ,e,am,d9⟩:=bW;exact .inr (.inr ⟨pl,p,bJ,rfl,e,am,d9⟩)
 rcases afA with⟨e5,p,rfl,rfl,am⟩|⟨p,n,rfl,am,aE,aL,q⟩|⟨pl,p,bJ,rfl,rfl,am,d9⟩
 ·refine⟨_,rfl,p,_,0,_,rfl,rfl,c5.of am,dT (j:=0) rfl,?_⟩;refine⟨_,rfl,rfl,_,rfl,d3 ?_⟩;refine⟨_,rfl,p,_,1,_,rfl,rfl,c5.of am,dT (j:=1) rfl,_,rfl,c',_,1,_,rfl,rfl,c5.of eR,dT (j:=1) rfl,c,_,rfl,.inr (c5.of hK),rfl,TL _,?_⟩;show Q (.bL (q2 (.int (e5:Int)) ((L.cls.map Int.ofNat).map V.int))) H;rw[TQ,UG];exact q
 ·refine⟨_,rfl,p,_,0,_,rfl,rfl,c5.of am,dT (j:=0) rfl,?_⟩;refine⟨_,rfl,rfl,_,rfl,df aE ?_⟩;refine⟨_,rfl,rfl,_,rfl,df aL ?_⟩;exact⟨_,rfl,_,rfl,c',_,2,_,rfl,rfl,c5.of eR,dT (j:=2) rfl,st,_,rfl,.inr (c5.of om),rfl,TM _,q⟩
 ·have vA:inner=false:=by
   cases inner
   ·rfl
   ·obtain⟨s,z⟩:=iy rfl;cases z
  refine⟨_,rfl,p,_,0,_,rfl,rfl,c5.of am,dT (j:=0) rfl,?_⟩;refine⟨_,rfl,rfl,_,rfl,df lb ?_⟩;refine⟨_,rfl,rfl,_,rfl,d3 ?_⟩;refine⟨_,rfl,p,_,1,_,rfl,rfl,c5.of am,dT (j:=1) rfl,_,rfl,vA,bJ,c',aU.n4 pl,L,rfl,Qd d9,λ_ t bY=>?_,⟨c,st,eR,hK,om⟩,_,rfl,?_⟩
  ·obtain⟨s,_,rfl⟩:=dp.mp bY;exact⟨s,rfl⟩
  ·rw[acZ];exact q
def QN:c3 ["kind","look","test"] ahA (ct wq):={}
def GG (dS:V)(l:U):(pQ dS l).lookup ("tag":Str)=some dS:=by simp[pQ]
def GH (dS:V)(l:U):(pQ dS l).lookup ("tests":Str)=some (.ref l):=by
 have h:(("tests":Str)==("tag":Str))=false:=by w_on
 simp[pQ,List.lookup,h]
def PN {P:bg}{w:bb}{K:PySem.W.Frag}{ae:Str->Option af}{base:a5}{CX ay aJ cF cZ:U}{inner:Bool}{f vm:U}{fd vl:b6}{k:Nat}(T:g8 K ae CX ay aJ cF cZ)(D:cX K ae "is_of_kind" wq ahA f fd)(rx:cX K ae "holds" zN ahG vm vl)
  (G:aQ P w K ae base bc k vm vl ahG (zY ay inner)):aQ P w K ae base bc (k+1) f fd ahA (sM ay inner):=by
 refine D.fn.ok QN (λbU A outer s H vs Q E au h=>?_);obtain⟨bJ,c',kd,L,rfl,d9,iy,cT,q⟩:=h;obtain⟨bH,aq,lt,bC,rfl,ac,av,bn⟩:=d9;obtain⟨c,st,eR,hK,om⟩:=cT;refine⟨_,a_ (dh (kX.pt (HP (jA (zv (bT (ag 0) rfl))) (HQ (eJ wc (bT (ag 0) rfl) (da la (ag 1) bM (λ_ _=>rfl)) (d4 _))))) (bo (cp pX)) dn)
  (a_ (lZ kS rfl (pZ (bT (ag 0) rfl)) (fJ (i:=2) QN.nd)
   (bo (dh (zC (lk (hB G au rfl rx.ae rx.bu rx.bi .nil cA (aK (ag 2) (aK (ag 1) aY))))) (bo (cp pX)) dn)))
  (bo (cp pX))),?_⟩
 have mF:Tm.tT L kd.head=true->(ki (Rq (Og K (mP K (eE 0) "tests")) (jr 2) (oP (Rv (Dr (Rp (zY ay inner) [] ti (jE (eE 2) (jE (eE 1) kh))))) (z3 (ls (.bL false))) oQ)) (z3 (ls (.bL true))))
   {cG:=λ_ ab=>Q .b1 ab,ia:=Q} [some (.ref bH),some (.ref c'),none] H:=by
  intro dz;refine⟨_,rfl,bH,ay,aq,_,_,rfl,ac,T.rL,T.B',GH _ _,lt,rfl,⟨_,bA.of av⟩,r1 (K:=K) (a:=lt) (xs:=bC) (λi σ ab=>∃v,σ=[some (.ref bH),some (.ref c'),v]/\ab=H/\(kd.tests.take i).all (Tm.wG L)=true) ⟨none,rfl,rfl,by simp⟩ ?_ ?_ ?_⟩
  ·rintro i σ _ aR ⟨v,rfl,rfl,al⟩;exact bA.of av
  ·rintro i x σ _ aR ⟨v,rfl,rfl,al⟩;obtain⟨t,bY,bW⟩:=mJ bn aR;have N8:t∈kd.tests:=l9 bY;refine⟨_,rfl,_,rfl,x,c',t,L,rfl,bW,λz=>iy z t N8,⟨c,st,eR,hK,om⟩,_,rfl,?_⟩;cases e:Tm.wG L t with
   |true=>refine eS ?_;refine⟨_,rfl,rfl,?_⟩;rw[ko,bY];simp[al,e]
   |false=>
    refine d3 ?_;show Q (.bL false) _;have:Tm.lU L kd=false:=by unfold Tm.lU;rw[dz,Bool.true_and,Bool.eq_false_iff];intro z;rw[sY] at z;rw[z t N8] at e;cases e
    rw[this] at q;exact q
  ·rintro σ _ ⟨v,rfl,rfl,al⟩;show Q (.bL true) _;have:Tm.lU L kd=true:=by unfold Tm.lU;rw[dz,Bool.true_and];rw[fu bn,lx] at al;exact al
   rw[this] at q;exact q
 refine⟨_,rfl,bH,ay,aq,_,_,rfl,ac,T.rL,T.Ca,GG _ _,_,rfl,?_⟩;cases dz:kd.head with
 |none_=>exact eS (mF (by rw[dz];rfl))
 |any=>exact eS (mF (by rw[dz];rfl))
 |tag t=>
  rw[dz] at ac;refine d3 ?_;refine⟨_,rfl,bH,ay,aq,_,_,rfl,ac,T.rL,T.Ca,GG _ _,_,rfl,c',_,0,_,rfl,rfl,c5.of eR,dT (j:=0) rfl,rfl,_,rfl,?_⟩;by_cases bY:L.tag=t
  ·refine df (by rw[show(iD L).1=(t:Int) by rw[<-bY];rfl];simp[uJ]) ?_;exact mF (by rw[dz];simpa[Tm.tT] using bY)
  ·have b9:¬(V.int (t:Int)=V.int (iD L).1):=by intro z;injection z with z;exact bY (nG z).symm
   refine fB (by rw[show uJ (.tag t)=V.int (t:Int) from rfl,cW b9];rfl) ?_;show Q (.bL false) _;have:Tm.lU L kd=false:=by unfold Tm.lU;rw[dz,show Tm.tT L (.tag t)=false by simpa[Tm.tT] using bY];rfl
   rw[this] at q;exact q
def ab5 {P:bg}{w:bb}{K:PySem.W.Frag}{ae:Str->Option af}{base:a5}{CX ay aJ cF cZ:U}{vm ob:U}{vl oa:b6}(T:g8 K ae CX ay aJ cF cZ)(rx:cX K ae "holds" zN ahG vm vl)(m1:cX K ae "is_of_kind" wq ahA ob oa):
  aQ P w K ae base bc 4 ob oa ahA (sM ay false):=by
 have VZ:aQ P w K ae base bc 0 ob oa ahA (λvs H Q E=>true=false/\sM ay true vs H Q E):=Mh λvs H Q E z=>by cases z.1
 have g1:aQ P w K ae base bc 1 vm vl ahG (zY ay true):=PM rx m1 VZ;have g2:aQ P w K ae base bc 2 ob oa ahA (sM ay true):=PN T m1 rx g1;have V0:aQ P w K ae base bc 2 ob oa ahA (λvs H Q E=>false=false/\sM ay true vs H Q E):=⟨λvs H Q E z=>g2.1 vs H Q E z.2,λA outer s H a b vs Q E c d e f z=>g2.2 A outer s H a b vs Q E c d e f z.2⟩;have g3:aQ P w K ae base bc 3 vm vl ahG (zY ay false):=PM rx m1 V0;exact PN T m1 rx g3
end bf
namespace Tm
open Sty
def pN:Test->Option Kind
 |.isnt p=>some (aU.n4 p)
 |.is _=>none
def q5 (k:Kind):List Kind:=k::k.tests.filterMap pN
def pO:Test->Bool
 |.is _=>true
 |.isnt _=>false
def kw (k:Kind):Weight:=((k.tests.filter pO).length,k.head.weight.2)
def zz (a b c:Weight):plus (plus a b) c=plus a (plus b c):=by simp[plus,kQ]
def ZU (p:Plain):kw (aU.n4 p)=(p.tests.length,p.head.weight.2):=by
 unfold kw aU.n4;simp only
 congr 1
 rw[filter_eq_self.mpr]
 ·rw[cc]
 ·intro t bY;obtain⟨s,_,rfl⟩:=dp.mp bY;rfl
def ZQ (h:Head):h.weight=(0,h.weight.2):=by cases h<;>rfl
theorem I7:∀(l:List Test) (w:Weight),(l.filterMap pN).foldl (λw k=>plus w (kw k)) (plus w ((l.filter pO).length,0))=l.foldl (λw t=>plus w t.weight) w
 |[],w=>by simp[plus]
 |.is s::l,w=>by
  have:=I7 l (plus w (1,0));rw[p8];show _=l.foldl (λw t=>plus w t.weight) (plus w (1,0));rw[<-this]
  congr 1
  show plus w ((l.filter pO).length+1,0)=_;rw[zz]
  congr 1
  simp[plus,Nat.add_comm]
 |.isnt p::l,w=>by
  have:=I7 l (plus w (p.tests.length,p.head.weight.2));rw[p8];show _=l.foldl (λw t=>plus w t.weight) (plus w (p.tests.length,p.head.weight.2));rw[<-this];show(l.filterMap pN).foldl (λw k=>plus w (kw k)) (plus (plus w ((l.filter pO).length,0)) (kw (aU.n4 p)))=_;rw[ZU]
  congr 1
  rw[zz,zz]
  congr 1
  simp[plus,Nat.add_comm]
def foldl_plus (l:List Test):∀(a b:Weight),l.foldl (λw t=>plus w t.weight) (plus a b)=plus a (l.foldl (λw t=>plus w t.weight) b):=by
 induction l with
 |nil=>intro a b;rfl
 |cons t l bE=>intro a b;rw[p8,p8,zz,bE]
def ZR (k:Kind)(w:Weight):(q5 k).foldl (λw k=>plus w (kw k)) w=plus w k.weight:=by
 unfold q5 Kind.weight;rw[p8,<-foldl_plus,<-I7]
 congr 1
 rw[zz]
 congr 1
 rw[ZQ k.head];simp[plus,kw]
def Uu (c:Chain):(fD c).foldl (λw p=>plus w p.2.weight) (0,0)=c.weight:=by
 unfold fD Chain.weight;rw[p8,List.foldl_map]
 congr 1
 simp[plus]
end Tm
namespace bf
open PySem PySem.Spec PyProof.Rows aB
open Sty (Bytes)
def jP {n:Nat}(h:n<=1000000):n < sizeLine:=Nat.lt_of_le_of_lt h (by decide)
def t_ {n:Nat}(h:n<=1000000):n<=sizeLine:=le_of_lt (jP h)
def RB (h:jj ay H v t):∃p n x,v=.ref p/\H p=some (.tup [.str n,x])/\decide (V.str n=V.str "not")= !Tm.pO t/\∀k,Tm.pN t=some k->jg ay H x k:=by
 obtain⟨⟨ea,eW,gI,lb⟩,hv,gG,jv⟩:=Pb;have m0:decide (V.str "class"=V.str "not")=false:=by w_on
 cases t with
 |is s=>
  cases s with
  |cls e5=>obtain⟨p,e,am⟩:=h;exact⟨p,_,_,e,am,m0,λk z=>by cases z⟩
  |first=>obtain⟨p,e,am⟩:=h;exact⟨p,_,_,e,am,hv,λk z=>by cases z⟩
  |last=>obtain⟨p,e,am⟩:=h;exact⟨p,_,_,e,am,gG,λk z=>by cases z⟩
  |empty=>obtain⟨p,e,am⟩:=h;exact⟨p,_,_,e,am,jv,λk z=>by cases z⟩
 |isnt pl=>obtain⟨p,bJ,e,am,d9⟩:=h;exact⟨p,_,_,e,am,show decide (V.str "not"=V.str "not")=true by w_on,λk z=>by cases z;exact Qd d9⟩
abbrev zR:Stmt:=top 11
inductive Rc(ay:U)(vs:List V)(H:ah)(Q:cM)(_:fG):Prop|i(bJ:V)(k:Sty.Kind)(_:vs=[bJ])(_:jg ay H bJ k)(_:k.tests.length<=257)(_:∀ab l ws,aA H ab->ab l=some (.lst ws)->H l=none->Paired (jg ay H) ws (Tm.q5 k)->Q (.ref l) ab)
def C4:c3 ["kind","name","what"] ["kind"] (ct zR):={}
def acl {P:bg}{w:bb}{K:PySem.W.Frag}{ae:Str->Option af}{base:a5}{CX ay aJ cF cZ:U}{f:U}{fd:b6}(T:g8 K ae CX ay aJ cF cZ)(D:cX K ae "with_inner_kinds" zR ["kind"] f fd):aQ P w K ae base bc 1 f fd ["kind"] (Rc ay):=by
 refine D.fn.ok C4 (λbU A outer s H vs Q E au h=>?_);obtain⟨bJ,kd,rfl,d9,hz,q⟩:=h;have Xm:=d9;obtain⟨bH,aq,lt,bC,rfl,ac,av,bn⟩:=d9;refine⟨_,bo (cp (eg wb (dL (aK (ag 0) aY)) (HD rfl C4.nd (pZ (bT (ag 0) rfl)) (own:=[("name",1),("what",2)]) (g:=Bh K 2 (tJ (jr 1) (tJ (jr 2) Bg))) (EH (by show xA ["kind","name","what"] (ct zR) _ _=true;decide+kernel))
  (λs H C cl cw=>by exact oI rfl (gY (fJ (i:=1) C4.nd) (gY (fJ (i:=2) C4.nd) oJ)))
  (λs H C cl cw=>by exact HO (eJ gA (ag 1) fq (d4 _))) (λs H C cl cw=>by exact ag 2)))),?_⟩
 refine⟨_,rfl,cH 1,λcY eR=>?_⟩;have s1:aA H (upd H cY (.lst [.ref bH])):=aA.upd eR;refine⟨_,rfl,bH,ay,aq,_,_,rfl,s1 _ _ ac,T.rL,T.B',GH _ _,lt,rfl,⟨_,bA.of (s1 _ _ av)⟩,λD fw=>?_⟩;refine OF (K:=K) (a:=lt) (xs:=bC) (λi ab=>∃ws,ab=upd (upd H cY (.lst [.ref bH])) D (.lst ws)/\Paired (jg ay H) ws ((kd.tests.take i).filterMap Tm.pN)) ⟨[],rfl,.nil⟩ ?_ ?_ ?_
 ·rintro i ab aR ⟨ws,rfl,hw⟩;exact bA.of ((aA.upd fw) _ _ (s1 _ _ av))
 ·rintro i x ab aR ⟨ws,rfl,hw⟩;obtain⟨t,bY,bW⟩:=mJ bn aR;obtain⟨p,n,y,rfl,am,en,aw⟩:=RB bW;have pH:=(aA.upd fw (o:=.lst ws)) _ _ (s1 _ _ am);refine⟨p,_,rfl,c5.of pH,rfl,?_⟩;refine⟨_,_,rfl,_,_,rfl,rfl,rfl,?_⟩;refine⟨_,rfl,rfl,_,rfl,?_⟩;have d2:ws.length<=257:=by rw[fu hw];have:=List.length_filterMap_le Tm.pN (kd.tests.take i);rw[mW] at this;omega
  cases f6:Tm.pO t with
  |true=>
   refine df (by rw[en,f6];rfl) ⟨ws,rfl,?_⟩;have:Tm.pN t=none:=by
    cases t with
    |is s=>rfl
    |isnt p=>cases f6
   rw[ko,bY,List.filterMap_append];simp[this,hw]
  |false=>
   refine fB (by rw[en,f6];rfl) ⟨_,rfl,ws,aG,jP (by omega),?_⟩;refine⟨ws++[y],by rw[i_],?_⟩;obtain⟨k,j'⟩:∃k,Tm.pN t=some k:=by
    cases t with
    |is s=>cases f6
    |isnt p=>exact⟨_,rfl⟩
   rw[ko,bY,List.filterMap_append];have e:(some t).toList.filterMap Tm.pN=[k]:=by simp[j']
   rw[e];exact oH hw (aw k j')
 ·rintro ab ⟨ws,rfl,hw⟩;have Yh:cY≠D:=λz=>by rw[<-z,aG] at fw;cases fw
  have d2:ws.length<=257:=by rw[fu hw];have:=List.length_filterMap_le Tm.pN (kd.tests.take bC.length);rw[mW] at this;omega
  refine⟨cY,D,_,_,rfl,rfl,by rw[aj Yh];exact aG,aG,t_ (by show 1+ws.length<=1000000;omega),λr a'=>?_⟩;have s2:aA H (upd (upd H cY (.lst [.ref bH])) D (.lst ws)):=s1.trans (aA.upd fw);refine q _ r ([.ref bH]++ws) (s2.trans (aA.upd a')) aG (s2.free a') ?_;rw[fu bn,lx] at hw;exact .cons Xm hw
abbrev zS:Stmt:=top 12
def R9 (c:Sty.Chain):Prop:=∀p∈Tm.fD c,p.2.tests.length<=257/\∀q,Sty.Test.isnt q∈p.2.tests->q.tests.length<=257
def uK (fe:Sty.Weight):List V:=[.int (fe.1:Int),.int (fe.2:Int)]
inductive IP(ay:U)(vs:List V)(H:ah)(Q:cM)(_:fG):Prop|i(v:V)(c:Sty.Chain)(_:vs=[v])(_:qf ay H v c)(_:R9 c)(_:∀ab p,aA H ab->H p=none->ab p=some (.tup (uK c.weight))->Q (.ref p) ab)
def oN:c3 ahK ["chain"] (ct zS):={}
def Zt (h:k.tests.length<=257/\∀q,Sty.Test.isnt q∈k.tests->q.tests.length<=257):∀b0∈Tm.q5 k,b0.tests.length<=257:=by
 intro b0 aw;rcases cr.mp aw with rfl|aw
 ·exact h.1
 ·obtain⟨t,bY,e⟩:=Af.mp aw;cases t with
  |is s=>cases e
  |isnt p=>cases e;show(p.tests.map Sty.Test.is).length<=257;rw[cc];exact h.2 p bY
def Ry (h:Sty.Head):(!decide (uJ h=V.b1))=decide (h.weight.2=1):=by
 cases h with
 |none_=>rfl
 |any=>rfl
 |tag t=>rfl
def XX (h:Sty.Head):h.weight.2=1\/h.weight.2=0:=by
 cases h with
 |none_=>exact .inr rfl
 |any=>exact .inr rfl
 |tag t=>exact .inl rfl
def acm {P:bg}{w:bb}{K:PySem.W.Frag}{ae:Str->Option af}{base:a5}{CX ay aJ cF cZ:U}{f r2:U}{fd rY:b6}(T:g8 K ae CX ay aJ cF cZ)(D:cX K ae "weight_of_chain" zS ["chain"] f fd)(e9:cX K ae "with_inner_kinds" zR ["kind"] r2 rY):aQ P w K ae base bc 2 f fd ["chain"] (IP ay):=by
 have G:aQ P w K ae base bc 1 r2 rY ["kind"] (Rc ay):=acl T e9;refine D.fn.ok oN (λbU A outer s H vs Q E au h=>?_);obtain⟨v,c,rfl,eB,Xu,q⟩:=h;obtain⟨a,bC,rfl,al,fb⟩:=eB;refine⟨_,a_ (cE (i:=1) oN.nd bM) (a_ (cE (i:=2) oN.nd bM)
  (a_ (lZ kS rfl (pZ (ag 0)) (oI rfl (gY (fJ (i:=3) oN.nd) (gY (fJ (i:=4) oN.nd) oJ)))
   (bo (lZ kS rfl (pZ (hB G au rfl e9.ae e9.bu e9.bi .nil cA (aK (ag 4) aY))) (fJ (i:=5) oN.nd)
    (a_ (HM (i:=1) oN.nd (gX j6 (by rfl) T.len jd (aK (HD rfl oN.nd (pZ (bT (ag 5) rfl)) (own:=[("name",6),("what",7)]) (g:=Bh K 2 (tJ (jr 6) (tJ (jr 7) Bg)))
      (EH (by show xA ahK (ct zS) _ _=true;decide+kernel))
      (λs H C cl cw=>by exact oI rfl (gY (fJ (i:=6) oN.nd) (gY (fJ (i:=7) oN.nd) oJ)))
      (λs H C cl cw=>by exact HO (eJ wc (ag 6) fq (d4 _))) (λs H C cl cw=>by exact ag 6)) aY)) Gs)
    (bo (dh (jA (zv (bT (ag 5) rfl))) (bo (HM (i:=2) oN.nd bM Gs)) dn))))))
  (bo (cp (nA (aK (ag 1) (aK (ag 2) aY))))))),?_⟩
 refine⟨_,rfl,a,rfl,⟨_,bA.of al⟩,r1 (K:=K) (a:=a) (xs:=bC) (λi σ ab=>∃gJ v4 e7,σ=[some (.ref a),some (.int ((((Tm.fD c).take i).foldl (λw p=>Sty.plus w p.2.weight) (0,0)).1:Int)),some (.int ((((Tm.fD c).take i).foldl (λw p=>Sty.plus w p.2.weight) (0,0)).2:Int)),gJ,v4,e7,none,none]/\aA H ab) ⟨none,none,none,rfl,aA.refl _⟩ ?_ ?_ ?_⟩
 ·rintro i σ ab aR ⟨gJ,v4,e7,rfl,bQ⟩;exact bA.of (bQ _ _ al)
 ·rintro i x σ ab aR ⟨gJ,v4,e7,rfl,bQ⟩;obtain⟨pr,pK,Xv⟩:=mJ fb aR;obtain⟨p,bJ,rfl,am,d9⟩:=Xv;have Yt:pr∈Tm.fD c:=l9 pK;have ba:=Xu pr Yt;generalize Za:((Tm.fD c).take i).foldl (λw p=>Sty.plus w p.2.weight) (0,0)=l6;have F6:((Tm.fD c).take (i+1)).foldl (λw p=>Sty.plus w p.2.weight) (0,0)=Sty.plus l6 pr.2.weight:=by rw[ko,show(Tm.fD c)[i]? =some pr from pK,wS,Za];rfl
  refine⟨p,_,rfl,c5.of (bQ _ _ am),rfl,?_⟩;refine⟨_,_,rfl,_,_,rfl,rfl,?_⟩;refine⟨_,rfl,bJ,pr.2,rfl,d9.same bQ,ba.1,λH1 l ws uF aC i1 yr=>?_⟩;refine⟨l,rfl,⟨_,bA.of aC⟩,r1 (K:=K) (a:=l) (xs:=ws) (λj σ ap=>∃e7,σ=[some (.ref a),some (.int ((((Tm.q5 pr.2).take j).foldl (λw k=>Sty.plus w (Tm.kw k)) l6).1:Int)),some (.int ((((Tm.q5 pr.2).take j).foldl (λw k=>Sty.plus w (Tm.kw k)) l6).2:Int)),some (.str (gw pr.1)),some bJ,e7,none,none]/\aA H1 ap) ⟨e7,rfl,aA.refl _⟩ ?_ ?_ ?_⟩
  ·rintro j σ ap bF ⟨e7,rfl,jD⟩;exact bA.of (jD _ _ aC)
  ·rintro j x σ ap bF ⟨e7,rfl,jD⟩;obtain⟨kd,r9,Fx⟩:=mJ yr bF;have BB:kd∈Tm.q5 pr.2:=l9 r9;have d2:=Zt ba kd BB;have Xo:=jg.same (uF.trans jD) Fx;obtain⟨bH,aq,lt,afB,rfl,ac,av,bn⟩:=Xo;generalize Zb:((Tm.q5 pr.2).take j).foldl (λw k=>Sty.plus w (Tm.kw k)) l6=hC;have NP:((Tm.q5 pr.2).take (j+1)).foldl (λw k=>Sty.plus w (Tm.kw k)) l6=Sty.plus hC (Tm.kw kd):=by rw[ko,r9,wS,Zb];rfl
   refine⟨_,rfl,?_⟩;refine⟨_,rfl,bH,ay,aq,_,_,rfl,ac,T.rL,T.B',GH _ _,lt,rfl,⟨_,bA.of av⟩,λD fw=>?_⟩;refine OF (K:=K) (a:=lt) (xs:=afB) (λi ab=>∃ns:List V,ab=upd ap D (.lst ns)/\ns.length=((kd.tests.take i).filter Tm.pO).length) ⟨[],rfl,rfl⟩ ?_ ?_ ?_
   ·rintro i ab aR ⟨ws,rfl,hw⟩;exact bA.of ((aA.upd fw) _ _ av)
   ·rintro i x ab aR ⟨ns,rfl,hw⟩;obtain⟨t,bY,bW⟩:=mJ bn aR;obtain⟨p,n,y,rfl,am,en,aw⟩:=RB bW;refine⟨p,_,rfl,c5.of ((aA.upd fw) _ _ am),rfl,?_⟩;refine⟨_,_,rfl,_,_,rfl,rfl,rfl,?_⟩;refine⟨_,rfl,rfl,_,rfl,?_⟩;have hle:ns.length<=257:=by rw[hw];have:=s7 Tm.pO (kd.tests.take i);rw[mW] at this;omega
    cases f6:Tm.pO t with
    |true=>refine fB (by rw[en,f6];rfl) ⟨_,rfl,ns,aG,jP (by omega),?_⟩;refine⟨ns++[.str n],by rw[i_],?_⟩;rw[ko,bY,Ac];simp[f6,hw]
    |false=>refine df (by rw[en,f6];rfl) ⟨ns,rfl,?_⟩;rw[ko,bY,Ac];simp[f6,hw]
   ·rintro ab ⟨ns,rfl,hw⟩;rw[fu bn,lx] at hw;have Iq:aA ap (upd ap D (.lst ns)):=aA.upd fw;refine⟨D,ns,rfl,.inl (bA.of aG),_,_,rfl,rfl,?_⟩;refine⟨_,rfl,bH,ay,aq,_,_,rfl,Iq _ _ ac,T.rL,T.Ca,GG _ _,_,rfl,?_⟩;have aE:((hC.1:Int)+(ns.length:Int))=(((Sty.plus hC (Tm.kw kd)).1:Nat):Int):=by
     rw[hw];show _=((hC.1+(kd.tests.filter Tm.pO).length:Nat):Int)
     push_cast
     rfl
    rcases XX kd.head with e|e
    ·refine fB (by rw[Ry,e];rfl) ?_;refine⟨_,rfl,_,_,rfl,rfl,?_⟩;refine⟨some (.ref bH),?_,jD.trans Iq⟩;show[some (V.ref a),some (V.int ((hC.1:Int)+(ns.length:Int))),some (V.int ((hC.2:Int)+1)),some (V.str (gw pr.1)),some bJ,some (V.ref bH),none,none]=_;rw[NP,aE,show(Sty.plus hC (Tm.kw kd)).2=hC.2+1 from by show hC.2+kd.head.weight.2=_;rw[e]]
     push_cast
     rfl
    ·refine df (by rw[Ry,e];rfl) ?_;refine⟨some (.ref bH),?_,jD.trans Iq⟩;show[some (V.ref a),some (V.int ((hC.1:Int)+(ns.length:Int))),some (V.int (hC.2:Int)),some (V.str (gw pr.1)),some bJ,some (V.ref bH),none,none]=_;rw[NP,aE,show(Sty.plus hC (Tm.kw kd)).2=hC.2 from by show hC.2+kd.head.weight.2=_;rw[e];rfl]
  ·rintro σ ap ⟨e7,rfl,jD⟩;rw[fu yr,lx,Tm.ZR];refine⟨some (.str (gw pr.1)),some bJ,e7,?_,(bQ.trans uF).trans jD⟩;rw[F6]
 ·rintro σ ab ⟨gJ,v4,e7,rfl,bQ⟩;have aC:(Tm.fD c).take bC.length=Tm.fD c:=by rw[fu fb];exact lx
  rw[aC,Tm.Uu];refine⟨_,rfl,_,rfl,cH 2,λp am=>?_⟩;exact q _ p (bQ.trans (aA.upd am)) (bQ.free am) aG
def dV {l:List (Str×V)}(h:(f==g)=false):((g,v)::l).lookup f=l.lookup f:=by simp[List.lookup,h]
def iC {f:Str}{v:V}{l:List (Str×V)}:((f,v)::l).lookup f=some v:=by simp[List.lookup]
def pY (h:¬g=f):dw f v ((g,x)::l)=(g,x)::dw f v l:=aN h
def P9:dw f v ((f,x)::l)=(f,v)::l:=aV rfl
def g0 (bH bR a9 aS cJ bS:U):List (Str×V):=[("kinds",.ref bH),("behind",.ref bR),("ends",.ref a9),("kinds_by_look",.ref aS),("rows",.ref cJ),("found",.ref bS)]
def aen {bH bR a9 aS cJ bS:U}:(g0 bH bR a9 aS cJ bS).lookup ("kinds":Str)=some (.ref bH):=iC
def aem {bH bR a9 aS cJ bS:U}:(g0 bH bR a9 aS cJ bS).lookup ("behind":Str)=some (.ref bR):=(dV (by w_on)).trans iC
def QY {bH bR a9 aS cJ bS:U}:(g0 bH bR a9 aS cJ bS).lookup ("ends":Str)=some (.ref a9):=(dV (by w_on)).trans ((dV (by w_on)).trans iC)
def C6 {bH bR a9 aS cJ bS:U}:(g0 bH bR a9 aS cJ bS).lookup ("kinds_by_look":Str)=some (.ref aS):=(dV (by w_on)).trans ((dV (by w_on)).trans ((dV (by w_on)).trans iC))
def aeq {bH bR a9 aS cJ bS:U}:(g0 bH bR a9 aS cJ bS).lookup ("rows":Str)=some (.ref cJ):=(dV (by w_on)).trans ((dV (by w_on)).trans ((dV (by w_on)).trans ((dV (by w_on)).trans iC)))
def QZ {bH bR a9 aS cJ bS:U}:(g0 bH bR a9 aS cJ bS).lookup ("found":Str)=some (.ref bS):=(dV (by w_on)).trans ((dV (by w_on)).trans ((dV (by w_on)).trans ((dV (by w_on)).trans ((dV (by w_on)).trans iC))))
def sL (aa:(m==("kinds":Str))=false)(ac:(m==("behind":Str))=false)(av:(m==("ends":Str))=false)(bn:(m==("kinds_by_look":Str))=false)(cB:(m==("rows":Str))=false)(gQ:(m==("found":Str))=false):
  (g0 bH bR a9 aS cJ bS).lookup m=none:=(dV aa).trans ((dV ac).trans ((dV av).trans ((dV bn).trans ((dV cB).trans ((dV gQ).trans rfl)))))
def aeo:dw "found" (.ref x) (g0 bH bR a9 aS cJ bS)=g0 bH bR a9 aS cJ x:=by unfold g0;rw[pY (by w_on),pY (by w_on),pY (by w_on),pY (by w_on),pY (by w_on),P9]
def aep:dw "rows" (.ref x) (g0 bH bR a9 aS cJ bS)=g0 bH bR a9 aS x bS:=by unfold g0;rw[pY (by w_on),pY (by w_on),pY (by w_on),pY (by w_on),P9]
def oD:Option Nat->V
 |none=>.b1
 |some n=>.int (n:Int)
def m7 (H:ah)(v:V)(r:Tm.Row):Prop:=∃p c',v=.ref p/\H p=some (.tup [.int (r.num:Int),oD r.par,oD r.io,.ref c'])/\hp H c' (iD r.look)
def m7.same (e:aA H ab):m7 H v r->m7 ab v r
 |⟨p,c',aa,ac,av⟩=>⟨p,c',aa,e _ _ ac,av.same e⟩
def m8 (H:ah)(a:U)(rs:List Tm.Row):Prop:=∃bC,H a=some (.lst bC)/\Paired (m7 H) bC rs
def m8.same (e:aA H ab):m8 H a rs->m8 ab a rs
 |⟨bC,aa,ac⟩=>⟨bC,e _ _ aa,Paired.gH ac λ_ _ z=>z.same e⟩
def oC:Option Nat->PyData
 |none=>.none
 |some n=>.int (n:Int)
def vR (L:Tm.Look):PyData:=.tuple [.int (L.tag:Int),.tuple ((L.cls.map Int.ofNat).map PyData.int),.tuple ((kf L).map PyData.str)]
def kK (r:Tm.Row):PyData:=.tuple [.int (r.num:Int),oC r.par,oC r.io,vR r.look]
theorem LI:∀(a b:List Int),eqvAll (a.map PyData.int) (b.map PyData.int)=true↔a=b
 |[],[]=>by simp[eqvAll]
 |[],_::_=>by simp[eqvAll]
 |_::_,[]=>by simp[eqvAll]
 |x::a,y::b=>by rw[ck,ck,eqvAll,d6,LI a b,eqv,uO,jX]
theorem LK:∀(a b:List Str),eqvAll (a.map PyData.str) (b.map PyData.str)=true↔a=b
 |[],[]=>by simp[eqvAll]
 |[],_::_=>by simp[eqvAll]
 |_::_,[]=>by simp[eqvAll]
 |x::a,y::b=>by rw[ck,ck,eqvAll,d6,LK a b,eqv,uO,jX]
def Vl (a b:Option Nat):eqv (oC a) (oC b)=true↔a=b:=by cases a<;>cases b<;>simp[oC,eqv]<;>omega
def aeF {a b c jk n5 b7:Bool}(h:lq a b c=lq jk n5 b7):a=jk/\b=n5/\c=b7:=by
 revert h
 cases a<;>cases b<;>cases c<;>cases jk<;>cases n5<;>cases b7<;>decide+kernel
theorem O1:∀{a b:List Nat},a.map Int.ofNat=b.map Int.ofNat->a=b
 |[],[],_=>rfl
 |[],_::_,h=>by simp at h
 |_::_,[],h=>by simp at h
 |x::a,y::b,h=>by rw[ck,ck,uO] at h;rw[nG h.1,O1 h.2]
def OP (h:iD L=iD M):L=M:=by obtain⟨t,c,a,b,d⟩:=L;obtain⟨t',b7,jk,n5,d'⟩:=M;unfold iD at h;rw[w3,w3] at h;obtain⟨aa,ac,av⟩:=h;have aa:t=t':=nG aa;have ac:c=b7:=O1 ac;obtain⟨bn,cB,gQ⟩:=aeF (show lq a b d=lq jk n5 d' from av);rw[aa,ac,bn,cB,gQ]
def Vk (L M:Tm.Look):eqv (vR L) (vR M)=true↔L=M:=by
 unfold vR;simp only[eqv,eqvAll,d6,Bool.and_true,jX,LI,LK];constructor
 ·rintro⟨aa,ac,av⟩;exact OP (by unfold iD;rw[aa,ac,av])
 ·rintro rfl;exact⟨rfl,rfl,rfl⟩
def Vm (r q:Tm.Row):eqv (kK r) (kK q)=true↔r=q:=by
 unfold kK;simp only[eqv,eqvAll,d6,Bool.and_true,jX,Vl,Vk];obtain⟨n,p,a,L⟩:=r;obtain⟨hA,ef,jk,L'⟩:=q;simp only[Tm.Row.mk.injEq];constructor
 ·rintro⟨aa,ac,av,bn⟩;exact⟨by omega,ac,av,bn⟩
 ·rintro⟨aa,ac,av,bn⟩;exact⟨by omega,ac,av,bn⟩
theorem LJ:∀(a b:List Tm.Row),eqvAll (a.map kK) (b.map kK)=true↔a=b
 |[],[]=>by simp[eqvAll]
 |[],_::_=>by simp[eqvAll]
 |_::_,[]=>by simp[eqvAll]
 |x::a,y::b=>by rw[ck,ck,eqvAll,d6,LJ a b,Vm,uO]
theorem OC:∀(a:List Int),canLayAll0 (a.map PyData.int)=true/\depthAll (a.map PyData.int)<=1
 |[]=>by simp[canLayAll0,depthAll]
 |x::a=>by have:=OC a;rw[ck];simp only[canLayAll0,canLay0,depthAll,depth,this.1,Bool.and_self,true_and];omega
theorem OE:∀(a:List Str),(∀x∈a,(PyData.str x).canLay0=true)->canLayAll0 (a.map PyData.str)=true/\depthAll (a.map PyData.str)<=1
 |[],_=>by simp[canLayAll0,depthAll]
 |x::a,h=>by have:=OE a λy bk=>h y (d7 _ bk);have aa:=h x (dW ..);rw[ck];simp only[canLayAll0,depthAll,depth,this.1,aa,Bool.and_true,true_and];omega
def aeL (L:Tm.Look):∀x∈kf L,(PyData.str x).canLay0=true:=by unfold kf;generalize L.fst=a;generalize L.lst=b;generalize L.emp=d;cases a<;>cases b<;>cases d<;>decide+kernel
def Z0 (r:Tm.Row):(kK r).canLay0=true/\(kK r).depth<=10:=by
 have aa:=OC (r.look.cls.map Int.ofNat);have ac:=OE (kf r.look) (aeL _);have av:∀o,(oC o).canLay0=true/\(oC o).depth<=1:=λo=>by cases o<;>simp[oC,canLay0,depth]
 have bn:=av r.par;have cB:=av r.io;unfold kK vR;simp only[canLayAll0,canLay0,depthAll,depth,aa.1,ac.1,bn.1,cB.1,Bool.and_self,true_and];omega
theorem OD:∀(a:List Tm.Row),canLayAll0 (a.map kK)=true/\depthAll (a.map kK)<=10
 |[]=>by simp[canLayAll0,depthAll]
 |x::a=>by have:=OD a;have h:=Z0 x;rw[ck];simp only[canLayAll0,depthAll,this.1,h.1,Bool.and_self,true_and];omega
def Q0 (a:List Tm.Row):SeqAt.shaped (.list (a.map kK))=true:=by have h:=OD a;unfold SeqAt.shaped;simp only[canLay0,depth,h.1,Bool.true_and];exact ej (by omega)
def Vn (a b:List Tm.Row):eqv (.list (a.map kK)) (.list (b.map kK))=decide (a=b):=by rw[lv,mb,<-LJ,eqv]
theorem Lh {K:PySem.W.Frag}{H:ah}:∀(l:List Int),qj K H (l.map V.int) (l.map PyData.int)
 |[]=>.nil
 |x::l=>.cons (.int x) (Lh l)
theorem Lk {K:PySem.W.Frag}{H:ah}:∀(l:List Str),qj K H (l.map V.str) (l.map PyData.str)
 |[]=>.nil
 |x::l=>.cons (.str x) (Lk l)
def Li {K:PySem.W.Frag}{H:ah}:∀(o:Option Nat),hU K H (oD o) (oC o)
 |none=>.b1
 |some n=>.int _
def U0 {K:PySem.W.Frag}{H:ah}{a:U}{L:Tm.Look}(h:hp H a (iD L)):hU K H (.ref a) (vR L):=by obtain⟨c,t,aa,ac,av⟩:=h;exact .tup (c5.of aa) (.cons (.int _) (.cons (.tup (c5.of ac) (Lh _)) (.cons (.tup (c5.of av) (Lk _)) .nil)))
def U1 {K:PySem.W.Frag}{H:ah}{v:V}{r:Tm.Row}(h:m7 H v r):hU K H v (kK r):=by obtain⟨p,c',rfl,ac,av⟩:=h;exact .tup (c5.of ac) (.cons (.int _) (.cons (Li _) (.cons (Li _) (.cons (U0 av) .nil))))
theorem Lg {K:PySem.W.Frag}{H:ah}:∀{bC:List V} {rs:List Tm.Row},Paired (m7 H) bC rs->qj K H bC (rs.map kK)
 |_,_,.nil=>.nil
 |_,_,.cons r t=>.cons (U1 r) (Lg t)
def Lj {K:PySem.W.Frag}{H:ah}{a:U}{rs:List Tm.Row}(h:m8 H a rs):hU K H (.ref a) (.list (rs.map kK)):=by obtain⟨bC,aa,ac⟩:=h;exact .lst (bA.of aa) (Lg ac)
def eH (n:Nat):V:=.int (n:Int)
def n6 (aZ:Tm.eG):List (Key×V):=[(.inr "",eH (Tm.behind aZ none)),(.inr " ",eH (Tm.behind aZ (some .below))),(.inr ">",eH (Tm.behind aZ (some .child))),(.inr "+",eH (Tm.behind aZ (some .next))),(.inr "~",eH (Tm.behind aZ (some .later)))]
def EE (aZ:Tm.eG)(lo:Option Sty.Link):ei (n6 aZ) (.inr (gw lo))=some (eH (Tm.behind aZ lo)):=by
 have b9:∀(x y:Str),decide (x=y)=false->¬((.inr x:Key)=.inr y):=λx y h z=>by injection z with z;exact tf h z
 unfold n6;cases lo with
 |none=>exact l5 rfl
 |some l=>
  cases l with
  |below=>rw[jH (b9 _ _ (by w_on))];exact l5 rfl
  |child=>rw[jH (b9 _ _ (by w_on)),jH (b9 _ _ (by w_on))];exact l5 rfl
  |next=>rw[jH (b9 _ _ (by w_on)),jH (b9 _ _ (by w_on)),jH (b9 _ _ (by w_on))];exact l5 rfl
  |later=>rw[jH (b9 _ _ (by w_on)),jH (b9 _ _ (by w_on)),jH (b9 _ _ (by w_on)),jH (b9 _ _ (by w_on))];exact l5 rfl
def j8 (e:Sty.Weight×Nat):cm.iN:=⟨(e.1.1:Int),(e.1.2:Int),(e.2:Int)⟩
def ry.same (e:aA H ab):ry H a k->ry ab a k
 |⟨c_,aa,ac⟩=>⟨c_,e _ _ aa,e _ _ ac⟩
structure qs (ay:U)(F:ah)(s:Sty.Selector)(es:List (Sty.Weight×Nat))(bH bR a9:U):Prop where
 kinds:∃kvs,F bH=some (.lst kvs)/\Paired (jg ay F) kvs ((Tm.cb s).map (·.2))
 KC:F bR=some (.cq (n6 (Tm.cb s)))
 ends:∃bs,F a9=some (.lst (bs.map V.ref))/\Paired (ry F) bs (es.map j8)
 BQ:Tm.tm s es
 fit:Tm.w8 s
def qs.same (e:aA F br)(h:qs ay F s es bH bR a9):qs ay br s es bH bR a9:=by obtain⟨kvs,cP,bX⟩:=h.kinds;obtain⟨bs,gM,gD⟩:=h.ends;exact⟨⟨kvs,e _ _ cP,Paired.gH bX λ_ _ z=>z.same e⟩,e _ _ h.KC,⟨bs,e _ _ gM,Paired.gH gD λ_ _ z=>ry.same e z⟩,h.BQ,h.fit⟩
def m4 (F:ah)(bS:U)(bd:List (Nat×Sty.Weight)):Prop:=∃kvs,F bS=some (.cq kvs)/\Paired (λ(bJ:Key×V) (f:Nat×Sty.Weight)=>bJ.1=.inl (f.1:Int)/\∃p,bJ.2=.ref p/\F p=some (.tup (uK f.2))) kvs bd
def m4.same (e:aA F br):m4 F bS bd->m4 br bS bd
 |⟨kvs,aa,ac⟩=>⟨kvs,e _ _ aa,Paired.gH ac λ_ _ ⟨cv,p,cx,gm⟩=>⟨cv,p,cx,e _ _ gm⟩⟩
def nV (P:bg)(w:bb)(F H:ah)(aZ:Tm.eG)(aS:U)(N:Nat):Prop:=∃kvs,H aS=some (.ext (lB P w aS kvs))/\kvs.length<=N/\∀p∈kvs,hp F p.2.1 p.1/\∃L,p.1=iD L/\p.2.2=eH (Tm.qy aZ L)
structure hG (P:bg)(w:bb)(aT ay:U)(F H:ah)(s:Sty.Selector)(a6 aS:U)(N:Nat):Prop where
 st:∃es bH bR a9 aq cJ bS rows,qs ay F s es bH bR a9/\H a6=some (.ins aT aq (g0 bH bR a9 aS cJ bS))/\m8 F cJ rows/\m4 F bS (Tm.nD (Tm.cb s) es rows)
 dD:nV P w F H (Tm.cb s) aS N
def nV.mono {N N':Nat}(h:nV P w F H aZ aS N)(e:aA F br)(dG:ab aS=H aS)(ak:N<=N'):nV P w br ab aZ aS N':=by obtain⟨kvs,aa,ac,av⟩:=h;exact⟨kvs,by rw[dG];exact aa,gC ac ak,λp am=>⟨(av p am).1.same e,(av p am).2⟩⟩
def hG.mono {N N':Nat}(h:hG P w aT ay F H s a6 aS N)(e:aA F br)(a9:ab a6=H a6)(dG:ab aS=H aS)(ak:N<=N'):hG P w aT ay br ab s a6 aS N':=by obtain⟨es,bH,bR,E5,aq,cJ,bS,rows,aa,ac,av,bn⟩:=h.st;exact⟨⟨es,bH,bR,E5,aq,cJ,bS,rows,aa.same e,by rw[a9];exact ac,av.same e,bn.same e⟩,h.dD.mono e dG ak⟩
end bf
namespace aB
open PySem PySem.Spec PyProof.Rows
def Mk {K:PySem.W.Frag}{a:U}{xs:List V}{g:iS}{cL:dj}{D:Ends}{σ:St}{H:ah}(Pv:Nat->St->ah->Prop)(h0:Pv 0 σ H)(aC:∀i σ H,i<=xs.length->Pv i σ H->bA K H a xs)
  (aD:∀i x σ H T,xs[i]? =some x->Pv i σ H->H T=none->g (.ref T) σ (upd H T (.tup [.int (i:Nat),x])) λσ2 ap=>cL {D with cG:=Pv (i+1),dP:=Pv (i+1),hI:=D.cG} σ2 ap) (hd:∀σ H,Pv xs.length σ H->D.cG σ H):
  ∃W:Nat->Nat->St->ah->Prop,(∃m,W 0 m σ H)/\∀i m σ H,W i m σ H->
   ((w' K a).stop i H/\D.cG σ H)\/((w' K a).go i H/\∃N:St->ah->Prop,(∀σ' ab,N σ' ab->∃cQ,cQ < m/\W (i+1) cQ σ' ab)/\∀x ab,(w' K a).p6 i H x ab->g x σ ab λσ2 ap=>cL {D with cG:=N,dP:=N,hI:=D.cG} σ2 ap):=by
 refine⟨λi m σ H=>m=xs.length - i/\i<=xs.length/\Pv i σ H,⟨xs.length,by simp,eY _,h0⟩,?_⟩;rintro i m σ H ⟨rfl,aR,p⟩;have q:=aC i σ H aR p;by_cases cO:i < xs.length
 ·refine .inr ⟨⟨xs,xs[i],q,by simp[cO]⟩,Pv (i+1),λσ' ab ef=>⟨xs.length - (i+1),by omega,rfl,cO,ef⟩,λv ab y=>?_⟩;obtain⟨T,x,rfl,bW,rfl,y⟩:=y;exact aD i x σ _ T (y xs q) p bW
 ·have e:i=xs.length:=by omega
  subst e;exact .inl ⟨⟨xs,q,b5 _⟩,hd σ H p⟩
end aB
namespace bf
open PySem PySem.Spec PyProof.Rows aB
open Sty (Bytes)
structure m9 (K:PySem.W.Frag)(ae:Str->Option af)(aT:U):Prop where
 cl:jI K aT
 ue:fY K aT "kinds"
 B9:fY K aT "behind"
 sv:fY K aT "ends"
 ze:fY K aT "kinds_by_look"
 kF:fY K aT "rows"
 B_:fY K aT "found"
 en:ae "enumerate"=none
 rj:ae "sorted"=none
abbrev gl (j:Nat):Stmt:=q1 (top 16) j
def pL {k:Nat}(au:c1 k A):A.units+2 < cLine:=by have:=au.un;omega
def Gi {k:Nat}(au:c1 k A):A.units+64 < cLine:=by have:=au.un;omega
inductive IB(P:bg)(w:bb)(aT ay:U)(vs:List V)(H:ah)(Q:cM)(_:fG):Prop|i(a6 aS:U)(F:ah)(s:Sty.Selector)(N:Nat)(_:vs=[.ref a6])(_:hG P w aT ay F H s a6 aS N)(_:aA F H)(_:∀p,F p=some (.tup (uK (Sty.weightOf s)))->Q (.ref p) H)
def ad0:c3 ahn ahn (ct (gl 1)):={}
def ab3 {P:bg}{w:bb}{K:PySem.W.Frag}{ae:Str->Option af}{base:a5}{ay aT:U}{f:U}{fd:b6}(T:m9 K ae aT)(F:dd K "greatest_weight" "Selector.greatest_weight" (gl 1) f fd):aQ P w K ae base bc 1 f fd ahn (IB P w aT ay):=by
 refine F.ok ad0 (λbU A outer s H vs Q E au h=>?_);obtain⟨a6,aS,F,bh,N,rfl,M,bQ,q⟩:=h;obtain⟨es,bH,bR,a9,aq,cJ,bS,rows,im,fQ,_,_⟩:=M.st;obtain⟨b,r,he⟩:=im.BQ.first im.fit.ne;obtain⟨bs,r7,qP⟩:=im.ends;rw[he,ck] at qP;cases qP with
 |@cons T2 _ KN _ bx bY=>obtain⟨c_,aa,ac⟩:=bx;refine⟨_,bo (cp (da la (da gk (bT (ag 0) rfl) bM (λ_ _=>rfl)) bM (λ_ _=>rfl))),?_⟩;exact⟨_,rfl,a6,aT,aq,_,_,rfl,fQ,T.cl,T.sv,QY,a9,_,0,_,rfl,rfl,bA.of (bQ _ _ r7),dT (j:=0) rfl,T2,_,0,_,rfl,rfl,c5.of (bQ _ _ aa),dT (j:=0) rfl,q c_ ac⟩
inductive Rf(aT ay:U)(vs:List V)(H:ah)(Q:cM)(_:fG):Prop|i(a6 aS bH bR a9 aq cJ bS:U)(F:ah)(s:Sty.Selector)(es:List (Sty.Weight×Nat))(re:Nat)(_:vs=[.ref a6,.int (re:Int)])(_:qs ay F s es bH bR a9)(_:H a6=some (.ins aT aq (g0 bH bR a9 aS cJ bS)))(_:aA F H)(_:Tm.mS es re=none->Q .b1 H)(_:∀fe p,Tm.mS es re=some fe->F p=some (.tup (uK fe))->Q (.ref p) H)
def Ih:c3 ["self","reached","weight","bits"] ahP (ct (gl 6)):={}
def aco {P:bg}{w:bb}{K:PySem.W.Frag}{ae:Str->Option af}{base:a5}{ay aT:U}{f:U}{fd:b6}(T:m9 K ae aT)(F:dd K "weight_where" "Selector.weight_where" (gl 6) f fd):aQ P w K ae base bc 1 f fd ahP (Rf aT ay):=by
 refine F.ok Ih (λbU A outer s H vs Q E au h=>?_);obtain⟨a6,aS,bH,bR,a9,aq,cJ,bS,F,bh,es,re,rfl,im,fQ,bQ,aX,bt⟩:=h;obtain⟨bs,r7,qP⟩:=im.ends;refine⟨_,a_ (lZ kS rfl (pZ (bT (ag 0) rfl)) (oI rfl (gY (fJ (i:=2) Ih.nd) (gY (fJ (i:=3) Ih.nd) oJ)))
  (bo (dh (eJ wc (eg wa (ag 1) (ag 3)) bM (d4 _)) (bo (cp (ag 2))) dn)))
  (bo (cp sG)),?_⟩
 refine⟨_,rfl,a6,aT,aq,_,_,rfl,fQ,T.cl,T.sv,QY,a9,rfl,⟨_,bA.of (bQ _ _ r7)⟩,r1 (K:=K) (a:=a9) (xs:=bs.map V.ref) (λi σ ab=>∃v2 gJ,σ=[some (.ref a6),some (.int (re:Int)),v2,gJ]/\ab=H/\∀e∈es.take i,re&&& e.2=0) ⟨none,none,rfl,rfl,by simp⟩ ?_ ?_ ?_⟩
 ·rintro i σ _ aR ⟨v2,gJ,rfl,rfl,ak⟩;exact bA.of (bQ _ _ r7)
 ·rintro i x σ _ aR ⟨v2,gJ,rfl,rfl,ak⟩;rw[hD] at aR;obtain⟨b,I,rfl⟩:=mX.mp aR;obtain⟨k,aw,bx⟩:=mJ qP I;rw[hD] at aw;obtain⟨e,he,rfl⟩:=mX.mp aw;obtain⟨c_,aa,ac⟩:=bx;refine⟨b,_,rfl,c5.of (bQ _ _ aa),rfl,?_⟩;refine⟨_,_,rfl,_,_,rfl,rfl,?_⟩;refine⟨_,rfl,_,rfl,_,_,rfl,rfl,rfl,_,rfl,?_⟩;have dG:Builtin.bitAnd (re:Int) (j8 e).b=((re&&& e.2:Nat):Int):=vc re e.2;by_cases hz:re&&& e.2=0
  ·refine df (by show(!decide (V.int (Builtin.bitAnd (re:Int) (j8 e).b)=V.int 0))=false;rw[dG,hz];rfl) ⟨_,_,rfl,rfl,?_⟩;intro bV iZ;rw[ko,he] at iZ;rcases di.mp iZ with h|h
   ·exact ak bV h
   ·rw[show bV=e by simpa using h];exact hz
  ·refine fB (by show(!decide (V.int (Builtin.bitAnd (re:Int) (j8 e).b)=V.int 0))=true;rw[dG,cW (by intro z;injection z with z;omega)];rfl) ⟨_,rfl,?_⟩;refine bt e.1 c_ ?_ ac;unfold Tm.mS;have aD:es=es.take i++e::es.drop (i+1):=by have cO:=(eX.mp he).1;have:=(eX.mp he).2;rw[<-this,<-wQ cO,Ah]
   have hf:es.find? (λe=>decide (re&&& e.2≠0))=some e:=by rw[List.find?_eq_some_iff_append];exact⟨ej hz,es.take i,es.drop (i+1),aD,λa al=>by rw[cW (by rw[ak a al];exact λz=>z rfl)];rfl⟩
   rw[hf];rfl
 ·rintro σ _ ⟨v2,gJ,rfl,rfl,ak⟩;refine aX ?_;unfold Tm.mS;have aC:(bs.map V.ref).length=es.length:=by rw[cc,fu qP,cc]
  rw[aC,lx] at ak;rw[sZ.mpr λe he=>by rw[cW (by rw[ak e he];exact λz=>z rfl)];exact gg];rfl
inductive Q9(aT ay:U)(vs:List V)(H:ah)(Q:cM)(_:fG):Prop|i(a6 aS bH bR a9 aq cJ bS:U)(F:ah)(s:Sty.Selector)(es:List (Sty.Weight×Nat))(a b c d:Nat)(_:vs=[.ref a6,.int (a:Int),.int (b:Int),.int (c:Int),.int (d:Int)])(_:qs ay F s es bH bR a9)(_:H a6=some (.ins aT aq (g0 bH bR a9 aS cJ bS)))(_:aA F H)(_:a < 2 ^ 300/\b < 2 ^ 300/\c < 2 ^ 300/\d < 2 ^ 300)(_:Q (eH (Tm.vb (Tm.cb s) a b c d)) H)
def C0:c3 ["self","above","parent","ahead","earlier","behind","by_tree","by_row"] ahz (ct (gl 4)):={}
def C9 {a:Nat}(h:a < 2 ^ 300):Jp (a:Int) 1:=⟨by decide,by decide,by
 rw[Int.natAbs_natCast];exact hl h (Nat.pow_le_pow_right (by decide) (by decide))⟩
def C7 (a:Nat):((a:Int) * (2:Int) ^ (1:Int).toNat)=((a <<< 1:Nat):Int):=C8 a 1
def abS {P:bg}{w:bb}{K:PySem.W.Frag}{ae:Str->Option af}{base:a5}{ay aT:U}{f:U}{fd:b6}(T:m9 K ae aT)(F:dd K "allowed" "Selector.allowed" (gl 4) f fd):aQ P w K ae base bc 1 f fd ahz (Q9 aT ay):=by
 refine F.ok C0 (λbU A outer s H vs Q E au h=>?_);obtain⟨a6,aS,bH,bR,a9,aq,cJ,bS,F,bh,es,a,b,c,d,rfl,im,fQ,bQ,⟨c',GL,lc,ld⟩,q⟩:=h;have aW:=kB au;have jN:=bQ _ _ im.KC;have get:∀lo,dy H bR (.str (gw lo)) (some (eH (Tm.behind (Tm.cb bh) lo))):=λlo=>by rw[<-EE];exact dy.k (k:=.inr (gw lo)) jN
 refine⟨_,a_ (cE (i:=5) C0.nd (bT (ag 0) rfl))
  (a_ (cE (i:=6) C0.nd (eg rb (eg wa (eg ur (ag 1) bM) (jz aW (ag 5) fq (λ_ _=>rfl))) (eg wa (eg ur (ag 2) bM) (jz aW (ag 5) fq (λ_ _=>rfl)))))
  (a_ (cE (i:=7) C0.nd (eg rb (eg wa (eg ur (ag 3) bM) (jz aW (ag 5) fq (λ_ _=>rfl))) (eg wa (eg ur (ag 4) bM) (jz aW (ag 5) fq (λ_ _=>rfl)))))
  (bo (cp (eg rb (eg rb (jz aW (ag 5) fq (λ_ _=>rfl)) (ag 6)) (ag 7)))))),?_⟩
 refine⟨_,rfl,a6,aT,aq,_,_,rfl,fQ,T.cl,T.B9,aem,?_⟩;refine⟨_,rfl,_,_,rfl,rfl,C9 c',_,rfl,bR,_,rfl,get (some .below),_,_,rfl,rfl,_,rfl,_,_,rfl,rfl,C9 GL,_,rfl,bR,_,rfl,get (some .child),_,_,rfl,rfl,_,_,rfl,rfl,?_⟩;refine⟨_,rfl,_,_,rfl,rfl,C9 lc,_,rfl,bR,_,rfl,get (some .next),_,_,rfl,rfl,_,rfl,_,_,rfl,rfl,C9 ld,_,rfl,bR,_,rfl,get (some .later),_,_,rfl,rfl,_,_,rfl,rfl,?_⟩;refine⟨_,rfl,bR,_,rfl,get none,_,rfl,_,_,rfl,rfl,_,rfl,_,_,rfl,rfl,?_⟩;unfold eH Tm.vb at q;rw[C7,C7,C7,C7,vc,vc,vc,vc,rd,rd,rd];show Q (.int (Builtin.bitOr _ _)) H;rw[rd];exact q
inductive ID(P:bg)(w:bb)(aT ay:U)(vs:List V)(H:ah)(Q:cM)(_:fG):Prop|i(a6 aS bH bR a9 aq cJ bS c':U)(F:ah)(s:Sty.Selector)(es:List (Sty.Weight×Nat))(L:Tm.Look)(N:Nat)(_:vs=[.ref a6,.ref c'])(_:qs ay F s es bH bR a9)(_:H a6=some (.ins aT aq (g0 bH bR a9 aS cJ bS)))(_:aA F H)(_:nV P w F H (Tm.cb s) aS N)(_:N < 1000000)(_:F aS=none)(_:hp F c' (iD L))(_:∀ab,de aS H ab->nV P w F ab (Tm.cb s) aS (N+1)->Q (eH (Tm.qy (Tm.cb s) L)) ab)
def zU:c3 ["self","look","bits","place","kind"] ahQ (ct (gl 5)):={}
def ZY (h:kD kvs k=some v):∃p∈kvs,p.1=k/\p.2.2=v:=by unfold kD at h;obtain⟨p,am,e⟩:=mX.mp h;exact⟨p,s9 am,by simpa using find?_some am,e⟩
def ZZ (h:kD kvs k=none):kD (kvs++[(k,b,v)]) k=some v:=by unfold kD at h ⊢;rw[Option.map_eq_none_iff] at h;rw[List.find?_append,h];simp
def ab6 {P:bg}{w:bb}{K:PySem.W.Frag}{ae:Str->Option af}{base:a5}{ay aT:U}{f ob:U}{fd oa:b6}(T:m9 K ae aT)(F:dd K "kinds_of_look" "Selector.kinds_of_look" (gl 5) f fd)(m1:cX K ae "is_of_kind" wq ahA ob oa)
  (G:aQ P w K ae base bc 4 ob oa ahA (sM ay false)):aQ P w K ae base bc 5 f fd ahQ (ID P w aT ay):=by
 refine F.ok zU (λbU A outer s H vs Q E au h=>?_);obtain⟨a6,aS,bH,bR,a9,aq,cJ,bS,c',F,bh,es,L,N,rfl,im,fQ,bQ,vC,c6,rZ,cT,q⟩:=h;obtain⟨kvs,j',qR,BA⟩:=vC;obtain⟨dY,NH,NG⟩:=im.kinds;have tV:=im.fit.len;refine⟨_,a_ (dh (jA (acF (pL au) (ag 1) (bT (ag 0) rfl)) (by with_unfolding_all rfl))
   (a_ (cE (i:=2) zU.nd bM)
   (a_ (lZ kS rfl (P_ (by rfl) T.en (aK (bT (ag 0) rfl) aY)) (oI rfl (gY (fJ (i:=3) zU.nd) (gY (fJ (i:=4) zU.nd) oJ)))
    (bo (dh (lk (hB G au rfl m1.ae m1.bu m1.bi .nil cA (aK (ag 4) (aK (ag 1) aY)))) (bo (cE (i:=2) zU.nd (eg rb (ag 2) (eg ur bM (ag 3))))) dn)))
   (bo (CC (ag 2) (Cy (bT (ag 0) rfl) (ag 1) (aej (pL au))))))) dn)
  (bo (cp (da (ZC (pL au)) (bT (ag 0) rfl) (ag 1) (λ_ _=>rfl)))),?_⟩
 have ol:∀{ab:ah},aA F ab->∀p∈kvs,hp ab p.2.1 p.1:=λbQ p am=>(BA p am).1.same bQ;refine⟨_,rfl,_,rfl,a6,aT,aq,_,_,rfl,fQ,T.cl,T.ze,C6,aS,kvs,c',iD L,rfl,j',ol bQ,rfl,cT.same bQ,_,rfl,?_⟩;cases Bn:kD kvs (iD L) with
 |some v=>refine eS ?_;refine⟨_,rfl,a6,aT,aq,_,_,rfl,fQ,T.cl,T.ze,C6,_,rfl,aS,kvs,c',iD L,v,rfl,j',ol bQ,rfl,cT.same bQ,Bn,?_⟩;obtain⟨p,am,aE,aL⟩:=ZY Bn;obtain⟨_,L',bI,gO⟩:=BA p am;rw[aE] at bI;rw[<-OP bI,aL] at gO;rw[gO];exact q H (de.refl _ _) ⟨kvs,j',by omega,BA⟩
 |none=>
  refine d3 ?_;refine⟨_,rfl,a6,aT,aq,_,_,rfl,fQ,T.cl,T.ue,aen,bH,dY,rfl,bA.of (bQ _ _ NH),Mk (K:=K) (a:=bH) (xs:=dY) (λi σ ab=>∃gJ v4,σ=[some (.ref a6),some (.ref c'),some (eH (Tm.mask (Tm.k' (Tm.cb bh) L) i)),gJ,v4]/\aA H ab) ⟨none,none,rfl,aA.refl _⟩ ?_ ?_ ?_⟩
  ·rintro i σ ab aR ⟨gJ,v4,rfl,s1⟩;exact bA.of (s1 _ _ (bQ _ _ NH))
  ·rintro i x σ ab pb aR ⟨gJ,v4,rfl,s1⟩ yo;obtain⟨kd,r9,Fx⟩:=mJ NG aR;rw[hD] at r9;obtain⟨pr,pK,rfl⟩:=mX.mp r9;have s2:aA H (upd ab pb (.tup [.int (i:Nat),x])):=s1.trans (aA.upd yo);refine⟨pb,_,rfl,c5.of aG,rfl,?_⟩;refine⟨_,_,rfl,_,_,rfl,rfl,?_⟩;refine⟨_,rfl,_,rfl,x,c',pr.2,L,rfl,Fx.same (bQ.trans s2),(λz=>by cases z),cT.same (bQ.trans s2),_,rfl,?_⟩;have NC:Tm.k' (Tm.cb bh) L i=Tm.lU L pr.2:=by unfold Tm.k';rw[pK]
   have cO:i < (Tm.cb bh).length:=(eX.mp pK).1;cases e:Tm.lU L pr.2 with
   |true=>
    refine d3 ?_;refine⟨_,rfl,_,rfl,_,_,rfl,rfl,⟨by omega,by omega,by decide⟩,_,_,rfl,rfl,some (.int (i:Nat)),some x,?_,s2⟩;have aL:Tm.mask (Tm.k' (Tm.cb bh) L) (i+1)=Tm.mask (Tm.k' (Tm.cb bh) L) i|||(1 <<< i):=by show(if Tm.k' (Tm.cb bh) L i=true then _ else _)=_;rw[NC,aV e]
    rw[aL];show[some (V.ref a6),some (V.ref c'),some (V.int (Builtin.bitOr ((Tm.mask (Tm.k' (Tm.cb bh) L) i:Nat):Int) (1 * 2 ^ ((i:Nat):Int).toNat))),some (V.int (i:Nat)),some x]=_;rw[show((1:Int) * (2:Int) ^ ((i:Nat):Int).toNat)=((1 <<< i:Nat):Int) from C8 1 i,rd];rfl
   |false=>
    refine eS ?_;refine⟨some (.int (i:Nat)),some x,?_,s2⟩;have aL:Tm.mask (Tm.k' (Tm.cb bh) L) (i+1)=Tm.mask (Tm.k' (Tm.cb bh) L) i:=by show(if Tm.k' (Tm.cb bh) L i=true then _ else _)=_;rw[NC,aN (by rw[e];exact gg)]
    rw[aL];rfl
  ·rintro σ ab ⟨gJ,v4,rfl,s1⟩;have d2:dY.length=(Tm.cb bh).length:=by rw[fu NG,cc]
   rw[d2];have s2:=bQ.trans s1;refine⟨_,rfl,_,rfl,a6,aT,aq,_,_,rfl,s1 _ _ fQ,T.cl,T.ze,C6,_,rfl,aS,kvs,c',iD L,rfl,s1 _ _ j',ol s2,rfl,cT.same s2,Bn,jP (by omega),?_⟩;have ne:a6≠aS:=fo fQ j' nofun;have cu:aA F (upd ab aS (.ext (lB P w aS (kvs++[(iD L,c',eH (Tm.mask (Tm.k' (Tm.cb bh) L) (Tm.cb bh).length))])))):=λb o e=>by rw[aj (a8 e rZ)];exact s2 b o e
   have fk:∀p∈kvs++[(iD L,c',eH (Tm.mask (Tm.k' (Tm.cb bh) L) (Tm.cb bh).length))],hp F p.2.1 p.1/\∃L,p.1=iD L/\p.2.2=eH (Tm.qy (Tm.cb bh) L):=λp am=>by
    rcases di.mp am with am|am
    ·exact BA p am
    ·rw[ec.mp am];exact⟨cT,L,rfl,rfl⟩
   refine⟨_,rfl,a6,aT,aq,_,_,rfl,by rw[aj ne];exact s1 _ _ fQ,T.cl,T.ze,C6,_,rfl,aS,_,c',iD L,_,rfl,aG,λp am=>(fk p am).1.same cu,rfl,cT.same cu,ZZ Bn,?_⟩;exact q _ (λb o e n=>by rw[aj n];exact s1 b o e) ⟨_,aG,by rw[dC];simp;omega,fk⟩
def gc (f:Tm.Cell->Nat)(cs:List Tm.Cell):List (Option Int×V):=(none,eH 0)::cs.map λc=>(some (c.num:Int),eH (f c))
def hO:Option Nat->Option Int
 |none=>none
 |some n=>some (n:Int)
def v' (o:Option Nat):oD o=ug (hO o):=by cases o<;>rfl
def Hd (hf:f ⟨0,0,0,0⟩=0)(h:∀n,o=some n->n∈cs.map (·.num)):ei (gc f cs) (hO o)=some (eH (f (Tm.f_ cs o))):=by
 cases o with
 |none=>show ei (gc f cs) none=some (eH (f ⟨0,0,0,0⟩));rw[hf];exact l5 rfl
 |some n=>
  have ak:=h n rfl;show ei (gc f cs) (some (n:Int))=some (eH (f ((cs.find? λc=>c.num==n).getD ⟨0,0,0,0⟩)));rw[show ei (gc f cs) (some (n:Int))=ei (cs.map λc=>(some (c.num:Int),eH (f c))) (some (n:Int)) from jH nofun];clear h hf
  induction cs with
  |nil=>simp at ak
  |cons c cs bE=>
   by_cases e:c.num=n
   ·rw[ck,l5 (by rw[e]),i',show(c.num==n)=true by simpa using e];rfl
   ·rw[ck,jH (by intro z;exact e (nG (dZ z))),i',show(c.num==n)=false by simpa using e];refine bE ?_;rw[ck,cr] at ak;rcases ak with z|z
    ·exact absurd z.symm e
    ·exact z
def aa2 (f:Tm.Cell->Nat)(cs:List Tm.Cell)(c:Tm.Cell):gc f (cs++[c])=gc f cs++[(some (c.num:Int),eH (f c))]:=by unfold gc;rw[hi];rfl
def zD [DecidableEq κ]{kvs:List (κ×V)}(h:k∉kvs.map (·.1)):fs kvs k v=kvs++[(k,v)]:=by unfold fs;rw[aN];intro z;obtain⟨p,am,e⟩:=oY.mp z;exact h (dp.mpr ⟨p,am,by simpa using e⟩)
def He {f:Tm.Cell->Nat}{cs:List Tm.Cell}{c:Tm.Cell}(h:c.num∉cs.map (·.num)):fs (gc f cs) (some (c.num:Int)) (eH (f c))=gc f (cs++[c]):=by
 rw[aa2,zD];unfold gc;rw[ck,cr,ff];rintro(z|z)
 ·cases z
 ·obtain⟨d,hd,e⟩:=dp.mp z;have e:(some (d.num:Int))=some (c.num:Int):=e;exact h (dp.mpr ⟨d,hd,nG (dZ e)⟩)
abbrev rz (F:ah)(kvs:List (Key×V))(bd:List (Nat×Sty.Weight)):Prop:=Paired (λ(bJ:Key×V) (f:Nat×Sty.Weight)=>bJ.1=.inl (f.1:Int)/\∃p,bJ.2=.ref p/\F p=some (.tup (uK f.2))) kvs bd
theorem rz.keys:∀{kvs:List (Key×V)} {bd:List (Nat×Sty.Weight)},rz F kvs bd->kvs.map (·.1)=bd.map λf=>(.inl (f.1:Int):Key)
 |_,_,.nil=>rfl
 |_,_,.cons r t=>by rw[ck,ck,rz.keys t,r.1]
def q3 (P:bg)(w:bb)(aa:X.prog=P)(ac:X.w=w):rE X (Qn P w):=by subst aa ac;exact ZD
def Il (P:bg)(w:bb)(aa:X.prog=P)(ac:X.w=w):AI X (Qo P w):=by subst aa ac;exact ael
def HF (P:bg)(w:bb)(aa:X.prog=P)(ac:X.w=w){j:Nat}(he:bl X e te):bl X (.Dict [some (.Constant .none j bu)] [e] pos) (Ru P w te):=by subst aa ac;exact acP he
inductive IK(P:bg)(w:bb)(aT ay:U)(vs:List V)(H:ah)(Q:cM)(_:fG):Prop|i(a6 aS bH bR a9 aq cJ bS eb:U)(F:ah)(s:Sty.Selector)(es:List (Sty.Weight×Nat))(rows:List Tm.Row)(N:Nat)(_:vs=[.ref a6,.ref eb])(_:qs ay F s es bH bR a9)(_:H a6=some (.ins aT aq (g0 bH bR a9 aS cJ bS)))(_:aA F H)(_:nV P w F H (Tm.cb s) aS N)(_:N+rows.length < 1000000)(_:F aS=none)(_:m8 F eb rows)(_:Tm.DL rows)(_:∀ab hr kvs,de aS H ab->nV P w F ab (Tm.cb s) aS (N+rows.length)->H hr=none->ab hr=some (.cq kvs)->rz F kvs (Tm.nD (Tm.cb s) es rows)->Q (.ref hr) ab)
def oM:c3 ["self","rows","reached","above","earlier","found","number","parent","ahead","look","allowed","weight"] ahv (ct (gl 3)):={}
def acf {P:bg}{w:bb}{K:PySem.W.Frag}{ae:Str->Option af}{base:a5}{ay aT:U}{f f4 eU xO:U}{fd n' lL xT:b6}(T:m9 K ae aT)(F:dd K "search" "Selector.search" (gl 3) f fd)
  (j2:cC K aT "allowed" "Selector.allowed" (gl 4) ahz f4 n') (j3:cC K aT "kinds_of_look" "Selector.kinds_of_look" (gl 5) ahQ eU lL) (tn:cC K aT "weight_where" "Selector.weight_where" (gl 6) ahP xO xT)
  (o8:aQ P w K ae base bc 5 eU lL ahQ (ID P w aT ay)):aQ P w K ae base bc 6 f fd ahv (IK P w aT ay):=by
 have rA:aQ P w K ae base bc 1 f4 n' ahz (Q9 aT ay):=abS T j2.fn;have DX:aQ P w K ae base bc 1 xO xT ahP (Rf aT ay):=aco T tn.fn;refine F.ok oM (λbU A outer s H vs Q E au h=>?_);obtain⟨a6,aS,bH,bR,a9,aq,cJ,bS,eb,F,bh,es,rows,N,rfl,im,fQ,bQ,vC,c6,rZ,⟨bC,nu,t5⟩,dU,q⟩:=h;have gu:c1 1 _:=au.mono (by omega);have aW:=kB au;have tV:=im.fit.len;refine⟨_,a_ (cE (i:=2) oM.nd (HF P w rfl rfl bM)) (a_ (cE (i:=3) oM.nd (HF P w rfl rfl bM)) (a_ (cE (i:=4) oM.nd (HF P w rfl rfl bM))
  (a_ (cE (i:=5) oM.nd Cx)
  (a_ (lZ kS rfl (pZ (ag 1)) (oI rfl (gY (fJ (i:=6) oM.nd) (gY (fJ (i:=7) oM.nd) (gY (fJ (i:=8) oM.nd) (gY (fJ (i:=9) oM.nd) oJ)))))
   (a_ (CC (eg rb (da (q3 P w rfl rfl) (ag 3) (ag 7) (λ_ _=>rfl)) (da (q3 P w rfl rfl) (ag 2) (ag 7) (λ_ _=>rfl))) (Cy (ag 3) (ag 6) (Il P w rfl rfl)))
   (a_ (CC (eg rb (da (q3 P w rfl rfl) (ag 4) (ag 8) (λ_ _=>rfl)) (da (q3 P w rfl rfl) (ag 2) (ag 8) (λ_ _=>rfl))) (Cy (ag 4) (ag 6) (Il P w rfl rfl)))
   (a_ (cE (i:=10) oM.nd (fC (ag 0) T.cl j2.dJ rA gu j2.bi .nil cA (aK (da (q3 P w rfl rfl) (ag 3) (ag 6) (λ_ _=>rfl)) (aK (da (q3 P w rfl rfl) (ag 2) (ag 7) (λ_ _=>rfl)) (aK (da (q3 P w rfl rfl) (ag 2) (ag 8) (λ_ _=>rfl)) (aK (da (q3 P w rfl rfl) (ag 4) (ag 6) (λ_ _=>rfl)) aY))))))
   (a_ (CC (eg wa (ag 10) (fC (ag 0) T.cl j3.dJ o8 au j3.bi .nil cA (aK (ag 9) aY))) (Cy (ag 2) (ag 6) (Il P w rfl rfl)))
   (a_ (cE (i:=11) oM.nd (fC (ag 0) T.cl tn.dJ DX gu tn.bi .nil cA (aK (da (q3 P w rfl rfl) (ag 2) (ag 6) (λ_ _=>rfl)) aY)))
   (bo (dh (jA (zv (ag 11))) (bo (wh aW (ag 5) (ag 6) (ag 11) rfl)) dn))))))))
  (bo (cp (ag 5))))))),?_⟩
 intro ax fl;refine⟨aG,?_⟩;rw[i_];intro ad vt;refine⟨aG,?_⟩;rw[i_];intro f5 tU;refine⟨aG,?_⟩;rw[i_];intro hr lO;have oA:ax≠ad:=λz=>by rw[z,aG] at vt;cases vt
 have aa:H ad=none:=by rw[aj oA.symm] at vt;exact vt
 have zj:ax≠f5/\ad≠f5/\H f5=none:=by
  by_cases cv:f5=ad
  ·rw[cv,aG] at tU;cases tU
  ·rw[aj cv] at tU;by_cases cx:f5=ax
   ·rw[cx,aG] at tU;cases tU
   ·rw[aj cx] at tU;exact⟨λz=>cx z.symm,λz=>cv z.symm,tU⟩
 obtain⟨zj,Ha,ac⟩:=zj;have h8:hr≠f5/\hr≠ad/\hr≠ax/\H hr=none:=by
  by_cases lu:hr=f5
  ·rw[lu,aG] at lO;cases lO
  ·rw[aj lu] at lO;by_cases cv:hr=ad
   ·rw[cv,aG] at lO;cases lO
   ·rw[aj cv] at lO;by_cases cx:hr=ax
    ·rw[cx,aG] at lO;cases lO
    ·rw[aj cx] at lO;exact⟨lu,cv,cx,lO⟩
 obtain⟨Hg,pU,vZ,av⟩:=h8;have Ye:∃o,H aS=some o:=by obtain⟨kvs,z,_⟩:=vC;exact⟨_,z⟩
 obtain⟨acp,qT⟩:=Ye;have v5:aS≠ax:=a8 qT fl;have uj:aS≠ad:=a8 qT aa;have Pq:aS≠f5:=a8 qT ac;have Hi:aS≠hr:=a8 qT av
 let Th:List Tm.Cell->ah->Prop:=λcs ab=>ab ax=some (.ext (fE P w ax (gc (·.re) cs)))/\ab ad=some (.ext (fE P w ad (gc (·.dO) cs)))/\ab f5=some (.ext (fE P w f5 (gc (·.a9) cs)))
 refine⟨_,rfl,eb,rfl,⟨bC,bA.of (show upd (upd (upd (upd H ax _) ad _) f5 _) hr _ eb=some (.lst bC) by
  have z:=bQ _ _ nu;rw[aj (a8 z av),aj (a8 z ac),aj (a8 z aa),aj (a8 z fl)];exact z)⟩,r1 (K:=K) (a:=eb) (xs:=bC) (λi σ ab=>∃v6 ig jG ro v10 v11 kvs,σ=[some (.ref a6),some (.ref eb),some (.ref ax),some (.ref ad),some (.ref f5),some (.ref hr),v6,ig,jG,ro,v10,v11]/\
   Th (Tm.cells (Tm.cb bh) (rows.take i)) ab/\de aS H ab/\nV P w F ab (Tm.cb bh) aS (N+i)/\ab hr=some (.cq kvs)/\rz F kvs (Tm.nD (Tm.cb bh) es (rows.take i))) ?_ ?_ ?_ ?_⟩
 ·refine⟨none,none,none,none,none,none,[],rfl,⟨?_,?_,?_⟩,λb o I _=>?_,vC.mono (aA.refl _) ?_ (b5 _),aG,.nil⟩
  ·rw[aj vZ.symm,aj zj,aj oA,aG];rfl
  ·rw[aj pU.symm,aj Ha,aG];rfl
  ·rw[aj Hg.symm,aG];rfl
  ·rw[aj (a8 I av),aj (a8 I ac),aj (a8 I aa),aj (a8 I fl)];exact I
  ·rw[aj Hi,aj Pq,aj uj,aj v5]
 ·rintro i σ ab aR ⟨v6,ig,jG,ro,v10,v11,kvs,rfl,_,bu,_,_,_⟩;exact bA.of (bu _ _ (bQ _ _ nu) (a8 nu rZ))
 ·rintro i x σ ab aR ⟨v6,ig,jG,ro,v10,v11,kvs,rfl,⟨iz,e2,fx⟩,bu,Bq,yi,kv⟩;obtain⟨r,i2,p,c',rfl,am,cT⟩:=mJ t5 aR;have cO:i < rows.length:=(eX.mp i2).1;have N6:rows=rows.take i++r::rows.drop (i+1):=by have:=(eX.mp i2).2;rw[<-this,<-wQ cO,Ah]
  obtain⟨qV,M8⟩:=dU.par _ r _ N6;have qZ:rows.take (i+1)=rows.take i++[r]:=by rw[ko,i2];rfl
  generalize k7:Tm.cells (Tm.cb bh) (rows.take i)=cs at iz e2 fx;have BF:cs.map (·.num)=(rows.take i).map (·.num):=by rw[<-k7,Tm.AZ]
  rw[<-BF] at qV M8;have F1:∀c∈cs,Tm.nW (Tm.cb bh).length c:=by rw[<-k7];exact Tm.Ut _ _
  generalize j_:Tm.l3 (Tm.cb bh) cs r=b7;have yD:b7.num=r.num:=by rw[<-j_];rfl
  have Nd:Tm.cells (Tm.cb bh) (rows.take (i+1))=cs++[b7]:=by rw[qZ,Tm.EQ,k7,j_]
  have yS:b7.num∉cs.map (·.num):=by rw[yD,BF];have nd:=dU.nd;rw[N6,hi,ck,jb] at nd;exact λz=>nd.2.2 _ z _ (dW ..) rfl
  have NJ:Tm.nW (Tm.cb bh).length b7:=by rw[<-j_];exact Tm.Rj F1 r
  have AS:∀{n:Nat},n < 2 ^ (Tm.cb bh).length->n < 2 ^ 300:=λh=>hl h (Nat.pow_le_pow_right (by decide) (by omega));have d2:∀(g:Tm.Cell->Nat),(gc g cs).length < sizeLine:=λg=>by
   have:cs.length=(rows.take i).length:=by have:=iM length BF;simpa using this
   have agt:=dU.len;have:cs.length<=128:=by rw[this,mW];omega
   refine jP ?_;unfold gc;rw[fK,cc];omega
  have Q6:aA F ab:=λb o e=>bu b o (bQ b o e) (a8 e rZ);have pH:=Q6 _ _ am;have Y1:ab a6=some (.ins aT aq (g0 bH bR a9 aS cJ bS)):=bu _ _ fQ (fo fQ qT (by
   obtain⟨kvs,z,_⟩:=vC;rw[qT] at z;cases z;intro z;cases z))
  refine⟨p,_,rfl,c5.of pH,rfl,?_⟩;refine⟨_,_,rfl,_,_,rfl,_,_,rfl,_,_,rfl,rfl,?_⟩;have Eu:∀(g:Tm.Cell->Nat),g ⟨0,0,0,0⟩=0->ei (gc g cs) (hO r.par)=some (eH (g (Tm.f_ cs r.par))):=λg bK=>Hd bK qV;have Es:∀(g:Tm.Cell->Nat),g ⟨0,0,0,0⟩=0->ei (gc g cs) (hO r.io)=some (eH (g (Tm.f_ cs r.io))):=λg bK=>Hd bK M8;refine⟨_,rfl,_,rfl,ad,_,hO r.par,_,rfl,e2,v' _,Eu (·.dO) rfl,_,rfl,_,rfl,ax,_,hO r.par,_,rfl,iz,v' _,Eu (·.re) rfl,_,_,rfl,rfl,_,rfl,_,rfl,ad,_,some (r.num:Int),rfl,e2,rfl,d2 _,?_⟩;have U8:V.int (Builtin.bitOr ((Tm.f_ cs r.par).dO:Int) ((Tm.f_ cs r.par).re:Int))=eH b7.dO:=by show V.int (Builtin.bitOr _ _)=_;rw[rd,<-j_];rfl
  rw[U8,<-yD,He (f:=λc=>c.dO) yS];generalize py:upd ab ad (.ext (fE P w ad (gc (·.dO) (cs++[b7]))))=H1;have M5:H1 ax=some (.ext (fE P w ax (gc (·.re) cs))):=by rw[<-py,aj oA];exact iz
  have W':H1 ad=some (.ext (fE P w ad (gc (·.dO) (cs++[b7])))):=by rw[<-py];exact aG
  have tN:H1 f5=some (.ext (fE P w f5 (gc (·.a9) cs))):=by rw[<-py,aj Ha.symm];exact fx
  refine⟨_,rfl,_,rfl,f5,_,hO r.io,_,rfl,tN,v' _,Es (·.a9) rfl,_,rfl,_,rfl,ax,_,hO r.io,_,rfl,M5,v' _,Es (·.re) rfl,_,_,rfl,rfl,_,rfl,_,rfl,f5,_,some (r.num:Int),rfl,tN,by rw[<-yD];rfl,d2 _,?_⟩;have U_:V.int (Builtin.bitOr ((Tm.f_ cs r.io).a9:Int) ((Tm.f_ cs r.io).re:Int))=eH b7.a9:=by show V.int (Builtin.bitOr _ _)=_;rw[rd,<-j_];rfl
  rw[U_,<-yD,He (f:=λc=>c.a9) yS];generalize js:upd H1 f5 (.ext (fE P w f5 (gc (·.a9) (cs++[b7]))))=ap;have Fy:ap ax=some (.ext (fE P w ax (gc (·.re) cs))):=by rw[<-js,aj zj];exact M5
  have MR:ap ad=some (.ext (fE P w ad (gc (·.dO) (cs++[b7])))):=by rw[<-js,aj Ha];exact W'
  have MT:ap f5=some (.ext (fE P w f5 (gc (·.a9) (cs++[b7])))):=by rw[<-js];exact aG
  have CZ:∀b o,H b=some o->ap b=ab b:=λb o I=>by rw[<-js,<-py,aj (a8 I ac),aj (a8 I aa)]
  have Q7:aA F ap:=λb o e=>by rw[CZ b o (bQ b o e)];exact Q6 b o e
  have k_:ap a6=some (.ins aT aq (g0 bH bR a9 aS cJ bS)):=by rw[CZ _ _ fQ];exact Y1
  have Et:∀(g:Tm.Cell->Nat),g ⟨0,0,0,0⟩=0->ei (gc g (cs++[b7])) (some (b7.num:Int))=some (eH (g b7)):=λg bK=>by have:=Hd (f:=g) (cs:=cs++[b7]) bK (o:=some b7.num) (by intro n e;cases e;simp);rw[Tm.Wl yS] at this;exact this
  have lowP:=Tm.Bi F1 r.par;have aai:=Tm.Bi F1 r.io;refine⟨_,rfl,a6,aq,_,rfl,k_,sL (by w_on) (by w_on) (by w_on) (by w_on) (by w_on) (by w_on),_,rfl,_,rfl,ad,_,some (b7.num:Int),_,rfl,MR,rfl,Et (·.dO) rfl,
   _,rfl,_,rfl,ax,_,hO r.par,_,rfl,Fy,v' _,Eu (·.re) rfl,_,rfl,_,rfl,ax,_,hO r.io,_,rfl,Fy,v' _,Es (·.re) rfl,_,rfl,_,rfl,f5,_,some (b7.num:Int),_,rfl,MT,rfl,Et (·.a9) rfl,?_⟩
  refine⟨a6,aS,bH,bR,a9,aq,cJ,bS,F,bh,es,b7.dO,(Tm.f_ cs r.par).re,(Tm.f_ cs r.io).re,b7.a9,rfl,im,k_,Q7,⟨AS NJ.2.1,AS lowP.1,AS aai.1,AS NJ.2.2⟩,?_⟩;have Xr:nV P w F ap (Tm.cb bh) aS (N+i):=Bq.mono (aA.refl _) (CZ _ _ qT) (b5 _);refine⟨_,rfl,_,rfl,a6,aq,_,rfl,k_,sL (by w_on) (by w_on) (by w_on) (by w_on) (by w_on) (by w_on),_,rfl,a6,aS,bH,bR,a9,aq,cJ,bS,c',F,bh,es,r.look,N+i,rfl,im,k_,Q7,Xr,by omega,rZ,cT,λbz hu Xs=>?_⟩;have Fz:=hu _ _ Fy v5.symm;have Ft:=hu _ _ MR uj.symm;have Xg:=hu _ _ MT Pq.symm;refine⟨_,_,rfl,rfl,_,rfl,_,rfl,ax,_,some (b7.num:Int),rfl,Fz,rfl,d2 _,?_⟩;have Vt:V.int (Builtin.bitAnd ((Tm.vb (Tm.cb bh) b7.dO (Tm.f_ cs r.par).re (Tm.f_ cs r.io).re b7.a9:Nat):Int) ((Tm.qy (Tm.cb bh) r.look:Nat):Int))=eH b7.re:=by show V.int (Builtin.bitAnd _ _)=_;rw[vc,<-j_];rfl
  rw[Vt,He (f:=λc=>c.re) yS];generalize qJ:upd bz ax (.ext (fE P w ax (gc (·.re) (cs++[b7]))))=c4;have FA:c4 ax=some (.ext (fE P w ax (gc (·.re) (cs++[b7])))):=by rw[<-qJ];exact aG
  have MS:c4 ad=some (.ext (fE P w ad (gc (·.dO) (cs++[b7])))):=by rw[<-qJ,aj oA.symm];exact Ft
  have MU:c4 f5=some (.ext (fE P w f5 (gc (·.a9) (cs++[b7])))):=by rw[<-qJ,aj zj.symm];exact Xg
  have kb:de aS H c4:=λb o I n=>by rw[<-qJ,aj (a8 I fl)];exact hu b o (by rw[CZ b o I];exact bu b o I n) n
  have aex:aA F c4:=λb o e=>kb b o (bQ b o e) (a8 e rZ);have Y2:a6≠aS:=fo fQ qT (by
   obtain⟨kvs,z,_⟩:=vC;rw[qT] at z;cases z;intro z;cases z)
  have N3:c4 a6=some (.ins aT aq (g0 bH bR a9 aS cJ bS)):=kb _ _ fQ Y2;have Ny:c4 hr=some (.cq kvs):=by rw[<-qJ,aj vZ];refine hu _ _ ?_ Hi.symm;rw[<-js,<-py,aj Hg,aj pU];exact yi
  have M1:nV P w F c4 (Tm.cb bh) aS (N+(i+1)):=Xs.mono (aA.refl _) (by rw[<-qJ,aj v5]) (by omega);have yZ:=Tm.aeD (Tm.cb bh) es (rows.take i) r;rw[<-qZ,k7,j_] at yZ;refine⟨_,rfl,a6,aq,_,rfl,N3,sL (by w_on) (by w_on) (by w_on) (by w_on) (by w_on) (by w_on),_,rfl,_,rfl,ax,_,some (b7.num:Int),_,rfl,FA,rfl,Et (·.re) rfl,
   a6,aS,bH,bR,a9,aq,cJ,bS,F,bh,es,b7.re,rfl,im,N3,aex,λhw=>?_,λfe wp hw pM=>?_⟩
  ·
   rw[hw] at yZ;refine⟨_,rfl,_,rfl,eS ?_⟩;refine⟨_,_,_,_,_,_,kvs,rfl,?_,kb,M1,Ny,?_⟩
   ·rw[Nd];exact⟨FA,MS,MU⟩
   ·rw[yZ,l7];exact kv
  ·rw[hw] at yZ;refine⟨_,rfl,_,rfl,d3 ?_⟩;have FX:kvs.length<=128:=by rw[fu kv];have aa:=(Tm.Rg (Tm.cb bh) es (rows.take i)).length_le;rw[cc,cc,mW] at aa;have:=dU.len;omega
   refine⟨_,rfl,_,rfl,_,rfl,hr,_,rfl,mc.k (k:=.inl (b7.num:Int)) Ny (jP (by omega)),?_⟩;have yW:fs kvs (.inl (b7.num:Int)) (.ref wp)=kvs++[(.inl (b7.num:Int),.ref wp)]:=zD (by
    rw[kv.keys];intro z;obtain⟨g,bK,e⟩:=dp.mp z;have e:g.1=b7.num:=by injection e with e;exact nG e
    have:=(Tm.Rg (Tm.cb bh) es (rows.take i)).subset (o1 (f:=λg:Nat×Sty.Weight=>g.1) bK);rw[e,<-BF] at this;exact yS this)
   rw[yW];refine⟨_,_,_,_,_,_,kvs++[(.inl (b7.num:Int),.ref wp)],rfl,?_,λb o I n=>?_,M1.mono (aA.refl _) (aj Hi) (b5 _),aG,?_⟩
   ·rw[Nd];exact⟨by rw[aj vZ.symm];exact FA,by rw[aj pU.symm];exact MS,by rw[aj Hg.symm];exact MU⟩
   ·rw[aj (a8 I av)];exact kb b o I n
   ·rw[yZ];exact oH kv ⟨by rw[yD],wp,rfl,pM⟩
 ·rintro σ ab ⟨v6,ig,jG,ro,v10,v11,kvs,rfl,_,bu,Bq,yi,kv⟩;rw[fu t5] at Bq kv;rw[lx] at kv;exact⟨_,rfl,q ab hr kvs bu Bq av yi kv⟩
def ih (M:List U)(H ab:ah):Prop:=∀b o,H b=some o->b∉M->ab b=some o
def ih.refl (M:List U)(H:ah):ih M H H:=λ_ _ h _=>h
def ih.trans (a:ih M H H1)(b:ih M H1 ap):ih M H ap:=λc o h n=>b c o (a c o h n) n
def ih.mono (a:ih M H ab)(h:∀b∈M,b∈u3):ih u3 H ab:=λc o e n=>a c o e λz=>n (h c z)
def aA.bu (a:aA H ab):ih M H ab:=λc o h _=>a c o h
inductive wy(P:bg)(w:bb)(aT ay:U)(vs:List V)(H:ah)(Q:cM)(_:fG):Prop|i(a6 aS eb:U)(F:ah)(s:Sty.Selector)(rows:List Tm.Row)(N:Nat)(_:vs=[.ref a6,.ref eb])(_:hG P w aT ay F H s a6 aS N)(_:aA F H)(_:F a6=none)(_:F aS=none)(_:N+128 < 1000000)(_:m8 F eb rows)(_:Tm.DL rows)(_:∀ab es bS,Tm.tm s es->ih [a6,aS] H ab->(∀br,aA F br->aA (Diff H ab) br->hG P w aT ay br ab s a6 aS (N+128)/\m4 br bS (Tm.nD (Tm.cb s) es rows))->Q (.ref bS) ab)
def aeb:c3 ahv ahv (ct (gl 2)):={}
def ack {P:bg}{w:bb}{K:PySem.W.Frag}{ae:Str->Option af}{base:a5}{ay aT:U}{f d8:U}{fd rV:b6}(T:m9 K ae aT)(F:dd K "weights" "Selector.weights" (gl 2) f fd)(m6:cC K aT "search" "Selector.search" (gl 3) ahv d8 rV)
  (tl:aQ P w K ae base bc 6 d8 rV ahv (IK P w aT ay)):aQ P w K ae base bc 7 f fd ahv (wy P w aT ay):=by
 refine F.ok aeb (λbU A outer s H vs Q E au h=>?_);obtain⟨a6,aS,eb,F,bh,rows,N,rfl,M,bQ,agq,rZ,c6,iz,eB,q⟩:=h;obtain⟨es,bH,bR,a9,aq,cJ,bS,lm,im,fQ,qL,Xi⟩:=M.st;refine⟨_,a_ (dh (eJ (acu (Gi au)) (ag 1) (bT (ag 0) rfl) (d4 _)) (a_ (gZ (ag 0) (fC (ag 0) T.cl m6.dJ tl au m6.bi .nil cA (aK (ag 1) aY)) rfl) (bo (gZ (ag 0) (ag 1) rfl))) dn)
  (bo (cp (bT (ag 0) rfl))),?_⟩
 refine⟨_,rfl,_,rfl,a6,aT,aq,_,_,rfl,fQ,T.cl,T.kF,aeq,_,_,Lj (iz.same bQ),Lj (qL.same bQ),Q0 _,Q0 _,_,rfl,?_⟩;rw[Vn];by_cases he:rows=lm
 ·subst he;refine df (by simp) ?_;refine⟨_,rfl,a6,aT,aq,_,_,rfl,fQ,T.cl,T.B_,QZ,?_⟩;exact q H es bS im.BQ (ih.refl _ _) λbr cu _=>⟨M.mono cu rfl rfl (by omega),Xi.same cu⟩
 ·refine fB (by rw[cW he];rfl) ?_;have d2:=eB.len;refine⟨_,rfl,a6,aq,_,rfl,fQ,sL (by w_on) (by w_on) (by w_on) (by w_on) (by w_on) (by w_on),_,rfl,a6,aS,bH,bR,a9,aq,cJ,bS,eb,F,bh,es,rows,N,rfl,im,fQ,bQ,M.dD,by omega,rZ,iz,eB,λH1 hr kvs dI Xq lO X6 kv=>?_⟩;obtain⟨OB,k8,_⟩:=M.dD;have PD:a6≠aS:=fo fQ k8 nofun;have mC:=dI _ _ fQ PD;have aa6:hr≠a6:=λz=>by rw[z,fQ] at lO;cases lO
  refine⟨_,rfl,a6,aT,aq,_,rfl,mC,T.cl,T.B_,by show 6 < 1000;decide,?_⟩;rw[aeo];refine⟨_,rfl,_,rfl,a6,aT,aq,_,rfl,aG,T.cl,T.kF,by show 6 < 1000;decide,?_⟩;rw[aep,i_];refine⟨_,rfl,a6,aT,aq,_,_,rfl,aG,T.cl,T.B_,QZ,?_⟩;refine q _ es hr im.BQ (λb o I n=>?_) λbr cu rh=>?_
  ·rw[cr,ec,hn] at n;rw[aj n.1];exact dI b o I n.2
  ·have X5:br hr=some (.cq kvs):=rh _ _ (iX lO (by rw[aj aa6];exact X6));have MV:m4 br hr (Tm.nD (Tm.cb bh) es rows):=⟨kvs,X5,Paired.gH kv λ_ _ ⟨cv,p,cx,gm⟩=>⟨cv,p,cx,cu _ _ gm⟩⟩;exact⟨⟨⟨es,bH,bR,a9,aq,eb,hr,rows,im.same cu,aG,iz.same cu,MV⟩,Xq.mono cu (aj PD.symm) (by omega)⟩,MV⟩
def pq (e:Sty.Weight×Nat):List Key×V:=DB (j8 e)
def jV (fe:Sty.Weight):List Key:=[.inl (fe.1:Int),.inl (fe.2:Int)]
def E3 (e:Sty.Weight×Nat):pq e=(jV e.1,eH e.2):=rfl
def Je (h:jV a=jV b):a=b:=by obtain⟨a1,a2⟩:=a;obtain⟨gM,gD⟩:=b;unfold jV at h;injection h with aa ac;injection ac with ac _;injection aa with aa;injection ac with ac;have aa:a1=gM:=nG aa;have ac:a2=gD:=nG ac;rw[aa,ac]
theorem LC:∀(es:List (Sty.Weight×Nat)) (fe:Sty.Weight),ei (es.map pq) (jV fe)=(es.find? λe=>decide (e.1=fe)).map λe=>eH e.2
 |[],_=>rfl
 |e::es,fe=>by
  rw[ck,i'];by_cases h:e.1=fe
  ·rw[E3,l5 (by show jV e.1=jV fe;rw[h]),ej h];rfl
  ·rw[E3,jH (by intro z;exact h (Je z)),cW h];exact LC es fe
def Vg (nd:(es.map (·.1)).Nodup)(fe:Sty.Weight)(b:Nat):fs (es.map pq) (jV fe) (eH ((((es.find? λe=>decide (e.1=fe)).map (·.2)).getD 0)|||b))=(Tm.lE es fe b).map pq:=by
 have Nb:((es.map pq).any λbJ=>decide (bJ.1=jV fe))=es.any λe=>decide (e.1=fe):=by
  rw[List.any_map]
  congr 1
  funext e
  show decide (jV e.1=jV fe)=decide (e.1=fe);by_cases h:e.1=fe
  ·rw[ej h,ej (by rw[h])]
  ·rw[cW h,cW λz=>h (Je z)]
 unfold fs Tm.lE;rw[Nb];by_cases al:(es.any λe=>decide (e.1=fe))=true
 ·rw[aV al,aV al,ff,ff];refine kP λe he=>?_;show(if jV e.1=jV fe then(jV e.1,_) else pq e)=pq (if e.1=fe then(e.1,e.2|||b) else e);by_cases h:e.1=fe
  ·rw[aV (by rw[h]),aV h,E3];have hf:es.find? (λe=>decide (e.1=fe))=some e:=by
    subst h;clear Nb al
    induction es with
    |nil=>simp at he
    |cons x es bE=>
     rw[ck,hk] at nd;rw[i'];rcases cr.mp he with rfl|he
     ·simp
     ·have b9:x.1≠e.1:=λz=>nd.1 (by rw[z];exact o1 he);rw[cW b9];exact bE nd.2 he
   rw[hf];rfl
  ·rw[aN λz=>h (Je z),aN h]
 ·rw[aN al,aN al,hi];have hf:es.find? (λe=>decide (e.1=fe))=none:=sZ.mpr λe he z=>al (oY.mpr ⟨e,he,z⟩);rw[hf]
  congr 1
  show[(jV fe,eH (0|||b))]=[pq (fe,b)];rw[Nat.zero_or];rfl
def T9 (aZ:Tm.eG)(p:Option Sty.Link×Sty.Kind):fs (n6 aZ) (.inr (gw p.1)) (eH (Tm.behind aZ p.1|||(1 <<< aZ.length)))=n6 (aZ++[p]):=by
 obtain⟨lo,k⟩:=p;have eA:∀(x y:Str),decide (x=y)=false->¬((.inr x:Key)=.inr y):=λx y h z=>by injection z with z;exact tf h z
 have any:((n6 aZ).any λbJ=>decide (bJ.1=.inr (gw lo)))=true:=by
  have h:(ei (n6 aZ) (.inr (gw lo))).isSome=true:=by rw[EE];rfl
  rw[<-z7] at h;exact h
 unfold fs;rw[aV any];unfold n6;simp only[ck,p_,Tm.T_];cases lo with
 |none=>simp[gw,q7,eA _ _ (show decide ((" ":Str)="")=false by w_on),eA _ _ (show decide ((">":Str)="")=false by w_on),eA _ _ (show decide (("+":Str)="")=false by w_on),eA _ _ (show decide (("~":Str)="")=false by w_on)]
 |some l=>
  cases l with
  |below=>simp[gw,q7,eA _ _ (show decide (("":Str)=" ")=false by w_on),eA _ _ (show decide ((">":Str)=" ")=false by w_on),eA _ _ (show decide (("+":Str)=" ")=false by w_on),eA _ _ (show decide (("~":Str)=" ")=false by w_on)]
  |child=>simp[gw,q7,eA _ _ (show decide (("":Str)=">")=false by w_on),eA _ _ (show decide ((" ":Str)=">")=false by w_on),eA _ _ (show decide (("+":Str)=">")=false by w_on),eA _ _ (show decide (("~":Str)=">")=false by w_on)]
  |next=>simp[gw,q7,eA _ _ (show decide (("":Str)="+")=false by w_on),eA _ _ (show decide ((" ":Str)="+")=false by w_on),eA _ _ (show decide ((">":Str)="+")=false by w_on),eA _ _ (show decide (("~":Str)="+")=false by w_on)]
  |later=>simp[gw,q7,eA _ _ (show decide (("":Str)="~")=false by w_on),eA _ _ (show decide ((" ":Str)="~")=false by w_on),eA _ _ (show decide ((">":Str)="~")=false by w_on),eA _ _ (show decide (("+":Str)="~")=false by w_on)]
def sU (k:cm.iN):Sty.Weight×Nat:=((k.t.toNat,k.g.toNat),k.b.toNat)
def RN (e:Sty.Weight×Nat):sU (j8 e)=e:=by obtain⟨⟨a,b⟩,c⟩:=e;simp[sU,j8]
def aez (am:dY.Perm ((Tm.tF s).map j8))(hd:dY.Pairwise λa b=>cm.ku a b=false):∃es,dY=es.map j8/\Tm.tm s es:=by
 have aE:(dY.map sU).map j8=dY:=by
  rw[ff]
  conv=>rhs;rw[<-s8 dY]
  refine kP λk aw=>?_;obtain⟨e,_,rfl⟩:=dp.mp (am.mem_iff.mp aw);show j8 (sU (j8 e))=j8 e;rw[RN]
 refine⟨dY.map sU,aE.symm,?_,?_⟩
 ·have:=am.map sU;rw[ff] at this;rw[show(sU ∘ j8)=id from funext RN,s8] at this;exact this
 ·have vu:((dY.map sU).map j8).Pairwise λa b=>cm.ku a b=false:=by rw[aE];exact hd
  rw[w0] at vu;refine Pairwise.imp (λ{a b} h=>?_) vu;unfold cm.ku j8 at h;have h:=tf h;simp only at h;unfold Tm.B3;exact cW (by omega)
section
variable {P:bg}{w:bb}{K:PySem.W.Frag}{ae:Str->Option af}{base:a5}{CX ay aJ aT cF cZ:U}
def JM (G H ab:ah)(aS:U)(jJ:ah):Prop:=aA G jJ/\(∀b o,H b=none->b≠aS->ab b=some o->jJ b=some o)/\∀b xs,ab b=some (.tup xs)->jJ b=some (.tup xs)
inductive IJ(P:bg)(w:bb)(aT ay:U)(vs:List V)(H:ah)(Q:cM)(_:fG):Prop|i(a aq:U)(EW:V)(s:Sty.Selector)(G:ah)(_:vs=[.ref a,EW])(_:H a=some (.ins aT aq []))(_:aA G H)(_:G a=none)(_:Km ay G EW s)(_:Tm.w8 s)(_:∀ab es bH bR a9 aS cJ bS,de a H ab->ab a=some (.ins aT aq (g0 bH bR a9 aS cJ bS))->ab aS=some (.ext (lB P w aS []))->H aS=none->(∀jJ,JM G H ab aS jJ->qs ay jJ s es bH bR a9/\m8 jJ cJ []/\m4 jJ bS [])->Q .b1 ab)
def wu:c3 ["self","chains","ends","chain","link","kind","weight"] ahN (ct (gl 0)):={}
def nj (bH bR:U):List (Str×V):=[("kinds",.ref bH),("behind",.ref bR)]
def Fm:(nj bH bR).lookup ("kinds":Str)=some (.ref bH):=iC
def Mt:(nj bH bR).lookup ("behind":Str)=some (.ref bR):=(dV (by w_on)).trans iC
def acM (P:bg)(w:bb)(aa:X.prog=P)(ac:X.w=w):bl X (.Dict [] [] pos) (Rr P w):=by subst aa ac;exact acL
structure ts (ay aT:U)(G H:ah)(a aq bH bR d:U)(aZ:Tm.eG)(es:List (Sty.Weight×Nat))(ab:ah):Prop where
 ou:ab a=some (.ins aT aq (nj bH bR))
 BP:∃kvs,ab bH=some (.lst kvs)/\Paired (jg ay G) kvs (aZ.map (·.2))
 y2:ab bR=some (.cq (n6 aZ))
 id:ab d=some (.e1 (es.map pq))
 old:de a H ab
def ts.same (h:ts ay aT G H a aq bH bR d aZ es H1)(e:aA H1 ap):ts ay aT G H a aq bH bR d aZ es ap:=by obtain⟨kvs,cP,bX⟩:=h.BP;exact⟨e _ _ h.ou,⟨kvs,e _ _ cP,bX⟩,e _ _ h.y2,e _ _ h.id,h.old.trans (aA.keep e)⟩
def abM (T:m9 K ae aT)(fN:g8 K ae CX ay aJ cF cZ)(F:dd K "__init__" "Selector.__init__" (gl 0) f fd)(e9:cX K ae "weight_of_chain" zS ["chain"] r2 rY)
  (D5:aQ P w K ae base bc 2 r2 rY ["chain"] (IP ay)):aQ P w K ae base bc 3 f fd ahN (IJ P w aT ay):=by
 refine F.ok wu (λbU A outer s H vs Q E au h=>?_);obtain⟨a,aq,EW,bh,G,rfl,al,zM,ga,⟨ca,EV,rfl,e3,Ng⟩,tV,q⟩:=h;have aW:=kB au;refine⟨_,a_ (gZ (ag 0) (dL aY) rfl)
  (a_ (gZ (ag 0) (P5 (ux fq bM (ux fq bM (ux fq bM (ux fq bM (ux fq bM HJ))))) rfl rfl nofun (by decide)) rfl)
  (a_ (cE (i:=2) wu.nd acI)
  (a_ (lZ kS rfl (pZ (ag 1)) (fJ (i:=3) wu.nd)
   (a_ (lZ kS rfl (pZ (ag 3)) (oI rfl (gY (fJ (i:=4) wu.nd) (gY (fJ (i:=5) wu.nd) oJ)))
    (a_ (wh aW (bT (ag 0) rfl) (ag 4) (eg rb (jz aW (bT (ag 0) rfl) (ag 4) (λ_ _=>rfl)) (eg ur bM (gX j6 (by rfl) fN.len jd (aK (bT (ag 0) rfl) aY)))) rfl)
    (bo (hQ (lh kR mY nK nz (bT (ag 0) rfl) (aK (ag 5) aY))))))
   (a_ (cE (i:=6) wu.nd (hB D5 au rfl e9.ae e9.bu e9.bi .nil cA (aK (ag 3) aY)))
   (bo (wh aW (ag 2) (ag 6) (eg rb (acH aW (ag 2) (ag 6) bM ⟨rfl,rfl,rfl,rfl⟩) (eg ur bM (eg zp (gX j6 (by rfl) fN.len jd (aK (bT (ag 0) rfl) aY)) bM))) rfl)))))
  (a_ (gZ (ag 0) (acR (by rfl) T.rj (Gi au) rfl (P4 plainAttrs_dict PySem.F.slot_dict_items PySem.F.type_dict_items aaQ (ag 2))) rfl)
  (a_ (gZ (ag 0) (acM P w rfl rfl) rfl)
  (a_ (gZ (ag 0) (dL aY) rfl)
  (bo (gZ (ag 0) Cx rfl)))))))),?_⟩
 refine⟨cH 0,λbH yL=>⟨_,rfl,a,aT,aq,[],rfl,by rw[aj (a8 al yL)];exact al,T.cl,T.ue,by show 0 < 1000;decide,?_⟩⟩;intro bR jN;have uj:bH≠a:=(a8 al yL).symm;have vW:bR≠a:=λz=>by rw[z,aG] at jN;cases jN
 have Bs:(upd H bH (.lst [])) bR=none:=by rw[aj vW] at jN;exact jN
 have Cc:bR≠bH:=λz=>by rw[z,aG] at Bs;cases Bs
 have FH:H bR=none:=by rw[aj Cc] at Bs;exact Bs
 refine⟨aG,[(.inr "",.int 0),(.inr " ",.int 0),(.inr ">",.int 0),(.inr "+",.int 0),(.inr "~",.int 0)],rfl,by decide,?_⟩;rw[i_,show vV [] [(.inr "",.int 0),(.inr " ",.int 0),(.inr ">",.int 0),(.inr "+",.int 0),(.inr "~",.int 0)]=n6 [] by w_on];refine⟨_,rfl,a,aT,aq,_,rfl,by rw[aj vW.symm];exact aG,T.cl,T.B9,by show 1 < 1000;decide,?_⟩;intro d hd;have Va:dw "behind" (.ref bR) (dw "kinds" (.ref bH) [])=nj bH bR:=by show dw "behind" (.ref bR) [("kinds",.ref bH)]=_;rw[pY (by w_on)];rfl
 rw[Va] at hd ⊢;have sx:d≠a:=λz=>by rw[z,aG] at hd;cases hd
 rw[aj sx] at hd;have Ce:d≠bR:=λz=>by rw[z,aG] at hd;cases hd
 rw[aj Ce,aj sx] at hd;have Cf:d≠bH:=λz=>by rw[z,aG] at hd;cases hd
 rw[aj Cf] at hd;generalize qI:upd (upd (upd (upd (upd H bH (.lst [])) a (.ins aT aq (dw "kinds" (.ref bH) []))) bR (.cq (n6 []))) a (.ins aT aq (nj bH bR))) d (.e1 [])=bz;have iP:ts ay aT G H a aq bH bR d [] [] bz:=by rw[<-qI];refine⟨by rw[aj sx.symm];exact aG,⟨[],by rw[aj Cf.symm,aj uj,aj Cc.symm,aj uj];exact aG,.nil⟩,by rw[aj Ce.symm,aj vW];exact aG,aG,λb o I n=>?_⟩;rw[aj (a8 I hd),aj n,aj (a8 I FH),aj n,aj (a8 I yL)];exact I
 have vo:∀{aZ es ab},ts ay aT G H a aq bH bR d aZ es ab->aA G ab:=λJ b o e=>J.old b o (zM b o e) (a8 e ga);have FX:(Tm.cb bh).length<=257:=tV.len;refine⟨_,rfl,ca,rfl,⟨EV,bA.of (vo iP _ _ e3)⟩,r1 (K:=K) (a:=ca) (xs:=EV) (λi σ ab=>∃gJ v4 e7 v6,σ=[some (.ref a),some (.ref ca),some (.ref d),gJ,v4,e7,v6]/\ts ay aT G H a aq bH bR d (Tm.cb (bh.take i)) (Tm.iu bh i) ab) ⟨none,none,none,none,rfl,iP⟩ ?_ ?_ ?_⟩
 ·rintro i σ ab aR ⟨gJ,v4,e7,v6,rfl,J⟩;exact bA.of (vo J _ _ e3)
 ·rintro i x σ ab aR ⟨gJ,v4,e7,v6,rfl,J⟩;obtain⟨c,ai,eB⟩:=mJ Ng aR;have Xa:=eB;obtain⟨xF,HN,rfl,Nf,NY⟩:=eB;have yC:c∈bh:=l9 ai;have jt:HN.length=(Tm.fD c).length:=fu NY;have hle:(Tm.cb (bh.take i)).length+(Tm.fD c).length<=257:=by
   have e:=Tm.BW bh ai;have aL:(Tm.cb bh).length=(Tm.cb (bh.take (i+1))).length+(Tm.cb (bh.drop (i+1))).length:=by
    conv=>lhs;rw[<-Ah (i+1) bh]
    unfold Tm.cb;rw[oZ,dC]
   rw[e,dC] at aL;omega
  refine⟨_,rfl,xF,rfl,⟨HN,bA.of (vo J _ _ Nf)⟩,r1 (K:=K) (a:=xF) (xs:=HN) (λj σ ab=>∃v4 e7,σ=[some (.ref a),some (.ref ca),some (.ref d),some (.ref xF),v4,e7,v6]/\ts ay aT G H a aq bH bR d (Tm.cb (bh.take i)++(Tm.fD c).take j) (Tm.iu bh i) ab) ⟨v4,e7,rfl,by rw[List.take_zero,l7];exact J⟩ ?_ ?_ ?_⟩
  ·rintro j σ H1 bF ⟨v4,e7,rfl,aP⟩;exact bA.of (vo aP _ _ Nf)
  ·rintro j x σ H1 bF ⟨v4,e7,rfl,aP⟩;obtain⟨pr,pK,p,bJ,rfl,am,d9⟩:=mJ NY bF;have pK:(Tm.fD c)[j]? =some pr:=pK;have ND:j < (Tm.fD c).length:=(eX.mp pK).1;obtain⟨kvs,j',qR⟩:=aP.BP;generalize r9:Tm.cb (bh.take i)++(Tm.fD c).take j=kd at aP qR;have BC:kvs.length=kd.length:=by rw[fu qR,cc]
   have agC:kd.length<=257:=by rw[<-r9,dC,mW];omega
   have F6:Tm.cb (bh.take i)++(Tm.fD c).take (j+1)=kd++[pr]:=by rw[ko,pK,<-wP,r9];rfl
   refine⟨p,_,rfl,c5.of (vo aP _ _ am),rfl,?_⟩;refine⟨_,_,rfl,_,_,rfl,rfl,?_⟩;have fy:dy H1 bR (.str (gw pr.1)) (some (eH (Tm.behind kd pr.1))):=by rw[<-EE kd pr.1];exact dy.k (k:=.inr (gw pr.1)) aP.y2
   refine⟨_,rfl,a,aT,aq,_,_,rfl,aP.ou,T.cl,T.B9,Mt,_,rfl,bR,_,rfl,fy,_,rfl,a,aT,aq,_,_,rfl,aP.ou,T.cl,T.ue,Fm,bH,kvs,rfl,.inl (bA.of j'),_,_,rfl,rfl,⟨by omega,by omega,by decide⟩,_,_,rfl,rfl,
    _,rfl,a,aT,aq,_,_,rfl,aP.ou,T.cl,T.B9,Mt,_,rfl,bR,_,rfl,mc.k (k:=.inr (gw pr.1)) aP.y2 (jP (by show 5<=1000000;decide)),?_⟩
   have ev:V.int (Builtin.bitOr ((Tm.behind kd pr.1:Nat):Int) (1 * 2 ^ ((kvs.length:Nat):Int).toNat))=eH (Tm.behind kd pr.1|||(1 <<< kd.length)):=by show V.int (Builtin.bitOr _ _)=_;rw[show((1:Int) * (2:Int) ^ ((kvs.length:Nat):Int).toNat)=((1 <<< kvs.length:Nat):Int) from C8 1 kvs.length,rd,BC];rfl
   rw[ev,T9];have sz:bH≠bR:=Cc.symm;refine⟨_,rfl,a,aT,aq,_,_,rfl,by rw[aj vW.symm];exact aP.ou,T.cl,T.ue,Fm,.inl ⟨rfl,_,bA.of (by rw[aj sz];exact j')⟩,_,rfl,bH,_,_,rfl,rfl,by rw[aj sz];exact j',jP (by omega),?_⟩;refine⟨some (.str (gw pr.1)),some bJ,rfl,?_⟩;rw[F6];refine⟨by rw[aj uj.symm,aj vW.symm];exact aP.ou,⟨kvs++[bJ],aG,?_⟩,by rw[aj Cc];exact aG,by rw[aj Cf,aj Ce];exact aP.id,λb o I n=>?_⟩
   ·rw[hi];exact oH qR d9
   ·rw[aj (a8 I yL),aj (a8 I FH)];exact aP.old b o I n
  ·rintro σ H1 ⟨v4,e7,rfl,aP⟩;rw[jt,lx,<-Tm.BW bh ai] at aP;refine⟨_,rfl,.ref xF,c,rfl,Xa.same (vo aP),λp am=>tV.tests c yC p am,λgi wp aew agJ pM=>?_⟩;have j1:=aP.same aew;obtain⟨kvs,j',qR⟩:=j1.BP;have BC:kvs.length=(Tm.cb (bh.take (i+1))).length:=by rw[fu qR,cc]
   have FU:1<=kvs.length/\kvs.length<=257:=by rw[BC,Tm.BW bh ai,dC];have:=Tm.uy c;omega
   have bK:dy gi d (.ref wp) (((Tm.iu bh i).find? λe=>decide (e.1=c.weight)).map λe=>eH e.2):=by rw[<-LC];exact dy.t (k:=jV c.weight) j1.id pM
   have Vb:((((Tm.iu bh i).find? λe=>decide (e.1=c.weight)).map λe=>eH e.2).getD (.int 0))=V.int ((((((Tm.iu bh i).find? λe=>decide (e.1=c.weight)).map (·.2)).getD 0:Nat)):Int):=by
    cases (Tm.iu bh i).find? λe=>decide (e.1=c.weight) with
    |none=>rfl
    |some e=>rfl
   have agy:=Tm.LA bh i;have vz:i < bh.length:=(eX.mp ai).1;have se:=Tm.ZS bh;refine⟨_,rfl,d,rfl,.inr ⟨_,.inl j1.id⟩,_,rfl,_,bK,_,rfl,a,aT,aq,_,_,rfl,j1.ou,T.cl,T.ue,Fm,bH,kvs,rfl,.inl (bA.of j'),_,_,rfl,rfl,_,_,rfl,rfl,⟨by omega,by omega,by decide⟩,_,_,Vb,rfl,
    _,rfl,_,rfl,d,_,rfl,mc.t (k:=jV c.weight) j1.id pM (by rw[cc];exact jP (by omega)),?_⟩
   have ev:V.int (Builtin.bitOr ((((((Tm.iu bh i).find? λe=>decide (e.1=c.weight)).map (·.2)).getD 0:Nat)):Int) (1 * 2 ^ (((kvs.length:Nat):Int) - 1).toNat))=eH ((((Tm.iu bh i).find? λe=>decide (e.1=c.weight)).map (·.2)).getD 0|||(1 <<< ((Tm.cb (bh.take (i+1))).length - 1))):=by show V.int (Builtin.bitOr _ _)=_;rw[show(((kvs.length:Nat):Int) - 1)=((kvs.length - 1:Nat):Int) by omega,show((1:Int) * (2:Int) ^ ((kvs.length - 1:Nat):Int).toNat)=((1 <<< (kvs.length - 1):Nat):Int) from C8 1 _,rd,BC];rfl
   have fx:Tm.nP ((Tm.gq 0 bh).take i) (Tm.iu bh i):=by have:=Tm.nP.all ((Tm.gq 0 bh).take i) [] [] ⟨by simp,λe he=>by simp at he,λp am=>by simp at am⟩;exact this
   refine⟨some (.ref xF),v4,e7,some (.ref wp),rfl,?_⟩;rw[Tm.LB bh ai];refine⟨by rw[aj sx.symm];exact j1.ou,⟨kvs,by rw[aj Cf.symm];exact j',qR⟩,by rw[aj Ce.symm];exact j1.y2,?_,λb o I n=>by rw[aj (a8 I hd)];exact j1.old b o I n⟩;rw[aG,<-Vg fx.nd];exact iM (λv=>some (c0.e1 (fs ((Tm.iu bh i).map pq) (jV c.weight) v))) ev
 ·rintro σ ab ⟨gJ,v4,e7,v6,rfl,J⟩;have dU:EV.length=bh.length:=fu Ng;rw[dU,lx,Tm.Vf] at J;refine⟨_,rfl,.inr (.inr (.inl ⟨rfl,.inr ⟨_,J.id⟩⟩)),d,_,rfl,rfl,J.id,λr a'=>?_⟩;have s1:aA ab (upd ab r (.ext (u_ r d))):=aA.upd a';have aP:=J.same s1;refine⟨r,d,(Tm.tF bh).map j8,rfl,aG,by rw[ff];exact aP.id,λap bs dY l jD i1 aC vE qX Xh=>?_⟩;obtain⟨es,rfl,tP⟩:=aez vE qX;have bP:=aP.same jD;have zh:l≠a:=(a8 aP.ou i1).symm;refine⟨_,rfl,a,aT,aq,_,rfl,bP.ou,T.cl,T.sv,by show 2 < 1000;decide,?_⟩;intro aS k8;have v3:aS≠a:=λz=>by rw[z,aG] at k8;cases k8
  rw[aj v3] at k8;refine⟨_,rfl,a,aT,aq,_,rfl,by rw[aj v3.symm];exact aG,T.cl,T.ze,by show 3 < 1000;decide,?_⟩;refine⟨cH 0,λcJ oo=>?_⟩;have oA:cJ≠a:=λz=>by rw[z,aG] at oo;cases oo
  rw[aj oA] at oo;have Hm:cJ≠aS:=λz=>by rw[z,aG] at oo;cases oo
  rw[aj Hm,aj oA] at oo;refine⟨_,rfl,a,aT,aq,_,rfl,by rw[aj oA.symm];exact aG,T.cl,T.kF,by show 4 < 1000;decide,?_⟩;intro bS i0;have pU:bS≠a:=λz=>by rw[z,aG] at i0;cases i0
  rw[aj pU] at i0;have vZ:bS≠cJ:=λz=>by rw[z,aG] at i0;cases i0
  rw[aj vZ,aj pU] at i0;have Hh:bS≠aS:=λz=>by rw[z,aG] at i0;cases i0
  rw[aj Hh,aj pU] at i0;refine⟨_,rfl,a,aT,aq,_,rfl,by rw[aj pU.symm];exact aG,T.cl,T.B_,by show 5 < 1000;decide,?_⟩;have yT:∀{b},ap b=none->b≠a->H b=none:=λ{b} I n=>by
   cases e:H b with
   |none=>rfl
   |some o=>rw[bP.old b o e n] at I;cases I
  obtain⟨kvs,j',qR⟩:=bP.BP;have keep:∀{b o},ap b=some o->b≠a->(upd (upd (upd (upd (upd (upd (upd ap a (.ins aT aq (dw "ends" (.ref l) (nj bH bR)))) aS (.ext (lB P w aS []))) a (.ins aT aq (dw "kinds_by_look" (.ref aS) (dw "ends" (.ref l) (nj bH bR))))) cJ (.lst [])) a (.ins aT aq (dw "rows" (.ref cJ) (dw "kinds_by_look" (.ref aS) (dw "ends" (.ref l) (nj bH bR)))))) bS (.cq []))
    a (.ins aT aq (dw "found" (.ref bS) (dw "rows" (.ref cJ) (dw "kinds_by_look" (.ref aS) (dw "ends" (.ref l) (nj bH bR))))))) b=some o:=λ{b o} I n=>by
   rw[aj n,aj (a8 I i0),aj n,aj (a8 I oo),aj n,aj (a8 I k8),aj n];exact I
  refine q _ es bH bR l aS cJ bS (λb o I n=>keep (bP.old b o I n) n) ?_ ?_ (yT k8 v3) λjJ yj=>?_
  ·rw[aG]
   congr 2
  ·rw[aj v3,aj Hh.symm,aj v3,aj Hm.symm,aj v3];exact aG
  ·obtain⟨g1,g2,g3⟩:=yj;have new:∀{b o},ap b=some o->b≠a->H b=none->jJ b=some o:=λ{b o} I n h0=>g2 b o h0 (a8 I k8) (keep I n);have tup:∀{b xs},ap b=some (.tup xs)->jJ b=some (.tup xs):=λ{b xs} I=>g3 b xs (keep I (fo I bP.ou nofun));refine⟨⟨⟨kvs,new j' uj yL,Paired.gH qR λ_ _ z=>z.same g1⟩,new bP.y2 vW FH,⟨bs,new aC zh ?_,?_⟩,tP,tV⟩,⟨[],?_,.nil⟩,⟨[],?_,.nil⟩⟩
   ·have:ab l=none:=s1.free i1;cases e:H l with
    |none=>rfl
    |some o=>rw[J.old l o e zh] at this;cases this
   ·refine Paired.gH Xh λb k z=>?_;obtain⟨c_,cv,cx,gm⟩:=z;exact⟨c_,tup cx,tup (jD _ _ gm)⟩
   ·refine g2 cJ _ (yT oo oA) Hm ?_;rw[aj oA,aj vZ.symm,aj oA];exact aG
   ·refine g2 bS _ (yT i0 pU) Hh ?_;rw[aj pU];exact aG
end
end bf
namespace aB
open PySem PySem.Spec PyProof.Rows
def dd.abG {P:bg}{w:bb}{K:PySem.W.Frag}{ae:Str->Option af}{base:a5}{CX:hT}{x qual:Str}{st:Stmt}{f:U}{fd:b6}{N ps:List Str}{k:Nat}{sp:cD}(F:dd K x qual st f fd)(S:c3 N ps (ct st))
  (tR:∀(bU:af) (A:cU) (outer:List Env) (s:ar) (H:ah) (vs:List V) (Q:cM) (E:fG),c1 k (A.deeper (envOfC qual (ct st) s.heap.objs.size f bU))->sp vs H Q E->
   ∃t,e_ (j7 CX P w K ae base N qual (ct st) f bU A outer s H E) (kt st) t/\t {cG:=λ_ ab=>Q .b1 ab,ia:=Q} (start N vs) H)
  (len:∀vs H Q E,sp vs H Q E->vs.length=ps.length:=by intro vs H Q E h;cases h;subst_vars;rfl):aQ P w K ae base CX (k+1) f fd ps sp:=by
 obtain⟨hP,c9,cV,doc,pm,an,bU,dP,kH,rfl,dD,lN⟩:=F.ex;exact Ff dD lN S len λA outer s H vs Q E au lT=>tR bU A outer s H vs Q E au lT
end aB
namespace bf
open PySem PySem.Spec PyProof.Rows aB
open Sty (Bytes)
def Ti (P:bg)(w:bb)(aT ay:U)(H ab:ah)(s:Sty.Selector)(a6 aS:U):Prop:=∀jJ,(∀b o,H b=none->b≠a6->b≠aS->ab b=some o->jJ b=some o)->(∀b xs,ab b=some (.tup xs)->jJ b=some (.tup xs))->hG P w aT ay jJ ab s a6 aS 0
abbrev zQ:Stmt:=top 17
inductive Dk(P:bg)(w:bb)(CX du aT ay:U)(vs:List V)(H:ah)(Q:cM)(E:fG):Prop|i(aF:U)(t:Bytes)(_:vs=[.ref aF])(_:H aF=some (.lst (t.map bv)))(_:256 < t.length->∀ab a,aA H ab->ab a=some (.ext (k0 du a none))->E (.ref du) (some a) ab)(_:t.length<=256->∀s,Sty.readSel t=.ok s->∀ab a6 aS,aA H ab->H a6=none->H aS=none->a6≠aS->Ti P w aT ay H ab s a6 aS->Q (.ref a6) ab)(_:t.length<=256->∀j,Sty.readSel t=.error j->JG CX H E j)
def ad9:c3 ahJ ahJ (ct zQ):={}
abbrev Al (P:bg)(w:bb)(du CX:U):hT:=Am P w λc=>c=du\/c=CX
def ach {P:bg}{w:bb}{K:PySem.W.Frag}{ae:Str->Option af}{base:a5}{CX ay aJ aT du cF cZ jo:U}{f bd:U}{fd rX L0:b6}{k:Nat}(aw:4<=k)(fN:g8 K ae CX ay aJ cF cZ)(D:cX K ae "selector_of" zQ ahJ f fd)(nO:cX K ae "read_selector" CW ahJ bd rX)
  (qO:pg K du) (sq:ae "TextTooLong"=some (.ref du)) (aaF:∃t,ae "MOST_BYTES"=some (.int 256 t)) (B7:ae "Selector"=some (.ref aT)) (Tb:jL K aT jo) (pi:Binds K L0 ahN [])
  (Si:aQ P w K ae base bc 3 jo L0 ahN (IJ P w aT ay)) (w_:aQ P w K ae base (eL P w CX) k bd rX ahJ (IM CX ay)):
  aQ P w K ae base (Al P w du CX) (k+1) f fd ahJ (Dk P w CX du aT ay):=by
 refine D.fn.abG ad9 (λbU A outer s H vs Q E au h=>?_);obtain⟨aF,t,rfl,ka,cP,bX,dX⟩:=h;obtain⟨Uj,XJ⟩:=aaF;have YO:c1 4 _:=au.mono aw;refine⟨_,a_ (dh (eJ Ht (gX j6 (by rfl) fN.len jd (aK (ag 0) aY)) (hg (v:=.int 256) rfl XJ ⟨Uj,rfl⟩) (d4 _)) (bo (Qg (C:=du) (λh J=>qO.z9 h J) (RD λz=>⟨du,.inl rfl,z⟩) rfl (acO qO rfl sq))) dn)
  (bo (cp (sF Tb Si YO rfl B7 pi .nil cA (aK (hB w_ au rfl nO.ae nO.bu nO.bi .nil (Hz (C:=CX) λz=>⟨CX,.inr rfl,z⟩) (aK (ag 0) aY)) aY)))),?_⟩
 refine⟨_,rfl,aF,_,rfl,.inl (bA.of ka),_,_,rfl,rfl,_,rfl,?_⟩;rw[cc];by_cases aC:256 < t.length
 ·refine fB (ej (by omega)) ?_;intro a al;refine⟨a,none,rfl,aG,?_⟩;rw[i_];exact cP aC _ a (aA.upd al) aG
 ·have aC:t.length<=256:=by omega
  refine df (cW (by omega)) ?_;refine⟨_,rfl,aF,t,rfl,ka,aC,λbh aD H1 v uF Xy=>?_,λj bF=>dX aC j bF⟩;intro x aq ao iY b9;have tV:=Tm.Qw aC aD;have vJ:H x=none:=uF.free ao;have ib:aA H1 (upd (upd H1 aq (.own x)) x (.ins aT aq [])):=λb o e=>by rw[aj (a8 e ao),aj (a8 e iY)];exact e
  refine⟨x,aq,v,bh,Diff H H1,rfl,aG,UV.trans ib,?_,Xy,tV,λab es bH bR a9 aS cJ bS bu vI k8 FV yj=>?_⟩
  ·unfold Diff;rw[vJ];exact ao
  ·refine⟨rfl,?_⟩;have my:H1 aS=none:=ib.free FV;have np:H aS=none:=uF.free my;have Ho:x≠aS:=λz=>by rw[<-z,aG] at FV;cases FV
   have aev:aA H ab:=λb o e=>bu b o (ib b o (uF b o e)) (a8 e vJ);refine bX aC bh aD ab x aS aev vJ np Ho λjJ g1 g2=>?_;have Xj:JM (Diff H H1) (upd (upd H1 aq (.own x)) x (.ins aT aq [])) ab aS jJ:=by
    refine⟨λb o e=>?_,λb o aE aL bI=>?_,g2⟩
    ·obtain⟨aE,aL⟩:=mH e;have Bt:b≠x:=a8 aL ao;exact g1 b o aE Bt (a8 aL my) (bu b o (ib b o aL) Bt)
    ·have Bt:b≠x:=λz=>by rw[z,aG] at aE;cases aE
     exact g1 b o ((uF.trans ib).free aE) Bt aL bI
   obtain⟨cv,cx,gm⟩:=yj jJ Xj;exact⟨⟨es,bH,bR,a9,aq,cJ,bS,[],cv,vI,cx,gm⟩,[],k8,eY _,λp am=>by simp at am⟩
def Jc [DecidableEq κ]{kvs:List (κ×V)}:(ei kvs k).isSome=true↔k∈kvs.map (·.1):=by
 rw[<-z7,oY,dp];constructor
 ·rintro⟨p,aa,ac⟩;exact⟨p,aa,by simpa using ac⟩
 ·rintro⟨p,aa,ac⟩;exact⟨p,aa,by simpa using ac⟩
def cf (n:Nat):Key:=.inl (n:Int)
def y1 {a b:Nat}(h:cf a=cf b):a=b:=by injection h with h;exact nG h
def vU {l:List Nat}{n:Nat}:cf n∈l.map cf↔n∈l:=by
 rw[dp];constructor
 ·rintro⟨a,aa,ac⟩;rw[<-y1 ac];exact aa
 ·exact λh=>⟨n,h,rfl⟩
section
variable {P:bg}{w:bb}{K:PySem.W.Frag}{ae:Str->Option af}{base:a5}{CX ay aJ aT du aO aM cF cZ jo:U}
abbrev zO:Stmt:=top 28
inductive IE (vs:List V)(H:ah)(Q:cM)(_:fG):Prop|i(d:U)(f:Nat)(kvs:List (Key×V))(l:List Nat)(_:vs=[.ref d,.int (f:Int)])(_:H d=some (.cq kvs))(_:kvs.map (·.1)=l.map cf)(_:∀k,Tm.xg l f k->Q (.int (k:Int)) H)
def Ib:c3 ["taken","first","number"] ahF (ct zO):={}
def PP (D:cX K ae "least_free" zO ahF f fd):aQ P w K ae base bc 1 f fd ahF IE:=by
 refine D.fn.ok Ib (λbU A outer s H vs Q E au h=>?_);obtain⟨d,f,kvs,l,rfl,hd,aw,q⟩:=h;have aW:=kB au;refine⟨_,a_ (cE (i:=2) Ib.nd (ag 1)) (a_ (sI kS (jA (HA aW (ag 2) (ag 0)) (by with_unfolding_all rfl)) (bo (HM (i:=2) Ib.nd bM Gs))) (bo (cp (ag 2)))),?_⟩;refine⟨_,rfl,?_⟩;refine⟨λm σ ab=>∃n,m=f+l.length+1 - n/\σ=[some (.ref d),some (.int (f:Int)),some (.int (n:Int))]/\ab=H/\f<=n/\∀j,f<=j->j < n->j∈l,⟨_,f,rfl,rfl,rfl,b5 _,λj aa ac=>by omega⟩,?_⟩;rintro m σ _ ⟨n,rfl,rfl,rfl,yI,fk⟩;refine⟨_,rfl,_,rfl,d,_,rfl,dy.k (k:=cf n) hd,_,rfl,?_⟩;by_cases ak:n∈l
 ·refine fB (by rw[Jc,aw,vU];exact ak) ⟨_,λ_ _ z=>z,?_⟩;refine⟨_,rfl,_,_,rfl,rfl,?_⟩;have cO:n < f+l.length+1:=by
   by_cases z:n < f+l.length+1
   ·exact z
   ·exfalso;have aD:range' f (l.length+1) ⊆ l:=λj bF=>by obtain⟨i,aR,rfl⟩:=wY.mp bF;exact fk _ (by omega) (by omega)
    have:=(List.nodup_range' (s:=f) (n:=l.length+1) (step:=1)).length_le_of_subset aD;rw[List.length_range'] at this;omega
  refine⟨f+l.length+1 - (n+1),by omega,n+1,rfl,?_,rfl,by omega,λj aa ac=>?_⟩
  ·show[some (V.ref d),some (V.int (f:Int)),some (V.int ((n:Int)+1))]=_
   push_cast
   rfl
  ·by_cases e:j=n
   ·rw[e];exact ak
   ·exact fk j aa (by omega)
 ·refine df (by rw[Bool.eq_false_iff];exact λz=>ak (vU.mp (aw▸Jc.mp z))) ⟨_,rfl,q n ⟨yI,ak,fk⟩⟩
structure el where
 na:U
 ca:U
 cl:U
def h8 (tag par:V)(ca cl:U):List (Str×V):=[("tag",tag),("parent",par),("children",.ref ca),("classes",.ref cl)]
def aa5:(h8 tag par ca cl).lookup ("tag":Str)=some tag:=iC
def vY:(h8 tag par ca cl).lookup ("parent":Str)=some par:=(dV (by w_on)).trans iC
def ui:(h8 tag par ca cl).lookup ("children":Str)=some (.ref ca):=(dV (by w_on)).trans ((dV (by w_on)).trans iC)
def Po:(h8 tag par ca cl).lookup ("classes":Str)=some (.ref cl):=(dV (by w_on)).trans ((dV (by w_on)).trans ((dV (by w_on)).trans iC))
def bj (n:Nat):V:=.int (n:Int)
def h9 (n:Sty.Node):V:=if n.parent=n.id then .b1 else bj n.parent
def ir (l:List Nat):List (Key×V):=l.map λk=>(cf k,.bL true)
structure Kg (aO:U)(F H:ah)(W:Sty.State)(n:Sty.Node)(l:el):Prop where
 ins:∃aq,F l.na=some (.ins aO aq (h8 (bj n.tag) (h9 n) l.ca l.cl))
 ch:H l.ca=some (.lst ((Sty.children W n.id).map bj))
 cs:H l.cl=some (.cq (ir n.classes))
def lW (W:Sty.State)(L:Nat->el):List (Key×V):=W.nodes.map λn=>(cf n.id,.ref (L n.id).na)
structure h1 (aM aO:U)(F H:ah)(W:Sty.State)(L:Nat->el)(a4 nd:U):Prop where
 a4:∃aq,F a4=some (.ins aM aq [("nodes",.ref nd)])
 nd:H nd=some (.cq (lW W L))
 nodes:∀n∈W.nodes,Kg aO F H W n (L n.id)
def dg (W:Sty.State)(L:Nat->el)(nd:U):List U:=nd::W.nodes.flatMap λn=>[(L n.id).ca,(L n.id).cl]
structure n0 (aM aO:U)(F H:ah)(W:Sty.State)(L:Nat->el)(a4 nd:U):Prop where
 at_:h1 aM aO F H W L a4 nd
 wf:Tm.bD W
 bQ:aA F H
 off:∀b∈dg W L nd,F b=none
 un:(dg W L nd).Nodup
structure rG (aM aO:U)(F H:ah)(W:Sty.State)(L:Nat->el)(a4 nd:U)(cz:Sty.State)(L':Nat->el)(ab:ah):Prop where
 bu:ih (dg W L nd) H ab
 un:(dg cz L' nd).Nodup
 new:∀b∈dg cz L' nd,(b∈dg W L nd\/H b=none)/\ab b≠none
 eM:∀b,H b≠none->ab b≠none
 at_:∀br,aA F br->(∀b o,H b=none->b∉dg cz L' nd->ab b=some o->br b=some o)->h1 aM aO br ab cz L' a4 nd
def jQ:b∈dg W L nd↔b=nd\/∃n∈W.nodes,b=(L n.id).ca\/b=(L n.id).cl:=by unfold dg;rw[cr,l8];simp
def h1.there {F H:ah}{W:Sty.State}{L:Nat->el}{a4 nd:U}(h:h1 aM aO F H W L a4 nd):∀b∈dg W L nd,∃o,H b=some o/\∀xs,o≠.tup xs:=by
 intro b I;rcases jQ.mp I with rfl|⟨n,ak,rfl|rfl⟩
 ·exact⟨_,h.nd,λxs z=>by cases z⟩
 ·exact⟨_,(h.nodes n ak).ch,λxs z=>by cases z⟩
 ·exact⟨_,(h.nodes n ak).cs,λxs z=>by cases z⟩
def n0.hS (T:n0 aM aO F H W L a4 nd)(e:aA H ab):rG aM aO F H W L a4 nd W L ab:=by
 refine⟨aA.bu e,T.un,λb I=>⟨.inl I,?_⟩,λb I=>?_,λbr cu _=>?_⟩
 ·obtain⟨o,aI,_⟩:=T.at_.there b I;rw[e _ _ aI];nofun
 ·cases z:H b with
  |none=>exact absurd z I
  |some o=>rw[e _ _ z];nofun
 ·obtain⟨aq,aa⟩:=T.at_.a4;refine⟨⟨aq,cu _ _ aa⟩,e _ _ T.at_.nd,λn ak=>?_⟩;have N:=T.at_.nodes n ak;obtain⟨aq,ac⟩:=N.ins;exact⟨⟨aq,cu _ _ ac⟩,e _ _ N.ch,e _ _ N.cs⟩
structure lD (K:PySem.W.Frag)(ae:Str->Option af)(aM aO eO:U)(fP:b6):Prop where
 gE:jI K aM
 iV:jI K aO
 h5:fY K aM "nodes"
 Pa:fY K aO "tag"
 uf:fY K aO "parent"
 su:fY K aO "children"
 G6:fY K aO "classes"
 B6:ae "Node"=some (.ref aO)
 O8:jL K aO eO
 KD:Binds K fP ahB []
 root:∃t,ae "ROOT"=some (.int 0 t)
 aaM:∃t,ae "MOST_NODES"=some (.int 128 t)
 GY:∃t,ae "MOST_CLASSES"=some (.int 16 t)
abbrev H':Stmt:=q1 (top 37) 0
abbrev et (j:Nat):Stmt:=q1 (top 38) j
inductive Dc(aO:U)(vs:List V)(H:ah)(Q:cM)(_:fG):Prop|i(a aq:U)(dS ag:V)(_:vs=[.ref a,dS,ag])(_:H a=some (.ins aO aq []))(_:∀ab ca cl,H ca=none->H cl=none->ca≠cl->ab ca=some (.lst [])->ab cl=some (.cq [])->ab a=some (.ins aO aq (h8 dS ag ca cl))->(∀b,b≠a->b≠ca->b≠cl->ab b=H b)->Q .b1 ab)
def ad2:c3 ahB ahB (ct H'):={}
def abJ (T:lD K ae aM aO eO fP)(F:dd K "__init__" "Node.__init__" H' eO fd):aQ P w K ae base bc 1 eO fd ahB (Dc aO):=by
 refine F.ok ad2 (λbU A outer s H vs Q E au h=>?_);obtain⟨a,aq,dS,ac9,rfl,al,q⟩:=h;refine⟨_,a_ (gZ (ag 0) (ag 1) rfl) (a_ (gZ (ag 0) (ag 2) rfl) (a_ (gZ (ag 0) (dL aY) rfl) (bo (gZ (ag 0) Cx rfl)))),?_⟩;refine⟨_,rfl,_,rfl,a,aO,aq,_,rfl,al,T.iV,T.Pa,by show 0 < 1000;decide,?_⟩;refine⟨_,rfl,_,rfl,a,aO,aq,_,rfl,aG,T.iV,T.uf,by show 1 < 1000;decide,?_⟩;rw[i_];refine⟨cH 0,λca e3=>?_⟩;have uh:ca≠a:=λz=>by rw[z,aG] at e3;cases e3
 rw[aj uh] at e3;refine⟨_,rfl,a,aO,aq,_,rfl,by rw[aj uh.symm];exact aG,T.iV,T.su,by show 2 < 1000;decide,?_⟩;intro cl dU;have Cd:cl≠a:=λz=>by rw[z,aG] at dU;cases dU
 rw[aj Cd] at dU;have Hj:cl≠ca:=λz=>by rw[z,aG] at dU;cases dU
 rw[aj Hj,aj Cd] at dU;refine⟨_,rfl,a,aO,aq,_,rfl,by rw[aj Cd.symm];exact aG,T.iV,T.G6,by show 3 < 1000;decide,?_⟩;refine q _ ca cl e3 dU Hj.symm ?_ ?_ ?_ λb aa ac av=>?_
 ·rw[aj uh,aj Hj.symm,aj uh];exact aG
 ·rw[aj Cd];exact aG
 ·rw[aG];rfl
 ·rw[aj aa,aj av,aj aa,aj ac,aj aa]
inductive Dl(aM aO:U)(vs:List V)(H:ah)(Q:cM)(_:fG):Prop|i(a aq:U)(t:Nat)(_:vs=[.ref a,bj t])(_:H a=some (.ins aM aq []))(_:∀ab L nd,de a H ab->ab a=some (.ins aM aq [("nodes",.ref nd)])->(dg (Sty.fresh t) L nd).Nodup->(∀b∈dg (Sty.fresh t) L nd,H b=none/\ab b≠none)->
 (∀br,br a=ab a->(∀b o,H b=none->b∉dg (Sty.fresh t) L nd->ab b=some o->br b=some o)->h1 aM aO br ab (Sty.fresh t) L a nd)->Q .b1 ab)
def ad_:c3 ahx ahx (ct (et 0)):={}
def abO (T:lD K ae aM aO eO fP)(F:dd K "__init__" "Tree.__init__" (et 0) f fd)(D0:aQ P w K ae base bc 1 eO fP ahB (Dc aO)):aQ P w K ae base bc 3 f fd ahx (Dl aM aO):=by
 refine F.ok ad_ (λbU A outer s H vs Q E au h=>?_);obtain⟨a,aq,t,rfl,al,q⟩:=h;obtain⟨ia,tZ⟩:=T.root;refine⟨_,bo (gZ (ag 0) (P5 (ux (hg (v:=.int 0) rfl tZ ⟨ia,rfl⟩) (sF T.O8 D0 au rfl T.B6 T.KD .nil cA (aK (ag 1) (aK sG aY))) HJ) rfl rfl nofun (by decide)) rfl),?_⟩;intro nd fz;refine⟨_,rfl,?_⟩;intro x eN ao iY b9;refine⟨x,eN,_,_,rfl,aG,λH1 ca cl e3 dU mw aa ac av bn=>⟨rfl,?_⟩⟩;have sD:x≠nd:=λz=>by rw[z,aG] at ao;cases ao
 rw[aj sD] at ao;have sy:eN≠nd:=λz=>by rw[z,aG] at iY;cases iY
 rw[aj sy] at iY;have zf:ca≠x:=λz=>by rw[z,aG] at e3;cases e3
 rw[aj zf] at e3;have Hc:ca≠eN:=λz=>by rw[z,aG] at e3;cases e3
 rw[aj Hc] at e3;have sw:ca≠nd:=λz=>by rw[z,aG] at e3;cases e3
 rw[aj sw] at e3;have zi:cl≠x:=λz=>by rw[z,aG] at dU;cases dU
 rw[aj zi] at dU;have Hk:cl≠eN:=λz=>by rw[z,aG] at dU;cases dU
 rw[aj Hk] at dU;have sA:cl≠nd:=λz=>by rw[z,aG] at dU;cases dU
 rw[aj sA] at dU;have Yy:H1 nd=some (.cq []):=by rw[bn nd sD.symm sw.symm sA.symm,aj sD.symm,aj sy.symm];exact aG
 have old:∀b o,H b=some o->H1 b=some o:=λb o I=>by rw[bn b (a8 I ao) (a8 I e3) (a8 I dU),aj (a8 I ao),aj (a8 I iY),aj (a8 I fz)];exact I
 have XB:=old _ _ al;refine⟨Yy,[(cf 0,.ref x)],rfl,(by show 1<=15;decide),?_⟩;have sx:nd≠a:=(a8 al fz).symm;refine⟨_,rfl,a,aM,aq,_,rfl,by rw[aj sx.symm];exact XB,T.gE,T.h5,by show 0 < 1000;decide,?_⟩;have lQ:dg (Sty.fresh t) (λ_=>⟨x,ca,cl⟩) nd=[nd,ca,cl]:=rfl;have uh:ca≠a:=(a8 al e3).symm;have zh:cl≠a:=(a8 al dU).symm;have abx:x≠a:=(a8 al ao).symm;refine q _ (λ_=>⟨x,ca,cl⟩) nd (λb o I n=>?_) aG ?_ ?_ λbr aE aL=>?_
 ·rw[aj n,aj (a8 I fz)];exact old b o I
 ·rw[lQ];simp[sw.symm,sA.symm,mw]
 ·rw[lQ];intro b I;rcases cr.mp I with rfl|I
  ·exact⟨fz,by rw[aj sx,aG];nofun⟩
  ·rcases cr.mp I with rfl|I
   ·exact⟨e3,by rw[aj uh,aj sw,aa];nofun⟩
   ·rw[ec.mp I];exact⟨dU,by rw[aj zh,aj sA,ac];nofun⟩
 ·rw[lQ] at aL;refine⟨⟨aq,by rw[aE];exact aG⟩,by rw[aj sx];exact aG,λn ak=>?_⟩;rw[ec.mp ak];refine⟨⟨eN,?_⟩,?_,?_⟩
  ·refine aL x _ ao ?_ (by rw[aj abx,aj sD];exact av);simp[sD,zf.symm,zi.symm]
  ·show upd _ _ _ ca=_;rw[aj uh,aj sw,aa];rfl
  ·show upd _ _ _ cl=_;rw[aj zh,aj sA,ac];rfl
end
def k1 (a:Sty.Answer):List V:=.int a.ret::a.nums.map bj
def lX (x:Nat):ei (lW W L) (cf x)=(Sty.node W x).map λn=>.ref (L n.id).na:=by
 unfold lW Sty.node
 induction W.nodes with
 |nil=>rfl
 |cons n l bE=>
  rw[ck,i'];by_cases e:n.id=x
  ·rw[l5 (by show cf n.id=cf x;rw[e]),show(n.id==x)=true by simpa using e];rfl
  ·rw[jH (by intro z;exact e (y1 z)),show(n.id==x)=false by simpa using e];exact bE
def ET (k:Nat):(ei (ir l) (cf k)).isSome=l.contains k:=by rw[lv,Jc,kn];unfold ir;rw[ff];exact vU
def G3 (un:(dg W L nd).Nodup):(∀n∈W.nodes,(L n.id).ca≠nd/\(L n.id).cl≠nd/\(L n.id).ca≠(L n.id).cl)/\
  ∀n∈W.nodes,∀m∈W.nodes,n.id≠m.id->(L n.id).ca≠(L m.id).ca/\(L n.id).ca≠(L m.id).cl/\(L n.id).cl≠(L m.id).ca/\(L n.id).cl≠(L m.id).cl:=by
 unfold dg at un;rw[hk] at un;obtain⟨jU,kM⟩:=un;have hm:∀n∈W.nodes,(L n.id).ca∈W.nodes.flatMap (λn=>[(L n.id).ca,(L n.id).cl])/\(L n.id).cl∈W.nodes.flatMap (λn=>[(L n.id).ca,(L n.id).cl]):=λn ak=>
  ⟨l8.mpr ⟨n,ak,by simp⟩,l8.mpr ⟨n,ak,by simp⟩⟩
 unfold Nodup at kM;rw[List.pairwise_flatMap] at kM;obtain⟨fp,eI⟩:=kM;refine⟨λn ak=>⟨λz=>jU (z▸(hm n ak).1),λz=>jU (z▸(hm n ak).2),?_⟩,λn ak m pF b9=>?_⟩
 ·have:=fp n ak;simpa using this
 ·have key:∀(a b:Sty.Node),(∀x∈[(L a.id).ca,(L a.id).cl],∀y∈[(L b.id).ca,(L b.id).cl],x≠y)->(L a.id).ca≠(L b.id).ca/\(L a.id).ca≠(L b.id).cl/\(L a.id).cl≠(L b.id).ca/\(L a.id).cl≠(L b.id).cl:=λa b h=>
   ⟨h _ (by simp) _ (by simp),h _ (by simp) _ (by simp),h _ (by simp) _ (by simp),h _ (by simp) _ (by simp)⟩
  obtain⟨a,b,e⟩:=rq ak;rw[e,Ag,wZ] at eI;rw[e] at pF;rcases di.mp pF with z|z
  ·obtain⟨aX,bt,cn,fS⟩:=key m n (eI.2.2 m z n (dW ..));exact⟨aX.symm,cn.symm,bt.symm,fS.symm⟩
  ·rcases cr.mp z with rfl|z
   ·exact absurd rfl b9
   ·exact key n m (eI.2.1.1 m z)
def n0.lf (T:n0 aM aO F H W L a4 nd)(az:H q=none):q∉dg W L nd:=λz=>by obtain⟨o,aI,_⟩:=T.at_.there q z;rw[aI] at az;cases az
def rG.xx (S:rG aM aO F H W L a4 nd cz L' ab)(az:ab q=none):rG aM aO F H W L a4 nd cz L' (upd ab q o)/\H q=none/\q∉dg cz L' nd:=by
 have uk:q∉dg cz L' nd:=λz=>(S.new q z).2 az;refine⟨⟨S.bu.trans (aA.bu (aA.upd az)),S.un,λb I=>⟨(S.new b I).1,?_⟩,λb I=>?_,λbr cu eQ=>?_⟩,?_,uk⟩
 ·rw[aj (λz:b=q=>uk (by rw[<-z];exact I))];exact(S.new b I).2
 ·by_cases z:b=q
  ·rw[z,aG];nofun
  ·rw[aj z];exact S.eM b I
 ·have A:=S.at_ br cu λb o aa ac av=>eQ b o aa ac (by rw[aj (a8 av az)];exact av);exact⟨A.a4,by rw[aj (a8 A.nd az)];exact A.nd,λn ak=>⟨(A.nodes n ak).ins,by rw[aj (a8 (A.nodes n ak).ch az)];exact(A.nodes n ak).ch,by rw[aj (a8 (A.nodes n ak).cs az)];exact(A.nodes n ak).cs⟩⟩
 ·cases e:H q with
  |none=>rfl
  |some u=>exact absurd az (S.eM q (by rw[e];nofun))
def pe (aM aO:U)(F H:ah)(W:Sty.State)(L:Nat->el)(a4 nd:U)(c:Sty.Call)(Q:cM):Prop:=∀ab L' q,rG aM aO F H W L a4 nd (Sty.step W c).1 L' ab->H q=none->q∉dg (Sty.step W c).1 L' nd->ab q=some (.lst (k1 (Sty.step W c).2))->Q (.ref q) ab
def pe.early (p:pe aM aO F H W L a4 nd c Q)(T:n0 aM aO F H W L a4 nd)(e:Sty.step W c=(W,a))(ao:xs=k1 a)(az:H q=none):Q (.ref q) (upd H q (.lst xs)):=by unfold pe at p;rw[e] at p;exact p _ L q (T.hS (aA.upd az)) az (T.lf az) (by rw[aG,ao])
def pe.done (p:pe aM aO F H W L a4 nd c Q)(e:Sty.step W c=(cz,a))(S:rG aM aO F H W L a4 nd cz L' H1)(ao:xs=k1 a)(az:H1 q=none):Q (.ref q) (upd H1 q (.lst xs)):=by unfold pe at p;rw[e] at p;obtain⟨s1,s2,s3⟩:=S.xx (o:=.lst xs) az;exact p _ L' q s1 s2 s3 (by rw[aG,ao])
inductive Ir(aM aO:U)(vs:List V)(H:ah)(Q:cM)(_:fG):Prop|i(a4 nd:U)(F:ah)(W:Sty.State)(L:Nat->el)(p t:Nat)(_:vs=[.ref a4,bj p,bj t])(_:n0 aM aO F H W L a4 nd)(_:pe aM aO F H W L a4 nd (.add p t) Q)
def QJ:c3 ["self","parent","tag","number"] ahE (ct (et 1)):={}
def jF:([("nodes",.ref nd)]:List (Str×V)).lookup ("nodes":Str)=some (.ref nd):=iC
def abR {P:bg}{w:bb}{K:PySem.W.Frag}{ae:Str->Option af}{base:a5}{aO aM eO:U}{fP:b6}{f fa:U}{fd xX:b6}(T:lD K ae aM aO eO fP)(d2:ae "len"=none)(F:dd K "add" "Tree.add" (et 1) f fd)(qi:cX K ae "least_free" zO ahF fa xX)(D0:aQ P w K ae base bc 1 eO fP ahB (Dc aO)):
  aQ P w K ae base bc 3 f fd ahE (Ir aM aO):=by
 have hV:aQ P w K ae base bc 1 fa xX ahF IE:=PP qi;refine F.ok QJ (λbU A outer s H vs Q E au h=>?_);obtain⟨a4,nd,F,W,L,p,t,rfl,O,q⟩:=h;have aW:=kB au;have gu:c1 1 _:=au.mono (by omega);obtain⟨ia,tZ⟩:=T.root;obtain⟨mt,yQ⟩:=T.aaM;obtain⟨aq,dA⟩:=O.at_.a4;have dA:=O.bQ _ _ dA;have fz:=O.at_.nd;have hw:=O.wf;refine⟨_,a_ (dh (jA (pW aW (ag 1) (bT (ag 0) rfl)) (by with_unfolding_all rfl)) (bo (cp (dL (aK (kc kk bM) aY)))) dn)
  (a_ (dh (eJ gA (gX EK (by rfl) d2 jd (aK (bT (ag 0) rfl) aY)) (hg (v:=.int 128) rfl yQ ⟨mt,rfl⟩) (d4 _)) (bo (cp (dL (aK (kc kk bM) aY)))) dn)
  (a_ (cE (i:=3) QJ.nd (hB hV gu rfl qi.ae qi.bu qi.bi .nil cA (aK (bT (ag 0) rfl) (aK (hg (v:=.int 0) rfl tZ ⟨ia,rfl⟩) aY))))
  (a_ (wh aW (bT (ag 0) rfl) (ag 3) (sF T.O8 D0 au rfl T.B6 T.KD .nil cA (aK (ag 2) (aK (ag 1) aY))) rfl)
  (a_ (hQ (lh kR mY nK nz (bT (jz aW (bT (ag 0) rfl) (ag 1) (λ_ _=>rfl)) rfl) (aK (ag 3) aY)))
  (bo (cp (dL (aK (ag 3) aY)))))))),?_⟩
 have fy:=dy.k (H:=H) (k:=cf p) fz;rw[lX] at fy;refine⟨_,rfl,_,rfl,a4,aM,aq,_,_,rfl,dA,T.gE,T.h5,jF,nd,_,rfl,fy,_,rfl,?_⟩;have c8:Sty.step W (.add p t)=(match Sty.node W p,Sty.freeNode W with
  |none,_=>(W,NO)
  |some _,none=>(W,FULL)
  |some n,some k=>({W with nodes:=W.nodes++[⟨k,n.id,t,[]⟩]},says (k:Nat))):=rfl
 cases am:Sty.node W p with
 |none=>refine d3 ⟨_,rfl,cH 1,λr a'=>?_⟩;rw[am] at c8;exact q.early O c8 rfl a'
 |some n=>
  obtain⟨ak,nq⟩:=Tm.ra am;refine eS ?_;refine⟨_,rfl,a4,aM,aq,_,_,rfl,dA,T.gE,T.h5,jF,nd,_,rfl,fz,rfl,_,rfl,?_⟩;have yN:(lW W L).length=W.nodes.length:=by unfold lW;rw[cc]
  rw[yN];by_cases aC:W.nodes.length=128
  ·refine fB (ej (by rw[aC];rfl)) ⟨_,rfl,cH 1,λr a'=>?_⟩;rw[am,hw.Fj aC] at c8;exact q.early O c8 rfl a'
  ·refine df (cW (by intro z;injection z with z;omega)) ?_;have pE:(lW W L).map (·.1)=(Tm.ids W).map cf:=by unfold lW Tm.ids;rw[ff,ff];rfl
   refine⟨_,rfl,a4,aM,aq,_,_,rfl,dA,T.gE,T.h5,jF,nd,0,_,Tm.ids W,rfl,fz,pE,λk aw=>?_⟩;rw[am,hw.Fk aw aC] at c8;replace c8:Sty.step W (.add p t)=({W with nodes:=W.nodes++[⟨k,n.id,t,[]⟩]},says (k:Nat)):=c8;have agB:k < 128:=by have:=aw.lt (m:=128) (by unfold Tm.ids;rw[cc];have:=hw.kE;omega);omega
   refine⟨_,rfl,_,rfl,?_⟩;intro x eN ao iY b9;refine⟨x,eN,_,_,rfl,aG,λH1 ca cl e3 dU mw aa ac av bn=>⟨rfl,?_⟩⟩;have zf:ca≠x:=λz=>by rw[z,aG] at e3;cases e3
   rw[aj zf] at e3;have Hc:ca≠eN:=λz=>by rw[z,aG] at e3;cases e3
   rw[aj Hc] at e3;have zi:cl≠x:=λz=>by rw[z,aG] at dU;cases dU
   rw[aj zi] at dU;have Hk:cl≠eN:=λz=>by rw[z,aG] at dU;cases dU
   rw[aj Hk] at dU;have old:∀b o,H b=some o->H1 b=some o:=λb o I=>by rw[bn b (a8 I ao) (a8 I e3) (a8 I dU),aj (a8 I ao),aj (a8 I iY)];exact I
   have N:=O.at_.nodes n ak;obtain⟨gW,dk⟩:=N.ins;have dk:=O.bQ _ _ dk;have e4:=G3 O.un;refine⟨_,rfl,a4,aM,aq,_,_,rfl,old _ _ dA,T.gE,T.h5,jF,_,rfl,nd,_,rfl,mc.k (k:=cf k) (old _ _ fz) (by rw[yN];exact jP (by have:=hw.kE;omega)),?_⟩;have yW:fs (lW W L) (cf k) (.ref x)=lW {W with nodes:=W.nodes++[⟨k,n.id,t,[]⟩]} (λi=>if i=k then⟨x,ca,cl⟩ else L i):=by
    rw[zD (by rw[pE,vU];exact aw.2.1)];unfold lW;rw[hi]
    congr 1
    ·refine kP λm hm=>?_;show _=(cf m.id,V.ref (if m.id=k then(⟨x,ca,cl⟩:el) else L m.id).na);rw[aN λz=>aw.2.1 (Tm.gy.mpr ⟨m,hm,z⟩)]
    ·show[(cf k,V.ref x)]=[(cf k,V.ref (if k=k then(⟨x,ca,cl⟩:el) else L k).na)];rw[aV rfl]
   rw[yW];generalize ys:({W with nodes:=W.nodes++[⟨k,n.id,t,[]⟩]}:Sty.State)=cz;rw[ys] at c8;generalize qK:(λi=>if i=k then(⟨x,ca,cl⟩:el) else L i)=L';have q_:(L n.id).ca≠nd:=(e4.1 n ak).1;have Hn:a4≠nd:=fo dA fz nofun;have aa8:(L n.id).na≠nd:=fo dk fz nofun;have yJ:dy (upd H1 nd (.cq (lW cz L'))) nd (bj p) (some (.ref (L n.id).na)):=by
    have z:=dy.k (H:=upd H1 nd (.cq (lW cz L'))) (k:=cf p) aG;rw[lX] at z;have e:Sty.node cz p=some n:=by rw[<-ys];show(W.nodes++[_]).find? _=_;rw[List.find?_append];rw[show W.nodes.find? (λm=>m.id==p)=some n from am];rfl
    rw[e] at z;have aL:(L' n.id).na=(L n.id).na:=by rw[<-qK];show(if n.id=k then _ else _:el).na=_;rw[aN λz=>aw.2.1 (Tm.gy.mpr ⟨n,ak,z⟩)]
    simp only[Option.map_some,aL] at z;exact z
   refine⟨_,rfl,a4,aM,aq,_,_,rfl,by rw[aj Hn];exact old _ _ dA,T.gE,T.h5,jF,_,rfl,nd,_,rfl,yJ,(L n.id).na,aO,gW,_,_,rfl,by rw[aj aa8];exact old _ _ dk,T.iV,T.su,ui,.inl ⟨rfl,_,bA.of (by rw[aj q_];exact old _ _ N.ch)⟩,_,rfl,(L n.id).ca,_,_,rfl,rfl,by rw[aj q_];exact old _ _ N.ch,?_,?_⟩
   ·rw[cc];refine jP ?_;have:(Sty.children W n.id).length<=W.nodes.length:=by unfold Sty.children;rw[cc];exact s7 _ _
    have:=hw.kE;omega
   ·refine⟨_,rfl,cH 1,λr a'=>?_⟩;refine q.done c8 (L':=L') ?_ rfl a';have lQ:dg cz L' nd=dg W L nd++[ca,cl]:=by
     rw[<-ys,<-qK];unfold dg;rw[oZ,cons_append]
     congr 2
     ·rw[s6,s6]
      congr 1
      refine kP λm hm=>?_;show[(if m.id=k then(⟨x,ca,cl⟩:el) else L m.id).ca,(if m.id=k then(⟨x,ca,cl⟩:el) else L m.id).cl]=_;rw[aN λz=>aw.2.1 (Tm.gy.mpr ⟨m,hm,z⟩)]
     ·show[(if k=k then(⟨x,ca,cl⟩:el) else L k).ca,(if k=k then(⟨x,ca,cl⟩:el) else L k).cl]++[]=_;rw[aV rfl];rfl
    have FJ:ca∉dg W L nd:=O.lf e3;have yM:cl∉dg W L nd:=O.lf dU;have vL:x∉dg W L nd:=O.lf ao;have Pd:ca≠(L n.id).ca:=λz=>FJ (by rw[z];exact jQ.mpr (.inr ⟨n,ak,.inl rfl⟩));have Pe:cl≠(L n.id).ca:=λz=>yM (by rw[z];exact jQ.mpr (.inr ⟨n,ak,.inl rfl⟩));have abw:x≠(L n.id).ca:=λz=>vL (by rw[z];exact jQ.mpr (.inr ⟨n,ak,.inl rfl⟩));have sw:ca≠nd:=λz=>FJ (by rw[z];exact jQ.mpr (.inl rfl));have sA:cl≠nd:=λz=>yM (by rw[z];exact jQ.mpr (.inl rfl));have aby:x≠nd:=λz=>vL (by rw[z];exact jQ.mpr (.inl rfl));have sb:n.id≠k:=λz=>aw.2.1 (Tm.gy.mpr ⟨n,ak,z⟩);refine⟨λb o I hA=>?_,?_,λb I=>?_,λb I=>?_,λbr cu eQ=>?_⟩
    ·rw[aj (λz:b=(L n.id).ca=>hA (by rw[z];exact jQ.mpr (.inr ⟨n,ak,.inl rfl⟩))),aj (λz:b=nd=>hA (by rw[z];exact jQ.mpr (.inl rfl)))];exact old b o I
    ·rw[lQ,jb];refine⟨O.un,by simp[mw],λa al b I z=>?_⟩;rcases cr.mp I with e|I
     ·rw[z,e] at al;exact FJ al
     ·rw[z,ec.mp I] at al;exact yM al
    ·rw[lQ] at I;rcases di.mp I with I|I
     ·refine⟨.inl I,?_⟩;obtain⟨o,aI,_⟩:=O.at_.there b I;by_cases cv:b=(L n.id).ca
      ·rw[cv,aG];nofun
      ·rw[aj cv];by_cases cx:b=nd
       ·rw[cx,aG];nofun
       ·rw[aj cx,old _ _ aI];nofun
     ·rcases cr.mp I with rfl|I
      ·exact⟨.inr e3,by rw[aj Pd,aj sw,aa];nofun⟩
      ·rw[ec.mp I];exact⟨.inr dU,by rw[aj Pe,aj sA,ac];nofun⟩
    ·by_cases cv:b=(L n.id).ca
     ·rw[cv,aG];nofun
     ·rw[aj cv];by_cases cx:b=nd
      ·rw[cx,aG];nofun
      ·rw[aj cx];cases e:H b with
       |none=>exact absurd e I
       |some o=>rw[old _ _ e];nofun
    ·obtain⟨ic,bY⟩:=O.at_.a4;refine⟨⟨ic,cu _ _ bY⟩,by rw[aj q_.symm];exact aG,λm hm=>?_⟩;have ky:∀y,Sty.children cz y=if y=n.id then Sty.children W n.id++[k] else Sty.children W y:=λy=>by rw[<-ys];exact Tm.Tx sb
     rw[<-ys] at hm;rcases di.mp (show m∈W.nodes++[_] from hm) with hm|hm
     ·have Yv:m.id≠k:=λz=>aw.2.1 (Tm.gy.mpr ⟨m,hm,z⟩);have E4:L' m.id=L m.id:=by rw[<-qK];exact aN Yv
      rw[E4];have M:=O.at_.nodes m hm;obtain⟨i5,kA⟩:=M.ins;refine⟨⟨i5,cu _ _ kA⟩,?_,?_⟩
      ·rw[ky];by_cases e:m.id=n.id
       ·rw[aV e,e,aG,hi];rfl
       ·rw[aN e,aj ((e4.2 m hm n ak e).1),aj (e4.1 m hm).1];exact old _ _ M.ch
      ·rw[aj,aj (e4.1 m hm).2.1]
       ·exact old _ _ M.cs
       ·by_cases e:m.id=n.id
        ·rw[e];exact(e4.1 n ak).2.2.symm
        ·exact(e4.2 m hm n ak e).2.2.1
     ·rw[ec.mp hm];have E4:L' k=⟨x,ca,cl⟩:=by rw[<-qK];exact aV rfl
      show Kg aO br _ cz ⟨k,n.id,t,[]⟩ (L' k);rw[E4];refine⟨⟨eN,?_⟩,?_,?_⟩
      ·have:br x=some (.ins aO eN (h8 (bj t) (bj p) ca cl)):=by
        refine eQ x _ ao ?_ (by rw[aj abw,aj aby];exact av);rw[lQ,di];rintro(z|z)
        ·exact vL z
        ·simp[zf.symm,zi.symm] at z
       have ep:h9 ⟨k,n.id,t,[]⟩=bj p:=by unfold h9;rw[aN (by exact sb),nq]
       rw[ep];exact this
      ·show upd _ _ _ ca=_;rw[aj Pd,aj sw,aa,ky,aN (by exact λz=>sb z.symm),hw.aa_ aw.2.1];rfl
      ·show upd _ _ _ cl=_;rw[aj Pe,aj sA,ac];rfl
def RP (h:H a=some o):upd H a o=H:=by
 funext b
 unfold upd;split
 ·rename_i e;rw[e,h]
 ·rfl
def O0 (l:List Nat):l.map bj=(l.map Int.ofNat).map V.int:=by rw[ff];rfl
def Vs (l:List Nat)(x:Nat):(l.map Int.ofNat).erase (x:Int)=(l.erase x).map Int.ofNat:=by
 induction l with
 |nil=>rfl
 |cons a l bE=>
  rw[ck,List.erase_cons,List.erase_cons];by_cases e:a=x
  ·rw[aV (by rw[e];exact beq_self_eq_true _),aV (by rw[e];exact beq_self_eq_true _)]
  ·rw[aN (by intro z;exact e (nG (jX.mp z))),aN (by intro z;exact e (jX.mp z)),ck,bE]
def E0 (l:List α)(g:α->Nat)(v:α->V)(x:Nat):pn (l.map λa=>(cf (g a),v a)) (cf x)=(l.filter λa=>g a !=x).map λa=>(cf (g a),v a):=by
 unfold pn;rw[wR]
 congr 1
 refine filter_congr λa _=>?_;show decide (cf (g a)≠cf x)=(g a !=x);by_cases e:g a=x
 ·rw[e];simp
 ·rw[ej (show cf (g a)≠cf x from λz=>e (y1 z))];simpa using e
theorem Dp:∀{a b:List α},a.Sublist b->(a.flatMap f).Sublist (b.flatMap f)
 |_,_,.slnil=>.slnil
 |_,_,.cons x h=>by rw[kN];exact(Dp h).trans (List.sublist_append_right _ _)
 |_,_,.cons_cons x h=>by rw[kN,kN];exact(List.Sublist.refl _).append (Dp h)
def aaV (h:ns.Sublist W.nodes):(dg {W with nodes:=ns} L nd).Sublist (dg W L nd):=by unfold dg;refine .cons_cons _ ?_;show(ns.flatMap _).Sublist _;exact Dp h
inductive IA(aM aO:U)(vs:List V)(H:ah)(Q:cM)(_:fG):Prop|i(a4 nd:U)(F:ah)(W:Sty.State)(L:Nat->el)(x:Nat)(_:vs=[.ref a4,bj x])(_:n0 aM aO F H W L a4 nd)(_:pe aM aO F H W L a4 nd (.drop x) Q)
def QK:c3 ["self","number","node"] ahq (ct (et 2)):={}
def ab1 {P:bg}{w:bb}{K:PySem.W.Frag}{ae:Str->Option af}{base:a5}{aO aM eO:U}{fP:b6}{f:U}{fd:b6}(T:lD K ae aM aO eO fP)(d2:ae "len"=none)(F:dd K "drop" "Tree.drop" (et 2) f fd):aQ P w K ae base bc 1 f fd ahq (IA aM aO):=by
 refine F.ok QK (λbU A outer s H vs Q E au h=>?_);obtain⟨a4,nd,F,W,L,x,rfl,O,q⟩:=h;have aW:=kB au;obtain⟨ia,tZ⟩:=T.root;obtain⟨aq,dA⟩:=O.at_.a4;have dA:=O.bQ _ _ dA;have fz:=O.at_.nd;have hw:=O.wf;refine⟨_,a_ (dh (jA (pW aW (ag 1) (bT (ag 0) rfl)) (by with_unfolding_all rfl)) (bo (cp (dL (aK (kc kk bM) aY)))) dn)
  (a_ (cE (i:=2) QK.nd (jz aW (bT (ag 0) rfl) (ag 1) (λ_ _=>rfl)))
  (a_ (dh (kX.pt (CD (eJ gA (ag 1) (hg (v:=.int 0) rfl tZ ⟨ia,rfl⟩) (d4 _)) (CE (eJ Ht (gX j6 (by rfl) d2 jd (aK (bT (ag 2) rfl) aY)) bM (d4 _))))) (bo (cp (dL (aK (kc kk bM) aY)))) dn)
  (a_ (hQ (lh kR PySem.F.slot_list_remove PySem.F.type_list_remove aaS (bT (jz aW (bT (ag 0) rfl) (bT (ag 2) rfl) (λ_ _=>rfl)) rfl) (aK (ag 1) aY)))
  (a_ (hQ (P6 (bT (ag 0) rfl) (ag 1) ⟨rfl,rfl,rfl,rfl⟩))
  (bo (cp (dL (aK bM aY)))))))),?_⟩
 have fy:=dy.k (H:=H) (k:=cf x) fz;rw[lX] at fy;refine⟨_,rfl,_,rfl,a4,aM,aq,_,_,rfl,dA,T.gE,T.h5,jF,nd,_,rfl,fy,_,rfl,?_⟩;have c8:Sty.step W (.drop x)=(match Sty.node W x with
  |none=>(W,NO)
  |some n=>if n.parent=n.id\/Sty.children W n.id≠[] then(W,FULL) else({W with nodes:=W.nodes.filter λ(m:Sty.Node)=>m.id !=n.id},says 0)):=rfl
 cases am:Sty.node W x with
 |none=>refine d3 ⟨_,rfl,cH 1,λr a'=>?_⟩;rw[am] at c8;exact q.early O c8 rfl a'
 |some n=>
  obtain⟨ak,nq⟩:=Tm.ra am;rw[am] at fy c8;replace c8:Sty.step W (.drop x)=if n.parent=n.id\/Sty.children W n.id≠[] then(W,FULL) else({W with nodes:=W.nodes.filter λ(m:Sty.Node)=>m.id !=n.id},says 0):=c8
  refine eS ?_;have N:=O.at_.nodes n ak;obtain⟨gW,dk⟩:=N.ins;have dk:=O.bQ _ _ dk;have e4:=G3 O.un;refine⟨_,rfl,a4,aM,aq,_,_,rfl,dA,T.gE,T.h5,jF,_,rfl,nd,_,rfl,fy,?_⟩;refine⟨_,rfl,rfl,_,rfl,?_⟩;by_cases h0:x=0
  ·refine fB (ej (by rw[h0];rfl)) ?_;refine d3 ⟨_,rfl,cH 1,λr a'=>?_⟩;rw[aV (.inl ((hw.uC ak).mpr (by rw[nq,h0])))] at c8;exact q.early O c8 rfl a'
  ·have qV:n.parent≠n.id:=λz=>h0 (by rw[<-nq];exact(hw.uC ak).mp z);refine df (cW (by intro z;injection z with z;omega)) ?_;refine⟨_,rfl,_,aO,gW,_,_,rfl,dk,T.iV,T.su,ui,(L n.id).ca,_,rfl,.inl (bA.of N.ch),_,_,rfl,rfl,_,rfl,?_⟩;rw[cc];cases ky:Sty.children W n.id with
   |cons c cs=>refine fB (ej (by show(0:Int) < ((cs.length+1:Nat):Int);omega)) ⟨_,rfl,cH 1,λr a'=>?_⟩;rw[aV (.inr (by rw[ky];nofun))] at c8;exact q.early O c8 rfl a'
   |nil=>
    refine df (cW (by show ¬(0:Int) < ((0:Nat):Int);omega)) ?_;rw[aN (by rw[ky];rintro(z|z);exact qV z;exact z rfl)] at c8;obtain⟨p,nr,mA⟩:=Tm.gy.mp (hw.uv ak);have yU:p.id≠n.id:=by rw[mA];exact qV
    have u4:=O.at_.nodes p nr;obtain⟨HB,qU⟩:=u4.ins;have qU:=O.bQ _ _ qU;have yJ:dy H nd (h9 n) (some (.ref (L p.id).na)):=by have z:=dy.k (H:=H) (k:=cf n.parent) fz;rw[lX,<-mA,hw.jy nr] at z;unfold h9;rw[aN qV,<-mA];exact z
    have Zi:x∈Sty.children W p.id:=Tm.mG.mpr ⟨n,ak,nq,mA.symm,by rw[<-nq];exact λz=>yU z.symm⟩;have M4:H (L p.id).ca=some (.lst (((Sty.children W p.id).map Int.ofNat).map V.int)):=by rw[<-O0];exact u4.ch
    refine⟨_,rfl,a4,aM,aq,_,_,rfl,dA,T.gE,T.h5,jF,_,rfl,_,aO,gW,_,_,rfl,dk,T.iV,T.uf,vY,nd,_,rfl,yJ,_,aO,HB,_,_,rfl,qU,T.iV,T.su,ui,.inl ⟨rfl,_,bA.of M4⟩,_,rfl,(L p.id).ca,_,(x:Int),rfl,rfl,M4,dp.mpr ⟨x,Zi,rfl⟩,?_⟩;rw[Vs,<-O0];have Px:(L p.id).ca≠nd:=(e4.1 p nr).1;have Hn:a4≠(L p.id).ca:=fo dA u4.ch nofun;refine⟨_,rfl,a4,aM,aq,_,_,rfl,by rw[aj Hn];exact dA,T.gE,T.h5,jF,nd,rfl,.inl ⟨_,.inl (by rw[aj Px.symm];exact fz)⟩,_,rfl,_,cf x,.ref (L n.id).na,by rw[aj Px.symm];exact fz,rfl,by rw[lX,am];rfl,?_⟩;refine⟨cH 1,λr a'=>?_⟩;refine q.done c8 (L':=L) ?_ rfl a';have y0:(W.nodes.filter λ(m:Sty.Node)=>m.id !=n.id).Sublist W.nodes:=nI;have tX:=aaV (W:=W) (L:=L) (nd:=nd) y0;refine⟨λb o I hA=>?_,tX.nodup O.un,λb I=>⟨.inl (tX.subset I),?_⟩,λb I=>?_,λbr cu eQ=>?_⟩
    ·rw[aj (λz:b=nd=>hA (by rw[z];exact jQ.mpr (.inl rfl))),aj (λz:b=(L p.id).ca=>hA (by rw[z];exact jQ.mpr (.inr ⟨p,nr,.inl rfl⟩)))];exact I
    ·obtain⟨o,aI,_⟩:=O.at_.there b (tX.subset I);by_cases cx:b=nd
     ·rw[cx,aG];nofun
     ·rw[aj cx];by_cases cv:b=(L p.id).ca
      ·rw[cv,aG];nofun
      ·rw[aj cv,aI];nofun
    ·by_cases cx:b=nd
     ·rw[cx,aG];nofun
     ·rw[aj cx];by_cases cv:b=(L p.id).ca
      ·rw[cv,aG];nofun
      ·rw[aj cv];exact I
    ·obtain⟨ic,bY⟩:=O.at_.a4;refine⟨⟨ic,cu _ _ bY⟩,?_,λm hm=>?_⟩
     ·rw[aG];unfold lW;rw[E0,<-nq]
     ·obtain⟨hm,NL⟩:=hj.mp (show m∈W.nodes.filter _ from hm);have NL:m.id≠n.id:=by simpa using NL
      have M:=O.at_.nodes m hm;obtain⟨i5,kA⟩:=M.ins;refine⟨⟨i5,cu _ _ kA⟩,?_,?_⟩
      ·rw[aj (e4.1 m hm).1,Tm.U3];by_cases e:m.id=p.id
       ·rw[e,aG,Tm.VB (hw.A0 _),nq]
       ·rw[aj (e4.2 m hm p nr e).1,M.ch]
        congr 2
        rw[filter_eq_self.mpr];intro c ai;obtain⟨u,jU,kM,I_,_⟩:=Tm.mG.mp ai;have:c≠n.id:=λz=>e (by
         have:u=n:=hw.inj jU ak (by rw[kM,z]);rw[this] at I_;rw[mA,I_])
        simpa using this
      ·rw[aj (e4.1 m hm).2.1,aj]
       ·exact M.cs
       ·by_cases e:m.id=p.id
        ·rw[e];exact(e4.1 p nr).2.2.symm
        ·exact(e4.2 m hm p nr e).2.2.1
inductive IF(aM aO:U)(vs:List V)(H:ah)(Q:cM)(_:fG):Prop|i(a4 nd:U)(F:ah)(W:Sty.State)(L:Nat->el)(x k on:Nat)(_:vs=[.ref a4,bj x,bj k,bj on])(_:n0 aM aO F H W L a4 nd)(_:pe aM aO F H W L a4 nd (.mark x k on) Q)
def QP:c3 ["self","number","class_number","on","classes"] ahy (ct (et 3)):={}
def n0.B4 (O:n0 aM aO F H W L a4 nd)(ak:n∈W.nodes)(k:Nat)(b:Bool):
  rG aM aO F H W L a4 nd {W with nodes:=W.nodes.map (Tm.gb n.id k b)} L (upd H (L n.id).cl (.cq (ir (Sty.marked n k b).classes))):=by
 have e4:=G3 O.un;have yC:(L n.id).cl∈dg W L nd:=jQ.mpr (.inr ⟨n,ak,.inr rfl⟩);have lQ:dg {W with nodes:=W.nodes.map (Tm.gb n.id k b)} L nd=dg W L nd:=by
  unfold dg
  congr 1
  show(W.nodes.map (Tm.gb n.id k b)).flatMap _=_;rw[List.flatMap_map]
  congr 1
  funext m
  rw[(Tm.ox n.id k b m).1]
 have eM:∀c,H c≠none->upd H (L n.id).cl (.cq (ir (Sty.marked n k b).classes)) c≠none:=λc ai=>by
  by_cases z:c=(L n.id).cl
  ·rw[z,aG];nofun
  ·rw[aj z];exact ai
 refine⟨λc o ai hA=>?_,by rw[lQ];exact O.un,λc ai=>?_,eM,λbr cu _=>?_⟩
 ·rw[aj (λz:c=(L n.id).cl=>hA (by rw[z];exact yC))];exact ai
 ·rw[lQ] at ai;obtain⟨o,aI,_⟩:=O.at_.there c ai;exact⟨.inl ai,eM c (by rw[aI];nofun)⟩
 ·obtain⟨ic,bY⟩:=O.at_.a4;refine⟨⟨ic,cu _ _ bY⟩,?_,λcQ pF=>?_⟩
  ·rw[aj (e4.1 n ak).2.1.symm,O.at_.nd]
   congr 2
   unfold lW;show _=(W.nodes.map (Tm.gb n.id k b)).map _;rw[ff];refine kP λm _=>?_;show _=(cf (Tm.gb n.id k b m).id,V.ref (L (Tm.gb n.id k b m).id).na);rw[(Tm.ox n.id k b m).1]
  ·obtain⟨m,hm,rfl⟩:=dp.mp (show cQ∈W.nodes.map (Tm.gb n.id k b) from pF);have M:=O.at_.nodes m hm;obtain⟨i5,kA⟩:=M.ins;obtain⟨dm,c2,Gp⟩:=Tm.ox n.id k b m;rw[dm];have ep:h9 (Tm.gb n.id k b m)=h9 m:=by unfold h9;rw[dm,c2]
   refine⟨⟨i5,by rw[Gp,ep];exact cu _ _ kA⟩,?_,?_⟩
   ·rw[dm,Tm.aaw];have b9:(L m.id).ca≠(L n.id).cl:=by
     by_cases e:m.id=n.id
     ·rw[e];exact(e4.1 n ak).2.2
     ·exact(e4.2 m hm n ak e).2.1
    rw[aj b9];exact M.ch
   ·by_cases e:m.id=n.id
    ·have:m=n:=O.wf.inj hm ak e;subst this;rw[aG];unfold Tm.gb;rw[aV rfl]
    ·rw[aj (e4.2 m hm n ak e).2.2.2];unfold Tm.gb;rw[aN e];exact M.cs
def ab9 {P:bg}{w:bb}{K:PySem.W.Frag}{ae:Str->Option af}{base:a5}{aO aM eO:U}{fP:b6}{f:U}{fd:b6}(T:lD K ae aM aO eO fP)(d2:ae "len"=none)(F:dd K "mark" "Tree.mark" (et 3) f fd):aQ P w K ae base bc 1 f fd ahy (IF aM aO):=by
 refine F.ok QP (λbU A outer s H vs Q E au h=>?_);obtain⟨a4,nd,F,W,L,x,k,on,rfl,O,q⟩:=h;have aW:=kB au;obtain⟨mt,yQ⟩:=T.GY;obtain⟨aq,dA⟩:=O.at_.a4;have dA:=O.bQ _ _ dA;have fz:=O.at_.nd;have hw:=O.wf;refine⟨_,a_ (dh (jA (pW aW (ag 1) (bT (ag 0) rfl)) (by with_unfolding_all rfl)) (bo (cp (dL (aK (kc kk bM) aY)))) dn)
  (a_ (cE (i:=4) QP.nd (bT (jz aW (bT (ag 0) rfl) (ag 1) (λ_ _=>rfl)) rfl))
  (a_ (dh (eJ gA (ag 3) bM (d4 _)) (a_ (hQ (acJ (ag 4) (ag 2) sG ⟨rfl,rfl,rfl,rfl⟩)) (bo (cp (dL (aK bM aY))))) dn)
  (a_ (dh (kX.pt (HP (jA (pW aW (ag 2) (ag 4)) (by with_unfolding_all rfl)) (HQ (eJ gA (gX EK (by rfl) d2 jd (aK (ag 4) aY)) (hg (v:=.int 16) rfl yQ ⟨mt,rfl⟩) (d4 _))))) (bo (cp (dL (aK (kc kk bM) aY)))) dn)
  (a_ (wh aW (ag 4) (ag 2) pX rfl)
  (bo (cp (dL (aK bM aY)))))))),?_⟩
 have fy:=dy.k (H:=H) (k:=cf x) fz;rw[lX] at fy;refine⟨_,rfl,_,rfl,a4,aM,aq,_,_,rfl,dA,T.gE,T.h5,jF,nd,_,rfl,fy,_,rfl,?_⟩;have c8:Sty.step W (.mark x k on)=(match Sty.node W x with
  |none=>(W,NO)
  |some n=>if on≠0/\n.classes.contains k=false/\Sty.CLASSES<=n.classes.length then(W,FULL) else({W with nodes:=W.nodes.map (Tm.gb n.id k (on !=0))},says 0)):=rfl
 cases am:Sty.node W x with
 |none=>refine d3 ⟨_,rfl,cH 1,λr a'=>?_⟩;rw[am] at c8;exact q.early O c8 rfl a'
 |some n=>
  obtain⟨ak,nq⟩:=Tm.ra am;rw[am] at fy c8;replace c8:Sty.step W (.mark x k on)=if on≠0/\n.classes.contains k=false/\Sty.CLASSES<=n.classes.length then(W,FULL) else({W with nodes:=W.nodes.map (Tm.gb n.id k (on !=0))},says 0):=c8
  refine eS ?_;have N:=O.at_.nodes n ak;obtain⟨gW,dk⟩:=N.ins;have dk:=O.bQ _ _ dk;have Bv:=hw.cls n ak;refine⟨_,rfl,a4,aM,aq,_,_,rfl,dA,T.gE,T.h5,jF,_,rfl,nd,_,rfl,fy,_,aO,gW,_,_,rfl,dk,T.iV,T.G6,Po,?_⟩;refine⟨_,rfl,rfl,_,rfl,?_⟩;by_cases h0:on=0
  ·refine fB (ej (by rw[h0];rfl)) ?_;rw[aN (by intro z;exact z.1 h0)] at c8;have dG:(on !=0)=false:=by rw[h0];rfl
   rw[dG] at c8;refine⟨_,rfl,(L n.id).cl,rfl,.inl ⟨_,.inl N.cs⟩,_,rfl,_,cf k,N.cs,rfl,λv bx=>?_,λbx=>?_⟩
   ·refine⟨cH 1,λr a'=>?_⟩;have e:pn (ir n.classes) (cf k)=ir (Sty.marked n k false).classes:=E0 n.classes (λj=>j) (λ_=>V.bL true) k;rw[e] at a' ⊢;exact q.done c8 (O.B4 ak k false) rfl a'
   ·refine⟨cH 1,λr a'=>?_⟩;have e:(Sty.marked n k false).classes=n.classes:=by
     show n.classes.filter (λj=>j !=k)=n.classes;refine filter_eq_self.mpr λj bF=>?_;have aw:n.classes.contains k=false:=by rw[<-ET,bx];rfl
     have:j≠k:=λz=>by rw[z] at bF;rw[kn.mpr bF] at aw;cases aw
     simpa using this
    have S:=O.B4 ak k false;rw[e,RP N.cs] at S;exact q.done c8 S rfl a'
  ·refine df (cW (by intro z;injection z with z;omega)) ?_;have dG:(on !=0)=true:=by simpa using h0
   rw[dG] at c8;have vA:(!(ei (ir n.classes) (cf k)).isSome)= !n.classes.contains k:=by rw[ET]
   refine⟨_,rfl,_,rfl,(L n.id).cl,_,rfl,dy.k (k:=cf k) N.cs,_,rfl,?_⟩;rw[vA];cases aw:n.classes.contains k with
   |true=>
    refine eS ?_;rw[aN (by rw[aw];intro z;cases z.2.1)] at c8;refine eS ?_;refine⟨_,rfl,_,rfl,(L n.id).cl,_,rfl,mc.k (k:=cf k) N.cs (by unfold ir;rw[cc];exact jP (by omega)),?_⟩;have BB:k∈n.classes:=kn.mp aw;have e:fs (ir n.classes) (cf k) (.bL true)=ir (Sty.marked n k true).classes:=by
     have aE:(Sty.marked n k true).classes=n.classes:=by show(if true=true then(if n.classes.contains k=true then n.classes else n.classes++[k]) else n.classes.filter λj=>j !=k)=_;rw[aV rfl,aV aw]
     rw[aE];unfold fs;rw[aV (by rw[z7,ET];exact aw)];unfold ir;rw[ff];refine kP λj _=>?_;show(if cf j=cf k then(cf j,V.bL true) else(cf j,V.bL true))=_;split<;>rfl
    rw[e];refine⟨cH 1,λr a'=>q.done c8 (O.B4 ak k true) rfl a'⟩
   |false=>
    refine d3 ?_;refine⟨_,rfl,(L n.id).cl,_,rfl,N.cs,rfl,_,rfl,?_⟩;rw[show(ir n.classes).length=n.classes.length by unfold ir;rw[cc]];by_cases MP:n.classes.length=16
    ·refine fB (ej (by rw[MP];rfl)) ⟨_,rfl,cH 1,λr a'=>?_⟩;rw[aV ⟨h0,aw,by rw[MP];exact b5 16⟩] at c8;exact q.early O c8 rfl a'
    ·refine df (cW (by intro z;injection z with z;omega)) ?_;rw[aN (by rintro⟨_,_,z⟩;have z:16<=n.classes.length:=z;omega)] at c8;refine⟨_,rfl,_,rfl,(L n.id).cl,_,rfl,mc.k (k:=cf k) N.cs (by unfold ir;rw[cc];exact jP (by omega)),?_⟩;have BB:k∉n.classes:=λz=>by rw[kn.mpr z] at aw;cases aw
     have e:fs (ir n.classes) (cf k) (.bL true)=ir (Sty.marked n k true).classes:=by
      have aE:(Sty.marked n k true).classes=n.classes++[k]:=by show(if true=true then(if n.classes.contains k=true then n.classes else n.classes++[k]) else n.classes.filter λj=>j !=k)=_;rw[aV rfl,aN (by rw[aw];exact gg)]
      rw[aE,zD (by unfold ir;rw[ff];exact λz=>BB ((vU (l:=n.classes) (n:=k)).mp z))];unfold ir;rw[hi];rfl
     rw[e];refine⟨cH 1,λr a'=>q.done c8 (O.B4 ak k true) rfl a'⟩
def aeE (am:ns.Perm (l.map Int.ofNat))(aD:ns.Pairwise (·<=·)):ns=(Tm.oO l).map Int.ofNat:=by have aa:(Tm.oO l).Perm l:=List.mergeSort_perm l _;have ac:(Tm.oO l).Pairwise (λa b=>decide (a<=b)=true):=List.pairwise_mergeSort (le:=λa b=>decide (a<=b)) (λa b c aa ac=>by simp at *;omega) (λa b=>by simp;omega) l;refine(am.trans (aa.map Int.ofNat).symm).eq_of_pairwise (le:=(·<=·)) (λa b _ _ aa ac=>Int.le_antisymm aa ac) aD ?_;rw[w0];exact ac.imp λ{a b} h=>Int.ofNat_le.mpr (by simpa using h)
def Ik {K:PySem.W.Frag}{c:TT}{i:Nat}{y:V}{u:dj}{D:Ends}{σ:aB.St}{H:ah}(b:Bool)(st:U)(xs:List V)(aD:σ[i]? =some (some (.ref st)))(ix:H st=some (.lst xs))(aC:xs.length < sizeLine)
  (ai:∀Q:Bool->ah->Prop,Q b H->c σ H Q) (h:u D σ (upd H st (.lst (if b=true then xs++[y] else xs)))):ki (oP c (wE (wD K "list" wk (eE i) (jE (ls y) kh))) oQ) u D σ H:=by
 refine ai _ ?_;cases b with
 |true=>exact d3 ⟨.ref st,aD,.inl ⟨rfl,_,bA.of ix⟩,st,xs,y,rfl,rfl,ix,aC,h⟩
 |false=>refine eS ?_;rw[aN gg,RP ix] at h;exact h
def aei {i:Nat}(b:Bool)(v w:V)(aD:σ[i]? =some (some v))(ai:∀Q:Bool->ah->Prop,Q b H->c σ H Q)(he:b=true->∀Q:cM,Q w H->te σ H Q)(h:u D (σ.set i (some (if b=true then w else v))) H):
  ki (oP c (rl te (jr i)) oQ) u D σ H:=by
 refine ai _ ?_;cases b with
 |true=>exact d3 (he rfl _ h)
 |false=>
  refine eS ?_;have e:σ.set i (some v)=σ:=by
   refine List.ext_getElem? λj=>?_;by_cases bF:i=j
   ·subst bF;rw[wU (eX.mp aD).1,aD]
   ·rw[getElem?_set_ne bF]
  rw[aN gg,e] at h;exact h
section
variable {P:bg}{w:bb}{K:PySem.W.Frag}{ae:Str->Option af}{base:a5}{CX ay aJ aT du aO aM cF cZ jo eO:U}{fP:b6}
structure pf (ae:Str->Option af):Prop where
 len:ae "len"=none
 rj:ae "sorted"=none
 RJ:ae "tuple"=none
 li:ae "list"=none
 af':ae "zip"=none
 re:ae "reversed"=none
 en:ae "enumerate"=none
inductive Q'(aM aO:U)(vs:List V)(H:ah)(Q:cM)(_:fG):Prop|i(a4 nd:U)(F:ah)(W:Sty.State)(L:Nat->el)(n:Sty.Node)(_:vs=[.ref a4,bj n.id])(_:h1 aM aO F H W L a4 nd)(_:Tm.bD W)(_:aA F H)(_:n∈W.nodes)(_:∀ab c',aA H ab->hp (Diff H ab) c' (iD (Tm.ju W n))->Q (.ref c') ab)
def zV:c3 ["self","number","node","row","states"] ahq (ct (et 4)):={}
def ab8 {f:U}{fd:b6}(T:lD K ae aM aO eO fP)(B:pf ae)(F:dd K "look" "Tree.look" (et 4) f fd):aQ P w K ae base bc 1 f fd ahq (Q' aM aO):=by
 refine F.ok zV (λbU A outer s H vs Q E au h=>?_);obtain⟨a4,nd,F,W,L,n,rfl,O,hw,bQ,ak,q⟩:=h;have aW:=kB au;obtain⟨aq,dA⟩:=O.a4;have dA:=bQ _ _ dA;have fz:=O.nd;have N:=O.nodes n ak;obtain⟨gW,dk⟩:=N.ins;have dk:=bQ _ _ dk;have fy:=dy.k (H:=H) (k:=cf n.id) fz;rw[lX,hw.jy ak] at fy;refine⟨_,a_ (cE (i:=2) zV.nd (jz aW (bT (ag 0) rfl) (ag 1) (λ_ _=>rfl)))
  (a_ (cE (i:=3) zV.nd (dL (aK (ag 1) aY)))
  (a_ (dh (jA (zv (bT (ag 2) rfl))) (bo (cE (i:=3) zV.nd (bT (jz aW (bT (ag 0) rfl) (bT (ag 2) rfl) (λ_ _=>rfl)) rfl))) dn)
  (a_ (cE (i:=4) zV.nd (dL aY))
  (a_ (dh (eJ gA (da gk (ag 3) bM (λ_ _=>rfl)) (ag 1) (d4 _)) (bo (hQ (lh kR mY nK nz (ag 4) (aK fq aY)))) dn)
  (a_ (dh (eJ gA (da gk (ag 3) (kc kk bM) (λ_ _=>rfl)) (ag 1) (d4 _)) (bo (hQ (lh kR mY nK nz (ag 4) (aK fq aY)))) dn)
  (a_ (dh (eJ gA (gX j6 (by rfl) B.len jd (aK (bT (ag 2) rfl) aY)) bM (d4 _)) (bo (hQ (lh kR mY nK nz (ag 4) (aK fq aY)))) dn)
  (bo (cp (nA (aK (bT (ag 2) rfl) (aK (Cw KR (by rfl) B.RJ PyProof.Rows.boot_tuple (aK (gX (Us rfl) (by rfl) B.rj PyProof.Rows.boot_sorted (aK (bT (ag 2) rfl) aY)) aY)) (aK (Cw KR (by rfl) B.RJ PyProof.Rows.boot_tuple (aK (ag 4) aY)) aY)))))))))))),?_⟩
 refine⟨_,rfl,a4,aM,aq,_,_,rfl,dA,T.gE,T.h5,jF,_,rfl,nd,_,rfl,fy,?_⟩;refine⟨_,rfl,cH 1,λh_ YN=>?_⟩;have s0:aA H (upd H h_ (.lst [bj n.id])):=aA.upd YN;have b9:Sty.siblings W n≠[]:=λz=>by have:=hw.Im ak;rw[z] at this;cases this
 obtain⟨row,nt,Gd⟩:∃row:U,upd H h_ (.lst [bj n.id]) row=some (.lst ((Sty.siblings W n).map bj))/\∃wv:V,(V.ref row=if(!decide (h9 n=.b1))=true then wv else .ref h_)/\((!decide (h9 n=.b1))=true->∀Q:cM,Q wv (upd H h_ (.lst [bj n.id]))->mP K (I0 (mP K (eE 0) "nodes") (mP K (eE 2) "parent")) "children" [some (.ref a4),some (bj n.id),some (.ref (L n.id).na),some (.ref h_),none] (upd H h_ (.lst [bj n.id])) Q):=by
  by_cases am:n.parent=n.id
  ·have aE:h9 n=.b1:=aV am;have aL:Sty.siblings W n=[n.id]:=aV am;refine⟨h_,by rw[aG,aL];rfl,.ref h_,by split<;>rfl,λz=>?_⟩;rw[aE] at z;cases z
  ·have aE:h9 n=bj n.parent:=aN am;have aL:Sty.siblings W n=Sty.children W n.parent:=aN am;obtain⟨p,nr,mA⟩:=Tm.gy.mp (hw.uv ak);have u4:=O.nodes p nr;obtain⟨HB,qU⟩:=u4.ins;have qU:=bQ _ _ qU;have yJ:dy (upd H h_ (.lst [bj n.id])) nd (h9 n) (some (.ref (L p.id).na)):=by have z:=dy.k (H:=upd H h_ (.lst [bj n.id])) (k:=cf n.parent) (s0 _ _ fz);rw[lX,<-mA,hw.jy nr] at z;rw[aE,<-mA];exact z
   refine⟨(L p.id).ca,by rw[aL,<-mA];exact s0 _ _ u4.ch,.ref (L p.id).ca,by rw[aE];rfl,λ_ Q az=>?_⟩;exact⟨_,rfl,a4,aM,aq,_,_,rfl,s0 _ _ dA,T.gE,T.h5,jF,_,rfl,(L n.id).na,aO,gW,_,_,rfl,s0 _ _ dk,T.iV,T.uf,vY,nd,_,rfl,yJ,_,aO,HB,_,_,rfl,s0 _ _ qU,T.iV,T.su,ui,az⟩
 obtain⟨wv,iv,Gd⟩:=Gd;show ki (oP (Dr (Rw (mP K (eE 2) "parent"))) (rl (mP K (I0 (mP K (eE 0) "nodes") (mP K (eE 2) "parent")) "children") (jr 3)) oQ) _ _ [some (.ref a4),some (bj n.id),some (.ref (L n.id).na),some (.ref h_),none] (upd H h_ (.lst [bj n.id]));refine aei (i:=3) (!decide (h9 n=.b1)) (.ref h_) wv rfl (λQ az=>⟨_,rfl,(L n.id).na,aO,gW,_,_,rfl,s0 _ _ dk,T.iV,T.uf,vY,_,rfl,az⟩) Gd ?_;rw[<-iv];refine⟨cH 0,λst fR=>?_⟩;generalize py:upd H h_ (.lst [bj n.id])=H1 at *;have ag9:row≠st:=a8 nt fR;have BK:∀xs,aA H1 (upd H1 st (.lst xs)):=λxs=>aA.upd fR;obtain⟨a,l,a9⟩:=List.exists_cons_of_ne_nil b9;obtain⟨R4,z,E'⟩:∃R4 z,Sty.siblings W n=R4++[z]:=⟨_,_,(Ab b9).symm⟩;have U':decide (bj a=bj n.id)=((Sty.siblings W n).head?==some n.id):=by rw[a9,lv];unfold bj;simp;omega
 have tE:decide (bj z=bj n.id)=((Sty.siblings W n).getLast?==some n.id):=by rw[E',List.getLast?_append,lv];unfold bj;simp;omega
 have E6:decide (V.int (((Sty.children W n.id).map bj).length:Int)=V.int 0)=(Sty.children W n.id).isEmpty:=by
  rw[cc];cases Sty.children W n.id with
  |nil=>rfl
  |cons c cs=>exact cW (by intro z;injection z with z;rw[fK] at z;omega)
 have N0:∀xs,bA K (upd H1 st (.lst xs)) row ((Sty.siblings W n).map bj):=λxs=>bA.of ((BK xs) _ _ nt);have lp:aA H H1:=s0;unfold jr;dsimp only[List.set];show ki (oP _ (wE (wD K "list" wk (eE 4) (jE (ls (.str "first")) kh))) oQ) _ _ [some (.ref a4),some (bj n.id),some (.ref (L n.id).na),some (.ref row),some (.ref st)] (upd H1 st (.lst []));refine Ik (i:=4) ((Sty.siblings W n).head?==some n.id) st [] rfl aG (by show 0 < sizeLine;decide) (λQ az=>⟨_,rfl,row,_,0,bj a,rfl,rfl,N0 [],by rw[a9];exact dT (j:=0) rfl,_,rfl,rfl,_,rfl,by rw[U'];exact az⟩) ?_;rw[i_];show ki (oP _ (wE (wD K "list" wk (eE 4) (jE (ls (.str "last")) kh))) oQ) _ _ [some (.ref a4),some (bj n.id),some (.ref (L n.id).na),some (.ref row),some (.ref st)] _;refine Ik (i:=4) ((Sty.siblings W n).getLast?==some n.id) st _ rfl aG (by split<;>decide) (λQ az=>⟨_,rfl,_,rfl,row,_,-1,bj z,rfl,rfl,N0 _,by rw[E',hi];exact T0 _ _,_,rfl,rfl,_,rfl,by rw[tE];exact az⟩) ?_;rw[i_];show ki (oP _ (wE (wD K "list" wk (eE 4) (jE (ls (.str "empty")) kh))) oQ) _ _ [some (.ref a4),some (bj n.id),some (.ref (L n.id).na),some (.ref row),some (.ref st)] _;refine Ik (i:=4) (Sty.children W n.id).isEmpty st _ rfl aG (by split<;>split<;>decide) (λQ az=>⟨_,rfl,(L n.id).na,aO,gW,_,_,rfl,(BK _) _ _ (lp _ _ dk),T.iV,T.su,ui,(L n.id).ca,_,rfl,.inl (bA.of ((BK _) _ _ (lp _ _ N.ch))),rfl,_,rfl,by rw[E6];exact az⟩) ?_;rw[i_];have Vw:∀(gM gD nc:Bool),(if nc=true then(if gD=true then(if gM=true then([]:List V)++[.str "first"] else[])++[.str "last"] else if gM=true then[]++[.str "first"] else[])++[.str "empty"] else if gD=true then(if gM=true then[]++[.str "first"] else[])++[.str "last"] else if gM=true then[]++[.str "first"] else[])=(lq gM gD nc).map V.str:=by intro gM gD nc;cases gM<;>cases gD<;>cases nc<;>rfl
 rw[Vw];have k7:=hw.cls n ak;have pE:(ir n.classes).map (·.1)=(n.classes.map Int.ofNat).map Sum.inl:=by unfold ir;rw[ff,ff];rfl
 have s2:aA H (upd H1 st (.lst ((kf (Tm.ju W n)).map V.str))):=lp.trans (BK _);refine⟨_,rfl,(L n.id).na,aO,gW,_,_,rfl,s2 _ _ dk,T.iV,T.Pa,aa5,_,rfl,(L n.id).na,aO,gW,_,_,rfl,s2 _ _ dk,T.iV,T.G6,Po,(L n.id).cl,_,_,rfl,.inl (s2 _ _ N.cs),pE,by rw[cc];omega,λpV cY vE Y3 eR=>?_⟩;rw[aeE vE Y3];refine⟨cY,_,rfl,.inl ⟨bA.of aG,λt1 Gg=>?_⟩⟩;have s3:aA H (upd (upd H1 st (.lst ((kf (Tm.ju W n)).map V.str))) cY (.lst (((Tm.oO n.classes).map Int.ofNat).map V.int))):=s2.trans (aA.upd eR);have Y4:upd (upd (upd H1 st (.lst ((kf (Tm.ju W n)).map V.str))) cY (.lst (((Tm.oO n.classes).map Int.ofNat).map V.int))) t1 (.tup (((Tm.oO n.classes).map Int.ofNat).map V.int)) st=some (.lst ((kf (Tm.ju W n)).map V.str)):=by have e:upd H1 st (.lst ((kf (Tm.ju W n)).map V.str)) st=some (.lst ((kf (Tm.ju W n)).map V.str)):=aG;have aL:=(aA.upd eR (o:=.lst (((Tm.oO n.classes).map Int.ofNat).map V.int))) _ _ e;exact(aA.upd Gg) _ _ aL
 refine⟨_,rfl,st,_,rfl,.inl ⟨bA.of Y4,λfV BJ=>?_⟩⟩;refine⟨cH 3,λp am=>?_⟩;have s4:=s3.trans (aA.upd Gg (o:=.tup (((Tm.oO n.classes).map Int.ofNat).map V.int)));have s5:=s4.trans (aA.upd BJ (o:=.tup ((kf (Tm.ju W n)).map V.str)));have i6:=s5.trans (aA.upd am (o:=.tup [bj n.tag,.ref t1,.ref fV]));have Bk:t1≠fV:=λz=>by rw[<-z,aG] at BJ;cases BJ
 have W4:t1≠p:=λz=>by rw[<-z,aj Bk,aG] at am;cases am
 have W6:fV≠p:=λz=>by rw[<-z,aG] at am;cases am
 refine q _ p i6 ⟨t1,fV,iX (s5.free am) aG,iX (s3.free Gg) ?_,iX (s4.free BJ) ?_⟩
 ·rw[aj W4,aj Bk,aG];rfl
 ·rw[aj W6,aG];rfl
end
end bf
namespace aB
open PySem PySem.Spec PyProof.Rows
def VK {K:PySem.W.Frag}{a:U}{xs:List V}{g:iS}{cL:dj}{D:Ends}{σ:aB.St}{H:ah}(Pv:Nat->aB.St->ah->Prop)(h0:Pv 0 σ H)(aC:∀i σ H,i<=xs.length->Pv i σ H->bA K H a xs)
  (aD:∀i x σ H,i < xs.length->xs[xs.length - 1 - i]? =some x->Pv i σ H->g x σ H λσ2 ap=>cL {D with cG:=Pv (i+1),dP:=Pv (i+1),hI:=D.cG} σ2 ap) (hd:∀σ H,Pv xs.length σ H->D.cG σ H):
  ∃W:Nat->Nat->aB.St->ah->Prop,(∃m,W 0 m σ H)/\∀i m σ H,W i m σ H->
   ((xd K a xs.length).stop i H/\D.cG σ H)\/((xd K a xs.length).go i H/\∃N:aB.St->ah->Prop,(∀σ' ab,N σ' ab->∃cQ,cQ < m/\W (i+1) cQ σ' ab)/\∀x ab,(xd K a xs.length).p6 i H x ab->g x σ ab λσ2 ap=>cL {D with cG:=N,dP:=N,hI:=D.cG} σ2 ap):=by
 refine⟨λi m σ H=>m=xs.length - i/\i<=xs.length/\Pv i σ H,⟨xs.length,by simp,eY _,h0⟩,?_⟩;rintro i m σ H ⟨rfl,aR,p⟩;have q:=aC i σ H aR p;by_cases cO:i < xs.length
 ·refine .inr ⟨⟨cO,xs,xs[xs.length - 1 - i]'(by omega),q,iK (by omega)⟩,Pv (i+1),λσ' ab ef=>⟨xs.length - (i+1),by omega,rfl,cO,ef⟩,λv ab y=>?_⟩;obtain⟨rfl,y⟩:=y;exact aD i v σ _ cO (y xs q) p
 ·have e:i=xs.length:=by omega
  subst e;exact .inl ⟨b5 _,hd σ H p⟩
end aB
namespace bf
open PySem PySem.Spec PyProof.Rows aB
open Sty (Bytes)
def m7.eK (e:∀b xs,A b=some (.tup xs)->B b=some (.tup xs)):m7 A v r->m7 B v r
 |⟨p,c',aa,ac,av⟩=>⟨p,c',aa,e _ _ ac,av.eK e⟩
def Ld (e:∀b xs,H1 b=some (.tup xs)->ap b=some (.tup xs)):∀b xs,Diff H H1 b=some (.tup xs)->Diff H ap b=some (.tup xs):=λb xs h=>by obtain⟨aa,ac⟩:=mH h;exact iX aa (e _ _ ac)
inductive zZ(aM aO:U)(vs:List V)(H:ah)(Q:cM)(_:fG):Prop|i(a4 nd:U)(F:ah)(W:Sty.State)(L:Nat->el)(_:vs=[.ref a4])(_:h1 aM aO F H W L a4 nd)(_:Tm.bD W)(_:aA F H)(_:∀ab eb,aA H ab->m8 (Diff H ab) eb (Tm.rowsOf W)->Q (.ref eb) ab)
def ri:c3 ["self","rows","waiting","pair","number","node","children","ahead","child"] ahn (ct (et 5)):={}
def xu (H:ah)(W:Sty.State)(v:V)(x:Nat):Prop:=∃p,v=.ref p/\H p=some (.tup [bj x,oD (Tm.g_ W x)])
def xu.eK (e:∀b xs,H b=some (.tup xs)->ab b=some (.tup xs)){x:Nat}:xu H W v x->xu ab W v x
 |⟨p,aa,ac⟩=>⟨p,aa,e _ _ ac⟩
def acD (n:Sty.Node):h9 n=oD (if n.parent=n.id then none else some n.parent):=by unfold h9;split<;>rfl
theorem P0:∀{a:List α} {b:List β} {c:List α} {d:List β},Paired F a b->Paired F c d->Paired F (a++c) (b++d)
 |_,_,_,_,.nil,h=>h
 |_,_,_,_,.cons r t,h=>.cons r (P0 t h)
def acB:∀{xs:List α} {bO:List β} {y:β},Paired F xs (bO++[y])->∃x,xs=xs.dropLast++[x]/\F x y/\Paired F xs.dropLast bO
 |xs,bO,y,h=>by
  have aC:=fu h;rw[dC,List.length_singleton] at aC;have b9:xs≠[]:=λz=>by rw[z] at aC;simp at aC
  have e:=(Ab b9).symm;refine⟨xs.getLast b9,e,?_,?_⟩
  ·refine ut (i:=bO.length) h ?_ (by simp);rw[List.getLast_eq_getElem];rw[iK (by omega)]
   congr 2
   omega
  ·refine Cv (by simp;omega) λi x u aa ac=>?_;have aR:i < bO.length:=(eX.mp ac).1;refine ut (i:=i) h ?_ (by rw[wT aR];exact ac);rw[e,wT (by simp;omega)];exact aa
def ab4 {P:bg}{w:bb}{K:PySem.W.Frag}{ae:Str->Option af}{base:a5}{aO aM eO:U}{fP:b6}{f f4:U}{fd n':b6}(T:lD K ae aM aO eO fP)(B:pf ae)(F:dd K "in_order" "Tree.in_order" (et 5) f fd)(j2:cC K aM "look" "Tree.look" (et 4) ahq f4 n'):aQ P w K ae base bc 2 f fd ahn (zZ aM aO):=by
 have rA:aQ P w K ae base bc 1 f4 n' ahq (Q' aM aO):=ab8 T B j2.fn;refine F.ok ri (λbU A outer s H vs Q E au h=>?_);obtain⟨a4,nd,F,W,L,rfl,O,hw,bQ,q⟩:=h;have aW:=kB au;obtain⟨ia,tZ⟩:=T.root;obtain⟨aq,dA⟩:=O.a4;have dA:=bQ _ _ dA;have fz:=O.nd;refine⟨_,a_ (cE (i:=1) ri.nd (dL aY))
  (a_ (cE (i:=2) ri.nd (dL (aK (nA (aK (hg (v:=.int 0) rfl tZ ⟨ia,rfl⟩) (aK sG aY))) aY)))
  (a_ (sI kS (eJ Ht (gX j6 (by rfl) B.len jd (aK (ag 2) aY)) bM (d4 _))
   (a_ (cE (i:=3) ri.nd (P4 kR PySem.F.slot_list_pop PySem.F.type_list_pop aaR (ag 2)))
   (a_ (cE (i:=4) ri.nd (da la (ag 3) bM (λ_ _=>rfl)))
   (a_ (cE (i:=5) ri.nd (jz aW (bT (ag 0) rfl) (ag 4) (λ_ _=>rfl)))
   (a_ (hQ (lh kR mY nK nz (ag 1) (aK (nA (aK (ag 4) (aK (bT (ag 5) rfl) (aK (da la (ag 3) bM (λ_ _=>rfl)) (aK (fC (ag 0) T.gE j2.dJ rA au j2.bi .nil cA (aK (ag 4) aY)) aY))))) aY)))
   (a_ (cE (i:=6) ri.nd (acK rfl (by rfl) B.li (by rfl) B.af' (aK (eg wb (dL (aK sG aY)) (bT (ag 5) rfl)) (aK (bT (ag 5) rfl) aY))))
   (bo (lZ kS rfl (acW (by rfl) B.re (aK (ag 6) aY)) (oI rfl (gY (fJ (i:=7) ri.nd) (gY (fJ (i:=8) ri.nd) oJ)))
    (bo (hQ (lh kR mY nK nz (ag 2) (aK (nA (aK (ag 8) (aK (ag 7) aY))) aY))))))))))))
  (bo (cp (ag 1))))),?_⟩
 refine⟨cH 0,λeb Gb=>?_⟩;refine⟨cH 2,λfc pI=>⟨cH 1,λwr i3=>?_⟩⟩;have PB:fc≠eb:=λz=>by rw[z,aG] at pI;cases pI
 have PG:wr≠fc:=λz=>by rw[z,aG] at i3;cases i3
 rw[aj PG] at i3;have zl:wr≠eb:=λz=>by rw[z,aG] at i3;cases i3
 rw[aj zl] at i3;rw[aj PB] at pI
 let S6:List Nat->List Nat->ah->Prop:=λdone st ab=>aA H ab/\Tm.qt W done st/\(∃bC,ab eb=some (.lst bC)/\Paired (m7 (Diff H ab)) bC (done.map λx=>Tm.rowOf W (Tm.oz W x)))/\∃ws,ab wr=some (.lst ws)/\Paired (xu ab W) ws st
 refine⟨λm σ ab=>∃done st gJ v4 e7 v6 ig jG,m=128 - done.length/\σ=[some (.ref a4),some (.ref eb),some (.ref wr),gJ,v4,e7,v6,ig,jG]/\S6 done st ab,⟨_,[],[0],none,none,none,none,none,none,rfl,rfl,?_⟩,?_⟩
 ·refine⟨λb o I=>?_,hw.aeM,⟨[],?_,.nil⟩,[.ref fc],aG,.cons ⟨fc,rfl,?_⟩ .nil⟩
  ·rw[aj (a8 I i3),aj (a8 I pI),aj (a8 I Gb)];exact I
  ·rw[aj zl.symm,aj PB.symm];exact aG
  ·rw[aj PG.symm,aG,hw.HY];rfl
 ·rintro m σ ab ⟨done,st,gJ,v4,e7,v6,ig,jG,rfl,rfl,s1,gR,⟨bC,nu,t5⟩,ws,BM,pM⟩;have d2:=gR.len hw;have t7:ws.length=st.length:=fu pM;have mD:bC.length=done.length:=by rw[fu t5,cc]
  refine⟨_,rfl,wr,ws,rfl,.inl (bA.of BM),_,_,rfl,rfl,_,rfl,?_⟩;rw[t7];by_cases he:st=[]
  ·subst he;refine df (cW (by show ¬(0:Int) < ((0:Nat):Int);omega)) ?_;refine⟨_,rfl,q ab eb s1 ⟨bC,iX Gb nu,?_⟩⟩;rw[gR.done] at t5;exact t5
  ·have b9:st.dropLast++[st.getLast he]=st:=Ab he;generalize st.dropLast=eh at b9;generalize st.getLast he=x at b9;subst b9;refine fB (ej (by rw[dC];show(0:Int) < ((eh.length+1:Nat):Int);omega)) ⟨_,λ_ _ z=>z,?_⟩;obtain⟨y,gF,⟨p,rfl,am⟩,Gn⟩:=acB pM;have Zj:x∈Tm.ids W:=gR.mem x (by simp);obtain⟨n,ak,rfl⟩:=Tm.gy.mp Zj;have N:=O.nodes n ak;obtain⟨gW,dk⟩:=N.ins;have dk:=bQ _ _ dk;have agA:dy H nd (bj n.id) (some (.ref (L n.id).na)):=by have z:=dy.k (H:=H) (k:=cf n.id) fz;rw[lX,hw.jy ak] at z;exact z
   refine⟨_,rfl,.inl ⟨rfl,_,bA.of BM⟩,wr,ws,.ref p,rfl,rfl,BM,by rw[gF];simp,?_⟩;generalize agK:ws.dropLast=uM at Gn ⊢;generalize js:upd ab wr (.lst uM)=ap;have s2:aA H ap:=λb o I=>by rw[<-js,aj (a8 I i3)];exact s1 b o I
   have fV:∀b xs,ab b=some (.tup xs)->ap b=some (.tup xs):=λb xs I=>by rw[<-js,aj (fo I BM nofun)];exact I
   have Zf:ap wr=some (.lst uM):=by rw[<-js];exact aG
   have Gh:ap eb=some (.lst bC):=by rw[<-js,aj zl.symm];exact nu
   have X7:dy ap nd (bj n.id) (some (.ref (L n.id).na)):=by have z:=dy.k (H:=ap) (k:=cf n.id) (s2 _ _ fz);rw[lX,hw.jy ak] at z;exact z
   refine⟨_,rfl,p,_,0,_,rfl,rfl,c5.of (fV _ _ am),dT (j:=0) rfl,?_⟩;refine⟨_,rfl,a4,aM,aq,_,_,rfl,s2 _ _ dA,T.gE,T.h5,jF,_,rfl,nd,_,rfl,X7,?_⟩;have Tj:h1 aM aO F ap W L a4 nd:=⟨O.a4,s2 _ _ O.nd,λm hm=>⟨(O.nodes m hm).ins,s2 _ _ (O.nodes m hm).ch,s2 _ _ (O.nodes m hm).cs⟩⟩;refine⟨_,rfl,.inl ⟨rfl,_,bA.of Gh⟩,_,rfl,_,rfl,(L n.id).na,aO,gW,_,_,rfl,s2 _ _ dk,T.iV,T.uf,vY,_,rfl,p,_,1,_,rfl,rfl,c5.of (fV _ _ am),dT (j:=1) rfl,
    _,rfl,a4,aq,_,rfl,s2 _ _ dA,dV (by w_on),_,rfl,a4,nd,F,W,L,n,rfl,Tj,hw,bQ.trans s2,ak,λbz c' s3 cT=>?_⟩
   refine⟨cH 4,λeI pJ=>?_⟩;generalize qJ:upd bz eI (.tup [bj n.id,h9 n,oD (Tm.g_ W n.id),.ref c'])=c4;have H5:aA bz c4:=by rw[<-qJ];exact aA.upd pJ
   have s4:aA H c4:=(s2.trans s3).trans H5;have CK:aA ap c4:=s3.trans H5;refine⟨eb,bC,_,rfl,rfl,CK _ _ Gh,jP (by omega),?_⟩;generalize Bp:upd c4 eb (.lst (bC++[.ref eI]))=gi;have abl:∀{b xs},c4 b=some (.tup xs)->b≠eb:=λI=>fo I (CK _ _ Gh) nofun;have uI:∀b xs,c4 b=some (.tup xs)->gi b=some (.tup xs):=λb xs I=>by rw[<-Bp,aj (abl I)];exact I
   have s5:aA H gi:=λb o I=>by rw[<-Bp,aj (a8 I Gb)];exact s4 b o I
   have BN:gi wr=some (.lst uM):=by rw[<-Bp,aj zl];exact CK _ _ Zf
   have YY:gi eb=some (.lst (bC++[.ref eI])):=by rw[<-Bp];exact aG
   have Rm:∀b xs,ab b=some (.tup xs)->gi b=some (.tup xs):=λb xs I=>uI _ _ (CK _ _ (fV _ _ I));have nt:m7 (Diff H gi) (.ref eI) (Tm.rowOf W (Tm.oz W n.id)):=by
    rw[hw.v8 ak];refine⟨eI,c',rfl,iX ((s2.trans s3).free pJ) ?_,?_⟩
    ·refine uI _ _ ?_;rw[<-qJ,aG,acD];rfl
    ·refine cT.eK λb xs I=>?_;obtain⟨aE,aL⟩:=mH I;exact iX (s2.free aE) (uI _ _ (H5 _ _ aL))
   have Y8:Paired (m7 (Diff H gi)) (bC++[.ref eI]) ((done++[n.id]).map λx=>Tm.rowOf W (Tm.oz W x)):=by rw[hi];exact oH (Paired.gH t5 λ_ _ z=>z.eK (Ld Rm)) nt
   refine⟨cH 1,λcY eR=>?_⟩;have H6:aA gi (upd gi cY (.lst [.b1])):=aA.upd eR;have dU:(Sty.children W n.id).length<=128:=by
    have aa:(Sty.children W n.id).length<=W.nodes.length:=by unfold Sty.children;rw[cc];exact s7 _ _
    have:=hw.kE;omega
   refine⟨_,rfl,(L n.id).na,aO,gW,_,_,rfl,H6 _ _ (s5 _ _ dk),T.iV,T.su,ui,cY,(L n.id).ca,_,_,rfl,rfl,aG,H6 _ _ (s5 _ _ N.ch),t_ (by rw[cc];show 1+_<=_;omega),λeC hK=>?_⟩;generalize MX:upd (upd gi cY (.lst [.b1])) eC (.lst ([.b1]++(Sty.children W n.id).map bj))=j0;have CM:aA gi j0:=by rw[<-MX];exact H6.trans (aA.upd hK)
   have Yg:j0 eC=some (.lst ([.b1]++(Sty.children W n.id).map bj)):=by rw[<-MX];exact aG
   refine⟨_,rfl,(L n.id).na,aO,gW,_,_,rfl,CM _ _ (s5 _ _ dk),T.iV,T.su,ui,eC,(L n.id).ca,_,_,rfl,bA.of Yg,bA.of (CM _ _ (s5 _ _ N.ch)),by simp,λAs as y8 adO NI om iA XD=>?_⟩;have zL:aA gi As:=CM.trans adO;have M':as.length=(Sty.children W n.id).length:=by rw[iA,cc]
   have aa7:y8≠wr:=λz=>by rw[z,CM _ _ BN] at NI;cases NI
   refine⟨_,rfl,y8,as.map V.ref,rfl,bA.of om,VK (K:=K) (a:=y8) (xs:=as.map V.ref) (λi σ m5=>∃ig jG us,σ=[some (.ref a4),some (.ref eb),some (.ref wr),some (.ref p),some (bj n.id),some (.ref (L n.id).na),some (.ref y8),ig,jG]/\de wr As m5/\m5 wr=some (.lst (uM++us))/\Paired (xu m5 W) us ((Sty.children W n.id).reverse.take i)) ⟨ig,jG,[],rfl,de.refl _ _,by rw[l7];exact zL _ _ BN,.nil⟩ ?_ ?_ ?_⟩
   ·rintro i σ m5 aR ⟨ig,jG,us,rfl,q6,_,_⟩;exact bA.of (q6 _ _ om aa7)
   ·rintro i af3 σ m5 aR Go ⟨ig,jG,us,rfl,q6,vH,t6⟩;rw[cc] at aR Go;have bF:as.length - 1 - i < (Sty.children W n.id).length:=by omega
    rw[hD] at Go;obtain⟨mI,qU,rfl⟩:=mX.mp Go;obtain⟨c,ai⟩:∃c,(Sty.children W n.id)[as.length - 1 - i]? =some c:=⟨_,iK bF⟩;have Ni:((Sty.children W n.id).map bj)[as.length - 1 - i]? =some (bj c):=by rw[hD,ai];rfl
    have XE:([V.b1]++(Sty.children W n.id).map bj)[as.length - 1 - i]? =some (oD (Tm.g_ W c)):=by
     rw[hw.Uz ai];cases e:as.length - 1 - i with
     |zero=>rfl
     |succ j=>rw[e] at bF;show((Sty.children W n.id).map bj)[j]? =_;show _=some (oD (Sty.children W n.id)[j]?);rw[hD,iK (by omega)];rfl
    have NX:=XD _ mI _ _ qU XE Ni;have abj:mI≠wr:=fo NX (zL _ _ BN) nofun;refine⟨mI,_,rfl,c5.of (q6 _ _ NX abj),rfl,?_⟩;refine⟨_,_,rfl,_,_,rfl,rfl,?_⟩;refine⟨_,rfl,.inl ⟨rfl,_,bA.of vH⟩,_,rfl,_,rfl,cH 2,λzu F9=>?_⟩;have PH:wr≠zu:=a8 vH F9;have agI:us.length<=128:=by rw[fu t6,mW,List.length_reverse];omega
    have agL:uM.length<=128:=by rw[fu Gn];rw[dC] at d2;omega
    refine⟨wr,_,_,rfl,rfl,by rw[aj PH];exact vH,jP (by rw[dC];omega),?_⟩;have z2:∀b xs,m5 b=some (.tup xs)->upd (upd m5 zu (.tup [bj c,oD (Tm.g_ W c)])) wr (.lst (uM++us++[.ref zu])) b=some (.tup xs):=λb xs I=>by rw[aj (fo I vH nofun),aj (a8 I F9)];exact I
    refine⟨some (oD (Tm.g_ W c)),some (bj c),us++[.ref zu],rfl,λb o I hA=>?_,by rw[<-wP];exact aG,?_⟩
    ·rw[aj hA,aj (a8 (q6 b o I hA) F9)];exact q6 b o I hA
    ·rw[ko];have YW:(Sty.children W n.id).reverse[i]? =some c:=by rw[List.getElem?_reverse (by omega),<-M'];exact ai
     rw[YW];refine oH (Paired.gH t6 λ_ _ z=>z.eK z2) ⟨zu,rfl,?_⟩;rw[aj PH.symm];exact aG
   ·rintro σ m5 ⟨ig,jG,us,rfl,q6,vH,t6⟩;rw[cc,M',<-List.length_reverse,lx] at t6;have Rn:∀b xs,gi b=some (.tup xs)->m5 b=some (.tup xs):=λb xs I=>q6 _ _ (zL _ _ I) (fo I BN nofun);have H8:aA H m5:=λb o I=>q6 _ _ (zL _ _ (s5 _ _ I)) (a8 I i3);refine⟨128 - (done++[n.id]).length,?_,done++[n.id],eh++(Sty.children W n.id).reverse,some (.ref p),some (bj n.id),some (.ref (L n.id).na),some (.ref y8),ig,jG,rfl,rfl,H8,gR.next hw,⟨bC++[.ref eI],?_,Paired.gH Y8 λ_ _ z=>z.eK (Ld Rn)⟩,uM++us,vH,?_⟩
    ·rw[dC] at d2 ⊢;simp at d2 ⊢;omega
    ·exact q6 _ _ (zL _ _ YY) zl.symm
    ·refine P0 (Paired.gH Gn λ_ _ z=>z.eK λb xs I=>Rn _ _ (Rm _ _ I)) t6
structure eZ where
 c7:U
 a6:U
 aS:U
def rg (p v st:V)(sel:U):List (Str×V):=[("property_number",p),("value",v),("strong",st),("selector",.ref sel)]
def adI {p v st:V}{sel:U}:(rg p v st sel).lookup ("property_number":Str)=some p:=iC
def adK {p v st:V}{sel:U}:(rg p v st sel).lookup ("value":Str)=some v:=(dV (by w_on)).trans iC
def adJ {p v st:V}{sel:U}:(rg p v st sel).lookup ("strong":Str)=some st:=(dV (by w_on)).trans ((dV (by w_on)).trans iC)
def H2 {p v st:V}{sel:U}:(rg p v st sel).lookup ("selector":Str)=some (.ref sel):=(dV (by w_on)).trans ((dV (by w_on)).trans ((dV (by w_on)).trans iC))
structure fg where
 P:bg
 w:bb
 aT:U
 ay:U
 cg:U
 ci:U
structure Eh (e:fg)(F H:ah)(r:Sty.Rule)(l:eZ)(N:Nat):Prop where
 ins:∃aq,F l.c7=some (.ins e.cg aq (rg (bj r.prop) (bj r.value) (.bL r.strong) l.a6))
 sel:hG e.P e.w e.aT e.ay F H r.sel l.a6 l.aS N
def ge (W:Sty.State)(R:Nat->eZ):List (Key×V):=W.rules.map λr=>(cf r.id,.ref (R r.id).c7)
structure nZ (e:fg)(F H:ah)(W:Sty.State)(R:Nat->eZ)(bw ax:U)(N:Nat):Prop where
 bw:∃aq,F bw=some (.ins e.ci aq [("rules",.ref ax)])
 ax:H ax=some (.cq (ge W R))
 rules:∀r∈W.rules,Eh e F H r (R r.id) N
def b_ (W:Sty.State)(R:Nat->eZ)(ax:U):List U:=ax::W.rules.flatMap λr=>[(R r.id).a6,(R r.id).aS]
structure ji (e:fg)(F H:ah)(W:Sty.State)(R:Nat->eZ)(bw ax:U)(N:Nat):Prop where
 at_:nZ e F H W R bw ax N
 wf:Tm.gp W
 bQ:aA F H
 off:∀b∈b_ W R ax,F b=none
 un:(b_ W R ax).Nodup
 le:N+128 < 1000000
structure SStep (e:fg)(F H:ah)(W:Sty.State)(R:Nat->eZ)(bw ax:U)(cz:Sty.State)(R':Nat->eZ)(N':Nat)(ab:ah):Prop where
 bu:ih (b_ W R ax) H ab
 un:(b_ cz R' ax).Nodup
 new:∀b∈b_ cz R' ax,(b∈b_ W R ax\/H b=none)/\ab b≠none
 eM:∀b,H b≠none->ab b≠none
 at_:∀br,aA F br->(∀b o,H b=none->b∉b_ cz R' ax->ab b=some o->br b=some o)->(∀b xs,ab b=some (.tup xs)->br b=some (.tup xs))->nZ e br ab cz R' bw ax N'
def hx:b∈b_ W R ax↔b=ax\/∃r∈W.rules,b=(R r.id).a6\/b=(R r.id).aS:=by unfold b_;rw[cr,l8];simp
section
variable {N N':Nat}
def nZ.there {e:fg}{F H:ah}{W:Sty.State}{R:Nat->eZ}{bw ax:U}(h:nZ e F H W R bw ax N):∀b∈b_ W R ax,∃o,H b=some o/\∀xs,o≠.tup xs:=by
 intro b I;rcases hx.mp I with rfl|⟨r,au,rfl|rfl⟩
 ·exact⟨_,h.ax,λxs z=>by cases z⟩
 ·obtain⟨es,bH,bR,a9,aq,cJ,bS,rows,_,ac,_⟩:=(h.rules r au).sel.st;exact⟨_,ac,λxs z=>by cases z⟩
 ·obtain⟨kvs,aa,_⟩:=(h.rules r au).sel.dD;exact⟨_,aa,λxs z=>by cases z⟩
def ji.lf (S:ji e F H W R bw ax N)(az:H q=none):q∉b_ W R ax:=λz=>by obtain⟨o,aI,_⟩:=S.at_.there q z;rw[aI] at az;cases az
def nZ.keep {e:fg}{F H ab:ah}{W:Sty.State}{R:Nat->eZ}{bw ax:U}(h:nZ e F H W R bw ax N){br:ah}(cu:aA F br)(aw:∀b∈b_ W R ax,ab b=H b):nZ e br ab W R bw ax N:=by obtain⟨aq,aa⟩:=h.bw;refine⟨⟨aq,cu _ _ aa⟩,by rw[aw ax (hx.mpr (.inl rfl))];exact h.ax,λr au=>?_⟩;have A:=h.rules r au;obtain⟨aq,ac⟩:=A.ins;exact⟨⟨aq,cu _ _ ac⟩,A.sel.mono cu (aw _ (hx.mpr (.inr ⟨r,au,.inl rfl⟩))) (aw _ (hx.mpr (.inr ⟨r,au,.inr rfl⟩))) (b5 _)⟩
def ji.hS (S:ji e F H W R bw ax N)(s:aA H ab):SStep e F H W R bw ax W R N ab:=by
 have aw:∀b∈b_ W R ax,ab b=H b:=λb I=>by obtain⟨o,aI,_⟩:=S.at_.there b I;rw[aI,s _ _ aI]
 refine⟨aA.bu s,S.un,λb I=>⟨.inl I,?_⟩,λb I=>?_,λbr cu _ _=>S.at_.keep cu aw⟩
 ·obtain⟨o,aI,_⟩:=S.at_.there b I;rw[s _ _ aI];nofun
 ·cases z:H b with
  |none=>exact absurd z I
  |some o=>rw[s _ _ z];nofun
def SStep.xx (S:SStep e F H W R bw ax cz R' N' ab)(az:ab q=none):SStep e F H W R bw ax cz R' N' (upd ab q (.lst xs))/\H q=none/\q∉b_ cz R' ax:=by
 have uk:q∉b_ cz R' ax:=λz=>(S.new q z).2 az;have Pl:∀b∈b_ cz R' ax,b≠q:=λb I z=>uk (by rw[<-z];exact I);refine⟨⟨S.bu.trans (aA.bu (aA.upd az)),S.un,λb I=>⟨(S.new b I).1,?_⟩,λb I=>?_,λbr cu eQ bW=>?_⟩,?_,uk⟩
 ·rw[aj (Pl b I)];exact(S.new b I).2
 ·by_cases z:b=q
  ·rw[z,aG];nofun
  ·rw[aj z];exact S.eM b I
 ·have A:=S.at_ br cu (λb o aa ac av=>eQ b o aa ac (by rw[aj (a8 av az)];exact av)) λb bO I=>bW b bO (by rw[aj (a8 I az)];exact I);exact A.keep (aA.refl _) λb I=>aj (Pl b I)
 ·cases e:H q with
  |none=>rfl
  |some u=>exact absurd az (S.eM q (by rw[e];nofun))
def B8 (un:(b_ W R ax).Nodup):(∀n∈W.rules,(R n.id).a6≠ax/\(R n.id).aS≠ax/\(R n.id).a6≠(R n.id).aS)/\
  ∀n∈W.rules,∀m∈W.rules,n.id≠m.id->(R n.id).a6≠(R m.id).a6/\(R n.id).a6≠(R m.id).aS/\(R n.id).aS≠(R m.id).a6/\(R n.id).aS≠(R m.id).aS:=by
 unfold b_ at un;rw[hk] at un;obtain⟨jU,kM⟩:=un;have hm:∀n∈W.rules,(R n.id).a6∈W.rules.flatMap (λn=>[(R n.id).a6,(R n.id).aS])/\(R n.id).aS∈W.rules.flatMap (λn=>[(R n.id).a6,(R n.id).aS]):=λn ak=>
  ⟨l8.mpr ⟨n,ak,by simp⟩,l8.mpr ⟨n,ak,by simp⟩⟩
 unfold Nodup at kM;rw[List.pairwise_flatMap] at kM;obtain⟨fp,eI⟩:=kM;refine⟨λn ak=>⟨λz=>jU (z▸(hm n ak).1),λz=>jU (z▸(hm n ak).2),?_⟩,λn ak m pF b9=>?_⟩
 ·have:=fp n ak;simpa using this
 ·have key:∀(a b:Sty.Rule),(∀x∈[(R a.id).a6,(R a.id).aS],∀y∈[(R b.id).a6,(R b.id).aS],x≠y)->(R a.id).a6≠(R b.id).a6/\(R a.id).a6≠(R b.id).aS/\(R a.id).aS≠(R b.id).a6/\(R a.id).aS≠(R b.id).aS:=λa b h=>
   ⟨h _ (by simp) _ (by simp),h _ (by simp) _ (by simp),h _ (by simp) _ (by simp),h _ (by simp) _ (by simp)⟩
  obtain⟨a,b,e⟩:=rq ak;rw[e,Ag,wZ] at eI;rw[e] at pF;rcases di.mp pF with z|z
  ·obtain⟨aX,bt,cn,fS⟩:=key m n (eI.2.2 m z n (dW ..));exact⟨aX.symm,cn.symm,bt.symm,fS.symm⟩
  ·rcases cr.mp z with rfl|z
   ·exact absurd rfl b9
   ·exact key n m (eI.2.1.1 m z)
end
def zH (x:Nat):ei (ge W R) (cf x)=(Sty.rule W x).map λn=>.ref (R n.id).c7:=by
 unfold ge Sty.rule
 induction W.rules with
 |nil=>rfl
 |cons n l bE=>
  rw[ck,i'];by_cases e:n.id=x
  ·rw[l5 (by show cf n.id=cf x;rw[e]),show(n.id==x)=true by simpa using e];rfl
  ·rw[jH (by intro z;exact e (y1 z)),show(n.id==x)=false by simpa using e];exact bE
def qr (e:fg)(F H:ah)(W:Sty.State)(R:Nat->eZ)(bw ax:U)(N:Nat)(c:Sty.Call)(Q:cM):Prop:=∀ab R' q,SStep e F H W R bw ax (Sty.step W c).1 R' N ab->H q=none->q∉b_ (Sty.step W c).1 R' ax->ab q=some (.lst (k1 (Sty.step W c).2))->Q (.ref q) ab
section
variable {P:bg}{w:bb}{K:PySem.W.Frag}{ae:Str->Option af}{base:a5}{CX ay aJ aT du aO aM cg ci cF cZ jo eO gr:U}{fP iw:b6}{e:fg}
def qr.early {N:Nat}(p:qr e F H W R bw ax N c Q)(S:ji e F H W R bw ax N)(he:Sty.step W c=(W,a))(s1:aA H H1)(ao:xs=k1 a)(az:H1 q=none):Q (.ref q) (upd H1 q (.lst xs)):=by unfold qr at p;rw[he] at p;obtain⟨cv,cx,gm⟩:=(S.hS s1).xx (xs:=xs) az;exact p _ R q cv cx gm (by rw[aG,ao])
def qr.done {N:Nat}(p:qr e F H W R bw ax N c Q)(he:Sty.step W c=(cz,a))(S:SStep e F H W R bw ax cz R' N H1)(ao:xs=k1 a)(az:H1 q=none):Q (.ref q) (upd H1 q (.lst xs)):=by unfold qr at p;rw[he] at p;obtain⟨s1,s2,s3⟩:=S.xx (xs:=xs) az;exact p _ R' q s1 s2 s3 (by rw[aG,ao])
structure n1 (K:PySem.W.Frag)(ae:Str->Option af)(ci cg gr:U)(iw:b6):Prop where
 lG:jI K ci
 cN:jI K cg
 kF:fY K ci "rules"
 h6:fY K cg "property_number"
 ug:fY K cg "value"
 oy:fY K cg "strong"
 sv:fY K cg "selector"
 G2:ae "Rule"=some (.ref cg)
 aaL:jL K cg gr
 Uc:Binds K iw aho []
 aaN:∃t,ae "MOST_RULES"=some (.int 64 t)
abbrev Ia:Stmt:=q1 (top 31) 0
abbrev lp (j:Nat):Stmt:=q1 (top 32) j
inductive IH(cg:U)(vs:List V)(H:ah)(Q:cM)(_:fG):Prop|i(a aq sel:U)(p v st:V)(_:vs=[.ref a,p,v,st,.ref sel])(_:H a=some (.ins cg aq []))(_:Q .b1 (upd H a (.ins cg aq (rg p v st sel))))
def ad5:c3 aho aho (ct Ia):={}
def abL (T:n1 K ae ci cg gr iw)(F:dd K "__init__" "Rule.__init__" Ia gr fd):aQ P w K ae base bc 1 gr fd aho (IH cg):=by refine F.ok ad5 (λbU A outer s H vs Q E au h=>?_);obtain⟨a,aq,sel,p,v,st,rfl,al,q⟩:=h;refine⟨_,a_ (gZ (ag 0) (ag 1) rfl) (a_ (gZ (ag 0) (ag 2) rfl) (a_ (gZ (ag 0) (ag 3) rfl) (bo (gZ (ag 0) (ag 4) rfl)))),?_⟩;refine⟨_,rfl,_,rfl,a,cg,aq,_,rfl,al,T.cN,T.h6,by show 0 < 1000;decide,?_⟩;refine⟨_,rfl,_,rfl,a,cg,aq,_,rfl,aG,T.cN,T.ug,by show 1 < 1000;decide,?_⟩;rw[i_];refine⟨_,rfl,_,rfl,a,cg,aq,_,rfl,aG,T.cN,T.oy,by show 2 < 1000;decide,?_⟩;rw[i_];refine⟨_,rfl,_,rfl,a,cg,aq,_,rfl,aG,T.cN,T.sv,by show 3 < 1000;decide,?_⟩;rw[i_];exact q
inductive Dj(ci:U)(vs:List V)(H:ah)(Q:cM)(_:fG):Prop|i(a aq:U)(_:vs=[.ref a])(_:H a=some (.ins ci aq []))(_:∀ax,H ax=none->Q .b1 (upd (upd H ax (.cq [])) a (.ins ci aq [("rules",.ref ax)])))
def ad8:c3 ahn ahn (ct (lp 0)):={}
def abN (T:n1 K ae ci cg gr iw)(F:dd K "__init__" "Sheet.__init__" (lp 0) f fd):aQ P w K ae base bc 1 f fd ahn (Dj ci):=by refine F.ok ad8 (λbU A outer s H vs Q E au h=>?_);obtain⟨a,aq,rfl,al,q⟩:=h;refine⟨_,bo (gZ (ag 0) Cx rfl),?_⟩;intro ax fl;exact⟨_,rfl,a,ci,aq,[],rfl,(by rw[aj (a8 al fl)];exact al),T.lG,T.kF,(by show 0 < 1000;decide),q ax fl⟩
def oh:([("rules",.ref ax)]:List (Str×V)).lookup ("rules":Str)=some (.ref ax):=iC
inductive IN(e:fg)(vs:List V)(H:ah)(Q:cM)(_:fG):Prop|i(bw ax:U)(F:ah)(W:Sty.State)(R:Nat->eZ)(N x:Nat)(_:vs=[.ref bw,bj x])(_:ji e F H W R bw ax N)(_:qr e F H W R bw ax N (.unrule x) Q)
def aea:c3 ahq ahq (ct (lp 2)):={}
def acj (T:n1 K ae e.ci e.cg gr iw)(F:dd K "unrule" "Sheet.unrule" (lp 2) f fd):aQ P w K ae base bc 1 f fd ahq (IN e):=by
 refine F.ok aea (λbU A outer s H vs Q E au h=>?_);obtain⟨bw,ax,F,W,R,N,x,rfl,O,q⟩:=h;have aW:=kB au;obtain⟨aq,ha⟩:=O.at_.bw;have qY:=O.bQ _ _ ha;have fl:=O.at_.ax;refine⟨_,a_ (dh (jA (pW aW (ag 1) (bT (ag 0) rfl)) (by with_unfolding_all rfl)) (bo (cp (dL (aK (kc kk bM) aY)))) dn)
  (a_ (hQ (P6 (bT (ag 0) rfl) (ag 1) ⟨rfl,rfl,rfl,rfl⟩)) (bo (cp (dL (aK bM aY))))),?_⟩
 have fy:=dy.k (H:=H) (k:=cf x) fl;rw[zH] at fy;refine⟨_,rfl,_,rfl,bw,e.ci,aq,_,_,rfl,qY,T.lG,T.kF,oh,ax,_,rfl,fy,_,rfl,?_⟩;have c8:Sty.step W (.unrule x)=(match Sty.rule W x with
  |none=>(W,NO)
  |some q=>({W with rules:=W.rules.filter λ(m:Sty.Rule)=>m.id !=q.id},says 0)):=rfl
 cases am:Sty.rule W x with
 |none=>refine d3 ⟨_,rfl,cH 1,λr a'=>?_⟩;rw[am] at c8;exact q.early O c8 (aA.refl _) rfl a'
 |some c7=>
  obtain⟨yY,yK⟩:=Tm.Hp am;rw[am] at c8;replace c8:Sty.step W (.unrule x)=({W with rules:=W.rules.filter λ(m:Sty.Rule)=>m.id !=c7.id},says 0):=c8;refine eS ?_;refine⟨_,rfl,bw,e.ci,aq,_,_,rfl,qY,T.lG,T.kF,oh,ax,rfl,.inl ⟨_,.inl fl⟩,_,rfl,_,cf x,.ref (R c7.id).c7,fl,rfl,by rw[zH,am];rfl,?_⟩;refine⟨cH 1,λr a'=>?_⟩;refine q.done c8 (R':=R) ?_ rfl a';have y0:(W.rules.filter λ(m:Sty.Rule)=>m.id !=c7.id).Sublist W.rules:=nI;have tX:(b_ {W with rules:=W.rules.filter λ(m:Sty.Rule)=>m.id !=c7.id} R ax).Sublist (b_ W R ax):=by unfold b_;exact .cons_cons _ (Dp y0)
  have e4:=B8 O.un;have eM:∀b,H b≠none->upd H ax (.cq (pn (ge W R) (cf x))) b≠none:=λb I=>by
   by_cases z:b=ax
   ·rw[z,aG];nofun
   ·rw[aj z];exact I
  refine⟨λb o I hA=>?_,tX.nodup O.un,λb I=>⟨.inl (tX.subset I),?_⟩,eM,λbr cu _ _=>?_⟩
  ·rw[aj (λz:b=ax=>hA (by rw[z];exact hx.mpr (.inl rfl)))];exact I
  ·obtain⟨o,aI,_⟩:=O.at_.there b (tX.subset I);exact eM b (by rw[aI];nofun)
  ·refine⟨⟨aq,cu _ _ ha⟩,?_,λm hm=>?_⟩
   ·rw[aG];unfold ge;rw[E0,<-yK]
   ·obtain⟨hm,_⟩:=hj.mp (show m∈W.rules.filter _ from hm);have A:=O.at_.rules m hm;obtain⟨i5,kA⟩:=A.ins;exact⟨⟨i5,cu _ _ kA⟩,A.sel.mono cu (aj (e4.1 m hm).1) (aj (e4.1 m hm).2.1) (b5 _)⟩
end
def An (CX du:U)(H:ah)(t:Bytes):fG:=λcls kG ab=>(cls=.ref du/\256 < t.length/\aA H ab)\/(cls=.ref CX/\t.length<=256/\∃a aq j,kG=some a/\aA H ab/\Sty.readSel t=.error j/\ab a=some (.ext (k0 CX a (some aq)))/\ab aq=some (.nF [("place",.int ((j:Nat):Int))]))
def LL (b9:CX≠du)(h:An CX du H t (.ref du) kG ab):256 < t.length/\aA H ab:=by
 rcases h with⟨_,h⟩|⟨e,_⟩
 ·exact h
 ·injection e with e;exact absurd e.symm b9
def LM (b9:CX≠du)(h:An CX du H t (.ref CX) (some a) ab):t.length<=256/\∃aq j,aA H ab/\Sty.readSel t=.error j/\ab a=some (.ext (k0 CX a (some aq)))/\ab aq=some (.nF [("place",.int ((j:Nat):Int))]):=by
 rcases h with⟨e,_⟩|⟨_,aa,jk,aq,j,e,ac⟩
 ·injection e with e;exact absurd e b9
 ·cases e;exact⟨aa,aq,j,ac⟩
def R3 {j:Nat}:([("place",.int ((j:Nat):Int))]:List (Str×V)).lookup ("place":Str)=some (.int (j:Int)):=iC
inductive II(e:fg)(vs:List V)(H:ah)(Q:cM)(_:fG):Prop|i(bw ax aF:U)(F:ah)(W:Sty.State)(R:Nat->eZ)(N p v st:Nat)(t:Bytes)(_:vs=[.ref bw,bj p,bj v,bj st,.ref aF])(_:H aF=some (.lst (t.map bv)))(_:ji e F H W R bw ax N)(_:qr e F H W R bw ax N (.rule p v st t) Q)
def C3:c3 ["self","property_number","value","strong","text","selector","e","number"] aht (ct (lp 1)):={}
def ace {P:bg}{w:bb}{K:PySem.W.Frag}{ae:Str->Option af}{base:a5}{CX ay aJ aT du cg ci cF cZ gr:U}{iw:b6}{f fa bd:U}{fd xX rX:b6}{k:Nat}(aw:4<=k)(T:n1 K ae ci cg gr iw)(fN:g8 K ae CX ay aJ cF cZ)(qO:pg K du)(sq:ae "TextTooLong"=some (.ref du))(b9:CX≠du)(F:dd K "rule" "Sheet.rule" (lp 1) f fd)
  (qi:cX K ae "least_free" zO ahF fa xX) (nO:cX K ae "selector_of" zQ ahJ bd rX) (w_:aQ P w K ae base (Al P w du CX) k bd rX ahJ (Dk P w CX du aT ay)) (D1:aQ P w K ae base bc 1 gr iw aho (IH cg)):
  aQ P w K ae base bc (k+1) f fd aht (II ⟨P,w,aT,ay,cg,ci⟩):=by
 have hV:aQ P w K ae base bc 1 fa xX ahF IE:=PP qi;refine F.ok C3 (λbU A outer s H vs Q E au h=>?_);obtain⟨bw,ax,aF,F,W,R,N,p,v,st,t,rfl,ka,O,q⟩:=h;have aW:=kB au;have gu:c1 1 _:=au.mono (by omega);have fA:c1 2 _:=au.mono (by omega);obtain⟨mt,yQ⟩:=T.aaN;obtain⟨aq,ha⟩:=O.at_.bw;have qY:=O.bQ _ _ ha;have fl:=O.at_.ax;have hw:=O.wf;refine⟨_,a_ (Qh (E:=An CX du H t) (i:=6) qO fN.km b9 rfl rfl rfl sq rfl fN.sr C3.nd rfl rfl
   (λcR cz am=>by exact bo (cE (i:=5) C3.nd (hB w_ au rfl nO.ae nO.bu nO.bi .nil am (aK (ag 4) aY))))
   (λcR a=>by exact bo (cp (dL (aK (kc kk bM) aY))))
   (λcR a=>by exact bo (cp (dL (aK (kc kk bM) (aK (P8 fN.km (ag 6) rfl) aY))))))
  (a_ (dh (eJ gA (gX EK (by rfl) fN.len jd (aK (bT (ag 0) rfl) aY)) (hg (v:=.int 64) rfl yQ ⟨mt,rfl⟩) (d4 _)) (bo (cp (dL (aK (kc kk bM) aY)))) dn)
  (a_ (cE (i:=7) C3.nd (hB hV gu rfl qi.ae qi.bu qi.bi .nil cA (aK (bT (ag 0) rfl) (aK bM aY))))
  (a_ (wh aW (bT (ag 0) rfl) (ag 7) (sF T.aaL D1 fA rfl T.G2 T.Uc .nil cA (aK (ag 1) (aK (ag 2) (aK (uw wc (ag 3) bM (d4 _)) (aK (ag 5) aY))))) rfl)
  (bo (cp (dL (aK (ag 7) aY))))))),?_⟩
 have c8:Sty.step W (.rule p v st t)=if Sty.LONG < t.length then(W,FULL) else(match Sty.readSel t with
  |.error k=>(W,⟨-1,[k]⟩)
  |.ok s=>match Sty.freeRule W with
   |none=>(W,says (-3))
   |some k=>({W with rules:=W.rules++[⟨k,s,p,v,st !=0⟩]},says (k:Nat))):=rfl
 refine⟨?_,λa H1 σ1 hσ fx=>?_,λa H1 σ1 hσ fx=>?_⟩
 ·refine⟨_,rfl,aF,t,rfl,ka,λaC H1 a s1 al=>.inl ⟨rfl,aC,s1⟩,λaC bh aD H1 a6 aS s1 fQ k8 N5 nk=>?_,λaC j bF H1 a eN s1 aa ac=>.inr ⟨rfl,aC,a,eN,j,rfl,s1,bF,aa,ac⟩⟩;rw[aN (by unfold Sty.LONG;omega),aD] at c8;refine⟨_,rfl,bw,ci,aq,_,_,rfl,s1 _ _ qY,T.lG,T.kF,oh,ax,_,rfl,s1 _ _ fl,rfl,_,rfl,?_⟩;have yN:(ge W R).length=W.rules.length:=by unfold ge;rw[cc]
  rw[yN];by_cases FZ:W.rules.length=64
  ·refine fB (ej (by rw[FZ];rfl)) ⟨_,rfl,cH 1,λr a'=>?_⟩;rw[hw.Fj FZ] at c8;exact q.early O c8 s1 rfl a'
  ·refine df (cW (by intro z;injection z with z;omega)) ?_;have pE:(ge W R).map (·.1)=(Tm.ll W).map cf:=by unfold ge Tm.ll;rw[ff,ff];rfl
   refine⟨_,rfl,bw,ci,aq,_,_,rfl,s1 _ _ qY,T.lG,T.kF,oh,ax,1,_,Tm.ll W,rfl,s1 _ _ fl,pE,λk aw=>?_⟩;rw[hw.Fk aw FZ] at c8;replace c8:Sty.step W (.rule p v st t)=({W with rules:=W.rules++[⟨k,bh,p,v,st !=0⟩]},says (k:Nat)):=c8;refine⟨_,rfl,_,rfl,_,rfl,rfl,_,rfl,?_⟩;intro x eN ao iY agM;refine⟨x,eN,a6,_,_,_,rfl,aG,?_⟩;refine⟨rfl,?_⟩;rw[i_];have fR:(!decide (bj st=.int 0))=(st !=0):=by rw[lv];unfold bj;simp
   rw[fR];generalize js:upd (upd H1 eN (.own x)) x (.ins cg eN (rg (bj p) (bj v) (.bL (st !=0)) a6))=ap;have ib:aA H1 ap:=λb o I=>by rw[<-js,aj (a8 I ao),aj (a8 I iY)];exact I
   have s2:aA H ap:=s1.trans ib;refine⟨_,rfl,bw,ci,aq,_,_,rfl,s2 _ _ qY,T.lG,T.kF,oh,_,rfl,ax,_,rfl,mc.k (k:=cf k) (s2 _ _ fl) (by rw[yN];exact jP (by have:=hw.kE;omega)),?_⟩;refine⟨_,rfl,cH 1,λr a'=>?_⟩;refine q.done c8 (R':=λi=>if i=k then⟨x,a6,aS⟩ else R i) ?_ rfl a';have FY:∀m∈W.rules,m.id≠k:=λm hm z=>aw.2.1 (Tm.B5.mpr ⟨m,hm,z⟩);have yW:fs (ge W R) (cf k) (.ref x)=ge {W with rules:=W.rules++[⟨k,bh,p,v,st !=0⟩]} (λi=>if i=k then⟨x,a6,aS⟩ else R i):=by
    rw[zD (by rw[pE,vU];exact aw.2.1)];unfold ge;rw[hi]
    congr 1
    ·refine kP λm hm=>?_;show _=(cf m.id,V.ref (if m.id=k then(⟨x,a6,aS⟩:eZ) else R m.id).c7);rw[aN (FY m hm)]
    ·show[(cf k,V.ref x)]=[(cf k,V.ref (if k=k then(⟨x,a6,aS⟩:eZ) else R k).c7)];rw[aV rfl]
   have lQ:b_ {W with rules:=W.rules++[⟨k,bh,p,v,st !=0⟩]} (λi=>if i=k then⟨x,a6,aS⟩ else R i) ax=b_ W R ax++[a6,aS]:=by
    unfold b_;rw[oZ,cons_append]
    congr 2
    ·rw[s6,s6]
     congr 1
     refine kP λm hm=>?_;show[(if m.id=k then(⟨x,a6,aS⟩:eZ) else R m.id).a6,(if m.id=k then(⟨x,a6,aS⟩:eZ) else R m.id).aS]=_;rw[aN (FY m hm)]
    ·show[(if k=k then(⟨x,a6,aS⟩:eZ) else R k).a6,(if k=k then(⟨x,a6,aS⟩:eZ) else R k).aS]++[]=_;rw[aV rfl];rfl
   have lS:a6∉b_ W R ax:=O.lf fQ;have lP:aS∉b_ W R ax:=O.lf k8;have vJ:H x=none:=s1.free ao;have vL:x∉b_ W R ax:=O.lf vJ;have e4:=B8 O.un;have fv:=nk H1 (λb o _ _ _ h=>h) λb xs h=>h;have mC:∃o,H1 a6=some o:=by obtain⟨es,bH,bR,a9,Ln,cJ,bS,rows,_,ac,_⟩:=fv.st;exact⟨_,ac⟩
   have my:∃o,H1 aS=some o:=by obtain⟨kvs,aa,_⟩:=fv.dD;exact⟨_,aa⟩
   obtain⟨ag',mC⟩:=mC;obtain⟨acp,my⟩:=my;have PE:a6≠ax:=λz=>lS (by rw[z];exact hx.mpr (.inl rfl));have v5:aS≠ax:=λz=>lP (by rw[z];exact hx.mpr (.inl rfl));have abz:x≠ax:=λz=>vL (by rw[z];exact hx.mpr (.inl rfl));have abA:x≠a6:=(a8 mC ao).symm;have Ho:x≠aS:=(a8 my ao).symm;have eM:∀b,H b≠none->upd ap ax (.cq (fs (ge W R) (cf k) (.ref x))) b≠none:=λb I=>by
    by_cases z:b=ax
    ·rw[z,aG];nofun
    ·rw[aj z];cases e:H b with
     |none=>exact absurd e I
     |some o=>rw[s2 _ _ e];nofun
   refine⟨λb o I hA=>?_,?_,λb I=>?_,eM,λbr cu eQ bW=>?_⟩
   ·rw[aj (λz:b=ax=>hA (by rw[z];exact hx.mpr (.inl rfl)))];exact s2 b o I
   ·rw[lQ,jb];refine⟨O.un,by simp[N5],λa al b I z=>?_⟩;rcases cr.mp I with e|I
    ·rw[z,e] at al;exact lS al
    ·rw[z,ec.mp I] at al;exact lP al
   ·rw[lQ] at I;rcases di.mp I with I|I
    ·obtain⟨o,aI,_⟩:=O.at_.there b I;exact⟨.inl I,eM b (by rw[aI];nofun)⟩
    ·rcases cr.mp I with rfl|I
     ·exact⟨.inr fQ,by rw[aj PE,ib _ _ mC];nofun⟩
     ·rw[ec.mp I];exact⟨.inr k8,by rw[aj v5,ib _ _ my];nofun⟩
   ·rw[lQ] at eQ;refine⟨⟨aq,cu _ _ ha⟩,by rw[aG,yW],λm hm=>?_⟩;rcases di.mp (show m∈W.rules++[_] from hm) with hm|hm
    ·have A:=O.at_.rules m hm;obtain⟨i5,kA⟩:=A.ins;show Eh _ br _ m (if m.id=k then(⟨x,a6,aS⟩:eZ) else R m.id) N;rw[aN (FY m hm)];have keep:∀b,b∈b_ W R ax->b≠ax->upd ap ax (.cq (fs (ge W R) (cf k) (.ref x))) b=H b:=λb I hA=>by obtain⟨o,aI,_⟩:=O.at_.there b I;rw[aj hA,s2 _ _ aI,aI]
     exact⟨⟨i5,cu _ _ kA⟩,A.sel.mono cu (keep _ (hx.mpr (.inr ⟨m,hm,.inl rfl⟩)) (e4.1 m hm).1) (keep _ (hx.mpr (.inr ⟨m,hm,.inr rfl⟩)) (e4.1 m hm).2.1) (b5 _)⟩
    ·rw[ec.mp hm];show Eh _ br _ ⟨k,bh,p,v,st !=0⟩ (if k=k then(⟨x,a6,aS⟩:eZ) else R k) N;rw[aV rfl];refine⟨⟨eN,?_⟩,?_⟩
     ·refine eQ x _ vJ ?_ (by rw[aj abz,<-js,aG]);rw[di];rintro(z|z)
      ·exact vL z
      ·simp[abA,Ho] at z
     ·have AG:hG P w aT ay br H1 bh a6 aS 0:=by
       refine nk br (λb o aa ac av bn=>?_) λb xs bn=>?_
       ·refine eQ b o aa ?_ ?_
        ·rw[di];rintro(z|z)
         ·obtain⟨d5,lR,_⟩:=O.at_.there b z;rw[lR] at aa;cases aa
         ·simp[ac,av] at z
        ·rw[aj (a8 fl aa).symm];exact ib _ _ bn
       ·refine bW b xs ?_;rw[aj (fo bn (s1 _ _ fl) nofun)];exact ib _ _ bn
      exact AG.mono (aA.refl _) (by rw[aj PE,ib _ _ mC,mC]) (by rw[aj v5,ib _ _ my,my]) (eY _)
 ·obtain⟨aC,s1⟩:=LL b9 fx;rw[aV (by unfold Sty.LONG;omega)] at c8;exact⟨_,rfl,cH 1,λr a'=>q.early O c8 s1 rfl a'⟩
 ·obtain⟨aC,eN,j,s1,bF,aa,ac⟩:=LM b9 fx;rw[aN (by unfold Sty.LONG;omega),bF] at c8;have cO:6 < σ1.length:=by rw[hσ];show 6 < 8;decide
  refine⟨_,rfl,.ref a,?_,a,eN,_,_,rfl,aa,ac,R3,cH 2,λr a'=>q.early O c8 s1 rfl a'⟩;rw[wU cO]
end bf
namespace aB
open PySem PySem.Spec PyProof.Rows
def Z3 {d:U}{o:Obj}{kvs:List (Key×V)}{g:iS}{tt:TT}{te:TE}{vs:List Nat}{σ:aB.St}{H1:ah}{D:U}{xn:ah->Prop}(Pv:Nat->ah->Prop)(h0:Pv 0 (upd H1 D (.lst [])))(aC:∀i H,i<=kvs.length->Pv i H->H d=some (.eP o (.cq kvs)))
  (aD:∀i k v H T,kvs[i]? =some (k,v)->Pv i H->H T=none->g (.ref T) (hh σ vs) (upd H T (.tup [cV k,v])) λσ2 ap=>hh σ2 vs=hh σ vs/\tt σ2 ap λb bz=>
   if b=true then te σ2 bz λy c4=>∃acc,c4 D=some (.lst acc)/\acc.length < sizeLine/\Pv (i+1) (upd c4 D (.lst (acc++[y]))) else Pv (i+1) bz) (hd:∀H,Pv kvs.length H->xn H):
  ∃W:Nat->Nat->ah->Prop,(∃m,W 0 m (upd H1 D (.lst [])))/\∀i m H,W i m H->
   ((xa d o kvs).stop i H/\xn H)\/((xa d o kvs).go i H/\∃md:ah->Prop,(∀ab,md ab->∃cQ,cQ < m/\W (i+1) cQ ab)/\∀x ab,(xa d o kvs).p6 i H x ab->g x (hh σ vs) ab λσ2 ap=>hh σ2 vs=hh σ vs/\tt σ2 ap λb bz=>
    if b=true then te σ2 bz λy c4=>∃acc,c4 D=some (.lst acc)/\acc.length < sizeLine/\md (upd c4 D (.lst (acc++[y]))) else md bz):=by
 refine⟨λi m H=>m=kvs.length - i/\i<=kvs.length/\Pv i H,⟨kvs.length,by simp,eY _,h0⟩,?_⟩;rintro i m H ⟨rfl,aR,p⟩;have q:=aC i H aR p;by_cases cO:i < kvs.length
 ·refine .inr ⟨⟨q,cO⟩,Pv (i+1),λab ef=>⟨kvs.length - (i+1),by omega,rfl,cO,ef⟩,λx ab y=>?_⟩;obtain⟨T,k,v,aa,rfl,ac,rfl⟩:=y;exact aD i k v H T aa p ac
 ·have e:i=kvs.length:=by omega
  subst e;exact .inl ⟨⟨q,b5 _⟩,hd H p⟩
end aB
namespace bf
open PySem PySem.Spec PyProof.Rows aB
open Sty (Bytes)
structure jf (F H:ah)(M:List U)(ab br:ah):Prop where
 cu:aA F br
 nw:∀b o,H b=none->b∉M->ab b=some o->br b=some o
 rm:∀b xs,ab b=some (.tup xs)->br b=some (.tup xs)
open Classical in
noncomputable def gx (F H:ah)(M:List U)(ab:ah):ah:=λb=>match F b with
 |some o=>some o
 |none=>if(H b=none/\b∉M)\/∃xs,ab b=some (.tup xs) then ab b else none
def GR (h:gx F H M ab b=some o):F b=some o\/(F b=none/\((H b=none/\b∉M)\/∃xs,ab b=some (.tup xs))/\ab b=some o):=by
 unfold gx at h;cases e:F b with
 |some u=>rw[e] at h;exact .inl h
 |none=>
  rw[e] at h;simp only at h;split at h
  ·rename_i ai
   exact .inr ⟨rfl,ai,h⟩
  ·cases h
def pS (s:aA F ab):aA (gx F H M ab) ab:=λb o h=>by
 rcases GR h with h|⟨_,_,h⟩
 ·exact s _ _ h
 ·exact h
def pR (s:aA F ab):jf F H M ab (gx F H M ab):=by
 refine⟨λb o h=>?_,λb o aa ac av=>?_,λb xs h=>?_⟩
 ·unfold gx;rw[h]
 ·unfold gx;cases e:F b with
  |some u=>rw[s _ _ e] at av;exact av
  |none=>simp only;rw[aV (.inl ⟨aa,ac⟩)];exact av
 ·unfold gx;cases e:F b with
  |some u=>rw[s _ _ e] at h;exact h
  |none=>simp only;rw[aV (.inr ⟨xs,h⟩)];exact h
def GS (c:jf F H M ab br):aA (gx F H M ab) br:=λb o h=>by
 rcases GR h with h|⟨_,ai,h⟩
 ·exact c.cu _ _ h
 ·rcases ai with⟨aa,ac⟩|⟨xs,ao⟩
  ·exact c.nw b o aa ac h
  ·rw[ao] at h;cases h;exact c.rm _ _ ao
def vT (eQ:F b=none)(yl:b∈M)(bY:∀xs,ab b≠some (.tup xs)):gx F H M ab b=none:=by
 cases e:gx F H M ab b with
 |none=>rfl
 |some o=>
  exfalso;rcases GR e with h|⟨_,ai,h⟩
  ·rw[eQ] at h;cases h
  ·rcases ai with⟨_,z⟩|⟨xs,z⟩
   ·exact z yl
   ·exact bY xs z
def jf.back (c:jf F H M ap br)(k:∀b o,H1 b=some o->b∉u3->ap b=some o)(yl:∀b,b∈M->b∈u3)(t:∀b xs,H1 b=some (.tup xs)->ap b=some (.tup xs)):jf F H u3 H1 br:=
 ⟨c.cu,λb o aa ac av=>c.nw b o aa (λz=>ac (yl b z)) (k b o av ac),λb xs h=>c.rm b xs (t b xs h)⟩
def ms (W:Sty.State)(s:Sty.Selector):List (Nat×Sty.Weight):=(Sty.ordered W).filterMap λx=>(Tm.gB W s x).map λv=>(x,v)
structure DV (cg:U)(F:ah)(W:Sty.State)(v:V)(r:Sty.Rule):Prop where
 ex:∃(q c7 bS aq:U) (p oV:V) (sel:U),v=.ref q/\F q=some (.tup [bj r.id,.ref c7,.ref bS])/\F c7=some (.ins cg aq (rg p oV (.bL r.strong) sel))/\m4 F bS (ms W r.sel)
def JF (cg:U)(F:ah)(W:Sty.State)(l:U)(rs:List Sty.Rule):Prop:=∃bC,F l=some (.lst bC)/\Paired (DV cg F W) bC rs
abbrev wt:Stmt:=top 20
inductive Dh(e:fg)(aM aO:U)(vs:List V)(H:ah)(Q:cM)(_:fG):Prop|i(a4 nd bw ax:U)(F:ah)(W:Sty.State)(L:Nat->el)(R:Nat->eZ)(N p:Nat)(_:vs=[.ref a4,.ref bw,bj p])(_:h1 aM aO F H W L a4 nd)(_:Tm.bD W)(_:ji e F H W R bw ax N)(_:∀ab l,SStep e F H W R bw ax W R (N+128) ab->H l=none->l∉b_ W R ax->(∀br,jf F H (b_ W R ax) ab br->JF e.cg br W l (Tm.h4 W p))->Q (.ref l) ab)
def zX:c3 ahL ahs (ct wt):={}
def acd {K:PySem.W.Frag}{ae:Str->Option af}{base:a5}{aO aM eO gr:U}{fP iw:b6}{e:fg}{f f2 eU:U}{fd gP lL:b6}(TT:lD K ae aM aO eO fP)(T:n1 K ae e.ci e.cg gr iw)(dj:m9 K ae e.aT)(D:cX K ae "rules_for" wt ahs f fd)
  (j3:cC K aM "in_order" "Tree.in_order" (et 5) ahn eU lL) (o8:aQ e.P e.w K ae base bc 2 eU lL ahn (zZ aM aO)) (M2:cC K e.aT "weights" "Selector.weights" (gl 2) ahv f2 gP) (jZ:aQ e.P e.w K ae base bc 7 f2 gP ahv (wy e.P e.w e.aT e.ay)):
  aQ e.P e.w K ae base bc 8 f fd ahs (Dh e aM aO):=by
 refine D.fn.ok zX (λbU A outer s H vs Q E au h=>?_);obtain⟨a4,nd,bw,ax,F,W,L,R,N,p,rfl,gj,hw,O,q⟩:=h;have fA:c1 2 _:=au.mono (by omega);obtain⟨ic,dA⟩:=gj.a4;have dA:=O.bQ _ _ dA;obtain⟨aq,ha⟩:=O.at_.bw;have qY:=O.bQ _ _ ha;have fl:=O.at_.ax;have i3:=O.wf;have e4:=B8 O.un;refine⟨_,a_ (cE (i:=3) zX.nd (lj (ag 0) TT.gE j3.dJ o8 fA j3.bi .nil cA))
  (bo (cp (acN (HD rfl zX.nd (acV (bT (ag 1) rfl)) (own:=[("number",4),("rule",5)]) (g:=Bh K 2 (tJ (jr 4) (tJ (jr 5) Bg)))
   (EH (by show xA ahL (ct wt) _ _=true;decide+kernel))
   (λs H C cl cw=>by exact oI rfl (gY (fJ (i:=4) zX.nd) (gY (fJ (i:=5) zX.nd) oJ)))
   (tt:=Du (oR HS (mP K (eE 5) "property_number") (eE 2)))
   (λs H C cl cw=>by exact HO (eJ gA (bT (ag 5) rfl) (ag 2) (d4 _)))
   (te:=I5 (jE (eE 4) (jE (eE 5) (jE (wF e.aT "weights" (wy e.P e.w e.aT e.ay) [] ti (mP K (eE 5) "selector") (jE (eE 3) kh)) kh))))
   (λs H C cl cw=>by exact nA (aK (ag 4) (aK (ag 5) (aK (fC (bT (ag 5) rfl) dj.cl M2.dJ jZ au M2.bi .nil cA (aK (ag 3) aY)) aY)))))))),?_⟩
 refine⟨_,rfl,a4,ic,_,rfl,dA,dV (by w_on),a4,nd,F,W,L,rfl,gj,hw,O.bQ,λH1 eb s1 ym=>?_⟩;refine⟨ax,.cq (ge W R),s1 _ _ fl,True.intro,λc9=>?_⟩;generalize yk:upd H1 ax (.eP c9 (.cq (ge W R)))=D7;have abo:bw≠ax:=fo qY fl nofun;have hf:∀b,b≠ax->D7 b=H1 b:=λb n=>by rw[<-yk,aj n]
 refine⟨_,rfl,bw,e.ci,aq,_,_,rfl,by rw[hf bw abo];exact s1 _ _ qY,T.lG,T.kF,oh,ax,c9,ge W R,rfl,by rw[<-yk];exact aG,λD fw=>?_⟩;have zd:D≠ax:=λz=>by rw[z,<-yk,aG] at fw;cases fw
 have Bo:H1 D=none:=by rw[hf D zd] at fw;exact fw
 have yh:H D=none:=s1.free Bo;have vp:D∉b_ W R ax:=O.lf yh;have HU:ax∈b_ W R ax:=hx.mpr (.inl rfl);have tO:∀b o,F b=some o->b∉b_ W R ax:=λb o h z=>by rw[O.off b z] at h;cases h
 let Kj:Nat->ah->Prop:=λi gn=>gn ax=some (.eP c9 (.cq (ge W R)))/\(∀b o,H1 b=some o->b∉b_ W R ax->gn b=some o)/\(∀b,H b≠none->gn b≠none)/\∃acc,gn D=some (.lst acc)/\acc.length<=i/\
  ∀br,jf F H (D::b_ W R ax) gn br->(∀r∈W.rules,hG e.P e.w e.aT e.ay br gn r.sel (R r.id).a6 (R r.id).aS (N+128))/\(∀r∈W.rules.drop i,hG e.P e.w e.aT e.ay br gn r.sel (R r.id).a6 (R r.id).aS N)/\Paired (DV e.cg br W) acc ((W.rules.take i).filter λr=>r.prop==p)
 have y0:∀{i gn},Kj i gn->aA F gn:=λh b o I=>h.2.1 b o (s1 b o (O.bQ b o I)) (tO b o I);refine Z3 (d:=ax) (o:=c9) (kvs:=ge W R) Kj ?_ ?_ ?_ ?_
 ·
  have GB:∀b o,H b=some o->b≠ax->upd D7 D (.lst []) b=H b:=λb o I n=>by rw[aj (a8 I yh),hf b n,s1 _ _ I,I]
  refine⟨by rw[aj zd.symm,<-yk,aG],λb o I n=>?_,λb I=>?_,[],aG,b5 _,λbr c=>?_⟩
  ·rw[aj (a8 I Bo),hf b (λz=>n (by rw[z];exact HU))];exact I
  ·cases z:H b with
   |none=>exact absurd z I
   |some o=>
    by_cases n:b=ax
    ·rw[n,aj zd.symm,<-yk,aG];nofun
    ·rw[GB b o z n,z];nofun
  ·have all:∀r∈W.rules,hG e.P e.w e.aT e.ay br (upd D7 D (.lst [])) r.sel (R r.id).a6 (R r.id).aS N:=λr a'=>by have A:=(O.at_.rules r a').sel;obtain⟨um,pG,_⟩:=O.at_.there (R r.id).a6 (hx.mpr (.inr ⟨r,a',.inl rfl⟩));obtain⟨uo,tY,_⟩:=O.at_.there (R r.id).aS (hx.mpr (.inr ⟨r,a',.inr rfl⟩));exact A.mono c.cu (GB _ _ pG (e4.1 r a').1) (GB _ _ tY (e4.1 r a').2.1) (b5 _)
   exact⟨λr a'=>(all r a').mono (aA.refl _) rfl rfl (by omega),λr a'=>all r (List.mem_of_mem_drop a'),.nil⟩
 ·intro i gn _ h;exact h.1
 ·
  intro i k v gn pb aR fb yo;obtain⟨aa,ac,av,acc,j9,iA,fk⟩:=fb;have MW:aA F gn:=y0 ⟨aa,ac,av,acc,j9,iA,fk⟩;unfold ge at aR;rw[hD] at aR;obtain⟨r,i2,lI⟩:=mX.mp aR;have Vo:cf r.id=k:=iM Prod.fst lI;have Vp:V.ref (R r.id).c7=v:=iM Prod.snd lI;subst Vo Vp;have jO:r∈W.rules:=l9 i2;have YS:r∈W.rules.drop i:=by have cO:=(eX.mp i2).1;have fy:=(eX.mp i2).2;rw[wQ cO,fy];exact dW ..
  have qZ:W.rules.take (i+1)=W.rules.take i++[r]:=by rw[ko,i2];rfl
  have Nq:∀b8∈W.rules.drop (i+1),b8∈W.rules.drop i/\b8.id≠r.id:=λb8 a'=>by
   have cO:=(eX.mp i2).1;have fy:=(eX.mp i2).2;have aE:W.rules.drop i=r::W.rules.drop (i+1):=by rw[wQ cO,fy]
   refine⟨by rw[aE];exact d7 _ a',λz=>?_⟩;have nd:=sX (wN (λr:Sty.Rule=>r.id) (List.drop_sublist i W.rules)) i3.nd;rw[aE,ck,hk] at nd;exact nd.1 (by rw[<-z];exact o1 (f:=λr:Sty.Rule=>r.id) a')
  have lS:(R r.id).a6∈b_ W R ax:=hx.mpr (.inr ⟨r,jO,.inl rfl⟩);have lP:(R r.id).aS∈b_ W R ax:=hx.mpr (.inr ⟨r,jO,.inr rfl⟩);obtain⟨i5,kA⟩:=(O.at_.rules r jO).ins;generalize MY:upd gn pb (.tup [cV (cf r.id),.ref (R r.id).c7])=hW;have et:aA gn hW:=by rw[<-MY];exact aA.upd yo
  have yY:hW (R r.id).c7=some (.ins e.cg i5 (rg (bj r.prop) (bj r.value) (.bL r.strong) (R r.id).a6)):=et _ _ (MW _ _ kA);have eqT:∀b o,gn b=some o->hW b=gn b:=λb o I=>by rw[I,et _ _ I]
  refine⟨pb,_,rfl,c5.of (by rw[<-MY];exact aG),rfl,?_⟩;refine⟨_,_,rfl,_,_,rfl,rfl,rfl,?_⟩;refine⟨_,rfl,(R r.id).c7,e.cg,i5,_,_,rfl,yY,T.cN,T.h6,adI,_,rfl,rfl,_,rfl,?_⟩;have Nn:decide (bj r.prop=bj p)=(r.prop==p):=by rw[lv];unfold bj;simp;omega
  have Ez:∀br,jf F H (D::b_ W R ax) hW br->(∀r∈W.rules,hG e.P e.w e.aT e.ay br hW r.sel (R r.id).a6 (R r.id).aS (N+128))/\(∀r∈W.rules.drop i,hG e.P e.w e.aT e.ay br hW r.sel (R r.id).a6 (R r.id).aS N)/\Paired (DV e.cg br W) acc ((W.rules.take i).filter λr=>r.prop==p):=λbr c=>by
   obtain⟨cv,cx,gm⟩:=fk br (c.back (λb o I _=>et b o I) (λ_ z=>z) λb xs I=>et _ _ I);have up:∀{b8:Sty.Rule} {M:Nat},hG e.P e.w e.aT e.ay br gn b8.sel (R b8.id).a6 (R b8.id).aS M->hG e.P e.w e.aT e.ay br hW b8.sel (R b8.id).a6 (R b8.id).aS M:=λ{b8 M} z=>by obtain⟨es,bH,bR,a9,Ln,cJ,bS,rows,_,ft,_⟩:=z.st;obtain⟨kvs,ew,_⟩:=z.dD;exact z.mono (aA.refl _) (eqT _ _ ft) (eqT _ _ ew) (b5 _)
   exact⟨λb8 h'=>up (cv b8 h'),λb8 h'=>up (cx b8 h'),gm⟩
  cases am:(r.prop==p) with
  |false=>
   refine df (by rw[Nn,am]) ?_;refine⟨by rw[eqT _ _ aa];exact aa,λb o I n=>et _ _ (ac b o I n),λb I=>?_,acc,et _ _ j9,by omega,λbr c=>?_⟩
   ·cases z:gn b with
    |none=>exact absurd z (av b I)
    |some o=>rw[et _ _ z];nofun
   ·obtain⟨cv,cx,gm⟩:=Ez br c;refine⟨cv,λb8 a'=>cx b8 (Nq b8 a').1,?_⟩;rw[qZ,Ac];simp[am,gm]
  |true=>
   refine fB (by rw[Nn,am]) ?_;have Fv:aA F hW:=MW.trans et;have KP:jf F H (D::b_ W R ax) hW (gx F H (D::b_ W R ax) hW):=pR Fv;obtain⟨cv,cx,gm⟩:=Ez _ KP;have pz:=cx r YS;obtain⟨E_,bH,bR,a9,l1,cJ,Fa,lm,_,t4,_,_⟩:=pz.st;obtain⟨OB,NF,_⟩:=pz.dD;have zk:gx F H (D::b_ W R ax) hW (R r.id).a6=none:=vT (O.off _ lS) (d7 _ lS) λxs z=>by rw[t4] at z;cases z
   have sz:gx F H (D::b_ W R ax) hW (R r.id).aS=none:=vT (O.off _ lP) (d7 _ lP) λxs z=>by rw[NF] at z;cases z
   have yn:m8 (gx F H (D::b_ W R ax) hW) eb (Tm.rowsOf W):=ym.same λb o I=>by
    obtain⟨ew,ft⟩:=mH I;have Cb:b∉b_ W R ax:=O.lf ew;refine KP.nw b o ew (λz=>?_) (et _ _ (ac b o ft Cb));rcases cr.mp z with z|z
    ·rw[z,Bo] at ft;cases ft
    ·exact Cb z
   have G8:D≠(R r.id).a6:=λz=>vp (by rw[z];exact lS);have G7:D≠(R r.id).aS:=λz=>vp (by rw[z];exact lP);refine⟨_,rfl,_,rfl,_,rfl,(R r.id).c7,e.cg,i5,_,_,rfl,yY,T.cN,T.sv,H2,(R r.id).a6,l1,_,rfl,t4,sL (by w_on) (by w_on) (by w_on) (by w_on) (by w_on) (by w_on),_,rfl,
    (R r.id).a6,(R r.id).aS,eb,gx F H (D::b_ W R ax) hW,r.sel,Tm.rowsOf W,N,rfl,pz,pS Fv,zk,sz,O.le,yn,hw.closed,λap es bS tP e6 nk=>?_⟩
   refine⟨cH 3,λer gS=>?_⟩;have bX:∀b o,hW b=some o->b≠(R r.id).a6->b≠(R r.id).aS->ap b=some o:=λb o I ea eW=>e6 b o I (by simp[ea,eW]);have M7:ap D=some (.lst acc):=bX _ _ (et _ _ j9) G8 G7;have Py:D≠er:=a8 M7 gS;have agw:acc.length<=64:=by have:=i3.kE;have:=(eX.mp i2).1;omega
   refine⟨acc,by rw[aj Py];exact M7,jP (by omega),?_⟩;generalize qI:upd (upd ap er (.tup [cV (cf r.id),.ref (R r.id).c7,.ref bS])) D (.lst (acc++[.ref er]))=bz;have dX:∀b o,ap b=some o->b≠D->bz b=some o:=λb o I n=>by rw[<-qI,aj n,aj (a8 I gS)];exact I
   have Gz:∀b o,hW b=some o->b∉D::b_ W R ax->bz b=some o:=λb o I n=>by rw[cr,hn] at n;exact dX b o (bX b o I (λz=>n.2 (by rw[z];exact lS)) (λz=>n.2 (by rw[z];exact lP))) n.1
   have aeW:∀b xs,hW b=some (.tup xs)->bz b=some (.tup xs):=λb xs I=>dX b _ (bX b _ I (fo I t4 nofun) (fo I NF nofun)) (fo I (et _ _ j9) nofun);have YU:hW ax=some (.eP c9 (.cq (ge W R))):=et _ _ aa;have YT:bz ax=some (.eP c9 (.cq (ge W R))):=dX _ _ (bX _ _ YU (e4.1 r jO).1.symm (e4.1 r jO).2.1.symm) zd.symm;have Lf:∀b,H b≠none->hW b≠none:=λb I=>by
    cases z:gn b with
    |none=>exact absurd z (av b I)
    |some o=>rw[et _ _ z];nofun
   have AV:∀{br},jf F H (D::b_ W R ax) bz br->jf F H (D::b_ W R ax) hW br:=λc=>c.back Gz (λ_ z=>z) aeW;have Pm:∀{br},jf F H (D::b_ W R ax) bz br->hG e.P e.w e.aT e.ay br ap r.sel (R r.id).a6 (R r.id).aS (N+128)/\m4 br bS (ms W r.sel):=λ{br} c=>by
    have:=nk br (GS (AV c)) λb o I=>by
     obtain⟨ew,ft⟩:=mH I;have yw:H b=none:=by
      cases z:H b with
      |none=>rfl
      |some u=>exact absurd ew (Lf b (by rw[z];nofun))
     have Pc:b≠D:=λz=>by rw[z,et _ _ j9] at ew;cases ew
     exact c.nw b o yw (by rw[cr,hn];exact⟨Pc,O.lf yw⟩) (dX b o ft Pc)
    rw[hw.IQ tP] at this;exact this
   have M2:=(Pm (pR (H:=H) (M:=D::b_ W R ax) (λb o I=>Gz b o (Fv b o I) (by
    rw[cr,hn];exact⟨a8 (O.bQ b o I) yh,tO b o I⟩)))).1
   obtain⟨Vu,ZG,T7,U7,aef,adt,Vy,adH,_,k_,_,_⟩:=M2.st;obtain⟨vQ,np,_⟩:=M2.dD;have UZ:∀b,H b≠none->bz b≠none:=λb I=>by
    cases z:hW b with
    |none=>exact absurd z (Lf b I)
    |some o=>
     by_cases ea:b=(R r.id).a6
     ·rw[ea,dX _ _ k_ G8.symm];nofun
     ·by_cases eW:b=(R r.id).aS
      ·rw[eW,dX _ _ np G7.symm];nofun
      ·by_cases gI:b=D
       ·rw[gI,<-qI,aG];nofun
       ·rw[dX _ _ (bX b o z ea eW) gI];nofun
   refine⟨YT,λb o I n=>?_,UZ,acc++[.ref er],by rw[<-qI];exact aG,by rw[dC];simp;omega,λbr c=>?_⟩
   ·exact Gz b o (et _ _ (ac b o I n)) (by rw[cr,hn];exact⟨a8 I Bo,n⟩)
   ·obtain⟨ew,ft,mT⟩:=Ez br (AV c);obtain⟨hv,gG⟩:=Pm c;have hc:∀{b8:Sty.Rule} {M:Nat},b8∈W.rules->b8.id≠r.id->hG e.P e.w e.aT e.ay br hW b8.sel (R b8.id).a6 (R b8.id).aS M->hG e.P e.w e.aT e.ay br bz b8.sel (R b8.id).a6 (R b8.id).aS M:=λ{b8 M} a' b9 z=>by obtain⟨es,bH,bR,a9,Ln,cJ,ago,rows,_,kM,_⟩:=z.st;obtain⟨kvs,jU,_⟩:=z.dD;obtain⟨aX,bt,cn,fS⟩:=e4.2 b8 a' r jO b9;have ea:(R b8.id).a6≠D:=λz=>vp (by rw[<-z];exact hx.mpr (.inr ⟨b8,a',.inl rfl⟩));have eW:(R b8.id).aS≠D:=λz=>vp (by rw[<-z];exact hx.mpr (.inr ⟨b8,a',.inr rfl⟩));exact z.mono (aA.refl _) (by rw[dX _ _ (bX _ _ kM aX bt) ea,kM]) (by rw[dX _ _ (bX _ _ jU cn fS) eW,jU]) (b5 _)
    refine⟨λb8 a'=>?_,λb8 a'=>?_,?_⟩
    ·by_cases b9:b8.id=r.id
     ·have:b8=r:=by have a:=i3.zJ a';rw[b9,i3.zJ jO] at a;exact(dZ a).symm
      subst this;exact hv.mono (aA.refl _) (by rw[dX _ _ k_ G8.symm,k_]) (by rw[dX _ _ np G7.symm,np]) (b5 _)
     ·exact hc a' b9 (ew b8 a')
    ·obtain⟨eA,k3⟩:=Nq b8 a';exact hc (List.mem_of_mem_drop eA) k3 (ft b8 eA)
    ·rw[qZ,Ac];have aE:[r].filter (λr=>r.prop==p)=[r]:=by simp[am]
     rw[aE];refine oH mT ⟨er,(R r.id).c7,bS,i5,_,_,_,rfl,c.rm er _ ?_,c.cu _ _ kA,gG⟩;rw[<-qI,aj Py.symm];exact aG
 ·
  intro gn fb;have Yl:(ge W R).length=W.rules.length:=by unfold ge;rw[cc]
  rw[Yl] at fb;obtain⟨aa,ac,av,acc,j9,iA,fk⟩:=fb;refine⟨aa,?_⟩;have bu:∀b o,gn b=some o->b≠ax->upd gn ax (.cq (ge W R)) b=some o:=λb o I n=>by rw[aj n];exact I
  have rm:∀b xs,gn b=some (.tup xs)->upd gn ax (.cq (ge W R)) b=some (.tup xs):=λb xs I=>bu b _ I (fo I aa nofun);have eM:∀b,H b≠none->upd gn ax (.cq (ge W R)) b≠none:=λb I=>by
   by_cases n:b=ax
   ·rw[n,aG];nofun
   ·rw[aj n];exact av b I
  have AX:∀{br},jf F H (b_ W R ax) (upd gn ax (.cq (ge W R))) br->jf F H (D::b_ W R ax) gn br:=λc=>c.back (λb o I n=>bu b o I (λz=>n (by rw[z];exact d7 _ HU))) (λb z=>d7 _ z) rm;refine q _ D ⟨λb o I n=>bu b o (ac b o (s1 b o I) n) (λz=>n (by rw[z];exact HU)),O.un,λb I=>⟨.inl I,?_⟩,eM,λbr cu eQ bW=>?_⟩ yh vp λbr c=>?_
  ·obtain⟨o,aI,_⟩:=O.at_.there b I;exact eM b (by rw[aI];nofun)
  ·obtain⟨cv,_,_⟩:=fk br (AX ⟨cu,eQ,bW⟩);refine⟨⟨aq,cu _ _ ha⟩,aG,λr a'=>?_⟩;obtain⟨i5,kA⟩:=(O.at_.rules r a').ins;exact⟨⟨i5,cu _ _ kA⟩,(cv r a').mono (aA.refl _) (aj (e4.1 r a').1) (aj (e4.1 r a').2.1) (b5 _)⟩
  ·obtain⟨_,_,gm⟩:=fk br (AX c);rw[lx] at gm;exact⟨acc,c.nw D _ yh vp (bu _ _ j9 zd),gm⟩
def acU (h:l.Perm m):∀C:List α,m=C.map f->∃L:List α,L.Perm C/\L.map f=l:=by
 induction h with
 |nil=>
  intro C e;have:C=[]:=by cases C with
   |nil=>rfl
   |cons c C=>simp at e
  subst this;exact⟨[],.nil,rfl⟩
 |cons x _ bE=>
  intro C e;cases C with
  |nil=>simp at e
  |cons c C=>rw[ck,uO] at e;obtain⟨L,aa,ac⟩:=bE C e.2;exact⟨c::L,aa.cons _,by rw[ck,ac,<-e.1]⟩
 |swap x y l=>
  intro C e
  match C,e with
  |[],e=>simp at e
  |[_],e=>simp at e
  |a::b::C,e=>rw[ck,ck,uO,uO] at e;obtain⟨aE,aL,bI⟩:=e;exact⟨b::a::C,.swap _ _ _,by rw[ck,ck,<-aE,<-aL,<-bI]⟩
 |trans _ _ Zr Zs=>intro C e;obtain⟨aB,aa,ac⟩:=Zs C e;obtain⟨D_,av,bn⟩:=Zr aB ac.symm;exact⟨D_,av.trans aa,bn⟩
def oK (t:Tm.hZ):cm.mg:=⟨t.2.1.strong,(t.2.2.1:Int),(t.2.2.2:Int),(t.1:Int),(t.2.1.id:Int)⟩
def adE (h:cm.jS (oK a) (oK b)=false):Tm.q8 a b=false:=by
 unfold cm.jS oK at h;have h:=tf h;simp only at h;unfold Tm.q8;refine cW λz=>h ?_;have dG:∀x:Bool,b2i x=(Tm.EB x:Int):=λx=>by cases x<;>rfl
 rw[dG,dG];rcases z with z|⟨cv,cx⟩
 ·exact .inl (by omega)
 ·exact .inr ⟨cv,by omega⟩
def ik.uniq (h:ik H a k)(h':ik H a b0):k=b0:=by obtain⟨c_,aa,ac⟩:=h;obtain⟨ahi,qG,Bl⟩:=h';rw[aa] at qG;injection qG with e;injection e with e;injection e with aE e;injection e with aL e;injection e with bI e;injection e with gO _;injection aE with aE;injection aL with aL;injection bI with bI;injection gO with gO;subst aL;rw[ac] at Bl;injection Bl with e;injection e with e;injection e with f1 e;injection e with f2 _;injection f1 with f1;injection f2 with f2;obtain⟨s,t,g,c,n⟩:=k;obtain⟨s',t',g',b7,hA⟩:=b0;simp only at aE bI gO f1 f2;rw[aE,bI,gO,f1,f2]
def ik.eK (e:∀b xs,A b=some (.tup xs)->B b=some (.tup xs)):ik A a k->ik B a k
 |⟨c_,aa,ac⟩=>⟨c_,e _ _ aa,e _ _ ac⟩
theorem Mm {x:Nat}:∀{kvs:List (Key×V)} {bd:List (Nat×Sty.Weight)},rz F kvs bd->(bd.map (·.1)).Nodup->(∀v,(x,v)∈bd->∃p,ei kvs (cf x)=some (.ref p)/\F p=some (.tup (uK v)))/\(x∉bd.map (·.1)->ei kvs (cf x)=none)
 |_,_,.nil,_=>⟨λv h=>(by cases h),λ_=>rfl⟩
 |bJ::kvs,g::bd,.cons r t,nd=>by
  rw[ck,hk] at nd;obtain⟨dm,c2⟩:=Mm (x:=x) t nd.2;obtain⟨cj,p,dB,kJ⟩:=r;have aw:bJ.1=cf g.1:=cj;by_cases e:g.1=x
  ·have bx:ei (bJ::kvs) (cf x)=some bJ.2:=by obtain⟨a,b⟩:=bJ;exact l5 (by show a=cf x;rw[show a=cf g.1 from aw,e])
   constructor
   ·intro v hm;rcases cr.mp hm with z|z
    ·exact⟨p,by rw[bx,dB],by rw[<-z] at kJ;exact kJ⟩
    ·exact absurd (o1 (f:=λg:Nat×Sty.Weight=>g.1) z) (by rw[<-e];exact nd.1)
   ·intro ak;rw[ck,cr,hn] at ak;exact absurd e.symm ak.1
  ·have bx:ei (bJ::kvs) (cf x)=ei kvs (cf x):=by obtain⟨a,b⟩:=bJ;exact jH (by intro z;exact e (y1 (by rw[<-show a=cf g.1 from aw];exact z)))
   rw[bx];constructor
   ·intro v hm;rcases cr.mp hm with z|z
    ·exact absurd (by rw[<-z]) e
    ·exact dm v z
   ·intro ak;rw[ck,cr,hn] at ak;exact c2 ak.2
def Bc (W:Sty.State)(s:Sty.Selector):(ms W s).map (·.1)=(Sty.ordered W).filter λx=>(Tm.gB W s x).isSome:=by
 unfold ms
 induction Sty.ordered W with
 |nil=>rfl
 |cons a l bE=>
  rw[nH,uP];cases Tm.gB W s a with
  |none=>exact bE
  |some v=>exact iM (a::·) bE
def VJ {x:Nat}:(x,v)∈ms W s↔x∈Sty.ordered W/\Tm.gB W s x=some v:=by
 unfold ms;rw[Af];constructor
 ·rintro⟨a,aa,ac⟩;obtain⟨u,av,bn⟩:=mX.mp ac;cases bn;exact⟨aa,av⟩
 ·rintro⟨aa,ac⟩;exact⟨x,aa,by rw[ac];rfl⟩
def Mi {x:Nat}(hw:Tm.bD W)(ao:x∈Tm.ids W)(h:rz F kvs (ms W s)):(∀v,Tm.gB W s x=some v->∃p,ei kvs (cf x)=some (.ref p)/\F p=some (.tup (uK v)))/\(Tm.gB W s x=none->ei kvs (cf x)=none):=by
 have nd:((ms W s).map (·.1)).Nodup:=by rw[Bc];exact sX nI hw.zq
 obtain⟨aa,ac⟩:=Mm (x:=x) h nd;refine⟨λv bx=>aa v (VJ.mpr ⟨hw.ub.mpr ao,bx⟩),λbx=>ac ?_⟩;rw[Bc,hj,bx];exact λz=>by cases z.2
abbrev zP:Stmt:=top 21
inductive Df(cg:U)(vs:List V)(H:ah)(Q:cM)(_:fG):Prop|i(l:U)(G:ah)(W:Sty.State)(p x:Nat)(_:vs=[.ref l,bj x])(_:JF cg G W l (Tm.h4 W p))(_:aA G H)(_:Tm.bD W)(_:x∈Tm.ids W)(_:(Tm.h4 W p).length<=64)(_:∀ab gU L bs,aA H ab->H gU=none->Tm.rC W p x L->ab gU=some (.lst (bs.map V.ref))->Paired (ik ab) bs (L.map oK)->Q (.ref gU) ab)
def zW:c3 ["rules","node","rivals","came","entry","weights"] ahC (ct zP):={}
def acb {P:bg}{w:bb}{K:PySem.W.Frag}{ae:Str->Option af}{base:a5}{cg ci gr:U}{iw:b6}{f:U}{fd:b6}(T:n1 K ae ci cg gr iw)(B:pf ae)(D:cX K ae "rivals_at" zP ahC f fd):aQ P w K ae base bc 1 f fd ahC (Df cg):=by
 refine D.fn.ok zW (λbU A outer s H vs Q E au h=>?_);obtain⟨l,G,W,p,x,rfl,⟨bC,aC,nu⟩,zM,hw,ao,tL,q⟩:=h;have aW:=kB au;refine⟨_,a_ (cE (i:=2) zW.nd (dL aY))
  (a_ (lZ kS rfl (P_ (by rfl) B.en (aK (ag 0) aY)) (oI rfl (gY (fJ (i:=3) zW.nd) (gY (fJ (i:=4) zW.nd) oJ)))
   (a_ (cE (i:=5) zW.nd (da la (ag 4) bM (λ_ _=>rfl)))
   (bo (dh (jA (HA aW (ag 1) (ag 5)) (by with_unfolding_all rfl)) (bo (hQ (lh kR mY nK nz (ag 2) (aK (nA (aK (bT (da la (ag 4) bM (λ_ _=>rfl)) rfl) (aK (jz aW (ag 5) (ag 1) (λ_ _=>rfl)) (aK (ag 3) (aK (da la (ag 4) bM (λ_ _=>rfl)) aY))))) aY)))) dn))))
  (bo (cp (acS (by rfl) B.rj (Gi au) (ag 2))))),?_⟩
 refine⟨cH 0,λcJ oo=>?_⟩;have s0:aA H (upd H cJ (.lst [])):=aA.upd oo;have mD:bC.length=(Tm.h4 W p).length:=fu nu;refine⟨_,rfl,l,bC,rfl,bA.of (s0 _ _ (zM _ _ aC)),Mk (K:=K) (a:=l) (xs:=bC) (λi σ ab=>∃gJ v4 e7 as,σ=[some (.ref l),some (bj x),some (.ref cJ),gJ,v4,e7]/\aA H ab/\ab cJ=some (.lst (as.map V.ref))/\as.length<=i/\Paired (ik ab) as ((Tm.gN W x 0 ((Tm.h4 W p).take i)).map oK)) ⟨none,none,none,[],rfl,s0,aG,b5 _,.nil⟩ ?_ ?_ ?_⟩
 ·rintro i σ ab aR ⟨gJ,v4,e7,as,rfl,s1,_⟩;exact bA.of (s1 _ _ (zM _ _ aC))
 ·rintro i y σ ab pb aR ⟨gJ,v4,e7,as,rfl,s1,has,iA,t2⟩ yo;obtain⟨r,i2,fx⟩:=mJ nu aR;obtain⟨e,c7,bS,i5,ac9,oV,sel,rfl,he,yY,kvs,i0,kv⟩:=fx.ex;obtain⟨f1,f2⟩:=Mi hw ao kv;generalize js:upd ab pb (.tup [.int (i:Nat),.ref e])=ap;have ib:aA ab ap:=by rw[<-js];exact aA.upd yo
  have s2:aA H ap:=s1.trans ib;have g2:aA G ap:=zM.trans s2;have vz:i < (Tm.h4 W p).length:=(eX.mp i2).1;have qZ:(Tm.h4 W p).take (i+1)=(Tm.h4 W p).take i++[r]:=by rw[ko,i2];rfl
  have yA:=Tm.EN W x ((Tm.h4 W p).take i) 0 r;rw[<-qZ,mW,min_eq_left (by omega),uU] at yA;refine⟨pb,_,rfl,c5.of (by rw[<-js];exact aG),rfl,?_⟩;refine⟨_,_,rfl,_,_,rfl,rfl,?_⟩;refine⟨_,rfl,e,_,2,_,rfl,rfl,c5.of (g2 _ _ he),dT (j:=2) rfl,?_⟩;refine⟨_,rfl,_,rfl,bS,_,rfl,dy.k (k:=cf x) (g2 _ _ i0),_,rfl,?_⟩;cases ot:Tm.gB W r.sel x with
  |none=>rw[ot,l7] at yA;refine df (by rw[f2 ot];rfl) ⟨some (.int (i:Nat)),some (.ref e),some (.ref bS),as,rfl,s2,ib _ _ has,by omega,?_⟩;rw[yA];exact Paired.gH t2 λ_ _ z=>ik.eK (λb xs I=>ib _ _ I) z
  |some v=>
   rw[ot] at yA;obtain⟨wp,BL,pM⟩:=f1 v ot;refine fB (by rw[BL];rfl) ?_;have bK:dy ap bS (bj x) (some (.ref wp)):=by rw[<-BL];exact dy.k (k:=cf x) (g2 _ _ i0)
   refine⟨_,rfl,.inl ⟨rfl,_,bA.of (ib _ _ has)⟩,_,rfl,e,_,1,_,rfl,rfl,c5.of (g2 _ _ he),dT (j:=1) rfl,c7,cg,i5,_,_,rfl,g2 _ _ yY,T.cN,T.oy,adJ,_,rfl,_,rfl,bS,_,rfl,bK,_,rfl,_,rfl,e,_,0,_,rfl,rfl,c5.of (g2 _ _ he),dT (j:=0) rfl,cH 4,λer gS=>?_⟩;have Pz:cJ≠er:=a8 (ib _ _ has) gS;refine⟨cJ,_,_,rfl,rfl,by rw[aj Pz];exact ib _ _ has,jP (by rw[cc];omega),?_⟩;have t3:∀b xs,ap b=some (.tup xs)->upd (upd ap er (.tup [.bL r.strong,.ref wp,.int (i:Nat),bj r.id])) cJ (.lst (as.map V.ref++[.ref er])) b=some (.tup xs):=λb xs I=>by rw[aj (fo I (ib _ _ has) nofun),aj (a8 I gS)];exact I
   refine⟨some (.int (i:Nat)),some (.ref e),some (.ref bS),as++[er],rfl,λb o I=>?_,by rw[aG,hi];rfl,by rw[dC];simp;omega,?_⟩
   ·rw[aj (a8 I oo),aj (a8 (s2 _ _ I) gS)];exact s2 _ _ I
   ·rw[yA,hi];refine oH (Paired.gH t2 λ_ _ z=>ik.eK (λb xs I=>t3 _ _ (ib _ _ I)) z) ⟨wp,?_,t3 _ _ (g2 _ _ pM)⟩;rw[aj Pz.symm];exact aG
 ·rintro σ ab ⟨gJ,v4,e7,as,rfl,s1,has,iA,t2⟩;rw[mD,lx] at t2;have hex:∀a∈as,∃k,ik ab a k:=λa al=>by obtain⟨j,bF⟩:=wX.mp al;obtain⟨k,_,aw⟩:=mJ t2 bF;exact⟨k,aw⟩
  obtain⟨key,mz⟩:∃key:U->cm.mg,∀a∈as,ik ab a (key a):=by
   refine Classical.axiomOfChoice (r:=λ(a:U) (k:cm.mg)=>a∈as->ik ab a k) λa=>?_;by_cases al:a∈as
   ·obtain⟨k,aw⟩:=hex a al;exact⟨k,λ_=>aw⟩
   ·exact⟨⟨false,0,0,0,0⟩,λz=>absurd z al⟩
  have Yr:as.map key=(Tm.gN W x 0 (Tm.h4 W p)).map oK:=by
   clear hex has iA;generalize (Tm.gN W x 0 (Tm.h4 W p)).map oK=dY at t2
   induction t2 with
   |nil=>rfl
   |@cons a k as dY r _ bE=>rw[ck,bE λb I=>mz b (d7 _ I),ik.uniq (mz a (dW ..)) r]
  refine⟨_,rfl,cJ,as,key,rfl,bA.of has,mz,λbs gU vE qX kz=>?_⟩;have pJ:(bs.map key).Perm ((Tm.gN W x 0 (Tm.h4 W p)).map oK):=by rw[<-Yr];exact vE.map key
  obtain⟨L,Xp,vq⟩:=acU pJ _ rfl;refine q _ gU L bs (s1.trans (aA.upd kz)) (s1.free kz) ⟨Xp,?_⟩ aG ?_
  ·have:(L.map oK).Pairwise λa b=>cm.jS a b=false:=by rw[vq,w0];exact qX
   rw[w0] at this;exact this.imp λ{a b} h=>adE h
  ·rw[vq];exact Hy λa al=>ik.eK (λb xs I=>(aA.upd kz) _ _ I) (mz a (vE.mem_iff.mp al))
def QW (Kk:aB.St->ah->Prop)(aa:∀σ' ab,Kk σ' ab->u D σ' ab)(ac:∀u9:aB.St->ah->Prop,(∀σ' ab,Kk σ' ab->u9 σ' ab)->t {D with cG:=u9} σ H):ki t u D σ H:=ac (u D) aa
section
variable {N N':Nat}
def SStep.more (S:SStep e F H W R bw ax cz R' N' H1)(ahe:aA F H1)(s:aA H1 ap):SStep e F H W R bw ax cz R' N' ap:=by
 have b9:∀b,H1 b≠none->ap b≠none:=λb I=>by
  cases z:H1 b with
  |none=>exact absurd z I
  |some o=>rw[s _ _ z];nofun
 refine⟨S.bu.trans (aA.bu s),S.un,λb I=>⟨(S.new b I).1,b9 b (S.new b I).2⟩,λb I=>b9 b (S.eM b I),λbr cu eQ bW=>?_⟩;have A:=S.at_ br cu (λb o aa ac av=>eQ b o aa ac (s _ _ av)) λb xs h=>bW b xs (s _ _ h);refine A.keep (aA.refl _) λb I=>?_;obtain⟨o,aI,_⟩:=A.there b I;rw[aI,s _ _ aI]
def h1.after {aM aO:U}{F H H1:ah}{W:Sty.State}{L:Nat->el}{R:Nat->eZ}{a4 nd ax:U}(gj:h1 aM aO F H W L a4 nd)(sep:∀b∈dg W L nd,b∉b_ W R ax)(k:ih (b_ W R ax) H H1):h1 aM aO F H1 W L a4 nd:=
 ⟨gj.a4,k _ _ gj.nd (sep _ (jQ.mpr (.inl rfl))),λn ak=>⟨(gj.nodes n ak).ins,k _ _ (gj.nodes n ak).ch (sep _ (jQ.mpr (.inr ⟨n,ak,.inl rfl⟩))),k _ _ (gj.nodes n ak).cs (sep _ (jQ.mpr (.inr ⟨n,ak,.inr rfl⟩)))⟩⟩
def tg (e:fg)(F H:ah)(W:Sty.State)(R:Nat->eZ)(bw ax:U)(N':Nat)(c:Sty.Call)(Q:cM):Prop:=∀ab q,SStep e F H W R bw ax W R N' ab->H q=none->q∉b_ W R ax->ab q=some (.lst (k1 (Sty.step W c).2))->Q (.ref q) ab
def SStep.up (S:SStep e F H W R bw ax cz R' N H1)(h:N<=N'):SStep e F H W R bw ax cz R' N' H1:=
 ⟨S.bu,S.un,S.new,S.eM,λbr a b c=>by have A:=S.at_ br a b c;exact⟨A.bw,A.ax,λr au=>⟨(A.rules r au).ins,(A.rules r au).sel.mono (aA.refl _) rfl rfl h⟩⟩⟩
def tg.done (p:tg e F H W R bw ax N' c Q)(S:SStep e F H W R bw ax W R N' H1)(ao:xs=k1 (Sty.step W c).2)(az:H1 q=none):Q (.ref q) (upd H1 q (.lst xs)):=by obtain⟨s1,s2,s3⟩:=S.xx (xs:=xs) az;exact p _ q s1 s2 s3 (by rw[aG,ao])
def ji.wA (S:ji e F H W R bw ax N)(s:aA H H1):SStep e F H W R bw ax W R (N+128) H1:=(S.hS s).up (by omega)
end
abbrev CT:Stmt:=top 22
inductive Iw(e:fg)(aM aO:U)(vs:List V)(H:ah)(Q:cM)(_:fG):Prop|i(a4 nd bw ax:U)(F:ah)(W:Sty.State)(L:Nat->el)(R:Nat->eZ)(N x p:Nat)(_:vs=[.ref a4,.ref bw,bj x,bj p])(_:h1 aM aO F H W L a4 nd)(_:Tm.bD W)(_:ji e F H W R bw ax N)(_:∀b∈dg W L nd,b∉b_ W R ax)(_:tg e F H W R bw ax (N+128) (.value x p) Q)
def uE:c3 ["tree","sheet","node","property_number","rules","rivals","above","number"] ahm (ct CT):={}
def abY {K:PySem.W.Frag}{ae:Str->Option af}{base:a5}{aO aM eO gr:U}{fP iw:b6}{e:fg}{f f0 f1:U}{fd xQ fO:b6}(TT:lD K ae aM aO eO fP)(T:n1 K ae e.ci e.cg gr iw)(B:pf ae)(fw:∃t,ae "FIRST_HANDED_DOWN"=some (.int 2147483648 t))(D:cX K ae "ask_value" CT ahm f fd)
  (th:cX K ae "rules_for" wt ahs f0 xQ) (DW:aQ e.P e.w K ae base bc 8 f0 xQ ahs (Dh e aM aO)) (kp:cX K ae "rivals_at" zP ahC f1 fO) (kV:aQ e.P e.w K ae base bc 1 f1 fO ahC (Df e.cg)):
  aQ e.P e.w K ae base bc 9 f fd ahm (Iw e aM aO):=by
 refine D.fn.ok uE (λbU A outer s H vs Q E au h=>?_);obtain⟨a4,nd,bw,ax,F,W,L,R,N,x,p,rfl,gj,hw,O,sep,q⟩:=h;have aW:=kB au;have gu:c1 1 _:=au.mono (by omega);obtain⟨vi,pC⟩:=fw;obtain⟨ic,q0⟩:=gj.a4;have dA:=O.bQ _ _ q0;obtain⟨l1,ha⟩:=O.at_.bw;have i3:=O.wf;refine⟨_,a_ (dh (jA (pW aW (ag 2) (bT (ag 0) rfl)) (by with_unfolding_all rfl)) (bo (cp (dL (aK (kc kk bM) aY)))) dn)
  (a_ (cE (i:=4) uE.nd (hB DW au rfl th.ae th.bu th.bi .nil cA (aK (ag 0) (aK (ag 1) (aK (ag 3) aY)))))
  (a_ (cE (i:=5) uE.nd (hB kV gu rfl kp.ae kp.bu kp.bi .nil cA (aK (ag 4) (aK (ag 2) aY))))
  (a_ (dh (eJ act (ag 3) (hg (v:=.int 2147483648) rfl pC ⟨vi,rfl⟩) (d4 _))
   (a_ (cE (i:=6) uE.nd (bT (jz aW (bT (ag 0) rfl) (ag 2) (λ_ _=>rfl)) rfl))
   (bo (sI kS (kX.pt (HP (eJ gA (gX j6 (by rfl) B.len jd (aK (ag 5) aY)) bM (d4 _)) (HQ (jA (zv (ag 6))))))
    (a_ (cE (i:=5) uE.nd (hB kV gu rfl kp.ae kp.bu kp.bi .nil cA (aK (ag 4) (aK (ag 6) aY))))
    (bo (cE (i:=6) uE.nd (bT (jz aW (bT (ag 0) rfl) (ag 6) (λ_ _=>rfl)) rfl))))))) dn)
  (a_ (dh (eJ gA (gX j6 (by rfl) B.len jd (aK (ag 5) aY)) bM (d4 _)) (bo (cp (dL (aK bM aY)))) dn)
  (a_ (cE (i:=7) uE.nd (da la (da gk (ag 5) bM (λ_ _=>rfl)) bM (λ_ _=>rfl)))
  (bo (cp (dL (aK (ag 7) (aK (bT (jz aW (bT (ag 1) rfl) (ag 7) (λ_ _=>rfl)) rfl) aY)))))))))),?_⟩
 have fy:=dy.k (H:=H) (k:=cf x) gj.nd;rw[lX] at fy;refine⟨_,rfl,_,rfl,a4,aM,ic,_,_,rfl,dA,TT.gE,TT.h5,jF,nd,_,rfl,fy,_,rfl,?_⟩;have dQ:(Sty.step W (.value x p)).2=(match Sty.node W x with
  |none=>NO
  |some n=>match Sty.ruleAt W p n.id with
   |some r=>⟨(r.id:Nat),[r.value]⟩
   |none=>says 0):=rfl
 cases am:Sty.node W x with
 |none=>rw[am] at dQ;exact d3 ⟨_,rfl,cH 1,λr a'=>q.done (O.wA (aA.refl _)) (by rw[dQ];rfl) a'⟩
 |some cI=>
  obtain⟨yR,r'⟩:=Tm.ra am;rw[am] at dQ;replace dQ:(Sty.step W (.value x p)).2=(match Sty.ruleAt W p cI.id with
   |some r=>⟨(r.id:Nat),[r.value]⟩
   |none=>says 0):=dQ
  refine eS ?_;refine⟨_,rfl,_,rfl,_,rfl,a4,nd,bw,ax,F,W,L,R,N,p,rfl,gj,hw,O,λH1 l kY i1 yM Fu=>?_⟩;have ln:aA F H1:=λb o I=>kY.bu b o (O.bQ b o I) (λz=>by rw[O.off b z] at I;cases I);have AU:=pR (H:=H) (M:=b_ W R ax) ln;have tN:=Fu _ AU;have Tl:=kY.at_ _ AU.cu AU.nw AU.rm;have Ec:=gj.after sep kY.bu;have ao:x∈Tm.ids W:=Tm.gy.mpr ⟨cI,yR,r'⟩;have tL:(Tm.h4 W p).length<=64:=gC (s7 _ _) i3.kE;have qV:∀n∈W.nodes,∀ap,aA H1 ap->dy ap nd (bj n.id) (some (.ref (L n.id).na))/\∃gW,ap (L n.id).na=some (.ins aO gW (h8 (bj n.tag) (h9 n) (L n.id).ca (L n.id).cl)):=λn ak ap s=>by
   refine⟨?_,?_⟩
   ·have z:=dy.k (H:=ap) (k:=cf n.id) (s _ _ Ec.nd);rw[lX,hw.jy ak] at z;exact z
   ·obtain⟨gW,dk⟩:=(gj.nodes n ak).ins;exact⟨gW,s _ _ (ln _ _ dk)⟩
  refine⟨_,rfl,_,rfl,l,_,W,p,x,rfl,tN,pS ln,hw,ao,tL,λap gU nU bs s2 Yn qL kz nl=>?_⟩;unfold jr;dsimp only[List.set];show ki (oP _ _ oQ) _ _ _ _;refine QW (λσ' ab=>∃y gU jh bs v6,σ'=[some (.ref a4),some (.ref bw),some (bj x),some (bj p),some (.ref l),some (.ref gU),v6,none]/\aA H1 ab/\Tm.rC W p y jh/\ab gU=some (.lst (bs.map V.ref))/\Paired (ik ab) bs (jh.map oK)/\Sty.ruleAt W p x=jh.head?.map (·.2.1)) ?_ ?_
  ·
   rintro σ' ab ⟨y,gU,jh,bs,v6,rfl,s',iz,kz,nl,sd⟩;rw[show cI.id=x from r',sd] at dQ;have kx:bs.length=jh.length:=by rw[fu nl,cc]
   refine⟨_,rfl,gU,_,rfl,.inl (bA.of kz),rfl,_,rfl,?_⟩;rw[cc,kx];cases jh with
   |nil=>exact d3 ⟨cH 1,λr a'=>q.done (kY.more ln s') (by rw[dQ];rfl) a'⟩
   |cons t jh=>
    refine df (cW (by intro z;injection z with z;rw[fK] at z;omega)) ?_;rw[ck] at nl;cases nl with
    |@cons b _ KN _ bx mD=>
     obtain⟨c_,r7,qP⟩:=bx;have jO:t.2.1∈W.rules:=by have aa:t∈Tm.gN W y 0 (Tm.h4 W p):=iz.perm.mem_iff.mp (dW ..);have ac:=(Tm.xC W y (Tm.h4 W p) 0).subset (o1 (f:=λt:Tm.hZ=>t.2.1) aa);exact(hj.mp ac).1
     obtain⟨zI,i2⟩:=(O.at_.rules t.2.1 jO).ins;have pD:dy ab ax (bj t.2.1.id) (some (.ref (R t.2.1.id).c7)):=by have z:=dy.k (H:=ab) (k:=cf t.2.1.id) (s' _ _ Tl.ax);rw[zH,i3.zJ jO] at z;exact z
     refine⟨_,rfl,gU,_,0,_,rfl,rfl,bA.of kz,dT (j:=0) rfl,b,_,3,_,rfl,rfl,c5.of r7,dT (j:=3) rfl,?_⟩;refine⟨_,rfl,_,rfl,bw,e.ci,l1,_,_,rfl,s' _ _ (ln _ _ ha),T.lG,T.kF,oh,_,rfl,ax,_,rfl,pD,(R t.2.1.id).c7,e.cg,zI,_,_,rfl,s' _ _ (ln _ _ i2),T.cN,T.ug,adK,cH 2,λr a'=>?_⟩;exact q.done (kY.more ln s') (by rw[dQ];rfl) a'
  ·intro u9 hs;have By:∀{y jh},Tm.rC W p y jh->Tm.ya W p y=jh.head?.map (·.2.1):=λ{y jh} h=>by unfold Tm.ya;rw[h.first,Option.map_map];rfl
   refine⟨_,rfl,_,_,rfl,rfl,_,rfl,?_⟩;by_cases Np:2147483648<=p
   ·refine fB (ej (by omega)) ?_;obtain⟨g1,gW,g2⟩:=qV cI yR ap s2;rw[show bj cI.id=bj x by rw[r']] at g1;refine⟨_,rfl,a4,aM,ic,_,_,rfl,s2 _ _ (ln _ _ q0),TT.gE,TT.h5,jF,_,rfl,nd,_,rfl,g1,_,aO,gW,_,_,rfl,g2,TT.iV,TT.uf,vY,?_⟩;refine⟨λm σ ab=>∃n gU jh bs,n∈W.nodes/\m=Tm.kC W n.id/\σ=[some (.ref a4),some (.ref bw),some (bj x),some (bj p),some (.ref l),some (.ref gU),some (h9 n),none]/\aA H1 ab/\Tm.rC W p n.id jh/\ab gU=some (.lst (bs.map V.ref))/\Paired (ik ab) bs (jh.map oK)/\Sty.ruleAt W p x=((n.id::Tm.xw W n.id).filterMap (Tm.ya W p)).head?,⟨_,cI,gU,nU,bs,yR,rfl,rfl,s2,by rw[r'];exact qL,kz,nl,by rw[r',Tm.QF,aV (show Sty.DOWN<=p from Np)]⟩,?_⟩;rintro m σ ab ⟨n,gU,jh,bs,ak,rfl,rfl,s',iz,kz,nl,sd⟩;have kx:bs.length=jh.length:=by rw[fu nl,cc]
    refine⟨_,rfl,gU,_,rfl,.inl (bA.of kz),rfl,_,rfl,?_⟩;rw[cc,kx];have exit:Sty.ruleAt W p x=jh.head?.map (·.2.1)->u9 [some (.ref a4),some (.ref bw),some (bj x),some (bj p),some (.ref l),some (.ref gU),some (h9 n),none] ab:=λz=>hs _ _ ⟨n.id,gU,jh,bs,_,rfl,s',iz,kz,nl,z⟩;cases Br:jh with
    |cons t age=>refine df (cW (by intro z;injection z with z;rw[fK] at z;omega)) ?_;refine eS (exit ?_);rw[sd,Br];exact Tm.Mg (by rw[By iz,Br];rfl)
    |nil=>
     refine d3 ?_;have yT:Tm.ya W p n.id=none:=by rw[By iz,Br];rfl
     rw[Tm.Mf yT,hw.Tv ak] at sd;refine⟨_,rfl,_,rfl,?_⟩;by_cases yX:n.parent=n.id
     ·refine df (by unfold h9;rw[aV yX];rfl) (exit ?_);rw[aV yX] at sd;rw[sd,Br];rfl
     ·have LF:h9 n=bj n.parent:=aN yX;rw[aN yX] at sd;refine fB (by rw[LF];rfl) ⟨_,λ_ _ z=>z,?_⟩;obtain⟨cR,yU,mA⟩:=Tm.gy.mp (hw.uv ak);rw[LF,<-mA];refine⟨_,rfl,_,rfl,l,_,W,p,cR.id,rfl,tN,(pS ln).trans s',hw,Tm.gy.mpr ⟨cR,yU,rfl⟩,tL,λbz aaj S_ Ui s3 agF Fz Yo XI=>?_⟩;obtain⟨g1,gW,g2⟩:=qV cR yU bz (s'.trans s3);refine⟨_,rfl,a4,aM,ic,_,_,rfl,s3 _ _ (s' _ _ (ln _ _ q0)),TT.gE,TT.h5,jF,_,rfl,nd,_,rfl,g1,_,aO,gW,_,_,rfl,g2,TT.iV,TT.uf,vY,?_⟩;have:=hw.uu ak yX;exact⟨Tm.kC W cR.id,by rw[mA];exact this,cR,aaj,S_,Ui,yU,rfl,rfl,s'.trans s3,Fz,Yo,XI,by rw[sd,<-mA]⟩
   ·refine df (cW (by omega)) ?_;refine hs _ _ ⟨x,gU,nU,bs,none,rfl,s2,qL,kz,nl,?_⟩;rw[Tm.QF,aN (show ¬Sty.DOWN<=p from Np)];cases M0:nU with
    |nil=>rw[Tm.Mf (by rw[By qL,M0];rfl)];rfl
    |cons t L'=>exact Tm.Mg (by rw[By qL,M0];rfl)
section
variable {N:Nat}
def ji.QU (O:ji e F H W R bw ax N)(au:r∈W.rules)(s:aA H H1):hG e.P e.w e.aT e.ay (gx F H (b_ W R ax) H1) H1 r.sel (R r.id).a6 (R r.id).aS N/\gx F H (b_ W R ax) H1 (R r.id).a6=none/\gx F H (b_ W R ax) H1 (R r.id).aS=none:=by
 have A:=(O.at_.rules r au).sel;have lS:(R r.id).a6∈b_ W R ax:=hx.mpr (.inr ⟨r,au,.inl rfl⟩);have lP:(R r.id).aS∈b_ W R ax:=hx.mpr (.inr ⟨r,au,.inr rfl⟩);obtain⟨um,pG,t1⟩:=O.at_.there _ lS;obtain⟨uo,tY,fV⟩:=O.at_.there _ lP;refine⟨A.mono (pR (O.bQ.trans s)).cu (by rw[pG,s _ _ pG]) (by rw[tY,s _ _ tY]) (b5 _),vT (O.off _ lS) lS λxs z=>?_,vT (O.off _ lP) lP λxs z=>?_⟩
 ·rw[s _ _ pG] at z;exact t1 xs (dZ z)
 ·rw[s _ _ tY] at z;exact fV xs (dZ z)
def ji.asked (O:ji e F H W R bw ax N)(au:r∈W.rules)(s:aA H H1)(e6:ih [(R r.id).a6,(R r.id).aS] H1 ap)
  (nk:∀br,aA (gx F H (b_ W R ax) H1) br->aA (Diff H1 ap) br->hG e.P e.w e.aT e.ay br ap r.sel (R r.id).a6 (R r.id).aS (N+128)/\m4 br bS bd):
  SStep e F H W R bw ax W R (N+128) ap/\∀br,jf F H (b_ W R ax) ap br->m4 br bS bd:=by
 have lS:(R r.id).a6∈b_ W R ax:=hx.mpr (.inr ⟨r,au,.inl rfl⟩);have lP:(R r.id).aS∈b_ W R ax:=hx.mpr (.inr ⟨r,au,.inr rfl⟩);obtain⟨um,pG,t1⟩:=O.at_.there _ lS;obtain⟨uo,tY,fV⟩:=O.at_.there _ lP;have e4:=B8 O.un;have bX:∀b o,H1 b=some o->b≠(R r.id).a6->b≠(R r.id).aS->ap b=some o:=λb o I ea eW=>e6 b o I (by simp[ea,eW]);have GA:∀b o,H1 b=some o->b∉b_ W R ax->ap b=some o:=λb o I n=>bX b o I (λz=>n (by rw[z];exact lS)) (λz=>n (by rw[z];exact lP));have aeV:∀b xs,H1 b=some (.tup xs)->ap b=some (.tup xs):=λb xs I=>bX b _ I (λz=>by rw[z,s _ _ pG] at I;exact t1 xs (dZ I)) (λz=>by rw[z,s _ _ tY] at I;exact fV xs (dZ I));have both:∀br,jf F H (b_ W R ax) ap br->hG e.P e.w e.aT e.ay br ap r.sel (R r.id).a6 (R r.id).aS (N+128)/\m4 br bS bd:=λbr c=>
  nk br (GS (c.back GA (λ_ z=>z) aeV)) λb o I=>by obtain⟨ew,ft⟩:=mH I;have yw:=s.free ew;exact c.nw b o yw (O.lf yw) ft
 have tO:∀b o,F b=some o->b∉b_ W R ax:=λb o h z=>by rw[O.off b z] at h;cases h
 have fH:jf F H (b_ W R ax) ap (gx F H (b_ W R ax) ap):=pR λb o I=>GA b o (s _ _ (O.bQ b o I)) (tO b o I);obtain⟨Vu,ZG,T7,U7,aef,adt,Vy,adH,_,k_,_,_⟩:=(both _ fH).1.st;obtain⟨vQ,np,_⟩:=(both _ fH).1.dD;have eM:∀b,H b≠none->ap b≠none:=λb I=>by
  cases z:H b with
  |none=>exact absurd z I
  |some o=>
   by_cases ea:b=(R r.id).a6
   ·rw[ea,k_];nofun
   ·by_cases eW:b=(R r.id).aS
    ·rw[eW,np];nofun
    ·rw[bX b o (s _ _ z) ea eW];nofun
 refine⟨⟨λb o I n=>GA b o (s _ _ I) n,O.un,λb I=>⟨.inl I,?_⟩,eM,λbr cu eQ bW=>?_⟩,λbr c=>(both br c).2⟩
 ·obtain⟨o,aI,_⟩:=O.at_.there b I;exact eM b (by rw[aI];nofun)
 ·obtain⟨aq,ha⟩:=O.at_.bw;have m:=(both br ⟨cu,eQ,bW⟩).1;refine⟨⟨aq,cu _ _ ha⟩,bX _ _ (s _ _ O.at_.ax) (e4.1 r au).1.symm (e4.1 r au).2.1.symm,λb8 a'=>?_⟩;obtain⟨i5,kA⟩:=(O.at_.rules b8 a').ins;refine⟨⟨i5,cu _ _ kA⟩,?_⟩;by_cases b9:b8.id=r.id
  ·have:b8=r:=by have a:=O.wf.zJ a';rw[b9,O.wf.zJ au] at a;exact(dZ a).symm
   subst this;exact m
  ·obtain⟨aX,bt,cn,fS⟩:=e4.2 b8 a' r au b9;obtain⟨jU,sg,_⟩:=O.at_.there (R b8.id).a6 (hx.mpr (.inr ⟨b8,a',.inl rfl⟩));obtain⟨kM,pL,_⟩:=O.at_.there (R b8.id).aS (hx.mpr (.inr ⟨b8,a',.inr rfl⟩));exact(O.at_.rules b8 a').sel.mono cu (by rw[sg,bX _ _ (s _ _ sg) aX bt]) (by rw[pL,bX _ _ (s _ _ pL) cn fS]) (by omega)
end
abbrev CP:Stmt:=top 23
inductive Is(e:fg)(aM aO:U)(vs:List V)(H:ah)(Q:cM)(_:fG):Prop|i(a4 nd bw ax:U)(F:ah)(W:Sty.State)(L:Nat->el)(R:Nat->eZ)(N p x:Nat)(_:vs=[.ref a4,.ref bw,bj p,bj x])(_:h1 aM aO F H W L a4 nd)(_:Tm.bD W)(_:ji e F H W R bw ax N)(_:tg e F H W R bw ax (N+128) (.matches_ p x) Q)
def adW:c3 ahu ahu (ct CP):={}
def abT {K:PySem.W.Frag}{ae:Str->Option af}{base:a5}{aO aM eO gr:U}{fP iw:b6}{e:fg}{f f2 eU:U}{fd gP lL:b6}(TT:lD K ae aM aO eO fP)(T:n1 K ae e.ci e.cg gr iw)(dj:m9 K ae e.aT)(D:cX K ae "ask_matches" CP ahu f fd)
  (j3:cC K aM "in_order" "Tree.in_order" (et 5) ahn eU lL) (o8:aQ e.P e.w K ae base bc 2 eU lL ahn (zZ aM aO)) (M2:cC K e.aT "weights" "Selector.weights" (gl 2) ahv f2 gP) (jZ:aQ e.P e.w K ae base bc 7 f2 gP ahv (wy e.P e.w e.aT e.ay)):
  aQ e.P e.w K ae base bc 8 f fd ahu (Is e aM aO):=by
 refine D.fn.ok adW (λbU A outer s H vs Q E au h=>?_);obtain⟨a4,nd,bw,ax,F,W,L,R,N,p,x,rfl,gj,hw,O,q⟩:=h;have aW:=kB au;have fA:c1 2 _:=au.mono (by omega);obtain⟨ic,q0⟩:=gj.a4;have dA:=O.bQ _ _ q0;obtain⟨l1,Ge⟩:=O.at_.bw;have ha:=O.bQ _ _ Ge;refine⟨_,a_ (dh (kX.pt (CD (jA (pW aW (ag 2) (bT (ag 1) rfl)) (by with_unfolding_all rfl)) (CE (jA (pW aW (ag 3) (bT (ag 0) rfl)) (by with_unfolding_all rfl))))) (bo (cp (dL (aK (kc kk bM) aY)))) dn)
  (a_ (dh (jA (HA aW (ag 3) (fC (bT (jz aW (bT (ag 1) rfl) (ag 2) (λ_ _=>rfl)) rfl) dj.cl M2.dJ jZ au M2.bi .nil cA (aK (lj (ag 0) TT.gE j3.dJ o8 fA j3.bi .nil cA) aY))) (by with_unfolding_all rfl)) (bo (cp (dL (aK bM aY)))) dn)
  (bo (cp (dL (aK bM aY))))),?_⟩
 have pD:=dy.k (H:=H) (k:=cf p) O.at_.ax;rw[zH] at pD;have NA:=dy.k (H:=H) (k:=cf x) gj.nd;rw[lX] at NA;have dQ:(Sty.step W (.matches_ p x)).2=(match Sty.rule W p,Sty.node W x with
  |some q,some n=>says (if Sty.selects W q.sel n.id=true then 1 else 0)
  |_,_=>NO):=rfl
 refine⟨_,rfl,_,rfl,bw,e.ci,l1,_,_,rfl,ha,T.lG,T.kF,oh,ax,_,rfl,pD,_,rfl,?_⟩;cases am:Sty.rule W p with
 |none=>rw[am] at dQ;exact d3 (d3 ⟨_,rfl,cH 1,λr a'=>q.done (O.wA (aA.refl _)) (by rw[dQ];rfl) a'⟩)
 |some r=>
  obtain⟨jO,YX⟩:=Tm.Hp am;rw[am] at dQ pD;refine eS ⟨_,rfl,_,rfl,a4,aM,ic,_,_,rfl,dA,TT.gE,TT.h5,jF,nd,_,rfl,NA,_,rfl,?_⟩;cases ak:Sty.node W x with
  |none=>rw[ak] at dQ;exact d3 ⟨_,rfl,cH 1,λr a'=>q.done (O.wA (aA.refl _)) (by rw[dQ];rfl) a'⟩
  |some n=>
   obtain⟨YB,nq⟩:=Tm.ra ak;rw[ak] at dQ;replace dQ:(Sty.step W (.matches_ p x)).2=says (if Sty.selects W r.sel n.id=true then 1 else 0):=dQ;rw[nq,Tm.QV] at dQ;obtain⟨zI,i2⟩:=(O.at_.rules r jO).ins;obtain⟨E_,bH,bR,a9,Ii,cJ,Fa,lm,_,t4,_,_⟩:=(O.at_.rules r jO).sel.st;refine eS ⟨_,rfl,_,rfl,bw,e.ci,l1,_,_,rfl,ha,T.lG,T.kF,oh,_,rfl,ax,_,rfl,pD,(R r.id).c7,e.cg,zI,_,_,rfl,O.bQ _ _ i2,T.cN,T.sv,H2,(R r.id).a6,Ii,_,rfl,t4,sL (by w_on) (by w_on) (by w_on) (by w_on) (by w_on) (by w_on),
    _,rfl,a4,ic,_,rfl,dA,dV (by w_on),a4,nd,F,W,L,rfl,gj,hw,O.bQ,λH1 eb s1 ym=>?_⟩
   obtain⟨pz,zk,sz⟩:=O.QU jO s1;have yn:m8 (gx F H (b_ W R ax) H1) eb (Tm.rowsOf W):=ym.same λb o I=>by obtain⟨ew,ft⟩:=mH I;exact(pR (O.bQ.trans s1)).nw b o ew (O.lf ew) ft
   refine⟨(R r.id).a6,(R r.id).aS,eb,gx F H (b_ W R ax) H1,r.sel,Tm.rowsOf W,N,rfl,pz,pS (O.bQ.trans s1),zk,sz,O.le,yn,hw.closed,λap es bS tP e6 nk=>?_⟩;rw[hw.IQ tP] at nk;obtain⟨S,yi⟩:=O.asked jO s1 e6 nk;have QI:aA F ap:=λb o I=>S.bu b o (O.bQ b o I) (λz=>by rw[O.off b z] at I;cases I);obtain⟨kvs,i0,kv⟩:=yi _ (pR QI);obtain⟨f1,f2⟩:=Mi (s:=r.sel) (x:=x) hw (Tm.gy.mpr ⟨n,YB,nq⟩) kv;refine⟨bS,_,rfl,dy.k (k:=cf x) (pS QI _ _ i0),_,rfl,?_⟩;cases ot:Tm.gB W r.sel x with
   |none=>rw[ot] at dQ;exact df (by rw[f2 ot];rfl) ⟨cH 1,λr a'=>q.done S (by rw[dQ];rfl) a'⟩
   |some v=>rw[ot] at dQ;obtain⟨wp,BL,pM⟩:=f1 v ot;exact fB (by rw[BL];rfl) ⟨cH 1,λr a'=>q.done S (by rw[dQ];rfl) a'⟩
abbrev CU:Stmt:=top 25
inductive Ix(e:fg)(vs:List V)(H:ah)(Q:cM)(_:fG):Prop|i(bw ax:U)(F:ah)(W:Sty.State)(R:Nat->eZ)(N p:Nat)(_:vs=[.ref bw,bj p])(_:ji e F H W R bw ax N)(_:tg e F H W R bw ax (N+128) (.weight p) Q)
def adY:c3 ahD ahD (ct CU):={}
def abZ {K:PySem.W.Frag}{ae:Str->Option af}{base:a5}{gr:U}{iw:b6}{e:fg}{f f1:U}{fd fO:b6}(T:n1 K ae e.ci e.cg gr iw)(dj:m9 K ae e.aT)(B:pf ae)(D:cX K ae "ask_weight" CU ahD f fd)
  (fv:cC K e.aT "greatest_weight" "Selector.greatest_weight" (gl 1) ahn f1 fO) (kV:aQ e.P e.w K ae base bc 1 f1 fO ahn (IB e.P e.w e.aT e.ay)):
  aQ e.P e.w K ae base bc 2 f fd ahD (Ix e):=by
 refine D.fn.ok adY (λbU A outer s H vs Q E au h=>?_);obtain⟨bw,ax,F,W,R,N,p,rfl,O,q⟩:=h;have aW:=kB au;have gu:c1 1 _:=au.mono (by omega);obtain⟨l1,Ge⟩:=O.at_.bw;have ha:=O.bQ _ _ Ge;refine⟨_,a_ (dh (jA (pW aW (ag 1) (bT (ag 0) rfl)) (by with_unfolding_all rfl)) (bo (cp (dL (aK (kc kk bM) aY)))) dn)
  (bo (cp (eg wb (dL (aK bM aY)) (Cw Ur (by rfl) B.li PyProof.Rows.boot_list (aK (lj (bT (jz aW (bT (ag 0) rfl) (ag 1) (λ_ _=>rfl)) rfl) dj.cl fv.dJ kV gu fv.bi .nil cA) aY))))),?_⟩
 have pD:∀ab,ab ax=some (.cq (ge W R))->dy ab ax (bj p) ((Sty.rule W p).map λn=>.ref (R n.id).c7):=λab h=>by have z:=dy.k (H:=ab) (k:=cf p) h;rw[zH] at z;exact z
 have dQ:(Sty.step W (.weight p)).2=(match Sty.rule W p with
  |none=>NO
  |some q=>⟨0,[(Sty.weightOf q.sel).1,(Sty.weightOf q.sel).2]⟩):=rfl
 refine⟨_,rfl,_,rfl,bw,e.ci,l1,_,_,rfl,ha,T.lG,T.kF,oh,ax,_,rfl,pD H O.at_.ax,_,rfl,?_⟩;cases am:Sty.rule W p with
 |none=>rw[am] at dQ;exact d3 ⟨_,rfl,cH 1,λr a'=>q.done (O.wA (aA.refl _)) (by rw[dQ];rfl) a'⟩
 |some r=>
  obtain⟨jO,YX⟩:=Tm.Hp am;rw[am] at dQ pD;replace dQ:(Sty.step W (.weight p)).2=⟨0,[(Sty.weightOf r.sel).1,(Sty.weightOf r.sel).2]⟩:=dQ;obtain⟨zI,i2⟩:=(O.at_.rules r jO).ins;refine eS ⟨cH 1,λsj i1=>?_⟩;generalize py:upd H sj (.lst [.int 0])=H1;have s1:aA H H1:=by rw[<-py];exact aA.upd i1
  obtain⟨pz,_,_⟩:=O.QU jO s1;obtain⟨E_,bH,bR,a9,Ii,cJ,Fa,lm,_,t4,_,_⟩:=pz.st;refine⟨_,rfl,bw,e.ci,l1,_,_,rfl,s1 _ _ ha,T.lG,T.kF,oh,_,rfl,ax,_,rfl,pD H1 (s1 _ _ O.at_.ax),(R r.id).c7,e.cg,zI,_,_,rfl,s1 _ _ (O.bQ _ _ i2),T.cN,T.sv,H2,(R r.id).a6,Ii,_,rfl,t4,sL (by w_on) (by w_on) (by w_on) (by w_on) (by w_on) (by w_on),
   (R r.id).a6,(R r.id).aS,_,r.sel,N,rfl,pz,pS (O.bQ.trans s1),λac_ qX=>?_⟩
  have YJ:=pS (O.bQ.trans s1) _ _ qX;refine⟨ac_,_,rfl,.inr (c5.of YJ),λcY eR=>?_⟩;have aaW:sj≠cY:=a8 (by rw[<-py];exact aG) eR;refine⟨sj,cY,_,_,rfl,rfl,by rw[aj aaW,<-py];exact aG,aG,by show 1+2<=sizeLine;decide,λr a'=>?_⟩;exact q.done (O.wA (s1.trans (aA.upd eR))) (by rw[dQ];rfl) a'
def sJ (L:List Tm.hZ):List V:=L.flatMap λt=>[bj t.2.1.id,bj t.2.2.1,bj t.2.2.2]
theorem HZ:∀L:List Tm.hZ,(sJ L).length=3 * L.length
 |[]=>rfl
 |t::L=>by have:=HZ L;unfold sJ at this ⊢;rw[kN,dC,this];show 3+3 * L.length=3 * (L.length+1);omega
def adG (L:List Tm.hZ)(t:Tm.hZ):sJ (L++[t])=sJ L++[bj t.2.1.id,bj t.2.2.1,bj t.2.2.2]:=by unfold sJ;rw[oZ];rfl
theorem QC:∀L:List Tm.hZ,sJ L=(((L.map (·.2)).flatMap λ(r:Sty.Rule×Sty.Weight)=>[r.1.id,r.2.1,r.2.2]):List Nat).map bj
 |[]=>rfl
 |t::L=>by have:=QC L;unfold sJ at this ⊢;rw[kN,ck,kN,hi,this];rfl
theorem Ox:∀{kvs:List (Key×V)} {bd:List (Nat×Sty.Weight)},rz F kvs bd->(kvs.map λbJ=>cV bJ.1)=(bd.map (·.1)).map bj
 |_,_,.nil=>rfl
 |bJ::kvs,g::bd,.cons r t=>by rw[ck,ck,ck,Ox t,r.1];rfl
abbrev CR:Stmt:=top 26
inductive Iu(e:fg)(aM aO:U)(vs:List V)(H:ah)(Q:cM)(_:fG):Prop|i(a4 nd bw ax:U)(F:ah)(W:Sty.State)(L:Nat->el)(R:Nat->eZ)(N x p:Nat)(_:vs=[.ref a4,.ref bw,bj x,bj p])(_:h1 aM aO F H W L a4 nd)(_:Tm.bD W)(_:ji e F H W R bw ax N)(_:tg e F H W R bw ax (N+128) (.rivals x p) Q)
def uD:c3 ["tree","sheet","node","property_number","rivals","row","strong","weight","came","number"] ahm (ct CR):={}
def abW {K:PySem.W.Frag}{ae:Str->Option af}{base:a5}{aO aM eO:U}{fP:b6}{e:fg}{f f0 f1:U}{fd xQ fO:b6}(TT:lD K ae aM aO eO fP)(B:pf ae)(D:cX K ae "ask_rivals" CR ahm f fd)
  (th:cX K ae "rules_for" wt ahs f0 xQ) (DW:aQ e.P e.w K ae base bc 8 f0 xQ ahs (Dh e aM aO)) (kp:cX K ae "rivals_at" zP ahC f1 fO) (kV:aQ e.P e.w K ae base bc 1 f1 fO ahC (Df e.cg)):
  aQ e.P e.w K ae base bc 9 f fd ahm (Iu e aM aO):=by
 refine D.fn.ok uD (λbU A outer s H vs Q E au h=>?_);obtain⟨a4,nd,bw,ax,F,W,L,R,N,x,p,rfl,gj,hw,O,q⟩:=h;have aW:=kB au;have gu:c1 1 _:=au.mono (by omega);obtain⟨ic,q0⟩:=gj.a4;have dA:=O.bQ _ _ q0;have i3:=O.wf;refine⟨_,a_ (dh (jA (pW aW (ag 2) (bT (ag 0) rfl)) (by with_unfolding_all rfl)) (bo (cp (dL (aK (kc kk bM) aY)))) dn)
  (a_ (cE (i:=4) uD.nd (hB kV gu rfl kp.ae kp.bu kp.bi .nil cA (aK (hB DW au rfl th.ae th.bu th.bi .nil cA (aK (ag 0) (aK (ag 1) (aK (ag 3) aY)))) (aK (ag 2) aY))))
  (a_ (cE (i:=5) uD.nd (dL aY))
  (a_ (lZ kS rfl (pZ (ag 4)) (oI rfl (gY (fJ (i:=6) uD.nd) (gY (fJ (i:=7) uD.nd) (gY (fJ (i:=8) uD.nd) (gY (fJ (i:=9) uD.nd) oJ)))))
   (bo (hQ (lh kR PySem.F.slot_list_extend PySem.F.type_list_extend O' (ag 5) (aK (dL (aK (ag 9) (aK (da la (ag 7) bM (λ_ _=>rfl)) (aK (da la (ag 7) bM (λ_ _=>rfl)) aY)))) aY)))))
  (bo (cp (eg wb (dL (aK (gX j6 (by rfl) B.len jd (aK (ag 4) aY)) aY)) (ag 5))))))),?_⟩
 have fy:=dy.k (H:=H) (k:=cf x) gj.nd;rw[lX] at fy;refine⟨_,rfl,_,rfl,a4,aM,ic,_,_,rfl,dA,TT.gE,TT.h5,jF,nd,_,rfl,fy,_,rfl,?_⟩;have dQ:(Sty.step W (.rivals x p)).2=(match Sty.node W x with
  |none=>NO
  |some n=>⟨((Sty.rivals W.rules.length (Sty.weighed (Sty.tabled W p) n.id)).length:Nat),(Sty.rivals W.rules.length (Sty.weighed (Sty.tabled W p) n.id)).flatMap λ(r:Sty.Rule×Sty.Weight)=>[r.1.id,r.2.1,r.2.2]⟩):=rfl
 cases am:Sty.node W x with
 |none=>rw[am] at dQ;exact d3 ⟨_,rfl,cH 1,λr a'=>q.done (O.wA (aA.refl _)) (by rw[dQ];rfl) a'⟩
 |some cI=>
  obtain⟨yR,r'⟩:=Tm.ra am;rw[am] at dQ;replace dQ:(Sty.step W (.rivals x p)).2=⟨((Sty.rivals W.rules.length (Sty.weighed (Sty.tabled W p) cI.id)).length:Nat),(Sty.rivals W.rules.length (Sty.weighed (Sty.tabled W p) cI.id)).flatMap λ(r:Sty.Rule×Sty.Weight)=>[r.1.id,r.2.1,r.2.2]⟩:=dQ;refine eS ?_;refine⟨_,rfl,_,rfl,_,rfl,a4,nd,bw,ax,F,W,L,R,N,p,rfl,gj,hw,O,λH1 l kY i1 yM Fu=>?_⟩;have ln:aA F H1:=λb o I=>kY.bu b o (O.bQ b o I) (λz=>by rw[O.off b z] at I;cases I);have tN:=Fu _ (pR (H:=H) (M:=b_ W R ax) ln);have ao:x∈Tm.ids W:=Tm.gy.mpr ⟨cI,yR,r'⟩;have tL:(Tm.h4 W p).length<=64:=gC (s7 _ _) i3.kE;refine⟨_,rfl,l,_,W,p,x,rfl,tN,pS ln,hw,ao,tL,λap gU nU bs s2 Yn qL kz nl=>?_⟩;have agv:nU.length<=64:=by have aa:=qL.perm.length_eq;have ac:=(Tm.xC W x (Tm.h4 W p) 0).length_le;rw[cc] at ac;omega
  have kx:bs.length=nU.length:=by rw[fu nl,cc]
  rw[r',qL.rivals i3.nd] at dQ;refine⟨cH 0,λoL NZ=>?_⟩;have s0:aA ap (upd ap oL (.lst [])):=aA.upd NZ;refine⟨_,rfl,gU,rfl,⟨_,bA.of (s0 _ _ kz)⟩,r1 (K:=K) (a:=gU) (xs:=bs.map V.ref) (λi σ ab=>∃v6 ig jG ro,σ=[some (.ref a4),some (.ref bw),some (bj x),some (bj p),some (.ref gU),some (.ref oL),v6,ig,jG,ro]/\aA ap ab/\ab oL=some (.lst (sJ (nU.take i)))) ⟨none,none,none,none,rfl,s0,aG⟩ ?_ ?_ ?_⟩
  ·rintro i σ ab aR ⟨v6,ig,jG,ro,rfl,s',_⟩;exact bA.of (s' _ _ kz)
  ·rintro i y σ ab aR ⟨v6,ig,jG,ro,rfl,s',nt⟩;rw[hD] at aR;obtain⟨b,X9,rfl⟩:=mX.mp aR;obtain⟨k,aw,c_,r7,qP⟩:=mJ nl X9;rw[hD] at aw;obtain⟨t,hit,rfl⟩:=mX.mp aw;have qZ:nU.take (i+1)=nU.take i++[t]:=by rw[ko,hit];rfl
   have vz:i < nU.length:=(eX.mp hit).1;refine⟨b,_,rfl,c5.of (s' _ _ r7),rfl,?_⟩;refine⟨_,_,rfl,_,_,rfl,_,_,rfl,_,_,rfl,rfl,?_⟩;refine⟨_,rfl,.inl ⟨rfl,_,bA.of nt⟩,_,rfl,_,rfl,c_,_,0,_,rfl,rfl,c5.of (s' _ _ qP),dT (j:=0) rfl,_,rfl,c_,_,1,_,rfl,rfl,c5.of (s' _ _ qP),dT (j:=1) rfl,cH 3,λer gS=>?_⟩;have uk:oL≠er:=a8 nt gS;refine⟨oL,er,_,_,rfl,rfl,by rw[aj uk];exact nt,aG,t_ (by rw[HZ,mW];show _+3<=_;omega),?_⟩;refine⟨_,_,_,_,rfl,λb o I=>?_,?_⟩
   ·rw[aj (a8 I NZ),aj (a8 (s' _ _ I) gS)];exact s' _ _ I
   ·rw[aG,qZ,adG];rfl
  ·rintro σ ab ⟨v6,ig,jG,ro,rfl,s',nt⟩;rw[cc,kx,lx] at nt;refine⟨_,rfl,gU,_,rfl,.inl (bA.of (s' _ _ kz)),cH 1,λcY eR=>?_⟩;have ea:oL≠cY:=a8 nt eR;refine⟨_,rfl,cY,oL,_,_,rfl,rfl,aG,by rw[aj ea];exact nt,t_ (by rw[HZ];show 1+_<=_;omega),λr a'=>?_⟩;refine q.done ((kY.more ln s2).more (ln.trans s2) (s'.trans (aA.upd eR))) ?_ a';rw[dQ,QC];show[V.int ((bs.map V.ref).length:Nat)]++_=V.int (((nU.map (·.2)).length:Nat):Int)::_;rw[cc,cc,kx];rfl
abbrev CS:Stmt:=top 24
inductive Iv(aM aO:U)(vs:List V)(H:ah)(Q:cM)(_:fG):Prop|i(a4 nd aF:U)(F:ah)(W:Sty.State)(L:Nat->el)(t:Bytes)(_:vs=[.ref a4,.ref aF])(_:H aF=some (.lst (t.map bv)))(_:h1 aM aO F H W L a4 nd)(_:Tm.bD W)(_:aA F H)(_:∀ab q,aA H ab->H q=none->ab q=some (.lst (k1 (Sty.step W (.select t)).2))->Q (.ref q) ab)
def C1:c3 ["tree","text","selector","e","nodes"] ahM (ct CS):={}
def abX {P:bg}{w:bb}{K:PySem.W.Frag}{ae:Str->Option af}{base:a5}{CX ay aJ aT du aO aM cF cZ eO:U}{fP:b6}{f bd f2 eU:U}{fd rX gP lL:b6}{k:Nat}(aw:7<=k)(TT:lD K ae aM aO eO fP)(dj:m9 K ae aT)(B:pf ae)(fN:g8 K ae CX ay aJ cF cZ)(qO:pg K du)(sq:ae "TextTooLong"=some (.ref du))(b9:CX≠du)(D:cX K ae "ask_select" CS ahM f fd)
  (nO:cX K ae "selector_of" zQ ahJ bd rX) (w_:aQ P w K ae base (Al P w du CX) k bd rX ahJ (Dk P w CX du aT ay))
  (j3:cC K aM "in_order" "Tree.in_order" (et 5) ahn eU lL) (o8:aQ P w K ae base bc 2 eU lL ahn (zZ aM aO)) (M2:cC K aT "weights" "Selector.weights" (gl 2) ahv f2 gP) (jZ:aQ P w K ae base bc 7 f2 gP ahv (wy P w aT ay)):
  aQ P w K ae base bc (k+1) f fd ahM (Iv aM aO):=by
 refine D.fn.ok C1 (λbU A outer s H vs Q E au h=>?_);obtain⟨a4,nd,aF,F,W,L,t,rfl,ka,gj,hw,bQ,q⟩:=h;have fA:c1 2 _:=au.mono (by omega);have YR:c1 7 _:=au.mono aw;obtain⟨ic,q0⟩:=gj.a4;have dA:=bQ _ _ q0;refine⟨_,a_ (Qh (E:=An CX du H t) (i:=3) qO fN.km b9 rfl rfl rfl sq rfl fN.sr C1.nd rfl rfl
   (λcR cz am=>by exact bo (cE (i:=2) C1.nd (hB w_ au rfl nO.ae nO.bu nO.bi .nil am (aK (ag 1) aY))))
   (λcR a=>by exact bo (cp (dL (aK (kc kk bM) aY))))
   (λcR a=>by exact bo (cp (dL (aK (kc kk bM) (aK (P8 fN.km (ag 3) rfl) aY))))))
  (a_ (cE (i:=4) C1.nd (Cw (Uq rfl) (by rfl) B.li PyProof.Rows.boot_list (aK (fC (ag 2) dj.cl M2.dJ jZ YR M2.bi .nil cA (aK (lj (ag 0) TT.gE j3.dJ o8 fA j3.bi .nil cA) aY)) aY)))
  (bo (cp (eg wb (dL (aK (gX j6 (by rfl) B.len jd (aK (ag 4) aY)) aY)) (ag 4))))),?_⟩
 have dQ:(Sty.step W (.select t)).2=if Sty.LONG < t.length then FULL else(match Sty.readSel t with
  |.error k=>⟨-1,[k]⟩
  |.ok s=>⟨(((Sty.ordered W).filter (s.flatMap (Sty.matched W)).contains).length:Nat),(Sty.ordered W).filter (s.flatMap (Sty.matched W)).contains⟩):=rfl
 have fin:∀H1 r xs,aA H H1->H1 r=none->xs=k1 (Sty.step W (.select t)).2->Q (.ref r) (upd H1 r (.lst xs)):=λH1 r xs s1 au ao=>q _ r (s1.trans (aA.upd au)) (s1.free au) (by rw[aG,ao]);refine⟨?_,λa H1 σ1 hσ fx=>?_,λa H1 σ1 hσ fx=>?_⟩
 ·refine⟨_,rfl,aF,t,rfl,ka,λaC H1 a s1 al=>.inl ⟨rfl,aC,s1⟩,λaC bh aD H1 a6 aS s1 fQ k8 N5 nk=>?_,λaC j bF H1 a eN s1 aa ac=>.inr ⟨rfl,aC,a,eN,j,rfl,s1,bF,aa,ac⟩⟩;rw[aN (by unfold Sty.LONG;omega),aD] at dQ;replace dQ:(Sty.step W (.select t)).2=⟨(((Sty.ordered W).filter (bh.flatMap (Sty.matched W)).contains).length:Nat),(Sty.ordered W).filter (bh.flatMap (Sty.matched W)).contains⟩:=dQ;rw[<-Tm.aeh,<-Bc] at dQ;have fv:=nk H1 (λb o _ _ _ h=>h) λb xs h=>h;obtain⟨E_,bH,bR,a9,l1,cJ,Fa,lm,_,mC,_,_⟩:=fv.st;obtain⟨OB,my,_⟩:=fv.dD;have Ec:h1 aM aO F H1 W L a4 nd:=⟨gj.a4,s1 _ _ gj.nd,λn ak=>⟨(gj.nodes n ak).ins,s1 _ _ (gj.nodes n ak).ch,s1 _ _ (gj.nodes n ak).cs⟩⟩;refine⟨_,rfl,a6,l1,_,rfl,mC,sL (by w_on) (by w_on) (by w_on) (by w_on) (by w_on) (by w_on),_,rfl,a4,ic,_,rfl,s1 _ _ dA,dV (by w_on),a4,nd,F,W,L,rfl,Ec,hw,bQ.trans s1,λap eb s2 ym=>?_⟩;have dF:∀ab:ah,aA (λ_=>none) ab:=λab b o h=>by cases h
  have EJ:jf (λ_=>none) H [a6,aS] ap (gx (λ_=>none) H [a6,aS] ap):=pR (dF ap);have k_:=s2 _ _ mC;have np:=s2 _ _ my;have zb:∀{b:U},b∉[a6,aS]↔b≠a6/\b≠aS:=λ{b}=>by simp
  have pz:hG P w aT ay (gx (λ_=>none) H [a6,aS] ap) ap bh a6 aS 0:=(nk _ (λb o aa ac av bn=>EJ.nw b o aa (zb.mpr ⟨ac,av⟩) (s2 _ _ bn)) λb xs h=>EJ.rm b xs (s2 _ _ h)).mono (aA.refl _) (by rw[k_,mC]) (by rw[np,my]) (b5 _);have zk:gx (λ_=>none) H [a6,aS] ap a6=none:=vT rfl (by simp) λxs z=>by rw[k_] at z;cases z
  have sz:gx (λ_=>none) H [a6,aS] ap aS=none:=vT rfl (by simp) λxs z=>by rw[np] at z;cases z
  have yn:m8 (gx (λ_=>none) H [a6,aS] ap) eb (Tm.rowsOf W):=ym.same λb o I=>by obtain⟨ew,ft⟩:=mH I;exact EJ.nw b o (s1.free ew) (zb.mpr ⟨(a8 mC ew).symm,(a8 my ew).symm⟩) ft
  refine⟨a6,aS,eb,_,bh,Tm.rowsOf W,0,rfl,pz,pS (dF ap),zk,sz,by decide,yn,hw.closed,λbz es bS tP hu M3=>?_⟩;rw[hw.IQ tP] at M3;have k2:jf (λ_=>none) H [a6,aS] bz (gx (λ_=>none) H [a6,aS] bz):=pR (dF bz);obtain⟨_,kvs,i0,kv⟩:=M3 _ (GS (k2.back (λb o I n=>hu b o I n) (λ_ z=>z) λb xs I=>hu b _ I (zb.mpr ⟨fo I k_ nofun,fo I np nofun⟩))) λb o I=>by obtain⟨ew,ft⟩:=mH I;exact k2.nw b o (s1.free (s2.free ew)) (zb.mpr ⟨(a8 k_ ew).symm,(a8 np ew).symm⟩) ft
  have s3:aA H bz:=λb o I=>hu b o (s2 _ _ (s1 _ _ I)) (zb.mpr ⟨a8 I fQ,a8 I k8⟩);refine⟨bS,kvs,rfl,aU.of (pS (dF bz) _ _ i0),λl aC=>?_⟩;rw[show(kvs.map λbJ=>cV bJ.1)=((ms W bh).map (·.1)).map bj from Ox kv];have d2:(ms W bh).length<=128:=by
   have aa:((ms W bh).map (·.1)).length<=(Sty.ordered W).length:=by rw[Bc];exact s7 _ _
   rw[cc,hw.Cu] at aa;have:=hw.kE;omega
  refine⟨_,rfl,l,_,rfl,.inl (bA.of aG),cH 1,λcY eR=>?_⟩;have ea:l≠cY:=a8 aG eR;refine⟨_,rfl,cY,l,_,_,rfl,rfl,aG,by rw[aj ea];exact aG,t_ (by rw[cc,cc];show 1+_<=_;omega),λr a'=>?_⟩;refine fin _ r _ ((s3.trans (aA.upd aC)).trans (aA.upd eR)) a' ?_;rw[dQ];show[V.int (((((ms W bh).map (·.1)).map bj).length:Nat):Int)]++_=V.int ((((ms W bh).map (·.1)).length:Nat):Int)::_;rw[cc];rfl
 ·obtain⟨aC,s1⟩:=LL b9 fx;rw[aV (by unfold Sty.LONG;omega)] at dQ;exact⟨_,rfl,cH 1,λr a'=>fin _ r _ s1 a' (by rw[dQ];rfl)⟩
 ·obtain⟨aC,eN,j,s1,bF,aa,ac⟩:=LM b9 fx;rw[aN (by unfold Sty.LONG;omega),bF] at dQ;have cO:3 < σ1.length:=by rw[hσ];show 3 < 5;decide
  refine⟨_,rfl,.ref a,?_,a,eN,_,_,rfl,aa,ac,R3,cH 2,λr a'=>fin _ r _ s1 a' (by rw[dQ];rfl)⟩;rw[wU cO]
structure qg where
 a4:U
 nd:U
 bw:U
 ax:U
 L:Nat->el
 R:Nat->eZ
def dK (W:Sty.State)(l:qg)(a7:U):List U:=a7::(dg W l.L l.nd++b_ W l.R l.ax)
open Classical in
noncomputable def Off (M:List U)(H:ah):ah:=λb=>if b∈M then none else H b
def oE (h:Off M H b=some o):b∉M/\H b=some o:=by
 unfold Off at h;split at h
 ·cases h
 ·rename_i n
  exact⟨n,h⟩
def oF (n:b∉M)(h:H b=some o):Off M H b=some o:=by unfold Off;rw[aN n,h]
def PK (h:b∈M):Off M H b=none:=by unfold Off;rw[aV h]
def zm:aA (Off M H) H:=λ_ _ h=>(oE h).2
def ni (a4 bw:U):List (Str×V):=[("tree",.ref a4),("sheet",.ref bw)]
def tB:(ni a4 bw).lookup ("tree":Str)=some (.ref a4):=iC
def vf:(ni a4 bw).lookup ("sheet":Str)=some (.ref bw):=(dV (by w_on)).trans iC
def UT (aa:(m==("tree":Str))=false)(ac:(m==("sheet":Str))=false):(ni a4 bw).lookup m=none:=(dV aa).trans (dV ac)
structure DocOk (e:fg)(aM aO b3:U)(X:List U)(H:ah)(W:Sty.State)(l:qg)(a7:U)(N:Nat):Prop where
 ins:∃aq,H a7=some (.ins b3 aq (ni l.a4 l.bw))
 tree:h1 aM aO (Off (dK W l a7++X) H) H W l.L l.a4 l.nd
 mO:nZ e (Off (dK W l a7++X) H) H W l.R l.bw l.ax N
 wf:Tm.bD W
 uL:Tm.gp W
 un:(dK W l a7).Nodup
 ex:∀b∈X,b∉dK W l a7/\∃o,H b=some o/\∀xs,o≠.tup xs
def h1.re {aM aO:U}{F br H ab:ah}{W cz:Sty.State}{L:Nat->el}{a4 nd:U}(h:h1 aM aO F H W L a4 nd)(cu:aA F br)(aw:∀b∈dg W L nd,ab b=H b)(e:cz.nodes=W.nodes):h1 aM aO br ab cz L a4 nd:=by obtain⟨ns,rs⟩:=W;obtain⟨pV,ahb⟩:=cz;have e:pV=ns:=e;subst e;obtain⟨aq,aa⟩:=h.a4;refine⟨⟨aq,cu _ _ aa⟩,by rw[aw nd (jQ.mpr (.inl rfl))];exact h.nd,λn ak=>?_⟩;have A:=h.nodes n ak;obtain⟨aq,ac⟩:=A.ins;exact⟨⟨aq,cu _ _ ac⟩,by rw[aw _ (jQ.mpr (.inr ⟨n,ak,.inl rfl⟩))];exact A.ch,by rw[aw _ (jQ.mpr (.inr ⟨n,ak,.inr rfl⟩))];exact A.cs⟩
def aaU (e:cz.nodes=W.nodes)(L:Nat->el)(nd:U):dg cz L nd=dg W L nd:=by unfold dg;rw[e]
def aaT (e:cz.rules=W.rules)(R:Nat->eZ)(ax:U):b_ cz R ax=b_ W R ax:=by unfold b_;rw[e]
def nZ.re {e:fg}{F br H ab:ah}{W cz:Sty.State}{R:Nat->eZ}{bw ax:U}{N N':Nat}(h:nZ e F H W R bw ax N)(cu:aA F br)(aw:∀b∈b_ W R ax,ab b=H b)(lI:cz.rules=W.rules)(c6:N<=N'):nZ e br ab cz R bw ax N':=by
 have A:=h.keep cu aw;refine⟨A.bw,?_,λr au=>?_⟩
 ·rw[A.ax];unfold ge;rw[lI]
 ·rw[lI] at au;exact⟨(A.rules r au).ins,(A.rules r au).sel.mono (aA.refl _) rfl rfl c6⟩
section
variable {N N':Nat}
def fI:b∈dK W l a7↔b=a7\/b∈dg W l.L l.nd\/b∈b_ W l.R l.ax:=by unfold dK;rw[cr,di]
def DocOk.parts (D:DocOk e aM aO b3 X H W l a7 N):a7∉dg W l.L l.nd/\a7∉b_ W l.R l.ax/\(dg W l.L l.nd).Nodup/\(b_ W l.R l.ax).Nodup/\∀b∈dg W l.L l.nd,b∉b_ W l.R l.ax:=by have h:=D.un;unfold dK at h;rw[hk,di,hn,jb] at h;exact⟨h.1.1,h.1.2,h.2.1,h.2.2.1,λb aa ac=>h.2.2.2 b aa b ac rfl⟩
def DocOk.there (D:DocOk e aM aO b3 X H W l a7 N):∀b∈dK W l a7,∃o,H b=some o/\∀xs,o≠.tup xs:=λb I=>by
 rcases fI.mp I with rfl|h|h
 ·obtain⟨aq,h⟩:=D.ins;exact⟨_,h,λxs z=>by cases z⟩
 ·exact D.tree.there b h
 ·exact D.mO.there b h
def DocOk.lf (D:DocOk e aM aO b3 X H W l a7 N)(az:H q=none):q∉dK W l a7:=λz=>by obtain⟨o,aI,_⟩:=D.there q z;rw[aI] at az;cases az
def DocOk.Pr (D:DocOk e aM aO b3 X H W l a7 N)(az:H q=none):q∉X:=λz=>by obtain⟨_,o,aI,_⟩:=D.ex q z;rw[aI] at az;cases az
def DocOk.I8 (D:DocOk e aM aO b3 X H W l a7 N):n0 aM aO (Off (dK W l a7++X) H) H W l.L l.a4 l.nd:=
 ⟨D.tree,D.wf,zm,λ_ I=>PK (lw _ (fI.mpr (.inr (.inl I)))),D.parts.2.2.1⟩
def DocOk.ww (D:DocOk e aM aO b3 X H W l a7 N)(c6:N+128 < 1000000):ji e (Off (dK W l a7++X) H) H W l.R l.bw l.ax N:=
 ⟨D.mO,D.uL,zm,λ_ I=>PK (lw _ (fI.mpr (.inr (.inr I)))),D.parts.2.2.2.1,c6⟩
def DocOk.same (D:DocOk e aM aO b3 X H W l a7 N)(s:aA H ab)(c6:N<=N'):DocOk e aM aO b3 X ab W l a7 N':=by
 have aw:∀b∈dK W l a7,ab b=H b:=λb I=>by obtain⟨o,aI,_⟩:=D.there b I;rw[aI,s _ _ aI]
 have cu:aA (Off (dK W l a7++X) H) (Off (dK W l a7++X) ab):=λb o h=>oF (oE h).1 (s _ _ (oE h).2);obtain⟨aq,dH⟩:=D.ins;refine⟨⟨aq,s _ _ dH⟩,D.tree.re cu (λb I=>aw b (fI.mpr (.inr (.inl I)))) rfl,D.mO.re cu (λb I=>aw b (fI.mpr (.inr (.inr I)))) rfl c6,D.wf,D.uL,D.un,λb I=>?_⟩;obtain⟨aa,o,ac,av⟩:=D.ex b I;exact⟨aa,o,s _ _ ac,av⟩
def DocOk.other (D:DocOk e aM aO b3 X H W l a7 N)(al:a∈X):DocOk e aM aO b3 X (upd H a (.lst xs)) W l a7 N:=by
 have Cb:=(D.ex a al).1;have aw:∀b∈dK W l a7,upd H a (.lst xs) b=H b:=λb I=>aj (λz=>Cb (by rw[<-z];exact I));have cu:aA (Off (dK W l a7++X) H) (Off (dK W l a7++X) (upd H a (.lst xs))):=λb o h=>oF (oE h).1 (by
  rw[aj (λz=>(oE h).1 (by rw[z];exact o0 _ al))];exact(oE h).2)
 obtain⟨aq,dH⟩:=D.ins;refine⟨⟨aq,by rw[aw a7 (fI.mpr (.inl rfl))];exact dH⟩,D.tree.re cu (λb I=>aw b (fI.mpr (.inr (.inl I)))) rfl,D.mO.re cu (λb I=>aw b (fI.mpr (.inr (.inr I)))) rfl (b5 _),D.wf,D.uL,D.un,λb I=>⟨(D.ex b I).1,?_⟩⟩;by_cases z:b=a
 ·exact⟨_,by rw[z];exact aG,λxs z=>by cases z⟩
 ·rw[aj z];exact(D.ex b I).2
def DocOk.afz (D:DocOk e aM aO b3 X H W l a7 N)(c6:N<=N')(w:Tm.bD cz)(r:Tm.gp cz)(lI:cz.rules=W.rules)(S:rG aM aO (Off (dK W l a7++X) H) H W l.L l.a4 l.nd cz L' ab):
  DocOk e aM aO b3 X ab cz {l with L:=L'} a7 N'/\ih (dK W l a7) H ab:=by
 obtain⟨eA,k3,xH,K6,xI⟩:=D.parts;have n9:b_ cz l.R l.ax=b_ W l.R l.ax:=aaT lI _ _;obtain⟨aq,dH⟩:=D.ins;have nn:∀b∈dK cz {l with L:=L'} a7,b∈dK W l a7\/H b=none:=λb I=>by
  rcases fI.mp I with z|z|z
  ·exact .inl (fI.mpr (.inl z))
  ·rcases(S.new b z).1 with y|y
   ·exact .inl (fI.mpr (.inr (.inl y)))
   ·exact .inr y
  ·exact .inl (fI.mpr (.inr (.inr (by rw[<-n9];exact z))))
 have G':∀b∈X,b∉dK cz {l with L:=L'} a7:=λb I z=>by
  obtain⟨aa,o,ac,_⟩:=D.ex b I;rcases nn b z with y|y
  ·exact aa y
  ·rw[ac] at y;cases y
 have cu:aA (Off (dK W l a7++X) H) (Off (dK cz {l with L:=L'} a7++X) ab):=λb o h=>by
  obtain⟨aa,ac⟩:=oE h;rw[di,hn] at aa;refine oF ?_ (S.bu b o ac λz=>aa.1 (fI.mpr (.inr (.inl z))));rw[di,hn];refine⟨λz=>?_,aa.2⟩;rcases nn b z with y|y
  ·exact aa.1 y
  ·rw[ac] at y;cases y
 have Yd:∀b∈b_ W l.R l.ax,ab b=H b:=λb I=>by obtain⟨o,aI,_⟩:=D.mO.there b I;rw[aI,S.bu b o aI λz=>xI b z I]
 refine⟨⟨⟨aq,S.bu _ _ dH eA⟩,S.at_ _ cu λb o aa ac av=>oF ?_ av,D.mO.re cu Yd lI c6,w,r,?_,λb I=>⟨G' b I,?_⟩⟩,S.bu.mono λb I=>fI.mpr (.inr (.inl I))⟩
 ·rw[di,hn];refine⟨λz=>?_,D.Pr aa⟩;rcases fI.mp z with z|z|z
  ·rw[z,dH] at aa;cases aa
  ·exact ac z
  ·obtain⟨o,aI,_⟩:=D.mO.there b (by rw[<-n9];exact z);rw[aI] at aa;cases aa
 ·unfold dK;rw[hk,di,hn,jb];refine⟨⟨λz=>?_,by rw[n9];exact k3⟩,S.un,by rw[n9];exact K6,λa al b I z=>?_⟩
  ·rcases(S.new a7 z).1 with y|y
   ·exact eA y
   ·rw[dH] at y;cases y
  ·subst z;have I:a∈b_ W l.R l.ax:=by rw[<-n9];exact I
   rcases(S.new a al).1 with y|y
   ·exact xI a y I
   ·obtain⟨o,aI,_⟩:=D.mO.there a I;rw[aI] at y;cases y
 ·obtain⟨aa,o,ac,av⟩:=D.ex b I;exact⟨o,S.bu b o ac λz=>aa (fI.mpr (.inr (.inl z))),av⟩
def DocOk.Q1 (D:DocOk e aM aO b3 X H W l a7 N)(w:Tm.bD cz)(r:Tm.gp cz)(en:cz.nodes=W.nodes)(S:SStep e (Off (dK W l a7++X) H) H W l.R l.bw l.ax cz R' N' ab):
  DocOk e aM aO b3 X ab cz {l with R:=R'} a7 N'/\ih (dK W l a7) H ab:=by
 obtain⟨eA,k3,xH,K6,xI⟩:=D.parts;have vj:dg cz l.L l.nd=dg W l.L l.nd:=aaU en _ _;obtain⟨aq,dH⟩:=D.ins;have nn:∀b∈dK cz {l with R:=R'} a7,b∈dK W l a7\/H b=none:=λb I=>by
  rcases fI.mp I with z|z|z
  ·exact .inl (fI.mpr (.inl z))
  ·exact .inl (fI.mpr (.inr (.inl (by rw[<-vj];exact z))))
  ·rcases(S.new b z).1 with y|y
   ·exact .inl (fI.mpr (.inr (.inr y)))
   ·exact .inr y
 have G':∀b∈X,b∉dK cz {l with R:=R'} a7:=λb I z=>by
  obtain⟨aa,o,ac,_⟩:=D.ex b I;rcases nn b z with y|y
  ·exact aa y
  ·rw[ac] at y;cases y
 have tO:∀b o,Off (dK W l a7++X) H b=some o->b∉b_ W l.R l.ax:=λb o h z=>(oE h).1 (lw _ (fI.mpr (.inr (.inr z))));have cu:aA (Off (dK W l a7++X) H) (Off (dK cz {l with R:=R'} a7++X) ab):=λb o h=>by
  obtain⟨aa,ac⟩:=oE h;rw[di,hn] at aa;refine oF ?_ (S.bu b o ac (tO b o h));rw[di,hn];refine⟨λz=>?_,aa.2⟩;rcases nn b z with y|y
  ·exact aa.1 y
  ·rw[ac] at y;cases y
 have NE:∀b∈dg W l.L l.nd,ab b=H b:=λb I=>by obtain⟨o,aI,_⟩:=D.tree.there b I;rw[aI,S.bu b o aI λz=>xI b I z]
 have A:=S.at_ ab (λb o h=>S.bu b o (oE h).2 (tO b o h)) (λb o _ _ h=>h) λb xs h=>h;have Nk:=S.bu _ _ dH k3;have rm:∀b xs,ab b=some (.tup xs)->b∉dK cz {l with R:=R'} a7++X:=λb xs h z=>by
  rcases di.mp z with z|z
  ·rcases fI.mp z with z|z|z
   ·rw[z,Nk] at h;cases h
   ·have z:b∈dg W l.L l.nd:=by rw[<-vj];exact z
    obtain⟨o,aI,bY⟩:=D.tree.there b z;rw[NE b z,aI] at h;exact bY xs (dZ h)
   ·obtain⟨o,aI,bY⟩:=A.there b z;rw[aI] at h;exact bY xs (dZ h)
  ·obtain⟨aa,o,aI,bY⟩:=D.ex b z;rw[S.bu b o aI λy=>aa (fI.mpr (.inr (.inr y)))] at h;exact bY xs (dZ h)
 refine⟨⟨⟨aq,Nk⟩,D.tree.re cu NE en,S.at_ _ cu (λb o aa ac av=>oF ?_ av) (λb xs h=>oF (rm b xs h) h),w,r,?_,λb I=>⟨G' b I,?_⟩⟩,S.bu.mono λb I=>fI.mpr (.inr (.inr I))⟩
 ·rw[di,hn];refine⟨λz=>?_,D.Pr aa⟩;rcases fI.mp z with z|z|z
  ·rw[z,dH] at aa;cases aa
  ·obtain⟨o,aI,_⟩:=D.tree.there b (by rw[<-vj];exact z);rw[aI] at aa;cases aa
  ·exact ac z
 ·unfold dK;rw[hk,di,hn,jb];refine⟨⟨by rw[vj];exact eA,λz=>?_⟩,by rw[vj];exact xH,S.un,λa al b I z=>?_⟩
  ·rcases(S.new a7 z).1 with y|y
   ·exact k3 y
   ·rw[dH] at y;cases y
  ·subst z;have al:a∈dg W l.L l.nd:=by rw[<-vj];exact al
   rcases(S.new a I).1 with y|y
   ·exact xI a al y
   ·obtain⟨o,aI,_⟩:=D.tree.there a al;rw[aI] at y;cases y
 ·obtain⟨aa,o,ac,av⟩:=D.ex b I;exact⟨o,S.bu b o ac λz=>aa (fI.mpr (.inr (.inr z))),av⟩
end
def qh (e:fg)(aM aO b3:U)(X:List U)(H:ah)(W:Sty.State)(l:qg)(a7:U)(N:Nat)(c:Sty.Call)(Q:cM):Prop:=∀ab hM q,DocOk e aM aO b3 X ab (Sty.step W c).1 hM a7 (N+128)->ih (dK W l a7) H ab->ab q=some (.lst (k1 (Sty.step W c).2))->Q (.ref q) ab
section
variable {N N':Nat}
def qh.tree (p:qh e aM aO b3 X H W l a7 N c Q)(D:DocOk e aM aO b3 X H W l a7 N)(lI:(Sty.step W c).1.rules=W.rules):pe aM aO (Off (dK W l a7++X) H) H W l.L l.a4 l.nd c Q:=λab L' q S _ _ az=>by obtain⟨w,r⟩:=Tm.wB D.wf D.uL c;obtain⟨aa,ac⟩:=D.afz (N':=N+128) (by omega) w r lI S;exact p ab _ q aa ac az
def qh.mO (p:qh e aM aO b3 X H W l a7 N c Q)(D:DocOk e aM aO b3 X H W l a7 N)(en:(Sty.step W c).1.nodes=W.nodes):qr e (Off (dK W l a7++X) H) H W l.R l.bw l.ax N c Q:=λab R' q S _ _ az=>by obtain⟨w,r⟩:=Tm.wB D.wf D.uL c;obtain⟨aa,ac⟩:=D.Q1 w r en (S.up (N':=N+128) (by omega));exact p ab _ q aa ac az
def qh.ask (p:qh e aM aO b3 X H W l a7 N c Q)(D:DocOk e aM aO b3 X H W l a7 N)(iv:(Sty.step W c).1=W):tg e (Off (dK W l a7++X) H) H W l.R l.bw l.ax (N+128) c Q:=λab q S _ _ az=>by obtain⟨aa,ac⟩:=D.Q1 D.wf D.uL rfl S;unfold qh at p;rw[iv] at p;exact p ab _ q aa ac az
end
def Pn {t N:Nat}(R:Nat->eZ)
  (qN:∀b∈X,b≠a7/\∃o,H b=some o/\∀xs,o≠.tup xs) (dH:H a7=some (.ins b3 aq bd)) (ao:H x=none) (iY:H eN=none)
  (aE:H1=upd (upd H eN (.own x)) x (.ins aM eN [])) (bX:de x H1 ap) (qH:ap x=some (.ins aM eN [("nodes",.ref nd)])) (un:(dg (Sty.fresh t) L nd).Nodup) (new:∀b∈dg (Sty.fresh t) L nd,H1 b=none/\ap b≠none)
  (at_:∀br,br x=ap x->(∀b o,H1 b=none->b∉dg (Sty.fresh t) L nd->ap b=some o->br b=some o)->h1 aM aO br ap (Sty.fresh t) L x nd)
  (bI:bz=upd ap a7 v_) (bk:bz y=none) (tS:bz mq=none) (gO:c4=upd (upd bz mq (.own y)) y (.ins e.ci mq [])) (fl:c4 ax=none)
  (lH:ey=upd (upd (upd c4 ax (.cq [])) y (.ins e.ci mq [("rules",.ref ax)])) a7 (.ins b3 aq (ni x y))):
  DocOk e aM aO b3 X ey (Sty.fresh t) ⟨x,nd,y,ax,L,R⟩ a7 N/\ih [a7] H ey:=by
 have BS:∀b o,H b=some o->H1 b=some o:=λb o I=>by rw[aE,aj (a8 I ao),aj (a8 I iY)];exact I
 have y5:∀b o,H b=some o->ap b=some o:=λb o I=>bX b o (BS b o I) (a8 I ao);have Nl:=BS _ _ dH;have Bw:=y5 _ _ dH;have Nm:bz a7=some v_:=by rw[bI];exact aG
 have GC:∀b o,ap b=some o->b≠a7->bz b=some o:=λb o I n=>by rw[bI,aj n];exact I
 have BU:∀b o,bz b=some o->c4 b=some o:=λb o I=>by rw[gO,aj (a8 I bk),aj (a8 I tS)];exact I
 have ZH:∀b o,bz b=some o->b≠a7->ey b=some o:=λb o I n=>by rw[lH,aj n,aj (a8 I bk),aj (a8 (BU b o I) fl)];exact BU b o I
 have y4:∀b o,ap b=some o->b≠a7->ey b=some o:=λb o I n=>ZH b o (GC b o I n) n;have W7:c4 y=some (.ins e.ci mq []):=by rw[gO];exact aG
 have oB:y≠a7:=(a8 Nm bk).symm;have ul:ax≠a7:=(a8 (BU _ _ Nm) fl).symm;have PC:ax≠y:=(a8 W7 fl).symm;have W8:ey a7=some (.ins b3 aq (ni x y)):=by rw[lH];exact aG
 have W_:ey y=some (.ins e.ci mq [("rules",.ref ax)]):=by rw[lH,aj oB];exact aG
 have W9:ey ax=some (.cq []):=by rw[lH,aj ul,aj PC];exact aG
 have Dt:∀b∈dg (Sty.fresh t) L nd,b≠a7/\∃o,ap b=some o:=λb I=>by
  obtain⟨ea,eW⟩:=new b I;refine⟨λz=>(by rw[z,Nl] at ea;cases ea),?_⟩;cases z:ap b with
  |none=>exact absurd z eW
  |some o=>exact⟨o,rfl⟩
 have l0:∀b o,ap b=some o->b≠ax:=λb o I z=>by
  by_cases y:b=a7
  ·exact ul (by rw[<-z,y])
  ·have:=BU b o (GC b o I y);rw[z,fl] at this;cases this
 have mT:∀b o,ap b=some o->b≠y:=λb o I z=>by
  by_cases u:b=a7
  ·exact oB (by rw[<-z,u])
  ·have:=GC b o I u;rw[z,bk] at this;cases this
 have Yq:b_ (Sty.fresh t) R ax=[ax]:=rfl;have BD:∀b,b∈dK (Sty.fresh t) ⟨x,nd,y,ax,L,R⟩ a7↔b=a7\/b∈dg (Sty.fresh t) L nd\/b=ax:=λb=>by rw[fI];show b=a7\/b∈dg (Sty.fresh t) L nd\/b∈b_ (Sty.fresh t) R ax↔_;rw[Yq,ec]
 have af2:∀b∈X,b∉dK (Sty.fresh t) ⟨x,nd,y,ax,L,R⟩ a7:=λb I z=>by
  obtain⟨n,o,aI,_⟩:=qN b I;rcases(BD b).mp z with z|z|z
  ·exact n z
  ·have:=(new b z).1;rw[BS b o aI] at this;cases this
  ·exact l0 b o (y5 b o aI) z
 have sD:x≠a7:=(a8 dH ao).symm;have W5:H1 x=some (.ins aM eN []):=by rw[aE];exact aG
 refine⟨⟨⟨aq,W8⟩,?_,?_,Tm.Be t,Tm.Bf t,?_,λb I=>⟨af2 b I,?_⟩⟩,λb o I n=>?_⟩
 ·refine(at_ (Off (dK (Sty.fresh t) ⟨x,nd,y,ax,L,R⟩ a7++X) ey) ?_ λb o aa ac av=>?_).re (aA.refl _) (λb I=>?_) rfl
  ·rw[qH];refine oF ?_ (y4 _ _ qH sD);rw[di,hn];refine⟨λz=>?_,λz=>?_⟩
   ·rcases(BD x).mp z with z|z|z
    ·exact sD z
    ·have:=(new x z).1;rw[W5] at this;cases this
    ·exact l0 x _ qH z
   ·obtain⟨_,o,aI,_⟩:=qN x z;rw[ao] at aI;cases aI
  ·have nb:b≠a7:=λz=>by rw[z,Nl] at aa;cases aa
   refine oF ?_ (y4 b o av nb);rw[di,hn];refine⟨λz=>?_,λz=>?_⟩
   ·rcases(BD b).mp z with z|z|z
    ·exact nb z
    ·exact ac z
    ·exact l0 b o av z
   ·obtain⟨_,u,aW,_⟩:=qN b z;rw[BS b u aW] at aa;cases aa
  ·obtain⟨n,o,aI⟩:=Dt b I;rw[aI,y4 b o aI n]
 ·refine⟨⟨mq,oF ?_ W_⟩,W9,λr au=>by cases au⟩;rw[di,hn];refine⟨λz=>?_,λz=>?_⟩
  ·rcases(BD y).mp z with z|z|z
   ·exact oB z
   ·obtain⟨_,o,aI⟩:=Dt y z;exact mT y o aI rfl
   ·exact PC z.symm
  ·obtain⟨_,o,aI,_⟩:=qN y z;exact mT y o (y5 y o aI) rfl
 ·unfold dK;rw[hk,di,hn,jb];refine⟨⟨λz=>(Dt a7 z).1 rfl,λz=>ul (ec.mp z).symm⟩,un,by show[ax].Nodup;simp,λa al b I z=>?_⟩;obtain⟨_,o,aI⟩:=Dt a al;exact l0 a o aI (by rw[z];exact ec.mp I)
 ·obtain⟨n,o,aI,bY⟩:=qN b I;exact⟨o,y4 b o (y5 b o aI) n,bY⟩
 ·exact y4 b o (y5 b o I) (λz=>n (by rw[z];exact ec.mpr rfl))
structure xt (K:PySem.W.Frag)(ae:Str->Option af)(b3 aM ci lK lJ:U)(qF qE:b6):Prop where
 cl:jI K b3
 h7:fY K b3 "tree"
 oy:fY K b3 "sheet"
 sq:ae "Tree"=some (.ref aM)
 O_:jL K aM lK
 KG:Binds K qF ahx []
 B7:ae "Sheet"=some (.ref ci)
 O9:jL K ci lJ
 KE:Binds K qE ahn []
abbrev rh (j:Nat):Stmt:=q1 (top 51) j
def ac7:dw "sheet" (.ref y) (dw "tree" (.ref x) (ni a4 bw))=ni x y:=by unfold ni;show dw "sheet" (.ref y) (if("tree":Str)=("tree":Str) then[("tree",.ref x),("sheet",.ref bw)] else _)=_;rw[aV rfl];show(if("tree":Str)=("sheet":Str) then _ else(("tree":Str),V.ref x)::(if("sheet":Str)=("sheet":Str) then[(("sheet":Str),V.ref y)] else _))=_;rw[aN (by w_on),aV rfl]
def ac8:dw "sheet" (.ref y) (dw "tree" (.ref x) [])=ni x y:=by show(if("tree":Str)=("sheet":Str) then _ else(("tree":Str),V.ref x)::[(("sheet":Str),V.ref y)])=_;rw[aN (by w_on)];rfl
inductive Iz(e:fg)(aM aO b3:U)(vs:List V)(H:ah)(Q:cM)(_:fG):Prop|i(a7 aq:U)(X:List U)(_:vs=[.ref a7])(_:H a7=some (.ins b3 aq []))(_:∀b∈X,b≠a7/\∃o,H b=some o/\∀xs,o≠.tup xs)(_:∀ab l,DocOk e aM aO b3 X ab Sty.start l a7 0->ih [a7] H ab->Q .b1 ab)
def adZ:c3 ahn ahn (ct (rh 0)):={}
def abH {K:PySem.W.Frag}{ae:Str->Option af}{base:a5}{aO aM b3 lK lJ:U}{qF qE:b6}{e:fg}{f:U}{fd:b6}(T:xt K ae b3 aM e.ci lK lJ qF qE)(F:dd K "__init__" "Document.__init__" (rh 0) f fd)(GT:aQ e.P e.w K ae base bc 3 lK qF ahx (Dl aM aO))(D2:aQ e.P e.w K ae base bc 1 lJ qE ahn (Dj e.ci)):
  aQ e.P e.w K ae base bc 5 f fd ahn (Iz e aM aO b3):=by
 refine F.ok adZ (λbU A outer s H vs Q E au h=>?_);obtain⟨a7,aq,X,rfl,dH,qN,q⟩:=h;have fA:c1 2 _:=au.mono (by omega);refine⟨_,a_ (gZ (ag 0) (sF T.O_ GT au rfl T.sq T.KG .nil cA (aK bM aY)) rfl) (bo (gZ (ag 0) (HE T.O9 D2 fA rfl T.B7 T.KE .nil cA) rfl)),?_⟩;intro x eN ao iY b9;refine⟨x,eN,0,rfl,aG,λap L nd bX qH un new at_=>⟨rfl,?_⟩⟩;have Bw:ap a7=some (.ins b3 aq []):=bX _ _ (by rw[aj (a8 dH ao),aj (a8 dH iY)];exact dH) (a8 dH ao);refine⟨_,rfl,a7,b3,aq,[],rfl,Bw,T.cl,T.h7,by show 0 < 1000;decide,?_⟩;intro y mq bk tS Yz;refine⟨y,mq,rfl,aG,λax fl=>⟨rfl,?_⟩⟩;have oB:a7≠y:=a8 aG bk;have sy:a7≠mq:=a8 aG tS;have ul:a7≠ax:=a8 (by rw[aj oB,aj sy];exact aG) fl;refine⟨_,rfl,a7,b3,aq,_,rfl,by rw[aj oB,aj ul,aj oB,aj sy];exact aG,T.cl,T.oy,by show 1 < 1000;decide,?_⟩;rw[ac8];obtain⟨aa,ac⟩:=Pn (e:=e) (X:=X) (N:=0) (t:=0) (λ_=>⟨0,0,0⟩) qN dH ao iY rfl bX qH un new at_ rfl bk tS rfl fl rfl;exact q _ _ aa ac
inductive IG(e:fg)(aM aO b3:U)(vs:List V)(H:ah)(Q:cM)(_:fG):Prop|i(a7:U)(X:List U)(W:Sty.State)(l:qg)(N t:Nat)(_:vs=[.ref a7,bj t])(_:DocOk e aM aO b3 X H W l a7 N)(_:qh e aM aO b3 X H W l a7 N (.new t) Q)
def ad3:c3 ahx ahx (ct (rh 1)):={}
def ab' {K:PySem.W.Frag}{ae:Str->Option af}{base:a5}{aO aM b3 lK lJ:U}{qF qE:b6}{e:fg}{f:U}{fd:b6}(T:xt K ae b3 aM e.ci lK lJ qF qE)(F:dd K "new" "Document.new" (rh 1) f fd)(GT:aQ e.P e.w K ae base bc 3 lK qF ahx (Dl aM aO))(D2:aQ e.P e.w K ae base bc 1 lJ qE ahn (Dj e.ci)):
  aQ e.P e.w K ae base bc 5 f fd ahx (IG e aM aO b3):=by
 refine F.ok ad3 (λbU A outer s H vs Q E au h=>?_);obtain⟨a7,X,W,l,N,t,rfl,D,q⟩:=h;have fA:c1 2 _:=au.mono (by omega);obtain⟨aq,dH⟩:=D.ins;have qN:∀b∈X,b≠a7/\∃o,H b=some o/\∀xs,o≠.tup xs:=λb I=>⟨λz=>(D.ex b I).1 (fI.mpr (.inl z)),(D.ex b I).2⟩;refine⟨_,a_ (gZ (ag 0) (sF T.O_ GT au rfl T.sq T.KG .nil cA (aK (ag 1) aY)) rfl) (a_ (gZ (ag 0) (HE T.O9 D2 fA rfl T.B7 T.KE .nil cA) rfl) (bo (cp (dL (aK bM aY))))),?_⟩;refine⟨_,rfl,?_⟩;intro x eN ao iY b9;refine⟨x,eN,t,rfl,aG,λap L nd bX qH un new at_=>⟨rfl,?_⟩⟩;have Bw:ap a7=some (.ins b3 aq (ni l.a4 l.bw)):=bX _ _ (by rw[aj (a8 dH ao),aj (a8 dH iY)];exact dH) (a8 dH ao);refine⟨_,rfl,a7,b3,aq,_,rfl,Bw,T.cl,T.h7,by show 2 < 1000;decide,?_⟩;intro y mq bk tS Yz;refine⟨y,mq,rfl,aG,λax fl=>⟨rfl,?_⟩⟩;have oB:a7≠y:=a8 aG bk;have sy:a7≠mq:=a8 aG tS;have ul:a7≠ax:=a8 (by rw[aj oB,aj sy];exact aG) fl;refine⟨_,rfl,a7,b3,aq,_,rfl,by rw[aj oB,aj ul,aj oB,aj sy];exact aG,T.cl,T.oy,?_,?_⟩
 ·unfold ni;show(if("tree":Str)=("tree":Str) then[(("tree":Str),V.ref x),("sheet",.ref l.bw)] else _).length < 1000;rw[aV rfl];show 2 < 1000;decide
 rw[ac7];obtain⟨aa,ac⟩:=Pn (e:=e) (X:=X) (N:=N+128) (t:=t) (λ_=>⟨0,0,0⟩) qN dH ao iY rfl bX qH un new at_ rfl bk tS rfl fl rfl;refine⟨cH 1,λr a'=>?_⟩;exact q _ _ r (aa.same (aA.upd a') (b5 _)) ((ac.trans (aA.bu (aA.upd a'))).mono λb I=>fI.mpr (.inl (ec.mp I))) aG
def gz {a:Nat}{b:Int}(h:(a:Int)≠b):decide (bj a=V.int b)=false:=cW (λz=>h (by injection z))
def oX {a:Nat}{b:Int}(h:(a:Int)=b):decide (bj a=V.int b)=true:=ej (by unfold bj;rw[h])
def aeG {p t:Nat}:(Sty.step W (.add p t)).1.rules=W.rules:=by unfold Sty.step;simp only;split<;>rfl
def aeH {x:Nat}:(Sty.step W (.drop x)).1.rules=W.rules:=by
 unfold Sty.step;simp only;split
 ·rfl
 ·split<;>rfl
def aeI {x k o:Nat}:(Sty.step W (.mark x k o)).1.rules=W.rules:=by
 unfold Sty.step;simp only;split
 ·rfl
 ·split<;>rfl
def aeJ {p v s:Nat}:(Sty.step W (.rule p v s t)).1.nodes=W.nodes:=by
 unfold Sty.step;simp only;split
 ·rfl
 ·split
  ·rfl
  ·split<;>rfl
def aeK {r:Nat}:(Sty.step W (.unrule r)).1.nodes=W.nodes:=by unfold Sty.step;simp only;split<;>rfl
structure xr (ae:Str->Option af):Prop where
 ip:∃t,ae "NEW"=some (.int 1 t)
 fH:∃t,ae "ADD"=some (.int 2 t)
 k2:∃t,ae "DROP"=some (.int 3 t)
 rI:∃t,ae "MARK"=some (.int 4 t)
 AT:∃t,ae "RULE"=some (.int 5 t)
 EI:∃t,ae "UNRULE"=some (.int 6 t)
 vd:∃t,ae "VALUE"=some (.int 7 t)
 Um:∃t,ae "MATCHES"=some (.int 8 t)
 KO:∃t,ae "SELECT"=some (.int 9 t)
 Uk:∃t,ae "WEIGHT"=some (.int 10 t)
inductive rk(e:fg)(aM aO b3:U)(ok:Nat->Prop)(vs:List V)(H:ah)(Q:cM)(_:fG):Prop|i(a7 na aF:U)(X:List U)(W:Sty.State)(l:qg)(N:Nat)(c:Sty.Call)(_:vs=[.ref a7,bj (Tm.iU c),.ref na,.ref aF])(_:H na=some (.lst ((Tm.e0 c).map bj)))(_:∀t,Tm.qz c=some t->H aF=some (.lst (t.map bv)))(_:DocOk e aM aO b3 X H W l a7 N)(_:N+128 < 1000000)(_:ok (Tm.iU c))(_:qh e aM aO b3 X H W l a7 N c Q)
section
variable {k:Nat}
abbrev CN:Stmt:=top 52
def adU:c3 ahl ahl (ct CN):={}
def abP {K:PySem.W.Frag}{ae:Str->Option af}{base:a5}{aO aM b3 lK lJ eO gr:U}{qF qE fP iw:b6}{e:fg}{f fn bS LX Me fr MC:U}{fd L4 xW L1 L3 L5 L6:b6}(T:xt K ae b3 aM e.ci lK lJ qF qE)(C:xr ae)(TT:lD K ae aM aO eO fP)(kZ:n1 K ae e.ci e.cg gr iw)(D:cX K ae "answer_change" CN ahl f fd)
  (J7:cC K b3 "new" "Document.new" (rh 1) ahx fn L4) (SM:aQ e.P e.w K ae base bc k fn L4 ahx (IG e aM aO b3))
  (J1:cC K aM "add" "Tree.add" (et 1) ahE bS xW) (D3:aQ e.P e.w K ae base bc k bS xW ahE (Ir aM aO))
  (J2:cC K aM "drop" "Tree.drop" (et 2) ahq LX L1) (Sx:aQ e.P e.w K ae base bc k LX L1 ahq (IA aM aO))
  (J6:cC K aM "mark" "Tree.mark" (et 3) ahy Me L3) (SJ:aQ e.P e.w K ae base bc k Me L3 ahy (IF aM aO))
  (J8:cC K e.ci "rule" "Sheet.rule" (lp 1) aht fr L5) (SO:aQ e.P e.w K ae base bc k fr L5 aht (II e))
  (AG:cC K e.ci "unrule" "Sheet.unrule" (lp 2) ahq MC L6) (SV:aQ e.P e.w K ae base bc k MC L6 ahq (IN e)):
  aQ e.P e.w K ae base bc (k+1) f fd ahl (rk e aM aO b3 λn=>n<=6):=by
 refine D.fn.ok adU (λbU A outer s H vs Q E au h=>?_);obtain⟨a7,na,aF,X,W,l,N,c,rfl,dk,ka,ek,c6,ai,q⟩:=h;obtain⟨t1,aa⟩:=C.ip;obtain⟨fV,ac⟩:=C.fH;obtain⟨t3,av⟩:=C.k2;obtain⟨aeX,bn⟩:=C.rI;obtain⟨uI,cB⟩:=C.AT;obtain⟨k4,dH⟩:=ek.ins;obtain⟨ic,dA⟩:=ek.tree.a4;have dA:=zm _ _ dA;obtain⟨l1,ha⟩:=ek.mO.bw;have ha:=zm _ _ ha;refine⟨_,a_ (dh (eJ gA (ag 1) (hg (v:=.int 1) rfl aa ⟨t1,rfl⟩) (d4 _)) (bo (cp (fC (ag 0) T.cl J7.dJ SM au J7.bi .nil cA (aK (da gk (ag 2) bM (λ_ _=>rfl)) aY)))) dn)
  (a_ (dh (eJ gA (ag 1) (hg (v:=.int 2) rfl ac ⟨fV,rfl⟩) (d4 _)) (bo (cp (fC (bT (ag 0) rfl) TT.gE J1.dJ D3 au J1.bi .nil cA (aK (da gk (ag 2) bM (λ_ _=>rfl)) (aK (da gk (ag 2) bM (λ_ _=>rfl)) aY))))) dn)
  (a_ (dh (eJ gA (ag 1) (hg (v:=.int 3) rfl av ⟨t3,rfl⟩) (d4 _)) (bo (cp (fC (bT (ag 0) rfl) TT.gE J2.dJ Sx au J2.bi .nil cA (aK (da gk (ag 2) bM (λ_ _=>rfl)) aY)))) dn)
  (a_ (dh (eJ gA (ag 1) (hg (v:=.int 4) rfl bn ⟨aeX,rfl⟩) (d4 _)) (bo (cp (fC (bT (ag 0) rfl) TT.gE J6.dJ SJ au J6.bi .nil cA (aK (da gk (ag 2) bM (λ_ _=>rfl)) (aK (da gk (ag 2) bM (λ_ _=>rfl)) (aK (da gk (ag 2) bM (λ_ _=>rfl)) aY)))))) dn)
  (a_ (dh (eJ gA (ag 1) (hg (v:=.int 5) rfl cB ⟨uI,rfl⟩) (d4 _)) (bo (cp (fC (bT (ag 0) rfl) kZ.lG J8.dJ SO au J8.bi .nil cA (aK (da gk (ag 2) bM (λ_ _=>rfl)) (aK (da gk (ag 2) bM (λ_ _=>rfl)) (aK (da gk (ag 2) bM (λ_ _=>rfl)) (aK (ag 3) aY))))))) dn)
  (bo (cp (fC (bT (ag 0) rfl) kZ.lG AG.dJ SV au AG.bi .nil cA (aK (da gk (ag 2) bM (λ_ _=>rfl)) aY)))))))),?_⟩
 cases c with
 |new t=>refine⟨_,rfl,rfl,_,rfl,fB (oX (a:=1) rfl) ?_⟩;exact⟨_,rfl,a7,k4,_,rfl,dH,UT (by w_on) (by w_on),_,rfl,na,_,0,_,rfl,rfl,bA.of dk,dT (j:=0) rfl,a7,X,W,l,N,t,rfl,ek,q⟩
 |add p t=>refine⟨_,rfl,rfl,_,rfl,df (gz (a:=2) (by decide)) ⟨_,rfl,rfl,_,rfl,fB (oX (a:=2) rfl) ?_⟩⟩;exact⟨_,rfl,a7,b3,k4,_,_,rfl,dH,T.cl,T.h7,tB,l.a4,ic,_,rfl,dA,dV (by w_on),_,rfl,na,_,0,_,rfl,rfl,bA.of dk,dT (j:=0) rfl,_,rfl,na,_,1,_,rfl,rfl,bA.of dk,dT (j:=1) rfl,l.a4,l.nd,_,W,l.L,p,t,rfl,ek.I8,q.tree ek aeG⟩
 |drop x=>refine⟨_,rfl,rfl,_,rfl,df (gz (a:=3) (by decide)) ⟨_,rfl,rfl,_,rfl,df (gz (a:=3) (by decide)) ⟨_,rfl,rfl,_,rfl,fB (oX (a:=3) rfl) ?_⟩⟩⟩;exact⟨_,rfl,a7,b3,k4,_,_,rfl,dH,T.cl,T.h7,tB,l.a4,ic,_,rfl,dA,dV (by w_on),_,rfl,na,_,0,_,rfl,rfl,bA.of dk,dT (j:=0) rfl,l.a4,l.nd,_,W,l.L,x,rfl,ek.I8,q.tree ek aeH⟩
 |mark x e5 o=>refine⟨_,rfl,rfl,_,rfl,df (gz (a:=4) (by decide)) ⟨_,rfl,rfl,_,rfl,df (gz (a:=4) (by decide)) ⟨_,rfl,rfl,_,rfl,df (gz (a:=4) (by decide)) ⟨_,rfl,rfl,_,rfl,fB (oX (a:=4) rfl) ?_⟩⟩⟩⟩;exact⟨_,rfl,a7,b3,k4,_,_,rfl,dH,T.cl,T.h7,tB,l.a4,ic,_,rfl,dA,dV (by w_on),_,rfl,na,_,0,_,rfl,rfl,bA.of dk,dT (j:=0) rfl,_,rfl,na,_,1,_,rfl,rfl,bA.of dk,dT (j:=1) rfl,_,rfl,na,_,2,_,rfl,rfl,bA.of dk,dT (j:=2) rfl,l.a4,l.nd,_,W,l.L,x,e5,o,rfl,ek.I8,q.tree ek aeI⟩
 |rule p v st t=>refine⟨_,rfl,rfl,_,rfl,df (gz (a:=5) (by decide)) ⟨_,rfl,rfl,_,rfl,df (gz (a:=5) (by decide)) ⟨_,rfl,rfl,_,rfl,df (gz (a:=5) (by decide)) ⟨_,rfl,rfl,_,rfl,df (gz (a:=5) (by decide)) ⟨_,rfl,rfl,_,rfl,fB (oX (a:=5) rfl) ?_⟩⟩⟩⟩⟩;exact⟨_,rfl,a7,b3,k4,_,_,rfl,dH,T.cl,T.oy,vf,l.bw,l1,_,rfl,ha,dV (by w_on),_,rfl,na,_,0,_,rfl,rfl,bA.of dk,dT (j:=0) rfl,_,rfl,na,_,1,_,rfl,rfl,bA.of dk,dT (j:=1) rfl,_,rfl,na,_,2,_,rfl,rfl,bA.of dk,dT (j:=2) rfl,_,rfl,l.bw,l.ax,aF,_,W,l.R,N,p,v,st,t,rfl,ka t rfl,ek.ww c6,q.mO ek aeJ⟩
 |unrule r=>refine⟨_,rfl,rfl,_,rfl,df (gz (a:=6) (by decide)) ⟨_,rfl,rfl,_,rfl,df (gz (a:=6) (by decide)) ⟨_,rfl,rfl,_,rfl,df (gz (a:=6) (by decide)) ⟨_,rfl,rfl,_,rfl,df (gz (a:=6) (by decide)) ⟨_,rfl,rfl,_,rfl,df (gz (a:=6) (by decide)) ?_⟩⟩⟩⟩⟩;exact⟨_,rfl,a7,b3,k4,_,_,rfl,dH,T.cl,T.oy,vf,l.bw,l1,_,rfl,ha,dV (by w_on),_,rfl,na,_,0,_,rfl,rfl,bA.of dk,dT (j:=0) rfl,l.bw,l.ax,_,W,l.R,N,r,rfl,ek.ww c6,q.mO ek aeK⟩
 |value x p=>exact absurd (show(7:Nat)<=6 from ai) (by decide)
 |matches_ r x=>exact absurd (show(8:Nat)<=6 from ai) (by decide)
 |select t=>exact absurd (show(9:Nat)<=6 from ai) (by decide)
 |weight r=>exact absurd (show(10:Nat)<=6 from ai) (by decide)
 |rivals x p=>exact absurd (show(11:Nat)<=6 from ai) (by decide)
abbrev CQ:Stmt:=top 53
def adX:c3 ahl ahl (ct CQ):={}
def abV {K:PySem.W.Frag}{ae:Str->Option af}{base:a5}{aO aM b3 lK lJ:U}{qF qE:b6}{e:fg}{f rU f8 xP xM xN:U}{fd rW xU xV xR xS:b6}(T:xt K ae b3 aM e.ci lK lJ qF qE)(C:xr ae)(D:cX K ae "answer_question" CQ ahl f fd)
  (DO:cX K ae "ask_value" CT ahm rU rW) (w9:aQ e.P e.w K ae base bc k rU rW ahm (Iw e aM aO))
  (DP:cX K ae "ask_matches" CP ahu f8 xU) (DY:aQ e.P e.w K ae base bc k f8 xU ahu (Is e aM aO))
  (DQ:cX K ae "ask_select" CS ahM xP xV) (DZ:aQ e.P e.w K ae base bc k xP xV ahM (Iv aM aO))
  (DM:cX K ae "ask_weight" CU ahD xM xR) (Ao:aQ e.P e.w K ae base bc k xM xR ahD (Ix e))
  (DN:cX K ae "ask_rivals" CR ahm xN xS) (Ap:aQ e.P e.w K ae base bc k xN xS ahm (Iu e aM aO)):
  aQ e.P e.w K ae base bc (k+1) f fd ahl (rk e aM aO b3 λn=>7<=n):=by
 refine D.fn.ok adX (λbU A outer s H vs Q E au h=>?_);obtain⟨a7,na,aF,X,W,l,N,c,rfl,dk,ka,ek,c6,ai,q⟩:=h;obtain⟨aeY,od⟩:=C.vd;obtain⟨aeZ,tM⟩:=C.Um;obtain⟨z2,yf⟩:=C.KO;obtain⟨aeU,W2⟩:=C.Uk;obtain⟨k4,dH⟩:=ek.ins;have sep:=ek.parts.2.2.2.2;refine⟨_,a_ (dh (eJ gA (ag 1) (hg (v:=.int 7) rfl od ⟨aeY,rfl⟩) (d4 _)) (bo (cp (hB w9 au rfl DO.ae DO.bu DO.bi .nil cA (aK (bT (ag 0) rfl) (aK (bT (ag 0) rfl) (aK (da gk (ag 2) bM (λ_ _=>rfl)) (aK (da gk (ag 2) bM (λ_ _=>rfl)) aY))))))) dn)
  (a_ (dh (eJ gA (ag 1) (hg (v:=.int 8) rfl tM ⟨aeZ,rfl⟩) (d4 _)) (bo (cp (hB DY au rfl DP.ae DP.bu DP.bi .nil cA (aK (bT (ag 0) rfl) (aK (bT (ag 0) rfl) (aK (da gk (ag 2) bM (λ_ _=>rfl)) (aK (da gk (ag 2) bM (λ_ _=>rfl)) aY))))))) dn)
  (a_ (dh (eJ gA (ag 1) (hg (v:=.int 9) rfl yf ⟨z2,rfl⟩) (d4 _)) (bo (cp (hB DZ au rfl DQ.ae DQ.bu DQ.bi .nil cA (aK (bT (ag 0) rfl) (aK (ag 3) aY))))) dn)
  (a_ (dh (eJ gA (ag 1) (hg (v:=.int 10) rfl W2 ⟨aeU,rfl⟩) (d4 _)) (bo (cp (hB Ao au rfl DM.ae DM.bu DM.bi .nil cA (aK (bT (ag 0) rfl) (aK (da gk (ag 2) bM (λ_ _=>rfl)) aY))))) dn)
  (bo (cp (hB Ap au rfl DN.ae DN.bu DN.bi .nil cA (aK (bT (ag 0) rfl) (aK (bT (ag 0) rfl) (aK (da gk (ag 2) bM (λ_ _=>rfl)) (aK (da gk (ag 2) bM (λ_ _=>rfl)) aY)))))))))),?_⟩
 cases c with
 |value x p=>refine⟨_,rfl,rfl,_,rfl,fB (oX (a:=7) rfl) ?_⟩;exact⟨_,rfl,a7,b3,k4,_,_,rfl,dH,T.cl,T.h7,tB,_,rfl,a7,b3,k4,_,_,rfl,dH,T.cl,T.oy,vf,_,rfl,na,_,0,_,rfl,rfl,bA.of dk,dT (j:=0) rfl,_,rfl,na,_,1,_,rfl,rfl,bA.of dk,dT (j:=1) rfl,l.a4,l.nd,l.bw,l.ax,_,W,l.L,l.R,N,x,p,rfl,ek.tree,ek.wf,ek.ww c6,sep,q.ask ek rfl⟩
 |matches_ r x=>refine⟨_,rfl,rfl,_,rfl,df (gz (a:=8) (by decide)) ⟨_,rfl,rfl,_,rfl,fB (oX (a:=8) rfl) ?_⟩⟩;exact⟨_,rfl,a7,b3,k4,_,_,rfl,dH,T.cl,T.h7,tB,_,rfl,a7,b3,k4,_,_,rfl,dH,T.cl,T.oy,vf,_,rfl,na,_,0,_,rfl,rfl,bA.of dk,dT (j:=0) rfl,_,rfl,na,_,1,_,rfl,rfl,bA.of dk,dT (j:=1) rfl,l.a4,l.nd,l.bw,l.ax,_,W,l.L,l.R,N,r,x,rfl,ek.tree,ek.wf,ek.ww c6,q.ask ek rfl⟩
 |select t=>refine⟨_,rfl,rfl,_,rfl,df (gz (a:=9) (by decide)) ⟨_,rfl,rfl,_,rfl,df (gz (a:=9) (by decide)) ⟨_,rfl,rfl,_,rfl,fB (oX (a:=9) rfl) ?_⟩⟩⟩;exact⟨_,rfl,a7,b3,k4,_,_,rfl,dH,T.cl,T.h7,tB,_,rfl,l.a4,l.nd,aF,_,W,l.L,t,rfl,ka t rfl,ek.tree,ek.wf,zm,λab er s' _ az=>q ab l er (ek.same s' (by omega)) (aA.bu s') az⟩
 |weight r=>refine⟨_,rfl,rfl,_,rfl,df (gz (a:=10) (by decide)) ⟨_,rfl,rfl,_,rfl,df (gz (a:=10) (by decide)) ⟨_,rfl,rfl,_,rfl,df (gz (a:=10) (by decide)) ⟨_,rfl,rfl,_,rfl,fB (oX (a:=10) rfl) ?_⟩⟩⟩⟩;exact⟨_,rfl,a7,b3,k4,_,_,rfl,dH,T.cl,T.oy,vf,_,rfl,na,_,0,_,rfl,rfl,bA.of dk,dT (j:=0) rfl,l.bw,l.ax,_,W,l.R,N,r,rfl,ek.ww c6,q.ask ek rfl⟩
 |rivals x p=>refine⟨_,rfl,rfl,_,rfl,df (gz (a:=11) (by decide)) ⟨_,rfl,rfl,_,rfl,df (gz (a:=11) (by decide)) ⟨_,rfl,rfl,_,rfl,df (gz (a:=11) (by decide)) ⟨_,rfl,rfl,_,rfl,df (gz (a:=11) (by decide)) ?_⟩⟩⟩⟩;exact⟨_,rfl,a7,b3,k4,_,_,rfl,dH,T.cl,T.h7,tB,_,rfl,a7,b3,k4,_,_,rfl,dH,T.cl,T.oy,vf,_,rfl,na,_,0,_,rfl,rfl,bA.of dk,dT (j:=0) rfl,_,rfl,na,_,1,_,rfl,rfl,bA.of dk,dT (j:=1) rfl,l.a4,l.nd,l.bw,l.ax,_,W,l.L,l.R,N,x,p,rfl,ek.tree,ek.wf,ek.ww c6,q.ask ek rfl⟩
 |new t=>exact absurd (show(7:Nat)<=1 from ai) (by decide)
 |add p t=>exact absurd (show(7:Nat)<=2 from ai) (by decide)
 |drop x=>exact absurd (show(7:Nat)<=3 from ai) (by decide)
 |mark x e5 o=>exact absurd (show(7:Nat)<=4 from ai) (by decide)
 |rule p v st t=>exact absurd (show(7:Nat)<=5 from ai) (by decide)
 |unrule r=>exact absurd (show(7:Nat)<=6 from ai) (by decide)
abbrev CO:Stmt:=top 54
def adV:c3 ahl ahl (ct CO):={}
def abQ {K:PySem.W.Frag}{ae:Str->Option af}{base:a5}{aO aM b3:U}{e:fg}{f f1 f2:U}{fd fO gP:b6}(C:xr ae)(D:cX K ae "answer_call" CO ahl f fd)(kp:cX K ae "answer_change" CN ahl f1 fO)(kV:aQ e.P e.w K ae base bc k f1 fO ahl (rk e aM aO b3 λn=>n<=6))
  (w7:cX K ae "answer_question" CQ ahl f2 gP) (jZ:aQ e.P e.w K ae base bc k f2 gP ahl (rk e aM aO b3 λn=>7<=n)):
  aQ e.P e.w K ae base bc (k+1) f fd ahl (rk e aM aO b3 λ_=>True):=by
 refine D.fn.ok adV (λbU A outer s H vs Q E au h=>?_);obtain⟨a7,na,aF,X,W,l,N,c,rfl,dk,ka,ek,c6,_,q⟩:=h;obtain⟨Dq,gQ⟩:=C.EI;refine⟨_,a_ (dh (eJ Cs (ag 1) (hg (v:=.int 6) rfl gQ ⟨Dq,rfl⟩) (d4 _)) (bo (cp (hB kV au rfl kp.ae kp.bu kp.bi .nil cA (aK (ag 0) (aK (ag 1) (aK (ag 2) (aK (ag 3) aY))))))) dn)
  (bo (cp (hB jZ au rfl w7.ae w7.bu w7.bi .nil cA (aK (ag 0) (aK (ag 1) (aK (ag 2) (aK (ag 3) aY))))))),?_⟩
 refine⟨_,rfl,_,_,rfl,rfl,_,rfl,?_⟩;by_cases ai:Tm.iU c<=6
 ·refine fB (ej (by omega)) ?_;exact⟨_,rfl,_,rfl,_,rfl,_,rfl,a7,na,aF,X,W,l,N,c,rfl,dk,ka,ek,c6,ai,q⟩
 ·refine df (cW (by omega)) ?_;exact⟨_,rfl,_,rfl,_,rfl,_,rfl,a7,na,aF,X,W,l,N,c,rfl,dk,ka,ek,c6,by show 7<=Tm.iU c;omega,q⟩
abbrev CY:Stmt:=top 55
inductive Rd (vs:List V)(H:ah)(Q:cM)(_:fG):Prop|i(p:U)(a:Sty.Answer)(_:vs=[.ref p])(_:H p=some (.lst (k1 a)))(_:a.nums.length<=192)(_:∀ab r,aA H ab->H r=none->ab r=some (.lst ((Tm.l4 a).map V.int))->Q (.ref r) ab)
def aec:c3 ["answer"] ["answer"] (ct CY):={}
def Kx (a:Sty.Answer):(k1 a).length=a.nums.length+1:=by unfold k1;rw[fK,cc]
def TO (a:Sty.Answer):n8 (k1 a) (some 1) none=a.nums.map bj:=by unfold n8;rw[show(some (1:Int))=some (((1:Nat)):Int) from rfl,iO.H_,iO.adS,Kx,min_eq_left (by omega)];show(a.nums.map bj).take (a.nums.length+1 - 1)=_;rw[Nat.add_sub_cancel,<-cc (f:=bj),lx]
def acn {K:PySem.W.Frag}{ae:Str->Option af}{base:a5}{P:bg}{w:bb}{f:U}{fd:b6}(B:pf ae)(D:cX K ae "written" CY ["answer"] f fd):aQ P w K ae base bc 1 f fd ["answer"] Rd:=by
 refine D.fn.ok aec (λbU A outer s H vs Q E au h=>?_);obtain⟨p,a,rfl,am,aC,q⟩:=h;refine⟨_,bo (cp (eg wb (dL (aK (eg uq (gX j6 (by rfl) B.len jd (aK (ag 0) aY)) bM) (aK (da gk (ag 0) bM (λ_ _=>rfl)) (aK (eg zp (gX j6 (by rfl) B.len jd (aK (ag 0) aY)) bM) aY))))
  (HG Ip (ag 0) (zA bM) ac3))),?_⟩
 refine⟨_,rfl,p,_,rfl,.inl (bA.of am),_,_,rfl,rfl,_,rfl,p,_,0,_,rfl,rfl,bA.of am,dT (j:=0) rfl,_,rfl,p,_,rfl,.inl (bA.of am),_,_,rfl,rfl,cH 3,λsj i1=>?_⟩;have cI:p≠sj:=a8 am i1;refine⟨_,rfl,_,rfl,p,_,rfl,bA.of (by rw[aj cI];exact am),λcY eR=>?_⟩;have ea:sj≠cY:=a8 aG eR;rw[TO];refine⟨sj,cY,_,_,rfl,rfl,by rw[aj ea];exact aG,aG,t_ (by rw[cc];show 3+_<=_;omega),λr a'=>?_⟩;have s1:aA H (upd (upd H sj _) cY (.lst (a.nums.map bj))):=(aA.upd i1).trans (aA.upd eR);refine q _ r (s1.trans (aA.upd a')) (s1.free a') ?_;rw[aG];unfold Tm.l4;rw[ck,ck,ck,ff,Kx];show some (c0.lst (V.int (((a.nums.length+1:Nat):Int)+1)::V.int a.ret::V.int (((a.nums.length+1:Nat):Int) - 1)::a.nums.map bj))=_;rw[show(((a.nums.length+1:Nat):Int) - 1)=(a.nums.length:Int) by omega];rfl
end
def DocOk.more {N:Nat}(D:DocOk e aM aO b3 X H W l a7 N)(al:H a=none):DocOk e aM aO b3 (X++[a]) (upd H a (.lst xs)) W l a7 N:=by
 have aw:∀b∈dK W l a7,upd H a (.lst xs) b=H b:=λb I=>by obtain⟨o,aI,_⟩:=D.there b I;exact aj (a8 aI al)
 have cu:aA (Off (dK W l a7++X) H) (Off (dK W l a7++(X++[a])) (upd H a (.lst xs))):=λb o h=>by obtain⟨aa,ac⟩:=oE h;have n:=a8 ac al;refine oF ?_ (by rw[aj n];exact ac);rw[<-wP,di,hn];exact⟨aa,λz=>n (ec.mp z)⟩
 obtain⟨aq,dH⟩:=D.ins;refine⟨⟨aq,by rw[aw a7 (fI.mpr (.inl rfl))];exact dH⟩,D.tree.re cu (λb I=>aw b (fI.mpr (.inr (.inl I)))) rfl,D.mO.re cu (λb I=>aw b (fI.mpr (.inr (.inr I)))) rfl (b5 _),D.wf,D.uL,D.un,λb I=>?_⟩;rcases di.mp I with I|I
 ·obtain⟨aa,o,ac,av⟩:=D.ex b I;exact⟨aa,o,by rw[aj (a8 ac al)];exact ac,av⟩
 ·rw[ec.mp I];exact⟨D.lf al,_,aG,λxs z=>by cases z⟩
def UJ {a b:Nat}(I:b<=zs.length)(al:a<=b):n8 zs (some ((a:Nat):Int)) (some ((b:Nat):Int))=(zs.drop a).take (b - a):=by unfold n8;rw[iO.H_,iO.H_,min_eq_left I,min_eq_left (gC al I)]
def K5 {A B:List Int}{a b:Nat}(a9:a=A.length)(dG:b=A.length+B.length):n8 ((A++(B++C)).map V.int) (some ((a:Nat):Int)) (some ((b:Nat):Int))=B.map V.int:=by subst a9 dG;rw[UJ (by rw[cc,dC,dC];omega) (by omega),<-List.map_drop,<-List.map_take,List.drop_left,Nat.add_sub_cancel_left,List.take_left]
def ML {x:Int}{a:Nat}(a9:a=A.length):((A++x::C).map V.int)[a]? =some (V.int x):=by subst a9;rw[hD,Ad (b5 _),Nat.sub_self];rfl
def Ck:List (Int×Int):=[(1,1),(2,2),(3,1),(4,3),(5,3),(6,1),(7,2),(8,2),(9,0),(10,1),(11,2)]
def abt (c:Sty.Call):Ck.lookup (Tm.iU c:Int)=some (((Tm.e0 c).length:Nat):Int):=by cases c<;>rfl
def XC (h:Tm.qz c=some t):Tm.iU c=5\/Tm.iU c=9:=by cases c<;>first|exact .inl rfl|exact .inr rfl|cases h
def aa':∀{c:Sty.Call},Tm.qz c=none->Tm.iU c≠5/\Tm.iU c≠9
 |.new _,_=>⟨(by decide:(1:Nat)≠5),(by decide:(1:Nat)≠9)⟩
 |.add _ _,_=>⟨(by decide:(2:Nat)≠5),(by decide:(2:Nat)≠9)⟩
 |.drop _,_=>⟨(by decide:(3:Nat)≠5),(by decide:(3:Nat)≠9)⟩
 |.mark _ _ _,_=>⟨(by decide:(4:Nat)≠5),(by decide:(4:Nat)≠9)⟩
 |.rule _ _ _ _,h=>nomatch h
 |.unrule _,_=>⟨(by decide:(6:Nat)≠5),(by decide:(6:Nat)≠9)⟩
 |.value _ _,_=>⟨(by decide:(7:Nat)≠5),(by decide:(7:Nat)≠9)⟩
 |.matches_ _ _,_=>⟨(by decide:(8:Nat)≠5),(by decide:(8:Nat)≠9)⟩
 |.select _,h=>nomatch h
 |.weight _,_=>⟨(by decide:(10:Nat)≠5),(by decide:(10:Nat)≠9)⟩
 |.rivals _ _,_=>⟨(by decide:(11:Nat)≠5),(by decide:(11:Nat)≠9)⟩
def Vc (c:Sty.Call):(Tm.enc c).length=1+((Tm.e0 c).length+(Tm.rJ (Tm.qz c)).length):=by unfold Tm.enc;rw[fK,dC,cc];omega
def abm (c:Sty.Call):((Tm.e0 c).map Int.ofNat).map V.int=(Tm.e0 c).map bj:=by rw[ff];rfl
def afJ (t:Bytes):(t.map Tm.pi).map V.int=t.map bv:=by rw[ff];rfl
def rB (K:PySem.W.Frag)(X:List U)(H:ah)(a:U)(xs:List V):Prop:=bA K H a xs/\((∃u,H a=some u/\a∈X)\/∀ab:ah,bA K ab a xs)
def rB.step {K:PySem.W.Frag}{X:List U}{H ab:ah}{a:U}{xs:List V}(h:rB K X H a xs)(k:∀u,a∈X->H a=some u->ab a=some u):rB K X ab a xs:=by
 obtain⟨aa,ac⟩:=h;rcases ac with⟨u,aW,ao⟩|ac
 ·refine⟨?_,.inl ⟨u,k u ao aW,ao⟩⟩;rcases aa with(aa|⟨o,aa⟩)|aa
  ·exact .inl (.inl (k _ ao aa))
  ·exact .inl (.inr ⟨o,k _ ao aa⟩)
  ·exact .inr aa
 ·exact⟨ac ab,.inr ac⟩
def Zu {K:PySem.W.Frag}{H:ah}{a:U}{xs:List V}(h:bA K H a xs):∃iT,(∀b∈iT,b=a/\∃o,H b=some o/\∀bO,o≠.tup bO)/\rB K iT H a xs:=by
 rcases h with(h|⟨o,h⟩)|h
 ·exact⟨[a],λb I=>by rw[ec.mp I];exact⟨rfl,_,h,λbO z=>by cases z⟩,.inl (.inl h),.inl ⟨_,h,by simp⟩⟩
 ·exact⟨[a],λb I=>by rw[ec.mp I];exact⟨rfl,_,h,λbO z=>by cases z⟩,.inl (.inr ⟨o,h⟩),.inl ⟨_,h,by simp⟩⟩
 ·exact⟨[],λb I=>(by cases I),.inr h,.inr λ_=>.inr h⟩
section
variable {k:Nat}
abbrev H9:Stmt:=top 56
inductive It(K:PySem.W.Frag)(vs:List V)(H:ah)(Q:cM)(_:fG):Prop|i(cs:U)(xs:List Int)(_:vs=[.ref cs])(_:bA K H cs (xs.map V.int))(_:answers_asked xs=true)(_:∀ab r,ab r=some (.lst ((answers xs).map V.int))->Q (.ref r) ab)
def nC:c3 ["calls","document","told","place","call","begin","numbers","text"] ["calls"] (ct H9):={}
def abU {K:PySem.W.Frag}{ae:Str->Option af}{base:a5}{aO aM b3 vk A3:U}{LZ:b6}{e:fg}{f bS r2:U}{fd xW rY:b6}(aw:6<=k)(C:xr ae)(B:pf ae)(D:cX K ae "answers" H9 ["calls"] f fd)(aaG:ae "Document"=some (.ref b3))(aaK:jL K b3 vk)(Ub:Binds K LZ ahn [])(Sg:aQ e.P e.w K ae base bc 5 vk LZ ahn (Iz e aM aO b3))
  (B6:ae "NUMBERS_OF_CALL"=some (.ref A3)) (bK:yc K A3 Ck=true)
  (Da:cX K ae "answer_call" CO ahl bS xW) (D3:aQ e.P e.w K ae base bc k bS xW ahl (rk e aM aO b3 λ_=>True))
  (e9:cX K ae "written" CY ["answer"] r2 rY):
  aQ e.P e.w K ae base bc (k+1) f fd ["calls"] (It K):=by
 have D5:aQ e.P e.w K ae base bc 1 r2 rY ["answer"] Rd:=acn B e9;refine D.fn.ok nC (λbU A outer s H vs Q E au h=>?_);obtain⟨cs,xs,rfl,k7,FG,q⟩:=h;obtain⟨ks,Oc,agu,YV⟩:=Tm.TP FG;have YQ:c1 6 _:=au.mono aw;have gu:c1 1 _:=au.mono (by omega);obtain⟨uI,cB⟩:=C.AT;obtain⟨z2,yf⟩:=C.KO;refine⟨_,a_ (cE (i:=1) nC.nd (HE aaK Sg YQ rfl aaG Ub .nil cA))
  (a_ (cE (i:=2) nC.nd (dL aY))
  (a_ (cE (i:=3) nC.nd bM)
  (a_ (sI kS (eJ Hu (ag 3) (gX j6 (by rfl) B.len jd (aK (ag 0) aY)) (d4 _))
   (a_ (cE (i:=4) nC.nd (da gk (ag 0) (ag 3) (λ_ _=>rfl)))
   (a_ (cE (i:=5) nC.nd (eg uq (ag 3) bM))
   (a_ (cE (i:=3) nC.nd (eg uq (ag 5) (da ZB (hg (v:=.ref A3) rfl B6 rfl) (ag 4) (λ_ _=>rfl))))
   (a_ (cE (i:=6) nC.nd (HG Ip (ag 0) (zA (ag 5)) (zA (ag 3))))
   (a_ (cE (i:=7) nC.nd (dL aY))
   (a_ (dh (kX.pt (CD (eJ gA (ag 4) (hg (v:=.int 5) rfl cB ⟨uI,rfl⟩) (d4 _)) (CE (eJ gA (ag 4) (hg (v:=.int 9) rfl yf ⟨z2,rfl⟩) (d4 _)))))
    (a_ (cE (i:=5) nC.nd (eg uq (ag 3) bM))
    (a_ (cE (i:=3) nC.nd (eg uq (ag 5) (da gk (ag 0) (eg zp (ag 5) bM) (λ_ _=>rfl))))
    (bo (cE (i:=7) nC.nd (HG Ip (ag 0) (zA (ag 5)) (zA (ag 3))))))) dn)
   (bo (hQ (lh kR PySem.F.slot_list_extend PySem.F.type_list_extend O' (ag 2) (aK (hB D5 gu rfl e9.ae e9.bu e9.bi .nil cA (aK (hB D3 au rfl Da.ae Da.bu Da.bi .nil cA (aK (ag 1) (aK (ag 4) (aK (ag 6) (aK (ag 7) aY))))) aY)) aY)))))))))))
  (bo (cp (ag 2)))))),?_⟩
 intro a7 aq dH iY b9;obtain⟨iT,qO,k7⟩:=Zu k7;have fm:∀b o,H b=some o->b≠a7/\upd (upd H aq (.own a7)) a7 (.ins b3 aq []) b=some o:=λb o I=>⟨a8 I dH,by rw[aj (a8 I dH),aj (a8 I iY)];exact I⟩;refine⟨a7,aq,iT,rfl,aG,λb I=>?_,λH1 cY kp dI=>⟨rfl,?_⟩⟩
 ·obtain⟨_,o,aI,bY⟩:=qO b I;exact⟨(fm b o aI).1,o,(fm b o aI).2,bY⟩
 have cP:∀b o,H b=some o->H1 b=some o:=λb o I=>dI _ _ (fm b o I).2 (by simpa using(fm b o I).1);have XQ:rB K iT H1 cs (xs.map V.int):=k7.step λu _ aW=>cP _ _ aW;refine⟨cH 0,λgf mD=>?_⟩;have Pf:cs∈iT->cs≠gf:=λao=>by obtain⟨_,o,aI,_⟩:=qO cs ao;exact a8 (cP _ _ aI) mD
 have w7:=kp.more mD (xs:=[]);refine⟨λm σ ab=>∃(done todo:List Sty.Call) (l:qg) (v4 e7 v6 ig:Option V),ks=done++todo/\m=todo.length/\σ=[some (.ref cs),some (.ref a7),some (.ref gf),some (bj (done.flatMap Tm.enc).length),v4,e7,v6,ig]/\DocOk e aM aO b3 (iT++[gf]) ab (Tm.after Sty.start done) l a7 (128 * done.length)/\rB K iT ab cs (xs.map V.int)/\ab gf=some (.lst ((Tm.tell Sty.start done).map V.int)),
  ⟨_,[],ks,cY,none,none,none,none,rfl,rfl,rfl,w7,XQ.step λu ao aW=>by rw[aj (Pf ao)];exact aW,aG⟩,?_⟩
 rintro m σ ab ⟨done,todo,l,v4,e7,v6,ig,mw,rfl,rfl,ek,k7,mD⟩;refine⟨_,rfl,_,rfl,cs,_,rfl,.inl (k7.1),_,_,rfl,rfl,_,rfl,?_⟩;have d2:(xs.map V.int).length=(done.flatMap Tm.enc).length+(todo.flatMap Tm.enc).length:=by rw[cc,Oc,mw,oZ,dC]
 cases todo with
 |nil=>refine df (cW (by rw[d2];simp)) ?_;rw[l7] at mw;refine⟨_,rfl,q ab gf ?_⟩;rw[YV,mw];exact mD
 |cons c rest=>
  have Zk:xs=done.flatMap Tm.enc++(Tm.enc c++rest.flatMap Tm.enc):=by rw[Oc,mw,oZ,kN]
  have vv:=Vc c;refine fB (ej (by rw[d2,kN,dC,vv];omega)) ⟨_,λ_ _ z=>z,?_⟩;generalize pI:(done.flatMap Tm.enc).length=fc;have vK:xs=done.flatMap Tm.enc++(Tm.iU c:Int)::(((Tm.e0 c).map Int.ofNat++Tm.rJ (Tm.qz c))++rest.flatMap Tm.enc):=Zk;have Zg:xs=(done.flatMap Tm.enc++[(Tm.iU c:Int)])++((Tm.e0 c).map Int.ofNat++(Tm.rJ (Tm.qz c)++rest.flatMap Tm.enc)):=by rw[vK];simp
  refine⟨_,rfl,_,rfl,cs,_,((fc:Nat):Int),bj (Tm.iU c),rfl,rfl,k7.1,dT (j:=fc) (by rw[vK];exact ML pI.symm),?_⟩;refine⟨_,rfl,_,_,rfl,rfl,?_⟩;refine⟨bj (fc+1),rfl,_,rfl,A3,Ck,(Tm.iU c:Int),(((Tm.e0 c).length:Nat):Int),rfl,bK,by decide,rfl,abt c,((fc+1:Nat):Int),_,rfl,rfl,?_⟩;refine⟨_,rfl,bj (fc+1),rfl,_,rfl,bj (fc+1+(Tm.e0 c).length),rfl,_,rfl,cs,_,rfl,k7.1,λna dk=>?_⟩;have XS:n8 (xs.map V.int) (some ((fc+1:Nat):Int)) (some ((fc+1+(Tm.e0 c).length:Nat):Int))=(Tm.e0 c).map bj:=by rw[Zg,K5 (by rw[dC,pI];rfl) (by rw[dC,cc,pI];rfl),abm]
  rw[XS];refine⟨cH 0,λte N7=>?_⟩;generalize js:upd (upd ab na (.lst ((Tm.e0 c).map bj))) te (.lst [])=ap;have s2:aA ab ap:=by rw[<-js];exact(aA.upd dk).trans (aA.upd N7)
  have aa9:na≠te:=a8 aG N7;have Yx:ap na=some (.lst ((Tm.e0 c).map bj)):=by rw[<-js,aj aa9];exact aG
  unfold jr;dsimp only[List.set];show ki (oP _ _ oQ) _ _ _ _;refine QW (λσ' bz=>∃e7 aF,σ'=[some (.ref cs),some (.ref a7),some (.ref gf),some (bj (fc+(Tm.enc c).length)),some (bj (Tm.iU c)),e7,some (.ref na),some (.ref aF)]/\aA ap bz/\∀t,Tm.qz c=some t->bz aF=some (.lst (t.map bv))) ?_ ?_
  ·rintro σ' bz ⟨afM,aF,rfl,s3,ka⟩;have CJ:aA ab bz:=s2.trans s3;have eR:ks.length=done.length+(rest.length+1):=by rw[mw,dC,fK]
   refine⟨_,rfl,.inl ⟨rfl,_,bA.of (CJ _ _ mD)⟩,_,rfl,_,rfl,_,rfl,_,rfl,a7,na,aF,iT++[gf],_,l,128 * done.length,c,rfl,s3 _ _ Yx,ka,ek.same CJ (b5 _),by omega,trivial,λc4 ZX fS Sa kb YL=>?_⟩;obtain⟨l6,h_⟩:=Tm.Kv done Sty.start (Tm.Be 0) (Tm.Bf 0);have se:=Tm.Rk l6 h_ c;refine⟨fS,_,rfl,YL,se,λgi uA s5 agG YP=>?_⟩;have abq:gf∉dK (Tm.after Sty.start done) l a7:=(ek.ex gf (by simp)).1;have aa0:cs∈iT->cs∉dK (Tm.after Sty.start done) l a7:=λao=>(ek.ex cs (by simp[ao])).1;have Y7:gi gf=some (.lst ((Tm.tell Sty.start done).map V.int)):=s5 _ _ (kb _ _ (CJ _ _ mD) abq);have XR:rB K iT gi cs (xs.map V.int):=k7.step λu ao aW=>s5 _ _ (kb _ _ (CJ _ _ aW) (aa0 ao));have agH:=Tm.Rz done Sty.start (Tm.Be 0) (Tm.Bf 0);have Y6:(Tm.l4 (Sty.step (Tm.after Sty.start done) c).2).length=(Sty.step (Tm.after Sty.start done) c).2.nums.length+3:=by unfold Tm.l4;simp
   refine⟨gf,uA,_,_,rfl,rfl,Y7,YP,t_ (by rw[cc,cc,Y6];omega),?_⟩;refine⟨rest.length,p' _,done++[c],rest,ZX,some (bj (Tm.iU c)),afM,some (.ref na),some (.ref aF),by rw[mw];simp,rfl,?_,?_,XR.step λu ao aW=>by rw[aj (Pf ao)];exact aW,?_⟩
   ·rw[oZ,dC,pI,kN,List.flatMap_nil,l7]
   ·have aE:128 * (done++[c]).length=128 * done.length+128:=by rw[dC];show 128 * (done.length+1)=_;omega
    rw[aE,Tm.Ku];exact(Sa.same s5 (b5 _)).other (a:=gf) (by simp)
   ·rw[aG,Tm.RA,hi]
  ·intro u9 hs;refine⟨_,rfl,rfl,_,rfl,?_⟩;cases bY:Tm.qz c with
   |none=>obtain⟨G5,ag5⟩:=aa' bY;refine df (gz (by omega)) ⟨_,rfl,rfl,_,rfl,df (gz (by omega)) (hs _ _ ⟨some (bj (fc+1)),te,?_,aA.refl _,λt z=>by rw[bY] at z;cases z⟩)⟩;rw[vv,bY];show _=[some (.ref cs),some (.ref a7),some (.ref gf),some (bj (fc+(1+((Tm.e0 c).length+0)))),_,_,_,_];rw[show fc+(1+((Tm.e0 c).length+0))=fc+1+(Tm.e0 c).length by omega];rfl
   |some t=>
    have main:ki (rl (oR (mN λi j=>.int (i+j)) (eE 3) (ls (.int 1))) (jr 5)) (ki (rl (oR (mN λi j=>.int (i+j)) (eE 5) (oR (Qm K) (eE 0) (oR (mN λi j=>.int (i - j)) (eE 5) (ls (.int 1))))) (jr 3)) (rl (Rx (Qq K) (eE 0) (I3 (eE 5)) (I3 (eE 3))) (jr 7))) {cG:=u9,ia:=Q,hI:=λ_ _=>False,dP:=λ_ _=>False}
      [some (.ref cs),some (.ref a7),some (.ref gf),some (bj (fc+1+(Tm.e0 c).length)),some (bj (Tm.iU c)),some (bj (fc+1)),some (.ref na),some (.ref te)] ap:=by
     have Oa:xs=(done.flatMap Tm.enc++((Tm.iU c:Int)::(Tm.e0 c).map Int.ofNat))++(t.length:Int)::(t.map Tm.pi++rest.flatMap Tm.enc):=by rw[vK,bY];unfold Tm.rJ;simp
     have Zh:xs=(done.flatMap Tm.enc++((Tm.iU c:Int)::(Tm.e0 c).map Int.ofNat)++[(t.length:Int)])++(t.map Tm.pi++rest.flatMap Tm.enc):=by rw[Oa];simp
     have F0:(done.flatMap Tm.enc++((Tm.iU c:Int)::(Tm.e0 c).map Int.ofNat)).length=fc+1+(Tm.e0 c).length:=by rw[dC,fK,cc,pI];omega
     have Nh:rB K iT ap cs (xs.map V.int):=k7.step λu _ aW=>s2 _ _ aW;refine⟨_,rfl,_,_,rfl,rfl,?_⟩;refine⟨bj (fc+1+(Tm.e0 c).length+1),rfl,_,rfl,bj (fc+1+(Tm.e0 c).length+1),rfl,((fc+1+(Tm.e0 c).length+1:Nat):Int),1,rfl,rfl,cs,_,_,V.int (t.length:Int),rfl,rfl,Nh.1,?_,((fc+1+(Tm.e0 c).length+1:Nat):Int),_,rfl,rfl,?_⟩
     ·rw[show(((fc+1+(Tm.e0 c).length+1:Nat):Int) - 1)=((fc+1+(Tm.e0 c).length:Nat):Int) by omega];exact dT (by rw[Oa];exact ML F0.symm)
     ·refine⟨_,rfl,bj (fc+1+(Tm.e0 c).length+1),rfl,_,rfl,bj (fc+1+(Tm.e0 c).length+1+t.length),rfl,_,rfl,cs,_,rfl,Nh.1,λaF ka=>?_⟩;have XT:n8 (xs.map V.int) (some ((fc+1+(Tm.e0 c).length+1:Nat):Int)) (some ((fc+1+(Tm.e0 c).length+1+t.length:Nat):Int))=t.map bv:=by rw[Zh,K5 (by rw[dC,F0];rfl) (by rw[dC,cc,F0];rfl),afJ]
      rw[XT];refine hs _ _ ⟨some (bj (fc+1+(Tm.e0 c).length+1)),aF,?_,aA.upd ka,λt' z=>by rw[bY] at z;cases z;exact aG⟩;rw[vv,bY];show _=[some (.ref cs),some (.ref a7),some (.ref gf),some (bj (fc+(1+((Tm.e0 c).length+((t.length:Int)::t.map Tm.pi).length)))),_,_,_,_];rw[show fc+(1+((Tm.e0 c).length+((t.length:Int)::t.map Tm.pi).length))=fc+1+(Tm.e0 c).length+1+t.length by rw[fK,cc];omega];rfl
    rcases XC bY with h|h
    ·exact fB (oX (by omega)) (d3 main)
    ·exact df (gz (by omega)) ⟨_,rfl,rfl,_,rfl,fB (oX (by omega)) main⟩
end
end bf
namespace bf
open PySem PySem.Spec PyProof.Rows aB
def RG (K:PySem.W.Frag)(a:U)(ss:List Str):Bool:=match K.lookup a with
 |some ⟨.type "tuple",_,.seq a3 _,_⟩=>decide (a3.size<=sizeLine)&&a3.toList.length==ss.length&&(a3.toList.zip ss).all λq=>q.1.isStr q.2
 |_=>false
theorem RI:∀(us:List af) (ss:List Str),us.length=ss.length->(∀q∈us.zip ss,q.1.isStr q.2=true)->b' (ss.map V.str) us
 |[],[],_,_=>.nil
 |[],_::_,h,_=>by simp at h
 |_::_,[],h,_=>by simp at h
 |u::us,x::ss,h,k=>by rw[ck];refine .cons ?_ (RI us ss (by simpa using h) λq az=>k q (by rw[nJ];exact d7 _ az));have:=k (u,x) (by rw[nJ];exact dW ..);cases u<;>first|(exact⟨_,by rw[show _=x from eq_of_beq this]⟩)|cases this
def RH {K:PySem.W.Frag}{a:U}{ss:List Str}{H:ah}(h:RG K a ss=true):c5 K H a (ss.map V.str):=by
 unfold RG at h;split at h
 ·rename_i a3 n bh aI
  rw[d6,d6] at h;exact .inr ⟨_,a3,n,aI,rfl,rfl,rv h.1.1,RI _ _ (by simpa using h.1.2) λq az=>sY.mp h.2 q az⟩
 ·cases h
def Z9:typeLookup (.type "Exception") "place"=pure none:=by rw[typeLookup_type,builtinLookup_eq_fast];kernel_rfl
def o7 (K:PySem.W.Frag)(x q:Str)(st:Stmt)(ps:List Str)(f:U)(fd:b6):Prop:=dd K x q st f fd/\Binds K fd ps []
def na {K:PySem.W.Frag}{x:Str}{C:U}(h:findIn K (.ref C) x=some none:=by k_is):fY K C x:=h
def Lz0:Nat->(List af->Prop)->Prop
 |0,p=>p []
 |n+1,p=>∀a,Lz0 n λl=>p (a::l)
theorem Lz1:∀{n:Nat}{p:List af->Prop},Lz0 n p->∀us,us.length=n->p us
 |0,_,h,[],_=>h
 |_+1,_,h,a::_,e=>Lz1 (h a) _ (Nat.succ.inj e)
def Mg {K:PySem.W.Frag}{h:a5}{mg:Str->Option af}(X:K.In h)(G:h.Ns mainGlobals mg)(e:PySem.W.nsIn K mainGlobals n=some (some v):=by k_is):mg n=some v:=PySem.W.mg_of X G e
def mr {K:PySem.W.Frag}{x q:Str}{st:Stmt}{ps:List Str}{f:U}{hP:af}{c9 an:Option U}{kH:Array (Option af)}{cV doc pm bU dP:af}(b:∀(cV doc pm:af) (an:Option U) (bU dP:af),Lz0 ps.length λus=>bindArgs (fnOf x q (mn st) (kt st) (ct st) .none cV doc pm an bU dP) ⟨us,[]⟩=pure (ps.zip us))(l:K.lookup f=some ⟨hP,c9,.func (fnOf x q (mn st) (kt st) (ct st) .none cV doc pm an bU dP),kH⟩:=by k_is)(c:codeIn K bU q=true:=by k_is)(k:keepIn K (.ref f)=true:=by k_is):o7 K x q st ps f (fnOf x q (mn st) (kt st) (ct st) .none cV doc pm an bU dP):=⟨MD l c k,(MD l c k).binds λa d e f g h=>Lz1 (b a d e f g h)⟩
def gV {K:PySem.W.Frag}{x q:Str}{st:Stmt}{ps:List Str}{f C:U}{hP:af}{c9 an:Option U}{kH:Array (Option af)}{cV doc pm bU dP:af}(b:∀(cV doc pm:af) (an:Option U) (bU dP:af),Lz0 ps.length λus=>bindArgs (fnOf x q (mn st) (kt st) (ct st) .none cV doc pm an bU dP) ⟨us,[]⟩=pure (ps.zip us))(a:findIn K (.ref C) x=some (some (.ref f)):=by k_is)(i:isFn K (.ref f)=true:=by k_is)(l:K.lookup f=some ⟨hP,c9,.func (fnOf x q (mn st) (kt st) (ct st) .none cV doc pm an bU dP),kH⟩:=by k_is)(c:codeIn K bU q=true:=by k_is)(k:keepIn K (.ref f)=true:=by k_is):cC K C x q st ps f (fnOf x q (mn st) (kt st) (ct st) .none cV doc pm an bU dP):=⟨(mr b l c k).1,⟨a,i,k⟩,(mr b l c k).2⟩
def jn {K:PySem.W.Frag}{x:Str}{st:Stmt}{ps:List Str}{f:U}{hP:af}{c9 an:Option U}{kH:Array (Option af)}{cV doc pm bU dP:af}{h:a5}{ae:Str->Option af}(X:K.In h)(G:h.Ns mainGlobals ae)(b:∀(cV doc pm:af) (an:Option U) (bU dP:af),Lz0 ps.length λus=>bindArgs (fnOf x x (mn st) (kt st) (ct st) .none cV doc pm an bU dP) ⟨us,[]⟩=pure (ps.zip us))(a:nsIn K mainGlobals x=some (some (.ref f)):=by k_is)(l:K.lookup f=some ⟨hP,c9,.func (fnOf x x (mn st) (kt st) (ct st) .none cV doc pm an bU dP),kH⟩:=by k_is)(c:codeIn K bU x=true:=by k_is)(k:keepIn K (.ref f)=true:=by k_is):cX K ae x st ps f (fnOf x x (mn st) (kt st) (ct st) .none cV doc pm an bU dP):=⟨(mr b l c k).1,PySem.W.mg_of X G a,k,(mr b l c k).2⟩
def all_mk {P:bg}{w:bb}{K:PySem.W.Frag}{ae:Str->Option af}{bS CX du ay aJ aT cg ci aO aM b3 cF cZ qD VM VN x' VO Fg VP Mp Fh Fi x_ Mn Mo Mw VA Mc VW MF jo Ms nj Mu VT Mv VU Mx mu Mq LV LQ LU LW LS VH gr lJ L7 L8 eO lK My Mz MA VV MB vk fO LO LR LP VX Vz Kq:U}{V_ V6 V7 Ww Wz WA WB WC WD WE WG WH MO Wx Wy WQ Wq Wr WX WY V8 WK WL WM WN WO WP WR WJ WI Wf Wb We Wg Wd Ws Fo Fp Wo Wp Fn Fq WS WT WU WV WW V5 Wj V' Wc Wa WZ MG:b6}(i0:ae "answers"=some (.ref bS))
  (a0:ae "SelectorFault"=some (.ref CX))
  (a1:ae "TextTooLong"=some (.ref du))
  (a2:CX≠du)
  (qx:pg K du)
  (Kp:findIn K (.ref CX) "__init__"=some (some (.ref cF)))
  (lA:o7 K "__init__" "SelectorFault.__init__" sK ahw cF V_)
  (agr:ae "Kind"=some (.ref ay))
  (OU:jL K ay cZ)
  (Au:o7 K "__init__" "Kind.__init__" CV ahH cZ V6)
  (V3:ae "Reader"=some (.ref aJ))
  (aao:jL K aJ qD)
  (JT:o7 K "__init__" "Reader.__init__" (cS 0) ahO qD V7)
  (V4:ae "Selector"=some (.ref aT))
  (aap:jL K aT jo)
  (JV:o7 K "__init__" "Selector.__init__" (gl 0) ahN jo V8)
  (V2:ae "Document"=some (.ref b3))
  (aan:jL K b3 vk)
  (JR:o7 K "__init__" "Document.__init__" (rh 0) ahn vk V5)
  (z_:ae "Tree"=some (.ref aM))
  (ew:ae "Node"=some (.ref aO))
  (ft:ae "Sheet"=some (.ref ci))
  (mT:ae "Rule"=some (.ref cg))
  (agV:findIn K (.ref cg) "__init__"=some (some (.ref gr)))
  (JU:o7 K "__init__" "Rule.__init__" Ia aho gr Fo)
  (agW:findIn K (.ref ci) "__init__"=some (some (.ref lJ)))
  (JW:o7 K "__init__" "Sheet.__init__" (lp 0) ahn lJ Fp)
  (agU:findIn K (.ref aO) "__init__"=some (some (.ref eO)))
  (JS:o7 K "__init__" "Node.__init__" H' ahB eO Fn)
  (agX:findIn K (.ref aM) "__init__"=some (some (.ref lK)))
  (JX:o7 K "__init__" "Tree.__init__" (et 0) ahx lK Fq)
  (fN:g8 K ae CX ay aJ cF cZ)
  (dj:m9 K ae aT)
  (TT:Binds K Fn ahB []->lD K ae aM aO eO Fn)
  (pd:pf ae)
  (kZ:Binds K Fo aho []->n1 K ae ci cg gr Fo)
  (TD:Binds K Fq ahx []->Binds K Fp ahn []->xt K ae b3 aM ci lK lJ Fq Fp)
  (AL:xr ae)
  (afN:∃t,ae "MOST_BYTES"=some (.int 256 t))
  (afO:∃t,ae "FIRST_HANDED_DOWN"=some (.int 2147483648 t))
  (aaX:ae "NUMBERS_OF_CALL"=some (.ref Kq))
  (h5:yc K Kq Ck=true)
  (qn:cC K aJ "sees" "Reader.sees" (cS 1) ahp VM Ww)
  (tp:cC K aJ "takes" "Reader.takes" (cS 2) ahp VN Wz)
  (xj:cC K aJ "needs" "Reader.needs" (cS 3) ahI x' WA)
  (D':cC K aJ "sees_digit" "Reader.sees_digit" (cS 4) ahn VO WB)
  (Tc:cC K aJ "takes_digit" "Reader.takes_digit" (cS 5) ahn Fg WC)
  (Td:cC K aJ "may_grow" "Reader.may_grow" (cS 6) ahq VP WD)
  (xk:cC K aJ "read_number" "Reader.read_number" (cS 7) ahn Mp WE)
  (AB:cC K aJ "read_word" "Reader.read_word" (cS 8) ahr Fh WG)
  (AC:cC K aJ "read_tests" "Reader.read_tests" (cS 9) ahr Fi WH)
  (xi:cC K aJ "read_kind" "Reader.read_kind" (cS 10) ahr x_ MO)
  (J9:cC K aJ "read_link" "Reader.read_link" (cS 11) ahn Mn Wx)
  (J_:cC K aJ "read_chain" "Reader.read_chain" (cS 12) ahn Mo Wy)
  (JB:cX K ae "read_selector" CW ahJ Mw WQ)
  (Sb:cX K ae "holds" zN ahG VA Wq)
  (Jz:cX K ae "is_of_kind" wq ahA Mc Wr)
  (Sc:cX K ae "with_inner_kinds" zR ["kind"] VW WX)
  (JC:cX K ae "weight_of_chain" zS ["chain"] MF WY)
  (J':cC K aT "greatest_weight" "Selector.greatest_weight" (gl 1) ahn Ms WK)
  (AD:cC K aT "weights" "Selector.weights" (gl 2) ahv nj WL)
  (Ka:cC K aT "search" "Selector.search" (gl 3) ahv Mu WM)
  (Te:cC K aT "allowed" "Selector.allowed" (gl 4) ahz VT WN)
  (Kb:cC K aT "kinds_of_look" "Selector.kinds_of_look" (gl 5) ahQ Mv WO)
  (Tf:cC K aT "weight_where" "Selector.weight_where" (gl 6) ahP VU WP)
  (DU:cX K ae "selector_of" zQ ahJ Mx WR)
  (DT:cX K ae "rules_for" wt ahs mu WJ)
  (DS:cX K ae "rivals_at" zP ahC Mq WI)
  (Jx:cX K ae "ask_value" CT ahm LV Wf)
  (Jt:cX K ae "ask_matches" CP ahu LQ Wb)
  (Jw:cX K ae "ask_select" CS ahM LU We)
  (Jy:cX K ae "ask_weight" CU ahD LW Wg)
  (Jv:cX K ae "ask_rivals" CR ahm LS Wd)
  (JA:cX K ae "least_free" zO ahF VH Ws)
  (J4:cC K ci "rule" "Sheet.rule" (lp 1) aht L7 Wo)
  (J5:cC K ci "unrule" "Sheet.unrule" (lp 2) ahq L8 Wp)
  (Kc:cC K aM "add" "Tree.add" (et 1) ahE My WS)
  (Kd:cC K aM "drop" "Tree.drop" (et 2) ahq Mz WT)
  (Ke:cC K aM "mark" "Tree.mark" (et 3) ahy MA WU)
  (Tg:cC K aM "look" "Tree.look" (et 4) ahq VV WV)
  (AE:cC K aM "in_order" "Tree.in_order" (et 5) ahn MB WW)
  (J3:cC K b3 "new" "Document.new" (rh 1) ahx fO Wj)
  (Jr:cX K ae "answer_change" CN ahl LO V')
  (Ju:cX K ae "answer_question" CQ ahl LR Wc)
  (Js:cX K ae "answer_call" CO ahl LP Wa)
  (Sd:cX K ae "written" CY ["answer"] VX WZ)
  (DR:cX K ae "answers" H9 ["calls"] Vz MG):
  ∃fd:b6,(∀(s:ar) (us:List af),us.length=(["calls"]:List Str).length->BindsTo s fd ⟨us,[]⟩ ((["calls"]:List Str).zip us))/\∀base:a5,K.In base->base.Ns mainGlobals ae->aQ P w K ae base bc 17 bS fd ["calls"] (It K):=by
 have e:=DR.ae.symm.trans i0;injection e with e;injection e with e;subst e;have TT:=TT JS.2;have kZ:=kZ JU.2;have TD:=TD JX.2 JW.2;refine⟨MG,?_,λbase _ _=>?_⟩
 ·obtain⟨hP,c9,cV,doc,pm,an,bU,dP,kH,rfl,dD,lN⟩:=DR.fn.ex;exact λs us aW=>match us,aW with|[_],_=>.of_eq rfl
 ·have Aq:aQ P w K ae base (eL P w CX) 3 x' _ ahI (Dd CX aJ):=ab_ xj.fn fN qn tp lA.1 lA.2;have Ar:aQ P w K ae base (eL P w CX) 3 Mp _ ahn (De CX aJ):=aca xk.fn fN D' Tc Td lA.1 lA.2;have SE:aQ P w K ae base (eL P w CX) 4 x_ _ ahr (λvs H Q E=>true=false/\sN CX ay aJ true vs H Q E):=Mh (fd:=MO) λvs H Q E z=>by cases z.1
  have SX:aQ P w K ae base (eL P w CX) 5 Fh _ ahr (Dm CX ay aJ true):=PS (by decide) AB.fn fN qn xj Aq lA.1 lA.2 xi SE;have SS:aQ P w K ae base (eL P w CX) 6 Fi _ ahr (z0 CX ay aJ true):=PR (by decide) AC.fn fN qn tp xj Aq xk Ar AB SX;have JL:aQ P w K ae base (eL P w CX) 7 x_ _ ahr (sN CX ay aJ true):=PO (by decide) xi.fn fN qn tp D' xk Ar AC SS lA.1 lA.2 OU Au.1 Au.2;have SF:aQ P w K ae base (eL P w CX) 7 x_ _ ahr (λvs H Q E=>false=false/\sN CX ay aJ true vs H Q E):=⟨λvs H Q E z=>JL.1 vs H Q E z.2,λA outer s H a b vs Q E c d e f z=>JL.2 A outer s H a b vs Q E c d e f z.2⟩;have SY:aQ P w K ae base (eL P w CX) 8 Fh _ ahr (Dm CX ay aJ false):=PS (by decide) AB.fn fN qn xj Aq lA.1 lA.2 xi SF;have SU:aQ P w K ae base (eL P w CX) 9 Fi _ ahr (z0 CX ay aJ false):=PR (by decide) AC.fn fN qn tp xj Aq xk Ar AB SY;have SG:aQ P w K ae base (eL P w CX) 10 x_ _ ahr (sN CX ay aJ false):=PO (by decide) xi.fn fN qn tp D' xk Ar AC SU lA.1 lA.2 OU Au.1 Au.2;have SI:aQ P w K ae base bc 3 Mn _ ahn (Db aJ):=ab7 J9.fn fN qn tp;have Sw:aQ P w K ae base (eL P w CX) 11 Mo _ ahn (Iy CX ay aJ):=ab0 (by decide) J_.fn fN xi SG J9 SI;have SR:aQ P w K ae base (eL P w CX) 12 Mw _ ahJ (IM CX ay):=acg (by decide) JB.fn fN V3 qn tp J_ Sw aao JT.1 JT.2 lA.1 lA.2;have SA:aQ P w K ae base bc 4 Mc _ ahA (sM ay false):=ab5 fN Sb Jz;have S0:aQ P w K ae base bc 2 MF _ ["chain"] (IP ay):=acm fN JC Sc;have Sl:aQ P w K ae base bc 3 jo _ ahN (IJ P w aT ay):=abM dj fN JV.1 JC S0;have Sz:aQ P w K ae base bc 1 Ms _ ahn (IB P w aT ay):=ab3 dj J'.fn;have SH:aQ P w K ae base bc 5 Mv _ ahQ (ID P w aT ay):=ab6 dj Kb.fn Jz SA;have SQ:aQ P w K ae base bc 6 Mu _ ahv (IK P w aT ay):=acf dj Ka.fn Te Kb Tf SH;have D6:aQ P w K ae base bc 7 nj _ ahv (wy P w aT ay):=ack dj AD.fn Ka SQ;have JP:aQ P w K ae base (Al P w du CX) 13 Mx _ ahJ (Dk P w CX du aT ay):=ach (by decide) fN DU JB qx a1 afN V4 aap JV.2 Sl SR;have JI:aQ P w K ae base bc 1 eO _ ahB (Dc aO):=abJ TT JS.1;have JK:aQ P w K ae base bc 3 lK _ ahx (Dl aM aO):=abO TT JX.1 JI;have Sn:aQ P w K ae base bc 3 My _ ahE (Ir aM aO):=abR TT pd.len Kc.fn JA JI;have Sy:aQ P w K ae base bc 1 Mz _ ahq (IA aM aO):=ab1 TT pd.len Kd.fn;have SK:aQ P w K ae base bc 1 MA _ ahy (IF aM aO):=ab9 TT pd.len Ke.fn;have D4:aQ P w K ae base bc 2 MB _ ahn (zZ aM aO):=ab4 TT pd AE.fn Tg;have Sk:aQ P w K ae base bc 1 gr _ aho (IH cg):=abL kZ JU.1;have JJ:aQ P w K ae base bc 1 lJ _ ahn (Dj ci):=abN kZ JW.1;have SP:aQ P w K ae base bc 14 L7 _ aht (II ⟨P,w,aT,ay,cg,ci⟩):=ace (by decide) kZ fN qx a1 a2 J4.fn JA DU JP Sk;have SW:aQ P w K ae base bc 1 L8 _ ahq (IN ⟨P,w,aT,ay,cg,ci⟩):=acj (e:=⟨P,w,aT,ay,cg,ci⟩) kZ J5.fn;have JO:aQ P w K ae base bc 8 mu _ ahs (Dh ⟨P,w,aT,ay,cg,ci⟩ aM aO):=acd (e:=⟨P,w,aT,ay,cg,ci⟩) TT kZ dj DT AE D4 AD D6;have JN:aQ P w K ae base bc 1 Mq _ ahC (Df cg):=acb kZ pd DS;have Su:aQ P w K ae base bc 9 LV _ ahm (Iw ⟨P,w,aT,ay,cg,ci⟩ aM aO):=abY (e:=⟨P,w,aT,ay,cg,ci⟩) TT kZ pd afO Jx DT JO DS JN;have Sp:aQ P w K ae base bc 8 LQ _ ahu (Is ⟨P,w,aT,ay,cg,ci⟩ aM aO):=abT (e:=⟨P,w,aT,ay,cg,ci⟩) TT kZ dj Jt AE D4 AD D6;have Sv:aQ P w K ae base bc 2 LW _ ahD (Ix ⟨P,w,aT,ay,cg,ci⟩):=abZ (e:=⟨P,w,aT,ay,cg,ci⟩) kZ dj pd Jy J' Sz;have Sr:aQ P w K ae base bc 9 LS _ ahm (Iu ⟨P,w,aT,ay,cg,ci⟩ aM aO):=abW (e:=⟨P,w,aT,ay,cg,ci⟩) TT pd Jv DT JO DS JN;have Ss:aQ P w K ae base bc 14 LU _ ahM (Iv aM aO):=abX (by decide) TT dj pd fN qx a1 a2 Jw DU JP AE D4 AD D6;have Sh:aQ P w K ae base bc 5 vk _ ahn (Iz ⟨P,w,aT,ay,cg,ci⟩ aM aO b3):=abH (e:=⟨P,w,aT,ay,cg,ci⟩) TD JR.1 JK JJ;have SN:aQ P w K ae base bc 5 fO _ ahx (IG ⟨P,w,aT,ay,cg,ci⟩ aM aO b3):=ab' (e:=⟨P,w,aT,ay,cg,ci⟩) TD J3.fn JK JJ;have Sm:aQ P w K ae base bc 15 LO _ ahl (rk ⟨P,w,aT,ay,cg,ci⟩ aM aO b3 λn=>n<=6):=abP (e:=⟨P,w,aT,ay,cg,ci⟩) TD AL TT kZ Jr J3 (SN.mono (by decide)) Kc (Sn.mono (by decide)) Kd (Sy.mono (by decide)) Ke (SK.mono (by decide)) J4 SP J5 (SW.mono (by decide));have Sq:aQ P w K ae base bc 15 LR _ ahl (rk ⟨P,w,aT,ay,cg,ci⟩ aM aO b3 λn=>7<=n):=abV (e:=⟨P,w,aT,ay,cg,ci⟩) TD AL Ju Jx (Su.mono (by decide)) Jt (Sp.mono (by decide)) Jw Ss Jy (Sv.mono (by decide)) Jv (Sr.mono (by decide));have So:aQ P w K ae base bc 16 LP _ ahl (rk ⟨P,w,aT,ay,cg,ci⟩ aM aO b3 λ_=>True):=abQ (e:=⟨P,w,aT,ay,cg,ci⟩) AL Js Jr Sm Ju Sq;exact abU (e:=⟨P,w,aT,ay,cg,ci⟩) (by decide) AL pd DR V2 aan JR.2 Sh aaX h5 Js So Sd
end bf
end
open PySem PySem.W PyProof.Rows
namespace PySem.W.Fast
def tw5749993203526847641:=0
def tw5154819338756218986:=0
def tw485251390085228828:=0
def tw14496830809073605396:=0
def tw5447552221509694576:=0
def tw15283835914390368413:=0
def tw12468532765907339857:=0
def tw5592479384261269564:=0
def tw14998717995530617356:=0
def tw2131239834404260324:=0
def tw4255328083039421370:=0
def tw4040448317618679942:=0
def tw3394993904618243642:=0
def tw9056988631759539817:=0
def tw1072077324372285395:=0
def tw1505093832851504094:=0
def tw18286584516430471931:=0
def tw783394948467580971:=0
def tw13963435955361759758:=0
def tw9834467702177879430:=0
def tw5055893311787539790:=0
def tw15066047215262938915:=0
def tw3838676977648086431:=0
def tw1457048023775313278:=0
def tw942296882136812644:=0
def tw10129297552920790156:=0
def tw13885767489902912143:=0
def tw11965869102344695387:=0
def tw1416910879513015956:=0
def tw11394289930104472976:=0
def tw7102466139457201146:=0
def tw18186081250966954550:=0
def tw16141696455162815982:=0
def tw16592334577877561368:=0
def tw10601104421797246419:=0
def tw5083281520542418122:=0
def tw16501702536427999564:=0
def tw4540615136493658449:=0
def tw3841288006862893748:=0
def tw10798748347616898072:=0
def tw233714904921975891:=0
def tw10349795174116608056:=0
def tw1235916478924383538:=0
def tw3285292322127398771:=0
def tw376072048522973192:=0
def tw372642055434707719:=0
def tw1187664467613059812:=0
def tw4084348017915190726:=0
def tw4135823270724130701:=0
def tw13936102496863804203:=0
def tw11525594713776728588:=0
def tw2133570252502546069:=0
def tw18411481808727023820:=0
def tw2322965763498088422:=0
def tw1728188467947030514:=0
def tw13297297963572790133:=0
def tw14315863653396755586:=0
def tw10145237625472355672:=0
def tw1721517428341881456:=0
def tw10489248769353853209:=0
def tw4862890964180146246:=0
def tw10676673878325276287:=0
def tw4308105952811906838:=0
def tw7411759930708817764:=0
def tw15331889225994899957:=0
def tw13622216860587076538:=0
def tw8653433406386283979:=0
def tw8857637262217457193:=0
def tw6635194026157817545:=0
def tw8146615243648196525:=0
def tw5943548775585497765:=0
def tw7638372748018096074:=0
def tw14865801479530414525:=0
def tw15809588612562965450:=0
def tw1794222480021101719:=0
def tw4641404694859251075:=0
def tw11877301711945106373:=0
def tw10823171994412404662:=0
def tw14095939498692360348:=0
def tw3521658015538016246:=0
def tw10644881189024327388:=0
def tw8290935022006108597:=0
def tw5075513730209357606:=0
def tw12932857686530421351:=0
def tw15209819990450132184:=0
def tw10436114118952493969:=0
def tw13173396934381978960:=0
def tw9253434433507553037:=0
def tw15924840876034280202:=0
def tw14220492494901078271:=0
def tw6657957078118269313:=0
def tw17040537956155221243:=0
def tw17336215939279859481:=0
def tw7900633625782365777:=0
def tw15475894592042160153:=0
def tw6059534423365511122:=0
def tw14023911607696404938:=0
def tw7370869888365853377:=0
end PySem.W.Fast
set_option maxRecDepth 100000 in
set_option maxHeartbeats 0 in
theorem PySem.Challenge.cw_treestylesdesk_s01_answers_holds : PySem.Challenge.rw_treestylesdesk_s01_answers.Holds := by
 w_on;k_headS;(case hw=>exact⟨[.list [.int 1,.int 0]],by decide+kernel,by decide+kernel⟩)
 k_fillS
 refine aB.afV (r:=PySem.Challenge.rw_treestylesdesk_s01_answers) (k:=17) (CX:=aB.bc) (ps:=["calls"]) (sp:=bf.It) (by decide+kernel) rfl rfl ⟨rfl,by decide,by decide⟩ (λw h Y=>PySem.W.kIn_of Y) ?F ?S (λ_ _ _ _ z=>z)
 case F=>
  intro w ae bS h Y bZ G F3
  exact bf.all_mk F3 (bf.Mg bZ G) (bf.Mg bZ G) (by decide) ⟨by kernel_rfl,by k_is⟩ (by k_is) (bf.mr λ_ _ _ _ _ _ _ _=>rfl) (bf.Mg bZ G) ⟨by k_is,by k_is,by k_is,by k_is⟩ (bf.mr λ_ _ _ _ _ _ _ _ _=>rfl) (bf.Mg bZ G) ⟨by k_is,by k_is,by k_is,by k_is⟩ (bf.mr λ_ _ _ _ _ _ _ _=>rfl) (bf.Mg bZ G) ⟨by k_is,by k_is,by k_is,by k_is⟩ (bf.mr λ_ _ _ _ _ _ _ _=>rfl) (bf.Mg bZ G) ⟨by k_is,by k_is,by k_is,by k_is⟩ (bf.mr λ_ _ _ _ _ _ _=>rfl) (bf.Mg bZ G) (bf.Mg bZ G) (bf.Mg bZ G) (bf.Mg bZ G) (by k_is) (bf.mr λ_ _ _ _ _ _ _ _ _ _ _=>rfl) (by k_is) (bf.mr λ_ _ _ _ _ _ _=>rfl) (by k_is) (bf.mr λ_ _ _ _ _ _ _ _ _=>rfl) (by k_is) (bf.mr λ_ _ _ _ _ _ _ _=>rfl) ⟨⟨by kernel_rfl,by k_is,by k_is,bf.Z9⟩,bf.Mg bZ G,bf.Mg bZ G,⟨by k_is,by k_is,by k_is,by k_is⟩,bf.na,bf.na,⟨by k_is,by k_is,by k_is,by k_is⟩,bf.na,bf.na,mg_none_of bZ G (by k_is),mg_none_of bZ G (by k_is),⟨_,bf.Mg bZ G⟩,⟨_,bf.Mg bZ G,λ_=>bf.RH (ss:=["first","last","empty"]) (by kernel_rfl)⟩,⟨_,bf.Mg bZ G,λ_=>bf.RH (ss:=[" ",">","+","~"]) (by kernel_rfl)⟩⟩ ⟨⟨by k_is,by k_is,by k_is,by k_is⟩,bf.na,bf.na,bf.na,bf.na,bf.na,bf.na,mg_none_of bZ G (by k_is),mg_none_of bZ G (by k_is)⟩ (λb=>⟨⟨by k_is,by k_is,by k_is,by k_is⟩,⟨by k_is,by k_is,by k_is,by k_is⟩,bf.na,bf.na,bf.na,bf.na,bf.na,bf.Mg bZ G,⟨by k_is,by k_is,by k_is,by k_is⟩,b,⟨_,bf.Mg bZ G⟩,⟨_,bf.Mg bZ G⟩,⟨_,bf.Mg bZ G⟩⟩) ⟨mg_none_of bZ G (by k_is),mg_none_of bZ G (by k_is),mg_none_of bZ G (by k_is),mg_none_of bZ G (by k_is),mg_none_of bZ G (by k_is),mg_none_of bZ G (by k_is),mg_none_of bZ G (by k_is)⟩ (λb=>⟨⟨by k_is,by k_is,by k_is,by k_is⟩,⟨by k_is,by k_is,by k_is,by k_is⟩,bf.na,bf.na,bf.na,bf.na,bf.na,bf.Mg bZ G,⟨by k_is,by k_is,by k_is,by k_is⟩,b,⟨_,bf.Mg bZ G⟩⟩) (λb d=>⟨⟨by k_is,by k_is,by k_is,by k_is⟩,bf.na,bf.na,bf.Mg bZ G,⟨by k_is,by k_is,by k_is,by k_is⟩,b,bf.Mg bZ G,⟨by k_is,by k_is,by k_is,by k_is⟩,d⟩) ⟨⟨_,bf.Mg bZ G⟩,⟨_,bf.Mg bZ G⟩,⟨_,bf.Mg bZ G⟩,⟨_,bf.Mg bZ G⟩,⟨_,bf.Mg bZ G⟩,⟨_,bf.Mg bZ G⟩,⟨_,bf.Mg bZ G⟩,⟨_,bf.Mg bZ G⟩,⟨_,bf.Mg bZ G⟩,⟨_,bf.Mg bZ G⟩⟩ ⟨_,bf.Mg bZ G⟩ ⟨_,bf.Mg bZ G⟩ (bf.Mg bZ G) (by kernel_rfl) (bf.gV λ_ _ _ _ _ _ _ _=>rfl) (bf.gV λ_ _ _ _ _ _ _ _=>rfl) (bf.gV λ_ _ _ _ _ _ _ _=>rfl) (bf.gV λ_ _ _ _ _ _ _=>rfl) (bf.gV λ_ _ _ _ _ _ _=>rfl) (bf.gV λ_ _ _ _ _ _ _ _=>rfl) (bf.gV λ_ _ _ _ _ _ _=>rfl) (bf.gV λ_ _ _ _ _ _ _ _=>rfl) (bf.gV λ_ _ _ _ _ _ _ _=>rfl) (bf.gV λ_ _ _ _ _ _ _ _=>rfl) (bf.gV λ_ _ _ _ _ _ _=>rfl) (bf.gV λ_ _ _ _ _ _ _=>rfl) (bf.jn bZ G λ_ _ _ _ _ _ _=>rfl) (bf.jn bZ G λ_ _ _ _ _ _ _ _=>rfl) (bf.jn bZ G λ_ _ _ _ _ _ _ _=>rfl) (bf.jn bZ G λ_ _ _ _ _ _ _=>rfl) (bf.jn bZ G λ_ _ _ _ _ _ _=>rfl) (bf.gV λ_ _ _ _ _ _ _=>rfl) (bf.gV λ_ _ _ _ _ _ _ _=>rfl) (bf.gV λ_ _ _ _ _ _ _ _=>rfl) (bf.gV λ_ _ _ _ _ _ _ _ _ _ _=>rfl) (bf.gV λ_ _ _ _ _ _ _ _=>rfl) (bf.gV λ_ _ _ _ _ _ _ _=>rfl) (bf.jn bZ G λ_ _ _ _ _ _ _=>rfl) (bf.jn bZ G λ_ _ _ _ _ _ _ _ _=>rfl) (bf.jn bZ G λ_ _ _ _ _ _ _ _=>rfl) (bf.jn bZ G λ_ _ _ _ _ _ _ _ _ _=>rfl) (bf.jn bZ G λ_ _ _ _ _ _ _ _ _ _=>rfl) (bf.jn bZ G λ_ _ _ _ _ _ _ _=>rfl) (bf.jn bZ G λ_ _ _ _ _ _ _ _=>rfl) (bf.jn bZ G λ_ _ _ _ _ _ _ _ _ _=>rfl) (bf.jn bZ G λ_ _ _ _ _ _ _ _=>rfl) (bf.gV λ_ _ _ _ _ _ _ _ _ _ _=>rfl) (bf.gV λ_ _ _ _ _ _ _ _=>rfl) (bf.gV λ_ _ _ _ _ _ _ _ _=>rfl) (bf.gV λ_ _ _ _ _ _ _ _=>rfl) (bf.gV λ_ _ _ _ _ _ _ _ _ _=>rfl) (bf.gV λ_ _ _ _ _ _ _ _=>rfl) (bf.gV λ_ _ _ _ _ _ _=>rfl) (bf.gV λ_ _ _ _ _ _ _ _=>rfl) (bf.jn bZ G λ_ _ _ _ _ _ _ _ _ _=>rfl) (bf.jn bZ G λ_ _ _ _ _ _ _ _ _ _=>rfl) (bf.jn bZ G λ_ _ _ _ _ _ _ _ _ _=>rfl) (bf.jn bZ G λ_ _ _ _ _ _ _=>rfl) (bf.jn bZ G λ_ _ _ _ _ _ _=>rfl)
 case S=>
  intro K H xs a d_ Gm FG ao
  cases ao with
  |cons aa ac=>
   cases ac
   cases aa with
   |lst aD al=>
    have e:=aB.Ol a.1 _ al
    subst e
    exact⟨_,a.1,rfl,aD,FG,λab p am=>.lst (aB.bA.of am) (aB.Lm _)⟩
