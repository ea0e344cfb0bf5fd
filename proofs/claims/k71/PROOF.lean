import PyProof.Rows.All
import Wide.All
import OpenK.AllK
import Wide.FinOn
import Lean
import PyProof.EqAt
import PyProof.EqKinds
import PyProof.TupleCall
import PyProof.Draws
import PyProof.WalksMore
import PyProof.EnumMake
import PyProof.ReprRoads
import PyProof.Rows.SortWalk
import PyProof.Rows.SumAny
import PyProof.FitsBits
import KE.KSortTup
import PyProof.LongRange
import KE.KDictOf
import PyProof.DictItems
import PyProof.AttrMissHeap
import KE.KDictList
import PyProof.Rows.TupDisplay
import PySem.Challenge.RW_platecuts_k71_whole_greatest_bundles
set_option maxRecDepth 100000
set_option maxHeartbeats 0
local macro_rules|`(def $i $s:optDeclSig $v:declVal)=>`(noncomputable def $i $s:optDeclSig $v:declVal)
local macro_rules|`(abbrev $i $s:optDeclSig $v:declVal)=>`(noncomputable abbrev $i $s:optDeclSig $v:declVal)
local macro_rules|`(∅)=>`(by decide +kernel)
local macro_rules|`(⋯)=>`(by lia)
local macro_rules|`(↑$x)=>`(some (.ref $x))
local macro_rules|`(⇑$x)=>`(some (.int $x))
local macro_rules|`(↥$x)=>`(some (.lst $x))
local macro_rules|`(~~~$x)=>`(some (.tup $x))
local macro_rules|`(%[$xs,*|$y])=>if y.raw.getId.hasMacroScopes then Lean.Macro.throwUnsupported else `(⟨$(xs.getElems.push y),*⟩)
local macro_rules|`(tactic|apply $t)=>`(tactic|refine $t)
section
open PySem PySem.W PySem.Spec PyProof PyProof.Rows
abbrev IN:=@Shared
abbrev IP:=@Program
abbrev IQ:=@FuncData
abbrev IR:=@World
abbrev IS:=@Value
abbrev A0:=@wpAny_bind
abbrev A3:=@wpAny_pure
abbrev A4:=@wpS_bind
abbrev A5:=@wpS_pure
abbrev A6:=@List.mem_append_right
theorem A7:type_of% @List.getElem?_eq_some_iff:=@List.getElem?_eq_some_iff
abbrev A8:=@Heap.get?_push_of_some
abbrev A9:=@Heap.get?_push_size
abbrev B0:=@Heap.lt_size
abbrev B1:=@decide_eq_true
abbrev B2:=@decide_eq_false
theorem B3:type_of% @Bool.false_ne_true:=@Bool.false_ne_true
theorem B4:type_of% @Nat.le_refl:=@Nat.le_refl
theorem B5:type_of% @List.length_map:=@List.length_map
theorem B6:type_of% @List.mem_cons_of_mem:=@List.mem_cons_of_mem
theorem B7:type_of% @List.mem_of_getElem?:=@List.mem_of_getElem?
theorem B8:type_of% @List.mem_append_left:=@List.mem_append_left
theorem B9:type_of% @List.mem_cons_self:=@List.mem_cons_self
abbrev C0:=@Option.some.inj
theorem C1:type_of% @Nat.ne_of_lt:=@Nat.ne_of_lt
abbrev C2:=@of_decide_eq_true
theorem C3:type_of% @Nat.lt_of_lt_of_le:=@Nat.lt_of_lt_of_le
theorem C4:type_of% @List.mem_append:=@List.mem_append
abbrev C5:=@beq_iff_eq
abbrev C6:=@PySem.W.Frag
theorem C7:type_of% @Nat.le_trans:=@Nat.le_trans
abbrev C8:=@Nat.lt_of_le_of_lt
theorem C9:type_of% @Nat.le_of_lt:=@Nat.le_of_lt
abbrev E1:=@Bool.and_eq_true_iff
theorem E2:type_of% @Nat.lt_irrefl:=@Nat.lt_irrefl
abbrev E3:=@List.Perm.trans
theorem E4:type_of% @List.mem_singleton:=@List.mem_singleton
abbrev E5:=@Paired.length
abbrev E6:=@PassesOwn.never
theorem E7:type_of% @Int.le_refl:=@Int.le_refl
abbrev E8:=@PySem.W.fnOf
abbrev E9:=@False.elim
abbrev G0:=@Nat.zero_le
theorem G1:type_of% @Nat.lt_succ_self:=@Nat.lt_succ_self
theorem G2:type_of% @List.getElem?_eq_getElem:=@List.getElem?_eq_getElem
abbrev G4:=@wpAny_truthy_bool
abbrev G9:=@wpAny_call_entry
abbrev IL:=@wpAny_newObj_type
abbrev IM:=@PySem.F.plainAttrs_list
theorem IY:type_of% @List.getElem?_map:=@List.getElem?_map
theorem IZ:type_of% @List.mem_cons:=@List.mem_cons
theorem JA:type_of% @List.map_cons:=@List.map_cons
theorem JB:type_of% @Array.getElem?_toList:=@Array.getElem?_toList
theorem JC:type_of% @List.append_assoc:=@List.append_assoc
theorem JD:type_of% @List.length_append:=@List.length_append
theorem JE:type_of% @List.map_append:=@List.map_append
theorem JF:type_of% @List.length_cons:=@List.length_cons
theorem JG:type_of% @List.pairwise_append:=@List.pairwise_append
theorem JH:type_of% @List.mem_map:=@List.mem_map
theorem JI:type_of% @Option.map_eq_some_iff:=@Option.map_eq_some_iff
theorem JJ:type_of% @List.length_take:=@List.length_take
theorem JK:type_of% @List.take_of_length_le:=@List.take_of_length_le
theorem JL:type_of% @List.size_toArray:=@List.size_toArray
theorem JM:type_of% @List.take_add_one:=@List.take_add_one
theorem JN:type_of% @Array.getElem?_eq_getElem:=@Array.getElem?_eq_getElem
theorem JO:type_of% @Array.toList_append:=@Array.toList_append
theorem JP:type_of% @List.lookup_cons:=@List.lookup_cons
theorem JQ:type_of% @List.not_mem_nil:=@List.not_mem_nil
theorem JR:type_of% @Array.length_toList:=@Array.length_toList
theorem JS:type_of% @Option.toList_some:=@Option.toList_some
theorem JT:type_of% @List.length_replicate:=@List.length_replicate
theorem JU:type_of% @Array.getElem?_eq_none:=@Array.getElem?_eq_none
theorem JV:type_of% @List.getElem?_append_right:=@List.getElem?_append_right
theorem JW:type_of% @Nat.ne_of_gt:=@Nat.ne_of_gt
theorem JX:type_of% @List.append_nil:=@List.append_nil
theorem JY:type_of% @Array.perm_iff_toList_perm:=@Array.perm_iff_toList_perm
theorem JZ:type_of% @List.mem_iff_getElem?:=@List.mem_iff_getElem?
theorem Ja:type_of% @Int.toNat_natCast:=@Int.toNat_natCast
theorem Jb:type_of% @List.take_length:=@List.take_length
theorem Jc:type_of% @List.map_map:=@List.map_map
theorem Jd:type_of% @Array.toList_push:=@Array.toList_push
theorem Je:type_of% @List.mem_flatMap:=@List.mem_flatMap
theorem Jf:type_of% @Nat.lt_succ_of_lt:=@Nat.lt_succ_of_lt
theorem Jg:type_of% @Bool.false_eq_true:=@Bool.false_eq_true
theorem Jh:type_of% @Nat.add_le_add_left:=@Nat.add_le_add_left
theorem Ji:type_of% @Bool.and_eq_true:=@Bool.and_eq_true
theorem Jj:type_of% @List.map_nil:=@List.map_nil
theorem Jk:type_of% @List.getD_eq_getElem?_getD:=@List.getD_eq_getElem?_getD
theorem Jl:type_of% @List.getElem?_of_mem:=@List.getElem?_of_mem
theorem Jm:type_of% @List.drop_of_length_le:=@List.drop_of_length_le
theorem Jn:type_of% @List.getElem?_append_left:=@List.getElem?_append_left
theorem Jo:type_of% @List.drop_eq_getElem_cons:=@List.drop_eq_getElem_cons
theorem Jp:type_of% @List.pairwise_iff_getElem:=@List.pairwise_iff_getElem
theorem Jq:type_of% @List.mem_map_of_mem:=@List.mem_map_of_mem
theorem Jr:type_of% @List.flatMap_cons:=@List.flatMap_cons
theorem Js:type_of% @List.any_eq_true:=@List.any_eq_true
theorem Jt:type_of% @List.mem_range:=@List.mem_range
theorem Ju:type_of% @Array.getElem?_extract:=@Array.getElem?_extract
theorem Jv:type_of% @List.replicate_succ:=@List.replicate_succ
theorem Jw:type_of% @List.getElem?_eq_none:=@List.getElem?_eq_none
theorem Jx:type_of% @List.Perm.append_left:=@List.Perm.append_left
theorem Jy:type_of% @List.length_drop:=@List.length_drop
theorem Jz:type_of% @Array.toList_reverse:=@Array.toList_reverse
theorem J0:type_of% @List.mem_filter:=@List.mem_filter
theorem J9:type_of% @List.nodup_cons:=@List.nodup_cons
theorem KA:type_of% @List.getElem_of_mem:=@List.getElem_of_mem
theorem KB:type_of% @List.flatMap_append:=@List.flatMap_append
theorem KC:type_of% @List.Perm.append_right:=@List.Perm.append_right
theorem KD:type_of% @List.getElem_inj:=@List.getElem_inj
theorem KF:type_of% @List.getElem_map:=@List.getElem_map
theorem KG:type_of% @List.flatMap_nil:=@List.flatMap_nil
theorem KH:type_of% @Nat.mul_le_mul:=@Nat.mul_le_mul
theorem KI:type_of% @List.perm_append_comm:=@List.perm_append_comm
theorem KJ:type_of% @List.getElem?_zip_eq_some:=@List.getElem?_zip_eq_some
theorem KM:type_of% @List.extract_eq_take_drop:=@List.extract_eq_take_drop
theorem KN:type_of% @List.length_nil:=@List.length_nil
theorem KO:type_of% @Option.map_some:=@Option.map_some
theorem KP:type_of% @List.getElem?_set_ne:=@List.getElem?_set_ne
theorem KQ:type_of% @List.mem_of_mem_take:=@List.mem_of_mem_take
theorem KR:type_of% @List.length_range:=@List.length_range
theorem KS:type_of% @List.all_eq_true:=@List.all_eq_true
theorem KU:type_of% @List.getElem_mem:=@List.getElem_mem
theorem KW:type_of% @List.getElem?_set_self:=@List.getElem?_set_self
theorem KY:type_of% @List.zip_cons_cons:=@List.zip_cons_cons
theorem KZ:type_of% @List.mem_replicate:=@List.mem_replicate
theorem Ka:type_of% @Bool.eq_iff_iff:=@Bool.eq_iff_iff
theorem Kb:type_of% @List.of_mem_zip:=@List.of_mem_zip
theorem Kc:type_of% @List.find?_cons:=@List.find?_cons
theorem Ke:type_of% @List.sum_append:=@List.sum_append
theorem Kf:type_of% @List.sum_cons:=@List.sum_cons
theorem Kg:type_of% @List.length_filter_le:=@List.length_filter_le
theorem Kh:type_of% @List.flatten_cons:=@List.flatten_cons
theorem Ki:type_of% @Nat.lt_trans:=@Nat.lt_trans
theorem Kj:type_of% @Nat.lt_or_ge:=@Nat.lt_or_ge
theorem Kk:type_of% @Nat.le_succ:=@Nat.le_succ
theorem Kl:type_of% @Nat.zero_add:=@Nat.zero_add
theorem Km:type_of% @Int.zero_add:=@Int.zero_add
abbrev Ko:=@Addr
abbrev Kp:=@Keyed
abbrev Kq:=@Option
abbrev Kr:=@Array
abbrev Ks:=@List
abbrev Kt:=@mainGlobals
theorem Ky:type_of% @if_neg:=@if_neg
theorem Kz:type_of% @if_pos:=@if_pos
theorem K0:type_of% @beq_iff_eq:=@beq_iff_eq
theorem K1:type_of% @decide_eq_true:=@decide_eq_true
theorem K2:type_of% @PySem.wpAny_holding:=@PySem.wpAny_holding
theorem K3:type_of% @PySem.Heap.size_push:=@PySem.Heap.size_push
theorem K4:type_of% @PySem.Heap.SameBut.update:=@PySem.Heap.SameBut.update
theorem K5:type_of% @decide_eq_false:=@decide_eq_false
theorem K6:type_of% @PySem.wpAny_mono:=@PySem.wpAny_mono
theorem K7:type_of% @PyProof.Rows.boot_isinstance:=@PyProof.Rows.boot_isinstance
theorem K8:type_of% @PyProof.Rows.boot_tuple:=@PyProof.Rows.boot_tuple
theorem K9:type_of% @PySem.wpAny_typeNameOfWhole_itemiter:=@PySem.wpAny_typeNameOfWhole_itemiter
theorem LA:type_of% @PySem.F.slot_dict_itemiterator_next:=@PySem.F.slot_dict_itemiterator_next
theorem LB:type_of% @PySem.wpAny_typeNameOf_itemiter:=@PySem.wpAny_typeNameOf_itemiter
theorem LC:type_of% @PyProof.Rows.wpS_forRange:=@PyProof.Rows.wpS_forRange
theorem LD:type_of% @PySem.wpAny_setField_rec:=@PySem.wpAny_setField_rec
theorem LF:type_of% @PySem.Heap.get?_update_self:=@PySem.Heap.get?_update_self
theorem LG:type_of% @PySem.wpAny_dictEntries:=@PySem.wpAny_dictEntries
theorem LH:type_of% @PySem.wpAny_field:=@PySem.wpAny_field
theorem LI:type_of% @PySem.boot_len:=@PySem.boot_len
theorem LJ:type_of% @beq_eq_false_iff_ne:=@beq_eq_false_iff_ne
theorem LK:type_of% @PyProof.Rows.callWith_type1:=@PyProof.Rows.callWith_type1
theorem LL:type_of% @PySem.Around.under_plainId:=@PySem.Around.under_plainId
theorem LM:type_of% @PySem.wpAny_standAt:=@PySem.wpAny_standAt
theorem LN:type_of% @PyProof.Rows.KeyOrd.kle_refl:=@PyProof.Rows.KeyOrd.kle_refl
theorem LO:type_of% @or_false:=@or_false
theorem LP:type_of% @PySem.wpAny_comprehension_free:=@PySem.wpAny_comprehension_free
theorem LQ:type_of% @PySem.F.slot_list_append:=@PySem.F.slot_list_append
theorem LR:type_of% @PySem.F.type_list_append:=@PySem.F.type_list_append
theorem LS:type_of% @PySem.wpAny_rule:=@PySem.wpAny_rule
theorem LU:type_of% @if_false:=@if_false
theorem LV:type_of% @decide_eq_true_eq:=@decide_eq_true_eq
theorem LW:type_of% @PySem.wpAny_isOneOf_itemiter:=@PySem.wpAny_isOneOf_itemiter
theorem LX:type_of% @PyProof.Rows.KeyOrd.kle_of_klt:=@PyProof.Rows.KeyOrd.kle_of_klt
theorem LY:type_of% @PySem.F.args_dict_itemiterator_next_1:=@PySem.F.args_dict_itemiterator_next_1
theorem LZ:type_of% @PyProof.Rows.boot_min:=@PyProof.Rows.boot_min
theorem La:type_of% @PySem.F.entry_dict_itemiterator_next:=@PySem.F.entry_dict_itemiterator_next
theorem Lb:type_of% @PySem.wpAny_attempt:=@PySem.wpAny_attempt
theorem Lc:type_of% @PySem.wpAny_typeNameOfWhole_keyiter:=@PySem.wpAny_typeNameOfWhole_keyiter
theorem Ld:type_of% @PySem.F.plainAttrs_dict:=@PySem.F.plainAttrs_dict
theorem Le:type_of% @PySem.wpAny_loadPart':=@PySem.wpAny_loadPart'
theorem Lf:type_of% @PySem.wpAny_dictEpoch:=@PySem.wpAny_dictEpoch
theorem Lg:type_of% @PySem.F.slot_dict_keyiterator_next:=@PySem.F.slot_dict_keyiterator_next
theorem Lh:type_of% @PySem.codeAny_builtin:=@PySem.codeAny_builtin
theorem Li:type_of% @congrArg:=@congrArg
theorem Lj:type_of% @PyProof.Rows.boot_list:=@PyProof.Rows.boot_list
theorem Lk:type_of% @PySem.wpAny_pyIter_tuple:=@PySem.wpAny_pyIter_tuple
theorem Ll:type_of% @PyProof.Rows.wpS_mono:=@PyProof.Rows.wpS_mono
theorem Lm:type_of% @if_true:=@if_true
theorem Ln:type_of% @PySem.wpAny_notOrdered_dict:=@PySem.wpAny_notOrdered_dict
theorem Lo:type_of% @PySem.Heap.get?_none_of_le:=@PySem.Heap.get?_none_of_le
theorem Lp:type_of% @PySem.wpAny_pyIter_list:=@PySem.wpAny_pyIter_list
theorem Lq:type_of% @PySem.Obj.data_mapDictKeys:=@PySem.Obj.data_mapDictKeys
theorem Lr:type_of% @PyProof.Rows.wpS_modify:=@PyProof.Rows.wpS_modify
theorem Ls:type_of% @PyProof.Rows.boot_sorted:=@PyProof.Rows.boot_sorted
theorem Lu:type_of% @PySem.mem_of_lookup:=@PySem.mem_of_lookup
end
theorem zS1:1<=PySem.sizeLine:=∅
theorem zS2:2<=PySem.sizeLine:=∅
theorem zS4:4<=PySem.sizeLine:=∅
theorem zS5:5<=PySem.sizeLine:=∅
theorem zS3:3<=PySem.sizeLine:=∅
theorem zS6:6<=PySem.sizeLine:=∅
theorem zS0:0<=PySem.sizeLine:=∅
theorem Y{α:Sort _}{a:α}:a=a:=rfl
set_option Elab.async false
set_option linter.all false
namespace L2
open PySem PySem.Spec PyProof.Rows
abbrev Key:=Sum Int Str
def jF:Key->IS->Bool
 | .inl k,v=>Value.isInt k v
 | .inr x,v=>Value.isStrOf x v
def FP (w:IR):Key->Int
 | .inl k=>hashInt k
 | .inr x=>hashStr w x
theorem bh:∀ {k:Key} {v:IS},jF k v=true->(∃i t,k=Sum.inl i/\v=Value.int i t)\/(∃x t,k=Sum.inr x/\v=Value.str x t)
 | .inl i,v,h=>by obtain⟨t,e⟩:=Value.isInt_shape (k:=i) (v:=v) h;exact .inl %[i,t,Y|e]
 | .inr x,v,h=>by obtain⟨t,e⟩:=Value.isStrOf_shape (x:=x) (v:=v) h;exact .inr %[x,t,Y|e]
theorem qB (i:Int) (t:Tok):jF (.inl i) (.int i t)=true:=by simp[jF,Value.isInt]
theorem qD (x:Str) (t:Tok):jF (.inr x) (.str x t)=true:=by simp[jF,Value.isStrOf]
theorem xT (a b:Int):decide ((Sum.inl a:Key)=Sum.inl b)=(a == b):=by
 by_cases e:a=b
 ·subst e;simp
 ·have h:¬ (Sum.inl a:Key)=Sum.inl b:=λ q=>e (Sum.inl.inj q);rw[K5 h];exact(LJ.mpr e).symm
theorem xU (a b:Str):decide ((Sum.inr a:Key)=Sum.inr b)=decide (a=b):=by
 by_cases e:a=b
 ·subst e;simp
 ·have h:¬ (Sum.inr a:Key)=Sum.inr b:=λ q=>e (Sum.inr.inj q);rw[K5 h,K5 e]
theorem xV (a:Int) (b:Str):decide ((Sum.inl a:Key)=Sum.inr b)=false:=B2 (λ q=>nomatch q)
theorem xW (a:Str) (b:Int):decide ((Sum.inr a:Key)=Sum.inl b)=false:=B2 (λ q=>nomatch q)
def aR (prog:IP) (w:IR):PySem.KeyKind prog w Key where
 is:=jF
 hash:=FP w
 inj:=λ v a b ha hb=>by
  rcases bh ha with⟨i,t,rfl,rfl⟩ | ⟨x,t,rfl,rfl⟩
  ·rcases bh hb with⟨j,u,rfl,e⟩ | ⟨y,u,rfl,e⟩
   ·injection e with e1 _;rw[e1]
   ·exact nomatch e
  ·rcases bh hb with⟨j,u,rfl,e⟩ | ⟨y,u,rfl,e⟩
   ·exact nomatch e
   ·injection e with e1 _;rw[e1]
 byValue:=λ k v h=>by rcases bh h with⟨i,t,rfl,rfl⟩ | ⟨x,t,rfl,rfl⟩ <;> rfl
 pyHash:=λ hv h=>by
  rcases bh hv with⟨i,t,rfl,rfl⟩ | ⟨x,t,rfl,rfl⟩
  ·exact wpAny_pyHash_int h
  ·exact wpAny_pyHash_str h
 eqBool:=λ hu hv h=>by
  rcases bh hu with⟨i,t,rfl,rfl⟩ | ⟨x,t,rfl,rfl⟩
  ·rcases bh hv with⟨j,u,rfl,rfl⟩ | ⟨y,u,rfl,rfl⟩
   ·rw[xT]at h;exact wpAny_eqBool_int h
   ·rw[xV]at h;exact SeqAt.EqAt.int_str i t y u _ _ _ _ h
  ·rcases bh hv with⟨j,u,rfl,rfl⟩ | ⟨y,u,rfl,rfl⟩
   ·rw[xW]at h;exact SeqAt.EqAt.str_int x t j u _ _ _ _ h
   ·rw[xU]at h;exact wpAny_eqBool_str h
 «strs» := λ k x t v h=>by
  rcases bh h with⟨i,u,rfl,e⟩ | ⟨y,u,rfl,e⟩
  ·exact nomatch e
  ·injection e with e1 _
   subst e1;cases v <;> rfl
theorem lS (prog:IP) (w:IR) (i:Int) (t:Tok):(aR prog w).is (.inl i) (.int i t)=true:=qB i t
theorem lT (prog:IP) (w:IR) (x:Str) (t:Tok):(aR prog w).is (.inr x) (.str x t)=true:=qD x t
inductive V where
 | non | bl (b:Bool) | int (i:Int) | str (x:Str) | byt (b:Kr UInt8) | flt (b:UInt64) | ref (a:Ko) | ty (n:String)
 deriving DecidableEq
def RelV:V->IS->Prop
 | .non,u=>u=Value.none
 | .bl b,u=>u=Value.bool b
 | .int i,u=>∃t,u=Value.int i t
 | .str x,u=>∃t,u=Value.str x t
 | .byt b,u=>∃t,u=Value.bytes b t
 | .flt b,u=>∃t,u=Value.float b t
 | .ref a,u=>u=Value.ref a
 | .ty n,u=>u=Value.type n
abbrev Vals:Ks V->Ks IS->Prop:=Paired RelV
theorem Vals.length {xs:Ks V} {us:Ks IS} (r:Vals xs us):xs.length=us.length:=E5 r
theorem Vals.get:∀ {xs:Ks V} {us:Ks IS} {i:Nat} {x:V},Vals xs us->xs[i]?=some x->∃u,us[i]?=some u/\RelV x u
 | _,_,_,_,.nil,e=>by simp at e
 | _,_,0,_,.cons r _,e=>by simp at e;subst e;exact%[_,Y|r]
 | _,_,i+1,x,.cons _ t,e=>by obtain⟨u,h1,h2⟩:=Vals.get (i:=i) (x:=x) t (by simpa using e);exact%[u,by simpa using h1|h2]
theorem Vals.set {x:V} {u:IS} (r:RelV x u):∀ {xs:Ks V} {us:Ks IS} (i:Nat),Vals xs us->Vals (xs.set i x) (us.set i u)
 | _,_,_,.nil=>.nil
 | _,_,0,.cons _ t=>.cons r t
 | _,_,i+1,.cons q t=>.cons q (Vals.set r i t)
theorem Vals.append:∀ {xs ys:Ks V} {us ws:Ks IS},Vals xs us->Vals ys ws->Vals (xs ++ ys) (us ++ ws)
 | _,_,_,_,.nil,s=>s
 | _,_,_,_,.cons r t,s=>.cons r (Vals.append t s)
theorem Vals.take:∀ {xs:Ks V} {us:Ks IS} (n:Nat),Vals xs us->Vals (xs.take n) (us.take n)
 | _,_,0,_=>.nil
 | _,_,_+1,.nil=>.nil
 | _,_,n+1,.cons r t=>.cons r (Vals.take n t)
theorem Vals.drop:∀ {xs:Ks V} {us:Ks IS} (n:Nat),Vals xs us->Vals (xs.drop n) (us.drop n)
 | _,_,0,r=>r
 | _,_,_+1,.nil=>.nil
 | _,_,n+1,.cons _ t=>Vals.drop n t
def RelO:Kq V->Kq IS->Prop
 | some v,some u=>RelV v u
 | none,none=>True
 | _,_=>False
def KV {κ:Type}:Ks (κ×V)->Ks (κ×IS)->Prop:=Paired λ(p:κ×V) (q:κ×IS)=>p.1=q.1/\RelV p.2 q.2
def kV:Key->V
 | .inl i=>.int i
 | .inr x=>.str x
inductive HO where
 | lst (xs:Ks V)
 | tup (xs:Ks V)
 | dK (kvs:Ks (Key×V)) | dT (kvs:Ks (Ks Key×V))
 | set (S:Int->Bool) (n:Nat)
 | ins (C dx:Ko) (fs:Ks (Str×V))
 | own (x:Ko)
 | xd (fs:Ks (Str×V))
 | met (f x:Ko)
 | rng (lo hi:Int)
 | frz (o:Obj) (u:HO)
 | tbl (ps:Kr IS)
 | ext (φ:Heap->Prop)
abbrev Hp:=Ko->Kq HO
def upd (H:Hp) (a:Ko) (o:HO):Hp:=λ b=>if b=a then some o else H b
theorem ai {H:Hp} {a:Ko} {o:HO}:upd H a o a=some o:=by unfold upd;rw[Kz rfl]
theorem ah {H:Hp} {a b:Ko} {o:HO} (h:b≠a):upd H a o b=H b:=by unfold upd;rw[Ky h]
theorem vX {H:Hp} {a:Ko} {o u:HO}:upd (upd H a o) a u=upd H a u:=by funext b;unfold upd;split <;> rfl
theorem tI {H:Hp} {a b:Ko} {o u:HO} (h:H a=some o) (h':H b=some u) (d:o≠u):a≠b:=by intro e;subst e;rw[h]at h';exact d (C0 h')
theorem ae {H:Hp} {a b:Ko} {o:HO} (h:H a=some o) (h':H b=none):a≠b:=by intro e;subst e;rw[h]at h';cases h'
section
variable (P:IP) (w:IR)
def ObjOk (H:Hp) (h:Heap) (a:Ko):HO->Prop
 | .lst xs=>xs.length<=sizeLine/\∃ (its:Ks IS) (n:Nat),Vals xs its/\h.get? a=some { cls:=.type "list",data:=.seq its.toArray n }
 | .tup xs=>xs.length<=sizeLine/\∃its:Ks IS,Vals xs its/\IsTup h a its.toArray
 | .dK kvs=>kvs.length<=sizeLine/\(a == sysModules)=false/\∃vs,KV kvs vs/\h.DictOf (aR P w) a vs
 | .dT kvs=>kvs.length<=sizeLine/\(a == sysModules)=false/\∃xs:Ks (Ks Key×Ko×IS),
   Paired (λ(p:Ks Key×V) (q:Ks Key×Ko×IS)=>p.1=q.1/\H q.2.1= ~~~(p.1.map kV)/\RelV p.2 q.2.2) kvs xs /\
   ∃o es ep,h.get? a=some o/\o.ExactDict/\o.data=.dict es ep/\es.toList=xs.map (entryOfKey (tupleKind (aR P w)))/\(xs.map (·.1)).Nodup
 | .set S n=>h.SetOf (intKind P w) a S n
 | .ins C dx fs=>H dx=some (.own a)/\fs.length<=1000/\dx≠a/\h.get? a=some (PySem.W.instObj C dx) /\
   ∃mA,h.Ns1 dx mA/\(∀f,RelO (fs.lookup f) (mA f))/\PySem.Within mA (fs.map (·.1))
 | .own _=>∃o,h.get? a=some o
 | .xd fs=>∃mA,h.Ns1 a mA/\∀f,RelO (fs.lookup f) (mA f)
 | .rng lo hi=>∃t u v,h.get? a=some { cls:=.type "range",data:=.fields #[.int lo t,.int hi u,.int 1 v] }
 | .frz o u=>h.get? a=some o/\ObjOk H h a u
 | .tbl ps=>h.get? a=some { cls:=.none,data:=.fields ps }
 | .met f x=>h.get? a=some (PySem.W.methodObj (.ref f) (.ref x))
 | .ext φ=>φ h/\(∃o,h.get? a=some o)/\∀h1 h2:Heap,φ h1->(∀o,h1.get? a=some o->h2.get? a=some o)->φ h2
def HOk (H:Hp) (h:Heap):Prop:=∀a o,H a=some o->ObjOk P w H h a o
end
section
variable {P:IP} {w:IR} {H H':Hp} {h h':Heap} {a:Ko} {o:HO}
theorem ObjOk.lt (x:ObjOk P w H h a o):a < h.objs.size:=by
 cases o with
 | lst xs=>obtain⟨_,_,_,_,e⟩:=x;exact B0 e
 | tup xs=>obtain⟨_,_,_,p⟩:=x;exact p.lt
 | dK kvs=>obtain⟨_,_,_,_,o,_,_,e,_⟩:=x;exact B0 e
 | dT kvs=>obtain⟨_,_,_,_,o,_,_,e,_⟩:=x;exact B0 e
 | set S n=>obtain⟨o,_,_,_,e,_⟩:=x;exact B0 e
 | ins C dx fs=>obtain⟨_,_,_,e,_⟩:=x;exact B0 e
 | own y=>obtain⟨_,e⟩:=x;exact B0 e
 | xd fs=>obtain⟨_,⟨_,_,_,e,_⟩,_⟩:=x;exact B0 e
 | rng lo hi=>obtain⟨_,_,_,e⟩:=x;exact B0 e
 | frz ob u=>obtain⟨e,_⟩:=x;exact B0 e
 | tbl ps=>exact B0 (show h.get? a=some _ from x)
 | met f y=>exact B0 (show h.get? a=some _ from x)
 | ext φ=>obtain⟨_,⟨_,e⟩,_⟩:=x;exact B0 e
theorem Paired.mapP {α β:Type} {F G:α->β->Prop}:∀ {l₁:Ks α} {l₂:Ks β},Paired F l₁ l₂->(∀a b,F a b->G a b)->Paired G l₁ l₂
 | _,_,.nil,_=>.nil
 | _,_,.cons r t,f=>.cons (f _ _ r) (Paired.mapP t f)
abbrev IW:=@Paired.mapP
theorem ObjOk.stay (x:ObjOk P w H h a o) (k:∀b u,(b=a\/H b=some (.own a))->h.get? b=some u->h'.get? b=some u)
  (ho:∀b,H b=some (.own a)->H' b=some (.own a)) (ht:∀b xs,H b= ~~~xs->H' b= ~~~xs):ObjOk P w H' h' a o:=by
 induction o with
 | lst xs=>obtain⟨z,its,n,r,e⟩:=x;exact%[z,its,n,r|k _ _ (.inl rfl) e]
 | tup xs=>obtain⟨z,its,r,ob,e,c⟩:=x;exact%[z,its,r,ob,k _ _ (.inl rfl) e|c]
 | dK kvs=>obtain⟨z,y,vs,r,ob,es,ep,e,c⟩:=x;exact%[z,y,vs,r,ob,es,ep,k _ _ (.inl rfl) e|c]
 | dT kvs=>
  obtain⟨z,y,xs,r,ob,es,ep,e,c⟩:=x;exact%[z,y,xs,IW r λ p q z=>%[z.1,ht _ _ z.2.1|z.2.2],ob,es,ep,k _ _ (.inl rfl) e|c]
 | set S n=>obtain⟨ob,es,ep,t,e,c⟩:=x;exact%[ob,es,ep,t,k _ _ (.inl rfl) e|c]
 | ins C dx fs=>
  obtain⟨d,z,ne,e,mA,⟨od,es,ep,e2,c⟩,r⟩:=x;exact%[ho _ d,z,ne,k _ _ (.inl rfl) e,mA,%[od,es,ep,k _ _ (.inr d) e2|c]|r]
 | own y=>obtain⟨ob,e⟩:=x;exact%[ob|k _ _ (.inl rfl) e]
 | xd fs=>obtain⟨mA,⟨od,es,ep,e,c⟩,r⟩:=x;exact%[mA,%[od,es,ep,k _ _ (.inl rfl) e|c]|r]
 | rng lo hi=>obtain⟨t,u,v,e⟩:=x;exact%[t,u,v|k _ _ (.inl rfl) e]
 | frz ob u ih=>obtain⟨e,q⟩:=x;exact%[k _ _ (.inl rfl) e|ih q]
 | tbl ps=>
  have e:h.get? a=some { cls:=.none,data:=.fields ps }:=x;show h'.get? a=some { cls:=.none,data:=.fields ps };exact k a _ (.inl rfl) e
 | met f y=>
  have e:h.get? a=some (PySem.W.methodObj (.ref f) (.ref y)):=x;show h'.get? a=some (PySem.W.methodObj (.ref f) (.ref y));exact k a _ (.inl rfl) e
 | ext φ=>obtain⟨p,⟨o,e⟩,st⟩:=x;exact%[st _ _ p λ o q=>k _ _ (.inl rfl) q,%[o|k _ _ (.inl rfl) e]|st]
theorem HOk.lt (x:HOk P w H h) (e:H a=some o):a < h.objs.size:=(x a o e).lt
theorem HOk.fresh (x:HOk P w H h) (e:h.objs.size<=a):H a=none:=by
 cases q:H a with
 | none=>rfl
 | some u=>exact absurd (C3 (x.lt q) e) (E2 _)
theorem HOk.kept (x:HOk P w H h) (k:∀b u,h.get? b=some u->h'.get? b=some u):HOk P w H h':=λ a o e=>
 (x a o e).stay (λ b u _ q=>k b u q) (λ _ q=>q) λ _ _ q=>q
theorem HOk.laid (x:HOk P w H h) (k:∀b u,h.get? b=some u->h'.get? b=some u) (hp:h.objs.size<=a) (new:ObjOk P w (upd H a o) h' a o):HOk P w (upd H a o) h':=λ b u e=>by
 have hn:=x.fresh hp
 by_cases hb:b=a
 ·subst hb;rw[ai]at e;cases e;exact new
 ·rw[ah hb]at e;exact(x b u e).stay (λ c v _ q=>k c v q) (λ c q=>by rw[ah (ae q hn)];exact q) λ c xs q=>by rw[ah (ae q hn)];exact q
end
def Rd (H:Hp) (a:Ko) (u:HO):Prop:=H a=some u\/∃o,H a=some (.frz o u)
theorem Rd.ok {P:IP} {w:IR} {H:Hp} {h:Heap} {a:Ko} {u:HO} (r:Rd H a u) (x:HOk P w H h):ObjOk P w H h a u:=by
 rcases r with r | ⟨o,r⟩
 ·exact x a u r
 ·obtain⟨_,q⟩:=x a _ r;exact q
def Mut:Kq HO->Prop
 | ↥_=>True
 | some (.dK _)=>True
 | some (.dT _)=>True
 | some (.set _ _)=>True
 | some (.ins _ _ _)=>True
 | some (.ext _)=>True
 | _=>False
section
variable {P:IP} {w:IR} {H:Hp} {h h':Heap} {x e:Ko} {o':HO}
theorem HOk.write (ok:HOk P w H h) (mu:Mut (H x)) (he:e=x\/H e=some (.own x)) (k:∀b u,b≠e->h.get? b=some u->h'.get? b=some u) (heo:∃u,h'.get? e=some u)
  (new:ObjOk P w (upd H x o') h' x o'):HOk P w (upd H x o') h':=λ b u q=>by
 have nown:∀c y,H c=some (.own y)->c≠x:=λ c y r z=>by subst z;rw[r]at mu;exact mu
 have ntup:∀c xs,H c= ~~~xs->c≠x:=λ c xs r z=>by subst z;rw[r]at mu;exact mu
 by_cases hb:b=x
 ·subst hb;rw[ai]at q;cases q;exact new
 ·rw[ah hb]at q
  by_cases hbe:b=e
  ·have q':H b=some (.own x):=by
    rcases he with z | z
    ·exact absurd (hbe.trans z) hb
    ·rw[hbe];exact z
   rw[q]at q';cases q';obtain⟨v,hv⟩:=heo;exact%[v|by rw[hbe];exact hv]
  ·apply(ok b u q).stay (λ c v hc r=>k c v ?_ r) (λ c r=>by rw[ah (nown c b r)];exact r) λ c xs r=>by rw[ah (ntup c xs r)];exact r
   rcases hc with rfl | hc
   ·exact hbe
   ·rintro rfl;rcases he with z | z
    ·exact nown c b hc z
    ·rw[hc]at z;cases z;exact hb rfl
end
structure Un (fs ex:Ks Ko) (H H':Hp) (h h':Heap):Prop where
 keep:∀b o,h.get? b=some o->H b=none->b∉fs->b∉ex->h'.get? b=some o
 slot:∀b o,h.get? b=some o->H b=none->b∈fs->b∉ex->∃sl,h'.get? b=some { o with slots:=sl }
 free:∀b o,h.get? b=some o->H b=none->b∉ex->H' b=none
 there:∀b o,h.get? b=some o->b∉ex->∃o',h'.get? b=some o'
 tups:∀b xs,H b= ~~~xs->H' b= ~~~xs
 frzs:∀b o u,H b=some (.frz o u)->H' b=some (.frz o u)
 tbls:∀b ps,H b=some (.tbl ps)->∃more,H' b=some (.tbl (ps ++ more))
section
variable {fs fs' ex ex':Ks Ko} {H H1 H2:Hp} {h h1 h2 h':Heap} {a x e:Ko} {o:HO}
theorem Un.any (u:Un fs ex H H1 h h1) {b:Ko} {ob:Obj} (q:h.get? b=some ob) (n:H b=none) (hx:b∉ex):∃sl,h1.get? b=some { ob with slots:=sl }:=by
 by_cases hb:b∈fs
 ·exact u.slot b ob q n hb hx
 ·exact%[ob.slots|u.keep b ob q n hb hx]
theorem Un.kept (k:∀b u,h.get? b=some u->h'.get? b=some u):Un fs ex H H h h' :=
 %[λ b ob q _ _ _=>k b ob q,λ b ob q _ _ _=>%[ob.slots|k b ob q],λ _ _ _ n _=>n,λ b ob q _=>%[ob|k b ob q],λ _ _ q=>q,λ _ _ _ q=>q|λ _ ps q=>%[#[]|by rw[q];simp]]
theorem Un.refl:Un fs ex H H h h:=Un.kept λ _ _ q=>q
theorem Un.laid (k:∀b u,h.get? b=some u->h'.get? b=some u) (hp:h.objs.size<=a) (hn:H a=none):Un fs ex H (upd H a o) h h' where
 keep:=λ b u q _ _ _=>k b u q
 slot:=λ b u q _ _ _=>%[u.slots|k b u q]
 free:=λ b u q n _=>by rw[ah (C1 (C3 (Heap.lt_size q) hp))];exact n
 there:=λ b u q _=>%[u|k b u q]
 tups:=λ b xs q=>by rw[ah (ae q hn)];exact q
 frzs:=λ b u xs q=>by rw[ah (ae q hn)];exact q
 tbls:=λ b ps q=>%[#[]|by rw[ah (ae q hn),q];simp]
theorem Un.write (mu:Mut (H x)) (he:e=x\/H e=some (.own x)) (k:∀b u,b≠e->h.get? b=some u->h'.get? b=some u) (heo:∃u,h'.get? e=some u):Un fs ex H (upd H x o) h h':=by
 have hx:∀b,H b=none->b≠x:=λ b n z=>by subst z;rw[n]at mu;exact mu
 have hb:∀b,H b=none->b≠e:=λ b n z=>by
  subst z;rcases he with r | r
  ·exact hx b n r
  ·rw[n]at r;cases r
 have hm:∀b u,H b=some u->¬ Mut (some u)->b≠x:=λ b u q nm z=>by subst z;rw[q]at mu;exact nm mu
 apply⟨λ b u q n _ _=>k b u (hb b n) q,λ b u q n _ _=>%[u.slots|k b u (hb b n) q],λ b u q n _=>by rw[ah (hx b n)];exact n,λ b u q _=>?_,
  λ b xs q=>by rw[ah (hm b _ q λ z=>z)];exact q,λ b u xs q=>by rw[ah (hm b _ q λ z=>z)];exact q,λ b ps q=>%[#[]|by rw[ah (hm b _ q λ z=>z),q];simp]⟩
 by_cases hbe:b=e
 ·subst hbe;exact heo
 ·exact%[u|k b u hbe q]
end
def trk (h:Heap) (H:Hp):Ks Ko:=(List.range h.objs.size).filter λ a=>(H a).isSome
def kL (h:Heap) (H:Hp):Heap:=PySem.W.hideAll h (trk h H)
theorem qE (h:Heap) (H:Hp):(kL h H).objs.size=h.objs.size:=PySem.W.hideAll_size _ _
theorem tJ {h:Heap} {H:Hp} {b:Ko} {o:Obj} (e:h.get? b=some o) (n:H b=none):(kL h H).get? b=some o :=
 PySem.W.hideAll_get _ e λ hm=>by have q:(H b).isSome=true:=(J0.mp hm).2;rw[n]at q;simp at q
theorem vY {h:Heap} {H:Hp} {b:Ko} {o:Obj} (e:(kL h H).get? b=some o):h.get? b=some o/\H b=none:=by
 have e':h.get? b=some o:=PySem.W.of_hideAll (trk h H) e;apply%[e'|?_];cases q:H b with
 | none=>rfl
 | some x=>
  have hm:b∈trk h H:=J0.mpr %[Jt.mpr (B0 e')|by simp[q]];have z:(kL h H).get? b=none:=PySem.W.hideAll_none (trk h H) hm;rw[z]at e;cases e
def vZ (g h:Heap) (L:Ko):Ks (Ko×Obj):=(List.range h.objs.size).filterMap λ a=>if a=L\/(g.get? a).isSome=true then none else(h.get? a).map λ o=>(a,o)
def rest (g h:Heap) (L d:Ko):Ks (Ko×Obj):=(vZ g h L).filter λ p=>decide (p.1≠d)
structure Mod (K:C6) (mg:Str->Kq Value) (base:Heap):Prop where
 kin:K.In base
 glob:base.Ns Kt mg
 blt:∃mb,base.Ns builtinsNs mb/\∀x:Str,x ≠ "__name__" -> mb x=bootBuiltins x
 nolimit:base.NoLimit
/-- the context: a def's body (or a comprehension's block) running. base: fixed through the bF law;s₀,H₀: the entry;outer: the frames whose slots others may change (a def's callers);stack: all frames that run;
   ex: iterators that were made ahead of the entry and are walked here (a comprehension's);fn: the names whose cells were made at the entry (a def: all;a comprehension's block: its own);calm: not within an except suite;pn: Ku that every state bears;xe: what is wanted of an exception that leaves the code -/
structure Cx where
 prog:Program
 w:World
 K:C6
 mg:Str->Kq Value
 base:Heap
 A:Around
 N:Ks Str
 s₀:Shared
 H₀:Hp
 env:Env
 outer:Ks Env
 stack:Ks Env
 ex:Ks Ko
 fn:Str->Bool
 calm:Bool
 pn:Ks (Ko×Obj)
 xe:IS->IN->Prop
def frs (l:Ks Env):Ks Ko:=l.filterMap (·.frame)
abbrev Cx.fs (X:Cx):Ks Ko:=frs X.outer
def Vis (sc:Scope) (x:Str):Prop:=sc.names.lookup x=some .local\/sc.names.lookup x=some .cell\/sc.names.lookup x=some .free
def Loc (sc:Scope) (x:Str):Prop:=sc.names.lookup x=some .local\/sc.names.lookup x=some .cell
def FQ (env:Env) (h:Heap) (m:Str->Kq IS) (x:Str) (u:IS):Prop :=
 (env.kindOf x=some .local/\m x=some u)\/((env.kindOf x=some .cell\/env.kindOf x=some .free)/\∃c,env.cells.lookup x=some c/\h.IsCell c (some u))
structure Cx.Ok (X:Cx):Prop where
 mod:Mod X.K X.mg X.base
 kind:X.env.scope.kind=.function
 glob:X.env.globals=Kt
 blt:X.env.builtins=builtinsNs
 above:X.s₀.heap.objs.size<=X.env.locals
 inj:∀x y c,X.env.cells.lookup x=some c->X.env.cells.lookup y=some c->x=y
 has:∀x,(X.env.kindOf x=some .cell\/X.env.kindOf x=some .free)->∃c,X.env.cells.lookup x=some c
 cab:∀x c,X.fn x=true->X.env.cells.lookup x=some c->X.s₀.heap.objs.size<=c
 hd:X.calm=true->X.A.handled=none
 frames:X.A.frames=some X.stack
 stk:X.stack=X.outer\/(X.stack=X.env :: X.outer/\X.env.frame=some X.env.locals)
 exf:∀b∈X.ex,b≠X.env.locals/\∀x c,X.env.cells.lookup x=some c->c≠b
 bs:∀b o,X.base.get? b=some o->X.s₀.heap.get? b=some o/\X.H₀ b=none
 bsz:X.base.objs.size<=X.s₀.heap.objs.size
 noex:∀b o,X.base.get? b=some o->b∉X.ex
 exfs:∀b∈X.ex,b∉X.fs
 funs:X.s₀.heap.FunFrames X.base X.outer
 frf:∀b∈X.fs,X.H₀ b=none
structure Inv (X:Cx) (Ku:Ks (Ko×Obj)) (σ:Ks (Kq V)) (H:Hp) (s:Shared):Prop where
 ok:X.Ok
 os:s.os=X.s₀.os
 bare:AllBare s.gens
 base:Un X.fs X.ex X.H₀ H X.s₀.heap s.heap
 loc:∃m,s.heap.Ns X.env.locals m/\∀ (i:Nat) (x:Str) (v:V),X.N[i]?=some x->σ[i]?=some (some v)->Vis X.env.scope x->∃u,RelV v u/\FQ X.env s.heap m x u
 cell:∀x c,X.env.cells.lookup x=some c->∃v,s.heap.IsCell c v
 free:H X.env.locals=none
 freeC:∀x c,X.env.cells.lookup x=some c->H c=none
 pin:∀p∈X.pn ++ Ku,s.heap.get? p.1=some p.2/\H p.1=none/\p.1≠X.env.locals/\p.1∉X.fs/\∀v,p.2.data≠.cell v
 hok:HOk X.prog X.w H s.heap
 len:σ.length=X.N.length
section
variable {X:Cx} {Ku:Ks (Ko×Obj)} {σ:Ks (Kq V)} {H H':Hp} {s:IN} {h':Heap}
theorem Cx.Ok.nofr (ok:X.Ok) {b:Ko} {o:Obj} (e:X.base.get? b=some o):b∉X.fs:=λ hb=>by have:=(ok.funs.mem hb).1;rw[e]at this;cases this
theorem Inv.bs (I:Inv X Ku σ H s):∀b o,X.base.get? b=some o->s.heap.get? b=some o/\H b=none:=λ b o e=>
 %[I.base.keep b o (I.ok.bs b o e).1 (I.ok.bs b o e).2 (I.ok.nofr e) (I.ok.noex b o e)|I.base.free b o (I.ok.bs b o e).1 (I.ok.bs b o e).2 (I.ok.noex b o e)]
theorem Inv.bk (I:Inv X Ku σ H s):∀b o,X.base.get? b=some o->s.heap.get? b=some o:=λ b o e=>(I.bs b o e).1
theorem Inv.mod (I:Inv X Ku σ H s):Mod X.K X.mg X.base:=I.ok.mod
theorem Inv.kIn (I:Inv X Ku σ H s):X.K.In s.heap:=I.ok.mod.kin.keeps I.bk
theorem Inv.fr (I:Inv X Ku σ H s):∃m,Fr X.base X.env.locals s.heap m :=
 let ⟨m,hn,_⟩:=I.loc
 %[m,hn,I.bk|C7 I.ok.bsz I.ok.above]
theorem Inv.lt (I:Inv X Ku σ H s):X.env.locals < s.heap.objs.size:=let ⟨_,hn,_⟩:=I.loc;hn.lt
theorem Inv.sz (I:Inv X Ku σ H s):X.s₀.heap.objs.size<=s.heap.objs.size:=C7 I.ok.above (C9 I.lt)
theorem Inv.nofs (I:Inv X Ku σ H s) {a:Ko} (h:s.heap.objs.size<=a):a∉X.fs:=λ hb=>by obtain⟨_,o,ho,_⟩:=I.ok.funs.mem hb;exact absurd (C3 (B0 ho) (C7 I.sz h)) (E2 _)
theorem Inv.cne (I:Inv X Ku σ H s):∀x c,X.env.cells.lookup x=some c->c≠X.env.locals:=λ x c e z=>by obtain⟨v,o,ho,hd⟩:=I.cell x c e;obtain⟨m,⟨o',es,ep,ho',hd',_⟩,_⟩:=I.loc;rw[z,ho']at ho;cases ho;rw[hd']at hd;cases hd
theorem Inv.funs (I:Inv X Ku σ H s):s.heap.FunFrames X.base X.outer:=by
 have all:∀ (l:Ks Env),(∀b∈frs l,b∈X.fs)->X.s₀.heap.FunFrames X.base l->s.heap.FunFrames X.base l:=by
  intro l
  induction l with
  | nil=>intro _ _;trivial
  | cons env r ih=>
   intro hs hl;obtain⟨hk,⟨L,o,hf,hn,ho,hd⟩,hr⟩:=hl;have hL:L∈X.fs:=hs L (by unfold frs;rw[List.filterMap_cons,hf];exact B9);obtain⟨sl,e⟩:=I.base.slot L o ho (I.ok.frf L hL) hL λ z=>I.ok.exfs L z hL;exact%[hk,%[L,_,hf,hn,e|hd]|ih (λ b hb=>hs b (by unfold frs;rw[List.filterMap_cons,hf];exact B6 _ hb)) hr]
 exact all X.outer (λ _ hb=>hb) I.ok.funs
theorem Inv.stack (I:Inv X Ku σ H s):s.heap.FunFrames X.base X.stack:=by
 rcases I.ok.stk with e | ⟨e,hf⟩
 ·rw[e];exact I.funs
 ·rw[e];obtain⟨m,hn,_⟩:=I.loc;apply .cons (by rw[I.ok.kind];decide) hf hn ?_ I.funs;exact Lo (C7 I.ok.bsz I.ok.above)
theorem Inv.stkSub (I:Inv X Ku σ H s):∀b∈frs X.stack,b∈X.env.locals :: X.fs:=λ b hb=>by
 rcases I.ok.stk with e | ⟨e,hf⟩
 ·rw[e]at hb;exact B6 _ hb
 ·rw[e]at hb;unfold frs at hb;rw[List.filterMap_cons,hf]at hb;exact hb
theorem Inv.stkFree (I:Inv X Ku σ H s):∀b∈frs X.stack,H b=none:=λ b hb=>by
 rcases IZ.mp (I.stkSub b hb)with e | hb
 ·rw[e];exact I.free
 ·obtain⟨_,o,ho,_⟩:=I.ok.funs.mem hb;exact I.base.free b o ho (I.ok.frf b hb) λ z=>I.ok.exfs b z hb
theorem Inv.step {g':Kr GenState} {t':Nat} {d':Drawn} {ch:Ks Ko} (I:Inv X Ku σ H s)
  (hch:∀b∈ch,(b∈X.ex\/X.s₀.heap.objs.size<=b)/\b≠X.env.locals/\(∀x c,X.env.cells.lookup x=some c->c≠b)/\∀p∈X.pn ++ Ku,p.1≠b)
  (keep:∀b o,b≠X.env.locals->b∉X.fs->b∉ch->s.heap.get? b=some o->H b=none->h'.get? b=some o)
  (slot:∀b o,b≠X.env.locals->b∈X.fs->b∉ch->s.heap.get? b=some o->H b=none->∃sl,h'.get? b=some { o with slots:=sl }) (free:∀b o,b∉ch->s.heap.get? b=some o->H b=none->H' b=none)
  (there:∀b o,b∉ch->s.heap.get? b=some o->∃o',h'.get? b=some o')
  (tups:∀b xs,H b= ~~~xs->H' b= ~~~xs) (frzs:∀b o u,H b=some (.frz o u)->H' b=some (.frz o u)) (tbls:∀b ps,H b=some (.tbl ps)->∃more,H' b=some (.tbl (ps ++ more)))
  (ns:∀m,s.heap.Ns X.env.locals m->h'.Ns X.env.locals m) (hok:HOk X.prog X.w H' h') (hg:AllBare g') :
  Inv X Ku σ H' { s with heap:=h',gens:=g',drawn:=d',toks:=t' }:=by
 have neL:∀b o,X.s₀.heap.get? b=some o->b≠X.env.locals:=λ b o e=>C1 (C3 (B0 e) I.ok.above);have neC:∀b o,X.s₀.heap.get? b=some o->b∉X.ex->b∉ch:=λ b o e hx hb=>by
  rcases(hch b hb).1 with z | z
  ·exact hx z
  ·exact absurd (C3 (B0 e) z) (E2 _)
 have cellK:∀x c,X.env.cells.lookup x=some c->∀v,s.heap.IsCell c v->h'.IsCell c v:=λ x c e v ⟨o,ho,hd⟩=>by
  have nch:c∉ch:=λ z=>(hch c z).2.2.1 x c e rfl
  by_cases hc:c∈X.fs
  ·obtain⟨sl,q⟩:=slot c o (I.cne x c e) hc nch ho (I.freeC x c e);exact%[_,q|hd]
  ·exact%[o,keep c o (I.cne x c e) hc nch ho (I.freeC x c e)|hd]
 apply%[I.ok,I.os,hg,%[λ b o e n hb hx=>?_,λ b o e n hb hx=>?_,λ b o e n hx=>?_,λ b o e hx=>?_,λ b xs e=>tups b xs (I.base.tups b xs e),λ b o xs e=>frzs b o xs (I.base.frzs b o xs e)|λ b ps e=>?_],?_,λ x c e=>?_,?_,λ x c e=>?_,λ p hp=>?_,hok|I.len]
 ·exact keep b o (neL b o e) hb (neC b o e hx) (I.base.keep b o e n hb hx) (I.base.free b o e n hx)
 ·obtain⟨sl,e1⟩:=I.base.slot b o e n hb hx;obtain⟨sl',e2⟩:=slot b _ (neL b o e) hb (neC b o e hx) e1 (I.base.free b o e n hx);exact%[sl'|e2]
 ·obtain⟨o',e1⟩:=I.base.there b o e hx;exact free b o' (neC b o e hx) e1 (I.base.free b o e n hx)
 ·obtain⟨o',e1⟩:=I.base.there b o e hx;exact there b o' (neC b o e hx) e1
 ·obtain⟨m1,e1⟩:=I.base.tbls b ps e;obtain⟨m2,e2⟩:=tbls b _ e1;exact%[m1 ++ m2|by rw[e2,Array.append_assoc]]
 ·obtain⟨m,hn,hl⟩:=I.loc;apply%[m,ns m hn|λ i x v e1 e2 e3=>?_];obtain⟨u,r,l⟩:=hl i x v e1 e2 e3;apply%[u,r|?_];rcases l with l | ⟨k,c,e,z⟩
  ·exact .inl l
  ·exact .inr %[k,c,e|cellK x c e _ z]
 ·obtain⟨v,z⟩:=I.cell x c e;exact%[v|cellK x c e v z]
 ·obtain⟨m,⟨o,_,_,ho,_⟩,_⟩:=I.loc;exact free _ o (λ z=>(hch _ z).2.1 rfl) ho I.free
 ·obtain⟨v,o,ho,hd⟩:=I.cell x c e;exact free c o (λ z=>(hch c z).2.2.1 x c e rfl) ho (I.freeC x c e)
 ·obtain⟨e,n,ne,nf,d⟩:=I.pin p hp;have nch:p.1∉ch:=λ z=>(hch p.1 z).2.2.2 p hp rfl;exact%[keep p.1 p.2 ne nf nch e n,free p.1 p.2 nch e n,ne,nf|d]
theorem Inv.un {t':Nat} (I:Inv X Ku σ H s) (u:Un X.fs [] H H' s.heap h') (hok:HOk X.prog X.w H' h'):Inv X Ku σ H' { s with heap:=h',toks:=t' }:=by
 obtain⟨m,⟨o,es,ep,ho,r⟩,_⟩:=id I.loc;obtain⟨sl,hL⟩:=u.any ho I.free (by simp);exact I.step (g':=s.gens) (d':=s.drawn) (ch:=[]) (λ _ z=>nomatch z) (λ b o _ hb _ e n=>u.keep b o e n hb (by simp)) (λ b o _ hb _ e n=>u.slot b o e n hb (by simp)) (λ b o _ e n=>u.free b o e n (by simp)) (λ b o _ e=>u.there b o e (by simp)) u.tups u.frzs u.tbls (λ m' hm=>by
  obtain⟨o',es',ep',ho',r'⟩:=hm;rw[ho]at ho';cases ho';exact%[_,es',ep',hL|r']) hok I.bare
theorem Inv.call {g':Kr GenState} {t':Nat} {d':Drawn} {ch:Ks Ko} (I:Inv X Ku σ H s) (u:Un (frs X.stack) ch H H' s.heap h') (hok:HOk X.prog X.w H' h') (hg:AllBare g')
  (hch:∀b∈ch,(b∈X.ex\/X.s₀.heap.objs.size<=b)/\b≠X.env.locals/\(∀x c,X.env.cells.lookup x=some c->c≠b)/\∀p∈X.pn ++ Ku,p.1≠b) :
  Inv X Ku σ H' { s with heap:=h',gens:=g',drawn:=d',toks:=t' }:=by
 obtain⟨m,⟨o,es,ep,ho,r⟩,_⟩:=id I.loc;obtain⟨sl,hL⟩:=u.any ho I.free λ z=>(hch _ z).2.1 rfl;exact I.step (ch:=ch) hch (λ b o hL hb hc e n=>u.keep b o e n (λ z=>(IZ.mp (I.stkSub b z)).elim hL hb) hc) (λ b o _ _ hc e n=>u.any e n hc) (λ b o hc e n=>u.free b o e n hc) (λ b o hc e=>u.there b o e hc) u.tups u.frzs u.tbls (λ m' hm=>by
  obtain⟨o',es',ep',ho',r'⟩:=hm;rw[ho]at ho';cases ho';exact%[_,es',ep',hL|r']) hok hg
theorem Inv.turned {t':Nat} {it:Ko} (I:Inv X Ku σ H s) (k:∀b o,b≠it->s.heap.get? b=some o->h'.get? b=some o) (hn:H it=none) (hL:it≠X.env.locals)
  (h1:it∈X.ex\/X.s₀.heap.objs.size<=it) (h2:∀x c,X.env.cells.lookup x=some c->c≠it) (h3:∀p∈X.pn ++ Ku,p.1≠it):Inv X Ku σ H { s with heap:=h',toks:=t' }:=by
 have nit:∀b u,H b=some u->b≠it:=λ b u e z=>by rw[z,hn]at e;cases e
 apply I.step (g':=s.gens) (d':=s.drawn) (ch:=[it]) (λ b hb=>?_) (λ b o _ _ hc e _=>k b o (λ z=>hc (by simp[z])) e) (λ b o _ _ hc e _=>%[o.slots|k b o (λ z=>hc (by simp[z])) e]) (λ _ _ _ _ n=>n)
  (λ b o hc e=>%[o|k b o (λ z=>hc (by simp[z])) e]) (λ _ _ e=>e) (λ _ _ _ e=>e) (λ b ps e=>%[#[]|by rw[e];simp]) (λ m hm=>?_) (λ b u e=>?_) I.bare
 ·have e:b=it:=by simpa using hb
  subst e;exact%[h1,hL,h2|h3]
 ·obtain⟨o,es,ep,ho,r⟩:=hm;exact%[o,es,ep,k _ o (Ne.symm hL) ho|r]
 ·apply(I.hok b u e).stay (λ c v hc q=>k c v ?_ q) (λ _ q=>q) λ _ _ q=>q;rcases hc with z | z
  ·rw[z];exact nit b u e
  ·exact nit c _ z
theorem Inv.tok (I:Inv X Ku σ H s) (t:Nat):Inv X Ku σ H { s with toks:=t }:=I.un (h':=s.heap) (t':=t) Un.refl I.hok
theorem Inv.kept {t':Nat} (I:Inv X Ku σ H s) (k:∀b u,s.heap.get? b=some u->h'.get? b=some u):Inv X Ku σ H { s with heap:=h',toks:=t' }:=I.un (Un.kept k) (I.hok.kept k)
theorem Inv.laid {a:Ko} {o:HO} {t':Nat} (I:Inv X Ku σ H s) (k:∀b u,s.heap.get? b=some u->h'.get? b=some u) (hp:s.heap.objs.size<=a) (new:ObjOk X.prog X.w (upd H a o) h' a o) :
  Inv X Ku σ (upd H a o) { s with heap:=h',toks:=t' }:=I.un (Un.laid k hp (I.hok.fresh hp)) (I.hok.laid k hp new)
theorem Inv.write {x e:Ko} {o:HO} {t':Nat} (I:Inv X Ku σ H s) (mu:Mut (H x)) (he:e=x\/H e=some (.own x)) (k:∀b u,b≠e->s.heap.get? b=some u->h'.get? b=some u) (heo:∃u,h'.get? e=some u)
  (new:ObjOk X.prog X.w (upd H x o) h' x o):Inv X Ku σ (upd H x o) { s with heap:=h',toks:=t' }:=I.un (Un.write mu he k heo) (I.hok.write mu he k heo new)
theorem Inv.weak {σ':Ks (Kq V)} (I:Inv X Ku σ H s) (hl:σ'.length=σ.length) (w:∀ (i:Nat) v,σ'[i]?=some (some v)->σ[i]?=some (some v)):Inv X Ku σ' H s :=
 %[I.ok,I.os,I.bare,I.base,let ⟨m,hn,hl'⟩:=I.loc;%[m,hn|λ i x v e1 e2 e3=>hl' i x v e1 (w i v e2) e3],I.cell,I.free,I.freeC,I.pin,I.hok|hl.trans I.len]
theorem Inv.pins_of {pins':Ks (Ko×Obj)} (I:Inv X Ku σ H s) (h:∀p∈pins',s.heap.get? p.1=some p.2/\H p.1=none/\p.1≠X.env.locals/\p.1∉X.fs/\∀v,p.2.data≠.cell v):Inv X pins' σ H s :=
 %[I.ok,I.os,I.bare,I.base,I.loc,I.cell,I.free,I.freeC,λ p hp=>(C4.mp hp).elim (λ z=>I.pin p (B8 _ z)) (h p),I.hok|I.len]
theorem lU {N:Ks Str} (hN:N.Nodup) {i j:Nat} {x:Str} (a:N[i]?=some x) (b:N[j]?=some x):i=j:=by obtain⟨h1,e1⟩:=A7.mp a;obtain⟨h2,e2⟩:=A7.mp b;exact(KD hN).mp (e1.trans e2.symm)
theorem gr {M:Model} {A:Around} {E:IS->IN->Prop} {i:Nat} {x:Str} {v:V} {u:IS} {Q:Unit->IN->Prop} (I:Inv X Ku σ H s) (hN:X.N.Nodup) (hi:X.N[i]?=some x) (hx:Loc X.env.scope x) (r:RelV v u)
  (h:∀s',Inv X Ku (σ.set i (some v)) H s'->(∃a,Heap.SameBut a s.heap s'.heap/\(a=X.env.locals\/X.env.cells.lookup x=some a))->Q () s') (hf:X.fn x=true\/X.env.scope.names.lookup x=some .local:=by first | exact .inl rfl | exact .inr rfl | assumption):wpAny M A (storeName X.env x u) Q E s:=by
 obtain⟨m,hn,hl⟩:=id I.loc;have hcls:(X.env.scope.kind == .class || (X.env.scope.kind == .module && X.env.locals != X.env.globals))=false:=by rw[I.ok.kind];rfl
 have hiσ:i < σ.length:=by rw[I.len];exact(A7.mp hi).1
 have cne:=I.cne;have tracked:∀ {a:Ko} {h':Heap},(∃o,s.heap.get? a=some o/\H a=none)->Heap.SameBut a s.heap h'->HOk X.prog X.w H h':=λ {a h'} ha hs b ob e=>by
  obtain⟨_,_,hfree⟩:=ha;apply(I.hok b ob e).stay (λ c w' hc q=>(hs.2 c ?_).trans q) (λ _ q=>q) λ _ _ q=>q;rintro rfl;rcases hc with rfl | hc
  ·rw[hfree]at e;cases e
  ·rw[hfree]at hc;cases hc
 rcases hx with hk | hk
 ·apply wpAny_storeName_local hk hn (λ h' hn' hs=>?_) hcls;obtain⟨oL,_,_,hoL,_⟩:=id hn;apply h _ %[I.ok,I.os,I.bare,%[λ b o e n hb hx=>?_,λ b o e n hb hx=>?_,I.base.free,λ b o e hx=>?_,I.base.tups,I.base.frzs|I.base.tbls],%[_,hn'|λ j y v' e1 e2 e3=>?_],λ y c e=>?_,I.free,I.freeC,λ p hp=>?_,tracked %[oL,hoL|I.free] hs|by simpa using I.len] %[_,hs|.inl rfl]
  ·exact(hs.2 b (C1 (C3 (B0 e) I.ok.above))).trans (I.base.keep b o e n hb hx)
  ·obtain⟨sl,e1⟩:=I.base.slot b o e n hb hx;exact%[sl|(hs.2 b (C1 (C3 (B0 e) I.ok.above))).trans e1]
  ·obtain⟨o',e1⟩:=I.base.there b o e hx;exact%[o'|(hs.2 b (C1 (C3 (B0 e) I.ok.above))).trans e1]
  ·by_cases hj:j=i
   ·subst hj;rw[hi]at e1;cases e1;rw[KW hiσ]at e2;cases e2;exact%[u,r|.inl %[hk|by simp]]
   ·rw[KP (Ne.symm hj)]at e2;obtain⟨u',r',q⟩:=hl j y v' e1 e2 e3;apply%[u',r'|?_];rcases q with⟨k,e⟩ | ⟨k,c,e,z⟩
    ·apply .inl %[k|?_];have:y≠x:=λ e=>hj (lU hN e1 (e ▸ hi));simp[this,e]
    ·exact .inr %[k,c,e|z.sameBut hs (cne y c e)]
  ·obtain⟨w',z⟩:=I.cell y c e;exact%[w'|z.sameBut hs (cne y c e)]
  ·obtain⟨e,n,ne,nf,d⟩:=I.pin p hp;exact%[(hs.2 p.1 ne).trans e,n,ne,nf|d]
 ·have hfn:X.fn x=true:=by
   rcases hf with z | z
   ·exact z
   ·rw[z]at hk;cases hk
  obtain⟨c,hc⟩:=I.ok.has x (.inl hk);obtain⟨w',z⟩:=I.cell x c hc;apply wpAny_storeName_cell I.ok.kind hk hc z (λ h' hc' hs=>?_);obtain⟨oc,hoc,hocd⟩:=id z;apply h { s with heap:=h' } %[I.ok,I.os,I.bare,%[λ b o e n hb hx=>?_,λ b o e n hb hx=>?_,I.base.free,λ b o e hx=>?_,I.base.tups,I.base.frzs|I.base.tbls],%[m,hn.sameBut hs (Ne.symm (cne x c hc))|λ j y v' e1 e2 e3=>?_],λ y c' e=>?_,I.free,I.freeC,λ p hp=>?_,tracked %[oc,hoc|I.freeC x c hc] hs|by simpa using I.len] %[c,hs|.inr hc]
  ·exact(hs.2 b (C1 (C3 (B0 e) (I.ok.cab x c hfn hc)))).trans (I.base.keep b o e n hb hx)
  ·obtain⟨sl,e1⟩:=I.base.slot b o e n hb hx;exact%[sl|(hs.2 b (C1 (C3 (B0 e) (I.ok.cab x c hfn hc)))).trans e1]
  ·obtain⟨o',e1⟩:=I.base.there b o e hx;exact%[o'|(hs.2 b (C1 (C3 (B0 e) (I.ok.cab x c hfn hc)))).trans e1]
  ·by_cases hj:j=i
   ·subst hj;rw[hi]at e1;cases e1;rw[KW hiσ]at e2;cases e2;exact%[u,r|.inr %[.inl hk,c,hc|hc']]
   ·rw[KP (Ne.symm hj)]at e2;obtain⟨u',r',q⟩:=hl j y v' e1 e2 e3;apply%[u',r'|?_];rcases q with q | ⟨k,c',e,z'⟩
    ·exact .inl q
    ·apply .inr %[k,c',e|z'.sameBut hs ?_];rintro rfl;exact hj (lU hN e1 (I.ok.inj _ _ _ e hc ▸ hi))
  ·by_cases hcc:c'=c
   ·subst hcc;exact%[_|hc']
   ·obtain⟨w2,z2⟩:=I.cell y c' e;exact%[w2|z2.sameBut hs hcc]
  ·obtain⟨e,n,ne,nf,d⟩:=I.pin p hp;apply%[(hs.2 p.1 ?_).trans e,n,ne,nf|d];intro q;rw[q,hoc]at e;have q':oc=p.2:=C0 e;exact d w' (by rw[<- q'];exact hocd)
theorem lV {M:Model} {A:Around} {E:IS->IN->Prop} {i:Nat} {x:Str} {v:V} {u:IS} {Q:Unit->IN->Prop} (I:Inv X Ku σ H s) (hN:X.N.Nodup) (hi:X.N[i]?=some x) (hx:Loc X.env.scope x) (r:RelV v u)
  (h:∀s',Inv X Ku (σ.set i (some v)) H s'->Q () s') (hf:X.fn x=true\/X.env.scope.names.lookup x=some .local:=by first | exact .inl rfl | exact .inr rfl | assumption):wpAny M A (storeName X.env x u) Q E s :=
 gr I hN hi hx r (λ s' I' _=>h s' I') hf
theorem Inv.call' {s':IN} {ch:Ks Ko} (I:Inv X Ku σ H s) (ho:s'.os=s.os) (u:Un (frs X.stack) ch H H' s.heap s'.heap) (hok:HOk X.prog X.w H' s'.heap) (hg:AllBare s'.gens)
  (hch:∀b∈ch,(b∈X.ex\/X.s₀.heap.objs.size<=b)/\b≠X.env.locals/\(∀x c,X.env.cells.lookup x=some c->c≠b)/\∀p∈X.pn ++ Ku,p.1≠b):Inv X Ku σ H' s':=by
 obtain⟨h',g',d',t',o'⟩:=s';have e:o'=s.os:=ho;subst e;exact I.call (g':=g') (t':=t') (d':=d') u hok hg hch
end
abbrev XK:=Value->Kq Ko->Hp->Prop
abbrev St:=Ks (Kq V)
abbrev VK:=V->Hp->Prop
abbrev TE:=St->Hp->VK->Prop
abbrev TT:=St->Hp->(Bool->Hp->Prop)->Prop
abbrev TA:=St->Hp->(Ks V->Hp->Prop)->Prop
structure Ends where
 nx:St->Hp->Prop
 rt:VK
 bk:St->Hp->Prop:=λ _ _=>False
 ct:St->Hp->Prop:=λ _ _=>False
abbrev TS:=Ends->St->Hp->Prop
def EP (X:Cx) (Ku:Ks (Ko×Obj)) (σ:St) (Q:VK) (u:IS) (s':IN):Prop:=∃v H',Inv X Ku σ H' s'/\RelV v u/\Q v H'
def TP (X:Cx) (Ku:Ks (Ko×Obj)) (σ:St) (Q:Bool->Hp->Prop) (b:Bool) (s':IN):Prop:=∃H',Inv X Ku σ H' s'/\Q b H'
def AP (X:Cx) (Ku:Ks (Ko×Obj)) (σ:St) (Q:Ks V->Hp->Prop) (us:Ks IS) (s':IN):Prop:=∃vs H',Inv X Ku σ H' s'/\Vals vs us/\Q vs H'
def SP (X:Cx) (Ku:Ks (Ko×Obj)) (D:Ends) (f:Flow) (s':IN):Prop :=
 match f with
 | .next=>∃σ' H',Inv X Ku σ' H' s'/\D.nx σ' H'
 | .brk=>∃σ' H',Inv X Ku σ' H' s'/\D.bk σ' H'
 | .cont=>∃σ' H',Inv X Ku σ' H' s'/\D.ct σ' H'
 | .ret u=>∃v σ' H',Inv X Ku σ' H' s'/\RelV v u/\D.rt v H'
def PE (X:Cx) (e:Expr) (t:TE):Prop :=
 ∀ (Ku:Ks (Ko×Obj)) (s:IN) (σ:St) (H:Hp) (Q:VK),Inv X Ku σ H s->t σ H Q->wpAny (model X.prog X.w) X.A (eval e X.env) (EP X Ku σ Q) X.xe s
def PT (X:Cx) (e:Expr) (t:TT):Prop :=
 ∀ (Ku:Ks (Ko×Obj)) (s:IN) (σ:St) (H:Hp) (Q:Bool->Hp->Prop),Inv X Ku σ H s->t σ H Q->wpAny (model X.prog X.w) X.A (isTrue e X.env (eval e X.env)) (TP X Ku σ Q) X.xe s
def PW (X:Cx) (e:Expr) (t:TT):Prop :=
 ∀ (bF:Sem IS) (Ku:Ks (Ko×Obj)) (s:IN) (σ:St) (H:Hp) (Q:Bool->Hp->Prop),Inv X Ku σ H s->t σ H Q->wpAny (model X.prog X.w) X.A (isTrue e X.env bF) (TP X Ku σ Q) X.xe s
theorem PW.pt {X:Cx} {e:Expr} {t:TT} (h:PW X e t):PT X e t:=h _
def PA (X:Cx) (es:Ks Expr) (t:TA):Prop :=
 ∀ (pos:Pos) (Ku:Ks (Ko×Obj)) (s:IN) (σ:St) (H:Hp) (Q:Ks V->Hp->Prop),Inv X Ku σ H s->t σ H Q->wpAny (model X.prog X.w) X.A (spliced (backTo pos (starEach es X.env))) (AP X Ku σ Q) X.xe s
def PS (X:Cx) (st:Stmt) (t:TS):Prop :=
 ∀ (Ku:Ks (Ko×Obj)) (s:IN) (σ:St) (H:Hp) (D:Ends),Inv X Ku σ H s->t D σ H->wpAny (model X.prog X.w) X.A (exec st X.env) (SP X Ku D) X.xe s
def PSs (X:Cx) (st:Ks Stmt) (t:TS):Prop :=
 ∀ (Ku:Ks (Ko×Obj)) (s:IN) (σ:St) (H:Hp) (D:Ends),Inv X Ku σ H s->t D σ H->wpAny (model X.prog X.w) X.A (execs st X.env) (SP X Ku D) X.xe s
theorem thn {α:Type} {t:Sem α} {Q Q':α->IN->Prop} {M:Model} {A:Around} {E:IS->IN->Prop} {s:IN} (h:wpAny M A t Q E s) (hQ:∀a s,Q a s->Q' a s):wpAny M A t Q' E s:=K6 h hQ λ _ _ x=>x
section
variable {X:Cx}
theorem bin {a b:Expr} {ta tb:TE} (ha:PE X a ta) (hb:PE X b tb) {Ku:Ks (Ko×Obj)} {s:IN} {σ:St} {H:Hp} {R:V->V->Hp->Prop} (I:Inv X Ku σ H s) (h:ta σ H λ x H1=>tb σ H1 λ y H2=>R x y H2)
  {α:Type} {Q:α->IN->Prop} {f:IS->IS->Sem α}
  (hf:∀v u s2 x y H2,Inv X Ku σ H2 s2->RelV x v->RelV y u->R x y H2->wpAny (model X.prog X.w) X.A (f v u) Q X.xe s2) :
  wpAny (model X.prog X.w) X.A (eval a X.env) (λ v s₁=>wpAny (model X.prog X.w) X.A (eval b X.env) (λ u s₂=>wpAny (model X.prog X.w) X.A (f v u) Q X.xe s₂) X.xe s₁) X.xe s:=by
 apply thn (ha Ku s σ H _ I h) λ v s1 %[x,H1,I1,r1|q1]=>?_;apply thn (hb Ku s1 σ H1 _ I1 q1) λ u s2 %[y,H2,I2,r2|q2]=>?_;exact hf v u s2 x y H2 I2 r1 r2 q2
inductive tVar (i:Nat) (σ:St) (H:Hp) (Q:VK):Prop
 | mk (v:V) (e_0:σ[i]?=some (some v)) (e_1:Q v H):tVar i σ H Q
def tC (v:V):TE:=λ _ H Q=>Q v H
theorem xX {i:Nat} {x:Str} {pos:Pos} (hN:X.N[i]?=some x) (hv:Vis X.env.scope x) (hd:(x == ("__debug__" : Str))=false:=by decide) (hcd:(x == ("__classdict__" : Str))=false:=by decide):PE X (.Name x pos) (tVar i):=by
 intro Ku s σ H Q I h;obtain⟨v,e,h⟩:=h;obtain⟨m,hn,hl⟩:=I.loc;obtain⟨u,r,l⟩:=hl i x v hN e hv;have fin:EP X Ku σ Q u s:=%[v,H,I,r|h]
 rcases l with⟨hk,hm⟩ | ⟨hk,c,hc,hcell⟩
 ·exact wpAny_Name (wpAny_loadName_local I.ok.kind hk hn hm fin) hd
 ·rcases hk with hk | hk
  ·exact wpAny_Name (wpAny_loadName_cell I.ok.kind hk hc hcell fin) hd
  ·exact wpAny_Name (wpAny_loadName_free I.ok.kind hk hc hcell fin hcd) hd
theorem ad {i j pos}:PE X (.Constant (.int i) j pos) (tC (.int i)):=λ _ _ _ H _ I h=>wpAny_Constant_int %[.int i,H,I.tok _,%[_|rfl]|h]
theorem cD {b j pos}:PE X (.Constant (.bool b) j pos) (tC (.bl b)):=λ _ _ _ H _ I h=>Constant_bool %[.bl b,H,I,rfl|h]
def Gl (X:Cx) (x:Str):Prop:=X.env.kindOf x=some .globalImplicit
theorem kM {E:IS->IN->Prop} {Ku:Ks (Ko×Obj)} {s:IN} {σ:St} {H:Hp} {x:Str} {u:IS} {pos:Pos} {Q:IS->IN->Prop} (I:Inv X Ku σ H s) (hg:Gl X x) (hm:X.mg x=some u) (h:Q u s)
  (hd:(x == ("__debug__" : Str))=false:=by decide):wpAny (model X.prog X.w) X.A (eval (.Name x pos) X.env) Q E s :=
 Calls.Name_function_global I.ok.kind hg (Calls.loadGlobal_global (by rw[I.ok.glob];exact I.mod.glob.keeps I.bk) hm h) hd
theorem eI {E:IS->IN->Prop} {Ku:Ks (Ko×Obj)} {s:IN} {σ:St} {H:Hp} {x:Str} {u:IS} {pos:Pos} {Q:IS->IN->Prop} (I:Inv X Ku σ H s) (hg:Gl X x) (hm:X.mg x=none) (hv:bootBuiltins x=some u) (h:Q u s)
  (hn:x ≠ "__name__" := by decide) (hd:(x == ("__debug__" : Str))=false:=by decide):wpAny (model X.prog X.w) X.A (eval (.Name x pos) X.env) Q E s:=by
 obtain⟨mb,h1,h2⟩:=I.mod.blt;exact Calls.Name_function_global I.ok.kind hg (Calls.loadGlobal_builtin (by rw[I.ok.glob];exact I.mod.glob.keeps I.bk) hm (by rw[I.ok.blt];exact h1.keeps I.bk) ((h2 x hn).trans hv) h) hd
theorem cO {x:Str} {v:V} {u:IS} {pos:Pos} (hg:Gl X x) (hm:X.mg x=some u) (r:RelV v u) (hd:(x == ("__debug__" : Str))=false:=by decide):PE X (.Name x pos) (tC v) :=
 λ _ _ _ H _ I h=>kM I hg hm %[v,H,I,r|h] hd
theorem cJ {x:Str} {v:V} {u:IS} {pos:Pos} (hg:Gl X x) (hm:X.mg x=none) (hv:bootBuiltins x=some u) (r:RelV v u) (hn:x ≠ "__name__" := by decide) (hd:(x == ("__debug__" : Str))=false:=by decide):PE X (.Name x pos) (tC v) :=
 λ _ _ _ H _ I h=>eI I hg hm hv %[v,H,I,r|h] hn hd
variable {a b:Expr} {ta tb:TE} {pos:Pos}
def PC (X:Cx) (op:CmpOp) (a b:Expr) (t:TE):Prop :=
 ∀ (Ku:Ks (Ko×Obj)) (s:IN) (σ:St) (H:Hp) (Q:VK),Inv X Ku σ H s->t σ H Q ->
  wpAny (model X.prog X.w) X.A (eval a X.env) (λ v s₁=>wpAny (model X.prog X.w) X.A (eval b X.env) (λ u s₂=>wpAny (model X.prog X.w) X.A (compareOp op v u) (EP X Ku σ Q) X.xe s₂) X.xe s₁) X.xe s
inductive IsB (x:V) (Q:Bool->Prop):Prop
 | mk (c:Bool) (e:x=.bl c) (q:Q c):IsB x Q
def tB (t:TE):TT:=λ σ H Q=>t σ H λ x H1=>IsB x λ c=>Q c H1
theorem xY {op:CmpOp} {t:TE} (h:PC X op a b t) (h1:behindInMarks op b=false:=by first | exact nobehind _ ∅ ∅ | rfl):PT X (.Compare a [op] [b] pos) (tB t):=by intro Ku s σ H Q I hw;apply wpAny_isTrue_Compare1 (thn (h Ku s σ H _ I hw) λ v s1 h1=>thn h1 λ u s2 h2=>thn h2 λ c s3 %[x,H1,I1,r1|q1]=>?_) h1;obtain⟨d,rfl,q⟩:=q1;cases r1;exact G4 %[H1,I1|q]
theorem aM {e:Expr} {t:TE} (h:PE X e t) (he:∀bF,isTrue e X.env bF=(do let v<-bF;standAt e.pos;holding [v] (truthy v)):=by intro _;rfl):PT X e (tB t):=by intro Ku s σ H Q I hw;apply isTrue_plain (thn (h Ku s σ H _ I hw) λ v s1 %[x,H1,I1,r1|q1]=>?_) (he _);obtain⟨d,rfl,q⟩:=q1;cases r1;exact G4 %[H1,I1|q]
variable {tA tB':TT} {rest:Ks Expr}
def FR (t u:TT):TT:=λ σ H Q=>t σ H λ c H1=>if c=true then u σ H1 Q else Q false H1
def tOr (t u:TT):TT:=λ σ H Q=>t σ H λ c H1=>if c=true then Q true H1 else u σ H1 Q
def FS (t:TT):TT:=λ σ H Q=>t σ H λ c H1=>Q (!c) H1
theorem pj (ha:PT X a tA):PW X (.BoolOp .And [a] pos) tA:=by
 intro wh Ku s σ H Q I h;apply isTrue_and (thn (ha Ku s σ H Q I h) λ c s1 e=>?_);cases c with
 | true=>exact isTrue_and_nil e
 | false=>exact e
theorem cG (ha:PT X a tA):PW X (.BoolOp .Or [a] pos) tA:=by
 intro wh Ku s σ H Q I h;apply isTrue_or (thn (ha Ku s σ H Q I h) λ c s1 e=>?_);cases c with
 | false=>exact isTrue_or_nil e
 | true=>exact e
theorem tK (ha:PT X a tA) (hb:PW X (.BoolOp .And (b :: rest) pos) tB'):PW X (.BoolOp .And (a :: b :: rest) pos) (FR tA tB'):=by
 intro wh Ku s σ H Q I h;apply isTrue_and (thn (ha Ku s σ H _ I h) λ c s1 %[H1,I1|q1]=>?_);cases c with
 | true=>exact hb wh Ku s1 σ H1 Q I1 q1
 | false=>exact%[H1,I1|q1]
theorem cF (ha:PT X a tA) (hb:PW X (.BoolOp .Or (b :: rest) pos) tB'):PW X (.BoolOp .Or (a :: b :: rest) pos) (tOr tA tB'):=by
 intro wh Ku s σ H Q I h;apply isTrue_or (thn (ha Ku s σ H _ I h) λ c s1 %[H1,I1|q1]=>?_);cases c with
 | true=>exact%[H1,I1|q1]
 | false=>exact hb wh Ku s1 σ H1 Q I1 q1
theorem aU (ha:PT X a tA):PT X (.UnaryOp .Not a pos) (FS tA):=by intro Ku s σ H Q I h;exact isTrue_not (ha Ku s σ H (λ c H1=>Q (!c) H1) I h)
def Ar (ta tb:TE):TE:=λ σ H Q=>ta σ H λ x H1=>IsB x λ c=>if c=true then tb σ H1 Q else Q (.bl false) H1
def FT (ta tb:TE):TE:=λ σ H Q=>ta σ H λ x H1=>IsB x λ c=>if c=true then Q (.bl true) H1 else tb σ H1 Q
def As (ta:TE):TE:=λ σ H Q=>ta σ H λ x H1=>IsB x λ c=>Q (.bl (!c)) H1
theorem fA {op} {t:TE} (h:PE X a t):PE X (.BoolOp op [a] pos) t:=λ Ku s σ H Q I hw=>BoolOp_one (h Ku s σ H Q I hw)
theorem eJ (ha:PE X a ta) (hb:PE X (.BoolOp .And (b :: rest) pos) tb):PE X (.BoolOp .And (a :: b :: rest) pos) (Ar ta tb):=by
 intro Ku s σ H Q I h;apply BoolOp_and (thn (ha Ku s σ H _ I h) λ v s1 %[x,H1,I1,r1|q1]=>?_);obtain⟨c,rfl,q1⟩:=q1;cases r1;apply G4 ?_;cases c with
 | true=>exact hb Ku s1 σ H1 Q I1 q1
 | false=>exact%[.bl false,H1,I1,Y|q1]
theorem At (ha:PE X a ta) (hb:PE X (.BoolOp .Or (b :: rest) pos) tb):PE X (.BoolOp .Or (a :: b :: rest) pos) (FT ta tb):=by
 intro Ku s σ H Q I h;apply BoolOp_or (thn (ha Ku s σ H _ I h) λ v s1 %[x,H1,I1,r1|q1]=>?_);obtain⟨c,rfl,q1⟩:=q1;cases r1;apply G4 ?_;cases c with
 | false=>exact hb Ku s1 σ H1 Q I1 q1
 | true=>exact%[.bl true,H1,I1,Y|q1]
theorem tL (ha:PE X a ta):PE X (.UnaryOp .Not a pos) (As ta):=by intro Ku s σ H Q I h;apply UnaryOp_ (thn (ha Ku s σ H _ I h) λ v s1 %[x,H1,I1,r1|q1]=>?_);obtain⟨c,rfl,q1⟩:=q1;cases r1;exact not_of (G4 %[.bl (!c),H1,I1,rfl|q1])
def tIf (t:TT) (ta tb:TE):TE:=λ σ H Q=>t σ H λ c H1=>if c=true then ta σ H1 Q else tb σ H1 Q
theorem tM {c:Expr} (hc:PT X c tA) (ha:PE X a ta) (hb:PE X b tb):PE X (.IfExp c a b pos) (tIf tA ta tb):=by
 intro Ku s σ H Q I h;apply wpAny_IfExp (thn (hc Ku s σ H _ I h) λ d s1 %[H1,I1|q1]=>?_);cases d with
 | true=>exact ha Ku s1 σ H1 Q I1 q1
 | false=>exact hb Ku s1 σ H1 Q I1 q1
end
def SqL (K:C6) (H:Hp) (a:Ko) (xs:Ks V):Prop :=
 Rd H a (.lst xs) \/
  ∃ (o:Obj) (its:Kr IS) (n:Nat),K.lookup a=some o/\o.cls=.type "list" /\ o.dict=none/\o.data=.seq its n/\its.size<=sizeLine/\Vals xs its.toList
def SqT (K:C6) (H:Hp) (a:Ko) (xs:Ks V):Prop :=
 Rd H a (.tup xs) \/
  ∃ (o:Obj) (its:Kr IS) (n:Nat),K.lookup a=some o/\o.cls=.type "tuple" /\ o.data=.seq its n/\its.size<=sizeLine/\Vals xs its.toList
def FU:IS->Kq V
 | .none=>some .non
 | .bool b=>some (.bl b)
 | .int i _=>⇑i
 | .str x _=>some (.str x)
 | .bytes b _=>some (.byt b)
 | .float b _=>some (.flt b)
 | .ref a=>↑a
 | .type n=>some (.ty n)
 | _=>none
theorem RelV.abs {x:V} {u:IS} (r:RelV x u):FU u=some x:=by
 cases x with
 | non=>cases r;rfl
 | bl _=>cases r;rfl
 | int _=>obtain⟨t,rfl⟩:=r;rfl
 | str _=>obtain⟨t,rfl⟩:=r;rfl
 | byt _=>obtain⟨t,rfl⟩:=r;rfl
 | flt _=>obtain⟨t,rfl⟩:=r;rfl
 | ref _=>cases r;rfl
 | ty _=>cases r;rfl
theorem RelV.inj {x y:V} {u:IS} (r:RelV x u) (q:RelV y u):x=y:=C0 (r.abs.symm.trans q.abs)
theorem Vals.inj:∀ {xs ys:Ks V} {us:Ks IS},Vals xs us->Vals ys us->xs=ys
 | _,_,_,.nil,.nil=>rfl
 | _,_,_,.cons r t,.cons r' t'=>by rw[r.inj r',Vals.inj t t']
section
variable {X:Cx} {Ku:Ks (Ko×Obj)} {σ:St} {H:Hp} {s:IN} {a:Ko} {xs ys:Ks V}
theorem SqL.of {K:C6} (h:H a=↥xs):SqL K H a xs:=.inl (.inl h)
abbrev IV:=@SqL.of
theorem SqT.of {K:C6} (h:H a= ~~~xs):SqT K H a xs:=.inl (.inl h)
abbrev IU:=@SqT.of
theorem Inv.list (I:Inv X Ku σ H s) (h:SqL X.K H a xs):∃its:Ks IS,Vals xs its/\PlainL s.heap a its.toArray/\xs.length<=sizeLine:=by
 rcases h with h | ⟨o,its,n,hk,hc,hd,hs,hz,r⟩
 ·obtain⟨z,its,n,r,e⟩:=h.ok I.hok;exact%[its,r,%[_,n,e,Y,Y|Y]|z]
 ·apply%[its.toList,r,%[o,n,I.kIn a o hk,hc,hd|by simpa using hs]|?_];have e:=r.length;simp only[JR]at e;lia
theorem Inv.tuple (I:Inv X Ku σ H s) (h:SqT X.K H a xs):∃its:Ks IS,Vals xs its/\IsTup s.heap a its.toArray/\xs.length<=sizeLine:=by
 rcases h with h | ⟨o,its,n,hk,hc,hs,hz,r⟩
 ·obtain⟨z,its,r,p⟩:=h.ok I.hok;exact%[its,r,p|z]
 ·apply%[its.toList,r,%[o,I.kIn a o hk,hc,n|by simpa using hs]|?_];have e:=r.length;simp only[JR]at e;lia
theorem Inv.list_inj (I:Inv X Ku σ H s) (h:SqL X.K H a xs) (h':SqL X.K H a ys):xs=ys:=by
 obtain⟨its,r,⟨o,n,e,_,_,d⟩,_⟩:=I.list h;obtain⟨its',r',⟨o',n',e',_,_,d'⟩,_⟩:=I.list h';rw[e]at e';cases e';rw[d]at d';injection d' with d1 _
 have:its=its':=by simpa using Li Array.toList d1
 subst this;exact r.inj r'
theorem Inv.tuple_inj (I:Inv X Ku σ H s) (h:SqT X.K H a xs) (h':SqT X.K H a ys):xs=ys:=by
 obtain⟨its,r,⟨o,e,_,n,d⟩,_⟩:=I.tuple h;obtain⟨its',r',⟨o',e',_,n',d'⟩,_⟩:=I.tuple h';rw[e]at e';cases e';rw[d]at d';injection d' with d1 _
 have:its=its':=by simpa using Li Array.toList d1
 subst this;exact r.inj r'
end
abbrev Cx.wish (X:Cx) (E:IS->IN->Prop):Cx:={ X with xe:=E }
abbrev Cx.nox (X:Cx):Cx:=X.wish λ _ _=>False
theorem Cx.Ok.wish {X:Cx} (ok:X.Ok) (E:IS->IN->Prop):(X.wish E).Ok :=
 %[ok.mod,ok.kind,ok.glob,ok.blt,ok.above,ok.inj,ok.has,ok.cab,ok.hd,ok.frames,ok.stk,ok.exf,ok.bs,ok.bsz,ok.noex,ok.exfs,ok.funs|ok.frf]
theorem Cx.Ok.unwish {X:Cx} {E:IS->IN->Prop} (ok:(X.wish E).Ok):X.Ok :=
 %[ok.mod,ok.kind,ok.glob,ok.blt,ok.above,ok.inj,ok.has,ok.cab,ok.hd,ok.frames,ok.stk,ok.exf,ok.bs,ok.bsz,ok.noex,ok.exfs,ok.funs|ok.frf]
section
variable {X:Cx} {Ku:Ks (Ko×Obj)} {σ:St} {H:Hp} {s:IN} {E:IS->IN->Prop}
theorem Inv.wish (I:Inv X Ku σ H s) (E:IS->IN->Prop):Inv (X.wish E) Ku σ H s:=%[I.ok.wish E,I.os,I.bare,I.base,I.loc,I.cell,I.free,I.freeC,I.pin,I.hok|I.len]
theorem Inv.unwish (I:Inv (X.wish E) Ku σ H s):Inv X Ku σ H s:=%[I.ok.unwish,I.os,I.bare,I.base,I.loc,I.cell,I.free,I.freeC,I.pin,I.hok|I.len]
theorem SP.unwish {D:Ends} {f:Flow} {s':IN} (h:SP (X.wish E) Ku D f s'):SP X Ku D f s':=by
 cases f with
 | next=>obtain⟨σ',H',I,q⟩:=h;exact%[σ',H',I.unwish|q]
 | brk=>obtain⟨σ',H',I,q⟩:=h;exact%[σ',H',I.unwish|q]
 | cont=>obtain⟨σ',H',I,q⟩:=h;exact%[σ',H',I.unwish|q]
 | ret u=>obtain⟨v,σ',H',I,r,q⟩:=h;exact%[v,σ',H',I.unwish,r|q]
theorem PSs.nox {st:Ks Stmt} {t:TS} (h:PSs X.nox st t):PSs X st t:=λ Ku s σ H D I hw=>
 K6 (h Ku s σ H D (I.wish _) hw) (λ _ _ q=>q.unwish) λ _ _ z=>E9 z
end
section
variable {X:Cx} {st:Stmt} {rest:Ks Stmt} {t u:TS} {e:Expr} {te:TE} {pos:Pos}
def Au:TS:=λ D σ H=>D.nx σ H
def Av (t u:TS):TS:=λ D σ H=>t { D with nx:=u D } σ H
theorem aD:PSs X [] Au:=λ _ _ σ H _ I h=>wpAny_execs_nil %[σ,H,I|h]
theorem af (h1:PS X st t) (h2:PSs X rest u):PSs X (st :: rest) (Av t u):=by
 intro Ku s σ H D I h;apply wpAny_execs_cons (thn (h1 Ku s σ H { D with nx:=u D } I h) λ f s1 q=>?_);cases f with
 | next=>
  obtain⟨σ',H',I',q⟩:=q;exact h2 Ku s1 σ' H' D I' q
 | ret v=>exact q
 | brk=>exact q
 | cont=>exact q
theorem ag (h1:PS X st t):PSs X [st] t:=by
 intro Ku s σ H D I h;apply wpAny_execs_cons (thn (h1 Ku s σ H D I h) λ f s1 q=>?_);cases f with
 | next=>exact wpAny_execs_nil q
 | ret v=>exact q
 | brk=>exact q
 | cont=>exact q
theorem Inv.quiet {Ku:Ks (Ko×Obj)} {σ:St} {H:Hp} {s:IN} (I:Inv X Ku σ H s):interactive X.env=false:=by simp[interactive,I.ok.kind]
def Aw (te:TE):TS:=λ D σ H=>te σ H λ _ H1=>D.nx σ H1
theorem bS (he:PE X e te) (hs:swapsWith e none pos.line X.env=pure false:=by rfl):PS X (.Expr e pos) (Aw te):=by intro Ku s σ H D I h;exact wpAny_Expr_any (thn (he Ku s σ H _ I h) λ v s1 %[x,H1,I1,r1|q1]=>%[σ,H1,I1|q1]) I.quiet hs
def FV (te:TE):TS:=λ D σ H=>te σ H D.rt
theorem ao (he:PE X e te):PS X (.Return (some e) pos) (FV te):=by intro Ku s σ H D I h;exact wpAny_Return_some (thn (he Ku s σ H _ I h) λ v s1 %[x,H1,I1,r1|q1]=>%[x,σ,H1,I1,r1|q1])
def FW (c:TT) (t u:TS):TS:=λ D σ H=>c σ H λ b H1=>if b=true then t D σ H1 else u D σ H1
theorem aZ {c:Expr} {a b:Ks Stmt} {tc:TT} (hc:PT X c tc) (ha:PSs X a t) (hb:PSs X b u):PS X (.If c a b pos) (FW tc t u):=by
 intro Ku s σ H D I h;apply wpAny_If (thn (hc Ku s σ H _ I h) λ d s1 %[H1,I1|q1]=>?_);cases d with
 | true=>exact ha Ku s1 σ H1 D I1 q1
 | false=>exact hb Ku s1 σ H1 D I1 q1
def tN:TS:=λ _ _ _=>False
theorem fN:PS X st tN:=λ _ _ _ _ _ _ h=>h.elim
theorem gt {sts:Ks Stmt}:PSs X sts tN:=λ _ _ _ _ _ _ h=>h.elim
end
abbrev TG:=V->St->Hp->(St->Hp->Prop)->Prop
abbrev TGs:=Ks V->St->Hp->(St->Hp->Prop)->Prop
def PG (X:Cx) (target:Expr) (t:TG):Prop :=
 ∀ (Ku:Ks (Ko×Obj)) (s:IN) (σ:St) (H:Hp) (v:V) (u:IS) (Q:St->Hp->Prop),Inv X Ku σ H s->RelV v u->t v σ H Q ->
  wpAny (model X.prog X.w) X.A (assign target X.env u) (λ _ s'=>∃σ' H',Inv X Ku σ' H' s'/\Q σ' H') X.xe s
def PGs (X:Cx) (ts:Ks Expr) (t:TGs):Prop :=
 ∀ (Ku:Ks (Ko×Obj)) (s:IN) (σ:St) (H:Hp) (vs:Ks V) (us:Ks IS) (Q:St->Hp->Prop),Inv X Ku σ H s->Vals vs us->t vs σ H Q ->
  wpAny (model X.prog X.w) X.A (assignInOrder ((assignEach ts X.env).map (·.2)) us) (λ _ s'=>∃σ' H',Inv X Ku σ' H' s'/\Q σ' H') X.xe s
abbrev xZ:=V->V->V->Hp->(Hp->Prop)->Prop
def Ax (X:Cx) (t:xZ):Prop :=
 ∀ (Ku:Ks (Ko×Obj)) (s:IN) (σ:St) (H:Hp) (o i v:V) (ov iv u:IS) (Q:Hp->Prop),Inv X Ku σ H s->RelV o ov->RelV i iv->RelV v u->t o i v H Q ->
  wpAny (model X.prog X.w) X.A (setItem ov iv u) (λ _ s'=>∃H',Inv X Ku σ H' s'/\Q H') X.xe s
section
variable {X:Cx} {pos:Pos}
def fO (i:Nat):TG:=λ v σ H Q=>Q (σ.set i (some v)) H
theorem aj {i:Nat} {x:Str} (hN:X.N.Nodup) (hi:X.N[i]?=some x) (hx:Loc X.env.scope x) (hf:X.fn x=true\/X.env.scope.names.lookup x=some .local:=by first | exact .inl rfl | exact .inr rfl | assumption):PG X (.Name x pos) (fO i):=by intro Ku s σ H v u Q I r h;exact wpAny_assign_Name (lV I hN hi hx r (λ s' I'=>%[_,H,I'|h]) hf)
def yb:TGs:=λ vs σ H Q=>vs=[]/\Q σ H
inductive gCons (t:TG) (u:TGs) (vs:Ks V) (σ:St) (H:Hp) (Q:St->Hp->Prop):Prop
 | mk (v:V) (r:Ks V) (e_0:vs=v :: r) (e_1:t v σ H λ σ' H'=>u r σ' H' Q):gCons t u vs σ H Q
theorem bp:PGs X [] yb:=by intro Ku s σ H vs us Q I r h;obtain⟨e,h⟩:=h;subst e;cases r;exact assignInOrder_nil %[σ,H,I|h]
theorem am {e:Expr} {es:Ks Expr} {t:TG} {u:TGs} (h1:PG X e t) (h2:PGs X es u)
  (hs:(assignEach (e :: es) X.env).map (·.2)=assign e X.env :: (assignEach es X.env).map (·.2):=by rfl):PGs X (e :: es) (gCons t u):=by
 intro Ku s σ H vs us Q I r h;obtain⟨v,vr,e1,h⟩:=h;subst e1;cases r with
 | cons r rr=>
  rw[hs];apply assignInOrder_cons (thn (h1 Ku s σ H _ _ _ I r h) λ _ s1 %[σ1,H1,I1|q1]=>?_);exact h2 Ku s1 σ1 H1 _ _ Q I1 rr q1
inductive gTup (K:C6) (n:Nat) (t:TGs) (v:V) (σ:St) (H:Hp) (Q:St->Hp->Prop):Prop
 | mk (a:Ko) (xs:Ks V) (e_0:v=.ref a) (e_1:SqT K H a xs) (e_2:xs.length=n) (e_3:t xs σ H Q):gTup K n t v σ H Q
theorem bU {es:Ks Expr} {k:Nat} {t:TGs} {n:Nat} (hc:X.calm=true) (h:PGs X es t)
  (hn:(assignEach es X.env).length=n:=by rfl) (hst:(assignEach es X.env).findIdx? (·.1)=none:=by rfl):PG X (.Tuple es k pos) (gTup X.K n t):=by
 intro Ku s σ H v u Q I r hw;obtain⟨a,xs,e1,hq,hl,hw⟩:=hw;subst e1;cases r;obtain⟨its,rv,ht,hz⟩:=I.tuple hq;apply assign_Tuple_tuple (I.ok.hd hc) ht (by simp[hn,<- hl,rv.length]) hst λ h' hx=>?_;have I1:Inv X Ku σ H { s with heap:=h' }:=I.kept (t':=s.toks) λ b o e=>hx b o (C1 (B0 e)) e;exact h Ku _ σ H xs _ Q I1 (by simpa using rv) hw
def FX (to ti:TE) (t:xZ):TG:=λ v σ H Q=>to σ H λ o H1=>ti σ H1 λ i H2=>t o i v H2 λ H3=>Q σ H3
theorem tO {o i:Expr} {to ti:TE} {t:xZ} (ho:PE X o to) (hi:PE X i ti) (hs:Ax X t)
  (ha:∀v,assign (.Subscript o i pos) X.env v=(do
   let ov<-holding [v] (eval o X.env)
   let iv<-holding [v,ov] (eval i X.env)
   standAt pos
   holding [v,ov,iv] (setItem ov iv v)
   release [v,ov,iv] []):=by intro _;rfl):PG X (.Subscript o i pos) (FX to ti t):=by
 intro Ku s σ H v u Q I r h;rw[ha];apply A0 (K2 (thn (ho Ku s σ H _ I h) λ ov s1 %[x,H1,I1,r1|q1]=>?_));apply A0 (K2 (thn (hi Ku s1 σ H1 _ I1 q1) λ iv s2 %[y,H2,I2,r2|q2]=>?_));apply A0 (LM (A0 (K2 (thn (hs Ku s2 σ H2 x y v ov iv u _ I2 r1 r2 r q2) λ _ s3 %[H3,I3|q3]=>?_))));exact wpAny_release %[σ,H3,I3|q3]
def wc (te:TE) (g:TG):TS:=λ D σ H=>te σ H λ x H1=>g x σ H1 D.nx
theorem eK {tg e:Expr} {te:TE} {g:TG} (he:PE X e te) (hg:PG X tg g) (hs:swapsWithSole [tg] e pos.line X.env=pure false:=by rfl) (hw:swappedStores [tg] e X.env=pure none:=by rfl)
  (h1:(assignEach [tg] X.env).map (·.2)=[assign tg X.env]:=by rfl):PS X (.Assign [tg] e pos) (wc te g):=by
 intro Ku s σ H D I h;apply wpAny_Assign_stores (thn (he Ku s σ H _ I h) λ v s1 %[x,H1,I1,r1|q1]=>?_) hs hw;rw[h1];exact thn (hg Ku s1 σ H1 x v _ I1 r1 q1) λ _ s2 q=>q
theorem aV {i:Nat} {x:Str} {e:Expr} {te:TE} {pos':Pos} (hN:X.N.Nodup) (hi:X.N[i]?=some x) (hx:Loc X.env.scope x) (he:PE X e te) (hs:swapsWith e (some (.Name x pos')) pos.line X.env=pure false:=by rfl) (hf:X.fn x=true\/X.env.scope.names.lookup x=some .local:=by first | exact .inl rfl | exact .inr rfl | assumption) :
  PS X (.Assign [.Name x pos'] e pos) (wc te (fO i)):=by
 intro Ku s σ H D I h;apply wpAny_Assign_Name (thn (he Ku s σ H _ I h) λ v s1 %[y,H1,I1,r1|q1]=>?_) hs;exact lV I1 hN hi hx r1 (λ s2 I2=>%[_,H1,I2|q1]) hf
end
structure It where
 go:Nat->Hp->Prop
 yld:Nat->Hp->V->Hp->Prop
 stop:Nat->Hp->Prop
def cP (X:Cx) (Ku:Ks (Ko×Obj)) (H:Hp) (b:Ko):Prop :=
 H b=none/\b≠X.env.locals/\b∉X.fs/\(b∈X.ex\/X.s₀.heap.objs.size<=b)/\(∀x c,X.env.cells.lookup x=some c->c≠b)/\∀p∈X.pn ++ Ku,p.1≠b
theorem Inv.fpOk {X:Cx} {Ku:Ks (Ko×Obj)} {σ:St} {H H':Hp} {s:IN} {b:Ko} (I:Inv X Ku σ H s) (hb:s.heap.objs.size<=b) (hn:H' b=none):cP X Ku H' b:=by
 apply%[hn,JW (C3 I.lt hb),I.nofs hb,.inr (C7 I.sz hb),λ x c e z=>?_|λ p hp z=>?_]
 ·obtain⟨v,q⟩:=I.cell x c e;exact absurd (C3 q.lt (by rw[z];exact hb)) (E2 _)
 ·exact absurd (C3 (B0 (I.pin p hp).1) (by rw[z];exact hb)) (E2 _)
structure Turn (P:Program) (w:World) (K:C6) (tg:Expr) (J:It) (fp:Ks Ko) (it:Ko) (tn:Nat->Heap->Prop):Prop where
 mem:it∈fp
 obj:∀i h,tn i h->∀b∈fp,∃o,h.get? b=some o/\∀v,o.data≠.cell v
 keep:∀i h h',tn i h->(∀b∈fp,∀o,h.get? b=some o->h'.get? b=some o)->tn i h'
 item:∀ (X:Cx),X.prog=P->X.w=w->X.K=K->X.calm=true->∀ (i:Nat) (Ku:Ks (Ko×Obj)) (s:IN) (σ:St) (H:Hp) (E:IS->IN->Prop),Inv X Ku σ H s->(∀b∈fp,cP X Ku H b)->tn i s.heap->J.go i H ->
  wpAny (model P w) X.A (pyNext (.ref it)) (λ r s1=>∃u,r=some u /\
   wpAny (model P w) X.A (letOwnedTupleGo tg (.ref it) u) (λ _ s2=>∃x H',Inv X Ku σ H' s2/\RelV x u/\J.yld i H x H'/\tn (i+1) s2.heap/\∀b∈fp,H' b=none) E s1) E s
 done:∀ (X:Cx),X.prog=P->X.w=w->X.K=K->X.calm=true->∀ (i:Nat) (Ku:Ks (Ko×Obj)) (s:IN) (σ:St) (H:Hp) (E:IS->IN->Prop),Inv X Ku σ H s->(∀b∈fp,cP X Ku H b)->tn i s.heap->J.stop i H ->
  wpAny (model P w) X.A (pyNext (.ref it)) (λ r s1=>r=none/\Inv X Ku σ H s1) E s
 self:∀ (A:Around) (i:Nat) (s:IN) (Q:IS->IN->Prop) (E:IS->IN->Prop),tn i s.heap->Q (.ref it) s->wpAny (model P w) A (pyIter (.ref it)) Q E s
abbrev TI:=St->Hp->(It->Hp->Prop)->Prop
def PIE (X:Cx) (Ku:Ks (Ko×Obj)) (σ:St) (tg:Expr) (R:It->Hp->Prop) (itv:IS) (s2:IN):Prop :=
 ∃ (it:Ko) (fp:Ks Ko) (tn:Nat->Heap->Prop) (J:It) (H':Hp),itv=.ref it/\Inv X Ku σ H' s2/\Turn X.prog X.w X.K tg J fp it tn/\tn 0 s2.heap/\(∀b∈fp,cP X Ku H' b)/\R J H'
def PI (X:Cx) (tg iter:Expr) (wi:TI):Prop :=
 ∀ (Ku:Ks (Ko×Obj)) (s:IN) (σ:St) (H:Hp) (R:It->Hp->Prop),Inv X Ku σ H s->wi σ H R ->
  wpAny (model X.prog X.w) X.A (eval iter X.env) (λ v s1=>wpAny (model X.prog X.w) X.A (pyIter v) (PIE X Ku σ tg R) X.xe s1) X.xe s
theorem pC {M:Model} {A:Around} {E:IS->IN->Prop} {s:IN} {tg:Expr} {it:Ko} {u:IS} {o:Obj} {n:String} {vs:Kr IS} {Q:Unit->IN->Prop} (ho:s.heap.get? it=some o) (hc:o.cls=.type n) (hd:o.data=.fields vs)
    (hn:["enumerate","zip","dict_itemiterator","dict_reverseitemiterator","odict_iterator","itertools.zip_longest","itertools.pairwise"].contains n=false) (hQ:Q () s):wpAny M A (letOwnedTupleGo tg (.ref it) u) Q E s:=by
  unfold letOwnedTupleGo;cases tg <;> first
    | exact A3 hQ
    | (cases u <;> first
        | exact A3 hQ
        | (apply A0 (wpAny_load ho ?_)
           rw[hc,hd];show wpAny M A (if (["enumerate","zip","dict_itemiterator","dict_reverseitemiterator","odict_iterator","itertools.zip_longest","itertools.pairwise"].contains n && vs[0]? == some (rawInt _))=true then _ else _) Q E s;rw[Ky (by intro h;rw[hn,Bool.false_and]at h;cases h)];exact A3 hQ))
def Itl (K:C6) (a:Ko):It :=
 %[λ i H=>∃xs x,SqL K H a xs/\xs[i]?=some x,λ i H x H'=>H'=H/\∀xs,SqL K H a xs->xs[i]?=some x|λ i H=>∃xs,SqL K H a xs/\xs.length<=i]
def Itt (K:C6) (a:Ko):It :=
 %[λ i H=>∃xs x,SqT K H a xs/\xs[i]?=some x,λ i H x H'=>H'=H/\∀xs,SqT K H a xs->xs[i]?=some x|λ i H=>∃xs,SqT K H a xs/\xs.length<=i]
def Itr (lo:Int) (n:Nat):It:=%[λ i _=>i < n,λ i H x H'=>H'=H/\x=.int (lo+i)|λ i _=>n<=i]
theorem qF {P:IP} {w:IR} {K:C6} {tg:Expr} (a it:Ko):Turn P w K tg (Itl K a) [it] it (λ i h=>h.IsListIter it a i) where
 mem:=by simp
 obj:=λ i h st b hb=>by
  have e:b=it:=by simpa using hb
  subst e;obtain⟨o,e,c,d⟩:=st;exact%[o,e|λ v z=>by rw[d]at z;cases z]
 keep:=λ i h h' st k=>st.at λ o e=>k it (by simp) o e
 item:=by intro X hP hw hK hc i Ku s σ H E I hf st hg;subst hP hw hK;obtain⟨xs,x,hq,hx⟩:=hg;obtain⟨its,rv,p,hz⟩:=I.list hq;obtain⟨u,hu,ru⟩:=rv.get hx;obtain⟨f0,f1,f2,f3,f4,f5⟩:=hf it (by simp);apply wpAny_pyNext_list_item st p.isList (x:=u) (by simpa using hu) λ h' st' sb=>?_;have I1:Inv X Ku σ H { s with heap:=h' }:=I.turned (t':=s.toks) (λ b o hb e=>(sb.2 b hb).trans e) f0 f1 f3 f4 f5;obtain⟨o,e,c,d⟩:=id st';exact%[u,Y|pC (s:={ s with heap:=h' }) e c d ∅ %[x,H,I1,ru,%[Y|λ ys hy=>by rw[I.list_inj hy hq];exact hx],st'|λ b hb=>(hf b hb).1]]
 done:=by intro X hP hw hK hc i Ku s σ H E I hf st hg;subst hP hw hK;obtain⟨xs,hq,hx⟩:=hg;obtain⟨its,rv,p,hz⟩:=I.list hq;obtain⟨f0,f1,f2,f3,f4,f5⟩:=hf it (by simp);have hl:=rv.length;exact wpAny_pyNext_list_end (I.ok.hd hc) st p.isList (by simp;lia) λ h' eb=>%[Y|I.turned (t':=s.toks) (λ b o hb e=>eb b o hb e) f0 f1 f3 f4 f5]
 self:=λ _ _ _ _ _ st h=>wpAny_pyIter_listiter st h
theorem nk {P:IP} {w:IR} {K:C6} {tg:Expr} (a it:Ko):Turn P w K tg (Itt K a) [it] it (λ i h=>h.IsTupleIter it a i) where
 mem:=by simp
 obj:=λ i h st b hb=>by
  have e:b=it:=by simpa using hb
  subst e;obtain⟨o,e,c,d⟩:=st;exact%[o,e|λ v z=>by rw[d]at z;cases z]
 keep:=λ i h h' st k=>st.at λ o e=>k it (by simp) o e
 item:=by intro X hP hw hK hc i Ku s σ H E I hf st hg;subst hP hw hK;obtain⟨xs,x,hq,hx⟩:=hg;obtain⟨its,rv,p,hz⟩:=I.tuple hq;obtain⟨u,hu,ru⟩:=rv.get hx;obtain⟨f0,f1,f2,f3,f4,f5⟩:=hf it (by simp);apply wpAny_pyNext_tuple_item st (show s.heap.IsTuple a its.toArray from p) (x:=u) (by simpa using hu) λ h' st' sb=>?_;have I1:Inv X Ku σ H { s with heap:=h' }:=I.turned (t':=s.toks) (λ b o hb e=>(sb.2 b hb).trans e) f0 f1 f3 f4 f5;obtain⟨o,e,c,d⟩:=id st';exact%[u,Y|pC (s:={ s with heap:=h' }) e c d ∅ %[x,H,I1,ru,%[Y|λ ys hy=>by rw[I.tuple_inj hy hq];exact hx],st'|λ b hb=>(hf b hb).1]]
 done:=by intro X hP hw hK hc i Ku s σ H E I hf st hg;subst hP hw hK;obtain⟨xs,hq,hx⟩:=hg;obtain⟨its,rv,p,hz⟩:=I.tuple hq;obtain⟨f0,f1,f2,f3,f4,f5⟩:=hf it (by simp);have hl:=rv.length;exact wpAny_pyNext_tuple_end (I.ok.hd hc) st (show s.heap.IsTuple a its.toArray from p) (by simp;lia) λ h' eb=>%[Y|I.turned (t':=s.toks) (λ b o hb e=>eb b o hb e) f0 f1 f3 f4 f5]
 self:=λ _ _ _ _ _ st h=>wpAny_pyIter_tupleiter st h
theorem iq {P:IP} {w:IR} {K:C6} {tg:Expr} (it:Ko) (lo:Int) (n:Nat):Turn P w K tg (Itr lo n) [it] it (λ i h=>IsRangeIter h it (lo+(i:Nat) * 1) ((n:Int) - (i:Nat)) 1) where
 mem:=by simp
 obj:=λ i h st b hb=>by
  have e:b=it:=by simpa using hb
  subst e;exact⟨_,st,λ v z=>by
   have z':Data.fields _=Data.cell v:=z;cases z'⟩
 keep:=λ i h h' st k=>k it (by simp) _ st
 item:=by intro X hP hw hK hc i Ku s σ H E I hf st hg;subst hP hw hK;obtain⟨f0,f1,f2,f3,f4,f5⟩:=hf it (by simp);have W:=Walks.range (prog:=X.prog) (w:=X.w) (I.ok.hd hc) it lo 1 n;apply W.item i s _ _ hg st λ v h' tk hv st' kk=>?_;obtain⟨t,rfl⟩:=hv;have I1:Inv X Ku σ H { s with heap:=h',toks:=tk }:=I.turned (λ b o hb e=>kk b o (by simpa using hb) e) f0 f1 f3 f4 f5;apply%[_,Y|pC (s:={ s with heap:=h',toks:=tk }) (n := "range_iterator") st' rfl rfl ∅ %[.int (lo+i),H,I1,%[t|?_],%[Y|Y],st'|λ b hb=>(hf b hb).1]];rw[Int.mul_one]
 done:=by intro X hP hw hK hc i Ku s σ H E I hf st hg;subst hP hw hK;obtain⟨f0,f1,f2,f3,f4,f5⟩:=hf it (by simp);exact wpAny_pyNext_range_end (I.ok.hd hc) st (by have:n<=i:=hg;lia) λ h' eb=>%[Y|I.turned (t':=s.toks) (λ b o hb e=>eb b o hb e) f0 f1 f3 f4 f5]
 self:=λ _ _ _ _ _ st h=>wpAny_pyIter_rangeiter st h
section
variable {X:Cx} {tg:Expr}
inductive iListA (K:C6) (R:It->Hp->Prop) (x:V) (H1:Hp):Prop
 | mk (a:Ko) (e_0:x=.ref a) (e_1:(∃xs,SqL K H1 a xs)) (e_2:R (Itl K a) H1):iListA K R x H1
def tP (K:C6) (tl:TE):TI:=λ σ H R=>tl σ H λ x H1=>iListA K R x H1
inductive iTupA (K:C6) (R:It->Hp->Prop) (x:V) (H1:Hp):Prop
 | mk (a:Ko) (e_0:x=.ref a) (e_1:(∃xs,SqT K H1 a xs)) (e_2:R (Itt K a) H1):iTupA K R x H1
def Ay (K:C6) (tl:TE):TI:=λ σ H R=>tl σ H λ x H1=>iTupA K R x H1
theorem aW {l:Expr} {tl:TE} (hl:PE X l tl):PI X tg l (tP X.K tl):=by
 intro Ku s σ H R I h;apply thn (hl Ku s σ H _ I h) λ v s1 %[x,H1,I1,r1|q1]=>?_;obtain⟨a,e,⟨xs,hq⟩,q⟩:=q1;subst e;cases r1;obtain⟨its,rv,p,hz⟩:=I1.list hq;apply Lp p.isList ?_;apply%[s1.heap.objs.size,[s1.heap.objs.size],_,_,H1,Y,I1.kept (t':=s1.toks) λ b o e=>A8 _ e,qF a _,%[_,A9 _ rfl,Y|Y],λ b hb=>?_|q];have e:b=s1.heap.objs.size:=by simpa using hb
 subst e;exact I1.fpOk (B4 _) (I1.hok.fresh (B4 _))
theorem nq {l:Expr} {tl:TE} (hl:PE X l tl):PI X tg l (Ay X.K tl):=by
 intro Ku s σ H R I h;apply thn (hl Ku s σ H _ I h) λ v s1 %[x,H1,I1,r1|q1]=>?_;obtain⟨a,e,⟨xs,hq⟩,q⟩:=q1;subst e;cases r1;obtain⟨its,rv,p,hz⟩:=I1.tuple hq;apply Lk (show s1.heap.IsTuple a its.toArray from p) ?_;apply%[s1.heap.objs.size,[s1.heap.objs.size],_,_,H1,Y,I1.kept (t':=s1.toks) λ b o e=>A8 _ e,nk a _,%[_,A9 _ rfl,Y|Y],λ b hb=>?_|q];have e:b=s1.heap.objs.size:=by simpa using hb
 subst e;exact I1.fpOk (B4 _) (I1.hok.fresh (B4 _))
theorem ir {Ku:Ks (Ko×Obj)} {σ:St} {H:Hp} {s:IN} {R:It->Hp->Prop} {E:IS->IN->Prop} {lo hi:Int} {t u v:Tok} {tk:Nat} (I:Inv X Ku σ H s) (h1:-(2 ^ 62)<=lo) (h2:lo < 2 ^ 62) (h3:-(2 ^ 62)<=hi) (h4:hi < 2 ^ 62)
  (q:R (Itr lo (hi - lo).toNat) H):wpAny (model X.prog X.w) X.A (pyIter (.ref s.heap.objs.size)) (PIE X Ku σ tg R) E { s with heap:=s.heap.push { cls:=.type "range",data:=.fields #[.int lo t,.int hi u,.int 1 v] },toks:=tk }:=by
 apply wpAny_pyIter_range (IsRange.new ..) (small_one h1 h2 h3 h4) ?_;have I1:Inv X Ku σ H { s with heap:=s.heap.push { cls:=.type "range",data:=.fields #[.int lo t,.int hi u,.int 1 v] },toks:=tk }:=I.kept λ b o e=>A8 _ e;apply⟨(s.heap.push { cls:=.type "range",data:=.fields #[.int lo t,.int hi u,.int 1 v] }).objs.size,[(s.heap.push { cls:=.type "range",data:=.fields #[.int lo t,.int hi u,.int 1 v] }).objs.size],_,_,H,Y,
  I1.kept (t':=tk) λ b o e=>A8 _ e,iq _ lo (hi - lo).toNat,?_,λ b hb=>?_,q⟩
 ·have e1:lo+((0:Nat):Int) * 1=lo:=by simp
  have e2:(((hi - lo).toNat:Nat):Int) - ((0:Nat):Int)=Builtin.Range.rangeSize lo hi 1:=by rw[rangeSize_one];split <;> lia
  show IsRangeIter _ _ (lo+((0:Nat):Int) * 1) ((((hi - lo).toNat:Nat):Int) - ((0:Nat):Int)) 1;rw[e1,e2];exact A9 _ rfl
 ·have e:b=(s.heap.push { cls:=.type "range",data:=.fields #[.int lo t,.int hi u,.int 1 v] }).objs.size:=by simpa using hb
  subst e;exact I1.fpOk (B4 _) (I1.hok.fresh (B4 _))
def Az (ta:TA):TI:=λ σ H R=>ta σ H λ vs H1=>∃j:Int,vs=[.int j]/\-(2 ^ 62)<=j/\j < 2 ^ 62/\R (Itr 0 j.toNat) H1
def AA (ta:TA):TI:=λ σ H R=>ta σ H λ vs H1=>∃i j:Int,vs=[.int i,.int j]/\(-(2 ^ 62)<=i/\i < 2 ^ 62/\-(2 ^ 62)<=j/\j < 2 ^ 62)/\R (Itr i (j - i).toNat) H1
theorem eU {a:Expr} {ta:TA} {p pos:Pos} (hg:Gl X "range") (hm:X.mg "range" = none) (ha:PA X [a] ta) (hs:starEach [a] X.env=[(false,eval a X.env)]:=by rfl):PI X tg (.Call (.Name "range" p) [a] [] pos) (Az ta):=by
 intro Ku s σ H R I h;apply Call_ (eI I hg hm boot_range (LK (thn (ha pos Ku s σ H _ I h) λ us s1 %[vs,H1,I1,r1|q1]=>?_) hs rfl));obtain⟨j,e,q1,q2,q⟩:=q1;subst e;cases r1 with
 | cons r rr=>
  cases rr;obtain⟨t,rfl⟩:=r;exact call_range_1 (ir I1 ⋯ ⋯ q1 q2 (by simpa using q))
theorem eV {a b:Expr} {ta:TA} {p pos:Pos} (hg:Gl X "range") (hm:X.mg "range" = none) (ha:PA X [a,b] ta) (hs:starEach [a,b] X.env=[(false,eval a X.env),(false,eval b X.env)]:=by rfl) (hs2:starEach [b] X.env=[(false,eval b X.env)]:=by rfl) :
  PI X tg (.Call (.Name "range" p) [a,b] [] pos) (AA ta):=by
 intro Ku s σ H R I h;apply Call_ (eI I hg hm boot_range (LK (thn (ha pos Ku s σ H _ I h) λ us s1 %[vs,H1,I1,r1|q1]=>?_) (by rw[hs,hs2]) (by rw[hs2];rfl)));obtain⟨i,j,e,⟨q1,q2,q3,q4⟩,q⟩:=q1;subst e;cases r1 with
 | cons r rr=>
  cases rr with
  | cons r' rr=>
   cases rr;obtain⟨t,rfl⟩:=r;obtain⟨t',rfl⟩:=r';exact call_range_2 (ir I1 q1 q2 q3 q4 q)
def AB (wi:TI) (g:TG) (tb:TS):TS:=λ D σ H=>wi σ H λ J H1=>∃W:Nat->Nat->St->Hp->Prop,(∃m,W 0 m σ H1)/\∀i m σ H,W i m σ H ->
 (J.stop i H/\D.nx σ H)\/(J.go i H/\∃N:St->Hp->Prop,(∀σ' H',N σ' H'->∃m',m' < m/\W (i+1) m' σ' H')/\∀x H',J.yld i H x H'->g x σ H' λ σ2 H2=>tb { D with nx:=N,ct:=N,bk:=D.nx } σ2 H2)
def iw (fp:Ks Ko) (h:Heap):Ks (Ko×Obj):=fp.filterMap λ b=>(h.get? b).map λ o=>(b,o)
theorem ax {fp:Ks Ko} {h:Heap} {b:Ko} {o:Obj} (hb:b∈fp) (e:h.get? b=some o):(b,o)∈iw fp h:=List.mem_filterMap.mpr %[b,hb|by rw[e];rfl]
theorem jG {fp:Ks Ko} {h:Heap} {p:Ko×Obj} (hp:p∈iw fp h):p.1∈fp/\h.get? p.1=some p.2:=by
 obtain⟨b,hb,e⟩:=List.mem_filterMap.mp hp;cases q:h.get? b with
 | none=>rw[q]at e;cases e
 | some o=>
  rw[q]at e;have e':(b,o)=p:=C0 e;subst e';exact%[hb|q]
theorem Inv.pinned {Ku:Ks (Ko×Obj)} {σ:St} {H:Hp} {s:IN} {fp:Ks Ko} (I:Inv X Ku σ H s) (hf:∀b∈fp,cP X Ku H b) (ho:∀b∈fp,∃o,s.heap.get? b=some o/\∀v,o.data≠.cell v):Inv X (Ku ++ iw fp s.heap) σ H s :=
 I.pins_of λ p hp=>(C4.mp hp).elim (λ z=>I.pin p (A6 _ z)) λ z=>by obtain⟨hb,e⟩:=jG z;obtain⟨f0,f1,f2,_⟩:=hf p.1 hb;obtain⟨o,e',d⟩:=ho p.1 hb;rw[e]at e';cases e';exact%[e,f0,f1,f2|d]
theorem Inv.unpinned {Ku pl:Ks (Ko×Obj)} {σ:St} {H:Hp} {s:IN} (I:Inv X (Ku ++ pl) σ H s):Inv X Ku σ H s:=I.pins_of λ p hp=>I.pin p (A6 _ (B8 _ hp))
theorem bv {iter:Expr} {body:Ks Stmt} {wi:TI} {g:TG} {tb:TS} {pos:Pos} (hp:PassesOwn (model X.prog X.w) X.A X.env X.xe) (hc:X.calm=true) (hi:PI X tg iter wi) (hg:PG X tg g) (hb:PSs X body tb)
  (hs:∀x,foldedSetIterable iter X.env x=pure x:=by intro _;rfl):PS X (.For tg iter body [] pos) (AB wi g tb):=by
 intro Ku s σ H D I h;apply wpAny_For (thn (hi Ku s σ H _ I h) λ v s1 h1=>thn h1 λ itv s2 h2=>?_) hs;obtain⟨it,fp,tn,J,H2,e,I2,T,st2,f2,W,⟨m0,w0⟩,turn⟩:=h2;subst e;have stat:∀ {H':Hp},(∀b∈fp,H' b=none)->∀b∈fp,cP X Ku H' b:=λ hn b hb=>%[hn b hb|(f2 b hb).2]
 apply codeAny_forLoop_any (λ n s'=>∃i σ' H',Inv X Ku σ' H' s'/\tn i s'.heap/\(∀b∈fp,H' b=none)/\W i n σ' H') ?_ m0 %[0,σ,H2,I2,st2,λ b hb=>(f2 b hb).1|w0];rintro n s3 ⟨i,σ3,H3,I3,st3,fr3,w3⟩;rcases turn i n σ3 H3 w3 with⟨stop,qn⟩ | ⟨go,N,hN,step⟩
 ·apply wpAny_passesOwn hp (thn (T.done X rfl rfl rfl hc i Ku s3 σ3 H3 X.xe I3 (stat fr3) st3 stop) λ r s4 %[hr|I4]=>?_);subst hr;exact wpAny_execs_nil %[σ3,H3,I4|qn]
 ·apply wpAny_passesOwn hp (thn (T.item X rfl rfl rfl hc i Ku s3 σ3 H3 X.xe I3 (stat fr3) st3 go) λ r s4 %[u,hr|h4]=>?_);subst hr;apply wpAny_passesOwn hp (thn h4 λ _ s5 %[x,H5,I5,r5,y5,st5|fr5]=>?_);have I5':=I5.pinned (stat fr5) (T.obj _ _ st5);apply wpAny_passesOwn hp (thn (hg _ s5 σ3 H5 x u _ I5' r5 (step x H5 y5)) λ _ s6 %[σ6,H6,I6|q6]=>?_);apply wpAny_passesOwn hp (thn (hb _ s6 σ6 H6 _ I6 q6) λ f s7 q7=>?_);have again:∀ {σ7:St} {H7:Hp},Inv X (Ku ++ iw fp s5.heap) σ7 H7 s7->N σ7 H7->∃m,m < n/\∃i σ' H',Inv X Ku σ' H' s7/\tn i s7.heap/\(∀b∈fp,H' b=none)/\W i m σ' H':=λ {σ7 H7} I7 n7=>by obtain⟨m',hm,w7⟩:=hN σ7 H7 n7;apply%[m',hm,i+1,σ7,H7,I7.unpinned,T.keep _ _ _ st5 λ b hb o e=>(I7.pin (b,o) (A6 _ (A6 _ (ax hb e)))).1,λ b hb=>?_|w7];obtain⟨o,e,d⟩:=T.obj _ _ st5 b hb;exact(I7.pin (b,o) (A6 _ (A6 _ (ax hb e)))).2.1
  cases f with
  | next=>obtain⟨σ7,H7,I7,n7⟩:=q7;exact again I7 n7
  | cont=>obtain⟨σ7,H7,I7,n7⟩:=q7;exact again I7 n7
  | brk=>obtain⟨σ7,H7,I7,q7⟩:=q7;exact%[σ7,H7,I7.unpinned|q7]
  | ret v=>obtain⟨x7,σ7,H7,I7,r7,q7⟩:=q7;exact%[x7,σ7,H7,I7.unpinned,r7|q7]
end
theorem cr {K:C6} {a:Ko} {xs:Ks V} {g:TG} {tb:TS} {D:Ends} {σ:St} {H:Hp} (Pv:Nat->St->Hp->Prop) (h0:Pv 0 σ H) (hl:∀i σ H,i<=xs.length->Pv i σ H->SqL K H a xs)
  (hs:∀i x σ H,xs[i]?=some x->Pv i σ H->g x σ H λ σ2 H2=>tb { D with nx:=Pv (i+1),ct:=Pv (i+1),bk:=D.nx } σ2 H2) (hd:∀σ H,Pv xs.length σ H->D.nx σ H) :
  ∃W:Nat->Nat->St->Hp->Prop,(∃m,W 0 m σ H)/\∀i m σ H,W i m σ H ->
   ((Itl K a).stop i H/\D.nx σ H)\/((Itl K a).go i H/\∃N:St->Hp->Prop,(∀σ' H',N σ' H'->∃m',m' < m/\W (i+1) m' σ' H')/\∀x H',(Itl K a).yld i H x H'->g x σ H' λ σ2 H2=>tb { D with nx:=N,ct:=N,bk:=D.nx } σ2 H2):=by
 apply%[λ i m σ H=>m=xs.length - i/\i<=xs.length/\Pv i σ H,%[xs.length,by simp,G0 _|h0]|?_];rintro i m σ H ⟨rfl,hi,p⟩;have q:=hl i σ H hi p
 by_cases hlt:i < xs.length
 ·apply .inr %[%[xs,xs[i],q|by simp[hlt]],Pv (i+1),λ σ' H' p'=>%[xs.length - (i+1),⋯,Y,hlt|p']|λ x H' y=>?_];obtain⟨e,y⟩:=y;subst e;exact hs i x σ _ (y xs q) p
 ·have e:i=xs.length:=⋯
  subst e;exact .inl %[%[xs,q|B4 _]|hd σ H p]
theorem wd {K:C6} {a:Ko} {xs:Ks V} {g:TG} {tb:TS} {D:Ends} {σ:St} {H:Hp} (Pv:Nat->St->Hp->Prop) (h0:Pv 0 σ H) (hl:∀i σ H,i<=xs.length->Pv i σ H->SqT K H a xs)
  (hs:∀i x σ H,xs[i]?=some x->Pv i σ H->g x σ H λ σ2 H2=>tb { D with nx:=Pv (i+1),ct:=Pv (i+1),bk:=D.nx } σ2 H2) (hd:∀σ H,Pv xs.length σ H->D.nx σ H) :
  ∃W:Nat->Nat->St->Hp->Prop,(∃m,W 0 m σ H)/\∀i m σ H,W i m σ H ->
   ((Itt K a).stop i H/\D.nx σ H)\/((Itt K a).go i H/\∃N:St->Hp->Prop,(∀σ' H',N σ' H'->∃m',m' < m/\W (i+1) m' σ' H')/\∀x H',(Itt K a).yld i H x H'->g x σ H' λ σ2 H2=>tb { D with nx:=N,ct:=N,bk:=D.nx } σ2 H2):=by
 apply%[λ i m σ H=>m=xs.length - i/\i<=xs.length/\Pv i σ H,%[xs.length,by simp,G0 _|h0]|?_];rintro i m σ H ⟨rfl,hi,p⟩;have q:=hl i σ H hi p
 by_cases hlt:i < xs.length
 ·apply .inr %[%[xs,xs[i],q|by simp[hlt]],Pv (i+1),λ σ' H' p'=>%[xs.length - (i+1),⋯,Y,hlt|p']|λ x H' y=>?_];obtain⟨e,y⟩:=y;subst e;exact hs i x σ _ (y xs q) p
 ·have e:i=xs.length:=⋯
  subst e;exact .inl %[%[xs,q|B4 _]|hd σ H p]
theorem eW {lo:Int} {n:Nat} {g:TG} {tb:TS} {D:Ends} {σ:St} {H:Hp} (Pv:Nat->St->Hp->Prop) (h0:Pv 0 σ H)
  (hs:∀i σ H,i < n->Pv i σ H->g (.int (lo+i)) σ H λ σ2 H2=>tb { D with nx:=Pv (i+1),ct:=Pv (i+1),bk:=D.nx } σ2 H2) (hd:∀σ H,Pv n σ H->D.nx σ H) :
  ∃W:Nat->Nat->St->Hp->Prop,(∃m,W 0 m σ H)/\∀i m σ H,W i m σ H ->
   ((Itr lo n).stop i H/\D.nx σ H)\/((Itr lo n).go i H/\∃N:St->Hp->Prop,(∀σ' H',N σ' H'->∃m',m' < m/\W (i+1) m' σ' H')/\∀x H',(Itr lo n).yld i H x H'->g x σ H' λ σ2 H2=>tb { D with nx:=N,ct:=N,bk:=D.nx } σ2 H2):=by
 apply%[λ i m σ H=>m=n - i/\i<=n/\Pv i σ H,%[n,by simp,G0 _|h0]|?_];rintro i m σ H ⟨rfl,hi,p⟩
 by_cases hlt:i < n
 ·apply .inr %[hlt,Pv (i+1),λ σ' H' p'=>%[n - (i+1),⋯,Y,hlt|p']|λ x H' y=>?_];obtain⟨e,y⟩:=y;subst e y;exact hs i σ _ hlt p
 ·have e:i=n:=⋯
  subst e;exact .inl %[B4 _|hd σ H p]
abbrev R2:=V->V->Hp->VK->Prop
def OpR (X:Cx) (f:IS->IS->Sem IS) (r:R2):Prop :=
 ∀ (Ku:Ks (Ko×Obj)) (s:IN) (σ:St) (H:Hp) (x y:V) (v u:IS) (Q:VK),Inv X Ku σ H s->RelV x v->RelV y u->r x y H Q ->
  wpAny (model X.prog X.w) X.A (f v u) (EP X Ku σ Q) X.xe s
def bM (X:Cx) (f:IS) (r:Ks V->Hp->VK->Prop):Prop :=
 ∀ (Ku:Ks (Ko×Obj)) (s:IN) (σ:St) (H:Hp) (xs:Ks V) (us:Ks IS) (Q:VK),Inv X Ku σ H s->Vals xs us->r xs H Q ->
  wpAny (model X.prog X.w) X.A (call f us) (EP X Ku σ Q) X.xe s
def tOp (r:R2) (ta tb:TE):TE:=λ σ H Q=>ta σ H λ x H1=>tb σ H1 λ y H2=>r x y H2 Q
inductive rI (C:Int->Int->Prop) (g:Int->Int->V) (x:V) (y:V) (H:Hp) (Q:VK):Prop
 | mk (i:Int) (j:Int) (e_0:x=.int i) (e_1:y=.int j) (e_2:C i j) (e_3:Q (g i j) H):rI C g x y H Q
inductive rI0 (g:Int->Int->V) (x:V) (y:V) (H:Hp) (Q:VK):Prop
 | mk (i:Int) (j:Int) (e_0:x=.int i) (e_1:y=.int j) (e_2:Q (g i j) H):rI0 g x y H Q
section
variable {X:Cx} {a b c:Expr} {ta tb tc:TE} {pos:Pos}
theorem yc (ha:PE X a ta) (hb:PE X b tb) {Ku:Ks (Ko×Obj)} {s:IN} {σ:St} {H:Hp} {R:V->V->Hp->Prop} (I:Inv X Ku σ H s)
  (h:ta σ H λ x H1=>tb σ H1 λ y H2=>R x y H2) {Q:IS->IN->Prop} {f:IS->IS->Sem IS}
  (hf:∀v u s2 x y H2,Inv X Ku σ H2 s2->RelV x v->RelV y u->R x y H2->wpAny (model X.prog X.w) X.A (f v u) Q X.xe s2) :
  wpAny (model X.prog X.w) X.A (eval a X.env) (λ v s₁=>wpAny (model X.prog X.w) X.A (eval b X.env) (λ u s₂=>wpAny (model X.prog X.w) X.A (f v u) Q X.xe s₂) X.xe s₁) X.xe s:=by
 apply thn (ha Ku s σ H _ I h) λ v s1 %[x,H1,I1,r1|q1]=>?_;apply thn (hb Ku s1 σ H1 _ I1 q1) λ u s2 %[y,H2,I2,r2|q2]=>?_;exact hf v u s2 x y H2 I2 r1 r2 q2
theorem az {op:Operator} {r:R2} (ho:OpR X (binaryOp op) r) (ha:PE X a ta) (hb:PE X b tb):PE X (.BinOp a op b pos) (tOp r ta tb):=by intro Ku s σ H Q I h;exact wpAny_BinOp (yc ha hb I h λ v u s2 x y H2 I2 rx ry q=>ho Ku s2 σ H2 x y v u Q I2 rx ry q)
theorem opI {f:IS->IS->Sem IS} {C:Int->Int->Prop} {g:Int->Int->Int}
  (rule:∀ (i j:Int) (t u:Tok) (s:IN) (Q:IS->IN->Prop) (E:IS->IN->Prop),C i j->Q (.int (g i j) s.toks) { s with toks:=s.toks+1 }->wpAny (model X.prog X.w) X.A (f (.int i t) (.int j u)) Q E s) :
  OpR X f (rI C λ i j=>.int (g i j)):=by
 intro Ku s σ H x y v u Q I rx ry h;obtain⟨i,j,rfl,rfl,hc,q⟩:=h;obtain⟨t,rfl⟩:=rx;obtain⟨t',rfl⟩:=ry;exact rule i j t t' s _ _ hc %[.int (g i j),H,I.tok _,%[_|rfl]|q]
theorem AC {f:IS->IS->Sem IS} {g:Int->Int->Int}
  (rule:∀ (i j:Int) (t u:Tok) (s:IN) (Q:IS->IN->Prop) (E:IS->IN->Prop),Q (.int (g i j) s.toks) { s with toks:=s.toks+1 }->wpAny (model X.prog X.w) X.A (f (.int i t) (.int j u)) Q E s) :
  OpR X f (rI0 λ i j=>.int (g i j)):=by
 intro Ku s σ H x y v u Q I rx ry h;obtain⟨i,j,rfl,rfl,q⟩:=h;obtain⟨t,rfl⟩:=rx;obtain⟨t',rfl⟩:=ry;exact rule i j t t' s _ _ %[.int (g i j),H,I.tok _,%[_|rfl]|q]
theorem we {f:IS->IS->Sem IS} {g:Int->Int->Bool}
  (rule:∀ (i j:Int) (t u:Tok) (s:IN) (Q:IS->IN->Prop) (E:IS->IN->Prop),Q (.bool (g i j)) s->wpAny (model X.prog X.w) X.A (f (.int i t) (.int j u)) Q E s) :
  OpR X f (rI0 λ i j=>.bl (g i j)):=by
 intro Ku s σ H x y v u Q I rx ry h;obtain⟨i,j,rfl,rfl,q⟩:=h;obtain⟨t,rfl⟩:=rx;obtain⟨t',rfl⟩:=ry;exact rule i j t t' s _ _ %[.bl (g i j),H,I,rfl|q]
def FY (i j:Int):Prop:=0<=j/\j<=1000000/\i.natAbs < 2 ^ 64
def CMul (i j:Int):Prop:=(-(2 ^ 64) < i/\i < 2 ^ 64)\/(-(2 ^ 64) < j/\j < 2 ^ 64)
theorem CMul.ok {i j:Int} (h:CMul i j):IntMulOk i j:=by
 rcases h with⟨h1,h2⟩ | ⟨h1,h2⟩
 ·exact .of_left (intBits_le_64 h1 h2)
 ·exact .of_right (intBits_le_64 h1 h2)
theorem be:OpR X (binaryOp .Add) (rI0 λ i j=>.int (i+j)):=AC λ _ _ _ _ _ _ _ q=>add_int q
theorem bN:OpR X (binaryOp .Sub) (rI0 λ i j=>.int (i - j)):=AC λ _ _ _ _ _ _ _ q=>sub_int q
theorem nr:OpR X (binaryOp .Mult) (rI CMul λ i j=>.int (i * j)):=opI λ _ _ _ _ _ _ _ hc q=>mul_int q hc.ok
theorem kN:OpR X (binaryOp .Mod) (rI (λ _ j=>0 < j) λ i j=>.int (i % j)):=opI λ i j _ _ _ _ _ hc q=>by have h1:(0:Int) < j:=hc;exact mod_int' ⋯ (by rw[Int.fmod_eq_emod_of_nonneg i ⋯];exact q)
theorem nu:OpR X (binaryOp .Pow) (rI FY λ i j=>.int (i ^ j.toNat)):=opI λ _ _ _ _ _ _ _ hc q=>pow_int_small hc.1 hc.2.1 hc.2.2 q
end
def AD:V->V->Bool
 | .non,.non=>true | .non,.int _=>true | .int _,.non=>true | .non,.bl _=>true | .bl _,.non=>true | .non,.str _=>true | .str _,.non=>true
 | .int _,.int _=>true | .bl _,.bl _=>true | .str _,.str _=>true | .byt _,.byt _=>true
 | .int _,.str _=>true | .str _,.int _=>true | .bl _,.str _=>true | .str _,.bl _=>true
 | _,_=>false
def rEq:R2:=λ x y H Q=>AD x y=true/\Q (.bl (decide (x=y))) H
def rNe:R2:=λ x y H Q=>AD x y=true/\Q (.bl (!decide (x=y))) H
theorem kO {i j:Int}:decide (V.int i=V.int j)=(i == j):=by rw[Ka];simp
theorem tQ {i j:Bool}:decide (V.bl i=V.bl j)=(i == j):=by rw[Ka];simp
theorem pE {i j:Str}:decide (V.str i=V.str j)=(i == j):=by rw[Ka];simp
theorem pF {i j:Kr UInt8}:decide (V.byt i=V.byt j)=(i.toList == j.toList):=by rw[Ka];cases i;cases j;simp
section
variable {X:Cx} {a b c:Expr} {ta tb tc:TE} {pos:Pos}
theorem aN {Ku:Ks (Ko×Obj)} {σ:St} {H:Hp} {s:IN} {Q:VK} {k k':Bool} (I:Inv X Ku σ H s) (q:Q (.bl k) H) (e:k=k'):EP X Ku σ Q (.bool k') s:=by subst e;exact%[.bl k,H,I,Y|q]
theorem iA:OpR X (compareOp .Eq) rEq:=by
 intro Ku s σ H x y v u Q I rx ry h;obtain⟨hs,q⟩:=h;cases x with
 | non=>
  cases rx;cases y with
  | non=>cases ry;exact PySem.EqNone.eq_none_none (aN I q (by simp))
  | bl j=>cases ry;exact PySem.EqNone.eq_none_bool (aN I q (by simp))
  | int j=>obtain⟨t',rfl⟩:=ry;exact PySem.EqNone.eq_none_int (aN I q (by simp))
  | str j=>obtain⟨t',rfl⟩:=ry;exact PySem.EqNone.eq_none_str (aN I q (by simp))
  | _=>exact absurd (show false=true from hs) B3
 | bl i=>
  cases rx;cases y with
  | non=>cases ry;exact PySem.EqNone.eq_bool_none (aN I q (by simp))
  | bl j=>cases ry;exact eq_bool (aN I q tQ)
  | str j=>obtain⟨t',rfl⟩:=ry;exact PySem.EqMixed.eq_bool_str (aN I q (by simp))
  | _=>exact absurd (show false=true from hs) B3
 | int i=>
  obtain⟨t,rfl⟩:=rx;cases y with
  | non=>cases ry;exact PySem.EqNone.eq_int_none (aN I q (by simp))
  | int j=>obtain⟨t',rfl⟩:=ry;exact eq_int (aN I q kO)
  | str j=>obtain⟨t',rfl⟩:=ry;exact PySem.EqMixed.eq_int_str (aN I q (by simp))
  | _=>exact absurd (show false=true from hs) B3
 | str i=>
  obtain⟨t,rfl⟩:=rx;cases y with
  | non=>cases ry;exact PySem.EqNone.eq_str_none (aN I q (by simp))
  | bl j=>cases ry;exact PySem.EqMixed.eq_str_bool (aN I q (by simp))
  | int j=>obtain⟨t',rfl⟩:=ry;exact PySem.EqMixed.eq_str_int (aN I q (by simp))
  | str j=>obtain⟨t',rfl⟩:=ry;exact eq_str (aN I q pE)
  | _=>exact absurd (show false=true from hs) B3
 | byt i=>
  obtain⟨t,rfl⟩:=rx;cases y with
  | byt j=>obtain⟨t',rfl⟩:=ry;exact PySem.W.eq_bytes (aN I q pF)
  | _=>exact absurd (show false=true from hs) B3
 | _=>cases y <;> exact absurd (show false=true from hs) B3
theorem jH:OpR X (compareOp .NotEq) rNe:=by
 intro Ku s σ H x y v u Q I rx ry h;obtain⟨hs,q⟩:=h;cases x with
 | non=>
  cases rx;cases y with
  | non=>cases ry;exact PySem.EqNone.ne_none_none (aN I q (by simp))
  | bl j=>cases ry;exact PySem.EqNone.ne_none_bool (aN I q (by simp))
  | int j=>obtain⟨t',rfl⟩:=ry;exact PySem.EqNone.ne_none_int (aN I q (by simp))
  | str j=>obtain⟨t',rfl⟩:=ry;exact PySem.EqNone.ne_none_str (aN I q (by simp))
  | _=>exact absurd (show false=true from hs) B3
 | bl i=>
  cases rx;cases y with
  | non=>cases ry;exact PySem.EqNone.ne_bool_none (aN I q (by simp))
  | bl j=>cases ry;exact ne_bool (aN I q (Li not tQ))
  | str j=>obtain⟨t',rfl⟩:=ry;exact PySem.EqMixed.ne_bool_str (aN I q (by simp))
  | _=>exact absurd (show false=true from hs) B3
 | int i=>
  obtain⟨t,rfl⟩:=rx;cases y with
  | non=>cases ry;exact PySem.EqNone.ne_int_none (aN I q (by simp))
  | int j=>obtain⟨t',rfl⟩:=ry;exact ne_int (aN I q (Li not kO))
  | str j=>obtain⟨t',rfl⟩:=ry;exact PySem.EqMixed.ne_int_str (aN I q (by simp))
  | _=>exact absurd (show false=true from hs) B3
 | str i=>
  obtain⟨t,rfl⟩:=rx;cases y with
  | non=>cases ry;exact PySem.EqNone.ne_str_none (aN I q (by simp))
  | bl j=>cases ry;exact PySem.EqMixed.ne_str_bool (aN I q (by simp))
  | int j=>obtain⟨t',rfl⟩:=ry;exact PySem.EqMixed.ne_str_int (aN I q (by simp))
  | str j=>obtain⟨t',rfl⟩:=ry;exact ne_str (aN I q (Li not pE))
  | _=>exact absurd (show false=true from hs) B3
 | byt i=>
  obtain⟨t,rfl⟩:=rx;cases y with
  | byt j=>obtain⟨t',rfl⟩:=ry;exact PySem.W.ne_bytes (aN I q (Li not pF))
  | _=>exact absurd (show false=true from hs) B3
 | _=>cases y <;> exact absurd (show false=true from hs) B3
theorem pG:OpR X (compareOp .Lt) (rI0 λ i j=>.bl (decide (i < j))):=we λ _ _ _ _ _ _ _ q=>lt_int q
theorem gH:OpR X (compareOp .LtE) (rI0 λ i j=>.bl (decide (i<=j))):=we λ _ _ _ _ _ _ _ q=>le_int q
theorem iB:OpR X (compareOp .Gt) (rI0 λ i j=>.bl (decide (j < i))):=we λ _ _ _ _ _ _ _ q=>gt_int q
theorem xC:OpR X (compareOp .GtE) (rI0 λ i j=>.bl (decide (j<=i))):=we λ _ _ _ _ _ _ _ q=>ge_int q
theorem aJ (b:Expr) {op:CmpOp} (h:op≠.In:=by decide) (h2:op≠.NotIn:=by decide):behindInMarks op b=false:=by
 have e1:(op == CmpOp.In)=false:=by cases op <;> first | rfl | exact absurd rfl h
 have e2:(op == CmpOp.NotIn)=false:=by cases op <;> first | rfl | exact absurd rfl h2
 cases b <;> simp[behindInMarks,e1,e2]
theorem bJ {op:CmpOp} {r:R2} (ho:OpR X (compareOp op) r) (ha:PE X a ta) (hb:PE X b tb) (hm:behindInMarks op b=false):PE X (.Compare a [op] [b] pos) (tOp r ta tb):=by intro Ku s σ H Q I h;exact wpAny_Compare1 (yc ha hb I h λ v u s2 x y H2 I2 rx ry q=>ho Ku s2 σ H2 x y v u Q I2 rx ry q) hm
def xD (t:TE):TT:=λ σ H Q=>t σ H λ x H'=>IsB x λ k=>Q k H'
theorem aO {op:CmpOp} {r:R2} (ho:OpR X (compareOp op) r) (ha:PE X a ta) (hb:PE X b tb) (hm:behindInMarks op b=false):PT X (.Compare a [op] [b] pos) (xD (tOp r ta tb)):=by
 intro Ku s σ H Q I h;apply wpAny_isTrue_Compare1 (thn (ha Ku s σ H _ I h) λ v s1 %[x,H1,I1,r1|q1]=>thn (hb Ku s1 σ H1 _ I1 q1) λ u s2 %[y,H2,I2,r2|q2]=>
  thn (ho Ku s2 σ H2 x y v u _ I2 r1 r2 q2) λ c s3 %[z,H3,I3,r3,k,e|q3]=>?_) hm
 subst e;cases r3;exact G4 %[H3,I3|q3]
def yd (r r':R2) (ta tb tc:TE):TE:=λ σ H Q=>ta σ H λ x H1=>tb σ H1 λ y H2=>r x y H2 λ z H3=>∃k,z=.bl k /\
 (if k=true then tc σ H3 λ w' H4=>r' y w' H4 Q else Q (.bl false) H3)
theorem tR {op op':CmpOp} {r r':R2} (ho:OpR X (compareOp op) r) (ho':OpR X (compareOp op') r') (ha:PE X a ta) (hb:PE X b tb) (hc:PE X c tc)
  (hm:lastMarks [op,op'] [b,c]=false:=by with_unfolding_all rfl):PT X (.Compare a [op,op'] [b,c] pos) (xD (yd r r' ta tb tc)):=by
 intro Ku s σ H Q I h;apply isTrue_chain (thn (ha Ku s σ H _ I h) λ v s1 %[x,H1,I1,r1|q1]=>test_link (thn (hb Ku s1 σ H1 _ I1 q1) λ u s2 %[y,H2,I2,r2|q2]=>
  thn (ho Ku s2 σ H2 x y v u _ I2 r1 r2 q2) λ d s3 %[z,H3,I3,r3,k,e|q3]=>?_)) hm
 subst e;cases r3;apply G4 ?_;cases k with
 | false=>
  obtain⟨k',e',q'⟩:=q3;cases e';exact ite_ff %[H3,I3|q']
 | true=>
  apply ite_tt (test_last (thn (hc Ku s3 σ H3 _ I3 q3) λ w' s4 %[z',H4,I4,r4|q4]=>thn (ho' Ku s4 σ H4 y z' u w' _ I4 r2 r4 q4) λ d' s5 %[z2,H5,I5,r5,k2,e2|q5]=>?_));subst e2;cases r5;exact G4 %[H5,I5|q5]
theorem kP:(sizeLine:Nat) < 2 ^ 63:=by rw[sizeLine_eq];decide
theorem cM {x:V} {us:Ks IS} (r:Vals [x] us):∃u,us=[u]/\RelV x u:=by
 cases r with
 | cons r1 r2=>cases r2;exact%[_,Y|r1]
theorem pH {x y:V} {us:Ks IS} (r:Vals [x,y] us):∃u w',us=[u,w']/\RelV x u/\RelV y w':=by
 cases r with
 | cons r1 r2=>
  cases r2 with
  | cons r3 r4=>cases r4;exact%[_,_,Y,r1|r3]
theorem lW:bM X (.builtin "abs") (λ xs H Q=>∃i,xs=[.int i]/\Q (.int (if i < 0 then -i else i)) H):=by intro Ku s σ H xs us Q I r h;obtain⟨i,rfl,q⟩:=h;obtain⟨u,rfl,t,rfl⟩:=cM r;exact call_abs_int λ u tk=>%[.int (if i < 0 then -i else i),H,I.tok _,%[_|Y]|q]
theorem qG (hc:X.calm=true):bM X (.builtin "max") (λ xs H Q=>∃i j,xs=[.int i,.int j]/\Q (.int (if j > i then j else i)) H):=by
 intro Ku s σ H xs us Q I r h;obtain⟨i,j,rfl,q⟩:=h;obtain⟨u,w',rfl,⟨t,rfl⟩,⟨t',rfl⟩⟩:=pH r;apply max_two_ints (I.ok.hd hc) λ h' tk k=>%[_,H,I.kept k,?_|q]
 by_cases hj:j > i
 ·rw[Kz hj,Kz hj];exact%[_|Y]
 ·rw[Ky hj,Ky hj];exact%[_|Y]
theorem cU (hc:X.calm=true):bM X (.builtin "min") (λ xs H Q=>∃i j,xs=[.int i,.int j]/\Q (.int (if j < i then j else i)) H):=by
 intro Ku s σ H xs us Q I r h;obtain⟨i,j,rfl,q⟩:=h;obtain⟨u,w',rfl,⟨t,rfl⟩,⟨t',rfl⟩⟩:=pH r;apply min_two_ints (I.ok.hd hc) λ h' tk k=>%[_,H,I.kept k,?_|q]
 by_cases hj:j < i
 ·rw[Kz hj,Kz hj];exact%[_|Y]
 ·rw[Ky hj,Ky hj];exact%[_|Y]
theorem qH:bM X (.type "int") (λ xs H Q=>(∃i,xs=[.int i]/\Q (.int i) H)\/∃k,xs=[.bl k]/\Q (.int (if k then 1 else 0)) H):=by
 intro Ku s σ H xs us Q I r h;rcases h with⟨i,rfl,q⟩ | ⟨k,rfl,q⟩
 ·obtain⟨u,rfl,t,rfl⟩:=cM r;exact call_int_int %[.int i,H,I,%[_|rfl]|q]
 ·obtain⟨u,rfl,r1⟩:=cM r;cases r1;exact call_int_bool %[.int (if k then 1 else 0),H,I.tok _,%[_|rfl]|q]
end
structure ObjM (h:Heap) (x dx C:Ko) (mA:Str->Kq Value):Prop where
 obj:h.get? x=some (PySem.W.instObj C dx)
 ns:h.Ns1 dx mA
 ne:dx≠x
theorem qI {h:Heap} {dx:Ko} {mA:Str->Kq IS} (n:h.Ns1 dx mA):∃od,h.get? dx=some od/\∀name,PySem.W.lookIn name od=some (mA name):=by
 obtain⟨o,es,ep,ho,hd,hk,_,hm⟩:=n;apply%[o,ho|λ name=>?_];have e:=hm name;unfold nsFind findBy at e;rw[<- Array.find?_toList]at e;unfold PySem.W.lookIn;rw[hd];dsimp only
 split
 ·rename_i y q
  rw[q]at e;exact Li some e
 ·rename_i q
  rw[q]at e;have a:es.toList.any (·.refKey)=false:=by rw[List.any_eq_false];intro y hy;obtain⟨z,t,hkey⟩:=hk y (Array.mem_toList_iff.mp hy);simp[DictEntry.refKey,hkey]
  have a':¬ es.toList.any (·.refKey)=true:=by rw[a];exact B3
  rw[Ky a'];exact Li some e
theorem ObjM.look {h:Heap} {x dx C:Ko} {mA:Str->Kq IS} (I:ObjM h x dx C mA):∃od,PySem.W.InstAt h x (PySem.W.instObj C dx) C (some od)/\∀name,PySem.W.lookIn name od=some (mA name) :=
 let ⟨od,ho,hl⟩:=qI I.ns
 %[od,%[I.obj,rfl,rfl|ho]|hl]
section
variable {prog:IP} {w:IR} {A:Around} {E:IS->IN->Prop} {s:IN} {K:C6} {x dx C f:Ko} {mA:Str->Kq IS} {name:Str} {v:IS}
theorem wf {expr:Bool} {Q:IS->IN->Prop} (X:K.In s.heap) (I:ObjM s.heap x dx C mA) (hg:PySem.W.plainGet K C name=true) (hh:PySem.W.hasDictIn K C=true)
  (ha:PySem.W.findIn K (.ref C) name=some none) (hv:mA name=some v) (hv':PySem.W.handedIn v=true) (h:Q v { s with toks:=s.toks+1 }) :
  wpAny (model prog w) A (getAttr (.ref x) name expr) Q E s:=by
 obtain⟨od,J,hl⟩:=I.look;exact PySem.W.get_value X J (PySem.W.plainGet_of hg).1 (PySem.W.findObj_own hh ha rfl (by rw[hl,hv])) hv' h
theorem tS {pl:Sem Bool} {Q:IS×Ks IS->IN->Prop} (X:K.In s.heap) (I:ObjM s.heap x dx C mA) (hg:PySem.W.plainGet K C name=true)
  (hf:PySem.W.findIn K (.ref C) name=some (↑f)) (ht:PySem.W.isFn K (.ref f)=true) (hv:mA name=none) (h:Q (.ref f,[.ref x]) s) :
  wpAny (model prog w) A (getMethod (.ref x) name pl) Q E s:=by
 obtain⟨od,J,hl⟩:=I.look;exact PySem.W.method_fn X J (PySem.W.plainGet_of hg).1 (PySem.W.plainGet_of hg).2 hf (C5.mp ht) (by show(PySem.W.lookIn name od).map (·.isSome)=some false;rw[hl,hv];rfl) h
theorem wg {ns:Ks Str} {Q:Unit->IN->Prop} (X:K.In s.heap) (I:ObjM s.heap x dx C mA)
  (hs:PySem.W.findIn K (.ref C) "__setattr__" = some (some (.builtin "object.__setattr__"))) (hp:PySem.W.plainOver K C=true) (ht:PySem.W.takerIn K C name=some none) (hh:PySem.W.hasDictIn K C=true)
  (hw:PySem.Within mA ns) (hsz:ns.length<=sizeLine)
  (h:∀h',ObjM h' x dx C (λ y=>if y=name then some v else mA y)->Heap.SameBut dx s.heap h'->Q () { s with heap:=h',toks:=s.toks+2 }) :
  wpAny (model prog w) A (setAttr (.ref x) name v) Q E s:=by
 obtain⟨od,J,hl⟩:=I.look;apply PySem.W.set_plain X J hs (PySem.W.osa_open (s:={ s with toks:=s.toks+1 }) (r:=none) X J hp ht λ b=>?_);obtain⟨cd,hc,hd'⟩:=PySem.W.any_some hh;have hx:s.heap.get? x=some %[.ref C,some dx,.plain|#[]]:=I.obj;apply A0 (A3 (A0 (A0 (wpAny_loadPart hx (A0 (PySem.W.Looks.here (s:={ s with toks:=s.toks+1 }) (PySem.W.looks_clsIn X hc) ?_))))));rw[hd'];apply A3 (a:=some dx) (A0 (A3 (A0 ?_)));apply wpAny_nsSet1 (s:={ s with toks:=s.toks+1 }) I.ns λ h' hn2 hs2=>?_;obtain⟨oD,esD,epD,hoD,hdD,hcD⟩:=hn2.count (PySem.Within.cons name v hw);apply A0 (wpAny_lookBehind hoD (by rw[hdD];exact pastItsLine_dict (C7 hcD (by rw[List.length_cons];lia))) ?_);exact A3 (h _ %[(hs2.2 _ (Ne.symm I.ne)).trans I.obj,hn2|I.ne] hs2)
theorem tT {R:Result->IN->Prop} {vs:Ks IS} {kw:Ks (Str×IS)} (X:K.In s.heap) (hm:PySem.W.makesIn K C=true)
  (hi:PySem.W.findIn K (.ref C) "__init__" = some (↑f)) (hf:PySem.W.typeIn K (.ref f)=some (.type "function"))
  (h:codeAny (model prog w) (A.under (.builtin "type.__call__" %[.ref C :: vs|kw])) (.call (.ref f) %[.ref (s.heap.objs.size+1) :: vs|kw]) (PySem.W.InitBack (s.heap.objs.size+1) R)
   { s with heap:=(s.heap.push PySem.W.emptyDict).push (PySem.W.instObj C s.heap.objs.size) }) :
  codeAny (model prog w) A (.call (.ref C) %[vs|kw]) R s:=by
 obtain⟨hh,g,d,t,os⟩:=s;exact PySem.W.make_core (PySem.W.makes_of X hm) (PySem.W.looks_findIn X hi) (λ self=>PySem.W.bind_fn X self hf) (.inl rfl) h
end
def dj (f:Str) (v:V):Ks (Str×V)->Ks (Str×V)
 | []=>[(f,v)]
 | (g,x) :: r=>if g=f then(g,v) :: r else(g,x) :: dj f v r
theorem bH (f g:Str) (v:V):∀fs:Ks (Str×V),(dj f v fs).lookup g=if g=f then some v else fs.lookup g
 | []=>by
  show List.lookup g [(f,v)]=_
  by_cases h:g=f
  ·have hb:(g == f)=true:=C5.mpr h;simp only[List.lookup,hb,Kz h]
  ·have hb:(g == f)=false:=LJ.mpr h;simp only[List.lookup,hb,Ky h]
 | (k,x) :: r=>by
  have ih:=bH f g v r;rw[show dj f v ((k,x) :: r)=(if k=f then(k,v) :: r else(k,x) :: dj f v r)from rfl]
  by_cases hk:k=f
  ·rw[Kz hk]
   by_cases h:g=k
   ·have hb:(g == k)=true:=C5.mpr h;simp only[List.lookup,hb,Kz (h.trans hk)]
   ·have hb:(g == k)=false:=LJ.mpr h;simp only[List.lookup,hb,Ky (λ e:g=f=>h (e.trans hk.symm))]
  ·rw[Ky hk]
   by_cases h:g=k
   ·have hb:(g == k)=true:=C5.mpr h;simp only[List.lookup,hb,Ky (λ e:g=f=>hk (h.symm.trans e))]
   ·have hb:(g == k)=false:=LJ.mpr h;simp only[List.lookup,hb];exact ih
theorem gu (f:Str) (v:V):∀fs:Ks (Str×V),f∈(dj f v fs).map (·.1)/\∀g,g∈fs.map (·.1)->g∈(dj f v fs).map (·.1)
 | []=>%[by simp[dj]|λ g h=>by simp at h]
 | (k,x) :: r=>by
  obtain⟨i1,i2⟩:=gu f v r;rw[show dj f v ((k,x) :: r)=(if k=f then(k,v) :: r else(k,x) :: dj f v r)from rfl]
  by_cases hk:k=f
  ·rw[Kz hk];subst hk;exact%[by simp|λ g h=>by simpa using h]
  ·rw[Ky hk];apply%[?_|λ g h=>?_]
   ·rw[JA];exact B6 _ i1
   ·rw[JA]at h ⊢;rcases IZ.mp h with e | e
    ·exact IZ.mpr (.inl e)
    ·exact B6 _ (i2 g e)
theorem eL (f:Str) (v:V):∀fs:Ks (Str×V),(dj f v fs).length<=fs.length+1
 | []=>by simp[dj]
 | (k,x) :: r=>by
  have ih:=eL f v r;rw[show dj f v ((k,x) :: r)=(if k=f then(k,v) :: r else(k,x) :: dj f v r)from rfl]
  by_cases hk:k=f
  ·rw[Kz hk,JF,JF];lia
  ·rw[Ky hk,JF,JF];lia
theorem RelO.some_of {v:V} {o:Kq IS} (r:RelO (some v) o):∃u,o=some u/\RelV v u:=by
 cases o with
 | none=>exact(show False from r).elim
 | some u=>exact%[u,Y|r]
theorem RelO.none_of {o:Kq IS} (r:RelO none o):o=none:=by
 cases o with
 | none=>rfl
 | some u=>exact(show False from r).elim
theorem qJ {v:V} {u:IS} (r:RelV v u):PySem.W.handedIn u=true:=by
 cases v with
 | non=>cases(show u=Value.none from r);rfl
 | bl b=>cases(show u=Value.bool b from r);rfl
 | int i=>obtain⟨t,e⟩:=(show∃t,u=Value.int i t from r);cases e;rfl
 | str x=>obtain⟨t,e⟩:=(show∃t,u=Value.str x t from r);cases e;rfl
 | byt b=>obtain⟨t,e⟩:=(show∃t,u=Value.bytes b t from r);cases e;rfl
 | flt b=>obtain⟨t,e⟩:=(show∃t,u=Value.float b t from r);cases e;rfl
 | ref a=>cases(show u=Value.ref a from r);rfl
 | ty n=>cases(show u=Value.type n from r);rfl
section
variable {P:IP} {w:IR} {H H':Hp} {h h':Heap} {a C dx:Ko} {fs fs':Ks (Str×V)}
theorem fP (hok:HOk P w H h) (e:H a=some (.ins C dx fs)):∃mA,ObjM h a dx C mA/\(∀f,RelO (fs.lookup f) (mA f))/\PySem.Within mA (fs.map (·.1))/\fs.length<=1000/\H dx=some (.own a):=by
 obtain⟨d,z,ne,ob,mA,n,r,q⟩:=(show ObjOk P w H h a (.ins C dx fs)from hok a _ e)
 exact%[mA,%[ob,n|ne],r,q,z|d]
end
structure Cls (K:C6) (C:Ko):Prop where
 pg:PySem.W.plainGet K C Str.empty=true
 hd:PySem.W.hasDictIn K C=true
 po:PySem.W.plainOver K C=true
 sa:PySem.W.findIn K (.ref C) "__setattr__" = some (some (.builtin "object.__setattr__"))
theorem Cls.get {K:C6} {C:Ko} (c:Cls K C) (f:Str):PySem.W.plainGet K C f=true:=c.pg
def NoAttr (K:C6) (C:Ko) (f:Str):Prop:=PySem.W.findIn K (.ref C) f=some none
theorem NoAttr.taker {K:C6} {C:Ko} {f:Str} (n:NoAttr K C f):PySem.W.takerIn K C f=some none:=by
 unfold PySem.W.takerIn;rw[show PySem.W.findIn K (.ref C) f=some none from n]
 rfl
structure Con (K:C6) (C:Ko) (f:Str) (v:V) (u:Value):Prop where
 at_:PySem.W.findIn K (.ref C) f=some (some u)
 rel:RelV v u
 get:PySem.W.specialIn K u "__get__" = some none
 cp:PySem.W.copiedNames.contains f=false
structure Meth (K:C6) (C:Ko) (m:Str) (f:Ko):Prop where
 at_:PySem.W.findIn K (.ref C) m=some (↑f)
 fn:PySem.W.isFn K (.ref f)=true
 kp:PySem.W.keepIn K (.ref f)=true
section
variable {X:Cx} {Ku:Ks (Ko×Obj)} {σ:St} {H:Hp} {s:IN} {a C dx:Ko} {fs:Ks (Str×V)} {f:Str} {v:V} {A:Around} {E:IS->IN->Prop}
theorem nv {b:Bool} {Q:IS->IN->Prop} (I:Inv X Ku σ H s) (e:H a=some (.ins C dx fs)) (c:Cls X.K C) (n:NoAttr X.K C f) (l:fs.lookup f=some v)
  (h:∀u s',Inv X Ku σ H s'->RelV v u->Q u s'):wpAny (model X.prog X.w) A (getAttr (.ref a) f b) Q E s:=by
 obtain⟨mA,O,r,_,_,_⟩:=fP I.hok e;obtain⟨u,hu,ru⟩:=RelO.some_of (v:=v) (o:=mA f) (by rw[<- l];exact r f);exact wf I.kIn O (c.get f) c.hd n hu (qJ ru) (h u _ (I.tok _) ru)
theorem fB {m:Str} {g:Ko} {pl:Sem Bool} {Q:IS×Ks IS->IN->Prop} (I:Inv X Ku σ H s) (e:H a=some (.ins C dx fs)) (c:Cls X.K C) (k:Meth X.K C m g) (l:fs.lookup m=none)
  (h:Q (.ref g,[.ref a]) s):wpAny (model X.prog X.w) A (getMethod (.ref a) m pl) Q E s:=by
 obtain⟨mA,O,r,_,_,_⟩:=fP I.hok e;have hn:mA m=none:=RelO.none_of (by rw[<- l];exact r m);exact tS I.kIn O (c.get m) k.at_ k.fn hn h
theorem nw {y:V} {u:IS} {Q:Unit->IN->Prop} (I:Inv X Ku σ H s) (e:H a=some (.ins C dx fs)) (c:Cls X.K C) (n:NoAttr X.K C f) (hl:fs.length < 1000) (ry:RelV y u)
  (h:∀s',Inv X Ku σ (upd H a (.ins C dx (dj f y fs))) s'->Q () s'):wpAny (model X.prog X.w) A (setAttr (.ref a) f u) Q E s:=by
 obtain⟨mA,O,r,wi,_,ho⟩:=fP I.hok e;have hz:(fs.map (·.1)).length<=sizeLine:=by rw[B5,sizeLine_eq];lia
 apply wg I.kIn O c.sa c.po n.taker c.hd wi hz λ h' O' sb=>h _ ?_;have hd:∃o,h'.get? dx=some o:=let ⟨o,_,_,e',_⟩:=O'.ns;%[o|e']
 apply I.write (x:=a) (e:=dx) (by rw[e];exact True.intro) (.inr ho) (λ b q hb z=>(sb.2 b hb).trans z) hd ?_;apply%[by rw[ah O.ne];exact ho,?_,O.ne,O'.obj,_,O'.ns,λ g=>?_|λ g hg=>?_]
 ·have:=eL f y fs;lia
 ·show RelO ((dj f y fs).lookup g) (if g=f then some u else mA g);rw[bH]
  by_cases q:g=f
  ·rw[Kz q,Kz q];exact ry
  ·rw[Ky q,Ky q];exact r g
 ·by_cases q:g=f
  ·rw[q];exact(gu f y fs).1
  ·apply(gu f y fs).2 g (wi g λ z=>hg ?_);show(if g=f then some u else mA g)=none;rw[Ky q];exact z
theorem Inv.made (I:Inv X Ku σ H s):Inv X Ku σ (upd (upd H s.heap.objs.size (.own (s.heap.objs.size+1))) (s.heap.objs.size+1) (.ins C s.heap.objs.size []))
  { s with heap:=(s.heap.push PySem.W.emptyDict).push (PySem.W.instObj C s.heap.objs.size) }:=by
 have e1:(s.heap.push PySem.W.emptyDict).get? s.heap.objs.size=some PySem.W.emptyDict:=A9 s.heap rfl;have e2:((s.heap.push PySem.W.emptyDict).push (PySem.W.instObj C s.heap.objs.size)).get? (s.heap.objs.size+1)=some (PySem.W.instObj C s.heap.objs.size):=by have:=A9 (s.heap.push PySem.W.emptyDict) (o:=PySem.W.instObj C s.heap.objs.size) rfl;rwa [K3]at this
 have e3:(s.heap.push PySem.W.emptyDict).Ns s.heap.objs.size (λ _=>none):=%[PySem.W.emptyDict,#[],_,e1,Y,(λ e he=>absurd he (by simp))|λ _=>rfl]
 have I1:=I.laid (a:=s.heap.objs.size) (o:=.own (s.heap.objs.size+1)) (h':=s.heap.push PySem.W.emptyDict) (t':=s.toks) (λ b u q=>A8 _ q) (B4 _) %[_|e1];apply I1.laid (a:=s.heap.objs.size+1) (o:=.ins C s.heap.objs.size []) (t':=s.toks) (λ b u q=>A8 _ q) (Nat.le_of_eq (K3 _ _)) ?_;have ne:s.heap.objs.size≠s.heap.objs.size+1:=C1 (G1 _);apply%[by rw[ah ne,ai],G0 _,ne,e2,λ _=>none,(Heap.Ns1.of_empty e3).at λ o q=>A8 _ q,λ _=>True.intro|λ y hy=>absurd rfl hy]
theorem wj {prog:IP} {w:IR} {env:Env} {e:Expr} {f:Str} {pos:Pos} {s:IN} {Q:IS->IN->Prop} (hb:attributeBase e f env (eval e env)=eval e env)
  (h:wpAny (model prog w) A (eval e env) (λ o s₁=>wpAny (model prog w) A (getAttr o f true) Q E s₁) E s):wpAny (model prog w) A (eval (.Attribute e f pos) env) Q E s :=
 Attribute_any_ h (by rw[arm_eval_Attribute,hb])
end
def FZ (K:C6) (ta:TE) (f:Str):TE:=λ σ H Q=>ta σ H λ x H1=>∃a C dx fs v,x=.ref a/\H1 a=some (.ins C dx fs)/\Cls K C/\NoAttr K C f/\fs.lookup f=some v/\Q v H1
def AE (K:C6) (ta tv:TE) (f:Str):TS:=λ D σ H=>tv σ H λ y H1=>ta σ H1 λ x H2=>∃a C dx fs,x=.ref a/\H2 a=some (.ins C dx fs)/\Cls K C/\NoAttr K C f/\fs.length < 1000 /\
 D.nx σ (upd H2 a (.ins C dx (dj f y fs)))
section
variable {X:Cx} {o e value:Expr} {f:Str} {pos pos' tpos:Pos} {ta tv:TE}
theorem gv (he:PE X e ta) (hb:attributeBase e f X.env (eval e X.env)=eval e X.env):PE X (.Attribute e f pos) (FZ X.K ta f):=by intro Ku s σ H Q I h;apply wj hb (thn (he Ku s σ H _ I h) λ u s1 %[x,H1,I1,rx,a,C,dx,fs,v,ex,ea,c,n,l|q]=>?_);subst ex;obtain rfl:u=Value.ref a:=rx;exact nv I1 ea c n l λ u' s2 I2 ru=>%[v,H1,I2,ru|q]
theorem tU (ha:PE X o ta) (hv:PE X value tv) (hs:swapsWith value (some (.Attribute o f pos')) pos.line X.env=pure false):PS X (.Assign [.Attribute o f pos'] value pos) (AE X.K ta tv f):=by intro Ku s σ H D I h;apply plainObj_wpAny_Assign_Attribute (thn (hv Ku s σ H _ I h) λ u s1 %[y,H1,I1,ry|q]=>thn (ha Ku s1 σ H1 _ I1 q) λ ov s2 %[x,H2,I2,rx,a,C,dx,fs,ex,ea,c,n,l|q2]=>?_) hs;subst ex;obtain rfl:ov=Value.ref a:=rx;exact nw I2 ea c n l ry λ s3 I3=>%[σ,_,I3|q2]
theorem xE {pl:Sem Bool} {m:Str} {apos:Pos} {args:Ks Expr} {Ku:Ks (Ko×Obj)} {s:IN} {σ:St} {H:Hp} {Q:IS->IN->Prop} {te:TE} (he:PE X e te) (I:Inv X Ku σ H s)
  (h:te σ H λ x H1=>∃a C dx fs g,x=.ref a/\H1 a=some (.ins C dx fs)/\Cls X.K C/\Meth X.K C m g/\fs.lookup m=none /\
   ∀s1,Inv X Ku σ H1 s1->wpAny (model X.prog X.w) X.A (callWith pos (.ref g) [.ref a] (backTo pos (starEach args X.env)) (backToKw pos (keywordEach [] X.env))) Q X.xe s1)
  (ht:eval (.Call (.Attribute e m apos) args [] pos) X.env=(do
   let ov<-eval e X.env
   standAt apos.atName
   let (f,first)<-holding [ov] (getMethod ov m pl)
   callWith pos f first (backTo pos (starEach args X.env)) (backToKw pos (keywordEach [] X.env)))) :
  wpAny (model X.prog X.w) X.A (eval (.Call (.Attribute e m apos) args [] pos) X.env) Q X.xe s:=by
 apply PySem.W.methodCall_KW (pl:=pl) (thn (he Ku s σ H _ I h) λ u s1 %[x,H1,I1,rx,a,C,dx,fs,g,ex,ea,c,k,l|q]=>?_) ht;subst ex;obtain rfl:u=Value.ref a:=rx;exact fB I1 ea c k l (q s1 I1)
end
section
variable {X:Cx} {Ku:Ks (Ko×Obj)} {σ:St} {H:Hp} {s:IN} {A:Around} {E:IS->IN->Prop} {Q:IS->IN->Prop} {c:IS} {b:Bool}
inductive TyOf (K:C6) (H:Hp):V->Value->Prop where
 | non:TyOf K H .non (.type "NoneType")
 | bl (x:Bool):TyOf K H (.bl x) (.type "bool")
 | int (i:Int):TyOf K H (.int i) (.type "int")
 | str (x:Str):TyOf K H (.str x) (.type "str")
 | flt (x:UInt64):TyOf K H (.flt x) (.type "float")
 | lst {a:Ko} {xs:Ks V} (e:H a=↥xs):TyOf K H (.ref a) (.type "list")
 | frz {a:Ko} {o:Obj} {xs:Ks V} (e:H a=some (.frz o (.lst xs))):TyOf K H (.ref a) (.type "list")
 | tup {a:Ko} {xs:Ks V} (e:H a= ~~~xs):TyOf K H (.ref a) (.type "tuple")
 | dK {a:Ko} {kvs:Ks (Key×V)} (e:H a=some (.dK kvs)):TyOf K H (.ref a) (.type "dict")
 | dT {a:Ko} {kvs:Ks (Ks Key×V)} (e:H a=some (.dT kvs)):TyOf K H (.ref a) (.type "dict")
 | ext {a:Ko} {φ:Heap->Prop} (e:H a=some (.ext φ)) (c:∀h,φ h->∃o,h.get? a=some o/\o.cls=.type "dict"):TyOf K H (.ref a) (.type "dict")
 | ins {a C dx:Ko} {fs:Ks (Str×V)} (e:H a=some (.ins C dx fs)) (cl:Cls K C) (ha:PySem.W.findIn K (.ref C) "__class__" = some (some (.builtin "object.__class__")))
   (hn:PySem.W.specialIn K (.builtin "object.__class__") "__get__" = some (some (.builtin "getset_descriptor.__get__"))) (htk:PySem.W.takesIn K (.builtin "object.__class__")=some true)
   (hm:PySem.W.mroIn K C (.type "object")=some true):TyOf K H (.ref a) (.ref C)
theorem qK {x:V} {u t:IS} (I:Inv X Ku σ H s) (rx:RelV x u) (ty:TyOf X.K H x t) (e:PySem.W.kitOne X.K t c=some b) (h:∀tk,Q (.bool b) { s with toks:=tk }) :
  wpAny (model X.prog X.w) A (call (.builtin "isinstance") [u,c]) Q E s:=by
 cases ty with
 | non=>cases(show u=Value.none from rx);exact PySem.W.kia_one PySem.W.kitx_none I.kIn True.intro e (λ z=>nomatch z) h
 | bl y=>cases(show u=Value.bool y from rx);exact PySem.W.kia_one PySem.W.kitx_bool I.kIn True.intro e (λ z=>nomatch z) h
 | int i=>obtain⟨t,q⟩:=(show∃t,u=Value.int i t from rx);cases q;exact PySem.W.kia_one PySem.W.kitx_int I.kIn True.intro e (λ z=>nomatch z) h
 | str y=>obtain⟨t,q⟩:=(show∃t,u=Value.str y t from rx);cases q;exact PySem.W.kia_one PySem.W.kitx_str I.kIn True.intro e (λ z=>nomatch z) h
 | flt y=>obtain⟨t,q⟩:=(show∃t,u=Value.float y t from rx);cases q;exact PySem.W.kia_one PySem.W.kitx_float I.kIn True.intro e (λ z=>nomatch z) h
 | @lst a xs ea=>
  cases(show u=Value.ref a from rx);obtain⟨_,_,n,_,h1⟩:=(show ObjOk X.prog X.w H s.heap a (.lst xs)from I.hok a _ ea)
  exact PySem.W.kia_one PySem.W.kitx_list I.kIn %[_,h1|Y] e (λ z=>nomatch z) h
 | @frz a ob xs ea=>
  cases(show u=Value.ref a from rx);obtain⟨_,_,_,n,_,h1⟩:=(show ObjOk X.prog X.w H s.heap a (.frz ob (.lst xs))from I.hok a _ ea)
  exact PySem.W.kia_one PySem.W.kitx_list I.kIn %[_,h1|Y] e (λ z=>nomatch z) h
 | @tup a xs ea=>
  cases(show u=Value.ref a from rx);obtain⟨_,_,_,p⟩:=(show ObjOk X.prog X.w H s.heap a (.tup xs)from I.hok a _ ea)
  obtain⟨o,h1,h2,_⟩:=p;exact PySem.W.kia_one PySem.W.kitx_tuple I.kIn %[o,h1|h2] e (λ z=>nomatch z) h
 | @dK a kvs ea=>
  cases(show u=Value.ref a from rx);obtain⟨_,_,vs,_,p⟩:=(show ObjOk X.prog X.w H s.heap a (.dK kvs)from I.hok a _ ea)
  obtain⟨o,es,ep,h1,h2,_⟩:=p;exact PySem.W.kia_one PySem.W.kitx_dict I.kIn %[o,h1|h2.1] e (λ z=>nomatch z) h
 | @dT a kvs ea=>
  cases(show u=Value.ref a from rx);obtain⟨_,_,xs,_,o,es,ep,h1,h2,_⟩:=(show ObjOk X.prog X.w H s.heap a (.dT kvs)from I.hok a _ ea)
  exact PySem.W.kia_one PySem.W.kitx_dict I.kIn %[o,h1|h2.1] e (λ z=>nomatch z) h
 | @ext a φ ea c=>
  cases(show u=Value.ref a from rx);obtain⟨p,_,_⟩:=(show ObjOk X.prog X.w H s.heap a (.ext φ)from I.hok a _ ea)
  obtain⟨o,h1,h2⟩:=c _ p;exact PySem.W.kia_one PySem.W.kitx_dict I.kIn %[o,h1|h2] e (λ z=>nomatch z) h
 | @ins a C dx fs ea cl ha hn htk hm=>
  cases(show u=Value.ref a from rx);obtain⟨mA,O,_⟩:=fP I.hok ea;obtain⟨od,J,_⟩:=O.look;exact PySem.W.kia_one (PySem.W.kitx_own (cl.get _) cl.hd ha hn htk hm) I.kIn J e (λ z=>nomatch z) h
end
structure Room (k:Nat) (A:Around):Prop where
 hd:A.handled=none
 dp:A.depth+3 * k+5 < recursionLimit
 un:A.units+16 * k+200 < cLine
 gd:A.guards=some []
theorem Room.mono {j k:Nat} {A:Around} (r:Room k A) (h:j<=k):Room j A:=%[r.hd,by have:=r.dp;lia,by have:=r.un;lia|r.gd]
theorem Room.deeper {k:Nat} {A:Around} (r:Room (k+1) A) (env:Env):Room k (A.deeper env) :=
 %[r.hd,by have:=r.dp;show A.depth+1+3 * k+5 < _;lia,by have:=r.un;show A.units+3+16 * k+200 < _;lia|r.gd]
theorem ny {A:Around} {C:Ko} {us:Ks IS} {kw:Ks (Str×IS)}:(A.under (.builtin "type.__call__" %[.ref C :: us|kw])).depth=A.depth+1:=by first | rfl | simp[Around.under,Code.weight,Code.isCreation,Code.isGuard,Code.isCaller,Code.frames,Code.isFrame,guardIds]
theorem nz {A:Around} {C:Ko} {us:Ks IS} {kw:Ks (Str×IS)}:(A.under (.builtin "type.__call__" %[.ref C :: us|kw])).units=A.units+1:=by first | rfl | simp[Around.under,Code.cUnits,Code.frames,Code.isFrame]
theorem lX {A:Around} {C:Ko} {us:Ks IS} {kw:Ks (Str×IS)}:(A.under (.builtin "type.__call__" %[.ref C :: us|kw])).guards=A.guards:=by
 have e:Code.guards (.builtin "type.__call__" %[.ref C :: us|kw])=[]:=by
  have:(Code.builtin "type.__call__" %[.ref C :: us|kw]).isGuard=false:=by show guardIds.contains "type.__call__" = false;decide +kernel
  simp[Code.guards,this]
 unfold Around.under;dsimp only;rw[e]
 rfl
theorem Room.make {k:Nat} {A:Around} (r:Room (k+1) A) (C:Ko) (us:Ks IS) (kw:Ks (Str×IS)):Room k (A.under (.builtin "type.__call__" %[.ref C :: us|kw])) :=
 %[r.hd,by have:=r.dp;rw[ny];lia,by have:=r.un;rw[nz];lia|by rw[lX];exact r.gd]
theorem Room.depth {k:Nat} {A:Around} (r:Room k A):A.depth < recursionLimit:=by have:=r.dp;lia
theorem Room.units {k:Nat} {A:Around} (r:Room k A):A.units+64 < cLine:=by have:=r.un;lia
def qL:TA:=λ _ H Q=>Q [] H
def xF (ta:TE) (tr:TA):TA:=λ σ H Q=>ta σ H λ x H1=>tr σ H1 λ xs H2=>Q (x :: xs) H2
section
variable {X:Cx} {e:Expr} {es:Ks Expr} {te:TE} {t:TA} {pos:Pos}
theorem ab:PA X [] qL:=λ _ _ _ _ H Q I h=>Calls.spliced_nil %[[],H,I,.nil|h]
theorem aa (ha:PE X e te) (hr:PA X es t) (hs:starEach (e :: es) X.env=(false,eval e X.env) :: starEach es X.env:=by rfl):PA X (e :: es) (xF te t):=by intro pos Ku s σ H Q I h;rw[hs];show wpAny _ _ (spliced ((false,eval e X.env) :: backTo pos (starEach es X.env))) _ _ s;apply Calls.spliced_cons (thn (ha Ku s σ H _ I h) λ u s1 %[x,H1,I1,r1|q1]=>?_);exact thn (hr pos Ku s1 σ H1 _ I1 q1) λ us s2 %[xs,H2,I2,r2|q2]=>%[x :: xs,H2,I2,.cons r1 r2|q2]
def Ga (t:TA):TE:=λ σ H Q=>t σ H λ xs H1=>xs.length<=sizeLine/\∀p,H1 p=none->Q (.ref p) (upd H1 p (.tup xs))
def Gb (t:TA):TE:=λ σ H Q=>t σ H λ xs H1=>xs.length<=sizeLine/\∀p,H1 p=none->Q (.ref p) (upd H1 p (.lst xs))
theorem aG {x1} (h:PA X es t):PE X (.Tuple es x1 pos) (Ga t):=by intro Ku s σ H Q I hq;apply wpAny_Tuple_spliced (thn (h pos Ku s σ H _ I hq) λ us s1 %[xs,H1,I1,r,z|q]=>%[by rw[<- r.length];exact z|?_]);have hf:H1 s1.heap.objs.size=none:=I1.hok.fresh (B4 _);apply%[.ref s1.heap.objs.size,upd H1 s1.heap.objs.size (.tup xs),I1.laid (t':=s1.toks) (λ b u e=>A8 _ e) (B4 _) ?_,Y|q _ hf];exact%[z,us,r|%[_,A9 _ rfl,Y,_|Y]]
theorem bW (h:PA X es t):PE X (.List es pos) (Gb t):=by intro Ku s σ H Q I hq;apply wpAny_List_spliced (thn (h pos Ku s σ H _ I hq) λ us s1 %[xs,H1,I1,r,z|q]=>%[by rw[<- r.length];exact z|?_]);have hf:H1 s1.heap.objs.size=none:=I1.hok.fresh (B4 _);apply%[.ref s1.heap.objs.size,upd H1 s1.heap.objs.size (.lst xs),I1.laid (t':=s1.toks) (λ b u e=>A8 _ e) (B4 _) ?_,Y|q _ hf];exact%[z,us,0,r|A9 _ rfl]
end
abbrev Sp:=Ks V->Hp->VK->XK->Prop
abbrev CXT:=Ks Env->Hp->IN->XK->IS->IN->Prop
structure Env0 (P:Program) (w:World) (K:C6) (mg:Str->Kq Value) (base:Heap) (A:Around) (outer:Ks Env) (s:Shared) (H:Hp):Prop where
 frames:A.frames=some outer
 mod:Mod K mg base
 bs:∀b o,base.get? b=some o->s.heap.get? b=some o/\H b=none
 bsz:base.objs.size<=s.heap.objs.size
 funs:s.heap.FunFrames base outer
 frf:∀b∈frs outer,H b=none
 hok:HOk P w H s.heap
 bare:AllBare s.gens
def CE (outer:Ks Env) (P:IP) (w:IR) (H:Hp) (s:IN) (Q:VK) (u:IS) (s':IN):Prop :=
 ∃v H',s'.os=s.os/\AllBare s'.gens/\Un (frs outer) [] H H' s.heap s'.heap/\HOk P w H' s'.heap/\RelV v u/\Q v H'
def CR (CX:CXT) (outer:Ks Env) (P:IP) (w:IR) (H:Hp) (s:IN) (Q:VK) (E:XK) (r:Result) (s':IN):Prop :=
 match r with
 | .ok (.ret u)=>CE outer P w H s Q u s'
 | .ok _=>False
 | .error e=>CX outer H s E e s'
structure FnOk (P:Program) (w:World) (K:C6) (mg:Str->Kq Value) (base:Heap) (CX:CXT) (k:Nat) (f:Ko) (fd:FuncData) (ps:Ks Str) (sp:Sp):Prop where
 len:∀vs H Q E,sp vs H Q E->vs.length=ps.length
 run:∀ (A:Around) (outer:Ks Env) (s:IN) (H:Hp) (args:Args) (us:Ks IS) (vs:Ks V) (Q:VK) (E:XK),Room k A->Env0 P w K mg base A outer s H->BindsTo s fd args (ps.zip us)->Vals vs us->sp vs H Q E ->
  codeAny (model P w) A (.call (.ref f) args) (CR CX outer P w H s Q E) s
theorem Env0.make {P:IP} {w:IR} {K:C6} {mg:Str->Kq IS} {base:Heap} {A:Around} {outer:Ks Env} {s:IN} {H:Hp} (e:Env0 P w K mg base A outer s H) (C:Ko) (us:Ks IS) (kw:Ks (Str×IS)) :
  Env0 P w K mg base (A.under (.builtin "type.__call__" %[.ref C :: us|kw])) outer s H:=⟨by first | exact e.frames | (simpa[Around.under,Code.envs,Code.isFrame,pushEnvs]using e.frames),e.mod,e.bs,e.bsz,e.funs,e.frf,e.hok,e.bare⟩
section
variable {X:Cx} {Ku:Ks (Ko×Obj)} {σ:St} {H:Hp} {s s':IN}
theorem Inv.env0 (I:Inv X Ku σ H s):Env0 X.prog X.w X.K X.mg X.base X.A X.stack s H :=
 %[I.ok.frames,I.ok.mod,I.bs,C7 I.ok.bsz I.sz,I.stack,I.stkFree,I.hok|I.bare]
theorem Inv.after {Q:VK} {u:IS} (I:Inv X Ku σ H s) (h:CE X.stack X.prog X.w H s Q u s'):EP X Ku σ Q u s':=by obtain⟨v,H',os,bare,un,hok,r,q⟩:=h;obtain⟨hh,g,d,t,os'⟩:=s';obtain rfl:os'=s.os:=os;exact%[v,H',I.call (h':=hh) (g':=g) (d':=d) (t':=t) (ch:=[]) un hok bare (λ b z=>absurd z (by simp)),r|q]
end
def xG (sp:Sp) (dvs:Ks V) (E:XK) (t:TA):TE:=λ σ H Q=>t σ H λ vs H1=>sp (vs ++ dvs) H1 Q E
def pJ (C:Ko) (m:Str) (sp:Sp) (dvs:Ks V) (E:XK) (ta:TE) (t:TA):TE:=λ σ H Q=>ta σ H λ x H1=>∃a dx fs,x=.ref a/\H1 a=some (.ins C dx fs)/\fs.lookup m=none /\
 t σ H1 λ vs H2=>sp (x :: (vs ++ dvs)) H2 Q E
def xH (C:Ko) (sp:Sp) (dvs:Ks V) (E:XK) (t:TA):TE:=λ σ H Q=>t σ H λ vs H1=>∀x dx,H1 x=none->H1 dx=none->dx≠x ->
 sp (.ref x :: (vs ++ dvs)) (upd (upd H1 dx (.own x)) x (.ins C dx [])) (λ v H2=>v=.non/\Q (.ref x) H2) E
def Binds (K:C6) (fd:IQ) (ps:Ks Str) (ds:Ks IS):Prop :=
 ∀ (s:IN) (us:Ks IS),K.In s.heap->(us ++ ds).length=ps.length->BindsTo s fd %[us|[]] (ps.zip (us ++ ds))
theorem Binds.all {K:C6} {fd:IQ} {ps:Ks Str} (h:∀us:Ks IS,us.length=ps.length->bindArgs fd %[us|[]]=pure (ps.zip us)):Binds K fd ps []:=λ s us _ hl=>by rw[JX]at hl ⊢;exact .of_eq (h us hl)
def fC (CX:CXT) (X:Cx) (E:XK):Prop:=∀ (Ku:Ks (Ko×Obj)) (σ:St) (H:Hp) (s:IN) (e:IS) (s':IN),Inv X Ku σ H s->CX X.stack H s E e s'->X.xe e s'
section
variable {X:Cx} {CX:CXT} {k:Nat} {f C:Ko} {fd:IQ} {ps:Ks Str} {sp:Sp} {dvs:Ks V} {ds:Ks IS} {E:XK} {x m:Str} {p pos apos:Pos} {e o:Expr} {es:Ks Expr} {ta:TE} {t:TA}
theorem nA {Ku:Ks (Ko×Obj)} {σ:St} {H:Hp} {s:IN} {Q:VK} {us:Ks IS} {vs:Ks V} (F:FnOk X.prog X.w X.K X.mg X.base CX k f fd ps sp) (hr:Room k X.A) (hb:Binds X.K fd ps ds) (hd:Vals dvs ds) (hx:fC CX X E)
  (I:Inv X Ku σ H s) (r:Vals vs us) (h:sp (vs ++ dvs) H Q E):wpAny (model X.prog X.w) X.A (call (.ref f) us) (EP X Ku σ Q) X.xe s:=by
 have r2:Vals (vs ++ dvs) (us ++ ds):=r.append hd;have hl:(us ++ ds).length=ps.length:=by rw[<- r2.length];exact F.len _ _ _ _ h
 apply wpAny_call (codeAny_mono (F.run X.A X.stack s H %[us|[]] (us ++ ds) (vs ++ dvs) Q E hr I.env0 (hb s us I.kIn hl) r2 h) λ r s' hq=>?_);cases r with
 | error e=>exact hx Ku σ H s e s' I hq
 | ok fl=>
  cases fl with
  | ret u=>exact I.after hq
  | next=>exact E9 hq
  | brk=>exact E9 hq
  | cont=>exact E9 hq
theorem wm (F:FnOk X.prog X.w X.K X.mg X.base CX k f fd ps sp) (hr:Room k X.A) (hg:Gl X x) (hm:X.mg x=↑f) (hk:PySem.W.keepIn X.K (.ref f)=true) (hb:Binds X.K fd ps ds) (hd:Vals dvs ds) (hx:fC CX X E)
  (ha:PA X (e :: es) t) (hdb:(x == ("__debug__" : Str))=false:=by decide) (he:starEach (e :: es) X.env=(false,eval e X.env) :: starEach es X.env:=by rfl) (hpl:(backTo pos (starEach es X.env)).any (·.1)=false:=by rfl) :
  PE X (.Call (.Name x p) (e :: es) [] pos) (xG sp dvs E t):=by
 intro Ku s σ H Q I h;apply wpAny_Call_Name_kw (kM I hg hm ?_ hdb);apply PySem.W.callWith_K (h₀:=X.base) I.ok.mod.kin hk (thn (ha pos Ku s σ H _ I h) λ us s1 %[vs,H1,I1,r|q]=>%[I1.kIn|?_]) he hpl;exact nA F hr hb hd hx I1 r q
theorem wq {pl:Sem Bool} (he:PE X o ta) (c:Cls X.K C) (hm:Meth X.K C m f) (F:FnOk X.prog X.w X.K X.mg X.base CX k f fd ps sp) (hr:Room k X.A) (hb:Binds X.K fd ps ds) (hd:Vals dvs ds) (hx:fC CX X E) (ha:PA X (e :: es) t)
  (hst:starEach (e :: es) X.env=(false,eval e X.env) :: starEach es X.env:=by rfl) (hpl:(backTo pos (starEach es X.env)).any (·.1)=false:=by rfl)
  (ht:eval (.Call (.Attribute o m apos) (e :: es) [] pos) X.env=(do
   let ov<-eval o X.env
   standAt apos.atName
   let (f,first)<-holding [ov] (getMethod ov m pl)
   callWith pos f first (backTo pos (starEach (e :: es) X.env)) (backToKw pos (keywordEach [] X.env))):=by rfl) :
  PE X (.Call (.Attribute o m apos) (e :: es) [] pos) (pJ C m sp dvs E ta t):=by
 intro Ku s σ H Q I h;apply PySem.W.methodCall_KW (pl:=pl) (thn (he Ku s σ H _ I h) λ u s1 %[x,H1,I1,rx,a,dx,fs,ex,ea,l|q]=>?_) ht;subst ex;obtain rfl:u=Value.ref a:=rx;apply fB I1 ea c hm l ?_;apply PySem.W.callWith_K (first:=[.ref a]) (h₀:=X.base) I.ok.mod.kin hm.kp (thn (ha pos Ku s1 σ H1 _ I1 q) λ us s2 %[vs,H2,I2,r|q2]=>%[I2.kIn|?_]) hst hpl;exact nA (us:=.ref a :: us) (vs:=.ref a :: vs) F hr hb hd hx I2 (.cons rfl r) q2
theorem tV {pl:Sem Bool} (he:PE X o ta) (c:Cls X.K C) (hm:Meth X.K C m f) (F:FnOk X.prog X.w X.K X.mg X.base CX k f fd ps sp) (hr:Room k X.A) (hb:Binds X.K fd ps ds) (hd:Vals dvs ds) (hx:fC CX X E)
  (ht:eval (.Call (.Attribute o m apos) [] [] pos) X.env=(do
   let ov<-eval o X.env
   standAt apos.atName
   let (f,first)<-holding [ov] (getMethod ov m pl)
   callWith pos f first (backTo pos (starEach [] X.env)) (backToKw pos (keywordEach [] X.env))):=by rfl) :
  PE X (.Call (.Attribute o m apos) [] [] pos) (pJ C m sp dvs E ta qL):=by
 intro Ku s σ H Q I h;apply PySem.W.methodCall_KW (pl:=pl) (thn (he Ku s σ H _ I h) λ u s1 %[x,H1,I1,rx,a,dx,fs,ex,ea,l|q]=>?_) ht;subst ex;obtain rfl:u=Value.ref a:=rx;apply fB I1 ea c hm l ?_;exact PySem.W.callWith_K0 (first:=[.ref a]) I1.kIn hm.kp (nA (us:=[.ref a]) (vs:=[.ref a]) F hr hb hd hx I1 (.cons rfl .nil) q)
structure Mk (K:C6) (C f:Ko):Prop where
 makes:PySem.W.makesIn K C=true
 init:PySem.W.findIn K (.ref C) "__init__" = some (↑f)
 fn:PySem.W.isFn K (.ref f)=true
 kp:PySem.W.keepIn K (.ref C)=true
theorem tW {Ku:Ks (Ko×Obj)} {σ:St} {H:Hp} {s:IN} {Q:VK} {us:Ks IS} {vs:Ks V} (M:Mk X.K C f) (F:FnOk X.prog X.w X.K X.mg X.base CX k f fd ps sp) (hr:Room (k+1) X.A) (hb:Binds X.K fd ps ds) (hd:Vals dvs ds)
  (hx:fC CX X E) (I:Inv X Ku σ H s) (r:Vals vs us)
  (h:∀x dx,H x=none->H dx=none->dx≠x->sp (.ref x :: (vs ++ dvs)) (upd (upd H dx (.own x)) x (.ins C dx [])) (λ v H2=>v=.non/\Q (.ref x) H2) E) :
  wpAny (model X.prog X.w) X.A (call (.ref C) us) (EP X Ku σ Q) X.xe s:=by
 have hq:=h (s.heap.objs.size+1) s.heap.objs.size (I.hok.fresh (Kk _)) (I.hok.fresh (B4 _)) (C1 (G1 _));have I2:=Inv.made (C:=C) I;have r2:Vals (V.ref (s.heap.objs.size+1) :: (vs ++ dvs)) (Value.ref (s.heap.objs.size+1) :: (us ++ ds)):=.cons rfl (r.append hd);have hl:(Value.ref (s.heap.objs.size+1) :: us ++ ds).length=ps.length:=by have e:=r2.length;rw[F.len _ _ _ _ hq]at e;exact e.symm
 apply wpAny_call (tT (f:=f) I.kIn M.makes M.init (C5.mp M.fn) (codeAny_mono (F.run _ X.stack _ _ %[Value.ref (s.heap.objs.size+1) :: us|[]] (Value.ref (s.heap.objs.size+1) :: (us ++ ds)) _ _ E (hr.make C us [])
  (I2.env0.make C us []) (hb _ (Value.ref (s.heap.objs.size+1) :: us) I2.kIn hl) r2 hq) λ r s' hq'=>?_))
 cases r with
 | error e=>exact hx Ku σ _ _ e s' I2 hq'
 | ok fl=>
  cases fl with
  | ret u=>
   obtain⟨v,H',I3,rv,ev,q3⟩:=I2.after hq';subst ev;exact%[rv|%[V.ref (s.heap.objs.size+1),H',I3,Y|q3]]
  | next=>exact E9 hq'
  | brk=>exact E9 hq'
  | cont=>exact E9 hq'
theorem wr (M:Mk X.K C f) (F:FnOk X.prog X.w X.K X.mg X.base CX k f fd ps sp) (hr:Room (k+1) X.A) (hg:Gl X x) (hm:X.mg x=↑C) (hb:Binds X.K fd ps ds) (hd:Vals dvs ds) (hx:fC CX X E)
  (ha:PA X (e :: es) t) (hdb:(x == ("__debug__" : Str))=false:=by decide) (he:starEach (e :: es) X.env=(false,eval e X.env) :: starEach es X.env:=by rfl) (hpl:(backTo pos (starEach es X.env)).any (·.1)=false:=by rfl) :
  PE X (.Call (.Name x p) (e :: es) [] pos) (xH C sp dvs E t):=by
 intro Ku s σ H Q I h;apply wpAny_Call_Name_kw (kM I hg hm ?_ hdb);apply PySem.W.callWith_K (h₀:=X.base) I.ok.mod.kin M.kp (thn (ha pos Ku s σ H _ I h) λ us s1 %[vs,H1,I1,r|q]=>%[I1.kIn|?_]) he hpl;exact tW M F hr hb hd hx I1 r q
end
section
variable {X:Cx} {CX:CXT} {k:Nat} {f C:Ko} {fd:IQ} {ps ks:Ks Str} {sp:Sp} {E:XK} {x m:Str} {p pos apos kpos:Pos} {e o:Expr} {es:Ks Expr} {kws:Ks Keyword} {te ta:TE} {t tk:TA} {nm:Kq Str}
structure KBinds (K:C6) (fd:FuncData) (ps ks:Ks Str) (g:Ks Value->Ks Value->Ks Value) (gV:Ks V->Ks V->Ks V):Prop where
 to:∀ (s:IN) (us ws:Ks IS),K.In s.heap->(g us ws).length=ps.length->BindsTo s fd %[us|ks.zip ws] (ps.zip (g us ws))
 rel:∀ {vs:Ks V} {us:Ks IS} {zs:Ks V} {ws:Ks IS},Vals vs us->Vals zs ws->Vals (gV vs zs) (g us ws)
variable {g:Ks IS->Ks IS->Ks IS} {gV:Ks V->Ks V->Ks V}
end
structure FnScope (N P:Ks Str) (sc:Scope):Prop where
 kind:sc.kind=.function
 co:sc.isCoroutine=false
 gen:sc.isGenerator=false
 nd:N.Nodup
 pre:N.take P.length=P
 par:∀x∈P,sc.names.lookup x=some .local\/sc.names.lookup x=some .cell
 nofree:∀y∈sc.names,y.2≠.free
theorem jI {kindOf:Str->Kq NameKind} {x:Str}:∀ {binds:Ks (Str×IS)} {m:Str->Kq IS},(∀v,(x,v)∉binds)->bindL kindOf binds m x=m x
 | [],_,_=>rfl
 | (n,v) :: r,m,h=>by
  unfold bindL;rw[jI λ w hw=>h w (B6 _ hw)]
  split
  ·have:x≠n:=by rintro rfl;exact h v B9
   simp[this]
  ·rfl
theorem jJ {kindOf:Str->Kq NameKind} {x:Str}:∀ {binds:Ks (Str×IS)} {m:Str->Kq IS},(∀v,(x,v)∉binds)->bindC kindOf binds m x=m x
 | [],_,_=>rfl
 | (n,v) :: r,m,h=>by
  unfold bindC;rw[jJ λ w hw=>h w (B6 _ hw)]
  split
  ·rfl
  ·have:x≠n:=by rintro rfl;exact h v B9
   simp[this]
theorem jK {kindOf:Str->Kq NameKind} {x:Str} {v:IS}:∀ {P:Ks Str} {vs:Ks IS} {i:Nat} {m:Str->Kq IS},P.Nodup->P[i]?=some x->vs[i]?=some v->kindOf x=some .local ->
  bindL kindOf (P.zip vs) m x=some v
 | [],_,_,_,_,h,_,_=>by simp at h
 | _ :: _,[],_,_,_,_,h,_=>by simp at h
 | p :: P,w :: vs,0,m,nd,h1,h2,hk=>by simp at h1 h2;subst h1;subst h2;show bindL kindOf ((p,w) :: P.zip vs) m p=_;unfold bindL;rw[jI λ v hv=>(J9.mp nd).1 (Kb hv).1,Kz hk];simp
 | p :: P,w :: vs,i+1,m,nd,h1,h2,hk=>by show bindL kindOf ((p,w) :: P.zip vs) m x=_;unfold bindL;exact jK (i:=i) (J9.mp nd).2 (by simpa using h1) (by simpa using h2) hk
theorem jL {kindOf:Str->Kq NameKind} {x:Str} {v:IS}:∀ {P:Ks Str} {vs:Ks IS} {i:Nat} {m:Str->Kq IS},P.Nodup->P[i]?=some x->vs[i]?=some v->kindOf x≠some .local ->
  bindC kindOf (P.zip vs) m x=some v
 | [],_,_,_,_,h,_,_=>by simp at h
 | _ :: _,[],_,_,_,_,h,_=>by simp at h
 | p :: P,w :: vs,0,m,nd,h1,h2,hk=>by simp at h1 h2;subst h1;subst h2;show bindC kindOf ((p,w) :: P.zip vs) m p=_;unfold bindC;rw[jJ λ v hv=>(J9.mp nd).1 (Kb hv).1,Ky hk];simp
 | p :: P,w :: vs,i+1,m,nd,h1,h2,hk=>by show bindC kindOf ((p,w) :: P.zip vs) m x=_;unfold bindC;exact jL (i:=i) (J9.mp nd).2 (by simpa using h1) (by simpa using h2) hk
def fv (N:Ks Str) (vs:Ks V):St:=vs.map some ++ List.replicate (N.length - vs.length) none
def qM (CX:CXT) (P:IP) (w:IR) (K:C6) (mg:Str->Kq IS) (base:Heap) (N:Ks Str) (qual:Str) (scope:Scope) (f:Ko) (cd:IS) (A:Around) (outer:Ks Env) (s:IN) (H:Hp) (E:XK):Cx where
 prog:=P
 w:=w
 K:=K
 mg:=mg
 base:=base
 A:=A.deeper (envOfC qual scope s.heap.objs.size f cd)
 N:=N
 s₀:=s
 H₀:=H
 env:=envOfC qual scope s.heap.objs.size f cd
 outer:=outer
 stack:=envOfC qual scope s.heap.objs.size f cd :: outer
 ex:=[]
 calm:=true
 fn:=λ _=>true
 pn:=[]
 xe:=λ e s'=>wpAny (model P w) (A.deeper (envOfC qual scope s.heap.objs.size f cd)) (leaving (envOfC qual scope s.heap.objs.size f cd) e) (λ _ s''=>CX outer H s E e s'') (λ e' s''=>CX outer H s E e' s'') s'
theorem lY {sc:Scope} {n:Nat} {x:Str} (h:sc.names.lookup x=some .cell):∃c,(cellsFrom n sc.names []).lookup x=some c:=by have q:=PySem.W.cellsFrom_some sc.names n [] (.inl h);exact Option.isSome_iff_exists.mp q
theorem qN {CX:CXT} {P:IP} {w:IR} {K:C6} {mg:Str->Kq IS} {base:Heap} {N ps:Ks Str} {qual:Str} {scope:Scope} {f:Ko} {cd:IS} {A:Around} {outer:Ks Env} {s s1:IN} {H:Hp} {E:XK} {us:Ks IS} {vs:Ks V}
  (S:FnScope N ps scope) (hd:A.handled=none) (e0:Env0 P w K mg base A outer s H) (hl:vs.length=ps.length) (r:Vals vs us)
  (x:InCallC s s.heap.objs.size (bindL (envOfC qual scope s.heap.objs.size f cd).kindOf (ps.zip us) λ _=>none) (cellsFrom (s.heap.objs.size+1) scope.names []) (bindC (envOfC qual scope s.heap.objs.size f cd).kindOf (ps.zip us) λ _=>none) s1) :
  Inv (qM CX P w K mg base N qual scope f cd A outer s H E) [] (fv N vs) H s1:=by
 have hpl:ps.length<=N.length:=by have:=Li List.length S.pre;rw[JJ]at this;lia
 obtain⟨h1,tk,rfl,hk⟩:=x.done;have noA:∀b:Ko,b∉(qM CX P w K mg base N qual scope f cd A outer s H E).ex:=λ b z=>absurd (show b∈([]:Ks Ko)from z) (by simp);apply⟨%[e0.mod,S.kind,Y,Y,B4 _,λ y z c h1 h2=>?_,λ y hy=>?_,λ y c _ h=>?_,λ _=>hd,Around.frames_deeper e0.frames,.inr %[Y|Y],λ b z=>absurd z (noA b),e0.bs,e0.bsz,λ b _ _=>noA b,λ b z=>absurd z (noA b),e0.funs|e0.frf],
  rfl,e0.bare,Un.kept hk,%[_,x.toInCall.ns|λ i y v h1 h2 h3=>?_],λ y c h=>%[_|x.cell y c h],e0.hok.fresh (B4 _),λ y c h=>?_,λ p hp=>absurd (show p∈([]:Ks (Ko×Obj))from hp) (by simp),e0.hok.kept hk,?_⟩
 ·exact name_of_addr x.apart (Lu h1) (Lu h2)
 ·have hy:scope.names.lookup y=some .cell\/scope.names.lookup y=some .free:=hy;rcases hy with hy | hy
  ·exact lY hy
  ·exact absurd rfl (S.nofree _ (Lu hy))
 ·exact C9 (x.above y c (Lu h))
 ·have hi:i < vs.length:=by
   unfold fv at h2
   by_cases hi:i < vs.length
   ·exact hi
   ·rw[JV (by simpa using hi)]at h2;rw[List.getElem?_replicate]at h2
    split at h2 <;> cases h2
  have ha:vs[i]?=some v:=by
   unfold fv at h2;rw[Jn (by simpa using hi),IY]at h2;cases e:vs[i]? with
   | none=>rw[e]at h2;cases h2
   | some a=>rw[e]at h2;cases h2;rfl
  obtain⟨u,hu,rv⟩:=r.get ha;have hp:ps[i]?=some y:=by rw[<- S.pre,List.getElem?_take_of_lt ⋯];exact h1
  have ndP:ps.Nodup:=by rw[<- S.pre];exact S.nd.sublist (List.take_sublist _ _)
  apply%[u,rv|?_];rcases S.par y (B7 hp)with k | k
  ·exact .inl %[k|jK ndP hp hu k]
  ·obtain⟨c,e⟩:=lY (n:=s.heap.objs.size+1) k;apply .inr %[.inl k,c,e|?_];have q:=x.cell y c e;rw[jL ndP hp hu (by show scope.names.lookup y≠_;rw[k];decide)]at q;exact q
 ·exact e0.hok.fresh (C9 (x.above y c (Lu h)))
 ·unfold fv;show _=N.length;rw[JD,B5,JT];lia
theorem AF {CX:CXT} {P:IP} {w:IR} {K:C6} {mg:Str->Kq IS} {base:Heap} {k:Nat} {f:Ko} {name qual:Str} {params:Arguments} {body:Ks Stmt} {scope:Scope} {dV kV doc pm cdv ct oc:IS} {an od:Kq Ko}
  {osl:Kr (Kq IS)} {N ps:Ks Str} {sp:Sp} (lk:K.lookup f=some %[oc,od,.func (E8 name qual params body scope dV kV doc pm an cdv ct)|osl]) (hcd:PySem.W.codeIn K cdv qual=true) (S:FnScope N ps scope)
  (len:∀vs H Q E,sp vs H Q E->vs.length=ps.length)
  (hbody:∀ (A:Around) (outer:Ks Env) (s:IN) (H:Hp) (vs:Ks V) (Q:VK) (E:XK),Room k (A.deeper (envOfC qual scope s.heap.objs.size f cdv))->sp vs H Q E ->
   ∃t,PSs (qM CX P w K mg base N qual scope f cdv A outer s H E) body t/\t { nx:=λ _ H'=>Q .non H',rt:=Q } (fv N vs) H) :
  FnOk P w K mg base CX (k+1) f (E8 name qual params body scope dV kV doc pm an cdv ct) ps sp:=by
 apply%[len|λ A outer s H args us vs Q E hr e0 hb r hsp=>?_];have hl:=len _ _ _ _ hsp;have KX:K.In s.heap:=e0.mod.kin.keeps λ b o e=>(e0.bs b o e).1;have lim:s.heap.NoLimit:=e0.mod.nolimit.keeps λ b o e=>(e0.bs b o e).1;have hkind:∀y∈ps.zip us,scope.names.lookup y.1=some .local\/(scope.names.lookup y.1=some .cell/\((cellsFrom (s.heap.objs.size+1) scope.names []).lookup y.1).isSome=true):=λ⟨n,v⟩ hy=>by
  rcases S.par n (Kb hy).1 with q | q
  ·exact .inl q
  ·exact .inr %[q|PySem.W.cellsFrom_some _ _ _ (.inl q)]
 apply codeAny_call_function hr.depth (KX _ _ lk) rfl S.co S.gen rfl (PySem.W.codeRec_of KX hcd) (hb _ _ _ _ ?_);apply wpAny_newFunctionEnv_cells S.kind hkind λ env he s1 x=>?_;subst he;apply%[lim.keeps x.toInCall.keep|codeAny_func ?_];obtain⟨t,ht,hq⟩:=hbody A outer s H vs Q E (hr.deeper _) hsp;have I:Inv (qM CX P w K mg base N qual scope f cdv A outer s H E) [] (fv N vs) H s1:=qN S hr.hd e0 hl r x;apply K6 (ht [] s1 (fv N vs) H _ I hq) (λ fl s' hs=>?_) λ e s' hs=>hs;have fin:∀ {σ':St} {H':Hp} {v:V} {u:IS},Inv (qM CX P w K mg base N qual scope f cdv A outer s H E) [] σ' H' s'->RelV v u->Q v H'->CE outer P w H s Q u s' :=
  λ {σ' H' v u} J rv q=>%[v,H',J.os,J.bare,J.base,J.hok,rv|q]
 cases fl with
 | ret u=>
  obtain⟨v,σ',H',J,rv,q⟩:=hs;exact fin J rv q
 | next=>
  obtain⟨σ',H',J,q⟩:=hs;exact fin (v:=V.non) (u:=Value.none) J rfl q
 | brk=>
  obtain⟨_,_,_,q⟩:=hs;exact E9 q
 | cont=>
  obtain⟨_,_,_,q⟩:=hs;exact E9 q
section
variable {X:Cx} {x:Str} {p pos:Pos} {e:Expr} {es:Ks Expr} {t:TA} {id T:String} {r:Ks V->Hp->VK->Prop}
def tCB (r:Ks V->Hp->VK->Prop) (t:TA):TE:=λ σ H Q=>t σ H λ vs H1=>r vs H1 Q
theorem ak (hc:bM X (.builtin id) r) (hg:Gl X x) (hm:X.mg x=none) (hv:bootBuiltins x=some (.builtin id)) (ha:PA X (e :: es) t) (hn:x ≠ "__name__" := by decide) (hdb:(x == ("__debug__" : Str))=false:=by decide)
  (he:starEach (e :: es) X.env=(false,eval e X.env) :: starEach es X.env:=by rfl) (hpl:(backTo pos (starEach es X.env)).any (·.1)=false:=by rfl):PE X (.Call (.Name x p) (e :: es) [] pos) (tCB r t):=by
 intro Ku s σ H Q I h;apply wpAny_Call_Name_kw (eI I hg hm hv ?_ hn hdb);exact PyProof.Rows.callWith_builtin1 (thn (ha pos Ku s σ H _ I h) λ us s1 %[vs,H1,I1,r1|q1]=>hc Ku s1 σ H1 vs us Q I1 r1 q1) he hpl
theorem aS (hc:bM X (.type T) r) (hg:Gl X x) (hm:X.mg x=none) (hv:bootBuiltins x=some (.type T)) (ha:PA X (e :: es) t) (hn:x ≠ "__name__" := by decide) (hdb:(x == ("__debug__" : Str))=false:=by decide)
  (he:starEach (e :: es) X.env=(false,eval e X.env) :: starEach es X.env:=by rfl) (hpl:(backTo pos (starEach es X.env)).any (·.1)=false:=by rfl):PE X (.Call (.Name x p) (e :: es) [] pos) (tCB r t):=by
 intro Ku s σ H Q I h;apply wpAny_Call_Name_kw (eI I hg hm hv ?_ hn hdb);exact LK (thn (ha pos Ku s σ H _ I h) λ us s1 %[vs,H1,I1,r1|q1]=>hc Ku s1 σ H1 vs us Q I1 r1 q1) he hpl
end
end L2
namespace HT
open PySem PyProof.Rows
def lexLt:Ks Int->Ks Int->Bool
 | [],[]=>false
 | [],_ :: _=>true
 | _ :: _,[]=>false
 | x :: xs,y :: ys=>if x=y then lexLt xs ys else decide (x < y)
theorem nC (x y:Int) (xs ys:Ks Int):lexLt (x :: xs) (y :: ys)=if x=y then lexLt xs ys else decide (x < y):=rfl
theorem ju:lexLt [] []=false:=rfl
theorem iC (y:Int) (ys:Ks Int):lexLt [] (y :: ys)=true:=rfl
theorem iD (x:Int) (xs:Ks Int):lexLt (x :: xs) []=false:=rfl
theorem tX (A:Around) (s:IN) (a:Int) (t:Tok) (c:Int) (u:Tok):∃e,SeqAt.EqAt A s (.int a t) (.int c u) e/\(e=true↔a=c) :=
 %[(a == c),SeqAt.EqAt.int_int a t c u|by simp]
theorem tY (A:Around) (s:IN) (a:Int) (t:Tok) (c:Int) (u:Tok) (prog:IP) (w:IR) (E:IS->IN->Prop) (Q:IS->IN->Prop) (h:Q (.bool (decide (a < c))) s) :
  wpAny (model prog w) A (richCompare .Lt (.int a t) (.int c u)) Q E s :=
 (PyProof.Rows.lt_int h:wpAny (model prog w) A (compareOp .Lt (.int a t) (.int c u)) Q E s)
section
open PySem.SeqAt
open PySem.AutoSeq1 (wpAny_loadPart')
open PySem.MeetsSeq PySem.MeetsSeq2 PySem.MeetsSeq3
theorem jv (l b:Ko) (items items2:Kr IS) (n n2:Nat) (dd dd2:Kq Ko) (sl sl2:Kr (Kq IS)) (ns ms:Ks Int) (hi:IntsAre items.toList ns) (hj:IntsAre items2.toList ms) :
  Meets (Builtin.«tuple.__lt__» %[[.ref l,.ref b]|[]])
   (λ _ R s=>s.heap.get? l=some { cls:=.type "tuple",dict:=dd,data:=.seq items n,slots:=sl }/\s.heap.get? b=some { cls:=.type "tuple",dict:=dd2,data:=.seq items2 n2,slots:=sl2 } /\
    R (.ok (.ret (.bool (lexLt ns ms)))) s) :=
 .of_wp λ prog w A R s h=>by
  obtain⟨hp,g,d,tk,os⟩:=s;obtain⟨hl,hb,h⟩:=h;have f2:=AutoSeq1.sub_tuple_tuple;have z1:items.size=ns.length:=by rw[<- hi.length];simp
  have z2:items2.size=ms.length:=by rw[<- hj.length];simp
  wp_walk using Le hl,Le hb,wpAny_forIn_list _ (λ rest b s'=>b.1=none/\s'=%[hp,g,d,tk|os]/\∃ (vs ws:Ks IS) (ns' ms':Ks Int),rest=vs.zip ws /\
   IntsAre vs ns'/\IntsAre ws ms'/\ns'.length+items2.size=ms'.length+items.size/\R (.ok (.ret (.bool (lexLt ns' ms')))) %[hp,g,d,tk|os]) _
  case turn=>
   rintro⟨y,x⟩ rest b s' ⟨hb',rfl,vs,ws,ns',ms',hz,hvi,hwi,Kw,hR⟩;cases hvi with
   | nil=>rw[List.zip_nil_left]at hz;cases hz
   | cons a t hvi'=>
    cases hwi with
    | nil=>rw[List.zip_nil_right]at hz;cases hz
    | cons c u hwi'=>
     rw[KY]at hz;injection hz with hyx hrest
     injection hyx with hy hx
     subst hy hx;rw[nC]at hR;simp only[JF]at Kw;obtain⟨e,he,hiff⟩:=tX A.in1 %[hp,g,d,tk|os] a t c u;apply A0 (he prog w _ _ ?_);cases e with
     | true=>
      rw[Kz (hiff.mp rfl)]at hR
      wp_walk
      exact%[Y,Y,_,_,_,_,hrest,hvi',hwi',⋯|hR]
     | false=>
      rw[Ky (λ q=>absurd (hiff.mpr q) B3)]at hR;have hri:=tY A.in1 %[hp,g,d,tk|os] a t c u prog w
      wp_walk using hri
      exact%[_,Y|by simpa using hR]
  case fin=>
   rintro⟨b1,b2⟩ s' ⟨hb',rfl,vs,ws,ns',ms',hz,hvi,hwi,Kw,hR⟩;simp only at hb';subst hb';have hv:lexLt ns' ms'=decide (items.size < items2.size):=by
    cases hvi with
    | nil=>
     cases hwi with
     | nil=>
      simp only[KN]at Kw;rw[ju];exact(B2 ⋯).symm
     | cons c u hw=>
      simp only[KN,JF]at Kw;rw[iC];exact(B1 ⋯).symm
    | cons a t hv=>
     cases hwi with
     | nil=>
      simp only[KN,JF]at Kw;rw[iD];exact(B2 ⋯).symm
     | cons c u hw=>
      rw[KY]at hz;cases hz
   rw[hv]at hR
   wp_walk
   exact%[_,Y|by simpa[Builtin.Tuple.tupleCompareSizes]using hR]
  case h=>
   exact%[Y,Y,items.toList,items2.toList,ns,ms,Y,hi,hj,⋯|h]
end
section
variable {prog:IP} {w:IR} {A:Around} {E:IS->IN->Prop} {s:IN}
theorem lt_tupInts {l b:Ko} {items items2:Kr IS} {ns ms:Ks Int} {Q:IS->IN->Prop} (hl:IsTup s.heap l items) (hb:IsTup s.heap b items2) (hi:IntsAre items.toList ns) (hj:IntsAre items2.toList ms)
  (hu:A.units < cLine) (h:Q (.bool (lexLt ns ms)) s):wpAny (model prog w) A (compareOp .Lt (.ref l) (.ref b)) Q E s:=by
 obtain⟨⟨cls,dd,data,sl⟩,ho,hc,n,hd⟩:=id hl;obtain⟨⟨cls2,dd2,data2,sl2⟩,ho2,hc2,n2,hd2⟩:=id hb;simp only at hc hd hc2 hd2;subst hc hd hc2 hd2;exact richCompare_meets_room (op:=.Lt) %[_,ho|rfl] %[_,ho2|rfl] PySem.F.slot_tuple_lt PySem.F.entry_tuple_lt (PySem.F.args_tuple_lt_2 _ _) (jv l b items items2 n n2 dd dd2 sl sl2 ns ms hi hj)
  %[ho,ho2|show Value.bool (lexLt ns ms)≠Value.notImplemented/\Q (.bool (lexLt ns ms)) s from%[(λ x=>nomatch x)|h]] hu
theorem cat_tup {t b:Ko} {vs ws:Ks IS} {Q:IS->IN->Prop} (ht:IsTup s.heap t vs.toArray) (hb:IsTup s.heap b ws.toArray) (hv:vs≠[])
  (h1:ws=[]->Q (.ref t) s) (h2:ws≠[]->Q (.ref s.heap.objs.size) { s with heap:=s.heap.push { cls:=.type "tuple",data:=.seq (vs ++ ws).toArray } })
  (hsz:vs.length+ws.length<=sizeLine):wpAny (model prog w) A (binaryOp .Add (.ref t) (.ref b)) Q E s:=by
 obtain⟨⟨cls,dd,data,sl⟩,ho,hc,n,hd⟩:=id ht;obtain⟨⟨cls2,dd2,data2,sl2⟩,ho2,hc2,n2,hd2⟩:=id hb;simp only at hc hd hc2 hd2;subst hc hd hc2 hd2;have e:vs.toArray ++ ws.toArray=(vs ++ ws).toArray:=by simp
 by_cases hw:ws=[]
 ·exact concat_meets %[_,ho|rfl] %[_,ho2|rfl] noFill_tuple_add seq_tuple_add PySem.F.slot_tuple_add PySem.F.entry_tuple_add (PySem.F.args_tuple_add_2 _ _)
   (tuple_addW1 t b vs.toArray ws.toArray n n2 dd dd2 sl sl2 (by simpa using hv) (by simp[hw])) %[ho,ho2|h1 hw]
 ·apply concat_meets %[_,ho|rfl] %[_,ho2|rfl] noFill_tuple_add seq_tuple_add PySem.F.slot_tuple_add PySem.F.entry_tuple_add (PySem.F.args_tuple_add_2 _ _)
   (tuple_addW2 t b vs.toArray ws.toArray n n2 dd dd2 sl sl2 (by simpa using hv) (by simpa using hw) (by rw[JL,JL];exact hsz)) %[ho,ho2|?_]
  rw[e];exact h2 hw
def sIx (n d:Nat):Kq Int->Nat
 | none=>d
 | some v=>if v < 0 then(v+(n:Int)).toNat else min v.toNat n
theorem sIx_none (n d:Nat):sIx n d none=d:=rfl
theorem sIx_nat (n d k:Nat):sIx n d (some (k:Int))=min k n:=by show(if (k:Int) < 0 then((k:Int)+(n:Int)).toNat else min (k:Int).toNat n)=min k n;rw[Ky ⋯,Ja]
theorem ye (n d:Nat) (hd:d<=n) (o:Kq Int):sIx n d o<=n:=by
 cases o with
 | none=>exact hd
 | some v=>
  show(if v < 0 then(v+(n:Int)).toNat else min v.toNat n)<=n
  by_cases hv:v < 0
  ·rw[Kz hv];lia
  ·rw[Ky hv];exact Nat.min_le_right _ _
theorem pK (v:Int) (n d:Nat):(if v < 0 then max (v+(n:Int)) 0 else min v (n:Int))=((sIx n d (some v):Nat):Int):=by
 show(if v < 0 then max (v+(n:Int)) 0 else min v (n:Int))=(((if v < 0 then(v+(n:Int)).toNat else min v.toNat n):Nat):Int)
 by_cases hv:v < 0
 ·simp only[Kz hv];lia
 ·simp only[Ky hv];lia
theorem nD (lo hi:Kq Int) (n:Nat):Builtin.Slice.sliceAdjust lo hi 1 (n:Int)=(((sIx n 0 lo:Nat):Int),((sIx n n hi:Nat):Int)):=by
 have h1:¬ ((1:Int) < 0):=⋯
 unfold Builtin.Slice.sliceAdjust;simp only[h1,LU];apply Prod.ext ?_ ?_
 ·cases lo with
  | none=>rfl
  | some v=>exact pK v n 0
 ·cases hi with
  | none=>rfl
  | some v=>exact pK v n n
theorem nE (i j:Nat):Builtin.Slice.slicePlaces (i:Int) (j:Int) 1=j - i:=by
 unfold Builtin.Slice.slicePlaces;have h1:(1:Int) > 0:=⋯
 simp only[h1,Lm,Int.ediv_one]
 split <;> lia
theorem iE {v:IS} {o:Kq Int} {Q:Kq Int->IN->Prop} (p:IsPart v o) (h:Q o s):wpAny (model prog w) A (Builtin.Slice.slicePartIndex v) Q E s:=by
 cases p with
 | none=>exact slicePart_none h
 | int i t=>exact slicePart_int h
theorem gx {sl:Ko} {vl vu:IS} {lo hi:Kq Int} {n:Nat} {Q:Int×Int×Nat->IN->Prop} (hs:s.heap.IsSliceOf sl vl vu .none) (pl:IsPart vl lo) (pu:IsPart vu hi)
  (h:Q (((sIx n 0 lo:Nat):Int),1,sIx n n hi - sIx n 0 lo) s):wpAny (model prog w) A (Builtin.Slice.sliceApplied (.ref sl) (pure (n:Int))) Q E s:=by
 obtain⟨os,hos,hcs,hds⟩:=id hs;unfold Builtin.Slice.sliceApplied Builtin.Slice.sliceFields;apply A0 (A0 (LH hos hds (x:=vl) rfl (A0 (LH hos hds (x:=vu) rfl (A0 (LH hos hds (x:=.none) rfl (A3 ?_)))))));apply A0 (slicePart_none ?_);show wpAny _ _ (if ((1:Int) == 0)=true then _ else _) _ _ s;rw[Ky ∅];apply A0 (iE pl (A0 (iE pu (A0 (A3 ?_)))));show wpAny _ _ (match Builtin.Slice.sliceAdjust lo hi 1 (n:Int)with | (lo,hi)=>pure (lo,(1:Int),Builtin.Slice.slicePlaces lo hi 1)) _ _ s;rw[nD lo hi n];show wpAny _ _ (pure (((sIx n 0 lo:Nat):Int),(1:Int),Builtin.Slice.slicePlaces ((sIx n 0 lo:Nat):Int) ((sIx n n hi:Nat):Int) 1)) _ _ s;rw[nE];exact A3 h
theorem tZ (xs:Kr IS) (i k:Nat):((List.range k).filterMap λ(m:Nat)=>xs[((i:Int)+(m:Int) * 1).toNat]?).toArray=((xs.toList.drop i).take k).toArray:=by
 have e:(λ(m:Nat)=>xs[((i:Int)+(m:Int) * 1).toNat]?)=λ m=>xs[i+m]? := by
  funext m
  have:((i:Int)+(m:Int) * 1).toNat=i+m:=⋯
  rw[this]
 rw[e];have:=pick_run xs i k;rw[List.filterMap_map]at this;have e2:((λ x=>xs[x]?)∘λ x=>i+x)=λ m=>xs[i+m]? := rfl;rw[e2]at this;rw[this]
theorem getItem_tuple_cut {t sl:Ko} {items:Kr IS} {vl vu:IS} {lo hi:Kq Int} {Q:IS->IN->Prop} (ht:IsTup s.heap t items) (hs:s.heap.IsSliceOf sl vl vu .none) (pl:IsPart vl lo) (pu:IsPart vu hi)
  (hw:¬ (sIx items.size 0 lo=0/\sIx items.size items.size hi=items.size))
  (h:Q (.ref s.heap.objs.size) { s with heap:=s.heap.push { cls:=.type "tuple",data:=.seq ((items.toList.drop (sIx items.size 0 lo)).take (sIx items.size items.size hi - sIx items.size 0 lo)).toArray } })
  (hsz:items.size<=sizeLine):wpAny (model prog w) A (getItem (.ref t) (.ref sl)) Q E s:=by
 have htake:sizeOk (.seq ((items.toList.drop (sIx items.size 0 lo)).take (sIx items.size items.size hi - sIx items.size 0 lo)).toArray):=by show((items.toList.drop (sIx items.size 0 lo)).take (sIx items.size items.size hi - sIx items.size 0 lo)).toArray.size<=sizeLine;rw[JL,JJ,Jy,JR];lia
 have hj:sIx items.size items.size hi<=items.size:=ye _ _ (B4 _) hi;obtain⟨os,hos,hcs,hds⟩:=id hs;have hTs:s.TypeIs (.ref sl) "slice" := %[os,hos|hcs]
 unfold getItem
 try with_reducible apply K2 ?_
 first | apply A0 (A3 ?_) | skip
 apply A0 (wpAny_sequenceKey ht.typeIs ∅ ?_);apply A0 (wpAny_callSpecial?_slot (name:=Str.ofString "__getitem__") ht.typeIs PyProof.Rows.slot_tuple_getitem
  (G9 PyProof.Rows.slot_tuple_getitem ht.typeIs entry_tuple_getitem ?_ (args_tuple_getitem _ _)))
 show wpAny _ _ (Builtin.Tuple.tupleItemsOf (.ref t) >>= _) _ _ s;apply A0 (tupleItemsOf_ ht ?_);apply A0 (wpAny_typeOf hTs ?_);rw[Kz ∅];apply A0 (gx hs pl pu ?_);have hno:¬ ((((sIx items.size 0 lo:Nat):Int) == 0 && (1:Int) == 1 && (sIx items.size items.size hi - sIx items.size 0 lo) == items.size)=true):=by intro q;rw[Ji,Ji]at q;have q1:((sIx items.size 0 lo:Nat):Int)=0:=eq_of_beq q.1.1;have q2:sIx items.size items.size hi - sIx items.size 0 lo=items.size:=eq_of_beq q.2;exact hw %[⋯|⋯]
 show wpAny _ _ (if (((sIx items.size 0 lo:Nat):Int) == 0 && (1:Int) == 1 && (sIx items.size items.size hi - sIx items.size 0 lo) == items.size)=true then _ else _) _ _ s;rw[Ky hno,tZ]
 first
  | exact A0 (m:=Builtin.Tuple.tupleExact _) (IL (A3 ⟨_,rfl,A3 h⟩) htake)
  | exact A0 (m:=Builtin.Tuple.tupleExact _) (IL (A0 (A3 (A3 ⟨_,rfl,A3 h⟩))) htake)
  | exact A0 (A0 (m:=Builtin.Tuple.tupleExact _) (IL (A3 (A3 ⟨_,rfl,A3 h⟩)) htake))
  | exact A0 (A0 (m:=Builtin.Tuple.tupleExact _) (IL (A3 ⟨_,rfl,A3 h⟩) htake))
end
end HT
namespace L2
open PySem PySem.Spec PyProof.Rows
abbrev TO:=St->Hp->(Kq Int->Hp->Prop)->Prop
def PO (X:Cx) (e:Kq Expr) (t:TO):Prop :=
 ∀ (Ku:Ks (Ko×Obj)) (s:IN) (σ:St) (H:Hp) (Q:Kq Int->Hp->Prop),Inv X Ku σ H s->t σ H Q ->
  wpAny (model X.prog X.w) X.A (evalPart e X.env) (λ u s'=>∃o H',Inv X Ku σ H' s'/\IsPart u o/\Q o H') X.xe s
def wu:TO:=λ _ H Q=>Q none H
def AG (t:TE):TO:=λ σ H Q=>t σ H λ x H1=>∃i,x=.int i/\Q (some i) H1
theorem iF {ns:Ks Int}:∀ {us:Ks IS},Vals (ns.map V.int) us->IntsAre us ns:=by
 induction ns with
 | nil=>intro us r;rw[Jj]at r;cases r;exact .nil
 | cons n ns ih=>
  intro us r;rw[JA]at r;cases r with
  | cons r1 r2=>
   obtain⟨t,e⟩:=r1;subst e;exact .cons n t (ih r2)
section
variable {X:Cx} {e:Expr} {te:TE} {lo hi:Kq Expr} {tl th:TO} {pos p2:Pos}
theorem eX:PO X none wu:=by intro Ku s σ H Q I h;rw[evalPart_none];exact A3 %[none,H,I,.none|h]
theorem eY (h:PE X e te):PO X (some e) (AG te):=by intro Ku s σ H Q I hw;rw[evalPart_some];apply thn (h Ku s σ H _ I hw) λ u s1 %[x,H1,I1,r1|q1]=>?_;obtain⟨i,rfl,q⟩:=q1;obtain⟨t,rfl⟩:=r1;exact%[some i,H1,I1,.int i t|q]
def SlR (X:Cx) (r:V->Kq Int->Kq Int->Hp->VK->Prop):Prop :=
 ∀ (Ku:Ks (Ko×Obj)) (s:IN) (σ:St) (H:Hp) (x:V) (v vl vu:IS) (lo hi:Kq Int) (sl:Ko) (Q:VK),Inv X Ku σ H s->RelV x v->s.heap.IsSliceOf sl vl vu .none->IsPart vl lo->IsPart vu hi->r x lo hi H Q ->
  ∃T id,typeLookup (.type T) "__getitem__" = pure (some (.builtin id))/\s.TypeIs v T/\wpAny (model X.prog X.w) X.A (getItem v (.ref sl)) (EP X Ku σ Q) X.xe s
def tSl (r:V->Kq Int->Kq Int->Hp->VK->Prop) (te:TE) (tl th:TO):TE:=λ σ H Q=>te σ H λ x H1=>tl σ H1 λ l H2=>th σ H2 λ u H3=>r x l u H3 Q
theorem dC {r:V->Kq Int->Kq Int->Hp->VK->Prop} (hr:SlR X r) (he:PE X e te) (hl:PO X lo tl) (hu:PO X hi th):PE X (.Subscript e (.Slice lo hi none p2) pos) (tSl r te tl th):=by intro Ku s σ H Q I h;apply Subscript_ (thn (he Ku s σ H _ I h) λ v s1 %[x,H1,I1,r1|q1]=>?_);apply wpAny_Slice (thn (hl Ku s1 σ H1 _ I1 q1) λ vl s2 %[l,H2,I2,pl|q2]=>thn (hu Ku s2 σ H2 _ I2 q2) λ vu s3 %[u,H3,I3,pu|q3]=>?_);rw[evalPart_none];apply A3 ?_;have I4:Inv X Ku σ H3 { s3 with heap:=s3.heap.push { cls:=.type "slice",data:=.fields #[vl,vu,.none] } }:=I3.kept (t':=s3.toks) λ b ob q=>A8 _ q;obtain⟨T,id,hT,ht,hg⟩:=hr Ku { s3 with heap:=s3.heap.push { cls:=.type "slice",data:=.fields #[vl,vu,.none] } } σ H3 x v vl vu l u s3.heap.objs.size Q I4 r1 (Heap.IsSliceOf.new ..) pl pu q3;show wpAny (model X.prog X.w) X.A (subscriptTail e (.Slice lo hi none p2) v (.ref s3.heap.objs.size)) (EP X Ku σ Q) X.xe { s3 with heap:=s3.heap.push { cls:=.type "slice",data:=.fields #[vl,vu,.none] } };exact tail_any (ops:=[.ref s3.heap.objs.size,v]) ht hT hg (by with_unfolding_all rfl)
def gR (xs:Ks V) (lo hi:Kq Int):Ks V:=(xs.drop (HT.sIx xs.length 0 lo)).take (HT.sIx xs.length xs.length hi - HT.sIx xs.length 0 lo)
theorem gI (xs:Ks V) (lo hi:Kq Int):(gR xs lo hi).length<=xs.length:=by unfold gR;rw[JJ,Jy];lia
def Gc (K:C6):V->Kq Int->Kq Int->Hp->VK->Prop:=λ x lo hi H Q=>∃a xs,x=.ref a/\SqT K H a xs /\
 ¬ (HT.sIx xs.length 0 lo=0/\HT.sIx xs.length xs.length hi=xs.length)/\∀p,H p=none->Q (.ref p) (upd H p (.tup (gR xs lo hi)))
theorem uh:SlR X (Gc X.K):=by
 intro Ku s σ H x v vl vu lo hi sl Q I rx hs pl pu h;obtain⟨a,xs,rfl,hx,hw,q⟩:=h;cases rx;obtain⟨its,r,ht,hz⟩:=I.tuple hx;have Kw:its.toArray.size=xs.length:=by rw[JL];exact r.length.symm
 apply%["tuple",_,PyProof.Rows.slot_tuple_getitem.lookup,ht.typeIs|?_];apply HT.getItem_tuple_cut ht hs pl pu (by rw[Kw];exact hw) ?_ (by rw[Kw];exact hz);rw[Kw];apply%[.ref s.heap.objs.size,_,I.laid (t':=s.toks) (o:=.tup (gR xs lo hi)) (λ b ob q=>A8 _ q) (B4 _) ?_,Y|q _ (I.hok.fresh (B4 _))];exact%[C7 (gI xs lo hi) hz,_,(r.drop (HT.sIx xs.length 0 lo)).take (HT.sIx xs.length xs.length hi - HT.sIx xs.length 0 lo)|IsTup.new _ _]
def xI (K:C6):R2:=λ x y H Q=>∃a b xs ys,x=.ref a/\y=.ref b/\SqT K H a xs/\SqT K H b ys/\xs≠[]/\xs.length+ys.length<=sizeLine /\
 (ys=[]->Q (.ref a) H)/\(ys≠[]->∀p,H p=none->Q (.ref p) (upd H p (.tup (xs ++ ys))))
theorem Vals.nil_iff {xs:Ks V} {us:Ks IS} (r:Vals xs us):us=[]↔xs=[]:=by
 cases r with
 | nil=>simp
 | cons _ _=>simp
theorem pL:OpR X (binaryOp .Add) (xI X.K):=by intro Ku s σ H x y v u Q I rx ry h;obtain⟨a,b,xs,ys,rfl,rfl,ha,hb,hx,hz,q1,q2⟩:=h;cases rx;cases ry;obtain⟨its,r1,p1,_⟩:=I.tuple ha;obtain⟨its2,r2,p2,_⟩:=I.tuple hb;apply HT.cat_tup p1 p2 (λ z=>hx (r1.nil_iff.mp z)) (λ z=>%[.ref a,H,I,Y|q1 (r2.nil_iff.mp z)]) (λ z=>?_) (by rw[<- r1.length,<- r2.length];exact hz);apply%[.ref s.heap.objs.size,_,I.laid (t':=s.toks) (o:=.tup (xs ++ ys)) (λ b ob q=>A8 _ q) (B4 _) ?_,Y|q2 (λ w=>z (r2.nil_iff.mpr w)) _ (I.hok.fresh (B4 _))];exact%[by rw[JD];exact hz,_,r1.append r2|IsTup.new _ _]
end
def ixN (n:Nat) (i:Int):Kq Nat:=if 0<=i then(if i < n then some i.toNat else none)else if -(n:Int)<=i then some (i+n).toNat else none
def atI {α:Type} (xs:Ks α) (i:Int):Kq α:=(ixN xs.length i).bind λ j=>xs[j]?
theorem pM {n:Nat} {i:Int} {j:Nat} (h:ixN n i=some j):seqIndex? i n=some j/\j < n/\-(n:Int)<=i/\i < n:=by
 unfold ixN at h
 by_cases h0:0<=i
 ·rw[Kz h0]at h
  by_cases h1:i < n
  ·rw[Kz h1]at h;have e:i.toNat=j:=C0 h;exact%[by rw[seqIndex_of h0 h1,e],⋯,⋯|h1]
  ·rw[Ky h1]at h;cases h
 ·rw[Ky h0]at h
  by_cases h1:-(n:Int)<=i
  ·rw[Kz h1]at h;have e:(i+n).toNat=j:=C0 h;exact%[by rw[seqIndex_neg ⋯ h1,e],⋯,h1|⋯]
  ·rw[Ky h1]at h;cases h
theorem pN {α:Type} {xs:Ks α} {i:Int} {v:α} (h:atI xs i=some v):∃j,seqIndex? i xs.length=some j/\xs[j]?=some v/\j < xs.length/\-(xs.length:Int)<=i/\i < xs.length:=by
 unfold atI at h;cases e:ixN xs.length i with
 | none=>rw[e]at h;cases h
 | some j=>
  rw[e]at h;obtain⟨h1,h2,h3,h4⟩:=pM e;exact%[j,h1,h,h2,h3|h4]
theorem fQ {α:Type} {xs:Ks α} {j:Nat} {v:α} (h:xs[j]?=some v):atI xs (j:Int)=some v:=by
 have hj:j < xs.length:=(A7.mp h).1;have e:ixN xs.length (j:Int)=some j:=by unfold ixN;rw[Kz ⋯,Kz ⋯];simp
 unfold atI;rw[e];exact h
def ww (b:Expr):Prop:=∀o i,subscripted b false o i=operate [o,i] (getItem o i)
def IxR (X:Cx) (r:R2):Prop :=
 ∀ (value slice:Expr) (Ku:Ks (Ko×Obj)) (s:IN) (σ:St) (H:Hp) (x y:V) (v u:IS) (Q:VK),Inv X Ku σ H s->RelV x v->RelV y u->r x y H Q ->
  subscripted slice false v u=operate [v,u] (getItem v u)->wpAny (model X.prog X.w) X.A (subscriptTail value slice v u) (EP X Ku σ Q) X.xe s
def MtR (X:Cx) (id:String) (r:V->Ks V->Hp->VK->Prop):Prop :=
 ∀ (Ku:Ks (Ko×Obj)) (s:IN) (σ:St) (H:Hp) (x:V) (xs:Ks V) (v:IS) (us:Ks IS) (Q:VK),Inv X Ku σ H s->RelV x v->Vals xs us->r x xs H Q ->
  wpAny (model X.prog X.w) X.A (call (.builtin id) (v :: us)) (EP X Ku σ Q) X.xe s
section
variable {X:Cx} {a b:Expr} {ta tb:TE} {pos:Pos}
theorem bf {r:R2} (hr:IxR X r) (ha:PE X a ta) (hb:PE X b tb) (hs:ww b):PE X (.Subscript a b pos) (tOp r ta tb):=by intro Ku s σ H Q I h;exact Subscript_ (yc ha hb I h λ v u s2 x y H2 I2 rx ry q=>hr a b Ku s2 σ H2 x y v u Q I2 rx ry q (hs _ _))
inductive rIxL (K:C6) (x:V) (y:V) (H:Hp) (Q:VK):Prop
 | mk (p:Ko) (xs:Ks V) (i:Int) (v:V) (e_0:x=.ref p) (e_1:y=.int i) (e_2:SqL K H p xs) (e_3:atI xs i=some v) (e_4:Q v H):rIxL K x y H Q
inductive rIxT (K:C6) (x:V) (y:V) (H:Hp) (Q:VK):Prop
 | mk (p:Ko) (xs:Ks V) (i:Int) (v:V) (e_0:x=.ref p) (e_1:y=.int i) (e_2:SqT K H p xs) (e_3:atI xs i=some v) (e_4:Q v H):rIxT K x y H Q
theorem bL:IxR X (rIxL X.K):=by
 intro value slice Ku s σ H x y v u Q I rx ry h hs;obtain⟨p,xs,i,z,rfl,rfl,hq,he,q⟩:=h;cases rx;obtain⟨t,rfl⟩:=ry;obtain⟨its,r,pl,hz⟩:=I.list hq;obtain⟨j,h1,h2,h3,h4,h5⟩:=pN he;obtain⟨w,ew,rw'⟩:=r.get h2;have hl:=r.length;have hn:=kP;have fin:EP X Ku σ Q w s:=%[z,H,I,rw'|q]
 by_cases h0:0<=i
 ·have hj:i.toNat=j:=by rw[seqIndex_of h0 h5]at h1;exact C0 h1
  exact item_listR pl.isList h0 ⋯ (by rw[hj];simpa using ew) fin hs
 ·have hj:(i+(its.toArray.size:Int)).toNat=j:=by rw[seqIndex_neg ⋯ h4]at h1;rw[JL,<- hl];exact C0 h1
  exact subscriptTail_builtinR (x:=w) pl.isList.typeIs slot_list_getitem.lookup
   (wpAny_getItem_list_neg (Q:=λ r s'=>r=w/\EP X Ku σ Q r s') pl.isList ⋯ (by rw[JL] <;> lia) ⋯ (by rw[hj];simpa using ew) %[rfl|fin]) hs
theorem bD:IxR X (rIxT X.K):=by
 intro value slice Ku s σ H x y v u Q I rx ry h hs;obtain⟨p,xs,i,z,rfl,rfl,hq,he,q⟩:=h;cases rx;obtain⟨t,rfl⟩:=ry;obtain⟨its,r,pl,hz⟩:=I.tuple hq;obtain⟨j,h1,h2,h3,h4,h5⟩:=pN he;obtain⟨w,ew,rw'⟩:=r.get h2;have hl:=r.length;have hn:=kP;have fin:EP X Ku σ Q w s:=%[z,H,I,rw'|q]
 exact subscriptTail_builtinR (x:=w) pl.typeIs slot_tuple_getitem.lookup
  (getItem_tuple (j:=j) (Q:=λ r s'=>r=w/\EP X Ku σ Q r s') pl ⋯ ⋯ (by rw[JL,<- hl];exact h1) (by simpa using ew) %[rfl|fin]) hs
theorem nF (its:Ks IS) (n j:Nat) (u:IS):Obj.mapSeq (·.setIfInBounds j u) { cls:=.type "list",data:=.seq its.toArray n }={ cls:=.type "list",data:=.seq (its.set j u).toArray n }:=by simp[Obj.mapSeq]
theorem Inv.lst {Ku:Ks (Ko×Obj)} {σ:St} {H:Hp} {s:IN} {p:Ko} {xs:Ks V} (I:Inv X Ku σ H s) (h:H p=↥xs) :
  ∃ (its:Ks IS) (n:Nat),Vals xs its/\s.heap.get? p=some { cls:=.type "list",data:=.seq its.toArray n }/\xs.length<=sizeLine:=by
 obtain⟨z,its,n,r,e⟩:=I.hok p _ h;exact%[its,n,r,e|z]
theorem Inv.lstUpd {Ku:Ks (Ko×Obj)} {σ:St} {H:Hp} {s:IN} {p:Ko} {xs ys:Ks V} {its its':Ks IS} {n n':Nat} {f:Obj->Obj} (I:Inv X Ku σ H s) (h:H p=↥xs)
  (ho:s.heap.get? p=some { cls:=.type "list",data:=.seq its.toArray n }) (hf:f { cls:=.type "list",data:=.seq its.toArray n }={ cls:=.type "list",data:=.seq its'.toArray n' }) (r:Vals ys its') (hz:ys.length<=sizeLine) (t:Nat) :
  Inv X Ku σ (upd H p (.lst ys)) { s with heap:=s.heap.update p f,toks:=t }:=by
 have e:(s.heap.update p f).get? p=some { cls:=.type "list",data:=.seq its'.toArray n' }:=by rw[LF f ho (by rw[hf] <;> rfl),hf]
 apply I.write (x:=p) (e:=p) (by rw[h];trivial) (.inl rfl) (λ b u hb q=>(Heap.get?_update_other _ _ (Ne.symm hb)).trans q) %[_|e] ?_;exact%[hz,its',n',r|e]
inductive rSetL (o:V) (i:V) (v:V) (H:Hp) (Q:Hp->Prop):Prop
 | mk (p:Ko) (xs:Ks V) (k:Int) (j:Nat) (e_0:o=.ref p) (e_1:i=.int k) (e_2:H p=↥xs) (e_3:ixN xs.length k=some j) (e_4:Q (upd H p (.lst (xs.set j v)))):rSetL o i v H Q
theorem lZ:Ax X rSetL:=by
 intro Ku s σ H o i v ov iv u Q I ro ri rv h;obtain⟨p,xs,k,j,rfl,rfl,hp,hj,q⟩:=h;cases ro;obtain⟨t,rfl⟩:=ri;obtain⟨its,n,r,ho,hz⟩:=I.lst hp;obtain⟨h1,h2,h3,h4⟩:=pM hj;have hl:=r.length;have hn:=kP;have I':Inv X Ku σ (upd H p (.lst (xs.set j v))) { s with heap:=s.heap.update p (Obj.mapSeq (·.setIfInBounds j u)) } :=
  I.lstUpd hp ho (nF its n j u) (r.set rv j) (by rw[List.length_set];exact hz) s.toks
 by_cases h0:0<=k
 ·have hk:k.toNat=j:=by rw[seqIndex_of h0 h4]at h1;exact C0 h1
  exact PySem.W.ki_setAt ho h0 ⋯ (by rw[JL,<- hl];exact h4) (by rw[hk];exact%[_,I'|q])
 ·have hk:(k+(its.toArray.size:Int)).toNat=j:=by rw[seqIndex_neg ⋯ h3]at h1;rw[JL,<- hl];exact C0 h1
  exact PySem.W.ki_setBack ho ⋯ (by rw[JL,<- hl];exact h3) ⋯ (by rw[hk];exact%[_,I'|q])
theorem kQ (lo hi:Kq Int) (n:Nat):(sliceBounds lo hi none n).1=((HT.sIx n 0 lo:Nat):Int)/\(sliceBounds lo hi none n).2.1=((HT.sIx n n hi:Nat):Int)/\(sliceBounds lo hi none n).2.2=1:=by
 apply%[?_,?_|Y]
 ·cases lo with
  | none=>simp[sliceBounds,HT.sIx]
  | some i=>
   simp only[sliceBounds,HT.sIx,Option.getD_none,show(1:Int) > 0 by decide,Lm]
   by_cases h:i < 0
   ·simp only[h,Lm] <;> lia
   ·simp only[h,LU] <;> lia
 ·cases hi with
  | none=>simp[sliceBounds,HT.sIx]
  | some i=>
   simp only[sliceBounds,HT.sIx,Option.getD_none,show(1:Int) > 0 by decide,Lm]
   by_cases h:i < 0
   ·simp only[h,Lm] <;> lia
   ·simp only[h,LU] <;> lia
theorem jw (its:Ks IS) (lo hi:Kq Int):slicePick its.toArray lo hi none=((its.drop (HT.sIx its.length 0 lo)).take (HT.sIx its.length its.length hi - HT.sIx its.length 0 lo)).toArray:=by obtain⟨h1,h2,h3⟩:=kQ lo hi its.toArray.size;unfold slicePick;rw[h1,h2,h3];simp only[sliceRange_one,pick_run,JL] <;> rfl
inductive rSlL (K:C6) (x:V) (lo:Kq Int) (hi:Kq Int) (H:Hp) (Q:VK):Prop
 | mk (a:Ko) (xs:Ks V) (e_0:x=.ref a) (e_1:SqL K H a xs) (e_2:∀p,H p=none->Q (.ref p) (upd H p (.lst (gR xs lo hi)))):rSlL K x lo hi H Q
theorem gX:SlR X (rSlL X.K):=by intro Ku s σ H x v vl vu lo hi sl Q I rx hs pl pu h;obtain⟨a,xs,rfl,hx,q⟩:=h;cases rx;obtain⟨its,r,ht,hz⟩:=I.list hx;have Kw:=r.length;apply%["list",_,slot_list_getitem.lookup,ht.isList.typeIs|?_];apply wpAny_getItem_list_slice ht.isList hs pl pu .none (by simp) ?_ (by rw[JL] <;> lia);rw[jw,<- Kw];apply%[.ref s.heap.objs.size,_,I.laid (t':=s.toks) (o:=.lst (gR xs lo hi)) (λ b ob q=>A8 _ q) (B4 _) ?_,Y|q _ (I.hok.fresh (B4 _))];exact%[C7 (gI xs lo hi) hz,_,0,(r.drop (HT.sIx xs.length 0 lo)).take (HT.sIx xs.length xs.length hi - HT.sIx xs.length 0 lo)|A9 _ rfl]
theorem aK:bM X (.builtin "len") (λ xs H Q=>∃p ys,xs=[.ref p]/\(SqL X.K H p ys\/SqT X.K H p ys)/\Q (.int ys.length) H):=by
 intro Ku s σ H xs us Q I r h;obtain⟨p,ys,rfl,hq,q⟩:=h;obtain⟨u,rfl,rx⟩:=cM r;cases rx;have hn:=kP;rcases hq with hq | hq
 ·obtain⟨its,r',pl,hz⟩:=I.list hq;have Kw:=r'.length;exact Calls.call_len_list pl.isList (by simp only[JL] <;> lia) %[.int ys.length,H,I.tok _,%[s.toks+1|by rw[JL,Kw]]|q]
 ·obtain⟨its,r',pl,hz⟩:=I.tuple hq;have Kw:=r'.length;exact len_tuple pl (by simp only[JL] <;> lia) %[.int ys.length,H,I.tok _,%[s.toks+1|by rw[JL,Kw]]|q]
theorem aP:bM X (.type "tuple") (λ xs H Q=>∃p ys,xs=[.ref p]/\((SqL X.K H p ys/\∀l,H l=none->Q (.ref l) (upd H l (.tup ys)))\/(SqT X.K H p ys/\Q (.ref p) H))):=by
 intro Ku s σ H xs us Q I r h;obtain⟨p,ys,rfl,h⟩:=h;obtain⟨u,rfl,rx⟩:=cM r;cases rx;rcases h with⟨hq,q⟩ | ⟨hq,q⟩
 ·obtain⟨its,r',pl,hz⟩:=I.list hq;have Kw:=r'.length;apply call_tuple_list pl.isList (λ h' kp=>?_) (by simp only[JL] <;> lia);have I1:Inv X Ku σ H { s with heap:=h' }:=I.kept (t':=s.toks) kp;have I2:Inv X Ku σ (upd H h'.objs.size (.tup ys)) { s with heap:=h'.push { cls:=.type "tuple",data:=.seq its.toArray } } :=
   I1.laid (t':=s.toks) (λ b o e=>A8 _ e) (B4 _) (show ObjOk X.prog X.w _ _ _ (.tup ys)from%[hz,its,r'|IsTup.new _ _])
  exact%[.ref h'.objs.size,_,I2,Y|q _ (I1.hok.fresh (B4 _))]
 ·obtain⟨its,r',pl,hz⟩:=I.tuple hq;exact call_tuple_same pl %[.ref p,H,I,rfl|q]
def tyV (K:C6) (T:String) (x:V) (H:Hp):Prop:=match x with
 | .str _=>T = "str"
 | .int _=>T = "int"
 | .ref p=>(T = "list" /\ ∃xs,SqL K H p xs)\/(T = "tuple" /\ ∃o,K.lookup p=some o/\o.cls=.type "tuple" /\ o.dict=none) \/
   (T = "dict" /\ ((∃kvs,H p=some (.dK kvs))\/∃kvs,H p=some (.dT kvs)))\/(T = "set" /\ ∃S n,H p=some (.set S n))
 | _=>False
theorem ui {Ku:Ks (Ko×Obj)} {σ:St} {H:Hp} {s:IN} {T:String} {x:V} {v:IS} (I:Inv X Ku σ H s) (r:RelV x v) (ty:tyV X.K T x H) :
  s.TypeIs v T/\∀a,v=.ref a->∃ob,s.heap.get? a=some ob/\ob.dict=none:=by
 cases x with
 | str z=>
  obtain⟨t,rfl⟩:=r;cases(show T = "str" from ty);exact%[typeIs_str s z t|λ _ e=>nomatch e]
 | int i=>
  obtain⟨t,rfl⟩:=r;cases(show T = "int" from ty);exact%[typeIs_int s i t|λ _ e=>nomatch e]
 | ref p=>
  cases r;rcases ty with⟨rfl,xs,hq⟩ | ⟨rfl,o,hk,hc,hd⟩ | ⟨rfl,hk⟩ | ⟨rfl,S,n,hk⟩
  ·obtain⟨its,_,pl,_⟩:=I.list hq;apply%[pl.isList.typeIs|λ a e=>?_];cases e;obtain⟨o,n,e,c,hd,_⟩:=pl;exact%[o,e|hd]
  ·apply%[%[o,I.kIn p o hk|hc]|λ a e=>?_];cases e;exact%[o,I.kIn _ o hk|hd]
  ·have z:∃o,s.heap.get? p=some o/\o.ExactDict:=by
    rcases hk with⟨kvs,hk⟩ | ⟨kvs,hk⟩
    ·obtain⟨_,_,_,_,o,_,_,e,ex,_⟩:=I.hok p _ hk;exact%[o,e|ex]
    ·obtain⟨_,_,_,_,o,_,_,e,ex,_⟩:=I.hok p _ hk;exact%[o,e|ex]
   obtain⟨o,e,ex⟩:=z;apply%[%[o,e|ex.1]|λ a e2=>?_];cases e2;exact%[o,e|ex.2.1]
  ·obtain⟨o,_,_,_,e,ex,_⟩:=I.hok p _ hk;apply%[%[o,e|ex.1]|λ a e2=>?_];cases e2;exact%[o,e|ex.2.1]
 | _=>exact E9 ty
def Gd (K:C6) (T:String) (r:V->Ks V->Hp->VK->Prop) (to:TE):TE:=λ σ H Q=>to σ H λ x H1=>tyV K T x H1/\r x [] H1 Q
def tBM (K:C6) (T:String) (r:V->Ks V->Hp->VK->Prop) (to:TE) (t:TA):TE:=λ σ H Q=>to σ H λ x H1=>tyV K T x H1/\t σ H1 λ xs H2=>r x xs H2 Q
variable {o e:Expr} {es:Ks Expr} {to:TE} {t:TA} {name:Str} {apos cpos:Pos} {T id:String} {r:V->Ks V->Hp->VK->Prop}
theorem yf (pa:PlainAttrs T) (slot:Slot T name id) (hty:typeOf (.builtin id)=pure (.type "method_descriptor")) (hm:MtR X id r) (ho:PE X o to)
  (hbase:attributeBase o name X.env (eval o X.env)=eval o X.env:=by rfl) (hline:(apos.endLine == cpos.line)=true:=by rfl):PE X (.Call (.Attribute o name apos) [] [] cpos) (Gd X.K T r to):=by
 intro Ku s σ H Q I h;apply wpAny_Call_method0_late hbase hline (thn (ho Ku s σ H _ I h) λ v s1 %[x,H1,I1,r1,ty|q1]=>?_);obtain⟨h1,h2⟩:=ui I1 r1 ty;exact%[T,id,pa,slot,hty,h1,h2|Calls.callWith_builtin rfl (PySem.evalArgs_none (hm Ku s1 σ H1 x [] v [] Q I1 r1 .nil q1))]
theorem gJ (pa:PlainAttrs T) (slot:Slot T name id) (hty:typeOf (.builtin id)=pure (.type "method_descriptor")) (hm:MtR X id r) (ho:PE X o to) (ha:PA X (e :: es) t)
  (hbase:attributeBase o name X.env (eval o X.env)=eval o X.env:=by rfl)
  (hfew:((backTo cpos (starEach (e :: es) X.env)).all (λ x=>!x.1) && (backToKw cpos (keywordEach [] X.env)).all (λ x=>x.1.isSome)
   && decide ((e :: es).length+([]:Ks Keyword).length+(if ([]:Ks Keyword).isEmpty then 0 else 1) < 30))=true:=by rfl)
  (hline:(apos.endLine == cpos.line)=true:=by rfl) (hs:starEach (e :: es) X.env=(false,eval e X.env) :: starEach es X.env:=by rfl) (hplain:(backTo cpos (starEach es X.env)).any (·.1)=false:=by rfl) :
  PE X (.Call (.Attribute o name apos) (e :: es) [] cpos) (tBM X.K T r to t):=by
 intro Ku s σ H Q I h;apply wpAny_Call_method_late hbase hfew hline rfl (thn (ho Ku s σ H _ I h) λ v s1 %[x,H1,I1,r1,ty|q1]=>?_);obtain⟨h1,h2⟩:=ui I1 r1 ty;apply%[T,id,pa,slot,hty,h1,h2|?_];have hA:=ha cpos Ku s1 σ H1 _ I1 q1;rw[hs]at hA ⊢;apply Calls.callWith_builtin (by show(false || (backTo cpos (starEach es X.env)).any (·.1))=false;rw[hplain] <;> rfl) (Calls.evalArgs_plain ?_);exact thn hA λ us s2 %[vs,H2,I2,r2|q2]=>hm Ku s2 σ H2 x vs v us Q I2 r1 r2 q2
/- xs.append(e),list.index on a module's tuple .. are MtR facts of 06m -/
end
def MtM (X:Cx) (id:String) (r:V->Ks V->Hp->VK->Prop):Prop :=
 ∀ (Ku:Ks (Ko×Obj)) (s:IN) (σ:St) (H:Hp) (x:V) (xs:Ks V) (v:IS) (us:Ks IS) (Q:VK),Inv X Ku σ H s->RelV x v->Vals xs us->r x xs H Q ->
  wpAny (model X.prog X.w) X.A (call (.builtin id) (v :: us)) (EP X Ku σ Q) X.xe s
theorem Vals.one:∀ {x:V} {us:Ks IS},Vals [x] us->∃u,us=[u]/\RelV x u
 | _,_,.cons r .nil=>%[_,Y|r]
theorem Vals.zero:∀ {us:Ks IS},Vals [] us->us=[]
 | _,.nil=>rfl
theorem Vals.dropLast {xs:Ks V} {us:Ks IS} (h:Vals xs us):Vals xs.dropLast us.dropLast:=by
 induction h with
 | nil=>exact .nil
 | cons r t ih=>
  cases t with
  | nil=>exact .nil
  | cons q t'=>exact .cons r ih
theorem Vals.rep {xs:Ks V} {us:Ks IS} (h:Vals xs us):∀k:Nat,Vals (List.replicate k xs).flatten (List.replicate k us).flatten
 | 0=>.nil
 | k+1=>by rw[Jv,Jv,Kh,Kh];exact Vals.append h (Vals.rep h k)
theorem yg {α:Type} (l:Ks α):l.eraseIdx (l.length - 1)=l.dropLast:=by
 induction l with
 | nil=>rfl
 | cons a r ih=>
  cases r with
  | nil=>rfl
  | cons b r=>
   have e:(a :: b :: r).length - 1=((b :: r).length - 1)+1:=by have h1:(a :: b :: r).length=r.length+2:=rfl;have h2:(b :: r).length=r.length+1:=rfl;lia
   rw[e,List.eraseIdx_cons_succ,ih]
   all_goals rfl
theorem jM (its:Ks IS):∀ (k:Nat) (acc:Ks IS),
  List.foldl (λ x1 x2=>x1 ++ x2) acc.toArray (List.replicate k its.toArray)=(acc ++ (List.replicate k its).flatten).toArray
 | 0,acc=>by simp
 | k+1,acc=>by
  have e:acc.toArray ++ its.toArray=(acc ++ its).toArray:=by simp
  have e2:(acc ++ its) ++ (List.replicate k its).flatten=acc ++ (List.replicate (k+1) its).flatten:=by rw[Jv,Kh,JC]
  rw[<- e2,<- jM its k (acc ++ its),<- e,Jv,List.foldl_cons]
section
variable {X:Cx} {Ku:Ks (Ko×Obj)} {σ:St} {H:Hp} {s:IN} {l b:Ko} {xs ys zs:Ks V}
theorem Inv.lset {its its':Ks IS} {n:Nat} {f:Kr IS->Kr IS} {t':Nat} (I:Inv X Ku σ H s) (hH:H l=↥xs)
  (e:s.heap.get? l=some { cls:=.type "list",data:=.seq its.toArray n }) (hf:f its.toArray=its'.toArray) (hv:Vals ys its') (hz:ys.length<=sizeLine) :
  Inv X Ku σ (upd H l (.lst ys)) { s with heap:=s.heap.update l (Obj.mapSeq f),toks:=t' }:=by
 have q:=PySem.IsL.update e f;rw[hf]at q;apply I.write (x:=l) (e:=l) (by rw[hH];exact trivial) (.inl rfl) (λ b' u hb hu=>(Heap.get?_update_other s.heap (Obj.mapSeq f) (Ne.symm hb)).trans hu) %[_|q] ?_;exact%[hz,its',_,hv|q]
theorem Inv.lnew {its:Ks IS} {t':Nat} (I:Inv X Ku σ H s) (hv:Vals ys its) (hz:ys.length<=sizeLine) :
  Inv X Ku σ (upd H s.heap.objs.size (.lst ys)) { s with heap:=s.heap.push { cls:=.type "list",data:=.seq its.toArray },toks:=t' } :=
 I.laid (λ _ _ q=>A8 _ q) (B4 _) %[hz,its,0,hv|A9 _ rfl]
theorem Inv.fresh (I:Inv X Ku σ H s):H s.heap.objs.size=none:=I.hok.fresh (B4 _)
theorem Inv.lstM (I:Inv X Ku σ H s) (hH:H l=↥xs):xs.length<=sizeLine/\∃ (its:Ks IS) (n:Nat),Vals xs its/\xs.length=its.length/\s.heap.get? l=some { cls:=.type "list",data:=.seq its.toArray n }:=by obtain⟨z,its,n,r,e⟩:=I.hok l _ hH;exact%[z,its,n,r,r.length|e]
theorem mf {n:Nat} (h:n<=sizeLine):Builtin.List.listTooLong n=false:=by unfold Builtin.List.listTooLong;exact B2 ⋯
end
section
variable {X:Cx}
inductive rAppend (x:V) (vs:Ks V) (H:Hp) (Q:VK):Prop
 | mk (l:Ko) (xs:Ks V) (y:V) (e_0:x=.ref l) (e_1:vs=[y]) (e_2:H l=↥xs) (e_3:xs.length < sizeLine) (e_4:Q .non (upd H l (.lst (xs ++ [y])))):rAppend x vs H Q
theorem cV:MtM X "list.append" rAppend:=by intro Ku s σ H x vs v us Q I rx rv h;obtain⟨l,xs,y,rfl,rfl,hH,hz,q⟩:=h;cases rx;obtain⟨u,rfl,ru⟩:=rv.one;obtain⟨z,its,n,r,hl,e⟩:=I.lstM hH;apply call_meets F.slot_list_append %[_,e|Y] F.entry_list_append (F.args_list_append_2 _ _) (PySem.list_append l its.toArray n u (by rw[JL];lia)) %[e|?_];apply%[.non,_,I.lset (its':=its ++ [u]) hH e (by simp) (r.append (.cons ru .nil)) ?_,Y|q];rw[JD,List.length_singleton];lia
def wx:V->Ks V->Hp->VK->Prop:=λ x vs H Q=>∃l b xs zs,x=.ref l/\vs=[.ref b]/\H l=↥xs/\H b=↥zs/\xs.length+zs.length<=sizeLine/\Q .non (upd H l (.lst (xs ++ zs)))
theorem Aq:MtM X "list.extend" wx:=by
 intro Ku s σ H x vs v us Q I rx rv h;obtain⟨l,b,xs,zs,rfl,rfl,hH,hB,hz,q⟩:=h;cases rx;obtain⟨u,rfl,ru⟩:=rv.one;cases ru;obtain⟨z,its,n,r,hl,e⟩:=I.lstM hH;obtain⟨z2,its2,n2,r2,hl2,e2⟩:=I.lstM hB;have hsz:its.toArray.size+its2.toArray.size<=sizeLine:=by rw[JL,JL];lia
 have hlong:¬ (!its.toArray.isEmpty && Builtin.List.listTooLong (its.toArray.size+its2.toArray.size))=true:=by rw[mf hsz,Bool.and_false];exact B3
 apply call_meets F.slot_list_extend %[_,e|Y] F.entry_list_extend (F.args_list_extend_2 _ _)
  (AutoSeq1.list_extend_list_list_0 l its.toArray n b its2.toArray n2 hlong (by rw[JL];lia) ⋯) %[e,e2|?_]
 apply%[.non,_,I.lset (its':=its ++ its2) hH e (by simp) (r.append r2) ?_,Y|q];rw[JD];lia
inductive rCat (x:V) (y:V) (H:Hp) (Q:VK):Prop
 | mk (l:Ko) (b:Ko) (xs:Ks V) (zs:Ks V) (e_0:x=.ref l) (e_1:y=.ref b) (e_2:H l=↥xs) (e_3:H b=↥zs) (e_4:xs.length+zs.length<=sizeLine) (e_5:∀p,H p=none->Q (.ref p) (upd H p (.lst (xs ++ zs)))):rCat x y H Q
theorem iG:OpR X (binaryOp .Add) rCat:=by
 intro Ku s σ H x y v u Q I rx ry h;obtain⟨l,b,xs,zs,rfl,rfl,hH,hB,hz,q⟩:=h;cases rx;cases ry;obtain⟨z,its,n,r,hl,e⟩:=I.lstM hH;obtain⟨z2,its2,n2,r2,hl2,e2⟩:=I.lstM hB;apply PySem.P.add_list e e2 ?_ (by rw[JL,JL];lia);have ea:its.toArray ++ its2.toArray=(its ++ its2).toArray:=by simp
 rw[ea];exact%[.ref _,_,I.lnew (t':=s.toks) (r.append r2) (by rw[JD];lia),Y|q _ I.fresh]
def Ge:R2:=λ x y H Q=>∃l k xs,x=.ref l/\y=.int k/\H l=↥xs/\-(2 ^ 63)<=k/\k < 2 ^ 63/\xs.length * k.toNat<=sizeLine /\
 ∀p,H p=none->Q (.ref p) (upd H p (.lst (List.replicate k.toNat xs).flatten))
theorem wy {α:Type} (xs:Ks α) (k:Nat):(List.replicate k xs).flatten.length=k * xs.length:=by
 induction k with
 | zero=>simp
 | succ k ih=>rw[Jv,Kh,JD,ih,Nat.succ_mul,Nat.add_comm]
theorem yh:OpR X (binaryOp .Mult) Ge:=by
 intro Ku s σ H x y v u Q I rx ry h;obtain⟨l,k,xs,rfl,rfl,hH,h1,h2,hz,q⟩:=h;cases rx;obtain⟨t,rfl⟩:=ry;obtain⟨z,its,n,r,hl,e⟩:=I.lstM hH;have Kw:its.toArray.size * k.toNat<=sizeLine:=by rw[JL,<- hl];exact hz
 have hcap:¬ its.toArray.size * k.toNat > (2 ^ 63 - 1) / 8:=by
  have:(sizeLine:Nat)<=(2 ^ 63 - 1) / 8:=∅
  lia
 have hfit:¬ (!Builtin.List.listFitsIndex k)=true:=by rw[fitsIndex_both h1 h2];exact B3
 have hlong:¬ Builtin.List.listTooLong (its.toArray.size * k.toNat)=true:=by rw[mf Kw];exact B3
 have hnew:List.foldl (λ x1 x2=>x1 ++ x2) #[] (List.replicate (if its.toArray.isEmpty=true then 0 else k.toNat) its.toArray)=(List.replicate k.toNat its).flatten.toArray:=by
  have f0:∀m:Nat,List.foldl (λ x1 x2=>x1 ++ x2) #[] (List.replicate m its.toArray)=(List.replicate m its).flatten.toArray:=λ m=>by have:=jM its m [];rw[List.nil_append]at this;exact this
  rw[f0];cases its with
  | nil=>simp
  | cons a r'=>rw[Ky (by simp)]
 apply wpAny_binaryOp_repeat_ref (T := "list") (U := "int") ∅ %[_,e|rfl] (λ s'=>typeIs_int s' k t) noFill_list_mul F.fills_int_mul F.slot_int_rmul repeat_list F.slot_int_index.lookup
  (call_meets F.slot_int_rmul (typeIs_int s k t) F.entry_int_rmul (F.args_int_rmul_2 _ _) (int___rmul___int_list k t l its.toArray n)
   %[e,rfl,%[_,e|rfl]|call_meets F.slot_list_mul %[_,e|rfl] F.entry_list_mul (F.args_list_mul_2 _ _) (AutoListH.list___mul___list_int_3 l its.toArray n k t hfit hcap hlong) %[e|?_]])
 rw[hnew];exact%[.ref _,_,I.lnew (t':=s.toks) (r.rep k.toNat) (by rw[wy,Nat.mul_comm];exact hz),Y|q _ I.fresh]
end
end L2
namespace Att
open PySem PySem.W PySem.Calls PyProof.Rows
theorem gS {P:Params} {h:Heap}:∀ (ns:Ks Int) (vs:Ks IS),WellAll P h vs (ns.map WData.int)->IntsAre vs ns:=by
 intro ns
 induction ns with
 | nil=>
  intro vs w;rw[Jj]at w;cases w;exact .nil
 | cons n ns ih=>
  intro vs w;rw[JA]at w;cases w with
  | cons a b=>
   cases a;exact .cons _ _ (ih _ b)
theorem qO {l:OpenLaw} {n:Nat} (hn:l.most=some n) {P:Params} {h:Heap} {args:Ks WData} {vals:Ks IS}
  (hpre:l.row.toRowW.claim.pre args=true) (hwl:WellAll P h vals args) :
  ∃a vs ns,vals=[Value.ref a]/\args=[WData.list (ns.map WData.int)]/\h.get? a=some { cls:=.type "list",data:=.seq vs.toArray }/\IntsAre vs ns/\ns.length<=n:=by
 have hsh:WShape.hasAll [] args [.list .int]=true:=(pre_splitW hpre).1;have hc:l.pre.holds [] { args:=args }=true:=(pre_splitW hpre).2;obtain⟨d,r,rfl,h1,h2⟩:=hasAllW_cons hsh;obtain rfl:=hasAllW_nil h2;obtain⟨xs,rfl,h3⟩:=hasW_list h1;obtain⟨ns,rfl⟩:=items_int h3;have Kw:ns.length<=n:=by
  unfold OpenLaw.pre at hc;have h4:(WTm.not (.lt (.lit (.int (n:Int))) (.len (.arg 0)))).holds [] { args:=[.list (ns.map .int)] }=true:=by have h4:=(holds_andW hc).1;rw[hn]at h4;exact h4
  have h5:=condW_of h4 (w_not (w_lt w_lit (w_len_list (w_arg rfl))));rw[B5]at h5;apply Nat.le_of_not_lt λ q=>?_;have q':(n:Int) < ((ns.length:Nat):Int):=⋯
  first
   | (rw[K1 q']at h5;exact absurd h5 ∅)
   | (simp at h5;lia)
 cases hwl with
 | cons w1 w2=>
  cases w2;cases w1 with
  | list ho hall=>exact%[_,_,ns,Y,Y,ho,gS ns _ hall|Kw]
theorem qQ (l:OpenLaw) (args:Ks WData):l.row.toRowW.claim.post args (.bool true) args=true :=
 postW_of (r:=l.row.toRowW) (X:=(true == true))
  (show WShape.has [] (.bool true) .bool=true by first | rfl | decide | simp[WShape.has,WShape.arms,WShape.armsAll])
  (show(WTm.eq .res (.lit (.bool true))).value [] { args:=args,res:=some (.bool true),after:=args }=some (.bool (true == true))from w_eq_bool (w_res rfl) w_lit) rfl
theorem attach_call {l:OpenLaw} {n:Nat} {q:IP} {loose:Ks Str} {XP:(Str->Kq IS)->Heap->Prop} {YP:IR->Heap->Prop} {d:DefRec}
  (hn:l.most=some n) (hdf:d.params.defaults=[])
  (call:∀ (w:IR) (s₀ s₁:IN) (mg mb:Str->Kq IS) (fa:Ko) (o:Obj) (pm cd doc:IS) (a:Ko) (vs:Ks IS) (ns:Ks Int),
   Ground q loose [] XP w s₀ mg mb s₁.heap->YP w s₁.heap ->
   s₁.heap.get? fa=some o->o.data=.func (docDef d.name d.params d.body d.scope pm cd doc)->s₁.heap.CodeRec cd d.name->mg d.name=↑fa ->
   s₁.heap.get? a=some { cls:=.type "list",data:=.seq vs.toArray }->IntsAre vs ns->ns.length<=n->s₁.gens=#[] ->
   codeAny (model l.prog w) callerA (.call (.ref fa) %[[.ref a]|[]]) (λ r s'=>r=.ok (.ret (.bool true))/\OldK s₁.heap s'.heap/\s'.os=s₁.os/\AllBare s'.gens) s₁) :
  WalkO q loose XP YP l.row.toRowW d [] (λ f vs=>PySem.call f vs):=by
 intro w s₀ s₁ mg mb G YY0 fa o pm cd doc dV kV ho hd hcd hD hmg hg args vals as hpre hlay hrd hwl hlo;obtain rfl:dV=.none:=Dflts.none hD hdf;obtain rfl:kV=.none:=Dflts.noKw hD;obtain⟨a,vs,ns,rfl,rfl,hobj,hints,Kw⟩:=qO hn hpre hwl;apply enter_call (codeAny_mono (call w s₀ s₁ mg mb fa o pm cd doc a vs ns G YY0 ho (fd_plain hd) hcd hmg hobj hints Kw hg) λ r s' hq=>?_);obtain⟨rfl,h2,h3,h4⟩:=hq;exact%[.inl %[.bool true,.bool true,[],Y,λ _=>rfl,.bool true,qQ l _|λ _=>%[List.Pairwise.nil|λ _ hm=>(nomatch hm)]],h2,h3|h4]
section
variable {prog:IP} {w:IR} {A:Around} {E:IS->IN->Prop} {s:IN} {K:Frag}
def Gf (h:Heap) (L d:Ko):Ks (Ko×Obj):=(List.range h.objs.size).filterMap λ a=>if a=L\/a=d then none else(h.get? a).map λ o=>(a,o)
end
end Att
namespace L2
open PySem PySem.Spec PyProof.Rows
theorem jN:∀ {vs:Ks IS} {ns:Ks Int},IntsAre vs ns->Vals (ns.map V.int) vs
 | _,_,.nil=>.nil
 | _,_,.cons n t h=>.cons %[t|Y] (jN h)
def yi (H:Hp):Prop:=∀b,H b=none\/∃o xs,H b=some (.frz o (.lst xs))
theorem uj {P:IP} {w:IR} {K:C6} {mg mb:Str->Kq IS} {CX:CXT} {k:Nat} {fa a:Ko} {fd:IQ} {x:Str} {sp:Sp} {s₁:IN} {vs:Ks IS} {ns:Ks Int}
  (KX:K.In s₁.heap) (hns:s₁.heap.Ns Kt mg) (hb:s₁.heap.Ns builtinsNs mb) (hbb:∀x:Str,x ≠ "__name__" -> mb x=bootBuiltins x) (hlim:s₁.heap.NoLimit) (hg:s₁.gens=#[])
  (ha:s₁.heap.get? a=some { cls:=.type "list",data:=.seq vs.toArray }) (hi:IntsAre vs ns) (hl:ns.length<=sizeLine) (hr:Room k callerA)
  (F:∀base:Heap,K.In base->base.Ns Kt mg->FnOk P w K mg base CX k fa fd [x] sp) (hbind:∀ (s:IN) (u:IS),BindsTo s fd %[[u]|[]] [(x,u)])
  (hsp:∀H:Hp,yi H->SqL K H a (ns.map V.int)->sp [.ref a] H (λ v _=>v=.bl true) λ _ _ _=>False)
  (hCX:∀H e s',CX [] H s₁ (λ _ _ _=>False) e s'->False) :
  codeAny (model P w) callerA (.call (.ref fa) %[[.ref a]|[]]) (λ r s'=>r=.ok (.ret (.bool true))/\OldK s₁.heap s'.heap/\s'.os=s₁.os/\AllBare s'.gens) s₁:=by
 have rv:=jN hi;have lenV:=hi.length;have core:∀H:Hp,yi H->SqL K H a (ns.map V.int)->HOk P w H s₁.heap->(∀b,H b≠none->b=a)->(H a≠none->K.lookup a=none) ->
   codeAny (model P w) callerA (.call (.ref fa) %[[.ref a]|[]]) (λ r s'=>r=.ok (.ret (.bool true))/\OldK s₁.heap s'.heap/\s'.os=s₁.os/\AllBare s'.gens) s₁:=by
  intro H hO hS hok hA hK;have base_of:∀ {b:Ko} {o:Obj},s₁.heap.get? b=some o->H b=none->(kL s₁.heap H).get? b=some o:=λ e n=>tJ e n;have noA:∀ {b:Ko} {o:Obj} {es:Kr DictEntry} {ep:Nat},s₁.heap.get? b=some o->o.data=.dict es ep->H b=none:=λ {b o es ep} e d=>by
   cases q:H b with
   | none=>rfl
   | some u=>
    have e':b=a:=hA b (by rw[q];simp);subst e';rw[ha]at e;cases e;have d':Data.seq vs.toArray _=Data.dict es ep:=d;cases d'
  have nsK:∀ {b:Ko} {m:Str->Kq IS},s₁.heap.Ns b m->(kL s₁.heap H).Ns b m:=λ {b m} ⟨o,es,ep,e,d,r⟩=>%[o,es,ep,base_of e (noA e d),d|r]
  have hKb:K.In (kL s₁.heap H):=λ b o e=>base_of (KX b o e) (by
   cases q:H b with
   | none=>rfl
   | some u=>
    have e':b=a:=hA b (by rw[q];simp);subst e';rw[hK (by rw[q];simp)]at e;cases e)
  have hM:Mod K mg (kL s₁.heap H):=%[hKb,nsK hns,%[mb,nsK hb|hbb]|let ⟨mc,h1,h2⟩:=hlim;%[mc,nsK h1|h2]]
  have e0:Env0 P w K mg (kL s₁.heap H) callerA [] s₁ H:=%[Y,hM,λ b o e=>vY e,Nat.le_of_eq (qE _ _),trivial,λ b hb=>absurd (show b∈([]:Ks Ko)from hb) (by simp),hok|.of_eq hg]
  apply codeAny_mono ((F _ hKb (nsK hns)).run callerA [] s₁ H %[[.ref a]|[]] [.ref a] [.ref a] _ _ hr e0 (hbind s₁ (.ref a)) (.cons rfl .nil) (hsp H hO hS)) λ r s' h=>?_;cases r with
  | error e=>exact(hCX H e s' h).elim
  | ok fl=>
   cases fl with
   | next=>exact E9 h
   | brk=>exact E9 h
   | cont=>exact E9 h
   | ret u=>
    obtain⟨v,H',os,bare,un,hok',r',q⟩:=h;have q':v=.bl true:=q;subst q';obtain rfl:u=Value.bool true:=r';apply%[Y,OldK.of_keep λ b o e=>?_,os|bare];cases q:H b with
    | none=>exact un.keep b o e q (by intro z;exact absurd (show b∈([]:Ks Ko)from z) (by simp)) (by simp)
    | some u=>
     rcases hO b with z | ⟨ob,xs,z⟩
     ·rw[q]at z;cases z
     ·have z2:=un.frzs b ob _ z;obtain⟨e1,_⟩:=hok b _ z;obtain⟨e2,_⟩:=hok' b _ z2;rw[e]at e1;cases e1;exact e2
 cases hk:K.lookup a with
 | some o=>
  have e:=KX a o hk;rw[ha]at e;cases e;apply core (λ _=>none) (λ _=>.inl rfl) (.inr %[_,vs.toArray,_,hk,Y,Y,Y,by rw[JL,lenV];exact hl|by simpa using rv]) (λ b u z=>by have z':(none:Kq HO)=some u:=z;cases z') (λ b z=>absurd rfl z) λ z=>absurd rfl z
 | none=>
  apply core (λ b=>if b=a then some (.frz { cls:=.type "list",data:=.seq vs.toArray } (.lst (ns.map V.int)))else none) (λ b=>?_) (.inl (.inr %[{ cls:=.type "list",data:=.seq vs.toArray }|Kz rfl])) (λ b u z=>?_) (λ b z=>?_) λ _=>hk
  ·by_cases hb:b=a
   ·exact .inr %[_,_|Kz hb]
   ·exact .inl (Ky hb)
  ·by_cases hb:b=a
   ·have z':=(Kz hb).symm.trans z;cases z';subst hb;exact%[ha,by rw[B5];exact hl,vs,_,rv|ha]
   ·have z':=(Ky hb).symm.trans z;cases z'
  ·by_cases hb:b=a
   ·exact hb
   ·exact absurd (Ky hb) z
theorem walk_of {l:PySem.W.OpenLaw} {n k:Nat} {q:IP} {loose:Ks Str} {XP:(Str->Kq IS)->Heap->Prop} {YP:IR->Heap->Prop} {d:DefRec} {K:Params->C6} {CX:IR->CXT} {sp:IR->Sp} {x:Str}
  (hn:l.most=some n) (hn2:n<=sizeLine) (hdf:d.params.defaults=[]) (hr:Room k callerA)
  (hY:∀ (w:IR) (h:Heap),YP w h->(K w.params).In h)
  (F:∀ (w:IR) (mg:Str->Kq IS) (fa:Ko) (h:Heap),(K w.params).In h->h.Ns Kt mg->mg d.name=↑fa ->
   ∃fd:IQ,(∀ (s:IN) (u:IS),BindsTo s fd %[[u]|[]] [(x,u)]) /\
    ∀base:Heap,(K w.params).In base->base.Ns Kt mg->FnOk l.prog w (K w.params) mg base (CX w) k fa fd [x] (sp w))
  (hsp:∀ (w:IR) (H:Hp) (a:Ko) (ns:Ks Int),ns.length<=n->yi H->SqL (K w.params) H a (ns.map V.int)->sp w [.ref a] H (λ v _=>v=.bl true) λ _ _ _=>False)
  (hCX:∀ (w:IR) (H:Hp) (s:IN) (e:IS) (s':IN),CX w [] H s (λ _ _ _=>False) e s'->False) :
  PySem.W.WalkO q loose XP YP l.row.toRowW d [] (λ f vs=>PySem.call f vs):=by
 apply Att.attach_call hn hdf λ w s₀ s₁ mg mb fa o pm cd doc a vs ns G YY0 ho hd hcd hmg hobj hints Kw hg=>?_;have KX:=hY w _ YY0;obtain⟨fd,hb,hF⟩:=F w mg fa _ KX G.T.g hmg;exact uj KX G.T.g G.T.b G.T.builtins G.T.nolimit hg hobj hints (C7 Kw hn2) hr hF hb (λ H hO hS=>hsp w H a ns Kw hO hS) λ H e s'=>hCX w H s₁ e s'
def inClass (s:Stmt) (j:Nat):Stmt:=match s with
 | .ClassDef _ _ _ body _ _ _ _ _ _ _=>body.getD j (.Pass %[0,0,0|0])
 | _=>.Pass %[0,0,0|0]
def defArgs (s:Stmt):Arguments:=match s with
 | .FunctionDef _ a _ _ _ _ _ _ _ _=>a
 | _=>{ posonlyargs:=[],args:=[],vararg:=none,kwonlyargs:=[],kw_defaults:=[],kwarg:=none,defaults:=[] }
def defBody (s:Stmt):Ks Stmt:=match s with
 | .FunctionDef _ _ b _ _ _ _ _ _ _=>b
 | _=>[]
def defScope (s:Stmt):Scope:=match s with
 | .FunctionDef _ _ _ _ _ _ sc _ _ _=>sc
 | _=>{ kind:=.function,names:=[],isGenerator:=false,isCoroutine:=false }
abbrev CX0:CXT:=λ _ _ _ _ _ _=>False
abbrev E0:XK:=λ _ _ _=>False
theorem pO {X:Cx}:fC CX0 X E0:=λ _ _ _ _ _ _ _ h=>h.elim
structure Fun (K:C6) (x qual:Str) (st:Stmt) (f:Ko) (fd:FuncData):Prop where
 ex:∃ (oc:IS) (od:Kq Ko) (kV doc pm:IS) (an:Kq Ko) (cdv ct:IS) (osl:Kr (Kq IS)),
  fd=E8 x qual (defArgs st) (defBody st) (defScope st) .none kV doc pm an cdv ct/\K.lookup f=some %[oc,od,.func fd|osl]/\PySem.W.codeIn K cdv qual=true
 kp:PySem.W.keepIn K (.ref f)=true
section
variable {P:IP} {w:IR} {K:C6} {mg:Str->Kq IS} {base:Heap}
theorem Fun.ok {x qual:Str} {st:Stmt} {f:Ko} {fd:IQ} {N ps:Ks Str} {k:Nat} {sp:Sp} (F:Fun K x qual st f fd) (S:FnScope N ps (defScope st)) (len:∀vs H Q E,sp vs H Q E->vs.length=ps.length)
  (hbody:∀ (cdv:IS) (A:Around) (outer:Ks Env) (s:IN) (H:Hp) (vs:Ks V) (Q:VK) (E:XK),Room k (A.deeper (envOfC qual (defScope st) s.heap.objs.size f cdv))->sp vs H Q E ->
   ∃t,PSs (qM CX0 P w K mg base N qual (defScope st) f cdv A outer s H E).nox (defBody st) t/\t { nx:=λ _ H'=>Q .non H',rt:=Q } (fv N vs) H):FnOk P w K mg base CX0 (k+1) f fd ps sp:=by
 obtain⟨oc,od,kV,doc,pm,an,cdv,ct,osl,rfl,lk,hcd⟩:=F.ex;apply AF lk hcd S len λ A outer s H vs Q E hr hsp=>?_;obtain⟨t,h,q⟩:=hbody cdv A outer s H vs Q E hr hsp;exact%[t,h.nox|q]
theorem Fun.binds {x qual:Str} {st:Stmt} {f:Ko} {fd:IQ} {ps:Ks Str} (F:Fun K x qual st f fd)
  (h:∀ (kV doc pm:IS) (an:Kq Ko) (cdv ct:IS) (us:Ks IS),us.length=ps.length->bindArgs (E8 x qual (defArgs st) (defBody st) (defScope st) .none kV doc pm an cdv ct) %[us|[]]=pure (ps.zip us)):Binds K fd ps []:=by
 obtain⟨oc,od,kV,doc,pm,an,cdv,ct,osl,rfl,lk,hcd⟩:=F.ex;exact .all (h kV doc pm an cdv ct)
theorem nG {x qual:Str} {st:Stmt} {f:Ko} {oc:IS} {od an:Kq Ko} {osl:Kr (Kq IS)} {kV doc pm cdv ct:IS} (l:K.lookup f=some %[oc,od,.func (E8 x qual (defArgs st) (defBody st) (defScope st) .none kV doc pm an cdv ct)|osl])
  (c:PySem.W.codeIn K cdv qual=true) (k:PySem.W.keepIn K (.ref f)=true):Fun K x qual st f (E8 x qual (defArgs st) (defBody st) (defScope st) .none kV doc pm an cdv ct):=%[%[oc,od,kV,doc,pm,an,cdv,ct,osl,Y,l|c]|k]
end
section
variable {X:Cx}
theorem pv (i:Nat) {x:Str} {pos:Pos} (hN:X.N[i]?=some x:=by rfl) (hv:Vis X.env.scope x:=by first | exact Or.inl rfl | exact Or.inr (Or.inl rfl) | exact Or.inr (Or.inr rfl)) (hd:(x == ("__debug__" : Str))=false:=by decide)
  (hcd:(x == ("__classdict__" : Str))=false:=by decide):PE X (.Name x pos) (tVar i):=xX hN hv hd hcd
end
theorem aT {A B:Prop} (h:B):if false=true then A else B:=by rw[Ky B3];exact h
theorem cQ {A B:Prop} (h:A):if true=true then A else B:=by rw[Kz rfl];exact h
theorem fu {c A B:Prop} [Decidable c] (h1:c->A) (h2:¬ c->B):if c then A else B:=by
 by_cases h:c
 ·rw[Kz h];exact h1 h
 ·rw[Ky h];exact h2 h
def Same (H H':Hp):Prop:=∀b o,H b=some o->H' b=some o
theorem Same.refl (H:Hp):Same H H:=λ _ _ h=>h
theorem Same.trans {H H1 H2:Hp} (a:Same H H1) (b:Same H1 H2):Same H H2:=λ c o h=>b c o (a c o h)
theorem Same.free {H H':Hp} (e:Same H H') {l:Ko} (h:H' l=Option.none):H l=Option.none:=by
 cases q:H l with
 | none=>rfl
 | some o=>
  rw[e l o q]at h;cases h
theorem Same.seq {K:C6} {H H':Hp} {a:Ko} {xs:Ks V} (e:Same H H') (h:SqL K H a xs):SqL K H' a xs:=by
 rcases h with(h | ⟨o,h⟩) | h
 ·exact .inl (.inl (e _ _ h))
 ·exact .inl (.inr %[o|e _ _ h])
 ·exact .inr h
def aH (env:Env):Ks (Str×NameKind)->Ks (Str×Ko)->Ks (Str×Ko)
 | [],acc=>acc
 | (n,k) :: r,acc=>aH env r (if (k == NameKind.free)=true then(n,(env.cells.lookup n).getD 0) :: acc else acc)
theorem bi (env:Env):∀ (names:Ks (Str×NameKind)) (acc:Ks (Str×Ko)) (x:Str) (c:Ko),(∀y∈names,y.2=.free->∃c,env.cells.lookup y.1=some c) ->
  (∀x c,acc.lookup x=some c->env.cells.lookup x=some c)->(aH env names acc).lookup x=some c->env.cells.lookup x=some c
 | [],acc,x,c,_,h,e=>h x c e
 | (n,k) :: r,acc,x,c,hf,h,e=>by
  apply bi env r _ x c (λ y hy=>hf y (B6 _ hy)) (λ x c e'=>?_) e
  by_cases hk:(k == NameKind.free)=true
  ·rw[Kz hk]at e';obtain⟨c0,hc0⟩:=hf (n,k) B9 (by simpa using hk);have hc0':env.cells.lookup n=some c0:=hc0;rw[JP]at e';cases hx:x == n with
   | true=>
    rw[hx]at e';have:x=n:=by simpa using hx
    subst this;rw[hc0']at e' ⊢;simpa using e'
   | false=>rw[hx]at e';exact h x c e'
  ·rw[Ky hk]at e';exact h x c e'
theorem iH (env:Env):∀ (names:Ks (Str×NameKind)) (acc:Ks (Str×Ko)) (x:Str),(∃c,acc.lookup x=some c)->∃c,(aH env names acc).lookup x=some c
 | [],acc,x,h=>h
 | (n,k) :: r,acc,x,h=>by
  apply iH env r _ x ?_
  by_cases hk:(k == NameKind.free)=true
  ·rw[Kz hk,JP];cases hx:x == n with
   | true=>exact%[_|Y]
   | false=>exact h
  ·rw[Ky hk];exact h
theorem dD (env:Env):∀ (names:Ks (Str×NameKind)) (acc:Ks (Str×Ko)) (x:Str),(x,NameKind.free)∈names->∃c,(aH env names acc).lookup x=some c
 | [],acc,x,h=>by simp at h
 | (n,k) :: r,acc,x,h=>by
  rcases IZ.mp h with e | e
  ·have e1:x=n:=Li Prod.fst e;have e2:NameKind.free=k:=Li Prod.snd e;subst e1;subst e2;apply iH env r _ x ?_;rw[Kz (by simp),JP];simp
  ·exact dD env r _ x e
theorem cH {env:Env} {scope:Scope} (hf:∀y∈scope.names,y.2=.free->∃c,env.cells.lookup y.1=some c):closureFor scope env=pure (aH env scope.names []):=by
 have key:∀ (names:Ks (Str×NameKind)) (acc:Ks (Str×Ko)),(∀y∈names,y.2=.free->∃c,env.cells.lookup y.1=some c) ->
   (forIn names acc (λ(x:Str×NameKind) (r:Ks (Str×Ko))=>(if (x.2 == NameKind.free)=true then do
    let a<-cellOf env x.1
    pure (ForInStep.yield ((x.1,a) :: r))else pure (ForInStep.yield r)) ):Sem (Ks (Str×Ko)))=pure (aH env names acc):=by
  intro names
  induction names with
  | nil=>intro acc _;rfl
  | cons y r ih=>
   intro acc h;obtain⟨n,k⟩:=y;have ih':=λ acc=>ih acc λ z hz=>h z (B6 _ hz);rw[List.forIn_cons]
   by_cases hk:(k == NameKind.free)=true
   ·obtain⟨c,hc⟩:=h (n,k) B9 (by simpa using hk);have hc':env.cells.lookup n=some c:=hc;have e1:cellOf env n=pure c:=by unfold cellOf;rw[hc']
    have e2:aH env ((n,k) :: r) acc=aH env r ((n,c) :: acc):=by show aH env r _=_;rw[Kz hk,hc'];rfl
    rw[Kz hk,e2,<- ih'];show((cellOf env n >>= λ a=>pure (ForInStep.yield ((n,a) :: acc))) >>= _)=_;rw[e1]
    rfl
   ·have e2:aH env ((n,k) :: r) acc=aH env r acc:=by show aH env r _=_;rw[Ky hk]
    rw[Ky hk,e2,<- ih']
    rfl
 have:=key scope.names [] hf;simp only[closureFor];exact(Li (λ m=>m >>= λ r=>(pure r:Sem _)) this).trans rfl
theorem kR {env:Env} {scope:Scope} (hcell:∀y∈scope.names,y.2≠.cell) {x:Str}:((relabel scope env).names.lookup x=some .cell\/(relabel scope env).names.lookup x=some .free)->(x,NameKind.free)∈scope.names:=by
  have key:∀names:Ks (Str×NameKind),(∀y∈names,y.2≠.cell)->∀k,(names.map λ(n,k)=>if (k == NameKind.free && env.scope.kind == .function && env.kindOf n == some .cell)then(n,NameKind.cell)else(n,k)).lookup x=some k ->
      (k=.cell\/k=.free)->(x,NameKind.free)∈names:=by
    intro names
    induction names with
    | nil=>intro _ k h _;simp at h
    | cons y r ih=>
      obtain⟨n,k'⟩:=y;intro hc k h hk;have nc:k'≠.cell:=hc (n,k') B9;rw[JA]at h
      by_cases hb:(k' == NameKind.free && env.scope.kind == .function && env.kindOf n == some .cell)=true
      . have hb':k'=.free:=by simp at hb;exact hb.1.1
        dsimp only at h;rw[Kz hb,JP]at h;cases hx:x == n with
        | true=>have:x=n:=(by simpa using hx);subst this;subst hb';exact B9
        | false=>rw[hx]at h;exact B6 _ (ih (λ y hy=>hc y (B6 _ hy)) k h hk)
      . dsimp only at h
        rw[Ky hb,JP]at h;cases hx:x == n with
        | true=>
          rw[hx]at h;have:x=n:=by simpa using hx
          subst this;have e:k'=k:=by simpa using h
          rcases hk with q | q
          . exact absurd (e.trans q) nc
          . rw[e,q];exact B9
        | false=>rw[hx]at h;exact B6 _ (ih (λ y hy=>hc y (B6 _ hy)) k h hk)
  rintro(h | h)
  . exact key _ hcell _ h (.inl rfl)
  . exact key _ hcell _ h (.inr rfl)
def av (X:Cx) (Ku:Ks (Ko×Obj)) (s2:IN) (H2:Hp) (scope:Scope) (C:Ko) (N':Ks Str) (fp:Ks Ko):Cx where
 prog:=X.prog
 w:=X.w
 K:=X.K
 mg:=X.mg
 base:=X.base
 A:=X.A
 N:=N'
 s₀:=s2
 H₀:=H2
 env:=compEnvC scope (aH X.env scope.names []) C X.env
 outer:=X.stack
 stack:=X.stack
 ex:=fp
 fn:=λ _=>false
 calm:=X.calm
 pn:=X.pn ++ Ku
 xe:=λ _ _=>False
def aA (σ:St) (cap:Ks Nat) (k:Nat):St:=List.replicate k none ++ cap.map λ j=>(σ[j]?).join
def leS (σ σ':St):Prop:=σ'.length=σ.length/\∀ (i:Nat) v,σ[i]?=some (some v)->σ'[i]?=some (some v)
theorem leS.set {σ:St} {i:Nat} {v:V} (h:σ[i]?=some none):leS σ (σ.set i (some v)):=by
 apply%[by simp|λ j w e=>?_]
 by_cases hj:j=i
 ·subst hj;rw[h]at e;cases e
 ·rw[KP (Ne.symm hj)];exact e
structure CompOk (X:Cx) (scope:Scope) (own:Ks Str) (cs:Ks Str) (cap:Ks Nat):Prop where
 kind:scope.kind=.function
 cell:∀y∈scope.names,y.2≠.cell
 names:∀y∈scope.names,y.2=.local->scope.names.lookup y.1=some .local
 free:∀y∈scope.names,y.2=.free->X.env.kindOf y.1=some .cell\/X.env.kindOf y.1=some .free
 caps:∀ (i:Nat) y,cs[i]?=some y->∃j,cap[i]?=some j/\X.N[j]?=some y/\(y,NameKind.free)∈scope.names
 ownl:∀y∈own,scope.names.lookup y=some .local
 len:cs.length=cap.length
 free2:∀y,(y,NameKind.free)∈scope.names->scope.names.lookup y=some .local->False
def fR (X:Cx) (ifs:Ks Expr) (tt:TT):Prop :=
 ∀ (Ku:Ks (Ko×Obj)) (s:IN) (σ:St) (H:Hp) (Q:Bool->Hp->Prop),Inv X Ku σ H s->tt σ H Q ->
  wpAny (model X.prog X.w) X.A (forIn ifs true λ c r=>if r=true then do let ok<-isTrue c X.env (eval c X.env);pure (ForInStep.yield ok)else pure (ForInStep.yield r)) (TP X Ku σ Q) X.xe s
def AH:TT:=λ _ H Q=>Q true H
theorem aE {X:Cx}:fR X [] AH:=λ _ _ _ H _ I h=>wpAny_tests_nil %[H,I|h]
theorem iI {X:Cx} {c:Expr} {tt:TT} (h:PT X c tt):fR X [c] tt:=λ Ku s σ H Q I q=>wpAny_tests_one (h Ku s σ H Q I q)
def cX (σ:St) (cap:Ks Nat) (k:Nat) (J:It) (g:TG) (tt:TT) (te:TE) (Q:Ks V->Hp->Prop) (W:Nat->Nat->Ks V->Hp->Prop):Prop :=
 ∀i m ys H,W i m ys H->(J.stop i H/\ys.length<=sizeLine/\Q ys H) \/
  (J.go i H/\ys.length < sizeLine/\∀x H',J.yld i H x H'->g x (aA σ cap k) H' λ σ2 H2=>leS (aA σ cap k) σ2/\tt σ2 H2 λ ok H3=>
   if ok=true then te σ2 H3 (λ v H4=>∃m',m' < m/\W (i+1) m' (ys ++ [v]) H4)else∃m',m' < m/\W (i+1) m' ys H3)
theorem HOk.add {P:IP} {w:IR} {H:Hp} {h:Heap} {a:Ko} {o:HO} (x:HOk P w H h) (n:H a=none) (new:ObjOk P w (upd H a o) h a o):HOk P w (upd H a o) h:=λ b u e=>by
 by_cases hb:b=a
 ·subst hb;rw[ai]at e;cases e;exact new
 ·rw[ah hb]at e;exact(x b u e).stay (λ c v _ q=>q) (λ c q=>by rw[ah (ae q n)];exact q) λ c xs q=>by rw[ah (ae q n)];exact q
section
variable {X:Cx} {Ku:Ks (Ko×Obj)} {σ:St} {H2:Hp} {s2:IN} {scope:Scope} {own cs:Ks Str} {cap:Ks Nat} {fp:Ks Ko}
theorem gy {h1:Heap} {C:Ko} {tk:Nat} (I:Inv X Ku σ H2 s2) (ok:CompOk X scope own cs cap) (hf:∀b∈fp,cP X Ku H2 b) (hfl:∀b∈fp,b < s2.heap.objs.size)
  (hC:s2.heap.objs.size<=C) (hns:h1.Ns C (λ _=>none)) (old:∀b o,s2.heap.get? b=some o->h1.get? b=some o) :
  Inv (av X Ku s2 H2 scope C (own ++ cs) fp) [] (aA σ cap own.length) H2 { s2 with heap:=h1,toks:=tk }:=by
 have hfr:∀y∈scope.names,y.2=.free->∃c,X.env.cells.lookup y.1=some c:=λ y hy e=>I.ok.has y.1 (ok.free y hy e);have sub:∀x c,(aH X.env scope.names []).lookup x=some c->X.env.cells.lookup x=some c:=λ x c e=>bi X.env scope.names [] x c hfr (λ _ _ z=>by simp at z) e;have clt:∀x c,(aH X.env scope.names []).lookup x=some c->c < s2.heap.objs.size:=λ x c e=>by obtain⟨v,o,ho,_⟩:=I.cell x c (sub x c e);exact B0 ho
 apply⟨%[I.ok.mod,ok.kind,I.ok.glob,I.ok.blt,hC,λ y z c h1 h2=>I.ok.inj y z c (sub y c h1) (sub z c h2),λ y hy=>?_,λ y c z=>?_,I.ok.hd,I.ok.frames,.inl rfl,λ b hb=>?_,I.bs,C7 I.ok.bsz I.sz,λ b o e hb=>?_,λ b hb z=>?_,I.stack|I.stkFree],
  rfl,I.bare,Un.kept old,%[_,hns|λ i y v e1 e2 e3=>?_],λ y c e=>?_,I.hok.fresh hC,λ y c e=>I.freeC y c (sub y c e),λ p hp=>?_,I.hok.kept old,?_⟩
 ·have hm:=kR ok.cell hy;exact dD X.env scope.names [] y hm
 ·exact absurd (show false=true from z) B3
 ·exact%[C1 (C3 (hfl b hb) hC)|λ x c e=>(hf b hb).2.2.2.2.1 x c (sub x c e)]
 ·rcases(hf b hb).2.2.2.1 with z | z
  ·exact I.ok.noex b o e z
  ·exact absurd (C3 (B0 (I.ok.bs b o e).1) z) (E2 _)
 ·rcases IZ.mp (I.stkSub b z)with q | q
  ·exact(hf b hb).2.1 q
  ·exact(hf b hb).2.2.1 q
 ·have hi:own.length<=i:=by
   apply Nat.le_of_not_lt λ q=>?_;unfold aA at e2;rw[Jn (by simpa using q),List.getElem?_replicate]at e2
   split at e2 <;> cases e2
  have e1':cs[i - own.length]?=some y:=by have e1:(own ++ cs)[i]?=some y:=e1;rwa [JV hi]at e1
  obtain⟨j,hj,hN,hm⟩:=ok.caps _ y e1';have hk:=ok.free _ hm rfl;have e2':σ[j]?=some (some v):=by
   unfold aA at e2;rw[JV (by simpa using hi),JT,IY,hj]at e2;have e2:(σ[j]?).join=some v:=by simpa using e2
   cases q:σ[j]? with
   | none=>rw[q]at e2;cases e2
   | some w=>rw[q]at e2;have:w=some v:=e2;rw[this]
  obtain⟨m,hn,hl⟩:=I.loc;obtain⟨u,ru,l⟩:=hl j y v hN e2' (by rcases hk with q | q;exact .inr (.inl q);exact .inr (.inr q));apply%[u,ru|.inr ?_];obtain⟨c,hc⟩:=dD X.env scope.names [] y hm;have hc':=sub y c hc;have cellu:h1.IsCell c (some u):=by
   rcases l with⟨k,_⟩ | ⟨k,c',e,o,ho,hd⟩
   ·rcases hk with q | q <;> (have z:X.env.kindOf y=_:=q;rw[k]at z;cases z)
   ·rw[hc']at e;cases e;exact%[o,old _ _ ho|hd]
  apply%[?_,c,hc|cellu];rcases e3 with z | z | z
  ·exfalso;have key:∀names:Ks (Str×NameKind),True:=λ _=>trivial;have z:(relabel scope X.env).names.lookup y=some .local:=z;have zz:scope.names.lookup y=some .local:=by
    unfold relabel at z;dsimp only at z;revert z;generalize scope.names=names
    induction names with
    | nil=>intro z;simp at z
    | cons q r ih=>
     obtain⟨n,k⟩:=q;intro z;rw[JA]at z
     by_cases hb:(k == NameKind.free && X.env.scope.kind == .function && X.env.kindOf n == some .cell)=true
     ·dsimp only at z;rw[Kz hb,JP]at z;rw[JP];cases hx:y == n with
      | true=>rw[hx]at z;cases z
      | false=>rw[hx]at z;exact ih z
     ·dsimp only at z;rw[Ky hb,JP]at z;rw[JP];cases hx:y == n with
      | true=>rw[hx]at z;exact z
      | false=>rw[hx]at z;exact ih z
   have:=ok.free2 y hm zz;exact this
  ·exact .inl z
  ·exact .inr z
 ·obtain⟨v,o,ho,hd⟩:=I.cell y c (sub y c e);exact%[v,o,old _ _ ho|hd]
 ·have hp':p∈X.pn ++ Ku:=by have:p∈(X.pn ++ Ku) ++ []:=hp;simpa using this
  obtain⟨e,n,ne,nf,d⟩:=I.pin p hp';apply%[old _ _ e,n,C1 (C3 (B0 e) hC),λ z=>?_|d];rcases IZ.mp (I.stkSub p.1 z)with q | q
  ·exact ne q
  ·exact nf q
 ·show(aA σ cap own.length).length=(own ++ cs).length;unfold aA;rw[JD,JT,B5,JD,ok.len]
end
section
variable {X:Cx} {Ku:Ks (Ko×Obj)} {σ:St} {H2:Hp} {s2:IN} {scope:Scope} {own cs:Ks Str} {cap:Ks Nat} {fp:Ks Ko} {it:Ko} {tn:Nat->Heap->Prop}
 {elt tg iter:Expr} {ifs:Ks Expr} {pos:Pos} {J:It} {g:TG} {tt:TT} {te:TE} {E:IS->IN->Prop} {W:Nat->Nat->Ks V->Hp->Prop} {Qf:Ks V->Hp->Prop}
structure BlkEnd (X:Cx) (Ku:Ks (Ko×Obj)) (σ:St) (Qf:Ks V->Hp->Prop) (D C:Ko) (s':Shared):Prop where
 ex:∃ (ys:Ks V) (H':Hp),H' D=none/\Qf ys H'/\Inv X Ku σ (upd H' D (.lst ys)) s'/\cP X Ku (upd H' D (.lst ys)) C
 ns:∃m,s'.heap.Ns C m
theorem Inv.bareP {pins':Ks (Ko×Obj)} {H:Hp} {s:IN} (I:Inv X pins' σ H s):Inv X [] σ H s:=I.pins_of λ p hp=>absurd hp (by simp)
theorem mh {RR:IS->Ko->Result->IN->Prop} (I:Inv X Ku σ H2 s2) (ok:CompOk X scope own cs cap) (hc:X.calm=true) (T:Turn X.prog X.w X.K tg J fp it tn) (st:tn 0 s2.heap) (hf:∀b∈fp,cP X Ku H2 b)
  (hg:∀C,PG (av X Ku s2 H2 scope C (own ++ cs) fp) tg g) (hi:∀C,fR (av X Ku s2 H2 scope C (own ++ cs) fp) ifs tt) (he:∀C,PE (av X Ku s2 H2 scope C (own ++ cs) fp) elt te)
  (w0:∃m,W 0 m [] H2) (turn:cX σ cap own.length J g tt te Qf W)
  (hRR:∀D C s',BlkEnd X Ku σ Qf D C s'->RR (.ref D) C (.ok .next) s') :
  wpAny (model X.prog X.w) X.A (newList []) (λ acc s₃=>wpAny (model X.prog X.w) X.A (newFunctionEnv scope X.env.globals (aH X.env scope.names []) [] X.env.qual none .none (some X.env)) (λ cenv s₄=>
   codeAny (model X.prog X.w) X.A (.compStart (.ListComp elt [%[tg,iter,ifs|0]] scope pos) 0 (.ref it) acc { cenv with scope:=relabel scope X.env }) (RR acc cenv.locals) s₄) E s₃) E s2:=by
 apply IL (wpAny_newFunctionEnv ok.cell (by intro y hy;simp at hy) (λ h₁ hns₁ hsb₁=>?_) ok.kind);dsimp only at hns₁ hsb₁ ⊢;generalize hHH:s2.heap.push { cls:=.type "list",dict:=none,data:=.seq ([]:Ks IS).toArray }=HH at hns₁ hsb₁ ⊢;have hCs:HH.objs.size=s2.heap.objs.size+1:=by rw[<- hHH,K3]
 have hDC:s2.heap.objs.size≠HH.objs.size:=by rw[hCs];exact C1 (G1 _)
 have hCle:s2.heap.objs.size<=HH.objs.size:=by rw[hCs];exact Kk _
 have hfl:∀b∈fp,b < s2.heap.objs.size:=λ b hb=>by obtain⟨o,e,_⟩:=T.obj 0 _ st b hb;exact B0 e
 have old:∀b o,s2.heap.get? b=some o->h₁.get? b=some o:=λ b o e=>hsb₁.extBut b o (by rw[hCs];exact C1 (Jf (B0 e))) (A8 _ (hHH ▸ A8 _ e));have hacc:h₁.PlainList s2.heap.objs.size #[]:=%[_|hsb₁.extBut _ _ hDC (A8 _ (hHH ▸ A9 _ rfl))]
 generalize hD:s2.heap.objs.size=D at *;generalize hCC:HH.objs.size=C at *;have hns₁':h₁.Ns C (λ _=>none):=hns₁;have I0:Inv (av X Ku s2 H2 scope C (own ++ cs) fp) [] (aA σ cap own.length) H2 { s2 with heap:=h₁,toks:=s2.toks+([]:Ks (Str×IS)).length } :=
  gy I ok hf (λ b hb=>by rw[hD];exact hfl b hb) (by rw[hD];exact hCle) hns₁' old
 have Dfs:D∉frs X.stack:=λ hb=>by obtain⟨_,o,ho,_⟩:=I.stack.mem hb;exact absurd (B0 ho) (by rw[hD];exact E2 _)
 have Dfp:∀b∈fp,D≠b:=λ b hb z=>absurd (hfl b hb) (by rw[<- z];exact E2 _);have clt:∀x c,(aH X.env scope.names []).lookup x=some c->c < D:=λ x c e=>by have e':=bi X.env scope.names [] x c (λ y hy e=>I.ok.has y.1 (ok.free y hy e)) (λ _ _ z=>by simp at z) e;obtain⟨v,o,ho,_⟩:=I.cell x c e';have:=B0 ho;rw[hD]at this;exact this
 have plt:∀p∈X.pn ++ Ku,p.1 < D:=λ p hp=>by have:=B0 (I.pin p hp).1;rw[hD]at this;exact this
 have stat:∀ {H':Hp} {ob:Obj},(∀b∈fp,H' b=none)->∀b∈fp,cP (av X Ku s2 H2 scope C (own ++ cs) fp) [(D,ob)] H' b:=λ {H' ob} hn b hb=>by
  have q:=I0.ok.exf b hb;apply%[hn b hb,q.1,I0.ok.exfs b hb,.inl hb,q.2|λ p hp=>?_];rcases C4.mp hp with z | z
  ·exact(hf b hb).2.2.2.2.2 p z
  ·have:p=(D,ob):=by simpa using z
   subst this;exact Dfp b hb
 have loop:codeAny (model X.prog X.w) X.A (.compLoop (.ListComp elt [%[tg,iter,ifs|0]] scope pos) 0 (.ref it) (.ref D) (compEnvC scope (aH X.env scope.names []) C X.env)) (RR (.ref D) C)
   { s2 with heap:=h₁,toks:=s2.toks+([]:Ks (Str×IS)).length }:=by
  obtain⟨m0,w0⟩:=w0;apply codeAny_loop rfl (λ n s'=>∃i H' its ys,Inv (av X Ku s2 H2 scope C (own ++ cs) fp) [] (aA σ cap own.length) H' s'/\tn i s'.heap/\(∀b∈fp,H' b=none)/\s'.heap.PlainList D its.toArray/\Vals ys its/\H' D=none/\W i n ys H') ?_ m0
   %[0,H2,[],[],I0,T.keep 0 _ _ st λ b _ o e=>old b o e,λ b hb=>(hf b hb).1,hacc,.nil,I.hok.fresh (by rw[hD];exact B4 _)|w0]
  rintro n s3 ⟨i,H3,its,ys,I3,st3,fr3,⟨nn,pl3⟩,rv3,hD3,w3⟩;show wpAny _ X.A ((compTurn (.ListComp elt [%[tg,iter,ifs|0]] scope pos) 0 (.ref it) (.ref D) (compEnvC scope (aH X.env scope.names []) C X.env)).onRaise (λ x=>do noteFrame x (compEnvC scope (aH X.env scope.names []) C X.env);theTreesLotGoes x)) _ _ s3;apply wpAny_noted ?_;rw[compTurn_list];apply A0 (LM (A0 ?_));have I3':Inv (av X Ku s2 H2 scope C (own ++ cs) fp) [(D,{ cls:=.type "list",data:=.seq its.toArray nn })] (aA σ cap own.length) H3 s3 :=
   I3.pins_of λ p hp=>by
    have:p=(D,{ cls:=.type "list",data:=.seq its.toArray nn }):=by simpa using hp
    subst this;exact%[pl3,hD3,hDC,Dfs|λ v z=>by cases z]
  rcases turn i n ys H3 w3 with⟨stop,hz,qf⟩ | ⟨go,hz,step⟩
  ·apply thn (T.done (av X Ku s2 H2 scope C (own ++ cs) fp) rfl rfl rfl hc i _ s3 _ H3 _ I3' (stat fr3) st3 stop) λ r s4 %[hr|I4]=>?_;subst hr;apply A3 (hRR D C s4 %[%[ys,H3,hD3,qf,?_|?_]|?_])
   ·have pl4:=(I4.pin (D,_) (A6 _ (E4.mpr rfl))).1;have u4:=I4.base;have Ds2:s2.heap.get? D=none:=Lo (by rw[hD];exact B4 _);apply I.call' (s':=s4) (ch:=fp) I4.os %[u4.keep,u4.slot,λ b o e n hx=>?_,u4.there,λ b xs e=>?_,λ b o u e=>?_|λ b ps e=>?_] ?_ I4.bare λ b hb=>%[(hf b hb).2.2.2.1,(hf b hb).2.1,(hf b hb).2.2.2.2.1|(hf b hb).2.2.2.2.2]
    ·rw[ah (λ z=>by rw[z,Ds2]at e;cases e)];exact u4.free b o e n hx
    ·have:=u4.tups b xs e;rw[ah (ae this hD3)];exact this
    ·have:=u4.frzs b o u e;rw[ah (ae this hD3)];exact this
    ·obtain⟨more,e'⟩:=u4.tbls b ps e;exact%[more|by rw[ah (ae e' hD3)];exact e']
    ·exact I4.hok.add hD3 %[hz,its,nn,rv3|pl4]
   ·have CH:(upd H3 D (.lst ys)) C=none:=by rw[ah (Ne.symm hDC)];exact I4.free
    exact I.fpOk (H':=upd H3 D (.lst ys)) (by rw[hD];exact hCle) CH
   ·obtain⟨m,hn,_⟩:=I4.loc;exact%[m|hn]
  ·apply thn (T.item (av X Ku s2 H2 scope C (own ++ cs) fp) rfl rfl rfl hc i _ s3 _ H3 _ I3' (stat fr3) st3 go) λ r s4 %[u,hr|h4]=>?_;subst hr;apply A0 (thn h4 λ _ s5 %[x,H5,I5,r5,y5,st5|fr5]=>?_);have I5':=I5.pinned (stat fr5) (T.obj _ _ st5);apply A0 (K6 (hg C _ s5 _ H5 x u _ I5' r5 (step x H5 y5)) (λ _ s6 ⟨σ6,H6,I6,le6,q6⟩=>?_) λ _ _ z=>E9 z);apply A0 (K6 (hi C _ s6 σ6 H6 _ I6 q6) (λ b s7 ⟨H7,I7,q7⟩=>?_) λ _ _ z=>E9 z);have back:∀ {pins':Ks (Ko×Obj)} {H8:Hp} {s8:IN},Inv (av X Ku s2 H2 scope C (own ++ cs) fp) pins' σ6 H8 s8->Inv (av X Ku s2 H2 scope C (own ++ cs) fp) [] (aA σ cap own.length) H8 s8:=λ I8=>
    I8.bareP.weak le6.1.symm λ i v e=>le6.2 i v e
   cases b with
   | false=>
    rw[Ky B3]at q7;obtain⟨m',hm,w7⟩:=q7;apply A3 %[rfl,m',hm,i+1,H7,its,ys,back I7,T.keep _ _ _ st5 λ b hb o e=>?_,λ b hb=>?_,%[nn|?_],rv3,?_|w7]
    ·exact(I7.pin (b,o) (A6 _ (A6 _ (ax hb e)))).1
    ·obtain⟨o,e,d⟩:=T.obj _ _ st5 b hb;exact(I7.pin (b,o) (A6 _ (A6 _ (ax hb e)))).2.1
    ·exact(I7.pin (D,_) (A6 _ (B8 _ (E4.mpr rfl)))).1
    ·exact(I7.pin (D,_) (A6 _ (B8 _ (E4.mpr rfl)))).2.1
   | true=>
    rw[Kz rfl]at q7;apply A0 (A0 (K6 (he C _ s7 σ6 H7 _ I7 q7) (λ y s8 ⟨v,H8,I8,r8,m',hm,w8⟩=>?_) λ _ _ z=>E9 z));have pD:=I8.pin (D,{ cls:=.type "list",data:=.seq its.toArray nn }) (A6 _ (B8 _ (E4.mpr rfl)));have Kw:=rv3.length;apply A0 (wpAny_list_append_plain (hsz:=by rw[JL];lia) %[nn|pD.1] λ h9 pl9 sb9=>A3 (A3 ?_));have I8':=back I8;apply%[Y,m',hm,i+1,H8,its ++ [y],ys ++ [v],?_,T.keep _ _ _ st5 λ b hb o e=>?_,λ b hb=>?_,?_,rv3.append (.cons r8 .nil),pD.2.1|w8]
    ·exact I8'.turned (t':=s8.toks) (λ b o hb e=>sb9.extBut b o hb e) pD.2.1 hDC (.inr (by show s2.heap.objs.size<=D;rw[hD];exact B4 _)) (λ x c e=>C1 (clt x c e)) λ p hp=>by
      have hp':p∈X.pn ++ Ku:=by have:p∈(X.pn ++ Ku) ++ []:=hp;simpa using this
      exact C1 (plt p hp')
    ·exact sb9.extBut b o (Ne.symm (Dfp b hb)) (I8.pin (b,o) (A6 _ (A6 _ (ax hb e)))).1
    ·obtain⟨o,e,d⟩:=T.obj _ _ st5 b hb;exact(I8.pin (b,o) (A6 _ (A6 _ (ax hb e)))).2.1
    ·have e:its.toArray.push y=(its ++ [y]).toArray:=by simp
     rw[<- e];exact pl9
 exact codeAny_compStart_list loop (T.self _ 0 _ _ _ (T.keep 0 _ _ st λ b _ o e=>old b o e) loop)
def mj (wi:TI) (cap:Ks Nat) (k:Nat) (g:TG) (tt:TT) (te:TE):TE:=λ σ H Q=>wi σ H λ J H1=>
 ∃W:Nat->Nat->Ks V->Hp->Prop,(∃m,W 0 m [] H1)/\cX σ cap k J g tt te (λ ys H'=>∀p,H' p=none->Q (.ref p) (upd H' p (.lst ys))) W
theorem aX {wi:TI} (hc:X.calm=true) (hit:PI X tg iter wi) (ok:CompOk X scope own cs cap)
  (hg:∀Ku s2 H2 C fp,PG (av X Ku s2 H2 scope C (own ++ cs) fp) tg g) (hi:∀Ku s2 H2 C fp,fR (av X Ku s2 H2 scope C (own ++ cs) fp) ifs tt) (he:∀Ku s2 H2 C fp,PE (av X Ku s2 H2 scope C (own ++ cs) fp) elt te)
  (hs:∀x,foldedSetIterable iter X.env x=pure x:=by intro _;rfl):PE X (.ListComp elt [%[tg,iter,ifs|0]] scope pos) (mj wi cap own.length g tt te):=by
 intro Ku s σ H Q I h;rw[eval_ListComp];apply LP (use:=none) rfl hs (cH λ y hy e=>I.ok.has y.1 (ok.free y hy e)) ok.kind ok.names (thn (hit Ku s σ H _ I h) λ v s1 h1=>thn h1 λ itv s2 h2=>?_);obtain⟨it,fp,tn,J,H2,e,I2,T,st2,f2,W,w0,turn⟩:=h2;subst e;apply mh (RR:=λ acc C=>compPost (model X.prog X.w) X.A X.xe none (EP X Ku σ Q) acc C) I2 ok hc T st2 f2 (λ C=>hg _ _ _ _ _) (λ C=>hi _ _ _ _ _) (λ C=>he _ _ _ _ _) w0 turn λ D C s' B=>?_;obtain⟨⟨ys,H',hD,q,I',fp'⟩,m,hn⟩:=B;obtain⟨f0,f1,f2',f3,f4,f5⟩:=fp';exact%[m,hn|λ h' sb=>%[.ref D,_,I'.turned (t':=s'.toks) (λ b o hb e=>sb.extBut b o hb e) f0 f1 f3 f4 f5,Y|q D hD]]
theorem kS {wi:TI} {i:Nat} {y:Str} {py spos:Pos} (hc:X.calm=true) (hN:X.N.Nodup) (hiy:X.N[i]?=some y) (hy:X.env.scope.names.lookup y=some .local)
  (hsw:swapsWith (.ListComp elt [%[tg,iter,ifs|0]] scope pos) (some (.Name y py)) spos.line X.env=pure true) (hit:PI X tg iter wi) (ok:CompOk X scope own cs cap)
  (hg:∀Ku s2 H2 C fp,PG (av X Ku s2 H2 scope C (own ++ cs) fp) tg g) (hi:∀Ku s2 H2 C fp,fR (av X Ku s2 H2 scope C (own ++ cs) fp) ifs tt) (he:∀Ku s2 H2 C fp,PE (av X Ku s2 H2 scope C (own ++ cs) fp) elt te)
  (hs:∀x,foldedSetIterable iter X.env x=pure x:=by intro _;rfl):PS X (.Assign [.Name y py] (.ListComp elt [%[tg,iter,ifs|0]] scope pos) spos) (wc (mj wi cap own.length g tt te) (fO i)):=by
 intro Ku s σ H D0 I h;rw[exec_Assign_Name_used _ _ _ _ hsw];apply A0 (LM (A0 ?_));show wpAny _ X.A (do let _<-comprehension (.ListComp elt [%[tg,iter,ifs|0]] scope pos) scope X.env _ (newList []) false (eval iter X.env) (some (assign (.Name y py) X.env))) _ _ s;apply A0 (K6 (LP (use:=some (assign (.Name y py) X.env)) (Q:=λ _ s'=>SP X Ku D0 .next s') rfl hs (cH λ y hy e=>I.ok.has y.1 (ok.free y hy e)) ok.kind ok.names
  (thn (hit Ku s σ H _ I h) λ v s1 h1=>thn h1 λ itv s2 h2=>?_)) (λ _ s' hq=>A3 (A3 hq)) λ _ _ e=>e)
 obtain⟨it,fp,tn,J,H2,e,I2,T,st2,f2,W,w0,turn⟩:=h2;subst e;apply mh (RR:=λ acc C=>compPost (model X.prog X.w) X.A X.xe (some (assign (.Name y py) X.env)) (λ _ s'=>SP X Ku D0 .next s') acc C) I2 ok hc T st2 f2 (λ C=>hg _ _ _ _ _) (λ C=>hi _ _ _ _ _) (λ C=>he _ _ _ _ _) w0 turn λ D C s' B=>?_;obtain⟨⟨ys,H',hD,q,I',fp'⟩,m,hn⟩:=B;obtain⟨f0,f1,f2',f3,f4,f5⟩:=fp';show wpAny _ X.A (assign (.Name y py) X.env (.ref D)) _ _ _;apply wpAny_assign_Name (gr I' hN hiy (.inl hy) (v:=.ref D) rfl (λ s3 I3 ⟨a,sb,ha⟩=>?_) (.inr hy));have hCa:C≠a:=by
  rcases ha with z | z
  ·rw[z];exact f1
  ·exactλ q=>f4 y a z q.symm
 apply%[m,hn.sameBut sb hCa|λ h' sb'=>%[_,_,I3.turned (t':=s3.toks) (λ b o hb e=>sb'.extBut b o hb e) f0 f1 f3 f4 f5|q D hD]]
end
def CDivB (i j:Int):Prop:=0 < j/\j<=10 ^ 60
theorem CDivB.np {i j:Int} (h:CDivB i j):Builtin.divisionGoesByPylong i j=false:=by
 apply PyProof.noPylong_of_log2 ?_;have h1:j.natAbs < 2 ^ 200:=by obtain⟨a,b⟩:=h;lia
 have h2:j.natAbs.log2 < 200:=(Nat.log2_lt (by have:=h.1;lia)).mpr h1;lia
section
variable {X:Cx}
theorem uk:OpR X (binaryOp .FloorDiv) (rI CDivB λ i j=>.int (i / j)):=opI λ i j _ _ _ _ _ hc q=>by apply floordiv_int (by have:=hc.1;lia) ?_ (.inl hc.np);rw[Int.fdiv_eq_ediv_of_nonneg _ (by have:=hc.1;lia)];exact q
theorem Inv.kitx {Ku:Ks (Ko×Obj)} {σ:St} {H:Hp} {s:IN} {x:V} {u t:IS} (I:Inv X Ku σ H s) (rx:RelV x u) (ty:TyOf X.K H x t) :
  ∃P:Heap->Prop,PySem.W.KitX X.K u t P/\P s.heap/\u≠.builtin "__main__.__loader__#opaque" := by
 cases ty with
 | non=>cases(show u=Value.none from rx);exact%[_,PySem.W.kitx_none,True.intro|λ z=>nomatch z]
 | bl y=>cases(show u=Value.bool y from rx);exact%[_,PySem.W.kitx_bool,True.intro|λ z=>nomatch z]
 | int i=>obtain⟨t,q⟩:=(show∃t,u=Value.int i t from rx);cases q;exact%[_,PySem.W.kitx_int,True.intro|λ z=>nomatch z]
 | str y=>obtain⟨t,q⟩:=(show∃t,u=Value.str y t from rx);cases q;exact%[_,PySem.W.kitx_str,True.intro|λ z=>nomatch z]
 | flt y=>obtain⟨t,q⟩:=(show∃t,u=Value.float y t from rx);cases q;exact%[_,PySem.W.kitx_float,True.intro|λ z=>nomatch z]
 | @lst a xs ea=>
  cases(show u=Value.ref a from rx);obtain⟨_,_,n,_,h1⟩:=(show ObjOk X.prog X.w H s.heap a (.lst xs)from I.hok a _ ea)
  exact%[_,PySem.W.kitx_list,%[_,h1|Y]|λ z=>nomatch z]
 | @frz a ob xs ea=>
  cases(show u=Value.ref a from rx);obtain⟨_,_,_,n,_,h1⟩:=(show ObjOk X.prog X.w H s.heap a (.frz ob (.lst xs))from I.hok a _ ea)
  exact%[_,PySem.W.kitx_list,%[_,h1|Y]|λ z=>nomatch z]
 | @tup a xs ea=>
  cases(show u=Value.ref a from rx);obtain⟨_,_,_,p⟩:=(show ObjOk X.prog X.w H s.heap a (.tup xs)from I.hok a _ ea)
  obtain⟨o,h1,h2,_⟩:=p;exact%[_,PySem.W.kitx_tuple,%[o,h1|h2]|λ z=>nomatch z]
 | @dK a kvs ea=>
  cases(show u=Value.ref a from rx);obtain⟨_,_,vs,_,p⟩:=(show ObjOk X.prog X.w H s.heap a (.dK kvs)from I.hok a _ ea)
  obtain⟨o,es,ep,h1,h2,_⟩:=p;exact%[_,PySem.W.kitx_dict,%[o,h1|h2.1]|λ z=>nomatch z]
 | @dT a kvs ea=>
  cases(show u=Value.ref a from rx);obtain⟨_,_,xs,_,o,es,ep,h1,h2,_⟩:=(show ObjOk X.prog X.w H s.heap a (.dT kvs)from I.hok a _ ea)
  exact%[_,PySem.W.kitx_dict,%[o,h1|h2.1]|λ z=>nomatch z]
 | @ext a φ ea c=>
  cases(show u=Value.ref a from rx);obtain⟨p,_,_⟩:=(show ObjOk X.prog X.w H s.heap a (.ext φ)from I.hok a _ ea)
  obtain⟨o,h1,h2⟩:=c _ p;exact%[_,PySem.W.kitx_dict,%[o,h1|h2]|λ z=>nomatch z]
 | @ins a C dx fs ea cl ha hn htk hm=>
  cases(show u=Value.ref a from rx);obtain⟨mA,O,_⟩:=fP I.hok ea;obtain⟨od,J,_⟩:=O.look;exact%[_,PySem.W.kitx_own (cl.get _) cl.hd ha hn htk hm,J|λ z=>nomatch z]
def clV:V->Kq Value
 | .ty T=>some (.type T)
 | .ref C=>↑C
 | _=>none
theorem clV.rel {v:V} {u c:IS} (e:clV v=some c) (r:RelV v u):u=c:=by
 cases v with
 | ty T=>have e':Value.type T=c:=C0 e;rw[<- e'];exact r
 | ref C=>have e':Value.ref C=c:=C0 e;rw[<- e'];exact r
 | _=>cases e
def clVs:Ks V->Kq (Ks IS)
 | []=>some []
 | v :: r=>match clV v,clVs r with
  | some c,some cs=>some (c :: cs)
  | _,_=>none
theorem clVs.rel:∀ {vs:Ks V} {us cs:Ks IS},clVs vs=some cs->Vals vs us->us=cs
 | [],_,_,e,.nil=>C0 e
 | v :: r,_,_,e,.cons r1 r2=>by
  unfold clVs at e
  split at e
  ·rename_i c cs' e1 e2
   cases e;rw[clV.rel e1 r1,clVs.rel e2 r2]
  ·cases e
theorem bu:bM X (.builtin "isinstance") (λ xs H Q=>∃x cv t c b,xs=[x,cv]/\TyOf X.K H x t/\clV cv=some c/\PySem.W.kitOne X.K t c=some b/\Q (.bl b) H):=by
 intro Ku s σ H xs us Q I rv h;obtain⟨x,cv,t,c,b,rfl,ty,e1,e2,q⟩:=h;cases rv with
 | cons r1 rr=>
  cases rr with
  | cons r2 rr=>
   cases rr;rw[clV.rel e1 r2];exact qK I r1 ty e2 λ tk=>%[.bl b,H,I.tok tk,Y|q]
theorem kT:bM X (.builtin "isinstance") (λ xs H Q=>∃x p t cvs cs b,xs=[x,.ref p]/\TyOf X.K H x t/\H p= ~~~cvs/\clVs cvs=some cs/\PySem.W.kitAny X.K t cs=some b/\Q (.bl b) H):=by
 intro Ku s σ H xs us Q I rv h;obtain⟨x,p,t,cvs,cs,b,rfl,ty,hp,e1,e2,q⟩:=h;cases rv with
 | cons r1 rr=>
  cases rr with
  | cons r2 rr=>
   cases rr;cases r2;obtain⟨_,its,rits,o,ho,hc,n,hd⟩:=I.hok p _ hp;obtain⟨P,Z,p1,p2⟩:=I.kitx r1 ty;obtain⟨oc,od,dt,osl⟩:=o
   replace hc:oc=.type "tuple" := hc
   replace hd:dt=.seq its.toArray n:=hd
   subst hc hd;have e3:=clVs.rel e1 rits;subst e3;exact PySem.W.kia_tup Z I.kIn p1 ho e2 p2 λ tk=>%[.bl b,H,I.tok tk,Y|q]
end
mutual
inductive DatV (K:C6) (H:Hp):V->PyData->Prop
 | non:DatV K H .non .none
 | bl (b:Bool):DatV K H (.bl b) (.bool b)
 | int (i:Int):DatV K H (.int i) (.int i)
 | str (x:Str):DatV K H (.str x) (.str x)
 | lst {a:Ko} {xs:Ks V} {ds:Ks PyData}:SqL K H a xs->DatVs K H xs ds->DatV K H (.ref a) (.list ds)
 | tup {a:Ko} {xs:Ks V} {ds:Ks PyData}:SqT K H a xs->DatVs K H xs ds->DatV K H (.ref a) (.tuple ds)
inductive DatVs (K:C6) (H:Hp):Ks V->Ks PyData->Prop
 | nil:DatVs K H [] []
 | cons {x:V} {d:PyData} {xs:Ks V} {ds:Ks PyData}:DatV K H x d->DatVs K H xs ds->DatVs K H (x :: xs) (d :: ds)
end
section
variable {X:Cx} {Ku:Ks (Ko×Obj)} {σ:St} {H:Hp} {s:IN}
mutual
theorem Inv.reads (I:Inv X Ku σ H s):∀ {v:V} {d:PyData},DatV X.K H v d->∀ {u:IS},RelV v u->∃as,Reads s.heap u d as
 | _,_,.non,u,r=>by cases(show u=Value.none from r);exact%[_|.none]
 | _,_,.bl b,u,r=>by cases(show u=Value.bool b from r);exact%[_|.bool b]
 | _,_,.int i,u,r=>by obtain⟨t,e⟩:=(show∃t,u=Value.int i t from r);subst e;exact%[_|.int i t]
 | _,_,.str x,u,r=>by obtain⟨t,e⟩:=(show∃t,u=Value.str x t from r);subst e;exact%[_|.str x t]
 | _,_,.lst (a:=a) h hs,u,r=>by cases(show u=Value.ref a from r);obtain⟨its,rv,⟨o,n,e,c,_,d⟩,_⟩:=I.list h;obtain⟨as,ra⟩:=I.readsAll hs rv;exact%[_|.list e c d (by simpa using ra)]
 | _,_,.tup (a:=a) h hs,u,r=>by cases(show u=Value.ref a from r);obtain⟨its,rv,⟨o,e,c,n,d⟩,_⟩:=I.tuple h;obtain⟨as,ra⟩:=I.readsAll hs rv;exact%[_|.tuple e c d (by simpa using ra)]
theorem Inv.readsAll (I:Inv X Ku σ H s):∀ {vs:Ks V} {ds:Ks PyData},DatVs X.K H vs ds->∀ {us:Ks IS},Vals vs us->∃as,ReadsAll s.heap us ds as
 | _,_,.nil,_,.nil=>%[_|.nil]
 | _,_,.cons h hs,_,.cons r rs=>by obtain⟨as,ra⟩:=I.reads h r;obtain⟨bs,rb⟩:=I.readsAll hs rs;exact%[_|.cons ra rb]
end
end
section
variable {X:Cx}
theorem um (hu:X.A.units+64 < cLine):OpR X (compareOp .NotEq) (λ x y H Q=>∃da db,DatV X.K H x da/\DatV X.K H y db/\SeqAt.shaped da=true/\SeqAt.shaped db=true/\Q (.bl (!PyData.eqv da db)) H):=by intro Ku s σ H x y v u Q I rx ry h;obtain⟨da,db,hx,hy,s1,s2,q⟩:=h;obtain⟨as,ra⟩:=I.reads hx rx;obtain⟨bs,rb⟩:=I.reads hy ry;exact ne_dataH ra rb s1 s2 hu %[.bl _,H,I,rfl|q]
theorem yj (hu:X.A.units+64 < cLine):OpR X (compareOp .Eq) (λ x y H Q=>∃da db,DatV X.K H x da/\DatV X.K H y db/\SeqAt.shaped da=true/\SeqAt.shaped db=true/\Q (.bl (PyData.eqv da db)) H):=by intro Ku s σ H x y v u Q I rx ry h;obtain⟨da,db,hx,hy,s1,s2,q⟩:=h;obtain⟨as,ra⟩:=I.reads hx rx;obtain⟨bs,rb⟩:=I.reads hy ry;exact eq_dataH ra rb s1 s2 hu %[.bl _,H,I,rfl|q]
end
section
variable {prog:IP} {w:IR} {A:Around} {E:IS->IN->Prop}
theorem iJ {it l:Ko} {items:Kr IS} (hne:l≠it):∀ (n i:Nat) (s:IN) (Q:Ks IS->IN->Prop),s.heap.IsListIter it l i->s.heap.IsList l items->i+n<=items.size ->
  (∀h',h'.IsListIter it l (i+n)->Heap.SameBut it s.heap h'->Q ((items.toList.drop i).take n) { s with heap:=h' })->wpAny (model prog w) A (draw (.ref it) n) Q E s
 | 0,i,s,Q,hit,_,_,hQ=>by show wpAny _ _ (pure []) Q E s;exact A3 (by simpa using hQ s.heap hit (Heap.SameBut.refl ..))
 | n+1,i,s,Q,hit,ht,hle,hQ=>by
  have hlt:i < items.size:=⋯
  show wpAny _ _ (pyNext (.ref it) >>= _) Q E s;apply A0 (wpAny_pyNext_list_item hit ht (x:=items[i]) (by simp[hlt]) λ h₁ hit₁ hs₁=>?_);apply A0 (K2 (iJ hne n (i+1) _ _ hit₁ (ht.extBut hs₁.extBut hne) ⋯ λ h₂ hit₂ hs₂=>A3 ?_));have hd:items.toList.drop i=items[i] :: items.toList.drop (i+1):=by simp[Jo,hlt]
  have q:=hQ h₂ (by rw[show i+(n+1)=i+1+n by lia];exact hit₂) (hs₁.trans hs₂);rw[hd,List.take_succ_cons]at q;exact q
theorem fS {s:IN} {l:Ko} {items:Kr IS} {Q:Ks IS->IN->Prop} (hh:A.handled=none) (ht:s.heap.IsList l items)
  (hQ:∀h',Heap.ExtBut s.heap.objs.size s.heap h'->Q items.toList { s with heap:=h' }):wpAny (model prog w) A (unpackItems (.ref l) items.size none) Q E s:=by
 have hlt:l≠s.heap.objs.size:=by obtain⟨o,ho,_⟩:=ht;exact C1 (B0 ho)
 have hp:(s.heap.push { cls:=.type "list_iterator",data:=.fields #[.ref l,.int 0 0] }).IsList l items:=by obtain⟨o,ho,r⟩:=ht;exact%[o,A8 _ ho|r]
 unfold unpackItems;apply A0 ?_
 ·unfold notIterableAtAll;apply A0 (wpAny_specialOf ht.typeIs PySem.slot_list_iter.lookup ?_);apply A3 ?_;simp only[Jg,LU];apply A0 (K2 (Lp ht ?_));apply A0 (K2 (iJ hlt items.size 0 _ _ %[_,A9 _ rfl,rfl|rfl] hp ⋯ λ h₁ hit₁ hs₁=>?_));have hall:List.take items.size (List.drop 0 items.toList)=items.toList:=by rw[List.drop_zero];exact JK (by simp)
  rw[hall];rw[Ky (by simp)];have ht₁:h₁.IsList l items:=hp.extBut hs₁.extBut hlt;apply A0 (K2 (wpAny_pyNext_list_end hh hit₁ ht₁ (by simp) λ h₂ he₂=>?_));simp only[Option.isSome_none,Jg,if_false];apply A3 (hQ h₂ λ b o hb e=>he₂ b o hb (hs₁.extBut b o hb (A8 _ e)))
theorem fD {s:IN} {env:Env} {elts:Ks Expr} {x1} {pos:Pos} {l:Ko} {items:Kr IS} {Q:Unit->IN->Prop} (hh:A.handled=none) (ht:s.heap.IsList l items)
  (hn:(assignEach elts env).length=items.size) (hstar:(assignEach elts env).findIdx? (·.1)=none)
  (h:∀h',Heap.ExtBut s.heap.objs.size s.heap h'->wpAny (model prog w) A (assignInOrder ((assignEach elts env).map (·.2)) items.toList) Q E { s with heap:=h' }) :
  wpAny (model prog w) A (assign (.Tuple elts x1 pos) env (.ref l)) Q E s:=by
 rw[assign_Tuple];apply A0 (LM ?_);unfold unpack;rw[hn,hstar];exact A0 (K2 (fS hh ht h))
end
section
variable {X:Cx} {pos:Pos}
def Gg (K:C6) (n:Nat) (t:TGs):TG:=λ v σ H Q=>∃a xs,v=.ref a/\(SqL K H a xs\/SqT K H a xs)/\xs.length=n/\t xs σ H Q
theorem uo {es:Ks Expr} {k:Nat} {t:TGs} {n:Nat} (hc:X.calm=true) (h:PGs X es t)
  (hn:(assignEach es X.env).length=n:=by rfl) (hst:(assignEach es X.env).findIdx? (·.1)=none:=by rfl):PG X (.Tuple es k pos) (Gg X.K n t):=by
 intro Ku s σ H v u Q I r hw;obtain⟨a,xs,e1,hq,hl,hw⟩:=hw;rcases hq with hq | hq
 ·subst e1;cases r;obtain⟨its,rv,ht,hz⟩:=I.list hq;apply fD (I.ok.hd hc) ht.isList (by simp[hn,<- hl,rv.length]) hst λ h' hx=>?_;have I1:Inv X Ku σ H { s with heap:=h' }:=I.kept (t':=s.toks) λ b o e=>hx b o (C1 (B0 e)) e;exact h Ku _ σ H xs _ Q I1 (by simpa using rv) hw
 ·exact bU hc h hn hst Ku s σ H v u Q I r %[a,xs,e1,hq,hl|hw]
end
section
variable {X:Cx}
theorem Inv.turnedN {Ku:Ks (Ko×Obj)} {σ:St} {H:Hp} {s:IN} {h':Heap} {t':Nat} {ch:Ks Ko} (I:Inv X Ku σ H s) (hf:∀b∈ch,cP X Ku H b) (k:∀b o,b∉ch->s.heap.get? b=some o->h'.get? b=some o):Inv X Ku σ H { s with heap:=h',toks:=t' }:=by
 have hLc:X.env.locals∉ch:=λ z=>(hf _ z).2.1 rfl;have nt:∀b u,H b=some u->b∉ch:=λ b u e z=>by rw[(hf b z).1]at e;cases e
 apply I.step (g':=s.gens) (d':=s.drawn) (ch:=ch) (λ b hb=>%[(hf b hb).2.2.2.1,(hf b hb).2.1,(hf b hb).2.2.2.2.1|(hf b hb).2.2.2.2.2]) (λ b o _ _ hc e _=>k b o hc e) (λ b o _ _ hc e _=>%[o.slots|k b o hc e]) (λ _ _ _ _ n=>n)
  (λ b o hc e=>%[o|k b o hc e]) (λ _ _ e=>e) (λ _ _ _ e=>e) (λ b ps e=>%[#[]|by rw[e];simp]) (λ m hm=>?_) (λ b u e=>?_) I.bare
 ·obtain⟨o,es,ep,ho,r⟩:=hm;exact%[o,es,ep,k _ o hLc ho|r]
 ·apply(I.hok b u e).stay (λ c v hc q=>k c v ?_ q) (λ _ q=>q) λ _ _ q=>q;rcases hc with z | z
  ·rw[z];exact nt b u e
  ·exact nt c _ z
theorem Inv.track {Ku:Ks (Ko×Obj)} {σ:St} {H:Hp} {s:IN} {a:Ko} {o:HO} (I:Inv X Ku σ H s) (hf:cP X Ku H a) (fa:X.s₀.heap.objs.size<=a) (new:ObjOk X.prog X.w (upd H a o) s.heap a o):Inv X Ku σ (upd H a o) s:=by
 obtain⟨f0,f1,f2,f3,f4,f5⟩:=hf;have s0:∀b o,X.s₀.heap.get? b=some o->b≠a:=λ b o e=>C1 (C3 (B0 e) fa);apply%[I.ok,I.os,I.bare,%[I.base.keep,I.base.slot,λ b o e n hx=>?_,I.base.there,λ b xs e=>?_,λ b o u e=>?_|λ b ps e=>?_],I.loc,I.cell,?_,λ x c e=>?_,λ p hp=>?_,I.hok.add f0 new|I.len]
 ·rw[ah (s0 b o e)];exact I.base.free b o e n hx
 ·have q:=I.base.tups b xs e;rw[ah (ae q f0)];exact q
 ·have q:=I.base.frzs b o u e;rw[ah (ae q f0)];exact q
 ·obtain⟨more,q⟩:=I.base.tbls b ps e;exact%[more|by rw[ah (ae q f0)];exact q]
 ·rw[ah (Ne.symm f1)];exact I.free
 ·rw[ah (f4 x c e)];exact I.freeC x c e
 ·obtain⟨e,n,r⟩:=I.pin p hp;exact%[e,by rw[ah (f5 p hp)];exact n|r]
end
structure ZipAp (z TI TO i1 i2:Ko):Prop where
 nd:[z,TI,TO,i1,i2].Nodup
end L2
namespace L2
open PySem PySem.Spec PyProof.Rows
def Dn (P:IP) (w:IR) (K:C6) (mg:Str->Kq IS) (base:Heap) (x:Str) (ps:Ks Str) (k:Nat) (sp:Sp):Prop :=
 ∃ (f:Ko) (fd:IQ),FnOk P w K mg base CX0 k f fd ps sp/\Binds K fd ps []/\PySem.W.keepIn K (.ref f)=true/\mg x=↑f
theorem au {X:Cx} {k:Nat} {ps:Ks Str} {sp:Sp} {x:Str} {p pos:Pos} {e:Expr} {es:Ks Expr} {t:TA} (D:Dn X.prog X.w X.K X.mg X.base x ps k sp) (hr:Room k X.A) (hg:Gl X x) (ha:PA X (e :: es) t)
  (hdb:(x == ("__debug__" : Str))=false:=by decide) (he:starEach (e :: es) X.env=(false,eval e X.env) :: starEach es X.env:=by rfl) (hpl:(backTo pos (starEach es X.env)).any (·.1)=false:=by rfl) :
  PE X (.Call (.Name x p) (e :: es) [] pos) (xG sp [] E0 t):=by
 obtain⟨f,fd,F,hb,hk,hm⟩:=D;exact wm F hr hg hm hk hb .nil pO ha hdb he hpl
def pP (sc:Scope) (N:Ks Str) (scope:Scope) (own cs:Ks Str) (cap:Ks Nat):Bool :=
 decide (scope.kind=.function) && scope.names.all (λ y=>decide (y.2≠.cell)) && scope.names.all (λ y=>decide (y.2=.local->scope.names.lookup y.1=some .local)) &&
 scope.names.all (λ y=>decide (y.2=.free->sc.names.lookup y.1=some .cell\/sc.names.lookup y.1=some .free)) && own.all (λ y=>decide (scope.names.lookup y=some .local)) &&
 decide (cs.length=cap.length) && (cs.zip cap).all (λ y=>decide (N[y.2]?=some y.1) && decide ((y.1,NameKind.free)∈scope.names)) && scope.names.all (λ y=>decide (y.2=.free->scope.names.lookup y.1≠some .local))
theorem ay {X:Cx} {sc:Scope} {N:Ks Str} {scope:Scope} {own cs:Ks Str} {cap:Ks Nat} (h1:X.env.scope=sc) (h2:X.N=N) (h:pP sc N scope own cs cap=true):CompOk X scope own cs cap:=by
 subst h1 h2;unfold pP at h;simp only[Ji,KS,LV]at h;obtain⟨⟨⟨⟨⟨⟨⟨a1,a2⟩,a3⟩,a4⟩,a5⟩,a6⟩,a7⟩,a8⟩:=h;apply%[a1,a2,a3,a4,λ i y e=>?_,a5,a6|λ y hy e=>a8 _ hy rfl e];have hi:i < cs.length:=(A7.mp e).1;have hj:i < cap.length:=by rw[<- a6];exact hi
 apply%[cap[i],G2 hj|?_];have hm:(y,cap[i])∈cs.zip cap:=by
  have:(cs.zip cap)[i]?=some (y,cap[i]):=by rw[KJ];exact%[e|G2 hj]
  exact B7 this
 exact a7 _ hm
theorem aF {σ:St} {H:Hp} {A B:Hp->Prop} (h:A H):AH σ H (λ ok H3=>if ok=true then A H3 else B H3):=by show(if (true:Bool)=true then A H else B H);rw[Kz rfl];exact h
section
variable {X:Cx} {tg:Expr}
def yk (K:C6) (tl:TE):TI:=λ σ H R=>tP K tl σ H R\/Ay K tl σ H R
theorem uq {l:Expr} {tl:TE} (hl:PE X l tl):PI X tg l (yk X.K tl):=by
 intro Ku s σ H R I h;rcases h with h | h
 ·exact aW hl Ku s σ H R I h
 ·exact nq hl Ku s σ H R I h
end
def bw:Ks String:=["NoneType","bool","int","str","list","tuple","dict"]
theorem wz {K:C6}:∀T∈bw,PySem.W.kitOne K (.type T) (.type "int")=some (T == "int" || T == "bool"):=by intro T h;simp only[bw,IZ,JQ,LO]at h;rcases h with rfl | rfl | rfl | rfl | rfl | rfl | rfl <;> kernel_rfl
theorem ml {K:C6}:∀T∈bw,PySem.W.kitOne K (.type T) (.type "bool")=some (T == "bool"):=by intro T h;simp only[bw,IZ,JQ,LO]at h;rcases h with rfl | rfl | rfl | rfl | rfl | rfl | rfl <;> kernel_rfl
theorem ur {K:C6}:∀T∈bw,PySem.W.kitOne K (.type T) (.type "list")=some (T == "list"):=by intro T h;simp only[bw,IZ,JQ,LO]at h;rcases h with rfl | rfl | rfl | rfl | rfl | rfl | rfl <;> kernel_rfl
theorem qR {K:C6}:∀T∈bw,PySem.W.kitOne K (.type T) (.type "tuple")=some (T == "tuple"):=by intro T h;simp only[bw,IZ,JQ,LO]at h;rcases h with rfl | rfl | rfl | rfl | rfl | rfl | rfl <;> kernel_rfl
theorem wA {K:C6}:∀T∈bw,PySem.W.kitAny K (.type T) [.type "list",.type "tuple"]=some (T == "list" || T == "tuple"):=by
 intro T h;have h1:=ur (K:=K) T h;have h2:=qR (K:=K) T h;unfold PySem.W.kitAny;rw[h1];cases e:(T == "list")with
 | true=>rfl
 | false=>
  show PySem.W.kitAny K (.type T) [.type "tuple"]=_;unfold PySem.W.kitAny;rw[h2];cases e2:(T == "tuple") <;> rfl
def Ty (K:C6) (H:Hp) (x:V) (T:String):Prop:=T∈bw/\TyOf K H x (.type T)
theorem Ty.int {K:C6} {H:Hp} {i:Int}:Ty K H (.int i) "int" := %[by simp[bw]|.int i]
theorem Ty.bl {K:C6} {H:Hp} {b:Bool}:Ty K H (.bl b) "bool" := %[by simp[bw]|.bl b]
theorem Ty.lst {K:C6} {H:Hp} {a:Ko} {xs:Ks V} (e:H a=↥xs):Ty K H (.ref a) "list" := %[by simp[bw]|.lst e]
theorem Ty.tup {K:C6} {H:Hp} {a:Ko} {xs:Ks V} (e:H a= ~~~xs):Ty K H (.ref a) "tuple" := %[by simp[bw]|.tup e]
def bF:V->Int->Bool
 | .int i,l=>decide (l<=i)
 | _,_=>false
def qS:V->Bool
 | .bl _=>true
 | _=>false
theorem ym {K:C6} {H:Hp} {x:V} {T:String} (t:TyOf K H x (.type T)) (h:T∈bw):(T == "int")=true->∃i,x=.int i:=by
 intro e;have e':T = "int" := by simpa using e
 subst e';generalize hv:Value.type "int" = tv at t;cases t with
 | int i=>exact%[i|Y]
 | _=>exact absurd hv (by simp)
theorem pQ {K:C6} {H:Hp} {x:V} {T:String} (t:TyOf K H x (.type T)):(T == "bool")=qS x:=by
 generalize hv:Value.type T=tv at t;cases t with
 | bl b=>cases hv;rfl
 | non=>cases hv;rfl
 | int i=>cases hv;rfl
 | str i=>cases hv;rfl
 | flt i=>cases hv;rfl
 | lst i=>cases hv;rfl
 | frz i=>cases hv;rfl
 | tup i=>cases hv;rfl
 | dK i=>cases hv;rfl
 | dT i=>cases hv;rfl
 | ext i _=>cases hv;rfl
 | ins=>cases hv
end L2
local macro_rules|`($a ^^^ $b)=>`(@L2.aa _ _ _ _ _ $a $b rfl)
local macro_rules|`($a<<<$b)=>`(@L2.af _ _ _ _ _ $a $b)
local macro_rules|`($a>>>$b)=>`(@L2.af _ _ _ _ _ $a (@L2.ag _ _ _ $b))
local macro_rules|`($a⁻¹)=>`(@L2.ag _ _ _ (@L2.ao _ _ _ _ $a))
local macro_rules|`($a∩$b)=>`(@L2.au _ _ _ _ _ _ _ _ _ _ $a (($(Lean.mkIdent `hr)).mono ∅) rfl $b ∅ rfl rfl)
local macro_rules|`($a∪$b)=>`(@L2.au _ _ _ _ _ _ _ _ _ _ $a $(Lean.mkIdent `hr) rfl $b ∅ rfl rfl)
local macro_rules|`($a∣$b)=>`(@L2.aV _ _ $a _ _ _ _ $(Lean.mkIdent `nd) rfl (Or.inl rfl) $b rfl (Or.inl rfl))
local macro_rules|`($a&&&$o&&&$b)=>`(@L2.bf _ _ _ _ _ _ _ $o $a $b (fun _ _=>rfl))
local macro_rules|`($a|||$o|||$b)=>`(@L2.az _ _ _ _ _ _ _ _ $o $a $b)
local macro_rules|`($a•$b)=>`(L2.am (L2.aj (i:=$a) $(Lean.mkIdent `nd) rfl (Or.inl rfl)) $b)
local macro_rules|`($a<*>$o<*>$b)=>`(@L2.aO _ _ _ _ _ _ _ _ $o $a $b (L2.aJ _))
local macro_rules|`($a<|>$b<|>$c)=>`(@L2.aZ _ _ _ _ _ _ _ _ $a $b $c)
namespace Pc
open PySem L2
structure Pot (a b:Int):Prop where
 a0:0<=a
 b0:0<=b
 b1:b < 2147483629
def But (p:Ko) (H H':Hp):Prop:=∀b o,b≠p->H b=some o->H' b=some o
theorem But.trans {p:Ko} {H H1 H2:Hp} (a:But p H H1) (b:But p H1 H2):But p H H2:=λ c o n e=>b c o n (a c o n e)
theorem But.upd {p:Ko} {H:Hp} {o:HO}:But p H (upd H p o):=λ b u n e=>by rw[ah n];exact e
theorem But.new {p q:Ko} {H:Hp} {o:HO} (h:H q=none):But p H (L2.upd H q o):=λ b u n e=>by rw[ah (ae e h)];exact e
structure Kd where
 w:Int
 h:Int
 wo:Int
 wa:Int
 tu:Bool
def kdV (k:Kd):Ks V:=[.int k.w,.int k.h,.int k.wo,.int k.wa,.bl k.tu]
structure Good (k:Kd):Prop where
 w:1<=k.w
 h:1<=k.h
 wo:0<=k.wo
 wa:0<=k.wa
 w':k.w < 10 ^ 60
 h':k.h < 10 ^ 60
 wo':k.wo < 10 ^ 60
 wa':k.wa < 10 ^ 60
def xJ (H:Hp) (v:V) (k:Kd):Prop:=∃a,v=.ref a/\H a= ~~~(kdV k)
def AI (H:Hp) (v:V) (k:Kd):Prop:=∃a,v=.ref a/\H a=↥(kdV k)
def RowAt (H:Hp) (v:V) (k:Kd):Prop:=xJ H v k\/AI H v k
abbrev Tups (H:Hp):Ks V->Ks Kd->Prop:=Paired (xJ H)
theorem Tups.keep {H H':Hp} (k:∀b xs,H b= ~~~xs->H' b= ~~~xs):∀ {xs:Ks V} {ks:Ks Kd},Tups H xs ks->Tups H' xs ks:=λ r=>
 IW r λ v kd %[a,e|h]=>%[a,e|k a _ h]
structure ToldAt (H:Hp) (t l:Ko) (bl:Int) (xs:Ks V) (ks:Ks Kd):Prop where
 t:H t= ~~~[.int bl,.ref l]
 l:H l=↥xs
 r:Tups H xs ks
 b0:0<=bl
 b1:bl < 10 ^ 60
 g:∀k∈ks,Good k
 n0:1<=xs.length
 n1:xs.length<=8
def dU (K:C6):Sp:=λ vs H Q _=>∃ (x:V) (T:String) (l:Int),vs=[x,.int l]/\Ty K H x T/\Q (.bl (bF x l)) H
def gY (K:C6):Sp:=λ vs H Q _=>∃ (x:V) (T:String),vs=[x]/\Ty K H x T/\Q (.bl (qS x)) H
def pR (K:C6):Sp:=λ vs H Q _=>∃ (x:V) (T:String),vs=[x]/\Ty K H x T/\∀H',Same H H'->Q (.bl (T == "list" || T == "tuple")) H'
def jO:Ks V->Bool
 | [w,h,wo,wa,tu]=>bF w 1 && bF h 1 && bF wo 0 && bF wa 0 && qS tu
 | _=>false
def fT (K:C6):Sp:=λ vs H Q _=>∃ (x:V) (T:String),vs=[x]/\Ty K H x T /\ 
 ((T ≠ "list" /\ T ≠ "tuple" /\ ∀H',Same H H'->Q (.bl false) H')\/∃ (a:Ko) (xs:Ks V),x=.ref a/\(H a=↥xs\/H a= ~~~xs)/\(∀y∈xs,∃U,Ty K H y U)/\∀H',Same H H'->Q (.bl (jO xs)) H')
theorem iK {k:Kd} (g:Good k):jO (kdV k)=true:=by
 show(decide (1<=k.w) && decide (1<=k.h) && decide (0<=k.wo) && decide (0<=k.wa) && true)=true;rw[K1 g.w,K1 g.h,K1 g.wo,K1 g.wa]
 rfl
theorem Ty.same {K:C6} {H H':Hp} {x:V} {T:String} (s:Same H H') (t:Ty K H x T):Ty K H' x T:=by
 apply%[t.1|?_];have t2:=t.2;generalize hv:Value.type T=tv at t2 ⊢;cases t2 with
 | non=>exact .non
 | bl b=>exact .bl b
 | int b=>exact .int b
 | str b=>exact .str b
 | flt b=>exact .flt b
 | lst e=>exact .lst (s _ _ e)
 | frz e=>exact .frz (s _ _ e)
 | tup e=>exact .tup (s _ _ e)
 | dK e=>exact .dK (s _ _ e)
 | dT e=>exact .dT (s _ _ e)
 | ext e c=>exact .ext (s _ _ e) c
 | ins=>cases hv
end Pc
namespace L2
open PySem PySem.Spec PyProof.Rows
def ut (K:C6):Ks V->Hp->VK->Prop:=λ xs H Q=>∃p ys,xs=[V.ref p]/\((SqL K H p ys/\∀l,H l=none->Q (.ref l) (upd H l (.tup ys)))\/(SqT K H p ys/\Q (.ref p) H))
theorem uv {K:C6} {j:Nat} {a:Ko} {xs:Ks V} {g:TG} {tb:TS} {D:Ends} {σ:St} {H:Hp} (hσ:σ[j]?=some (↑a)) (hs:H a=↥xs\/H a= ~~~xs) (Pv:Nat->St->Hp->Prop) (h0:Pv 0 σ H)
  (hk:∀i σ H',i<=xs.length->Pv i σ H'->∀o,H a=some o->H' a=some o)
  (ht:∀i x σ H,xs[i]?=some x->Pv i σ H->g x σ H λ σ2 H2=>tb { D with nx:=Pv (i+1),ct:=Pv (i+1),bk:=D.nx } σ2 H2) (hd:∀σ H,Pv xs.length σ H->D.nx σ H):AB (yk K (tVar j)) g tb D σ H:=by
 rcases hs with z | z
 ·exact .inl %[_,hσ,a,Y,%[xs|IV z]|cr (xs:=xs) Pv h0 (λ i σ H' hi p=>IV (hk i σ H' hi p _ z)) ht hd]
 ·exact .inr %[_,hσ,a,Y,%[xs|IU z]|wd (xs:=xs) Pv h0 (λ i σ H' hi p=>IU (hk i σ H' hi p _ z)) ht hd]
def Nx (n:Nat) (Pv:Nat->Ks V->Hp->Prop) (i:Nat) (ys:Ks V) (H:Hp):Prop:=∃m',m' < n - i/\m'=n - (i+1)/\i+1<=n/\Pv (i+1) ys H
theorem Nx.of {n:Nat} {Pv:Nat->Ks V->Hp->Prop} {i:Nat} {ys:Ks V} {H:Hp} (h:i < n) (p:Pv (i+1) ys H):Nx n Pv i ys H:=%[n - (i+1),⋯,Y,h|p]
theorem bA {K:C6} {a:Ko} {xs:Ks V} {σ:St} {cap:Ks Nat} {k:Nat} {g:TG} {tt:TT} {te:TE} {Q:Ks V->Hp->Prop} {H:Hp} (hs:H a=↥xs\/H a= ~~~xs) (Pv:Nat->Ks V->Hp->Prop)
  (hk:∀i ys H',i<=xs.length->Pv i ys H'->∀o,H a=some o->H' a=some o) (h0:Pv 0 [] H)
  (ht:∀i x ys H',xs[i]?=some x->Pv i ys H'->ys.length < sizeLine/\g x (aA σ cap k) H' λ σ2 H2=>leS (aA σ cap k) σ2/\tt σ2 H2 λ ok H3=>if ok=true then te σ2 H3 (λ v H4=>Nx xs.length Pv i (ys ++ [v]) H4)else Nx xs.length Pv i ys H3)
  (hd:∀ys H',Pv xs.length ys H'->ys.length<=sizeLine/\Q ys H') :
  (H a=↥xs->∃W,(∃m,W 0 m [] H)/\cX σ cap k (Itl K a) g tt te Q W)/\(H a= ~~~xs->∃W,(∃m,W 0 m [] H)/\cX σ cap k (Itt K a) g tt te Q W):=by
 apply%[λ z=>%[λ i m ys H'=>m=xs.length - i/\i<=xs.length/\Pv i ys H',%[_,Y,G0 _|h0]|?_]|λ z=>%[λ i m ys H'=>m=xs.length - i/\i<=xs.length/\Pv i ys H',%[_,Y,G0 _|h0]|?_]]
 ·rintro i m ys H' ⟨rfl,hi,p⟩;have z':=hk i ys H' hi p _ z
  by_cases hin:i < xs.length
  ·obtain⟨e,hg⟩:=ht i xs[i] ys H' (by simp[hin]) p;apply .inr %[%[xs,xs[i],IV z'|by simp[hin]],e|λ x H2 yl=>?_];obtain⟨e1,e2⟩:=yl;have e3:=e2 xs (IV z');have e4:x=xs[i]:=by simpa[hin]using e3.symm
   subst e1 e4;exact hg
  ·have e:i=xs.length:=⋯
   subst e;obtain⟨a1,a2⟩:=hd ys H' p;exact .inl %[%[xs,IV z'|B4 _],a1|a2]
 ·rintro i m ys H' ⟨rfl,hi,p⟩;have z':=hk i ys H' hi p _ z
  by_cases hin:i < xs.length
  ·obtain⟨e,hg⟩:=ht i xs[i] ys H' (by simp[hin]) p;apply .inr %[%[xs,xs[i],IU z'|by simp[hin]],e|λ x H2 yl=>?_];obtain⟨e1,e2⟩:=yl;have e3:=e2 xs (IU z');have e4:x=xs[i]:=by simpa[hin]using e3.symm
   subst e1 e4;exact hg
  ·have e:i=xs.length:=⋯
   subst e;obtain⟨a1,a2⟩:=hd ys H' p;exact .inl %[%[xs,IU z'|B4 _],a1|a2]
theorem qU {K:C6} {j:Nat} {a:Ko} {xs:Ks V} {σ:St} {cap:Ks Nat} {k:Nat} {g:TG} {tt:TT} {te:TE} {Q:VK} {H:Hp} (hσ:σ[j]?=some (↑a)) (hs:H a=↥xs\/H a= ~~~xs) (Pv:Nat->Ks V->Hp->Prop)
  (hk:∀i ys H',i<=xs.length->Pv i ys H'->∀o,H a=some o->H' a=some o) (h0:Pv 0 [] H)
  (ht:∀i x ys H',xs[i]?=some x->Pv i ys H'->ys.length < sizeLine/\g x (aA σ cap k) H' λ σ2 H2=>leS (aA σ cap k) σ2/\tt σ2 H2 λ ok H3=>if ok=true then te σ2 H3 (λ v H4=>Nx xs.length Pv i (ys ++ [v]) H4)else Nx xs.length Pv i ys H3)
  (hd:∀ys H',Pv xs.length ys H'->ys.length<=sizeLine/\∀p,H' p=none->Q (.ref p) (upd H' p (.lst ys))):mj (yk K (tVar j)) cap k g tt te σ H Q:=by
 obtain⟨c1,c2⟩:=bA (K:=K) (σ:=σ) (cap:=cap) (k:=k) (g:=g) (tt:=tt) (te:=te) hs Pv hk h0 ht hd;rcases hs with z | z
 ·exact .inl %[_,hσ,a,Y,%[xs|IV z]|c1 z]
 ·exact .inr %[_,hσ,a,Y,%[xs|IU z]|c2 z]
end L2
namespace Pc
open PySem L2
def nH (b:Int) (r:Ko):Ks (Str×V):=dj "kind_rows" (.ref r) (dj "blade_width" (.int b) [])
theorem kbw:¬ (("blade_width" : Str) = "kind_rows"):=∅
theorem nI (b:Int) (r:Ko):(nH b r).lookup ("blade_width" : Str)=⇑b:=by unfold nH;rw[bH,Ky kbw,bH,Kz rfl]
theorem dE (b:Int) (r:Ko):(nH b r).lookup ("kind_rows" : Str)=↑r:=by unfold nH;rw[bH,Kz rfl]
theorem dW (b:Int) (r:Ko) {m:Str} (h1:¬ m = "kind_rows") (h2:¬ m = "blade_width"):(nH b r).lookup m=none:=by
 unfold nH;rw[bH,Ky h1,bH,Ky h2]
 all_goals rfl
def ShopAt (C:Ko) (H:Hp) (x:Ko) (b:Int) (ks:Ks Kd):Prop:=∃dx r rs,H x=some (.ins C dx (nH b r))/\H r= ~~~rs/\Tups H rs ks
theorem ShopAt.keep {C:Ko} {H H':Hp} {x:Ko} {b:Int} {ks:Ks Kd} (s:ShopAt C H x b ks) (k1:∀b xs,H b= ~~~xs->H' b= ~~~xs) (k2:∀b C dx fs,H b=some (.ins C dx fs)->H' b=some (.ins C dx fs)):ShopAt C H' x b ks:=by obtain⟨dx,r,rs,h1,h2,h3⟩:=s;exact%[dx,r,rs,k2 _ _ _ _ h1,k1 _ _ h2|Tups.keep k1 h3]
def nJ (C:Ko):Sp:=λ vs H Q _=>∃ (x dx ks:Ko) (b:Int) (rs:Ks V) (kds:Ks Kd),vs=[.ref x,.int b,.ref ks]/\H x=some (.ins C dx [])/\0<=b/\(H ks=↥rs\/H ks= ~~~rs)/\Paired (RowAt H) rs kds/\(∀k∈kds,Good k)/\1<=rs.length/\rs.length<=8 /\
 ∀H':Hp,ShopAt C H' x b kds->(∀c o,c≠x->H c=some o->H' c=some o)->Q .non H'
def kU (C:Ko):Sp:=λ vs H Q _=>∃ (x:Ko) (b:Int) (ks:Ks Kd),vs=[.ref x]/\ShopAt C H x b ks/\Q (.int b) H
theorem pS {K:C6} {H:Hp} {k:Kd}:∀y∈kdV k,∃U,Ty K H y U:=by
 intro y hy;simp only[kdV,IZ,JQ,LO]at hy;rcases hy with rfl | rfl | rfl | rfl | rfl
 ·exact%[_|.int]
 ·exact%[_|.int]
 ·exact%[_|.int]
 ·exact%[_|.int]
 ·exact%[_|.bl]
theorem Paired.getR {α β:Type} {F:α->β->Prop}:∀ {l₁:Ks α} {l₂:Ks β} {i:Nat} {x:α},Paired F l₁ l₂->l₁[i]?=some x->∃y,l₂[i]?=some y/\F x y
 | _,_,_,_,.nil,e=>by simp at e
 | _,_,0,_,.cons h _,e=>by simp at e;subst e;exact%[_,Y|h]
 | _,_,i+1,x,.cons _ t,e=>by obtain⟨y,h1,h2⟩:=Paired.getR (i:=i) (x:=x) t (by simpa using e);exact%[y,by simpa using h1|h2]
abbrev IX:=@Paired.getR
theorem RowAt.same {H H':Hp} {v:V} {k:Kd} (s:Same H H') (r:RowAt H v k):RowAt H' v k:=by
 rcases r with⟨a,e,h⟩ | ⟨a,e,h⟩
 ·exact .inl %[a,e|s _ _ h]
 ·exact .inr %[a,e|s _ _ h]
theorem qV {K:C6} {H:Hp} {v:V} {k:Kd} {Q:VK} {E:XK} (r:RowAt H v k) (g:Good k) (q:∀H',Same H H'->Q (.bl true) H'):fT K [v] H Q E:=by
 rcases r with⟨a,rfl,h⟩ | ⟨a,rfl,h⟩
 ·exact%[_,_,Y,.tup h|.inr %[a,_,Y,.inr h,pS|λ H' s=>by rw[iK g];exact q H' s]]
 ·exact%[_,_,Y,.lst h|.inr %[a,_,Y,.inl h,pS|λ H' s=>by rw[iK g];exact q H' s]]
structure ShopTxt (K:C6) (C:Ko):Prop where
 cl:Cls K C
 nB:NoAttr K C "blade_width"
 nK:NoAttr K C "kind_rows"
end Pc
namespace L2
open PySem PySem.Spec PyProof.Rows
def Mn (P:IP) (w:IR) (K:C6) (mg:Str->Kq IS) (base:Heap) (C:Ko) (m:Str) (ps:Ks Str) (k:Nat) (sp:Sp):Prop :=
 ∃ (f:Ko) (fd:IQ),FnOk P w K mg base CX0 k f fd ps sp/\Binds K fd ps []/\Meth K C m f
theorem kW {X:Cx} {k:Nat} {C:Ko} {ps:Ks Str} {sp:Sp} {m:Str} {o:Expr} {ta:TE} {apos pos:Pos} {pl:Sem Bool} (he:PE X o ta) (c:Cls X.K C) (D:Mn X.prog X.w X.K X.mg X.base C m ps k sp) (hr:Room k X.A)
  (ht:eval (.Call (.Attribute o m apos) [] [] pos) X.env=(do
   let ov<-eval o X.env
   standAt apos.atName
   let (f,first)<-holding [ov] (getMethod ov m pl)
   callWith pos f first (backTo pos (starEach [] X.env)) (backToKw pos (keywordEach [] X.env))):=by rfl):PE X (.Call (.Attribute o m apos) [] [] pos) (pJ C m sp [] E0 ta qL):=by
 obtain⟨f,fd,F,hb,hm⟩:=D;exact tV he c hm F hr hb .nil pO ht
def Kn (P:IP) (w:IR) (K:C6) (mg:Str->Kq IS) (base:Heap) (x:Str) (C:Ko) (ps:Ks Str) (k:Nat) (sp:Sp):Prop :=
 ∃ (f:Ko) (fd:IQ),Mk K C f/\FnOk P w K mg base CX0 k f fd ps sp/\Binds K fd ps []/\mg x=↑C
theorem AJ {X:Cx} {k:Nat} {C:Ko} {ps:Ks Str} {sp:Sp} {x:Str} {p pos:Pos} {e:Expr} {es:Ks Expr} {t:TA} (D:Kn X.prog X.w X.K X.mg X.base x C ps k sp) (hr:Room (k+1) X.A) (hg:Gl X x) (ha:PA X (e :: es) t)
  (hdb:(x == ("__debug__" : Str))=false:=by decide) (he:starEach (e :: es) X.env=(false,eval e X.env) :: starEach es X.env:=by rfl) (hpl:(backTo pos (starEach es X.env)).any (·.1)=false:=by rfl) :
  PE X (.Call (.Name x p) (e :: es) [] pos) (xH C sp [] E0 t):=by
 obtain⟨f,fd,M,F,hb,hm⟩:=D;exact wr M F hr hg hm hb .nil pO ha hdb he hpl
theorem jP (xs:Ks V) (k:Nat):gR xs none (some (k:Int))=xs.take k:=by
 unfold gR;rw[HT.sIx_none,HT.sIx_nat];simp only[List.drop_zero,Nat.sub_zero];rcases Nat.le_total k xs.length with h | h
 ·rw[Nat.min_eq_left h]
 ·rw[Nat.min_eq_right h,JK (B4 _),JK h]
end L2
namespace Pc
open PySem L2
theorem Paired.app {α β:Type} {F:α->β->Prop}:∀ {l₁ m₁:Ks α} {l₂ m₂:Ks β},Paired F l₁ l₂->Paired F m₁ m₂->Paired F (l₁ ++ m₁) (l₂ ++ m₂)
 | _,_,_,_,.nil,s=>s
 | _,_,_,_,.cons r t,s=>.cons r (Paired.app t s)
theorem Paired.takeP {α β:Type} {F:α->β->Prop}:∀ {l₁:Ks α} {l₂:Ks β} (n:Nat),Paired F l₁ l₂->Paired F (l₁.take n) (l₂.take n)
 | _,_,0,_=>.nil
 | _,_,_+1,.nil=>.nil
 | _,_,n+1,.cons r t=>.cons r (Paired.takeP n t)
theorem Same.but {p:Ko} {H H':Hp} (s:Same H H'):But p H H':=λ b o _ e=>s b o e
theorem Same.new {q:Ko} {H:Hp} {o:HO} (h:H q=none):Same H (upd H q o):=λ b u e=>by rw[ah (ae e h)];exact e
abbrev IT:=@Same.new
end Pc
namespace PySem
open Sem (wp)
open AutoSeq1 (wpAny_loadPart')
section
variable {prog:IP} {w:IR} {A:Around} {E:IS->IN->Prop} {s:IN}
theorem eB {it t:Ko} {i:Nat} {items} {x:IS} {Q:IS->IN->Prop} (hit:s.heap.IsTupleIter it t i)
  (ht:s.heap.IsTuple t items) (hx:items[i]?=some x)
  (hQ:∀h',h'.IsTupleIter it t (i+1)->Heap.SameBut it s.heap h'->Q x { s with heap:=h' }) :
  wpAny (model prog w) A (Builtin.SmallTypes.nextOf (.ref it)) Q E s:=by
 obtain⟨o,ho,hc,hd⟩:=id hit;obtain⟨ol,hol,_,nl,hdl⟩:=ht;unfold Builtin.SmallTypes.nextOf;apply A0 (wpAny_callSpecial?_slot (name:=Str.ofString "__next__") hit.typeIs F.slot_tuple_iterator_next
  (G9 F.slot_tuple_iterator_next hit.typeIs F.entry_tuple_iterator_next ?_ (F.args_tuple_iterator_next_1 _)))
 show wpAny _ _ (field (.ref it) 0 >>= _) _ _ s;apply A0 (LH ho hd (x:=.ref t) rfl ?_);show wpAny _ _ (if (Value.ref t == Value.none)=true then _ else _) _ _ s;rw[Ky (show¬ ((Value.ref t == Value.none)=true)from B3)];show wpAny _ _ (field (.ref it) 1 >>= _) _ _ s;apply A0 (LH ho hd (x:=.int i 0) rfl ?_);show wpAny _ _ (seqItems? (.ref t) >>= _) _ _ s;apply A0 (wpAny_seqItems hol hdl ?_);simp only[Ja,hx];apply A0 (wpAny_setField ho hd (by simp) (A3 %[x,rfl|A3 (hQ _ ?_ (K4 ..))]));exact⟨_,LF _ ho (Obj.isFreed_of_fields (Obj.data_mapFields hd _)),(Obj.cls_mapFields ..).trans hc,by
  rw[Obj.data_mapFields hd];simp[rawInt]⟩
theorem cY {it t:Ko} {i:Nat} {items} {Q:IS->IN->Prop} (hh:A.handled=none)
  (hit:s.heap.IsTupleIter it t i) (ht:s.heap.IsTuple t items) (hx:items[i]?=none)
  (hE:∀h' e,Heap.ExtBut it s.heap h'->(∃o,h'.get? e=some o/\o.cls=.type "StopIteration")->E (.ref e) { s with heap:=h' }) :
  wpAny (model prog w) A (Builtin.SmallTypes.nextOf (.ref it)) Q E s:=by
 obtain⟨o,ho,hc,hd⟩:=id hit;obtain⟨ol,hol,_,nl,hdl⟩:=ht;unfold Builtin.SmallTypes.nextOf;apply A0 (wpAny_callSpecial?_slot (name:=Str.ofString "__next__") hit.typeIs F.slot_tuple_iterator_next
  (G9 F.slot_tuple_iterator_next hit.typeIs F.entry_tuple_iterator_next ?_ (F.args_tuple_iterator_next_1 _)))
 show wpAny _ _ (field (.ref it) 0 >>= _) _ _ s;apply A0 (LH ho hd (x:=.ref t) rfl ?_);show wpAny _ _ (if (Value.ref t == Value.none)=true then _ else _) _ _ s;rw[Ky (show¬ ((Value.ref t == Value.none)=true)from B3)];show wpAny _ _ (field (.ref it) 1 >>= _) _ _ s;apply A0 (LH ho hd (x:=.int i 0) rfl ?_);show wpAny _ _ (seqItems? (.ref t) >>= _) _ _ s;apply A0 (wpAny_seqItems hol hdl ?_);simp only[Ja,hx];apply A0 (LS (A0 (wpAny_setField ho hd (by simp) ?_)));show wpAny _ _ (newExc (.type "StopIteration") [] >>= _) _ _ _;apply A0 ?_;simp only[newExc,newTuple];apply A0 (IL ?_ (by size_fits));apply A0 (m:=firstArgMember _ _) (wpAny_of_eq (a:=Value.none) (by first | rfl | (simp only[firstArgMember];rfl)) ?_);apply IL ?_ (by size_fits);simp only[raiseNew];apply A0 (wpAny_handled ?_)
 first | rw[show A.in1.handled=none from hh] | rw[hh]
 apply A0 (A3 (wpAny_throw ?_));exact hE _ _ (((K4 ..).extBut.push _).push _) %[_,A9 _ rfl|rfl]
end
theorem uw {prog:IP} {w:IR} {A:Around} (hh:A.handled=none) (it l:Ko) (hne:l≠it) (items:Kr IS) :
  Draws prog w A it [it,l] items.size (λ i v=>items[i]?=some v) (λ i h=>h.IsTupleIter it l i/\h.IsTuple l items) where
 live:=λ _ _ st=>let ⟨o,ho,_⟩:=st.1;%[o|ho]
 frame:=λ _ _ _ st hk=>%[st.1.at λ o e=>hk it (by simp) o e|let ⟨o,ho,r⟩:=st.2;%[o,hk l (by simp) o ho|r]]
 item:=λ i s Q E hi st hQ=>by apply eB st.1 st.2 (x:=items[i]) (by simp[hi]) λ h' hit' hs'=>?_;exact hQ _ h' s.toks (by simp[hi]) %[hit'|st.2.extBut hs'.extBut hne] hs'
 done:=λ s Q E st hE=>cY hh st.1 st.2 (by simp) hE
theorem iL (l:Ko) (items:Kr IS) (n:Nat) (dct:Kq Ko) (sl:Kr (Kq IS)) :
  Meets (Builtin.«enumerate.__new__» %[[.type "enumerate",.ref l]|[]]) (λ _ R s=>s.heap.get? l=some { cls:=.type "tuple",dict:=dct,data:=.seq items n,slots:=sl } /\
   R (.ok (.ret (.ref (s.heap.push { cls:=.type "tuple_iterator",data:=.fields #[.ref l,.int 0 0] }).objs.size)))
    { s with heap:=(s.heap.push { cls:=.type "tuple_iterator",data:=.fields #[.ref l,.int 0 0] }).push { cls:=.type "enumerate",data:=.fields #[.none,.bool false,.ref s.heap.objs.size,rawInt 0,.none,.none] } }) :=
 .of_wp λ prog w A R s h=>by
  obtain⟨hp,g,d,tk,os⟩:=s;obtain⟨hl,h⟩:=h;have hsub:=sub_enumerate;have hL:Heap.IsTuple (Shared.heap %[hp,g,d,tk|os]) l items:=%[_,hl,Y,n|Y]
  wp_walk using Le hl
  apply wpAny_stack_any λ st=>A3 ?_
  split
  ·rename_i c _ _ _ _ _
   cases(c == Value.type "enumerate")
   ·wp_walk using Le hl,Lk hL
    exact%[_,Y|h]
   ·wp_walk using Le hl,Lk hL
    exact%[_,Y|h]
  ·wp_walk using Le hl,Lk hL
   exact%[_,Y|h]
section
variable {prog:IP} {w:IR} {A:Around} {E:IS->IN->Prop} {s:IN}
theorem fE {l:Ko} {items:Kr IS} {Q:IS->IN->Prop} (hL:s.heap.IsTuple l items)
  (h:∀h',IsEnum h' (s.heap.objs.size+1) s.heap.objs.size 0 .none->h'.IsTupleIter s.heap.objs.size l 0->h'.objs.size=s.heap.objs.size+2 ->
   (∀b o,s.heap.get? b=some o->h'.get? b=some o)->Q (.ref (s.heap.objs.size+1)) { s with heap:=h' }) :
  wpAny (model prog w) A (call (.type "enumerate") [.ref l]) Q E s:=by
 obtain⟨⟨c,dct,dt,sl⟩,hl,hc,n,hd⟩:=hL
 replace hc:c=.type "tuple" := hc
 replace hd:dt=.seq items n:=hd
 subst hc hd;apply callType_new F.called_enumerate ∅ (F.typeCall_enumerate_1 _) (F.newCall_enumerate_1 _) (λ obj=>F.args_object_init_2 obj _) F.entry_enumerate_new
  (iL l items n dct sl) %[hl|?_]
 have hz:(s.heap.push { cls:=.type "tuple_iterator",data:=.fields #[.ref l,.int 0 0] }).objs.size=s.heap.objs.size+1:=K3 ..;show _/\_;rw[hz];have he:IsEnum ((s.heap.push { cls:=.type "tuple_iterator",data:=.fields #[.ref l,.int 0 0] }).push
   { cls:=.type "enumerate",data:=.fields #[.none,.bool false,.ref s.heap.objs.size,rawInt 0,.none,.none] }) (s.heap.objs.size+1) s.heap.objs.size 0 .none:=by
  have:=A9 (s.heap.push { cls:=.type "tuple_iterator",data:=.fields #[.ref l,.int 0 0] })
   (o:={ cls:=.type "enumerate",data:=.fields #[.none,.bool false,.ref s.heap.objs.size,rawInt 0,.none,.none] }) rfl
  rw[hz]at this;exact this
 apply%[%[_,he|Y]|h _ he %[_,A8 _ (A9 _ rfl),Y|Y] (by rw[K3,hz]) λ b o x=>A8 _ (A8 _ x)]
end
end PySem
namespace L2
open PySem PySem.Spec PyProof.Rows
def Ite (f:Ks V->HO) (l:Ko):It :=
  ⟨λ i H=>∃xs x,H l=some (f xs)/\xs[i]?=some x,
   λ i H v H'=>∃p xs x,H p=none/\v=.ref p/\H'=upd H p (.tup [.int i,x])/\H l=some (f xs)/\xs[i]?=some x,
   λ i H=>∃xs,H l=some (f xs)/\xs.length<=i⟩
section
variable {X:Cx} {Ku:Ks (Ko×Obj)} {σ:St} {H:Hp} {s:IN}
theorem jQ {f:Ks V->HO} {tn:Nat->Heap->Prop} {es:Ks Expr} {kk:Nat} {tp:Pos} {e it l:Ko} {i:Nat} {xs:Ks V} {x:V} {u:IS} {tk:Nat} {h':Heap} {E:IS->IN->Prop} (hne:e≠it) (I:Inv X Ku σ H s) (hf:∀b∈[e,it],cP X Ku H b) (hl:H l=some (f xs)) (hx:xs[i]?=some x)
  (ho:∀b∈[e,it],b < s.heap.objs.size) (r:RelV x u) (b1:IsEnumOut h' e it ((i:Int)+1) u s.heap.objs.size) (b3:h'.get? s.heap.objs.size=some { cls:=.type "tuple",data:=.seq #[.int i tk,u] })
  (bk:∀b o,b≠e->b≠it->s.heap.get? b=some o->h'.get? b=some o) (hn:∀h'',IsEnum h'' e it ((i+1:Nat):Int) u->Heap.SameBut e h' h''->tn (i+1) h'') :
  wpAny (model X.prog X.w) X.A (letOwnedTupleGo (.Tuple es kk tp) (.ref e) (.ref s.heap.objs.size)) (λ _ s2=>∃x H',Inv X Ku σ H' s2/\RelV x (.ref s.heap.objs.size)/\(Ite f l).yld i H x H'/\tn (i+1) s2.heap/\∀b∈[e,it],H' b=none) E { s with heap:=h',toks:=tk+1 }:=by
 apply wpAny_letOwnedTupleGo_enum b1 λ h'' c1 cs=>?_;have es':e < s.heap.objs.size:=ho e (by simp);have k2:∀b o,b∉[e,it]->s.heap.get? b=some o->h''.get? b=some o:=λ b o hb q=>by simp only[IZ,JQ,LO,not_or]at hb;exact cs.extBut b o hb.1 (bk b o hb.1 hb.2 q)
 have I1:Inv X Ku σ H { s with heap:=h'',toks:=tk+1 }:=I.turnedN (t':=tk+1) hf k2;have hp:h''.get? s.heap.objs.size=some { cls:=.type "tuple",data:=.seq #[.int i tk,u] }:=cs.extBut _ _ (JW es') b3;have hn0:H s.heap.objs.size=none:=I.hok.fresh (B4 _);have fpk:=I.fpOk (H':=H) (B4 _) hn0;have I2:Inv X Ku σ (upd H s.heap.objs.size (.tup [.int i,x])) { s with heap:=h'',toks:=tk+1 }:=I1.track fpk I.sz %[by show 2<=sizeLine;decide,[.int i tk,u],.cons %[tk|Y] (.cons r .nil),_,hp,Y,_|Y];apply%[.ref s.heap.objs.size,_,I2,Y,%[_,xs,x,hn0,Y,Y,hl|hx],hn h'' c1 cs|λ b hb=>?_];rw[ah (C1 (ho b hb))];exact(hf b hb).1
end
theorem nL {P:IP} {w:IR} {K:C6} {es:Ks Expr} {kk:Nat} {tp:Pos} (l e it:Ko) (hne:e≠it) :
  Turn P w K (.Tuple es kk tp) (Ite .lst l) [e,it] e (λ i h=>(∃old,IsEnum h e it i old)/\h.IsListIter it l i) where
 mem:=by simp
 obj:=λ i h st b hb=>by
  obtain⟨⟨old,a1⟩,⟨o2,a2,_,d2⟩⟩:=st;simp only[IZ,JQ,LO]at hb;rcases hb with rfl | rfl
  ·exact%[_,a1|λ v q=>by cases q]
  ·exact%[_,a2|λ v q=>by rw[d2]at q;cases q]
 keep:=λ i h h' st k=>by obtain⟨⟨old,a1⟩,a2⟩:=st;exact%[%[old|k e (by simp) _ a1]|a2.at λ o q=>k it (by simp) o q]
 item:=by
  intro X hP hw hK hc i Ku s σ H E I hf st hg;subst hP hw hK;obtain⟨⟨old,a1⟩,a2⟩:=st;obtain⟨xs,x,e1,ex⟩:=hg;obtain⟨its,rv,p1,_⟩:=I.list (IV e1);obtain⟨u,hu,r⟩:=rv.get ex;have ho:∀b∈[e,it],b < s.heap.objs.size:=λ b hb=>by
   obtain⟨o2,a2',_⟩:=a2;simp only[IZ,JQ,LO]at hb;rcases hb with rfl | rfl
   ·exact B0 a1
   ·exact B0 a2'
  apply wpAny_pyNext_enum_item a1 a2 p1.isList (x:=u) (by simpa using hu) hne λ h' b1 b2 b3 b4 bk=>%[_,Y|?_]
  exact jQ (tn:=λ i h=>(∃old,IsEnum h e it i old)/\h.IsListIter it l i) hne I hf e1 ex ho r b1 b3 bk λ h'' c1 cs=>%[%[u|c1]|b2.extBut cs.extBut (Ne.symm hne)]
 done:=by
  intro X hP hw hK hc i Ku s σ H E I hf st hg;subst hP hw hK;obtain⟨⟨old,a1⟩,a2⟩:=st;obtain⟨xs,e1,ex⟩:=hg;obtain⟨its,rv,p1,_⟩:=I.list (IV e1);have lv:=rv.length;apply wpAny_pyNext_enum_end (I.ok.hd hc) a1 a2 p1.isList (by simp;lia) λ h' bk=>%[Y|?_]
  exact I.turnedN (t':=s.toks) hf λ b o hb q=>by simp only[IZ,JQ,LO,not_or]at hb;exact bk b o hb.2 q
 self:=λ _ _ _ _ _ st h=>by obtain⟨⟨old,a1⟩,_⟩:=st;exact wpAny_pyIter_enum a1 h
theorem nM {P:IP} {w:IR} {K:C6} {es:Ks Expr} {kk:Nat} {tp:Pos} (l e it:Ko) (hne:e≠it) :
  Turn P w K (.Tuple es kk tp) (Ite .tup l) [e,it] e (λ i h=>(∃old,IsEnum h e it i old)/\h.IsTupleIter it l i) where
 mem:=by simp
 obj:=λ i h st b hb=>by
  obtain⟨⟨old,a1⟩,⟨o2,a2,_,d2⟩⟩:=st;simp only[IZ,JQ,LO]at hb;rcases hb with rfl | rfl
  ·exact%[_,a1|λ v q=>by cases q]
  ·exact%[_,a2|λ v q=>by rw[d2]at q;cases q]
 keep:=λ i h h' st k=>by obtain⟨⟨old,a1⟩,a2⟩:=st;exact%[%[old|k e (by simp) _ a1]|a2.at λ o q=>k it (by simp) o q]
 item:=by
  intro X hP hw hK hc i Ku s σ H E I hf st hg;subst hP hw hK;obtain⟨⟨old,a1⟩,a2⟩:=st;obtain⟨xs,x,e1,ex⟩:=hg;obtain⟨its,rv,p1,_⟩:=I.tuple (IU e1);obtain⟨u,hu,r⟩:=rv.get ex;have lt:i < its.toArray.size:=by simp;exact(A7.mp hu).1
  have ho:∀b∈[e,it],b < s.heap.objs.size:=λ b hb=>by
   obtain⟨o2,a2',_⟩:=a2;simp only[IZ,JQ,LO]at hb;rcases hb with rfl | rfl
   ·exact B0 a1
   ·exact B0 a2'
  have nl:∀b∈[e,it],l≠b:=λ b hb q=>by rw[q,(hf b hb).1]at e1;cases e1
  have p1':s.heap.IsTuple l its.toArray:=p1;have DD:Draws X.prog X.w X.A.in1 it [it,l] its.toArray.size (λ i v=>its.toArray[i]?=some v) (λ i h=>h.IsTupleIter it l i/\h.IsTuple l its.toArray):=uw (show X.A.in1.handled=none from I.ok.hd hc) it l (nl it (by simp)) its.toArray;apply wpAny_pyNext_enum_itemD DD a1 %[a2|p1'] lt hne (by simp only[IZ,JQ,LO,not_or];exact%[hne|Ne.symm (nl e (by simp))]) λ x' h' tk px b1 b2 b3 b4 bk=>%[_,Y|?_]
  have hu':its.toArray[i]?=some u:=by simpa using hu
  have eu:u=x':=C0 (hu'.symm.trans px);subst eu;exact jQ (tn:=λ i h=>(∃old,IsEnum h e it i old)/\h.IsTupleIter it l i) hne I hf e1 ex ho r b1 b3 bk λ h'' c1 cs=>%[%[u|c1]|b2.1.extBut cs.extBut (Ne.symm hne)]
 done:=by
  intro X hP hw hK hc i Ku s σ H E I hf st hg;subst hP hw hK;obtain⟨⟨old,a1⟩,a2⟩:=st;obtain⟨xs,e1,ex⟩:=hg;obtain⟨its,rv,p1,_⟩:=I.tuple (IU e1);have lv:=rv.length;have p1':s.heap.IsTuple l its.toArray:=p1;have hT:s.TypeIs (.ref e) "enumerate" := %[_,a1|Y]
  unfold pyNext;apply A0 (Lb (wpAny_callSpecial?_slot (name:=Str.ofString "__next__") hT F.slot_enumerate_next
   (G9 F.slot_enumerate_next hT F.entry_enumerate_next ?_ (F.args_enumerate_next_1 _))))
  show wpAny _ _ (field (.ref e) 2 >>= _) _ _ _;apply A0 (LH a1 rfl (x:=.ref it) rfl ?_);apply A0 (cY (I.ok.hd hc) a2 p1' (by simp;lia) λ h' x he' hx'=>?_);obtain⟨o,ho,hc⟩:=hx';apply A0 (wpAny_isInstance (T := "StopIteration") (b:=true) %[o,ho|hc] isSubtype_stop ?_);apply A3 %[rfl|?_];exact I.turnedN (t':=s.toks) hf λ b o hb q=>by simp only[IZ,JQ,LO,not_or]at hb;exact he' b o hb.2 q
 self:=λ _ _ _ _ _ st h=>by obtain⟨⟨old,a1⟩,_⟩:=st;exact wpAny_pyIter_enum a1 h
def AK (ta:TA):TI:=λ σ H R=>ta σ H λ vs H1=>∃l xs,vs=[.ref l]/\((H1 l=↥xs/\R (Ite .lst l) H1)\/(H1 l= ~~~xs/\R (Ite .tup l) H1))
theorem gZ {X:Cx} {a:Expr} {ta:TA} {p pos tp:Pos} {es:Ks Expr} {kk:Nat} (hg:Gl X "enumerate") (hm:X.mg "enumerate" = none) (ha:PA X [a] ta)
  (hs:starEach [a] X.env=[(false,eval a X.env)]:=by rfl) :
  PI X (.Tuple es kk tp) (.Call (.Name "enumerate" p) [a] [] pos) (AK ta):=by
 intro Ku s σ H R I h;apply Call_ (eI I hg hm PyProof.Rows.boot_enumerate (LK (thn (ha pos Ku s σ H _ I h) λ us s1 %[vs,H1,I1,r1|q1]=>?_) (by rw[hs];rfl) (by rfl)));obtain⟨l,xs,rfl,q⟩:=q1;cases r1 with
 | cons r rr=>
  cases rr;cases r;rcases q with⟨e1,q⟩ | ⟨e1,q⟩
  ·obtain⟨its1,rv1,p1,_⟩:=I1.list (IV e1);apply call_enumerate_list p1.isList λ h' z1 z2 sz keep=>?_;have I2:Inv X Ku σ H1 { s1 with heap:=h' }:=I1.kept (t':=s1.toks) keep;apply wpAny_pyIter_enum z1 %[s1.heap.objs.size+1,[s1.heap.objs.size+1,s1.heap.objs.size],_,_,H1,rfl,I2,nL l _ _ (Nat.succ_ne_self _),%[%[_|z1]|z2],λ b hb=>?_|q];have hb':s1.heap.objs.size<=b:=by simp only[IZ,JQ,LO]at hb;rcases hb with rfl | rfl <;> lia
   exact I1.fpOk hb' (I1.hok.fresh hb')
  ·obtain⟨its1,rv1,p1,_⟩:=I1.tuple (IU e1);have p1':s1.heap.IsTuple l its1.toArray:=p1;apply fE p1' λ h' z1 z2 sz keep=>?_;have I2:Inv X Ku σ H1 { s1 with heap:=h' }:=I1.kept (t':=s1.toks) keep;apply wpAny_pyIter_enum z1 %[s1.heap.objs.size+1,[s1.heap.objs.size+1,s1.heap.objs.size],_,_,H1,rfl,I2,nM l _ _ (Nat.succ_ne_self _),%[%[_|z1]|z2],λ b hb=>?_|q];have hb':s1.heap.objs.size<=b:=by simp only[IZ,JQ,LO]at hb;rcases hb with rfl | rfl <;> lia
   exact I1.fpOk hb' (I1.hok.fresh hb')
theorem iM {f:Ks V->HO} (hf:∀xs ys,f xs=f ys->xs=ys) {l:Ko} {xs:Ks V} {g:TG} {tb:TS} {D:Ends} {σ:St} {H:Hp} (Pv:Nat->St->Hp->Prop) (h0:Pv 0 σ H) (hk:∀i σ H',Pv i σ H'->H' l=some (f xs))
  (ht:∀i x p σ H,xs[i]?=some x->H p=none->Pv i σ H->g (.ref p) σ (upd H p (.tup [.int i,x])) λ σ2 H2=>tb { D with nx:=Pv (i+1),ct:=Pv (i+1),bk:=D.nx } σ2 H2) (hd:∀σ H,Pv xs.length σ H->D.nx σ H) :
  ∃W:Nat->Nat->St->Hp->Prop,(∃m,W 0 m σ H)/\∀i m σ H,W i m σ H ->
   ((Ite f l).stop i H/\D.nx σ H)\/((Ite f l).go i H/\∃N:St->Hp->Prop,(∀σ' H',N σ' H'->∃m',m' < m/\W (i+1) m' σ' H')/\∀x H',(Ite f l).yld i H x H'->g x σ H' λ σ2 H2=>tb { D with nx:=N,ct:=N,bk:=D.nx } σ2 H2):=by
 apply%[λ i m σ H=>m=xs.length - i/\i<=xs.length/\Pv i σ H,%[xs.length,by simp,G0 _|h0]|?_];rintro i m σ H ⟨rfl,hi,p⟩;have e1:=hk i σ H p
 by_cases hlt:i < xs.length
 ·apply .inr %[%[xs,xs[i],e1|by simp[hlt]],Pv (i+1),λ σ' H' p'=>%[xs.length - (i+1),⋯,Y,hlt|p']|λ v H' y=>?_];obtain⟨q,xs',x,hq,rfl,rfl,e1',ex⟩:=y;rw[e1]at e1';cases hf _ _ (C0 e1');exact ht i x q σ H ex hq p
 ·have e:i=xs.length:=⋯
  subst e;exact .inl %[%[xs,e1|B4 _]|hd σ H p]
end L2
namespace Pc
open PySem L2
def bI (k:Kd):Bool:=k.tu && !decide (k.w=k.h)
def lyT (i:Nat) (k:Kd):Ks (Nat×Bool):=(i,false) :: if bI k=true then[(i,true)]else[]
def lyK:Ks Kd->Nat->Ks (Nat×Bool)
 | [],_=>[]
 | k :: r,i=>lyT i k ++ lyK r (i+1)
theorem mr (k:Kd):∀ (ks:Ks Kd) (i:Nat),lyK (ks ++ [k]) i=lyK ks i ++ lyT (i+ks.length) k
 | [],i=>by simp[lyK]
 | c :: r,i=>by show lyT i c ++ lyK (r ++ [k]) (i+1)=(lyT i c ++ lyK r (i+1)) ++ _;rw[mr k r (i+1),JC];congr 2;simp only[JF];congr 1;lia
theorem wB (i:Nat) (k:Kd):(lyT i k).length<=2:=by unfold lyT;split <;> simp
theorem kX:∀ (ks:Ks Kd) (i:Nat),(lyK ks i).length<=2 * ks.length
 | [],i=>by simp[lyK]
 | c :: r,i=>by have:=kX r (i+1);have:=wB i c;simp only[lyK,JD,JF];lia
def Gh (H:Hp) (v:V) (p:Nat×Bool):Prop:=∃a,v=.ref a/\H a= ~~~[.int p.1,.bl p.2]
abbrev Lys (H:Hp):Ks V->Ks (Nat×Bool)->Prop:=Paired (Gh H)
theorem Lys.keep {H H':Hp} (k:∀b xs,H b= ~~~xs->H' b= ~~~xs) {xs:Ks V} {ps:Ks (Nat×Bool)} (r:Lys H xs ps):Lys H' xs ps :=
 IW r λ v kd %[a,e|h]=>%[a,e|k a _ h]
theorem ux {H H3:Hp} {l t:Ko} {ys:Ks V} {ps:Ks (Nat×Bool)} {i:Nat} {b:Bool} (hl:H l=none) (s3:Same H H3) (l3:H3 l=↥ys) (y3:Lys H3 ys ps) (ht:H3 t=none) :
  Same H (upd (upd H3 t (.tup [.int (i:Int),.bl b])) l (.lst (ys ++ [.ref t])))/\(upd (upd H3 t (.tup [.int (i:Int),.bl b])) l (.lst (ys ++ [.ref t]))) l=↥(ys ++ [.ref t]) /\
   Lys (upd (upd H3 t (.tup [.int (i:Int),.bl b])) l (.lst (ys ++ [.ref t]))) (ys ++ [.ref t]) (ps ++ [(i,b)]):=by
 have lt:l≠t:=ae l3 ht;apply%[λ c o e=>?_,ai|Paired.snoc (Lys.keep (λ c xs e=>?_) y3) %[t,Y|by rw[ah (Ne.symm lt),ai]]]
 ·have e3:=s3 c o e;rw[ah (ae e hl),ah (ae e3 ht)];exact e3
 ·have cl:c≠l:=λ z=>by rw[z,l3]at e;cases e
  rw[ah cl,ah (ae e ht)];exact e
def fU (K:C6):Sp:=λ vs H Q _=>∃ (a:Ko) (k:Kd),vs=[.ref a]/\H a= ~~~(kdV k)/\Q (.bl (bI k)) H
def iN (C:Ko):Sp:=λ vs H Q _=>∃ (x:Ko) (b:Int) (ks:Ks Kd),vs=[.ref x]/\ShopAt C H x b ks/\ks.length<=8 /\
 ∀ (l:Ko) (ys:Ks V) (H':Hp),H l=none->H' l=↥ys->Lys H' ys (lyK ks 0)->Same H H'->Q (.ref l) H'
def gz (ks:Ks Kd) (x t:V):Bool:=match x,t with
 | .int i,.bl b=>decide (0<=i) && match ks[i.toNat]? with
  | some k=>!b || bI k
  | none=>false
 | _,_=>false
def eZ (K:C6) (C:Ko):Sp:=λ vs H Q _=>∃ (s:Ko) (b:Int) (ks:Ks Kd) (x t:V) (T U:String),vs=[.ref s,x,t]/\ShopAt C H s b ks/\Ty K H x T/\Ty K H t U/\Q (.bl (gz ks x t)) H
end Pc
namespace L2
open PySem PySem.Spec PyProof.Rows
section
variable {X:Cx}
theorem yn (hu:X.A.units+65 < cLine):OpR X (compareOp .In) (λ x y H Q=>∃d xs,DatV X.K H x d/\DatV X.K H y (.list xs)/\SeqAt.shaped (.list xs)=true/\SeqAt.shaped d=true/\(∀y∈xs,SeqAt.noMix y d=true)/\Q (.bl (decide (countIn d xs≠0))) H):=by intro Ku s σ H x y v u Q I rx ry h;obtain⟨d,xs,hx,hy,s1,s2,nm,q⟩:=h;obtain⟨as,ra⟩:=I.reads hx rx;obtain⟨bs,rb⟩:=I.reads hy ry;exact in_list_dataH rb ra s1 s2 hu nm %[.bl _,H,I,rfl|q]
theorem uy {k:Nat} {C:Ko} {ps:Ks Str} {sp:Sp} {m:Str} {o:Expr} {e:Expr} {es:Ks Expr} {ta:TE} {t:TA} {apos pos:Pos} {pl:Sem Bool} (he:PE X o ta) (c:Cls X.K C) (D:Mn X.prog X.w X.K X.mg X.base C m ps k sp) (hr:Room k X.A) (ha:PA X (e :: es) t)
  (hst:starEach (e :: es) X.env=(false,eval e X.env) :: starEach es X.env:=by rfl) (hpl:(backTo pos (starEach es X.env)).any (·.1)=false:=by rfl)
  (ht:eval (.Call (.Attribute o m apos) (e :: es) [] pos) X.env=(do
   let ov<-eval o X.env
   standAt apos.atName
   let (f,first)<-holding [ov] (getMethod ov m pl)
   callWith pos f first (backTo pos (starEach (e :: es) X.env)) (backToKw pos (keywordEach [] X.env))):=by rfl):PE X (.Call (.Attribute o m apos) (e :: es) [] pos) (pJ C m sp [] E0 ta t):=by
 obtain⟨f,fd,F,hb,hm⟩:=D;exact wq he c hm F hr hb .nil pO ha hst hpl ht
theorem uz:OpR X (binaryOp .Add) (λ x y H Q=>∃a b ys,x=.ref a/\y=.ref b/\SqT X.K H a []/\SqT X.K H b ys/\Q (.ref b) H):=by
 intro Ku s σ H x y v u Q I rx ry h;obtain⟨a,b,ys,rfl,rfl,ha,hb,q⟩:=h;cases rx;cases ry;obtain⟨its,r1,p1,_⟩:=I.tuple ha;obtain⟨its2,r2,p2,_⟩:=I.tuple hb;cases r1;obtain⟨⟨cls,dd,data,sl⟩,ho,hc,n,hd⟩:=p1;obtain⟨⟨cls2,dd2,data2,sl2⟩,ho2,hc2,n2,hd2⟩:=p2;simp only at hc hd hc2 hd2;subst hc hd hc2 hd2;exact concat_meets %[_,ho|rfl] %[_,ho2|rfl] noFill_tuple_add seq_tuple_add PySem.F.slot_tuple_add PySem.F.entry_tuple_add (PySem.F.args_tuple_add_2 _ _)
   (tuple_addW0 a b _ _ n n2 dd dd2 sl sl2 rfl) %[ho,ho2|%[.ref b,H,I,rfl|q]]
def AL:R2:=λ x y H Q=>∃a b xs ys,x=.ref a/\y=.ref b/\H a= ~~~xs/\H b= ~~~ys/\xs.length+ys.length<=sizeLine /\
 ∀m H',(H'=H/\(m=a\/m=b))\/(H m=none/\H'=upd H m (.tup (xs ++ ys)))->H' m= ~~~(xs ++ ys)->Q (.ref m) H'
theorem pT:OpR X (binaryOp .Add) AL:=by
 intro Ku s σ H x y v u Q I rx ry h;obtain⟨a,b,xs,ys,rfl,rfl,ha,hb,hz,q⟩:=h
 by_cases hx:xs=[]
 ·subst hx;exact uz Ku s σ H _ _ v u Q I rx ry %[a,b,ys,rfl,rfl,IU ha,IU hb|q b H (.inl %[rfl|.inr rfl]) hb]
 ·apply pL Ku s σ H _ _ v u Q I rx ry %[a,b,xs,ys,rfl,rfl,IU ha,IU hb,hx,hz,λ e=>?_|λ e p hp=>q p _ (.inr %[hp|rfl]) ai];subst e;exact q a H (.inl %[Y|.inl rfl]) (by rw[JX];exact ha)
end
theorem jR (xs:Ks V) (k:Nat):gR xs (some (k:Int)) none=xs.drop k:=by
 unfold gR;rw[HT.sIx_none,HT.sIx_nat];rcases Nat.le_total k xs.length with h | h
 ·rw[Nat.min_eq_left h,JK (by rw[Jy];exact B4 _)]
 ·rw[Nat.min_eq_right h,Jm (B4 _),Jm h,List.take_nil]
theorem kY:∀ {ns:Ks Int} {its:Ks IS},Vals (ns.map V.int) its->IntsAre its ns
 | [],_,r=>by cases r;exact .nil
 | n :: ns,_,r=>by
  cases r with
  | cons r1 r2=>
   obtain⟨t,e⟩:=r1;subst e;exact .cons n t (kY r2)
section
variable {X:Cx}
theorem kZ:bM X (.builtin "divmod") (λ xs H Q=>∃i j,xs=[.int i,.int j]/\CDivB i j/\∀p,H p=none->Q (.ref p) (upd H p (.tup [.int (i / j),.int (i % j)]))):=by intro Ku s σ H xs us Q I r h;obtain⟨i,j,rfl,hc,q⟩:=h;have h1:=hc.1;obtain⟨u,w',rfl,⟨t,rfl⟩,⟨t',rfl⟩⟩:=pH r;apply divmod_int ⋯ ?_ (.inl hc.np);rw[Int.fdiv_eq_ediv_of_nonneg i ⋯,Int.fmod_eq_emod_of_nonneg i ⋯];have hn:H s.heap.objs.size=none:=I.hok.fresh (B4 _);apply%[.ref s.heap.objs.size,_,?_,Y|q _ hn];apply I.laid (λ b o e=>A8 _ e) (B4 _) %[by simp only[JF,KN];rw[sizeLine_eq];decide,[.int (i / j) s.toks,.int (i % j) (s.toks+1)],.cons %[_|rfl] (.cons %[_|rfl] .nil)|?_];exact%[_,A9 s.heap rfl,Y,0|Y]
theorem qW (hc:X.calm=true):bM X (.builtin "sum") (λ xs H Q=>∃ (p:Ko) (ns:Ks Int),xs=[.ref p]/\SqL X.K H p (ns.map V.int)/\Q (.int ns.sum) H):=by
 intro Ku s σ H xs us Q I r h;obtain⟨p,ns,rfl,hs,q⟩:=h;obtain⟨u,rfl,rfl⟩:=cM r;obtain⟨its,rv,pl,_⟩:=I.list hs;have hi:=kY rv;obtain⟨xs,e⟩:=hi.allInts.items;have pl':=pl.isList;rw[e]at pl';apply sum_intListG (I.ok.hd hc) pl' λ h' tk t' hk=>?_;have e2:preSum (numAt xs) xs.size=ns.sum:=by rw[preSum_eq,JK (by simp),<- nums_intItems,<- e,show its.toArray.toList=its from rfl,hi.numsOf]
 rw[e2];exact%[.int ns.sum,H,I.kept hk,%[_|Y]|q]
theorem iO:∀ {bs:Ks Bool} {its:Ks IS},Vals (bs.map V.bl) its->its=bs.map Value.bool
 | [],_,r=>by cases r;rfl
 | b :: bs,_,r=>by
  cases r with
  | cons r1 r2=>
   have e:_=Value.bool b:=r1;subst e;rw[JA,iO r2]
theorem qX (bs:Ks Bool):(List.range bs.length).all (λ i=>bs.getD i false)=bs.all id:=by
 rw[Ka,KS,KS];constructor
 ·intro h b hb;obtain⟨i,hi,e⟩:=KA hb;have:=h i (Jt.mpr hi);rw[Jk,G2 hi]at this;simpa[e]using this
 ·intro h i hi;have hi':=Jt.mp hi;rw[Jk,G2 hi'];exact h _ (KU hi')
theorem fb (hc:X.calm=true):bM X (.builtin "all") (λ xs H Q=>∃ (p:Ko) (bs:Ks Bool),xs=[.ref p]/\SqL X.K H p (bs.map V.bl)/\Q (.bl (bs.all id)) H):=by
 intro Ku s σ H xs us Q I r h;obtain⟨p,bs,rfl,hs,q⟩:=h;obtain⟨u,rfl,rfl⟩:=cM r;obtain⟨its,rv,pl,_⟩:=I.list hs;have e:=iO rv;subst e;have hlt:p < s.heap.objs.size:=by obtain⟨_,_,e,_⟩:=pl;exact B0 e
 apply call_all_walk (Lp pl.isList ?_);apply%[_,_,_,_,_,_,λ i=>bs.getD i false,Y,Walks.list (A:=X.A.in1) (I.ok.hd hc) _ p (C1 hlt) _,%[%[_,A9 _ rfl,Y|Y]|pl.isList.push _],λ i v s' Q' E' hP hQ'=>?_|λ h' tk hk=>?_]
 ·have hP':(bs.map Value.bool)[i]?=some v:=by simpa using hP
  rw[IY]at hP';cases hb:bs[i]? with
  | none=>rw[hb]at hP';cases hP'
  | some b=>
   rw[hb]at hP';cases hP';have hQ2:Q' (bs.getD i false) s':=hQ';rw[Jk,hb]at hQ2;exact G4 hQ2
 ·have e2:((bs.map Value.bool).toArray.size)=bs.length:=by simp
  rw[e2,qX];apply%[.bl (bs.all id),H,I.kept (h':=h') (t':=tk) (λ b o e=>hk b o ?_ (A8 _ e)),Y|q];intro z;rw[E4.mp z]at e;exact absurd (B0 e) (E2 _)
theorem jS (hg:X.A.guards=some []) (hu:X.A.units+66 < cLine):bM X (.builtin "repr") (λ xs H Q=>∃a d,xs=[.ref a]/\DatV X.K H (.ref a) d/\d.showable=true/\d.hasDict=false/\d.depth<=64/\d.shown.length<=sizeLine/\Q (.str d.shown) H):=by intro Ku s σ H xs us Q I r h;obtain⟨a,d,rfl,hd,h1,h2,h3,h4,q⟩:=h;obtain⟨u,rfl,rfl⟩:=cM r;obtain⟨as,ra⟩:=I.reads hd (u:=.ref a) rfl;exact repr_of_reads' ra h1 (λ z=>by rw[h2]at z;cases z) hg ⋯ (λ _ _ e=>e) (λ h' u tk hk=>%[.str d.shown,H,I.kept hk,%[_|Y]|q]) h4
end
theorem fV {α:Type} {xs:Ks α} {i:Int} {v:α} (h0:0<=i) (h:xs[i.toNat]?=some v):atI xs i=some v:=by
 have e:i=((i.toNat:Nat):Int):=⋯
 have z:atI xs ((i.toNat:Nat):Int)=some v:=fQ h;rw[<- e]at z;exact z
end L2
namespace Pc
open PySem L2
def PotB (H:Hp) (p:Ko):Prop:=∃a b:Int,0<=a/\0<=b/\b < 2147483648/\H p=↥[.int a,.int b]
theorem PotB.same {H H':Hp} {p:Ko} (x:PotB H p) (s:Same H H'):PotB H' p:=by obtain⟨a,b,h1,h2,h3,e⟩:=x;exact%[a,b,h1,h2,h3|s _ _ e]
def nN (K:C6):Sp:=λ vs H Q _=>∃ (a:Ko) (ns:Ks Int) (n:Int),vs=[.ref a,.int n]/\SqL K H a (ns.map V.int)/\0<=n/\∀c:Int,Q (.int c) H
def nO:Sp:=λ vs H Q _=>∃ (c:Int),vs=[.int c]/\∀ (p:Ko) (H':Hp),H p=none->PotB H' p->Same H H'->Q (.ref p) H'
def dX:Sp:=λ vs H Q _=>∃ (p:Ko) (m:Int),vs=[.ref p,.int m]/\PotB H p/\0 < m/\m<=10 ^ 60/\∀ (r:Int) (H':Hp),0<=r->r < m->PotB H' p->But p H H'->Q (.int r) H'
end Pc
namespace L2
open PySem
theorem Room.units66 {k:Nat} {A:Around} (r:Room k A):A.units+66 < cLine:=by have:=r.un;lia
end L2
namespace Pc
open PySem L2
theorem uA {K:C6} {H:Hp}:∀ns:Ks Int,DatVs K H (ns.map V.int) (ns.map PyData.int)
 | []=>.nil
 | n :: r=>.cons (.int n) (uA r)
def Short (i:Int):Prop:=i.natAbs < 10 ^ 62
theorem Short.log {i:Int} (h:Short i):i.natAbs.log2 < 1920:=by
 unfold Short at h;rcases Nat.eq_zero_or_pos i.natAbs with h0 | hp
 ·rw[h0];decide
 ·apply(Nat.log2_lt (JW hp)).mpr (Ki h ?_)
  decide +kernel
theorem Short.len {i:Int} (h:Short i):(PyData.shown (.int i)).length<=63:=by show(Str.ofString (toString i)).length<=63;rw[ofString_length];exact int_text_length_le10 ∅ h
end Pc
namespace L2
open PySem PySem.Spec PyProof.Rows
section
variable {κ:Type} [DecidableEq κ]
def bG (kvs:Ks (κ×V)) (k:κ):Kq V:=(kvs.find? λ kv=>decide (kv.1=k)).map (·.2)
def bX (kvs:Ks (κ×V)) (k:κ) (v:V):Ks (κ×V) :=
 if (kvs.any λ kv=>decide (kv.1=k))=true then kvs.map (λ kv=>if kv.1=k then(kv.1,v)else kv)else kvs ++ [(k,v)]
theorem bq {p:κ×V} {r:Ks (κ×V)} {k:κ} (e:p.1=k):bG (p :: r) k=some p.2:=by simp[bG,Kc,e]
theorem bj {p:κ×V} {r:Ks (κ×V)} {k:κ} (e:¬ p.1=k):bG (p :: r) k=bG r k:=by simp[bG,Kc,e]
theorem cZ (k:κ):∀kvs:Ks (κ×V),(kvs.any λ kv=>decide (kv.1=k))=(bG kvs k).isSome
 | []=>rfl
 | p :: r=>by
  rw[List.any_cons]
  by_cases e:p.1=k
  ·simp only[bq e,K1 e,Bool.true_or,Option.isSome_some]
  ·rw[bj e,K5 e,Bool.false_or];exact cZ k r
theorem mv (k j:κ) (y:V):∀kvs:Ks (κ×V),bG (kvs.map λ kv=>if kv.1=k then(kv.1,y)else kv) j=(bG kvs j).map λ x=>if j=k then y else x
 | []=>rfl
 | p :: r=>by
  have ih:=mv k j y r;rw[JA]
  by_cases h:p.1=k
  ·rw[Kz h]
   by_cases e:p.1=j
   ·rw[bq (p:=(p.1,y)) e,bq e,KO,Kz (e.symm.trans h)]
   ·rw[bj (p:=(p.1,y)) e,bj e,ih]
  ·rw[Ky h]
   by_cases e:p.1=j
   ·rw[bq (p:=p) e,bq e,KO,Ky (λ z=>h (e.trans z))]
   ·rw[bj (p:=p) e,bj e,ih]
theorem jT (k j:κ) (y:V):∀kvs:Ks (κ×V),bG kvs k=none->bG (kvs ++ [(k,y)]) j=if j=k then some y else bG kvs j
 | [],_=>by
  by_cases e:k=j
  ·rw[Kz e.symm];exact bq (p:=(k,y)) e
  ·rw[Ky (λ z=>e z.symm)];exact bj (p:=(k,y)) e
 | p :: r,hn=>by
  rw[List.cons_append];have hk:¬ p.1=k:=λ z=>by rw[bq z]at hn;cases hn
  rw[bj hk]at hn;have ih:=jT k j y r hn
  by_cases e:p.1=j
  ·rw[bq e,bq e,Ky (λ z=>hk (e.trans z))]
  ·rw[bj e,bj e,ih]
theorem uB (kvs:Ks (κ×V)) (k j:κ) (y:V):bG (bX kvs k y) j=if j=k then some y else bG kvs j:=by
 unfold bX
 by_cases a:(kvs.any λ kv=>decide (kv.1=k))=true
 ·rw[Kz a,mv];rw[cZ]at a
  by_cases e:j=k
  ·obtain⟨x,hx⟩:=Option.isSome_iff_exists.mp a;rw[Kz e,e,hx,KO,Kz rfl]
  ·rw[Ky e];cases bG kvs j with
   | none=>rfl
   | some x=>rw[KO,Ky e]
 ·rw[Ky a];apply jT k j y kvs ?_;rw[cZ]at a;cases q:bG kvs k with
  | none=>rfl
  | some x=>rw[q]at a;exact(a rfl).elim
theorem ce (kvs:Ks (κ×V)) (k:κ) (v:V):(bX kvs k v).length<=kvs.length+1:=by
 unfold bX
 split
 ·rw[B5];lia
 ·rw[JD,JF,KN];lia
theorem uC {kvs:Ks (κ×V)} {k:κ} (v:V) (h:bG kvs k=none):bX kvs k v=kvs ++ [(k,v)]:=by unfold bX;rw[cZ,h];exact Ky ∅
theorem RelO.isSome_eq {o:Kq V} {u:Kq IS} (r:RelO o u):o.isSome=u.isSome:=by
 cases o with
 | none=>cases u with
  | none=>rfl
  | some _=>exact(show False from r).elim
 | some _=>cases u with
  | none=>exact(show False from r).elim
  | some _=>rfl
theorem KV.val {kvs:Ks (κ×V)} {vs:Ks (κ×IS)} (r:KV kvs vs) (k:κ):RelO (bG kvs k) (valueAt vs k):=by
 unfold KV at r
 induction r with
 | nil=>exact True.intro
 | @cons p q ps qs h t ih=>
  obtain⟨h1,h2⟩:=h
  by_cases e:p.1=k
  ·have e':q.1=k:=h1.symm.trans e;have b:valueAt (q :: qs) k=some q.2:=by simp[valueAt,Kc,e']
   rw[bq e,b];exact h2
  ·have e':¬ q.1=k:=λ z=>e (h1.trans z);have b:valueAt (q :: qs) k=valueAt qs k:=by simp[valueAt,Kc,e']
   rw[bj e,b];exact ih
theorem KV.any {kvs:Ks (κ×V)} {vs:Ks (κ×IS)} (r:KV kvs vs) (k:κ):(kvs.any λ kv=>decide (kv.1=k))=vs.any λ kv=>decide (kv.1=k):=by
 unfold KV at r
 induction r with
 | nil=>rfl
 | cons h t ih=>rw[List.any_cons,List.any_cons,ih,h.1]
theorem KV.repl {kvs:Ks (κ×V)} {vs:Ks (κ×IS)} (r:KV kvs vs) (k:κ) {y:V} {u:IS} (ry:RelV y u) :
  KV (kvs.map λ kv=>if kv.1=k then(kv.1,y)else kv) (vs.map λ kv=>if kv.1=k then(kv.1,u)else kv):=by
 unfold KV at r ⊢
 induction r with
 | nil=>exact .nil
 | @cons p q ps qs h t ih=>
  rw[JA,JA];apply .cons ?_ ih;obtain⟨h1,h2⟩:=h
  by_cases e:p.1=k
  ·rw[Kz e,Kz (h1.symm.trans e)];exact%[h1|ry]
  ·rw[Ky e,Ky (λ z=>e (h1.trans z))];exact%[h1|h2]
theorem KV.put {kvs:Ks (κ×V)} {vs:Ks (κ×IS)} (r:KV kvs vs) (k:κ) {y:V} {u:IS} (ry:RelV y u):KV (bX kvs k y) (stored vs k u):=by
 unfold bX stored;rw[r.any k]
 by_cases e:(vs.any λ kv=>decide (kv.1=k))=true
 ·rw[Kz e,Kz e];exact r.repl k ry
 ·rw[Ky e,Ky e];exact Paired.snoc r %[rfl|ry]
theorem KV.length {kvs:Ks (κ×V)} {vs:Ks (κ×IS)} (r:KV kvs vs):kvs.length=vs.length:=E5 r
end
theorem pU {P:IP} {w:IR} {k:Key} {u:IS} (r:RelV (kV k) u):(aR P w).is k u=true:=by
 cases k with
 | inl i=>obtain⟨t,e⟩:=(show∃t,u=Value.int i t from r);subst e;exact lS P w i t
 | inr x=>obtain⟨t,e⟩:=(show∃t,u=Value.str x t from r);subst e;exact lT P w x t
theorem jU {P:IP} {w:IR}:∀ {ks:Ks Key} {us:Ks IS},Vals (ks.map kV) us->ItemsAre (aR P w) ks us
 | [],_,r=>by rw[Jj]at r;cases r;exact .nil
 | k :: ks,_,r=>by
  rw[JA]at r;cases r with
  | cons h t=>exact .cons (pU h) (jU t)
abbrev KT (H:Hp):Ks (Ks Key×V)->Ks (Ks Key×Ko×IS)->Prop:=Paired λ p q=>p.1=q.1/\H q.2.1= ~~~(p.1.map kV)/\RelV p.2 q.2.2
theorem KT.val {H:Hp} {kvs:Ks (Ks Key×V)} {xs:Ks (Ks Key×Ko×IS)} (r:KT H kvs xs) (k:Ks Key):RelO (bG kvs k) ((atKey xs k).map (·.2)):=by
 induction r with
 | nil=>exact True.intro
 | @cons p q ps qs h t ih=>
  obtain⟨h1,_,h2⟩:=h
  by_cases e:p.1=k
  ·have e':q.1=k:=h1.symm.trans e;have b:atKey (q :: qs) k=some q.2:=by simp[atKey,Kc,e']
   rw[bq e,b];exact h2
  ·have e':¬ q.1=k:=λ z=>e (h1.trans z);have b:atKey (q :: qs) k=atKey qs k:=by simp[atKey,Kc,e']
   rw[bj e,b];exact ih
theorem KT.repl {H:Hp} {kvs:Ks (Ks Key×V)} {xs:Ks (Ks Key×Ko×IS)} (r:KT H kvs xs) (k:Ks Key) {y:V} {u:IS} (ry:RelV y u) :
  KT H (kvs.map λ kv=>if kv.1=k then(kv.1,y)else kv) (xs.map (putAt k u)):=by
 induction r with
 | nil=>exact .nil
 | @cons p q ps qs h t ih=>
  rw[JA,JA];apply .cons ?_ ih;obtain⟨h1,h2,h3⟩:=h;unfold putAt
  by_cases e:p.1=k
  ·rw[Kz e,Kz (h1.symm.trans e)];exact%[h1,h2|ry]
  ·rw[Ky e,Ky (λ z=>e (h1.trans z))];exact%[h1,h2|h3]
theorem KT.put {H:Hp} {kvs:Ks (Ks Key×V)} {xs:Ks (Ks Key×Ko×IS)} (r:KT H kvs xs) (k:Ks Key) {b:Ko} {y:V} {u:IS} (hb:H b= ~~~(k.map kV)) (ry:RelV y u) :
  KT H (bX kvs k y) (storedH xs k b u):=by
 have e:(kvs.any λ kv=>decide (kv.1=k))=(atKey xs k).isSome:=by rw[cZ,(r.val k).isSome_eq,Option.isSome_map]
 unfold bX storedH;rw[e]
 by_cases q:(atKey xs k).isSome=true
 ·rw[Kz q,Kz q];exact r.repl k ry
 ·rw[Ky q,Ky q];exact Paired.snoc r %[rfl,hb|ry]
theorem KT.keeps {H H':Hp} {kvs:Ks (Ks Key×V)} {xs:Ks (Ks Key×Ko×IS)} (r:KT H kvs xs) (ht:∀b ys,H b= ~~~ys->H' b= ~~~ys):KT H' kvs xs :=
 IW r λ _ _ z=>%[z.1,ht _ _ z.2.1|z.2.2]
section
variable {P:IP} {w:IR} {H:Hp} {h:Heap} {a:Ko}
theorem xK {u:HO} (ok:HOk P w H h) (e:Rd H a u):ObjOk P w H h a u:=e.ok ok
theorem pV {kvs:Ks (Key×V)} (ok:HOk P w H h) (e:Rd H a (.dK kvs)):kvs.length<=sizeLine/\(a == sysModules)=false/\∃vs,KV kvs vs/\h.DictOf (aR P w) a vs :=
 show ObjOk P w H h a (.dK kvs)from xK ok e
theorem AM {kvs:Ks (Key×V)} (ok:HOk P w H h) (e:H a=some (.dK kvs)):kvs.length<=sizeLine/\(a == sysModules)=false/\∃vs,KV kvs vs/\h.DictOf (aR P w) a vs:=pV ok (.inl e)
theorem dY {ks:Ks Key} (ok:HOk P w H h) (e:H a= ~~~(ks.map kV)):(tupleKind (aR P w)).is h ks a:=by
 obtain⟨_,its,r,o,h1,h2,n,h3⟩:=(show ObjOk P w H h a (.tup (ks.map kV))from ok a _ e)
 exact%[o,its.toArray,n,h1,h2,h3|by simpa using jU r]
theorem mx {kvs:Ks (Ks Key×V)} (ok:HOk P w H h) (e:Rd H a (.dT kvs)):kvs.length<=sizeLine/\(a == sysModules)=false /\
  ∃xs,KT H kvs xs/\h.DictOfH (tupleKind (aR P w)) a xs:=by
 obtain⟨z,y,xs,r,o,es,ep,h1,h2,h3,h4,h5⟩:=(show ObjOk P w H h a (.dT kvs)from xK ok e)
 apply%[z,y,xs,r,o,es,ep,h1,h2,h3,h4,λ x hx=>?_|h5];have all:∀ {l:Ks (Ks Key×V)} {m:Ks (Ks Key×Ko×IS)},KT H l m->∀x∈m,(tupleKind (aR P w)).is h x.1 x.2.1:=by
  intro l m q
  induction q with
  | nil=>intro x hx;exact nomatch hx
  | @cons p q ps qs hq t ih=>
   intro x hx;rcases IZ.mp hx with e | hx
   ·subst e;exact dY ok (by rw[<- hq.1];exact hq.2.1)
   ·exact ih x hx
 exact all r x hx
theorem pW {kvs:Ks (Ks Key×V)} (ok:HOk P w H h) (e:H a=some (.dT kvs)):kvs.length<=sizeLine/\(a == sysModules)=false /\
  ∃xs,KT H kvs xs/\h.DictOfH (tupleKind (aR P w)) a xs:=mx ok (.inl e)
end
def DGet (H:Hp) (a:Ko) (y:V) (r:Kq V):Prop :=
 (∃kvs k,Rd H a (.dK kvs)/\y=kV k/\r=bG kvs k)\/∃kvs k b,Rd H a (.dT kvs)/\y=.ref b/\H b= ~~~(k.map kV)/\r=bG kvs k
def DPut (H:Hp) (a:Ko) (y v:V) (H':Hp):Prop :=
 (∃kvs k,H a=some (.dK kvs)/\y=kV k/\kvs.length < sizeLine/\H'=upd H a (.dK (bX kvs k v))) \/
 ∃kvs k b,H a=some (.dT kvs)/\y=.ref b/\H b= ~~~(k.map kV)/\kvs.length < sizeLine/\H'=upd H a (.dT (bX kvs k v))
theorem DGet.t {H:Hp} {a b:Ko} {kvs:Ks (Ks Key×V)} {k:Ks Key} (e:H a=some (.dT kvs)) (eb:H b= ~~~(k.map kV)):DGet H a (.ref b) (bG kvs k):=.inr %[kvs,k,b,.inl e,Y,eb|Y]
theorem DPut.t {H:Hp} {a b:Ko} {kvs:Ks (Ks Key×V)} {k:Ks Key} {v:V} (e:H a=some (.dT kvs)) (eb:H b= ~~~(k.map kV)) (hl:kvs.length < sizeLine) :
  DPut H a (.ref b) v (upd H a (.dT (bX kvs k v))):=.inr %[kvs,k,b,e,Y,eb,hl|Y]
section
variable {X:Cx} {Ku:Ks (Ko×Obj)} {σ:St} {H:Hp} {s:IN} {a:Ko} {y v:V} {u r:IS} {o:Kq V} {A:Around} {E:IS->IN->Prop}
theorem Inv.big (I:Inv X Ku σ H s):sysModules < s.heap.objs.size:=by have h:Kt < s.heap.objs.size:=(I.mod.glob.keeps I.bk).lt;exact Ki ∅ h
theorem qY {Q:IS->IN->Prop} (hu:A.units+1 < cLine) (I:Inv X Ku σ H s) (g:DGet H a y (some v)) (ry:RelV y u) (h:∀w' s',Inv X Ku σ H s'->RelV v w'->Q w' s') :
  wpAny (model X.prog X.w) A (getItem (.ref a) u) Q E s:=by
 rcases g with⟨kvs,k,e,ey,l⟩ | ⟨kvs,k,b,e,ey,eb,l⟩
 ·subst ey;obtain⟨z,hd,vs,rel,dd⟩:=pV I.hok e;obtain⟨w',hw,rw'⟩:=RelO.some_of (v:=v) (o:=valueAt vs k) (by rw[l];exact rel.val k);exact wpAny_getItem_of (pU ry) dd.mapOf hw (h w' _ (I.tok _) rw')
 ·subst ey;cases(show u=Value.ref b from ry);obtain⟨z,hd,xs,rel,dd⟩:=mx I.hok e;obtain⟨w',hw,rw'⟩:=RelO.some_of (v:=v) (o:=(atKey xs k).map (·.2)) (by rw[l];exact rel.val k);obtain⟨p,hp,hp2⟩:=JI.mp hw;apply wpAny_getItem_heap (tupleKind_room_in1 hu) (dY I.hok eb) dd hp ?_;rw[hp2];exact h w' _ (I.tok _) rw'
theorem wC {Q:IS->IN->Prop} (hu:A.units+1 < cLine) (I:Inv X Ku σ H s) (g:DGet H a y o) (ry:RelV y u) (h:∀s',Inv X Ku σ H s'->Q (.bool (!o.isSome)) s') :
  wpAny (model X.prog X.w) A (compareOp .NotIn u (.ref a)) Q E s:=by
 rcases g with⟨kvs,k,e,ey,l⟩ | ⟨kvs,k,b,e,ey,eb,l⟩
 ·subst ey;obtain⟨z,hd,vs,rel,dd⟩:=pV I.hok e;apply wpAny_notIn_of (pU ry) hd dd.mapOf ?_;rw[<- (rel.val k).isSome_eq,<- l];exact h _ (I.tok _)
 ·subst ey;cases(show u=Value.ref b from ry);obtain⟨z,hd,xs,rel,dd⟩:=mx I.hok e;apply wpAny_notIn_heap (tupleKind_room_in1 hu) (dY I.hok eb) hd dd ?_;have q:=(rel.val k).isSome_eq;rw[Option.isSome_map]at q;rw[<- q,<- l];exact h _ (I.tok _)
theorem fW {h':Heap} {t':Nat} {ob:HO} (I:Inv X Ku σ H s) (mu:Mut (H a)) (hs:Heap.SameBut a s.heap h') (he:∃q,h'.get? a=some q) (new:ObjOk X.prog X.w (upd H a ob) h' a ob) :
  Inv X Ku σ (upd H a ob) { s with heap:=h',toks:=t' } :=
 I.write (x:=a) (e:=a) mu (.inl rfl) (λ b q hb z=>(hs.2 b hb).trans z) he new
theorem yo {P:IP} {w:IR} {H':Hp} {h':Heap} {kvs:Ks (Key×V)} {vs:Ks (Key×IS)} (z:kvs.length<=sizeLine) (hd:(a == sysModules)=false) (rel:KV kvs vs) (dd:h'.DictOf (aR P w) a vs) :
  ObjOk P w H' h' a (.dK kvs):=%[z,hd,vs,rel|dd]
theorem qZ {H':Hp} {Q:Unit->IN->Prop} (hu:A.units+1 < cLine) (I:Inv X Ku σ H s) (g:DPut H a y v H') (ry:RelV y u) (rv:RelV v r) (h:∀s',Inv X Ku σ H' s'->Q () s') :
  wpAny (model X.prog X.w) A (setItem (.ref a) u r) Q E s:=by
 rcases g with⟨kvs,k,e,ey,l,eH⟩ | ⟨kvs,k,b,e,ey,eb,l,eH⟩
 ·subst ey eH;obtain⟨z,hd,vs,rel,dd⟩:=AM I.hok e;have hz:vs.length<=sizeLine:=by rw[<- rel.length];exact z
  have hl:(bX kvs k v).length<=sizeLine:=by have:=ce kvs k v;lia
  apply wpAny_setItem_pairs (hsz:=hz) (pU ry) dd λ h' dd' hs=>h _ ?_;have he:∃q,h'.get? a=some q:=let ⟨q,_,_,hq,_⟩:=dd';%[q|hq]
  exact fW I (by rw[e];exact True.intro) hs he (yo hl hd (rel.put k rv) dd')
 ·subst ey eH;cases(show u=Value.ref b from ry);obtain⟨z,hd,xs,rel,dd⟩:=pW I.hok e;have hz:xs.length<=sizeLine:=by rw[<- Paired.length rel];exact z
  have hl:(bX kvs k v).length<=sizeLine:=by have:=ce kvs k v;lia
  apply wpAny_setItem_heap (hsz:=hz) (tupleKind_room_in1 hu) (dY I.hok eb) dd λ h' dd' hs=>h _ ?_;obtain⟨q,es,ep,hq,h2,h3,h4,_,h5⟩:=dd';apply fW I (by rw[e];exact True.intro) hs %[q|hq] %[hl,hd,_,(rel.put k eb rv).keeps λ c ys ec=>?_,q,es,ep,hq,h2,h3,h4|h5];rw[ah (tI ec e (λ z=>nomatch z))];exact ec
end
def AN (i:Expr):Prop:=∀ov iv,subscripted i false ov iv=operate [ov,iv] (getItem ov iv)
theorem wD {prog:IP} {w:IR} {A:Around} {E:IS->IN->Prop} {s:IN} {env:Env} {value slice:Expr} {pos:Pos} {T id:String} {Q:IS->IN->Prop}
  (hl:typeLookup (.type T) "__getitem__" = pure (some (.builtin id))) (hs:AN slice)
  (h:wpAny (model prog w) A (eval value env) (λ o s₁=>wpAny (model prog w) A (eval slice env) (λ i s₂=>s₂.TypeIs o T/\wpAny (model prog w) A (getItem o i) Q E s₂) E s₁) E s) :
  wpAny (model prog w) A (eval (.Subscript value slice pos) env) Q E s:=by
 apply Subscript_ (K6 h (λ o s₁ h₁=>K6 h₁ (λ i s₂ h₂=>?_) λ _ _ x=>x) λ _ _ x=>x);obtain⟨hT,h₂⟩:=h₂;unfold subscriptTail;apply A0 ?_;rw[getitemInPython_of_ne hT.not_modules];apply A0 (wpAny_specialOf hT hl ?_);have fin:wpAny (model prog w) A (subscripted slice false o i) (λ r s₃=>wpAny (model prog w) A (letTemporaryGo value o r >>= λ _=>pure r) Q E s₃) E s₂:=by rw[hs o i];exact wpAny_operating (K6 h₂ (λ r s₃ h₃=>A0 (wpAny_letTemporaryGo (A3 h₃))) λ _ _ x=>x)
 first
  | exact A3 (A0 fin)
  | exact A0 (A3 (A0 fin))
  | exact A0 fin
theorem mz {X:Cx} {Ku:Ks (Ko×Obj)} {σ:St} {H:Hp} {s:IN} {a:Ko} {y:V} {o:Kq V} (I:Inv X Ku σ H s) (g:DGet H a y o):s.TypeIs (.ref a) "dict" := by
 rcases g with⟨kvs,k,e,_,_⟩ | ⟨kvs,k,b,e,_,_,_⟩
 ·obtain⟨_,_,vs,_,dd⟩:=pV I.hok e;exact dd.typeIs
 ·obtain⟨_,_,xs,_,dd⟩:=mx I.hok e;exact dd.typeIs
def AO (td ty:TE):TE:=λ σ H Q=>td σ H λ x H1=>ty σ H1 λ y H2=>∃a v,x=.ref a/\DGet H2 a y (some v)/\Q v H2
def wE (ty td:TE):TE:=λ σ H Q=>ty σ H λ y H1=>td σ H1 λ x H2=>∃a o,x=.ref a/\DGet H2 a y o/\Q (.bl (!o.isSome)) H2
def AQ (td ty tv:TE):TS:=λ D σ H=>tv σ H λ v H1=>td σ H1 λ x H2=>ty σ H2 λ y H3=>∃a H4,x=.ref a/\DPut H3 a y v H4/\D.nx σ H4
section
variable {X:Cx} {o i e value:Expr} {pos pos' tpos:Pos} {td ty tv:TE}
theorem cR (hu:X.A.units+1 < cLine) (ho:PE X o td) (hi:PE X i ty) (hs:AN i):PE X (.Subscript o i pos) (AO td ty):=by intro Ku s σ H Q I h;apply wD PySem.F.slot_dict_getitem.lookup hs (thn (ho Ku s σ H _ I h) λ u s1 %[x,H1,I1,rx|q1]=>thn (hi Ku s1 σ H1 _ I1 q1) λ iv s2 %[y,H2,I2,ry,a,v,ex,g|q2]=>?_);subst ex;obtain rfl:u=Value.ref a:=rx;exact%[mz I2 g|qY hu I2 g ry λ w' s3 I3 rw'=>%[v,H2,I3,rw'|q2]]
theorem rc (hu:X.A.units+1 < cLine) (hi:PE X i ty) (ho:PE X o td):PC X .NotIn i o (wE ty td):=by intro Ku s σ H Q I h;apply thn (hi Ku s σ H _ I h) λ iv s1 %[y,H1,I1,ry|q1]=>thn (ho Ku s1 σ H1 _ I1 q1) λ u s2 %[x,H2,I2,rx,a,ov,ex,g|q2]=>?_;subst ex;obtain rfl:u=Value.ref a:=rx;exact wC hu I2 g ry λ s3 I3=>%[.bl (!ov.isSome),H2,I3,Y|q2]
theorem wF (hu:X.A.units+1 < cLine) (ho:PE X o td) (hi:PE X i ty) (hv:PE X value tv) (hs:swapsWith value (some (.Subscript o i pos')) pos.line X.env=pure false) :
  PS X (.Assign [.Subscript o i pos'] value pos) (AQ td ty tv):=by
 intro Ku s σ H D I h;apply wpAny_Assign_Subscript (thn (hv Ku s σ H _ I h) λ r s1 %[v,H1,I1,rv|q1]=>thn (ho Ku s1 σ H1 _ I1 q1) λ u s2 %[x,H2,I2,rx|q2]=>thn (hi Ku s2 σ H2 _ I2 q2) λ iv s3 %[y,H3,I3,ry,a,H4,ex,g|q3]=>?_) hs;subst ex;obtain rfl:u=Value.ref a:=rx;exact qZ hu I3 g ry rv λ s4 I4=>%[σ,H4,I4|q3]
end
theorem mB {P:IP} {w:IR} {H:Hp} (h:Heap) (hb:sysModules < h.objs.size):ObjOk P w H (h.push { cls:=.type "dict",data:=.dict #[] }) h.objs.size (.dT []) :=
 %[G0 _,LJ.mpr (Ne.symm (C1 hb)),[],.nil,_,#[],0,A9 _ rfl,%[rfl,rfl|rfl],rfl,rfl|List.nodup_nil]
def yp:TE:=λ _ H Q=>∀p,H p=none->Q (.ref p) (upd H p (.dT []))
section
variable {X:Cx} {pos:Pos}
theorem uD:PE X (.Dict [] [] pos) yp:=λ Ku s σ H Q I h=>
 wpAny_Dict_empty %[.ref s.heap.objs.size,_,I.laid (a:=s.heap.objs.size) (o:=.dT []) (t':=s.toks) (λ _ _ q=>A8 _ q) (B4 _) (mB s.heap I.big),rfl|h _ (I.hok.fresh (B4 _))]
end
structure M1 (X:Cx) (o:Expr) (m:Str) (apos:Pos) (e:Expr) (cpos:Pos):Prop where
 base:attributeBase o m X.env (eval o X.env)=eval o X.env
 few:((backTo cpos (starEach [e] X.env)).all (λ x=>!x.1) && (backToKw cpos (keywordEach [] X.env)).all (λ x=>x.1.isSome)
  && decide (([e]:Ks Expr).length+([]:Ks Keyword).length+(if ([]:Ks Keyword).isEmpty then 0 else 1) < 30))=true
 line:(apos.endLine == cpos.line)=true
 trees:backTo cpos (starEach [e] X.env)=[(false,eval e X.env)]
structure M2 (X:Cx) (o:Expr) (m:Str) (apos:Pos) (e f:Expr) (cpos:Pos):Prop where
 base:attributeBase o m X.env (eval o X.env)=eval o X.env
 few:((backTo cpos (starEach [e,f] X.env)).all (λ x=>!x.1) && (backToKw cpos (keywordEach [] X.env)).all (λ x=>x.1.isSome)
  && decide (([e,f]:Ks Expr).length+([]:Ks Keyword).length+(if ([]:Ks Keyword).isEmpty then 0 else 1) < 30))=true
 line:(apos.endLine == cpos.line)=true
 trees:backTo cpos (starEach [e,f] X.env)=[(false,eval e X.env),(false,eval f X.env)]
end L2
/- THE LAST THEOREM (shape;LID,My.* are yours):
   My.Adr: a structure of the addresses that your layer names (classes,functions);My.Txt K t: a structure (Prop) of the equations over K;
   My.txt_mk : {K} {implicit addresses ..} (e1 : nsIn K Kt "law" = some (↑f)) (e2 : K.lookup f=some %[oc,od,.func (fnOf "law" "law" params body scope dV kV doc pm an cdv ct)|sl]) (e3 : codeIn K cdv "law" = true) .. : ∃ t,My.Txt K t
(the tactic k_is has no namespace: write k_is) -/
namespace L2
open PySem PySem.Spec PyProof.Rows
section
variable {κ:Type} [DecidableEq κ]
theorem uE {kvs:Ks (κ×V)} {k:κ} (h:bG kvs k=none):¬ k∈kvs.map (·.1):=by intro m;obtain⟨p,hp,e⟩:=JH.mp m;have q:(kvs.any λ kv=>decide (kv.1=k))=true:=Js.mpr %[p,hp|B1 e];rw[cZ,h]at q;exact absurd q (by simp)
theorem wG {kvs:Ks (κ×V)} {k:κ} {v:V} (h:bG kvs k=some v):k∈kvs.map (·.1):=by
 have q:(kvs.any λ kv=>decide (kv.1=k))=true:=by
  rw[cZ,h]
  all_goals rfl
 obtain⟨p,hp,e⟩:=Js.mp q;exact JH.mpr %[p,hp|C2 e]
end
theorem fF {X:Cx} (K:C6) {x y:Str} {px py pos:Pos} {k:Nat} (hK:X.K=K) (hc:X.calm=true) (hN:X.N.Nodup) (h0:X.N[0]?=some x) (h1:X.N[1]?=some y) (l0:X.env.scope.names.lookup x=some .local) (l1:X.env.scope.names.lookup y=some .local) :
  PG X (.Tuple [.Name x px,.Name y py] k pos) (gTup K 2 (gCons (fO 0) (gCons (fO 1) yb))) :=
 hK ▸ bU hc (am (aj hN h0 (.inl l0) (.inr l0)) (am (aj hN h1 (.inl l1) (.inr l1)) bp))
theorem mC {X:Cx} (K:C6) {x y z:Str} {px py pz pos:Pos} {k:Nat} (hK:X.K=K) (hc:X.calm=true) (hN:X.N.Nodup) (h0:X.N[0]?=some x) (h1:X.N[1]?=some y) (h2:X.N[2]?=some z) (l0:X.env.scope.names.lookup x=some .local) (l1:X.env.scope.names.lookup y=some .local) (l2:X.env.scope.names.lookup z=some .local) :
  PG X (.Tuple [.Name x px,.Name y py,.Name z pz] k pos) (gTup K 3 (gCons (fO 0) (gCons (fO 1) (gCons (fO 2) yb)))) :=
 hK ▸ bU hc (am (aj hN h0 (.inl l0) (.inr l0)) (am (aj hN h1 (.inl l1) (.inr l1)) (am (aj hN h2 (.inl l2) (.inr l2)) bp)))
end L2
namespace PySem
def SqA:Bool->Heap->Ko->Kr IS->Prop
 | true,h,l,xs=>h.IsTuple l xs
 | false,h,l,xs=>h.IsList l xs
def ItA:Bool->Heap->Ko->Ko->Nat->Prop
 | true,h,a,l,k=>h.IsTupleIter a l k
 | false,h,a,l,k=>h.IsListIter a l k
abbrev mD (h:Heap) (T:Ko) (vs:Ks IS):Prop:=h.get? T=some { cls:=.type "tuple",data:=.seq vs.toArray }
theorem SqA.at {b:Bool} {h h':Heap} {l:Ko} {xs:Kr IS} (x:SqA b h l xs) (e:∀o,h.get? l=some o->h'.get? l=some o):SqA b h' l xs:=by cases b <;> (obtain⟨o,ho,r⟩:=x;exact%[o,e _ ho|r])
theorem ItA.at {b:Bool} {h h':Heap} {a l:Ko} {k:Nat} (x:ItA b h a l k) (e:∀o,h.get? a=some o->h'.get? a=some o):ItA b h' a l k:=by cases b <;> (obtain⟨o,ho,r⟩:=x;exact%[o,e _ ho|r])
theorem ItA.obj {b:Bool} {h:Heap} {a l:Ko} {k:Nat} (x:ItA b h a l k):∃o,h.get? a=some o/\∀v,o.data≠.cell v:=by cases b <;> (obtain⟨o,ho,_,d⟩:=x;exact%[o,ho|λ v q=>by rw[d]at q;cases q])
abbrev fpZ (z TI TO:Ko) (its:Ks (Bool×Ko×Ko)):Ks Ko:=z :: TI :: TO :: its.map (·.2.1)
def StZ (f:IS) (z TI TO:Ko) (its:Ks (Bool×Ko×Ko)) (i:Nat) (h:Heap):Prop :=
 IsZip h z TI TO f/\mD h TI (its.map λ p=>.ref p.2.1)/\(∃os,os.length=its.length/\mD h TO os)/\∀p∈its,ItA p.1 h p.2.1 p.2.2 i
section
variable {prog:IP} {w:IR} {A:Around} {E:IS->IN->Prop} {s:IN}
theorem uF {α:Type} {vs os:Ks α} {n:Nat} {y:α} (hy:vs[n]?=some y) (ho:n < os.length):(vs.take n ++ os.drop n).set n y=vs.take (n+1) ++ os.drop (n+1):=by
 have h:=(A7.mp hy).1;have hl:(vs.take n).length=n:=by simp;lia
 rw[Jo ho,List.set_append_right _ _ ⋯,hl,Nat.sub_self,List.set_cons_zero,List.take_succ,hy];simp
theorem re {b:Bool} {it l:Ko} {i:Nat} {items} {Q:IS->IN->Prop} (hh:A.handled=none) (hit:ItA b s.heap it l i) (hl:SqA b s.heap l items)
  (hQ:∀x,items[i]?=some x->∀h',ItA b h' it l (i+1)->Heap.SameBut it s.heap h'->Q x { s with heap:=h' }) (hE:items[i]?=none->∀h' e,Heap.ExtBut it s.heap h'->(∃o,h'.get? e=some o/\o.cls=.type "StopIteration")->E (.ref e) { s with heap:=h' }) :
  wpAny (model prog w) A (Builtin.SmallTypes.nextOf (.ref it)) Q E s:=by
 cases hx:items[i]? with
 | none=>cases b;exact wpAny_nextOf_list_end hh hit hl hx (hE hx);exact cY hh hit hl hx (hE hx)
 | some x=>cases b;exact wpAny_nextOf_list_item hit hl hx (hQ x hx);exact eB hit hl hx (hQ x hx)
theorem gL {z TI TO:Ko} {its:Ks (Bool×Ko×Ko)} {k:Nat} {vs:Ks IS} {Q:Kq IS->IN->Prop} (hh:A.handled=none) (nd:(fpZ z TI TO its).Nodup) (n0:its≠[]) (hl:its.length<=9) (st:StZ .none z TI TO its k s.heap) (ha:∀p∈its,p.2.2∉fpZ z TI TO its) (hvl:vs.length<=its.length)
  (hv:∀ (j:Nat) p,its[j]?=some p->∃xs,SqA p.1 s.heap p.2.2 xs/\(j<=vs.length->xs[k]?=vs[j]?))
  (hQ:vs.length=its.length->∀h',StZ (rawInt s.heap.objs.size) z TI TO its (k+1) h'->mD h' s.heap.objs.size vs->(∀c o,c∉fpZ z TI TO its->s.heap.get? c=some o->h'.get? c=some o)->Q (↑s.heap.objs.size) { s with heap:=h' })
  (hE:vs.length < its.length->∀h',(∀c o,c∉fpZ z TI TO its->s.heap.get? c=some o->h'.get? c=some o)->Q none { s with heap:=h' }):wpAny (model prog w) A (pyNext (.ref z)) Q E s:=by
 obtain⟨hz,hTI,⟨os,ho,hTO⟩,hi⟩:=st;have hT:s.TypeIs (.ref z) "zip" := %[_,hz|Y]
 unfold pyNext;apply A0 (Lb (wpAny_callSpecial?_slot (name:=Str.ofString "__next__") hT F.slot_zip_next
  (G9 F.slot_zip_next hT F.entry_zip_next ?_ (F.args_zip_next_1 _))))
 show wpAny _ _ (field (.ref z) 2 >>= _) _ _ _;apply A0 (LH hz rfl (x:=.bool false) rfl ?_);show wpAny _ _ (field (.ref z) 3 >>= _) _ _ _;apply A0 (LH hz rfl (x:=.ref TI) rfl ?_);apply A0 (wpAny_seqItems hTI rfl ?_);have em:(its.map λ p=>Value.ref p.2.1).toArray.isEmpty=false:=by cases its with | nil=>exact absurd rfl n0 | cons a t=>simp
 dsimp only;rw[em];show wpAny _ _ (Builtin.SmallTypes.ownedTupleIsFree (.ref z) >>= _) _ _ _;apply A0 ?_;unfold Builtin.SmallTypes.ownedTupleIsFree;apply A0 (LH hz rfl (x:=.none) rfl (A3 ?_));simp only[Lm];apply A0 (LS ?_);apply A0 (LH hz rfl (x:=.ref TO) rfl ?_);apply A0 (LD hz (by simp) λ h₁ hz₁ hs₁=>?_)
 replace hz₁:IsZip h₁ z TI TO .ellipsis:=hz₁
 simp only[J9,IZ,not_or]at nd;obtain⟨⟨n1,n2,n3⟩,⟨n4,n5⟩,n6,n7⟩:=nd;apply A0 (wpAny_forIn_list _ (λ rest b s'=>b.1=none/\∃n h',rest=((its.map λ p=>Value.ref p.2.1).zipIdx).drop n/\n<=vs.length/\s'={ s with heap:=h' }/\IsZip h' z TI TO .ellipsis/\mD h' TO (vs.take n ++ os.drop n)/\(∀ (j:Nat) p,its[j]?=some p->ItA p.1 h' p.2.1 p.2.2 (if j < n then k+1 else k))/\h'.objs.size=s.heap.objs.size/\∀c o,c≠z->c≠TO->c∉its.map (·.2.1)->s.heap.get? c=some o->h'.get? c=some o) _ ?_ ?_ _ _ ?_)
 ·rintro x rest b s' ⟨hb,n,h',hr,hn,rfl,hz',hTO',hi',hsz,hk⟩;obtain⟨b1,b2⟩:=b;cases(show b1=none from hb);have hnl:n < its.length:=by
   rcases Kj n its.length with h | h
   ·exact h
   ·rw[Jm (by simpa using h)]at hr;cases hr
  have hp:its[n]?=some its[n]:=by simp[hnl]
  generalize its[n]=p at hp;have hm:p∈its:=B7 hp;have hx:x=(Value.ref p.2.1,n)/\rest=((its.map λ p=>Value.ref p.2.1).zipIdx).drop (n+1):=by
   have e:((its.map λ p=>Value.ref p.2.1).zipIdx)[n]?=some (Value.ref p.2.1,n):=by simp[hp]
   rw[Jo (by simpa using hnl)]at hr;cases hr;exact%[by simpa[G2 (show n < ((its.map λ p=>Value.ref p.2.1).zipIdx).length by simpa using hnl)]using e|Y]
  obtain⟨rfl,rfl⟩:=hx;obtain⟨xs,sq,ex⟩:=hv n p hp;have A1:=ha p hm;simp only[IZ,not_or]at A1;have sq':SqA p.1 h' p.2.2 xs:=sq.at λ o e=>hk _ o A1.1 A1.2.2.1 A1.2.2.2 e;have it':=hi' n p hp;rw[Ky (E2 n)]at it';have mi:p.2.1∈its.map (·.2.1):=Jq hm;have iz:p.2.1≠z:=λ e=>n3 (e ▸ mi);have iT:p.2.1≠TO:=λ e=>n6 (e ▸ mi);have ne:∀ (j:Nat) q,its[j]?=some q->j≠n->q.2.1≠p.2.1:=λ j q hj h e=>h ((List.getElem?_inj (by have:=(A7.mp hj).1;simpa using this) n7).mp (by simp[hj,hp,e]));dsimp only;apply A0 (wpAny_onRaise ?_);show wpAny _ _ (Builtin.SmallTypes.nextOf (.ref p.2.1) >>= _) _ _ _;apply A0 (re hh it' sq' (λ y hy h₂ i₂ hs₂=>A3 ?_) λ hy h₂ e hs₂ he=>?_)
  ·have hnv:n < vs.length:=by
    rcases Kj n vs.length with h | h
    ·exact h
    ·rw[ex hn,Jw h]at hy;cases hy
   rw[ex hn]at hy;have hTO₂:=hs₂.extBut _ _ (Ne.symm iT) hTO';apply A0 (wpAny_seqItems hTO₂ rfl ?_);apply A0 (wpAny_updateSeq hTO₂ rfl ?_ ?_ ?_)
   ·apply A0 (wpAny_letGo (A3 ?_));have hs₃:=K4 h₂ TO (Obj.mapSeq λ x=>x.setIfInBounds n y);apply%[Y,n+1,_,Y,hnv,Y,hs₃.extBut _ _ n2 (hs₂.extBut _ _ (Ne.symm iz) hz'),?_,λ j q hj=>?_,by rw[hs₃.1,hs₂.1,hsz]|λ c o c1 c2 c3 e=>hs₃.extBut _ _ c2 (hs₂.extBut _ _ (λ e'=>c3 (e' ▸ mi)) (hk c o c1 c2 c3 e))]
    ·show Heap.get? _ _=_;rw[LF _ hTO₂ rfl,<- uF hy ⋯];simp[Obj.mapSeq]
    ·have qT:q.2.1≠TO:=λ e=>n6 (e ▸ Jq (B7 hj));rcases Nat.lt_trichotomy j n with h | h | h
     ·have:=hi' j q hj;rw[Kz h]at this;rw[Kz ⋯];exact this.at λ o e=>hs₃.extBut _ _ qT (hs₂.extBut _ _ (ne j q hj ⋯) e)
     ·subst h;rw[hp]at hj;cases hj;rw[Kz (G1 _)];exact i₂.at λ o e=>hs₃.extBut _ _ qT e
     ·have:=hi' j q hj;rw[Ky ⋯]at this;rw[Ky ⋯];exact this.at λ o e=>hs₃.extBut _ _ qT (hs₂.extBut _ _ (ne j q hj ⋯) e)
   ·exact C7 (by simp;lia) (show 9<=sizeLine by decide)
   ·exact C7 (by simp;lia) (show 9<=sizeLine+1 by decide)
  ·have hnv:vs.length<=n:=by rw[ex hn]at hy;exact List.getElem?_eq_none_iff.mp hy
   obtain⟨oe,hoe,hce⟩:=he;have hz₂:=hs₂ _ _ (Ne.symm iz) hz';have hez:e≠z:=λ x=>by subst x;rw[hz₂]at hoe;cases hoe;simp at hce
   apply LD hz₂ (by simp) λ h₃ _ hs₃=>A0 (wpAny_isInstance (T := "StopIteration") (b:=true) %[oe,hs₃.extBut _ _ hez hoe|hce] isSubtype_stop (A3 (hE ⋯ h₃ λ c o hc q=>?_)));simp only[IZ,not_or]at hc;exact hs₃.extBut _ _ hc.1 (hs₂ _ _ (λ e'=>hc.2.2.2 (e' ▸ mi)) (hk c o hc.1 hc.2.2.1 hc.2.2.2 q))
 ·rintro⟨b1,b2⟩ s' ⟨hb,n,h',hr,hn,rfl,hz',hTO',hi',hsz,hk⟩;cases(show b1=none from hb);have hnl:its.length<=n:=by
   rcases Kj n its.length with h | h
   ·have:=Li List.length hr;simp at this;lia
   ·exact h
  have e1:vs.take n ++ os.drop n=vs:=by rw[Jm ⋯,JK ⋯,JX]
  rw[e1]at hTO';apply A0 (wpAny_seqItems hTO' rfl ?_);apply A0 (wpAny_newTuple ?_ (C7 (by simp;lia) (show 9<=sizeLine by decide)));have hzl:z < h'.objs.size:=B0 hz';show wpAny _ _ (Builtin.SmallTypes.ownedTupleHandOut (.ref z) (.ref h'.objs.size) >>= _) _ _ _;apply A0 ?_;unfold Builtin.SmallTypes.ownedTupleHandOut;apply A0 (LD (A8 _ hz') (by simp) λ h₇ hz₇ hs₇=>?_);apply LD hz₇ (by simp) λ h₈ hz₈ hs₈=>?_
  replace hz₈:IsZip h₈ z TI TO (rawInt h'.objs.size):=hz₈
  have up:∀c o,c≠z->h'.get? c=some o->h₈.get? c=some o:=λ c o c1 e=>hs₈.extBut _ _ c1 (hs₇.extBut _ _ c1 (A8 _ e));have hT₈:mD h₈ h'.objs.size vs:=hs₈.extBut _ _ (JW hzl) (hs₇.extBut _ _ (JW hzl) (A9 _ rfl));apply A3 %[_,rfl|?_];apply A3 ?_;rw[hsz]at hz₈ hT₈ ⊢;apply hQ ⋯ h₈ %[hz₈,up _ _ (Ne.symm n1) (hk _ _ (Ne.symm n1) n4 n5 hTI),%[vs,⋯|up _ _ (Ne.symm n2) hTO']|λ p hp=>?_] hT₈ λ c o hc e=>?_
  ·obtain⟨j,hj⟩:=Jl hp;have:=hi' j p hj;rw[Kz (by have:=(A7.mp hj).1;lia)]at this;exact this.at λ o e=>up _ o (λ e'=>n3 (e' ▸ Jq hp)) e
  ·simp only[IZ,not_or]at hc;exact up c o hc.1 (hk c o hc.1 hc.2.2.1 hc.2.2.2 e)
 ·exact%[Y,0,h₁,Y,G0 _,Y,hz₁,hs₁.extBut _ _ (Ne.symm n2) hTO,λ j p e=>by rw[Ky (Nat.not_lt_zero _)];exact(hi p (B7 e)).at λ o q=>hs₁.extBut _ _ (λ e'=>n3 (e' ▸ Jq (B7 e))) q,hs₁.1|λ c o c1 _ _ e=>hs₁.extBut _ _ c1 e]
structure ZIts (h h':Heap) (its:Ks (Bool×Ko×Ko)):Prop where
 nd:(its.map (·.2.1)).Nodup
 it:∀p∈its,h.objs.size<=p.2.1/\p.2.1 < h'.objs.size/\ItA p.1 h' p.2.1 p.2.2 0
 keep:∀c o,h.get? c=some o->h'.get? c=some o
 le:h.objs.size<=h'.objs.size
theorem ZIts.push {h h':Heap} {its:Ks (Bool×Ko×Ko)} (Z:ZIts h h' its) (o:Obj):ZIts h (h'.push o) its :=
 %[Z.nd,λ p hp=>let ⟨a1,a2,a3⟩:=Z.it p hp;%[a1,by rw[K3];exact Jf a2|a3.at λ o e=>A8 _ e],λ c o e=>A8 _ (Z.keep c o e)|by rw[K3];have:=Z.le;lia]
theorem ZIts.add {h h':Heap} {its:Ks (Bool×Ko×Ko)} (Z:ZIts h h' its) {o:Obj} {b:Bool} {l:Ko} (i:ItA b (h'.push o) h'.objs.size l 0):ZIts h (h'.push o) (its ++ [(b,h'.objs.size,l)]):=by
 have P:=Z.push o;apply%[?_,λ p hp=>?_,P.keep|P.le]
 ·rw[JE,List.nodup_append];apply%[P.nd,by simp|λ a ha c hc e=>?_];obtain⟨p,hp,rfl⟩:=JH.mp ha;simp at hc;exact C1 (Z.it p hp).2.1 (e.trans hc)
 ·rcases C4.mp hp with hp | hp
  ·exact P.it p hp
  ·cases E4.mp hp;exact%[Z.le,by rw[K3];exact G1 _|i]
theorem nP {ls:Ks (Bool×Ko)} {Q:Ks IS->IN->Prop} (hs:∀p∈ls,∃xs,SqA p.1 s.heap p.2 xs)
  (hQ:∀ (h':Heap) (its:Ks (Bool×Ko×Ko)),its.map (λ p=>(p.1,p.2.2))=ls->ZIts s.heap h' its->Q (its.map λ p=>.ref p.2.1) { s with heap:=h' }) :
  wpAny (model prog w) A (Builtin.SmallTypes.iterAll (ls.map λ p=>.ref p.2)) Q E s:=by
 unfold Builtin.SmallTypes.iterAll;apply A0 (wpAny_forIn_list _ (λ rest b s'=>∃ (its:Ks (Bool×Ko×Ko)) (ls':Ks (Bool×Ko)) (h':Heap),b=(its.map λ p=>Value.ref p.2.1).toArray/\rest=(ls'.map λ p=>Value.ref p.2)/\its.map (λ p=>(p.1,p.2.2)) ++ ls'=ls/\s'={ s with heap:=h' }/\ZIts s.heap h' its) _ ?_ ?_ _ _ %[[],ls,s.heap,rfl,rfl,rfl,rfl,.nil,by simp,λ _ _ e=>e|B4 _])
 ·rintro x rest b s' ⟨its,ls',h',rfl,hr,he,rfl,Z⟩;cases ls' with
  | nil=>cases hr
  | cons p t=>
   obtain⟨b,l⟩:=p;cases hr;obtain⟨xs,sq⟩:=hs (b,l) (by rw[<- he];simp);have sq':SqA b h' l xs:=sq.at λ o e=>Z.keep _ o e;apply A0 (K2 ?_);cases b
   ·exact Lp sq' (A3 %[its ++ [(false,h'.objs.size,l)],t,_,by simp,rfl,by rw[<- he];simp,rfl|Z.add %[_,A9 _ rfl,rfl|rfl]])
   ·exact Lk sq' (A3 %[its ++ [(true,h'.objs.size,l)],t,_,by simp,rfl,by rw[<- he];simp,rfl|Z.add %[_,A9 _ rfl,rfl|rfl]])
 ·rintro b s' ⟨its,ls',h',rfl,hr,he,rfl,Z⟩;cases ls' with
  | cons p t=>cases hr
  | nil=>exact A3 (by simpa using hQ h' its (by simpa using he) Z)
structure ZipNew (h h':Heap) (ls:Ks (Bool×Ko)) (z TI TO:Ko) (its:Ks (Bool×Ko×Ko)):Prop where
 src:its.map (λ p=>(p.1,p.2.2))=ls
 nd:(fpZ z TI TO its).Nodup
 old:∀a∈fpZ z TI TO its,h.objs.size<=a
 st:StZ .none z TI TO its 0 h'
 keep:∀c o,h.get? c=some o->h'.get? c=some o
theorem uG (ls:Ks (Bool×Ko)) (hl:ls.length<=9) :
  Meets (Builtin.«zip.__new__» %[.type "zip" :: ls.map λ p=>.ref p.2|[]]) (λ _ R s=>(∀p∈ls,∃xs,SqA p.1 s.heap p.2 xs) /\
   ∀h' z TI TO its,ZipNew s.heap h' ls z TI TO its->R (.ok (.ret (.ref z))) { s with heap:=h' }) :=
 .of_wp λ prog w A R s h=>by
  obtain⟨hs,h⟩:=h;have nine:9<=sizeLine:=∅
  unfold Builtin.«zip.__new__» Builtin.SmallTypes.newClass;simp only[isType,sub_zip,pure_bind];show wpAny _ _ (Builtin.SmallTypes.iterAll (ls.map λ p=>.ref p.2) >>= _) _ _ _;apply A0 (nP hs λ h' its e Z=>?_);have len:its.length<=sizeLine:=by rw[<- e,B5]at hl;lia
  apply A0 (wpAny_newTuple ?_ (by simpa using len));apply A0 (wpAny_newTuple ?_ (by simpa using len));generalize h1:h'.push _=g;have e1:g.objs.size=h'.objs.size+1:=by rw[<- h1,K3]
  generalize h2:g.push _=g2;have e2:g2.objs.size=h'.objs.size+2:=by rw[<- h2,K3,e1]
  show wpAny _ _ (newObj (.type "zip") (.fields #[.none,.bool false,.bool false,.ref h'.objs.size,.ref g.objs.size]) >>= _) _ _ _;apply A0 (IL ?_);have Z2:ZIts s.heap g2 its:=h2 ▸ (h1 ▸ Z.push _:ZIts s.heap g its).push _;have g1:mD g h'.objs.size (its.map λ p=>.ref p.2.1):=h1 ▸ A9 _ rfl;have gi:mD g2 h'.objs.size (its.map λ p=>.ref p.2.1):=h2 ▸ A8 _ g1;have go:mD g2 g.objs.size ((its.map λ p=>Value.ref p.2.1).map λ _=>.none):=h2 ▸ A9 _ rfl;rw[Jc]at go;have Z3:=Z2.push { cls:=.type "zip",data:=.fields #[.none,.bool false,.bool false,.ref h'.objs.size,.ref g.objs.size] };have lt:∀a∈its.map (·.2.1),s.heap.objs.size<=a/\a < h'.objs.size:=λ a ha=>by obtain⟨p,hp,rfl⟩:=JH.mp ha;exact%[(Z.it p hp).1|(Z.it p hp).2.1]
  apply A3 %[_,rfl|h _ g2.objs.size h'.objs.size g.objs.size its %[e,?_,λ a ha=>?_,%[A9 _ rfl,A8 _ gi,%[_,by simp|A8 _ go]|λ p hp=>(Z3.it p hp).2.2]|Z3.keep]]
  ·simp only[J9,IZ,not_or];exact%[%[JW ⋯,JW ⋯|λ x=>by have:=(lt _ x).2;lia],%[C1 ⋯|λ x=>by have:=(lt _ x).2;lia],λ x=>by have:=(lt _ x).2;lia|Z.nd]
  ·have le:=Z.le;simp only[IZ]at ha;rcases ha with rfl | rfl | rfl | ha
   ·lia
   ·lia
   ·lia
   ·exact(lt _ ha).1
theorem rf {ls:Ks (Bool×Ko)} {Q:IS->IN->Prop} (hl:ls.length<=9) (hct:checkTypeCall "zip" %[ls.map λ p=>.ref p.2|[]]=pure ()) (hcn:checkBuiltinCall "zip.__new__" %[.type "zip" :: ls.map λ p=>.ref p.2|[]]=pure ())
  (hok:∀obj,argsOk "object.__init__" %[obj :: ls.map λ p=>.ref p.2|[]]) (hs:∀p∈ls,∃xs,SqA p.1 s.heap p.2 xs) (h:∀h' z TI TO its,ZipNew s.heap h' ls z TI TO its->Q (.ref z) { s with heap:=h' }) :
  wpAny (model prog w) A (call (.type "zip") (ls.map λ p=>.ref p.2)) Q E s :=
 callType_new F.called_zip ∅ hct hcn hok F.entry_zip_new (uG ls hl) %[hs|λ h' z TI TO its Z=>show _/\_ from%[%[_,Z.st.1|rfl]|h h' z TI TO its Z]]
end
end PySem
namespace L2
open PySem PySem.Spec PyProof.Rows
def sqO:Bool->Ks V->HO
 | true,xs=>.tup xs
 | false,xs=>.lst xs
theorem Inv.sq {X:Cx} {Ku:Ks (Ko×Obj)} {σ:St} {H:Hp} {s:IN} (I:Inv X Ku σ H s) {b:Bool} {l:Ko} {xs:Ks V} (e:H l=some (sqO b xs)):∃its:Ks IS,Vals xs its/\SqA b s.heap l its.toArray:=by
 cases b
 ·obtain⟨its,r,p,_⟩:=I.list (IV e);exact%[its,r|p.isList]
 ·obtain⟨its,r,p,_⟩:=I.tuple (IU e);exact%[its,r|p]
def RowN (H:Hp) (i:Nat):Ks (Bool×Ko)->Ks V->Prop
 | [],vs=>vs=[]
 | p :: ls,[]=>(∃xs,H p.2=some (sqO p.1 xs)/\xs.length<=i)/\∀q∈ls,∃xs,H q.2=some (sqO q.1 xs)
 | p :: ls,v :: vs=>(∃xs,H p.2=some (sqO p.1 xs)/\xs[i]?=some v)/\RowN H i ls vs
def wH (ls:Ks (Bool×Ko)):It :=
 %[λ i H=>∃vs,RowN H i ls vs/\vs.length=ls.length,λ i H v H'=>∃p vs,H p=none/\v=.ref p/\H'=upd H p (.tup vs)/\RowN H i ls vs/\vs.length=ls.length|λ i H=>∃vs,RowN H i ls vs/\vs.length < ls.length]
section
variable {X:Cx} {Ku:Ks (Ko×Obj)} {σ:St} {H:Hp} {s:IN}
theorem RowN.src {i:Nat}:∀ {ls:Ks (Bool×Ko)} {vs:Ks V},RowN H i ls vs->∀p∈ls,∃xs,H p.2=some (sqO p.1 xs)
 | [],_,_,p,hp=>by cases hp
 | q :: ls,[],h,p,hp=>by
  rcases IZ.mp hp with rfl | hp
  ·obtain⟨xs,e,_⟩:=h.1;exact%[xs|e]
  ·exact h.2 p hp
 | q :: ls,v :: vs,h,p,hp=>by
  rcases IZ.mp hp with rfl | hp
  ·obtain⟨xs,e,_⟩:=h.1;exact%[xs|e]
  ·exact RowN.src h.2 p hp
theorem RowN.vals (I:Inv X Ku σ H s) {i:Nat}:∀ {ls:Ks (Bool×Ko)} {vs:Ks V},RowN H i ls vs->∃us,Vals vs us/\∀ (j:Nat) p,ls[j]?=some p->∃xs,SqA p.1 s.heap p.2 xs/\(j<=us.length->xs[i]?=us[j]?)
 | [],vs,h=>by cases h;exact%[[],.nil|λ j p e=>by simp at e]
 | q :: ls,[],h=>by
  apply%[[],.nil|λ j p e=>?_];cases j with
  | zero=>
   cases e;obtain⟨xs,e,l⟩:=h.1;obtain⟨its,rv,p⟩:=I.sq e;exact%[_,p|λ _=>by simpa using by rw[<- rv.length];exact l]
  | succ j=>
   obtain⟨xs,e⟩:=h.2 p (B7 (by simpa using e));obtain⟨its,rv,p⟩:=I.sq e;exact%[_,p|λ h=>absurd h (by simp)]
 | q :: ls,v :: vs,h=>by
  obtain⟨xs,e,ev⟩:=h.1;obtain⟨us,r1,r3⟩:=RowN.vals I h.2;obtain⟨its,rv,p⟩:=I.sq e;obtain⟨u,hu,ru⟩:=rv.get ev;apply%[u :: us,.cons ru r1|λ j p' e'=>?_];cases j with
  | zero=>cases e';exact%[_,p|λ _=>by simpa using hu]
  | succ j=>
   obtain⟨ys,y1,y2⟩:=r3 j p' (by simpa using e');exact%[ys,y1|λ h=>by simpa using y2 (by simpa using h)]
end
theorem rg {P:IP} {w:IR} {K:C6} {es:Ks Expr} {kk:Nat} {tp:Pos} {ls:Ks (Bool×Ko)} {z TI TO:Ko} {its:Ks (Bool×Ko×Ko)} (src:its.map (λ p=>(p.1,p.2.2))=ls) (nd:(fpZ z TI TO its).Nodup) (n0:its≠[]) (hl:its.length<=9) :
  Turn P w K (.Tuple es kk tp) (wH ls) (fpZ z TI TO its) z (StZ .none z TI TO its) where
 mem:=by simp
 obj:=λ i h st b hb=>by
  obtain⟨a1,a2,⟨os,_,a3⟩,a4⟩:=st;simp only[IZ]at hb;rcases hb with rfl | rfl | rfl | hb
  ·exact%[_,a1|λ v q=>by cases q]
  ·exact%[_,a2|λ v q=>by cases q]
  ·exact%[_,a3|λ v q=>by cases q]
  ·obtain⟨p,hp,rfl⟩:=JH.mp hb;exact(a4 p hp).obj
 keep:=λ i h h' st k=>by obtain⟨a1,a2,⟨os,l,a3⟩,a4⟩:=st;exact%[k z (by simp) _ a1,k TI (by simp) _ a2,%[os,l|k TO (by simp) _ a3]|λ p hp=>(a4 p hp).at λ o e=>k _ (by simp only[IZ];exact .inr (.inr (.inr (Jq hp)))) o e]
 item:=by
  intro X hP hw hK hc i Ku s σ H E I hf st ⟨vs,row,hvl⟩;subst hP hw hK src;obtain⟨a1,a2,⟨os,ol,a3⟩,a4⟩:=id st;obtain⟨us,rv,hu⟩:=row.vals I;have ul:=rv.length;rw[B5]at hvl;apply gL (I.ok.hd hc) nd n0 hl st (λ p hp hb=>?_) (vs:=us) ⋯ (λ j p e=>hu j (p.1,p.2.2) (by simp[e])) (λ _ h' ⟨b1,b2,⟨ot,ol',b3⟩,b4⟩ b5 bk=>%[_,Y|?_]) λ h=>⋯
  ·obtain⟨xs,e⟩:=row.src (p.1,p.2.2) (Jq (f:=λ p=>(p.1,p.2.2)) hp);rw[(hf _ hb).1]at e;cases e
  ·apply wpAny_letOwnedTupleGo_zip b1 λ h'' c1 cs=>?_;have zs:z < s.heap.objs.size:=B0 a1;have ne:∀b∈TI :: TO :: its.map (·.2.1),b≠z:=λ b hb e=>(J9.mp nd).1 (e ▸ hb);have I1:Inv X Ku σ H { s with heap:=h'' }:=I.turnedN (t':=s.toks) hf λ b o hb e=>cs.extBut b o (λ e'=>hb (by simp[e'])) (bk b o hb e);have hn:H s.heap.objs.size=none:=I.hok.fresh (B4 _);have I2:Inv X Ku σ (upd H s.heap.objs.size (.tup vs)) { s with heap:=h'' }:=I1.track (I.fpOk (H':=H) (B4 _) hn) I.sz %[C7 ⋯ (show 9<=sizeLine by decide),us,rv,_,cs.extBut _ _ (JW zs) b5,Y,_|Y];have tn:StZ .none z TI TO its (i+1) h'':=%[c1,cs.extBut _ _ (ne TI (by simp)) b2,%[ot,ol'|cs.extBut _ _ (ne TO (by simp)) b3]|λ p hp=>(b4 p hp).at λ o e=>cs.extBut _ _ (ne _ (by simp only[IZ];exact .inr (.inr (Jq hp)))) e]
   apply%[.ref s.heap.objs.size,_,I2,Y,%[_,vs,hn,Y,Y,row|by simpa using hvl],tn|λ b hb=>?_];have hbl:b < s.heap.objs.size:=by
    simp only[IZ]at hb;rcases hb with rfl | rfl | rfl | hb
    ·exact zs
    ·exact B0 a2
    ·exact B0 a3
    ·obtain⟨p,hp,rfl⟩:=JH.mp hb;obtain⟨o,ho,_⟩:=(a4 p hp).obj;exact B0 ho
   rw[ah (C1 hbl)];exact(hf b hb).1
 done:=by
  intro X hP hw hK hc i Ku s σ H E I hf st ⟨vs,row,hvl⟩;subst hP hw hK src;obtain⟨us,rv,hu⟩:=row.vals I;have ul:=rv.length;rw[B5]at hvl;apply gL (I.ok.hd hc) nd n0 hl st (λ p hp hb=>?_) (vs:=us) ⋯ (λ j p e=>hu j (p.1,p.2.2) (by simp[e])) (λ h=>⋯) λ _ h' bk=>%[Y|I.turnedN (t':=s.toks) hf bk]
  obtain⟨xs,e⟩:=row.src (p.1,p.2.2) (Jq (f:=λ p=>(p.1,p.2.2)) hp);rw[(hf _ hb).1]at e;cases e
 self:=λ _ _ _ _ _ st h=>wpAny_pyIter_zip st.1 h
theorem Turn.conv {P:IP} {w:IR} {K:C6} {tg:Expr} {J J':It} {fp:Ks Ko} {it:Ko} {tn:Nat->Heap->Prop} (T:Turn P w K tg J fp it tn) (h1:∀i H,J'.go i H->J.go i H) (h2:∀i H v H',J.yld i H v H'->J'.yld i H v H') (h3:∀i H,J'.stop i H->J.stop i H):Turn P w K tg J' fp it tn :=
 %[T.mem,T.obj,T.keep,λ X a b c d i Ku s σ H E I hf t g=>K6 (T.item X a b c d i Ku s σ H E I hf t (h1 _ _ g)) (λ r s1 ⟨u,e,z⟩=>%[u,e|K6 z (λ _ s2 ⟨x,H',q1,q2,q3,q4⟩=>%[x,H',q1,q2,h2 _ _ _ _ q3|q4]) λ _ _ z=>z]) λ _ _ z=>z,λ X a b c d i Ku s σ H E I hf t g=>T.done X a b c d i Ku s σ H E I hf t (h3 _ _ g)|T.self]
theorem pX:∀ {ls:Ks (Bool×Ko)} {us:Ks IS},Vals (ls.map λ p=>V.ref p.2) us->us=ls.map λ p=>Value.ref p.2
 | [],_,.nil=>rfl
 | _ :: _,_,.cons r rr=>by cases r;exact Li _ (pX rr)
theorem hG {X:Cx} {a:Expr} {as:Ks Expr} {ta:TA} {p pos tp:Pos} {es:Ks Expr} {kk:Nat} {C:Ks V->Hp->(It->Hp->Prop)->Prop} (hg:Gl X "zip") (hm:X.mg "zip" = none) (ha:PA X (a :: as) ta)
  (hs:starEach (a :: as) X.env=(false,eval a X.env) :: starEach as X.env) (hp:(backTo pos (starEach as X.env)).any (·.1)=false) (n:Nat) (hn:n < 9) (hct:∀vs:Ks IS,vs.length=n+1->checkTypeCall "zip" %[vs|[]]=pure ()/\checkBuiltinCall "zip.__new__" %[.type "zip" :: vs|[]]=pure ()/\∀obj,argsOk "object.__init__" %[obj :: vs|[]])
  (hw:∀vs H1 R,C vs H1 R->∃ (ls:Ks (Bool×Ko)) (J:It),ls.length=n+1/\vs=ls.map (λ p=>.ref p.2)/\(∀p∈ls,∃xs,H1 p.2=some (sqO p.1 xs))/\R J H1/\(∀i H,J.go i H->(wH ls).go i H)/\(∀i H v H',(wH ls).yld i H v H'->J.yld i H v H')/\∀i H,J.stop i H->(wH ls).stop i H) :
  PI X (.Tuple es kk tp) (.Call (.Name "zip" p) (a :: as) [] pos) (λ σ H R=>ta σ H λ vs H1=>C vs H1 R):=by
 intro Ku s σ H R I h;apply Call_ (eI I hg hm PyProof.Rows.boot_zip (LK (thn (ha pos Ku s σ H _ I h) λ us s1 %[vs,H1,I1,r1|q1]=>?_) hs hp));obtain⟨ls,J,ln,rfl,sq,q,c1,c2,c3⟩:=hw _ _ _ q1;have e:=pX r1;subst e;obtain⟨d1,d2,d3⟩:=hct (ls.map λ p=>Value.ref p.2) (by simpa using ln);apply rf ⋯ d1 d2 d3 (λ p hp=>?_) λ h' z TI TO its Z=>?_
 ·obtain⟨xs,e⟩:=sq p hp;obtain⟨_,_,q⟩:=I1.sq e;exact%[_|q]
 ·have il:its.length=n+1:=by rw[<- ln,<- Z.src,B5]
  exact wpAny_pyIter_zip Z.st.1 ⟨z,_,_,J,H1,Y,I1.kept (t':=s1.toks) Z.keep,(rg Z.src Z.nd (λ e=>by rw[e]at il;cases il) ⋯).conv c1 c2 c3,Z.st,λ b hb=>I1.fpOk (Z.old b hb) (I1.hok.fresh (Z.old b hb)),q⟩
theorem de (a b c d:IS):argsOk "object.__init__" %[[a,b,c,d]|[]]:=by unfold argsOk;rw[signature?_of (id := "object.__init__") (n:=['_','_','t','i','n','i','_','_']) (o:=['t','c','e','j','b','o']) (by kernel_rfl) F.owner_object];kernel_rfl
def sqE (b c:Bool) (l1 l2:Ko):It :=
  ⟨λ i H=>∃xs ys x y,H l1=some (sqO b xs)/\H l2=some (sqO c ys)/\xs[i]?=some x/\ys[i]?=some y,
   λ i H v H'=>∃p xs ys x y,H p=none/\v=.ref p/\H'=upd H p (.tup [x,y])/\H l1=some (sqO b xs)/\H l2=some (sqO c ys)/\xs[i]?=some x/\ys[i]?=some y,
   λ i H=>∃xs ys,H l1=some (sqO b xs)/\H l2=some (sqO c ys)/\(xs.length<=i\/ys.length<=i)⟩
theorem wI {X:Cx} (bb cc:Bool) {a b:Expr} {ta:TA} {p pos tp:Pos} {es:Ks Expr} {kk:Nat} (hg:Gl X "zip") (hm:X.mg "zip" = none) (ha:PA X [a,b] ta)
  (hs:starEach [a,b] X.env=[(false,eval a X.env),(false,eval b X.env)]:=by rfl) (hs2:starEach [b] X.env=[(false,eval b X.env)]:=by rfl) :
  PI X (.Tuple es kk tp) (.Call (.Name "zip" p) [a,b] [] pos) (λ σ H R=>ta σ H λ vs H1=>∃l1 l2 xs ys,vs=[.ref l1,.ref l2]/\H1 l1=some (sqO bb xs)/\H1 l2=some (sqO cc ys)/\R (sqE bb cc l1 l2) H1):=by
 apply hG hg hm ha (by rw[hs,hs2]) (by rw[hs2];rfl) 1 ⋯ (λ vs hv=>?_) λ vs H1 R %[l1,l2,xs,ys,e,e1,e2|q]=>%[[(bb,l1),(cc,l2)],_,Y,e,?_,q,?_,?_|?_]
 ·match vs,hv with
  | [x,y],_=>exact%[F.typeCall_zip_2 _ _,F.newCall_zip_2 _ _|λ obj=>F.args_object_init_3 obj _ _]
 ·simp only[IZ,JQ,LO];rintro p (rfl | rfl)
  ·exact%[_|e1]
  ·exact%[_|e2]
 ·rintro i H ⟨xs,ys,x,y,a1,a2,a3,a4⟩;exact%[[x,y],%[%[_,a1|a3],%[_,a2|a4]|Y]|Y]
 ·rintro i H v H' ⟨p,vs,a0,rfl,rfl,r,hl⟩
  match vs,r,hl with
  | [x,y],⟨⟨xs,a1,a3⟩,⟨ys,a2,a4⟩,_⟩,_=>exact%[p,xs,ys,x,y,a0,Y,Y,a1,a2,a3|a4]
 ·rintro i H ⟨xs,ys,a1,a2,a3⟩
  by_cases h:xs.length<=i
  ·apply%[[],%[%[_,a1|h]|?_]|by simp];rintro q hq;cases E4.mp hq;exact%[_|a2]
  ·exact⟨[xs[i]'⋯],⟨%[_,a1|by simp],%[_,a2|by rcases a3 with a | a;lia;exact a],by simp⟩,by simp⟩
def wJ (l1 l2:Ko):It :=
  ⟨λ i H=>∃xs ys x y,H l1= ~~~xs/\H l2=↥ys/\xs[i]?=some x/\ys[i]?=some y,
   λ i H v H'=>∃p xs ys x y,H p=none/\v=.ref p/\H'=upd H p (.tup [x,y])/\H l1= ~~~xs/\H l2=↥ys/\xs[i]?=some x/\ys[i]?=some y,
   λ i H=>∃xs ys,H l1= ~~~xs/\H l2=↥ys/\(xs.length<=i\/ys.length<=i)⟩
def AR (ta:TA):TI:=λ σ H R=>ta σ H λ vs H1=>∃l1 l2 xs ys,vs=[.ref l1,.ref l2]/\H1 l1= ~~~xs/\H1 l2=↥ys/\R (wJ l1 l2) H1
theorem wK {X:Cx} {a b:Expr} {ta:TA} {p pos tp:Pos} {es:Ks Expr} {kk:Nat} (hg:Gl X "zip") (hm:X.mg "zip" = none) (ha:PA X [a,b] ta)
  (hs:starEach [a,b] X.env=[(false,eval a X.env),(false,eval b X.env)]:=by rfl) (hs2:starEach [b] X.env=[(false,eval b X.env)]:=by rfl) :
  PI X (.Tuple es kk tp) (.Call (.Name "zip" p) [a,b] [] pos) (AR ta):=wI true false hg hm ha hs hs2
end L2
namespace PyProof.Rows
set_option autoImplicit false
open PySem
structure SBaseT (κ0:SortKind) (a₀:Kr Kp) (st:SortSt):Prop where
 perm:(arrOf st).Perm a₀
 kind:kindOf st=κ0
 failed:failedOf st=none
 pend:pendingOf st=#[]
def bz (prog:IP) (w:IR) (A:Around) (s:IN) (κ0:SortKind) (κ:KeyKind):Prop :=
 ∀ (E:IS->IN->Prop) (x y:IS) (a b:κ.α) (Q:Bool->IN->Prop),κ.keyOf x=some a->κ.keyOf y=some b->Q (κ.blt a b) s->wpAny (model prog w) A (keyLt' κ0 x y) Q E s
section
variable {prog:IP} {w:IR} {A:Around} {E:IS->IN->Prop} {s:IN} {a₀:Kr Kp} {κ:KeyKind} {κ0:SortKind}
theorem nQ (hO:bz prog w A s κ0 κ) {st:SortSt} {i j:Nat} {x y:IS} {a b:κ.α} {p q:IS} {Q:Kq Bool->SortSt->Prop} (hk:kindOf st=κ0)
  (hi:(arrOf st)[i]?=some (x,p)) (hj:(arrOf st)[j]?=some (y,q)) (ha:κ.keyOf x=some a) (hb:κ.keyOf y=some b) (h:Q (some (κ.blt a b)) st) :
  wpS (model prog w) A E s (ltAt' i j) Q st:=by
 rw[ltAt'_eq];apply A4 (wpS_get ?_);show wpS _ _ _ _ (do let x<-elem' (arrOf st) i;let y<-elem' (arrOf st) j;lt' x y) Q st;rw[elem'_eq,elem'_eq,hi,hj];apply A4 (A5 (A4 (A5 ?_)));rw[lt'_eq];apply A4 (wpS_get ?_);rw[hk];apply A4 (wpS_lift (Lb (hO _ x y a b _ ha hb %[rfl|?_])));exact A5 h
end
end PyProof.Rows
namespace L2
open PySem PySem.Spec PyProof.Rows
def bP:Ks Bool->Ks IS->Kq (Ks Int)
 | [],[]=>some []
 | false :: r,.int i _ :: vs=>(bP r vs).map (i :: ·)
 | true :: r,.bool b :: vs=>(bP r vs).map ((if b=true then 1 else 0) :: ·)
 | _,_=>none
def eM:Ks Bool->Ks V->Kq (Ks Int)
 | [],[]=>some []
 | false :: r,.int i :: vs=>(eM r vs).map (i :: ·)
 | true :: r,.bl b :: vs=>(eM r vs).map ((if b=true then 1 else 0) :: ·)
 | _,_=>none
theorem lc:∀ {sh:Ks Bool} {vs:Ks V} {us:Ks IS} {k:Ks Int},Vals vs us->eM sh vs=some k->bP sh us=some k
 | [],[],_,_,r,h=>by cases r;exact h
 | [],_ :: _,_,_,_,h=>by cases h
 | false :: r,v :: vs,us,k,rv,h=>by
  cases rv with
  | cons r1 r2=>
   cases v with
   | int i=>
    obtain⟨t,rfl⟩:=r1;have h:(eM r vs).map (i :: ·)=some k:=h;show(bP r _).map (i :: ·)=some k;cases e:eM r vs with
    | none=>rw[e]at h;cases h
    | some k'=>rw[e]at h;rw[lc r2 e];exact h
   | _=>cases h
 | true :: r,v :: vs,us,k,rv,h=>by
  cases rv with
  | cons r1 r2=>
   cases v with
   | bl b=>
    cases(show _=Value.bool b from r1);have h:(eM r vs).map ((if b=true then 1 else 0) :: ·)=some k:=h;show(bP r _).map ((if b=true then 1 else 0) :: ·)=some k;cases e:eM r vs with
    | none=>rw[e]at h;cases h
    | some k'=>rw[e]at h;rw[lc r2 e];exact h
   | _=>cases h
 | false :: _,[],_,_,_,h=>by cases h
 | true :: _,[],_,_,_,h=>by cases h
def bg:Ks Int->Ks Int->Bool
 | [],[]=>false
 | [],_ :: _=>true
 | _ :: _,[]=>false
 | a :: r,b :: t=>if a=b then bg r t else decide (a < b)
theorem df:∀a,bg a a=false
 | []=>rfl
 | a :: r=>by rw[bg,Kz rfl];exact df r
theorem fc:∀a b c,bg a b=true->bg b c=true->bg a c=true
 | [],[],_,h,_=>by cases h
 | [],_ :: _,[],_,h=>by cases h
 | [],_ :: _,_ :: _,_,_=>rfl
 | _ :: _,[],_,h,_=>by cases h
 | _ :: _,_ :: _,[],_,h=>by cases h
 | a :: r,b :: t,c :: u,h1,h2=>by
  rw[bg]at h1 h2 ⊢
  by_cases e1:a=b
  ·rw[Kz e1]at h1
   by_cases e2:b=c
   ·rw[Kz e2]at h2;rw[Kz (e1.trans e2)];exact fc r t u h1 h2
   ·rw[Ky e2]at h2;rw[Ky (by rw[e1];exact e2),e1];exact h2
  ·rw[Ky e1]at h1;have h1:=C2 h1
   by_cases e2:b=c
   ·rw[Ky ⋯];exact B1 ⋯
   ·rw[Ky e2]at h2;have h2:=C2 h2;rw[Ky ⋯];exact B1 ⋯
theorem hJ:∀a b c,bg a c=true->bg a b=true\/bg b c=true
 | [],[],_,h=>.inr h
 | [],_ :: _,_,_=>.inl rfl
 | _ :: _,_,[],h=>by cases h
 | _ :: _,[],_ :: _,_=>.inr rfl
 | a :: r,b :: t,c :: u,h=>by
  rw[bg]at h;rw[bg,bg]
  by_cases e1:a=b
  ·rw[Kz e1]
   by_cases e2:b=c
   ·rw[Kz (e1.trans e2)]at h;rw[Kz e2];exact hJ r t u h
   ·rw[Ky (by rw[e1];exact e2)]at h;rw[Ky e2];exact .inr (by rw[<- e1];exact h)
  ·rw[Ky e1]
   by_cases e3:a=c
   ·rw[Ky ⋯]
    by_cases z:a < b
    ·exact .inl (B1 z)
    ·exact .inr (B1 ⋯)
   ·rw[Ky e3]at h;have h:=C2 h
    by_cases z:a < b
    ·exact .inl (B1 z)
    ·rw[Ky ⋯];exact .inr (B1 ⋯)
theorem cW:∀a b,bg a b=false->bg b a=false->a=b
 | [],[],_,_=>rfl
 | [],_ :: _,h,_=>by cases h
 | _ :: _,[],_,h=>by cases h
 | a :: r,b :: t,h1,h2=>by
  rw[bg]at h1 h2
  by_cases e:a=b
  ·rw[Kz e]at h1;rw[Kz e.symm]at h2;rw[e,cW r t h1 h2]
  ·rw[Ky e]at h1;rw[Ky (Ne.symm e)]at h2;have:=of_decide_eq_false h1;have:=of_decide_eq_false h2;exact absurd (show a=b by lia) e
def jx (h:Heap) (sh:Ks Bool):KeyKind where
 α:=Ks Int
 blt:=bg
 irrefl:=df
 trans:=fc
 negTrans:=hJ
 total:=cW
 keyOf:=λ v=>match v with
  | .ref a=>match h.get? a with
   | some o=>match o.data with
    | .seq xs _=>bP sh xs.toList
    | _=>none
   | none=>none
  | _=>none
 dflt:=[]
theorem pY {h:Heap} {sh:Ks Bool} {v:IS} {k:Ks Int} (e:(jx h sh).keyOf v=some k):∃a o xs n,v=.ref a/\h.get? a=some o/\o.data=.seq xs n/\bP sh xs.toList=some k:=by
 cases v with
 | ref a=>
  have e:(match h.get? a with
   | some o=>match o.data with
    | .seq xs _=>bP sh xs.toList
    | _=>none
   | none=>none)=some k:=e
  cases h1:h.get? a with
  | none=>rw[h1]at e;cases e
  | some o=>
   rw[h1]at e;cases h2:o.data with
   | seq xs n=>
    have e:(match o.data with
     | .seq xs _=>bP sh xs.toList
     | _=>none)=some k:=e
    rw[h2]at e;exact%[a,o,xs,n,Y,h1,h2|e]
   | _=>
    have e:(match o.data with
     | .seq xs _=>bP sh xs.toList
     | _=>none)=some k:=e
    rw[h2]at e;cases e
 | _=>cases e
theorem fX:∀ {sh:Ks Bool} {us:Ks IS} {k:Ks Int},bP sh us=some k->us.length=sh.length
 | [],[],_,_=>rfl
 | [],_ :: _,_,h=>by cases h
 | false :: r,[],_,h=>by cases h
 | true :: r,[],_,h=>by cases h
 | false :: r,v :: vs,k,h=>by
  cases v with
  | int i t=>
   have h:(bP r vs).map (i :: ·)=some k:=h;cases e:bP r vs with
   | none=>rw[e]at h;cases h
   | some k'=>rw[JF,JF,fX e]
  | _=>cases h
 | true :: r,v :: vs,k,h=>by
  cases v with
  | bool b=>
   have h:(bP r vs).map ((if b=true then 1 else 0) :: ·)=some k:=h;cases e:bP r vs with
   | none=>rw[e]at h;cases h
   | some k'=>rw[JF,JF,fX e]
  | _=>cases h
section
variable {prog:IP} {w:IR} {A:Around} {E:IS->IN->Prop} {s:IN}
theorem mE {a b:Bool} {Q:Bool->IN->Prop} (h:Q (a == b) s):wpAny (model prog w) A (eqBool (.bool a) (.bool b)) Q E s:=by
 unfold eqBool;show wpAny _ _ (if (Value.bool a == Value.bool b)=true then _ else _) Q E s
 by_cases hab:(Value.bool a == Value.bool b)=true
 ·rw[Kz hab];have e:a=b:=by have:=eq_of_beq hab;injection this
  subst e;exact A0 (LS (A3 (by simpa using h)))
 ·rw[Ky hab];exact A0 (eq_bool (G4 h))
theorem ld {bb:Bool} {Q:Bool->IN->Prop}:∀ (sh:Ks Bool) (xs ys:Ks IS) (a c:Ks Int) (i:Nat),bP sh xs=some a->bP sh ys=some c->((bb && i == 0)=true->sh.head?=some false\/sh=[])->Q (bg a c) s->PySem.W.KatLex prog w A bb false Q (xs.zip ys) i s
 | [],[],[],a,c,i,h1,h2,_,q=>by cases h1;cases h2;exact PySem.W.kat_nil q
 | [],_ :: _,_,_,_,_,h,_,_,_=>by cases h
 | [],[],_ :: _,_,_,_,_,h,_,_=>by cases h
 | false :: r,[],_,_,_,_,h,_,_,_=>by cases h
 | true :: r,[],_,_,_,_,h,_,_,_=>by cases h
 | false :: r,_ :: _,[],_,_,_,_,h,_,_=>by cases h
 | true :: r,_ :: _,[],_,_,_,_,h,_,_=>by cases h
 | false :: r,v :: vs,u :: us,a,c,i,h1,h2,hb,q=>by
  cases v with
  | int p t=>cases u with
   | int p' t'=>
    have h1:(bP r vs).map (p :: ·)=some a:=h1;have h2:(bP r us).map (p' :: ·)=some c:=h2;cases e1:bP r vs with
    | none=>rw[e1]at h1;cases h1
    | some a'=>
     cases e2:bP r us with
     | none=>rw[e2]at h2;cases h2
     | some c'=>
      rw[e1]at h1;rw[e2]at h2;cases h1;cases h2;rw[bg]at q;apply PySem.W.kat_cons (wpAny_eqBool_int (PySem.W.kat_go (λ e=>PySem.W.kat_yes ?_) (λ e=>PySem.W.kat_no ?_)))
      ·rw[Kz (by simpa using e)]at q;exact ld r vs us a' c' (i+1) e1 e2 (λ z=>by simp at z) q
      ·rw[Ky (by simpa using e)]at q;cases z:(bb && i == 0)with
       | true=>exact oneLt_int q
       | false=>exact PySem.W.kat_one _ _ (PyProof.Rows.lt_int q)
   | _=>cases h2
  | _=>cases h1
 | true :: r,v :: vs,u :: us,a,c,i,h1,h2,hb,q=>by
  cases v with
  | bool p=>cases u with
   | bool p'=>
    have h1:(bP r vs).map ((if p=true then 1 else 0) :: ·)=some a:=h1;have h2:(bP r us).map ((if p'=true then 1 else 0) :: ·)=some c:=h2;cases e1:bP r vs with
    | none=>rw[e1]at h1;cases h1
    | some a'=>
     cases e2:bP r us with
     | none=>rw[e2]at h2;cases h2
     | some c'=>
      rw[e1]at h1;rw[e2]at h2;cases h1;cases h2;rw[bg]at q;apply PySem.W.kat_cons (mE (PySem.W.kat_go (λ e=>PySem.W.kat_yes ?_) (λ e=>PySem.W.kat_no ?_)))
      ·have e:p=p':=by simpa using e
       rw[Kz (by rw[e])]at q;exact ld r vs us a' c' (i+1) e1 e2 (λ z=>by simp at z) q
      ·have e:p≠p':=by simpa using e
       rw[Ky (by cases p <;> cases p' <;> simp_all)]at q;cases z:(bb && i == 0)with
       | true=>rcases hb z with z | z <;> cases z
       | false=>
        apply PySem.W.kat_one _ _ (PyProof.Rows.lt_bool ?_);show Q (decide (b2i p < b2i p')) s;rw[show decide (b2i p < b2i p')=decide ((if p=true then(1:Int)else 0) < (if p'=true then 1 else 0))by cases p <;> cases p' <;> rfl];exact q
   | _=>cases h2
  | _=>cases h1
theorem jV {h:Heap} {sh:Ks Bool} (h0:sh.head?=some false) (k:∀b o,h.get? b=some o->s.heap.get? b=some o):bz prog w A s (tuples' true) (jx h sh):=by intro E x y a b Q ha hb q;obtain⟨x',ox,xs,n,rfl,hx,dx,fx⟩:=pY ha;obtain⟨y',oy,ys,m,rfl,hy,dy,fy⟩:=pY hb;have l1:=fX fx;have l2:=fX fy;apply PySem.W.kat_lt (k _ _ hx) dx (k _ _ hy) dy ?_;rw[show decide (xs.size < ys.size)=false from K5 (by rw[<- JR,<- JR];lia)];exact ld sh _ _ a b 0 fx fy (λ _=>.inl h0) q
end
theorem jW:∀ {as:Ks Ko} {its:Ks IS},Vals (as.map V.ref) its->its=as.map Value.ref
 | [],_,r=>by cases r;rfl
 | a :: as,_,r=>by
  cases r with
  | cons r1 r2=>
   have e:_=Value.ref a:=r1;subst e;rw[JA,jW r2]
theorem dF:∀as:Ks Ko,Vals (as.map V.ref) (as.map Value.ref)
 | []=>.nil
 | a :: as=>.cons rfl (dF as)
theorem iP {α β:Type} {f:α->β} (g:β->Kq α) (hg:∀a,g (f a)=some a) {l:Ks β} {as:Ks α} (h:l.Perm (as.map f)):∃as':Ks α,l=as'.map f/\as'.Perm as:=by
 apply%[l.filterMap g,?_|?_]
 ·have all:∀x∈l,∃a,f a=x:=λ x hx=>by obtain⟨a,_,e⟩:=JH.mp (h.mem_iff.mp hx);exact%[a|e]
  clear h
  induction l with
  | nil=>rfl
  | cons x r ih=>
   obtain⟨a,rfl⟩:=all x B9;rw[List.filterMap_cons,hg a,JA,<- ih λ y hy=>all y (B6 _ hy)]
 ·have:=h.filterMap g;rw[List.filterMap_map,show(g∘f)=some from funext hg,List.filterMap_some]at this;exact this
theorem eN {h:Heap} {sh:Ks Bool} {key:Ko->Ks Int} (h0:sh.head?=some false):∀ (as:Ks Ko),(∀a∈as,∃o us n,h.get? a=some o/\o.cls=.type "tuple" /\ o.data=.seq (List.toArray us) n/\bP sh us=some (key a))->∃fs,PySem.W.KatTups h (as.map Value.ref) fs/\fs.length=as.length/\∀v∈fs,∃i t,v=Value.int i t
 | [],_=>%[[],trivial,Y|λ v hv=>by cases hv]
 | a :: as,H=>by
  obtain⟨fs,h1,h2,h3⟩:=eN h0 as λ b hb=>H b (B6 _ hb);obtain⟨o,us,n,e,c,d,f⟩:=H a B9;obtain⟨r,hr⟩:∃r,sh=false :: r:=by
   cases sh with
   | nil=>cases h0
   | cons x r=>cases h0;exact%[r|Y]
  subst hr;cases us with
  | nil=>cases f
  | cons u us=>
   cases u with
   | int i t=>exact%[.int i t :: fs,PySem.W.KatTups.cons e c d (by simp) h1,by rw[JF,JF,h2]|λ v hv=>(IZ.mp hv).elim (λ z=>%[i,t|z]) (h3 v)]
   | _=>cases f
end L2
namespace PySem
open Spec
section
variable {prog:IP} {w:IR} {A:Around} {E:IS->IN->Prop} {s:IN} {l:Ko} {xs:Kr (Int×Tok)}
theorem mF {Q:IS->IN->Prop} (hh:A.handled=none) (hl:s.heap.IsTuple l (intItems xs))
  (h:∀h' tk t',(∀b o,s.heap.get? b=some o->h'.get? b=some o)->Q (.int (preSum (numAt xs) xs.size) t') { s with heap:=h',toks:=tk }) :
  wpAny (model prog w) A (call (.builtin "sum") [.ref l]) Q E s:=by
 have hlt:l < s.heap.objs.size:=by obtain⟨_,e,_⟩:=hl;exact B0 e
 apply call_sum_walkG (Lk hl %[_,_,_,_,_,_,numAt xs,rfl,Walks.tuple (A:=A.in1) hh _ l (C1 hlt) (intItems xs),%[%[_,A9 _ rfl,rfl|rfl]|?_],λ b hb=>?_,(λ _ _=>intItems_at)|λ h' tk t' hk=>?_])
 ·obtain⟨o,e,r⟩:=hl;exact%[o,A8 _ e|r]
 ·show b < (s.heap.push _).objs.size;rw[K3];rcases IZ.mp hb with rfl | hb
  ·exact G1 _
  ·rcases IZ.mp hb with rfl | hb
   ·exact Jf hlt
   ·cases hb
 ·have:=h h' tk t' λ b o e=>hk b o (λ hm=>by
   have:b=s.heap.objs.size:=by simpa using hm
   subst this;exact absurd (B0 e) (E2 _)) (A8 _ e)
  simpa[intItems]using this
end
end PySem
namespace L2
open PySem PySem.Spec PyProof.Rows
section
variable {X:Cx}
theorem rh (hc:X.calm=true):bM X (.builtin "sum") (λ xs H Q=>∃ (p:Ko) (ns:Ks Int),xs=[.ref p]/\SqT X.K H p (ns.map V.int)/\Q (.int ns.sum) H):=by
 intro Ku s σ H xs us Q I r h;obtain⟨p,ns,rfl,hs,q⟩:=h;obtain⟨u,rfl,rfl⟩:=cM r;obtain⟨its,rv,pl,_⟩:=I.tuple hs;have hi:=kY rv;obtain⟨xs,e⟩:=hi.allInts.items;rw[e]at pl;apply mF (I.ok.hd hc) pl λ h' tk t' hk=>?_;have e2:preSum (numAt xs) xs.size=ns.sum:=by rw[preSum_eq,JK (by simp),<- nums_intItems,<- e,show its.toArray.toList=its from rfl,hi.numsOf]
 rw[e2];exact%[.int ns.sum,H,I.kept hk,%[_|Y]|q]
theorem dG {lo:Int} {n:Nat} {σ:St} {cap:Ks Nat} {k:Nat} {g:TG} {tt:TT} {te:TE} {Q:Ks V->Hp->Prop} {H:Hp} (Pv:Nat->Ks V->Hp->Prop) (h0:Pv 0 [] H)
  (ht:∀i ys H',i < n->Pv i ys H'->ys.length < sizeLine/\g (.int (lo+i)) (aA σ cap k) H' λ σ2 H2=>leS (aA σ cap k) σ2/\tt σ2 H2 λ ok H3=>if ok=true then te σ2 H3 (λ v H4=>Nx n Pv i (ys ++ [v]) H4)else Nx n Pv i ys H3)
  (hd:∀ys H',Pv n ys H'->ys.length<=sizeLine/\Q ys H'):∃W,(∃m,W 0 m [] H)/\cX σ cap k (Itr lo n) g tt te Q W:=by
 apply%[λ i m ys H'=>m=n - i/\i<=n/\Pv i ys H',%[_,Y,G0 _|h0]|?_];rintro i m ys H' ⟨rfl,hi,p⟩
 by_cases hin:i < n
 ·obtain⟨e,hg⟩:=ht i ys H' hin p;apply .inr %[hin,e|λ x H2 yl=>?_];obtain⟨e1,e2⟩:=yl;subst e1 e2;exact hg
 ·have e:i=n:=⋯
  subst e;obtain⟨a1,a2⟩:=hd ys H' p;exact .inl %[B4 _,a1|a2]
end
end L2
namespace PySem
theorem Paired.getL {α β:Type} {F:α->β->Prop}:∀ {l₁:Ks α} {l₂:Ks β} {i:Nat} {y:β},Paired F l₁ l₂->l₂[i]?=some y->∃x,l₁[i]?=some x/\F x y
 | _,_,_,_,.nil,e=>by simp at e
 | _,_,0,_,.cons h _,e=>by simp at e;subst e;exact%[_,Y|h]
 | _,_,i+1,y,.cons _ t,e=>by obtain⟨x,h1,h2⟩:=Paired.getL (i:=i) t (by simpa using e);exact%[x,by simpa using h1|h2]
end PySem
namespace L2
open PySem PySem.Spec PyProof.Rows
section
variable {M:Model} {A:Around} {E:IS->IN->Prop} {s:IN}
theorem wL {scope:Scope} {globals:Ko} {closure:Ks (Str×Ko)} {qual:Str} {func:Kq Ko} {code:IS} {env:Env} {builtins:Ko} {Q:Env->IN->Prop}
  (hQ:Q (newEnv scope s.heap.objs.size globals (cellsFrom (s.heap.objs.size+1) scope.names closure) qual func code (some env) builtins) { s with heap:=pushCells (s.heap.push { cls:=.type "dict",data:=.dict #[] }) scope.names }) :
  wpAny M A (newFunctionEnv scope globals closure [] qual func code (some env) builtins) Q E s:=by
 simp only[newFunctionEnv,Option.isSome_some,Lm];apply A0 (wpAny_alloc ?_);apply A0 (wpAny_layCells _ (λ name kind cells=>by cases hkc:kind == NameKind.cell <;> simp[hkc]) _ _ _ _ ?_);rw[show({ s with heap:=s.heap.push { cls:=.type "dict",data:=.dict #[] } }:IN).heap.objs.size=s.heap.objs.size+1 from K3 ..];exact A0 (A3 (A3 hQ))
end
theorem jX:∀ (names:Ks (Str×NameKind)) (n:Nat) (acc:Ks (Str×Ko)) (x:Str) (c:Ko),(cellsFrom n names acc).lookup x=some c->acc.lookup x=some c\/n<=c
 | [],n,acc,x,c,e=>.inl e
 | (y,k) :: r,n,acc,x,c,e=>by
  unfold cellsFrom at e
  split at e
  ·rcases jX r _ _ x c e with z | z
   ·rw[JP]at z;cases hx:x == y with
    | true=>rw[hx]at z;cases z;exact .inr (B4 _)
    | false=>rw[hx]at z;exact .inl z
   ·exact .inr ⋯
  ·exact jX r _ _ x c e
theorem nR:∀ (names:Ks (Str×NameKind)) (n:Nat) (acc:Ks (Str×Ko)),(∀x c,acc.lookup x=some c->c < n)->(∀x y c,acc.lookup x=some c->acc.lookup y=some c->x=y) ->
  ∀x y c,(cellsFrom n names acc).lookup x=some c->(cellsFrom n names acc).lookup y=some c->x=y
 | [],_,_,_,h=>h
 | (z,k) :: r,n,acc,hl,h=>by
  unfold cellsFrom
  split
  ·apply nR r _ _ (λ x c e=>?_) (λ x y c e1 e2=>?_)
   ·rw[JP]at e;cases hx:x == z with
    | true=>rw[hx]at e;cases e;exact G1 _
    | false=>rw[hx]at e;exact Jf (hl x c e)
   ·rw[JP]at e1 e2;cases hx:x == z with
    | true=>
     rw[hx]at e1;cases e1;cases hy:y == z with
     | true=>rw[K0.mp hx,K0.mp hy]
     | false=>rw[hy]at e2;exact absurd (hl y _ e2) (E2 _)
    | false=>
     rw[hx]at e1;cases hy:y == z with
     | true=>rw[hy]at e2;cases e2;exact absurd (hl x _ e1) (E2 _)
     | false=>rw[hy]at e2;exact h x y c e1 e2
  ·exact nR r n acc hl h
theorem lf:∀ (names:Ks (Str×NameKind)) (h:Heap) (acc:Ks (Str×Ko)),(∀x c,acc.lookup x=some c->∃v,h.IsCell c v)->∀x c,(cellsFrom h.objs.size names acc).lookup x=some c->∃v,(pushCells h names).IsCell c v
 | [],_,_,ha=>ha
 | (z,k) :: r,h,acc,ha=>by
  unfold cellsFrom pushCells
  split
  ·have:=lf r (h.push { cls:=.type "cell",data:=.cell none }) ((z,h.objs.size) :: acc) λ x c e=>by
    rw[JP]at e;cases hx:x == z with
    | true=>rw[hx]at e;cases e;exact%[none,_,A9 _ rfl|Y]
    | false=>
     rw[hx]at e;obtain⟨v,z⟩:=ha x c e;exact%[v|z.keeps λ b o e=>A8 _ e]
   rw[K3]at this;exact this
  ·exact lf r h acc ha
theorem lg:∀ (names:Ks (Str×NameKind)) (n:Nat) (acc:Ks (Str×Ko)) (x:Str),(x,NameKind.cell)∉names->(cellsFrom n names acc).lookup x=acc.lookup x
 | [],_,_,_,_=>rfl
 | (z,k) :: r,n,acc,x,h=>by
  unfold cellsFrom
  split
  ·rename_i hk
   rw[lg r _ _ x λ q=>h (B6 _ q),JP];cases hx:x == z with
   | true=>
    have e1:x=z:=C5.mp hx;have e2:k=.cell:=C5.mp hk;exact absurd (by rw[e1,e2];exact B9) h
   | false=>rfl
  ·exact lg r n acc x λ q=>h (B6 _ q)
theorem nS:∀ (names:Ks (Str×NameKind)) (n:Nat) (acc:Ks (Str×Ko)) (x:Str),((x,NameKind.cell)∈names\/∃c,acc.lookup x=some c)->∃c,(cellsFrom n names acc).lookup x=some c
 | [],_,_,x,h=>h.elim (λ z=>by simp at z) id
 | (z,k) :: r,n,acc,x,h=>by
  unfold cellsFrom
  split
  ·rename_i hk
   apply nS r _ _ x ?_;cases hx:x == z with
   | true=>exact .inr %[n|by rw[JP,hx]]
   | false=>
    rcases h with h | ⟨c,h⟩
    ·rcases IZ.mp h with q | q
     ·have:x=z:=Li Prod.fst q;rw[this]at hx;simp at hx
     ·exact .inl q
    ·exact .inr %[c|by rw[JP,hx];exact h]
  ·rename_i hk
   apply nS r _ _ x ?_;rcases h with h | h
   ·rcases IZ.mp h with q | q
    ·have:k=.cell:=(Li Prod.snd q).symm;rw[this]at hk;exact absurd rfl hk
    ·exact .inl q
   ·exact .inr h
theorem jY (env:Env):∀ (names:Ks (Str×NameKind)) (acc:Ks (Str×Ko)) (x:Str) (c:Ko),(aH env names acc).lookup x=some c->acc.lookup x=some c\/(x,NameKind.free)∈names
 | [],acc,x,c,e=>.inl e
 | (n,k) :: r,acc,x,c,e=>by
  rcases jY env r _ x c e with z | z
  ·by_cases hk:(k == NameKind.free)=true
   ·rw[Kz hk,JP]at z;cases hx:x == n with
    | true=>exact .inr (by rw[K0.mp hx,show k=.free from K0.mp hk];exact B9)
    | false=>rw[hx]at z;exact .inl z
   ·rw[Ky hk]at z;exact .inl z
  ·exact .inr (B6 _ z)
theorem jy {env:Env} {scope:Scope} {x:Str}:((relabel scope env).names.lookup x=some .cell\/(relabel scope env).names.lookup x=some .free)->(x,NameKind.free)∈scope.names\/(x,NameKind.cell)∈scope.names:=by
  have key:∀names:Ks (Str×NameKind),∀k,(names.map λ(n,k)=>if (k == NameKind.free && env.scope.kind == .function && env.kindOf n == some .cell)then(n,NameKind.cell)else(n,k)).lookup x=some k ->
      (k=.cell\/k=.free)->(x,NameKind.free)∈names\/(x,NameKind.cell)∈names:=by
    intro names
    induction names with
    | nil=>intro k h _;simp at h
    | cons y r ih=>
      obtain⟨n,k'⟩:=y;intro k h hk;have up:((x,NameKind.free)∈r\/(x,NameKind.cell)∈r)->((x,NameKind.free)∈(n,k') :: r\/(x,NameKind.cell)∈(n,k') :: r):=λ z=>z.imp (B6 _) (B6 _);rw[JA]at h
      by_cases hb:(k' == NameKind.free && env.scope.kind == .function && env.kindOf n == some .cell)=true
      . have hb':k'=.free:=by simp at hb;exact hb.1.1
        dsimp only at h;rw[Kz hb,JP]at h;cases hx:x == n with
        | true=>have:x=n:=(by simpa using hx);subst this;subst hb';exact .inl B9
        | false=>rw[hx]at h;exact up (ih k h hk)
      . dsimp only at h
        rw[Ky hb,JP]at h;cases hx:x == n with
        | true=>
          rw[hx]at h;have:x=n:=by simpa using hx
          subst this;have e:k'=k:=by simpa using h
          rcases hk with q | q
          . rw[e,q];exact .inr B9
          . rw[e,q];exact .inl B9
        | false=>rw[hx]at h;exact up (ih k h hk)
  rintro(h | h)
  . exact key _ _ h (.inl rfl)
  . exact key _ _ h (.inr rfl)
def bE (X:Cx) (Ku:Ks (Ko×Obj)) (s2:IN) (H2:Hp) (scope:Scope) (C:Ko) (N':Ks Str) (fp:Ks Ko):Cx where
 prog:=X.prog
 w:=X.w
 K:=X.K
 mg:=X.mg
 base:=X.base
 A:=X.A
 N:=N'
 s₀:=s2
 H₀:=H2
 env:=compEnvC scope (cellsFrom (C+1) scope.names (aH X.env scope.names [])) C X.env
 outer:=X.stack
 stack:=X.stack
 ex:=fp
 fn:=λ x=>scope.names.lookup x == some .cell
 calm:=X.calm
 pn:=X.pn ++ Ku
 xe:=λ _ _=>False
structure CompOkC (X:Cx) (scope:Scope) (own:Ks Str) (cs:Ks Str) (cap:Ks Nat):Prop where
 kind:scope.kind=.function
 names:∀y∈scope.names,y.2=.local->scope.names.lookup y.1=some .local
 free:∀y∈scope.names,y.2=.free->X.env.kindOf y.1=some .cell\/X.env.kindOf y.1=some .free
 caps:∀ (i:Nat) y,cs[i]?=some y->∃j,cap[i]?=some j/\X.N[j]?=some y/\(y,NameKind.free)∈scope.names
 len:cs.length=cap.length
 free2:∀y,(y,NameKind.free)∈scope.names->scope.names.lookup y=some .local->False
 free3:∀y,(y,NameKind.free)∈scope.names->scope.names.lookup y=some .cell->False
 free4:∀y,(y,NameKind.free)∈scope.names->(y,NameKind.cell)∉scope.names
section
variable {X:Cx} {Ku:Ks (Ko×Obj)} {σ:St} {H2:Hp} {s2:IN} {scope:Scope} {own cs:Ks Str} {cap:Ks Nat} {fp:Ks Ko}
theorem nT {h1:Heap} {C:Ko} {tk:Nat} (I:Inv X Ku σ H2 s2) (ok:CompOkC X scope own cs cap) (hf:∀b∈fp,cP X Ku H2 b) (hfl:∀b∈fp,b < s2.heap.objs.size)
  (hC:s2.heap.objs.size<=C) (hns:h1.Ns C (λ _=>none)) (hcl:∀x c,(cellsFrom (C+1) scope.names (aH X.env scope.names [])).lookup x=some c->∃v,h1.IsCell c v) (old:∀b o,s2.heap.get? b=some o->h1.get? b=some o) :
  Inv (bE X Ku s2 H2 scope C (own ++ cs) fp) [] (aA σ cap own.length) H2 { s2 with heap:=h1,toks:=tk }:=by
 have hfr:∀y∈scope.names,y.2=.free->∃c,X.env.cells.lookup y.1=some c:=λ y hy e=>I.ok.has y.1 (ok.free y hy e);have sub:∀x c,(aH X.env scope.names []).lookup x=some c->X.env.cells.lookup x=some c:=λ x c e=>bi X.env scope.names [] x c hfr (λ _ _ z=>by simp at z) e;have clt:∀x c,(aH X.env scope.names []).lookup x=some c->c < s2.heap.objs.size:=λ x c e=>by obtain⟨v,o,ho,_⟩:=I.cell x c (sub x c e);exact B0 ho
 apply⟨%[I.ok.mod,ok.kind,I.ok.glob,I.ok.blt,hC,λ y z c h1 h2=>nR _ _ _ (λ x c e=>Jf (C3 (clt x c e) hC)) (λ x y c h1 h2=>I.ok.inj x y c (sub x c h1) (sub y c h2)) y z c h1 h2,λ y hy=>?_,λ y c z e=>?_,I.ok.hd,I.ok.frames,.inl rfl,λ b hb=>?_,I.bs,C7 I.ok.bsz I.sz,λ b o e hb=>?_,λ b hb z=>?_,I.stack|I.stkFree],
  rfl,I.bare,Un.kept old,%[_,hns|λ i y v e1 e2 e3=>?_],hcl,I.hok.fresh hC,λ y c e=>?_,λ p hp=>?_,I.hok.kept old,?_⟩
 ·apply nS _ _ _ y ?_;rcases jy hy with hm | hm
  ·exact .inr (dD X.env scope.names [] y hm)
  ·exact .inl hm
 ·have z:(scope.names.lookup y == some .cell)=true:=z;rcases jX _ _ _ _ _ e with q | q
  ·rcases jY X.env scope.names [] y c q with q | q
   ·simp at q
   ·exact(ok.free3 y q (C5.mp z)).elim
  ·show s2.heap.objs.size<=c;lia
 ·apply%[C1 (C3 (hfl b hb) hC)|λ x c e=>?_];rcases jX _ _ _ _ _ e with q | q
  ·exact(hf b hb).2.2.2.2.1 x c (sub x c q)
  ·exact Ne.symm (C1 (C3 (hfl b hb) (C7 hC (Nat.le_of_succ_le q))))
 ·rcases(hf b hb).2.2.2.1 with z | z
  ·exact I.ok.noex b o e z
  ·exact absurd (C3 (B0 (I.ok.bs b o e).1) z) (E2 _)
 ·rcases IZ.mp (I.stkSub b z)with q | q
  ·exact(hf b hb).2.1 q
  ·exact(hf b hb).2.2.1 q
 ·have hi:own.length<=i:=by
   apply Nat.le_of_not_lt λ q=>?_;unfold aA at e2;rw[Jn (by simpa using q),List.getElem?_replicate]at e2
   split at e2 <;> cases e2
  have e1':cs[i - own.length]?=some y:=by have e1:(own ++ cs)[i]?=some y:=e1;rwa [JV hi]at e1
  obtain⟨j,hj,hN,hm⟩:=ok.caps _ y e1';have hk:=ok.free _ hm rfl;have e2':σ[j]?=some (some v):=by
   unfold aA at e2;rw[JV (by simpa using hi),JT,IY,hj]at e2;have e2:(σ[j]?).join=some v:=by simpa using e2
   cases q:σ[j]? with
   | none=>rw[q]at e2;cases e2
   | some w=>rw[q]at e2;have:w=some v:=e2;rw[this]
  obtain⟨m,hn,hl⟩:=I.loc;obtain⟨u,ru,l⟩:=hl j y v hN e2' (by rcases hk with q | q;exact .inr (.inl q);exact .inr (.inr q));apply%[u,ru|.inr ?_];obtain⟨c,hc0⟩:=dD X.env scope.names [] y hm;have hc':=sub y c hc0;have hc:(cellsFrom (C+1) scope.names (aH X.env scope.names [])).lookup y=some c:=by rw[lg _ _ _ y (ok.free4 y hm)];exact hc0
  have cellu:h1.IsCell c (some u):=by
   rcases l with⟨k,_⟩ | ⟨k,c',e,o,ho,hd⟩
   ·rcases hk with q | q <;> (have z:X.env.kindOf y=_:=q;rw[k]at z;cases z)
   ·rw[hc']at e;cases e;exact%[o,old _ _ ho|hd]
  apply%[?_,c,hc|cellu];rcases e3 with z | z | z
  ·exfalso;have key:∀names:Ks (Str×NameKind),True:=λ _=>trivial;have z:(relabel scope X.env).names.lookup y=some .local:=z;have zz:scope.names.lookup y=some .local:=by
    unfold relabel at z;dsimp only at z;revert z;generalize scope.names=names
    induction names with
    | nil=>intro z;simp at z
    | cons q r ih=>
     obtain⟨n,k⟩:=q;intro z;rw[JA]at z
     by_cases hb:(k == NameKind.free && X.env.scope.kind == .function && X.env.kindOf n == some .cell)=true
     ·dsimp only at z;rw[Kz hb,JP]at z;rw[JP];cases hx:y == n with
      | true=>rw[hx]at z;cases z
      | false=>rw[hx]at z;exact ih z
     ·dsimp only at z;rw[Ky hb,JP]at z;rw[JP];cases hx:y == n with
      | true=>rw[hx]at z;exact z
      | false=>rw[hx]at z;exact ih z
   have:=ok.free2 y hm zz;exact this
  ·exact .inl z
  ·exact .inr z
 ·rcases jX _ _ _ _ _ e with q | q
  ·exact I.freeC y c (sub y c q)
  ·exact I.hok.fresh ⋯
 ·have hp':p∈X.pn ++ Ku:=by have:p∈(X.pn ++ Ku) ++ []:=hp;simpa using this
  obtain⟨e,n,ne,nf,d⟩:=I.pin p hp';apply%[old _ _ e,n,C1 (C3 (B0 e) hC),λ z=>?_|d];rcases IZ.mp (I.stkSub p.1 z)with q | q
  ·exact ne q
  ·exact nf q
 ·show(aA σ cap own.length).length=(own ++ cs).length;unfold aA;rw[JD,JT,B5,JD,ok.len]
end
section
variable {X:Cx} {Ku:Ks (Ko×Obj)} {σ:St} {H2:Hp} {s2:IN} {scope:Scope} {own cs:Ks Str} {cap:Ks Nat} {fp:Ks Ko} {it:Ko} {tn:Nat->Heap->Prop}
 {elt tg iter:Expr} {ifs:Ks Expr} {pos:Pos} {J:It} {g:TG} {tt:TT} {te:TE} {E:IS->IN->Prop} {W:Nat->Nat->Ks V->Hp->Prop} {Qf:Ks V->Hp->Prop}
theorem jZ {RR:IS->Ko->Result->IN->Prop} (I:Inv X Ku σ H2 s2) (ok:CompOkC X scope own cs cap) (hc:X.calm=true) (T:Turn X.prog X.w X.K tg J fp it tn) (st:tn 0 s2.heap) (hf:∀b∈fp,cP X Ku H2 b)
  (hg:∀C,PG (bE X Ku s2 H2 scope C (own ++ cs) fp) tg g) (hi:∀C,fR (bE X Ku s2 H2 scope C (own ++ cs) fp) ifs tt) (he:∀C,PE (bE X Ku s2 H2 scope C (own ++ cs) fp) elt te)
  (w0:∃m,W 0 m [] H2) (turn:cX σ cap own.length J g tt te Qf W)
  (hRR:∀D C s',BlkEnd X Ku σ Qf D C s'->RR (.ref D) C (.ok .next) s') :
  wpAny (model X.prog X.w) X.A (newList []) (λ acc s₃=>wpAny (model X.prog X.w) X.A (newFunctionEnv scope X.env.globals (aH X.env scope.names []) [] X.env.qual none .none (some X.env)) (λ cenv s₄=>
   codeAny (model X.prog X.w) X.A (.compStart (.ListComp elt [%[tg,iter,ifs|0]] scope pos) 0 (.ref it) acc { cenv with scope:=relabel scope X.env }) (RR acc cenv.locals) s₄) E s₃) E s2:=by
 apply IL (wL ?_);dsimp only;generalize hHH:s2.heap.push { cls:=.type "list",dict:=none,data:=.seq ([]:Ks IS).toArray }=HH;have hCs:HH.objs.size=s2.heap.objs.size+1:=by rw[<- hHH,K3]
 have hDC:s2.heap.objs.size≠HH.objs.size:=by rw[hCs];exact C1 (G1 _)
 have hCle:s2.heap.objs.size<=HH.objs.size:=by rw[hCs];exact Kk _
 have hfl:∀b∈fp,b < s2.heap.objs.size:=λ b hb=>by obtain⟨o,e,_⟩:=T.obj 0 _ st b hb;exact B0 e
 have hpk:∀b o,HH.get? b=some o->(pushCells (HH.push { cls:=.type "dict",data:=.dict #[] }) scope.names).get? b=some o:=λ b o e=>pushCells_keeps _ _ b o (A8 _ e);have hns₁:(pushCells (HH.push { cls:=.type "dict",data:=.dict #[] }) scope.names).Ns HH.objs.size (λ _=>none):=(Heap.Ns.new HH (.type "dict")).keeps (pushCells_keeps _ _);have old:∀b o,s2.heap.get? b=some o->(pushCells (HH.push { cls:=.type "dict",data:=.dict #[] }) scope.names).get? b=some o:=λ b o e=>hpk b o (hHH ▸ A8 _ e);have hacc:(pushCells (HH.push { cls:=.type "dict",data:=.dict #[] }) scope.names).PlainList s2.heap.objs.size #[]:=%[_|hpk _ _ (hHH ▸ A9 _ rfl)]
 have hcl₁:∀x c,(cellsFrom (HH.objs.size+1) scope.names (aH X.env scope.names [])).lookup x=some c->∃v,(pushCells (HH.push { cls:=.type "dict",data:=.dict #[] }) scope.names).IsCell c v:=by
  have:=lf scope.names (HH.push { cls:=.type "dict",data:=.dict #[] }) (aH X.env scope.names []) λ x c e=>by have e':=bi X.env scope.names [] x c (λ y hy e=>I.ok.has y.1 (ok.free y hy e)) (λ _ _ z=>by simp at z) e;obtain⟨v,o,ho,hd⟩:=I.cell x c e';exact%[v,o,A8 _ (hHH ▸ A8 _ ho)|hd]
  rw[K3]at this;exact this
 generalize pushCells (HH.push { cls:=.type "dict",data:=.dict #[] }) scope.names=h₁ at *;generalize hD:s2.heap.objs.size=D at *;generalize hCC:HH.objs.size=C at *;have I0:Inv (bE X Ku s2 H2 scope C (own ++ cs) fp) [] (aA σ cap own.length) H2 { s2 with heap:=h₁ } :=
  nT I ok hf (λ b hb=>by rw[hD];exact hfl b hb) (by rw[hD];exact hCle) hns₁ hcl₁ old
 have Dfs:D∉frs X.stack:=λ hb=>by obtain⟨_,o,ho,_⟩:=I.stack.mem hb;exact absurd (B0 ho) (by rw[hD];exact E2 _)
 have Dfp:∀b∈fp,D≠b:=λ b hb z=>absurd (hfl b hb) (by rw[<- z];exact E2 _);have clt:∀x c,(aH X.env scope.names []).lookup x=some c->c < D:=λ x c e=>by have e':=bi X.env scope.names [] x c (λ y hy e=>I.ok.has y.1 (ok.free y hy e)) (λ _ _ z=>by simp at z) e;obtain⟨v,o,ho,_⟩:=I.cell x c e';have:=B0 ho;rw[hD]at this;exact this
 have plt:∀p∈X.pn ++ Ku,p.1 < D:=λ p hp=>by have:=B0 (I.pin p hp).1;rw[hD]at this;exact this
 have stat:∀ {H':Hp} {ob:Obj},(∀b∈fp,H' b=none)->∀b∈fp,cP (bE X Ku s2 H2 scope C (own ++ cs) fp) [(D,ob)] H' b:=λ {H' ob} hn b hb=>by
  have q:=I0.ok.exf b hb;apply%[hn b hb,q.1,I0.ok.exfs b hb,.inl hb,q.2|λ p hp=>?_];rcases C4.mp hp with z | z
  ·exact(hf b hb).2.2.2.2.2 p z
  ·have:p=(D,ob):=by simpa using z
   subst this;exact Dfp b hb
 have loop:codeAny (model X.prog X.w) X.A (.compLoop (.ListComp elt [%[tg,iter,ifs|0]] scope pos) 0 (.ref it) (.ref D) (compEnvC scope (cellsFrom (C+1) scope.names (aH X.env scope.names [])) C X.env)) (RR (.ref D) C)
   { s2 with heap:=h₁ }:=by
  obtain⟨m0,w0⟩:=w0;apply codeAny_loop rfl (λ n s'=>∃i H' its ys,Inv (bE X Ku s2 H2 scope C (own ++ cs) fp) [] (aA σ cap own.length) H' s'/\tn i s'.heap/\(∀b∈fp,H' b=none)/\s'.heap.PlainList D its.toArray/\Vals ys its/\H' D=none/\W i n ys H') ?_ m0
   %[0,H2,[],[],I0,T.keep 0 _ _ st λ b _ o e=>old b o e,λ b hb=>(hf b hb).1,hacc,.nil,I.hok.fresh (by rw[hD];exact B4 _)|w0]
  rintro n s3 ⟨i,H3,its,ys,I3,st3,fr3,⟨nn,pl3⟩,rv3,hD3,w3⟩;show wpAny _ X.A ((compTurn (.ListComp elt [%[tg,iter,ifs|0]] scope pos) 0 (.ref it) (.ref D) (compEnvC scope (cellsFrom (C+1) scope.names (aH X.env scope.names [])) C X.env)).onRaise (λ x=>do noteFrame x (compEnvC scope (cellsFrom (C+1) scope.names (aH X.env scope.names [])) C X.env);theTreesLotGoes x)) _ _ s3;apply wpAny_noted ?_;rw[compTurn_list];apply A0 (LM (A0 ?_));have I3':Inv (bE X Ku s2 H2 scope C (own ++ cs) fp) [(D,{ cls:=.type "list",data:=.seq its.toArray nn })] (aA σ cap own.length) H3 s3 :=
   I3.pins_of λ p hp=>by
    have:p=(D,{ cls:=.type "list",data:=.seq its.toArray nn }):=by simpa using hp
    subst this;exact%[pl3,hD3,hDC,Dfs|λ v z=>by cases z]
  rcases turn i n ys H3 w3 with⟨stop,hz,qf⟩ | ⟨go,hz,step⟩
  ·apply thn (T.done (bE X Ku s2 H2 scope C (own ++ cs) fp) rfl rfl rfl hc i _ s3 _ H3 _ I3' (stat fr3) st3 stop) λ r s4 %[hr|I4]=>?_;subst hr;apply A3 (hRR D C s4 %[%[ys,H3,hD3,qf,?_|?_]|?_])
   ·have pl4:=(I4.pin (D,_) (A6 _ (E4.mpr rfl))).1;have u4:=I4.base;have Ds2:s2.heap.get? D=none:=Lo (by rw[hD];exact B4 _);apply I.call' (s':=s4) (ch:=fp) I4.os %[u4.keep,u4.slot,λ b o e n hx=>?_,u4.there,λ b xs e=>?_,λ b o u e=>?_|λ b ps e=>?_] ?_ I4.bare λ b hb=>%[(hf b hb).2.2.2.1,(hf b hb).2.1,(hf b hb).2.2.2.2.1|(hf b hb).2.2.2.2.2]
    ·rw[ah (λ z=>by rw[z,Ds2]at e;cases e)];exact u4.free b o e n hx
    ·have:=u4.tups b xs e;rw[ah (ae this hD3)];exact this
    ·have:=u4.frzs b o u e;rw[ah (ae this hD3)];exact this
    ·obtain⟨more,e'⟩:=u4.tbls b ps e;exact%[more|by rw[ah (ae e' hD3)];exact e']
    ·exact I4.hok.add hD3 %[hz,its,nn,rv3|pl4]
   ·have CH:(upd H3 D (.lst ys)) C=none:=by rw[ah (Ne.symm hDC)];exact I4.free
    exact I.fpOk (H':=upd H3 D (.lst ys)) (by rw[hD];exact hCle) CH
   ·obtain⟨m,hn,_⟩:=I4.loc;exact%[m|hn]
  ·apply thn (T.item (bE X Ku s2 H2 scope C (own ++ cs) fp) rfl rfl rfl hc i _ s3 _ H3 _ I3' (stat fr3) st3 go) λ r s4 %[u,hr|h4]=>?_;subst hr;apply A0 (thn h4 λ _ s5 %[x,H5,I5,r5,y5,st5|fr5]=>?_);have I5':=I5.pinned (stat fr5) (T.obj _ _ st5);apply A0 (K6 (hg C _ s5 _ H5 x u _ I5' r5 (step x H5 y5)) (λ _ s6 ⟨σ6,H6,I6,le6,q6⟩=>?_) λ _ _ z=>E9 z);apply A0 (K6 (hi C _ s6 σ6 H6 _ I6 q6) (λ b s7 ⟨H7,I7,q7⟩=>?_) λ _ _ z=>E9 z);have back:∀ {pins':Ks (Ko×Obj)} {H8:Hp} {s8:IN},Inv (bE X Ku s2 H2 scope C (own ++ cs) fp) pins' σ6 H8 s8->Inv (bE X Ku s2 H2 scope C (own ++ cs) fp) [] (aA σ cap own.length) H8 s8:=λ I8=>
    I8.bareP.weak le6.1.symm λ i v e=>le6.2 i v e
   cases b with
   | false=>
    rw[Ky B3]at q7;obtain⟨m',hm,w7⟩:=q7;apply A3 %[rfl,m',hm,i+1,H7,its,ys,back I7,T.keep _ _ _ st5 λ b hb o e=>?_,λ b hb=>?_,%[nn|?_],rv3,?_|w7]
    ·exact(I7.pin (b,o) (A6 _ (A6 _ (ax hb e)))).1
    ·obtain⟨o,e,d⟩:=T.obj _ _ st5 b hb;exact(I7.pin (b,o) (A6 _ (A6 _ (ax hb e)))).2.1
    ·exact(I7.pin (D,_) (A6 _ (B8 _ (E4.mpr rfl)))).1
    ·exact(I7.pin (D,_) (A6 _ (B8 _ (E4.mpr rfl)))).2.1
   | true=>
    rw[Kz rfl]at q7;apply A0 (A0 (K6 (he C _ s7 σ6 H7 _ I7 q7) (λ y s8 ⟨v,H8,I8,r8,m',hm,w8⟩=>?_) λ _ _ z=>E9 z));have pD:=I8.pin (D,{ cls:=.type "list",data:=.seq its.toArray nn }) (A6 _ (B8 _ (E4.mpr rfl)));have Kw:=rv3.length;apply A0 (wpAny_list_append_plain (hsz:=by rw[JL];lia) %[nn|pD.1] λ h9 pl9 sb9=>A3 (A3 ?_));have I8':=back I8;apply%[Y,m',hm,i+1,H8,its ++ [y],ys ++ [v],?_,T.keep _ _ _ st5 λ b hb o e=>?_,λ b hb=>?_,?_,rv3.append (.cons r8 .nil),pD.2.1|w8]
    ·exact I8'.turned (t':=s8.toks) (λ b o hb e=>sb9.extBut b o hb e) pD.2.1 hDC (.inr (by show s2.heap.objs.size<=D;rw[hD];exact B4 _)) (λ x c e=>by
      rcases jX _ _ _ _ _ e with q | q
      ·exact C1 (clt x c q)
      ·exact Ne.symm (C1 (C8 hCle (Nat.lt_of_succ_le q)))) λ p hp=>by
      have hp':p∈X.pn ++ Ku:=by have:p∈(X.pn ++ Ku) ++ []:=hp;simpa using this
      exact C1 (plt p hp')
    ·exact sb9.extBut b o (Ne.symm (Dfp b hb)) (I8.pin (b,o) (A6 _ (A6 _ (ax hb e)))).1
    ·obtain⟨o,e,d⟩:=T.obj _ _ st5 b hb;exact(I8.pin (b,o) (A6 _ (A6 _ (ax hb e)))).2.1
    ·have e:its.toArray.push y=(its ++ [y]).toArray:=by simp
     rw[<- e];exact pl9
 exact codeAny_compStart_list loop (T.self _ 0 _ _ _ (T.keep 0 _ _ st λ b _ o e=>old b o e) loop)
theorem uH {wi:TI} (hc:X.calm=true) (hit:PI X tg iter wi) (ok:CompOkC X scope own cs cap)
  (hg:∀Ku s2 H2 C fp,PG (bE X Ku s2 H2 scope C (own ++ cs) fp) tg g) (hi:∀Ku s2 H2 C fp,fR (bE X Ku s2 H2 scope C (own ++ cs) fp) ifs tt) (he:∀Ku s2 H2 C fp,PE (bE X Ku s2 H2 scope C (own ++ cs) fp) elt te)
  (hs:∀x,foldedSetIterable iter X.env x=pure x:=by intro _;rfl):PE X (.ListComp elt [%[tg,iter,ifs|0]] scope pos) (mj wi cap own.length g tt te):=by
 intro Ku s σ H Q I h;rw[eval_ListComp];apply LP (use:=none) rfl hs (cH λ y hy e=>I.ok.has y.1 (ok.free y hy e)) ok.kind ok.names (thn (hit Ku s σ H _ I h) λ v s1 h1=>thn h1 λ itv s2 h2=>?_);obtain⟨it,fp,tn,J,H2,e,I2,T,st2,f2,W,w0,turn⟩:=h2;subst e;apply jZ (RR:=λ acc C=>compPost (model X.prog X.w) X.A X.xe none (EP X Ku σ Q) acc C) I2 ok hc T st2 f2 (λ C=>hg _ _ _ _ _) (λ C=>hi _ _ _ _ _) (λ C=>he _ _ _ _ _) w0 turn λ D C s' B=>?_;obtain⟨⟨ys,H',hD,q,I',fp'⟩,m,hn⟩:=B;obtain⟨f0,f1,f2',f3,f4,f5⟩:=fp';exact%[m,hn|λ h' sb=>%[.ref D,_,I'.turned (t':=s'.toks) (λ b o hb e=>sb.extBut b o hb e) f0 f1 f3 f4 f5,Y|q D hD]]
theorem uI {wi:TI} {i:Nat} {y:Str} {py spos:Pos} (hc:X.calm=true) (hN:X.N.Nodup) (hiy:X.N[i]?=some y) (hy:X.env.scope.names.lookup y=some .local)
  (hsw:swapsWith (.ListComp elt [%[tg,iter,ifs|0]] scope pos) (some (.Name y py)) spos.line X.env=pure true) (hit:PI X tg iter wi) (ok:CompOkC X scope own cs cap)
  (hg:∀Ku s2 H2 C fp,PG (bE X Ku s2 H2 scope C (own ++ cs) fp) tg g) (hi:∀Ku s2 H2 C fp,fR (bE X Ku s2 H2 scope C (own ++ cs) fp) ifs tt) (he:∀Ku s2 H2 C fp,PE (bE X Ku s2 H2 scope C (own ++ cs) fp) elt te)
  (hs:∀x,foldedSetIterable iter X.env x=pure x:=by intro _;rfl):PS X (.Assign [.Name y py] (.ListComp elt [%[tg,iter,ifs|0]] scope pos) spos) (wc (mj wi cap own.length g tt te) (fO i)):=by
 intro Ku s σ H D0 I h;rw[exec_Assign_Name_used _ _ _ _ hsw];apply A0 (LM (A0 ?_));show wpAny _ X.A (do let _<-comprehension (.ListComp elt [%[tg,iter,ifs|0]] scope pos) scope X.env _ (newList []) false (eval iter X.env) (some (assign (.Name y py) X.env))) _ _ s;apply A0 (K6 (LP (use:=some (assign (.Name y py) X.env)) (Q:=λ _ s'=>SP X Ku D0 .next s') rfl hs (cH λ y hy e=>I.ok.has y.1 (ok.free y hy e)) ok.kind ok.names
  (thn (hit Ku s σ H _ I h) λ v s1 h1=>thn h1 λ itv s2 h2=>?_)) (λ _ s' hq=>A3 (A3 hq)) λ _ _ e=>e)
 obtain⟨it,fp,tn,J,H2,e,I2,T,st2,f2,W,w0,turn⟩:=h2;subst e;apply jZ (RR:=λ acc C=>compPost (model X.prog X.w) X.A X.xe (some (assign (.Name y py) X.env)) (λ _ s'=>SP X Ku D0 .next s') acc C) I2 ok hc T st2 f2 (λ C=>hg _ _ _ _ _) (λ C=>hi _ _ _ _ _) (λ C=>he _ _ _ _ _) w0 turn λ D C s' B=>?_;obtain⟨⟨ys,H',hD,q,I',fp'⟩,m,hn⟩:=B;obtain⟨f0,f1,f2',f3,f4,f5⟩:=fp';show wpAny _ X.A (assign (.Name y py) X.env (.ref D)) _ _ _;apply wpAny_assign_Name (gr I' hN hiy (.inl hy) (v:=.ref D) rfl (λ s3 I3 ⟨a,sb,ha⟩=>?_) (.inr hy));have hCa:C≠a:=by
  rcases ha with z | z
  ·rw[z];exact f1
  ·exactλ q=>f4 y a z q.symm
 apply%[m,hn.sameBut sb hCa|λ h' sb'=>%[_,_,I3.turned (t':=s3.toks) (λ b o hb e=>sb'.extBut b o hb e) f0 f1 f3 f4 f5|q D hD]]
end
theorem uJ {X:Cx} (K:C6) {tg l:Expr} {tl:TE} (hK:X.K=K) (hl:PE X l tl):PI X tg l (tP K tl):=hK ▸ aW hl
def mG (sc:Scope) (N:Ks Str) (scope:Scope) (cs:Ks Str) (cap:Ks Nat):Bool :=
 decide (scope.kind=.function) && scope.names.all (λ y=>decide (y.2=.local->scope.names.lookup y.1=some .local)) &&
 scope.names.all (λ y=>decide (y.2=.free->sc.names.lookup y.1=some .cell\/sc.names.lookup y.1=some .free)) &&
 decide (cs.length=cap.length) && (cs.zip cap).all (λ y=>decide (N[y.2]?=some y.1) && decide ((y.1,NameKind.free)∈scope.names)) && scope.names.all (λ y=>decide (y.2=.free->scope.names.lookup y.1≠some .local)) && scope.names.all (λ y=>decide (y.2=.free->scope.names.lookup y.1≠some .cell)) && scope.names.all (λ y=>decide (y.2=.free->(y.1,NameKind.cell)∉scope.names))
theorem iQ {X:Cx} {sc:Scope} {N:Ks Str} {scope:Scope} {own cs:Ks Str} {cap:Ks Nat} (h1:X.env.scope=sc) (h2:X.N=N) (h:mG sc N scope cs cap=true):CompOkC X scope own cs cap:=by
 subst h1 h2;unfold mG at h;simp only[Ji,KS,LV]at h;obtain⟨⟨⟨⟨⟨⟨⟨a1,a3⟩,a4⟩,a6⟩,a7⟩,a8⟩,a9⟩,a10⟩:=h;apply%[a1,a3,a4,λ i y e=>?_,a6,λ y hy e=>a8 _ hy rfl e,λ y hy e=>a9 _ hy rfl e|λ y hy=>a10 _ hy rfl];have hi:i < cs.length:=(A7.mp e).1;have hj:i < cap.length:=by rw[<- a6];exact hi
 apply%[cap[i],G2 hj|?_];have hm:(y,cap[i])∈cs.zip cap:=by
  have:(cs.zip cap)[i]?=some (y,cap[i]):=by rw[KJ];exact%[e|G2 hj]
  exact B7 this
 exact a7 _ hm
end L2
namespace PySem
section
variable {prog:IP} {w:IR} {K:Type} [DecidableEq K] {knd:HeapKind prog w K} {A:Around} {E:IS->IN->Prop} {s:IN} {d:Ko}
theorem nU (hd:(d == sysModules)=false) :
  MeetsIn prog w (Builtin.«dict.__len__» %[[.ref d]|[]]) (λ _ R s=>∃xs,s.heap.DictOfH knd d xs/\R (.ok (.ret (.int xs.length s.toks))) { s with toks:=s.toks+1 }) :=
 .of_wp λ A R s %[xs,hm|hR]=>by obtain⟨o,es,ep,ho,hc,hda,hes,_⟩:=hm;show wpAny _ _ (dictSize d >>= _) _ _ s;unfold dictSize;apply A0 (A0 (LG ho hda (A3 ?_)));show wpAny _ _ (Builtin.Dict.pendingCount d >>= _) _ _ s;apply A0 (wpAny_pendingCount_other hd (wpAny_ret_mkInt ?_));rw[Nat.add_zero,size_of_entries hes];exact hR
theorem Gi {xs:Ks (K×Ko×IS)} {Q:IS->IN->Prop} (hd:(d == sysModules)=false) (hm:s.heap.DictOfH knd d xs) (hfit:(xs.length:Int) < 2 ^ 63)
  (h:Q (.int xs.length (s.toks+1)) { s with toks:=s.toks+1+1 }):wpAny (model prog w) A (call (.builtin "len") [.ref d]) Q E s:=by
 have ht:s.TypeIs (.ref d) "dict" := let ⟨o,_,_,ho,hc,_⟩:=hm;%[o,ho|hc.1]
 apply Calls.call_function_entry kind_len plain_len entry_len (args_len1 _) ?_;unfold Builtin.«len»;apply A0 (m:=oneArg "len" _) (A3 ?_);apply A0 (m:=callSpecial? (.ref d) (Str.ofString "__len__")) (wpAny_callSpecial?_slot (name:=Str.ofString "__len__") ht F.slot_dict_len (call_meetsIn F.slot_dict_len ht F.entry_dict_len (F.args_dict_len_1 _) (nU (knd:=knd) hd) %[xs,hm|?_]));show wpAny _ _ _ _ _ { s with toks:=s.toks+1 };apply A0 (K2 (A3 (A0 (wpAny_letGo ?_))));show wpAny _ _ (if ((xs.length:Nat):Int) < 0 then _ else _) _ _ _;rw[Ky ⋯];show wpAny _ _ (if ((xs.length:Nat):Int)≥2 ^ 63 then _ else _) _ _ _;rw[Ky ⋯];exact A0 (wpAny_mkInt (A3 %[_,rfl|h]))
end
end PySem
namespace L2
open PySem PySem.Spec PyProof.Rows
section
variable {X:Cx}
theorem nV:bM X (.builtin "len") (λ xs H Q=>∃a kvs,xs=[V.ref a]/\H a=some (.dT kvs)/\Q (.int kvs.length) H):=by intro Ku s σ H xs us Q I r h;obtain⟨a,kvs,rfl,ha,q⟩:=h;obtain⟨u,rfl,ru⟩:=cM r;cases ru;obtain⟨z,hd,ys,rel,dd⟩:=mx I.hok (.inl ha);have hl:kvs.length=ys.length:=E5 rel;apply Gi hd dd (by rw[<- hl];rw[sizeLine_eq]at z;lia) ?_;rw[<- hl];exact%[.int kvs.length,H,I.tok _,%[_|Y]|q]
end
theorem lh (elt tg iter:Expr) (ifs:Ks Expr) (tg2 Kx:Expr) (ifs2:Ks Expr) (scope:Scope) (pos:Pos) (it acc:IS) (env:Env) :
  compTurn (.ListComp elt [%[tg,iter,ifs|0],%[tg2,Kx,ifs2|0]] scope pos) 0 it acc env=(do
   standAt iter.pos
   match<-pyNext it with
   | none=>pure (.done .next)
   | some v=>
    letOwnedTupleGo tg it v
    assign tg env v
    let mut ok:=true
    for c in ifs do
     if ok then ok<-isTrue c env (eval c env)
    if ok then
     let x<-eval Kx env
     standAt Kx.pos
     let x<-foldedSetIterable Kx env x
     let i2<-holding [x] (pyIter x)
     let _<-runOwn (.compStart (.ListComp elt [%[tg,iter,ifs|0],%[tg2,Kx,ifs2|0]] scope pos) 1 i2 acc env) env
    again (.compLoop (.ListComp elt [%[tg,iter,ifs|0],%[tg2,Kx,ifs2|0]] scope pos) 0 it acc env)):=by rfl
theorem mH (elt tg iter:Expr) (ifs:Ks Expr) (tg2 Kx:Expr) (ifs2:Ks Expr) (scope:Scope) (pos:Pos) (it acc:IS) (env:Env) :
  compTurn (.ListComp elt [%[tg,iter,ifs|0],%[tg2,Kx,ifs2|0]] scope pos) 1 it acc env=(do
   standAt Kx.pos
   match<-pyNext it with
   | none=>pure (.done .next)
   | some v=>
    letOwnedTupleGo tg2 it v
    assign tg2 env v
    let mut ok:=true
    for c in ifs2 do
     if ok then ok<-isTrue c env (eval c env)
    if ok then
     (do let _<-call (.builtin "list.append") [acc,<- eval elt env])
    again (.compLoop (.ListComp elt [%[tg,iter,ifs|0],%[tg2,Kx,ifs2|0]] scope pos) 1 it acc env)):=by rfl
theorem eF {prog:IP} {w:IR} {A:Around} {R:Result->IN->Prop} {s:IN} {elt tg iter tg2 Kx:Expr} {ifs ifs2:Ks Expr} {scope:Scope} {pos:Pos} {it acc:IS} {env:Env}
  (h0:codeAny (model prog w) A (.compLoop (.ListComp elt [%[tg,iter,ifs|0],%[tg2,Kx,ifs2|0]] scope pos) 1 it acc env) R s)
  (h:wpAny (model prog w) A (pyIter it) (λ it' s'=>codeAny (model prog w) A (.compLoop (.ListComp elt [%[tg,iter,ifs|0],%[tg2,Kx,ifs2|0]] scope pos) 1 it' acc env) R s')
   (notedBy (model prog w) A env λ x s'=>R (.error x) s') s) :
  codeAny (model prog w) A (.compStart (.ListComp elt [%[tg,iter,ifs|0],%[tg2,Kx,ifs2|0]] scope pos) 1 it acc env) R s:=by
 apply codeAny_of_tree ?_;show wpAny _ _ ((compStart (.ListComp elt [%[tg,iter,ifs|0],%[tg2,Kx,ifs2|0]] scope pos) 1 it acc env).onRaise (λ x=>do noteFrame x env;standAt theWindowsPlace)) _ _ s;apply wpAny_notedAt ?_;unfold compStart;show wpAny _ _ (ask >>= _) _ _ s;apply A0 (wpAny_askSetting (wpAny_ite ?_))
 split
 ·first
   | exact A0 (A3 (A3 (And.intro rfl h0)))
   | exact A3 (And.intro rfl h0)
 ·first
   | exact A0 (LS (A0 (LM (A0 (K6 h (λ it' s' h'=>A3 (And.intro rfl h')) λ _ _ x=>x)))))
   | (apply A0 (LS ?_);show wpAny _ _ (standAt Kx.pos >>= _) _ _ s;exact A0 (LM (A0 (K6 h (λ it' s' h'=>A3 (And.intro rfl h')) λ _ _ x=>x))))
def lj (σ2:St) (J:It) (g:TG) (tt:TT) (te:TE) (N:Ks V->Hp->Prop) (W:Nat->Nat->Ks V->Hp->Prop):Prop :=
 ∀i m ys H,W i m ys H->(J.stop i H/\N ys H) \/
  (J.go i H/\ys.length < sizeLine/\∀x H',J.yld i H x H'->g x σ2 H' λ σ3 H2=>leS σ2 σ3/\tt σ3 H2 λ ok H3=>
   if ok=true then te σ3 H3 (λ v H4=>∃m',m' < m/\W (i+1) m' (ys ++ [v]) H4)else∃m',m' < m/\W (i+1) m' ys H3)
def lm (σ:St) (cap:Ks Nat) (k:Nat) (J:It) (g:TG) (tt:TT) (wi2:TI) (g2:TG) (tt2:TT) (te:TE) (Q:Ks V->Hp->Prop) (W:Nat->Nat->Ks V->Hp->Prop):Prop :=
 ∀i m ys H,W i m ys H->(J.stop i H/\ys.length<=sizeLine/\Q ys H) \/
  (J.go i H/\∀x H',J.yld i H x H'->g x (aA σ cap k) H' λ σ2 H2=>leS (aA σ cap k) σ2/\tt σ2 H2 λ ok H3=>
   if ok=true then wi2 σ2 H3 (λ J2 H4=>∃W2:Nat->Nat->Ks V->Hp->Prop,(∃m2,W2 0 m2 ys H4)/\lj σ2 J2 g2 tt2 te (λ zs H5=>∃m',m' < m/\W (i+1) m' zs H5) W2)else∃m',m' < m/\W (i+1) m' ys H3)
section
variable {X:Cx} {Ku:Ks (Ko×Obj)} {σ:St} {H2:Hp} {s2:IN} {scope:Scope} {own cs:Ks Str} {cap:Ks Nat} {fp:Ks Ko} {it:Ko} {tn:Nat->Heap->Prop}
 {elt tg iter tg2 Kx:Expr} {ifs ifs2:Ks Expr} {pos:Pos} {J:It} {g g2:TG} {tt tt2:TT} {te:TE} {wi2:TI} {E:IS->IN->Prop} {W:Nat->Nat->Ks V->Hp->Prop} {Qf:Ks V->Hp->Prop}
theorem rm {RR:IS->Ko->Result->IN->Prop} (I:Inv X Ku σ H2 s2) (ok:CompOk X scope own cs cap) (hc:X.calm=true) (T:Turn X.prog X.w X.K tg J fp it tn) (st:tn 0 s2.heap) (hf:∀b∈fp,cP X Ku H2 b)
  (hg:∀C,PG (av X Ku s2 H2 scope C (own ++ cs) fp) tg g) (hi:∀C,fR (av X Ku s2 H2 scope C (own ++ cs) fp) ifs tt) (hit2:∀C,PI (av X Ku s2 H2 scope C (own ++ cs) fp) tg2 Kx wi2) (hs2:∀C x,foldedSetIterable Kx (compEnvC scope (aH X.env scope.names []) C X.env) x=pure x) (hg2:∀C,PG (av X Ku s2 H2 scope C (own ++ cs) fp) tg2 g2) (hi2:∀C,fR (av X Ku s2 H2 scope C (own ++ cs) fp) ifs2 tt2) (he:∀C,PE (av X Ku s2 H2 scope C (own ++ cs) fp) elt te)
  (w0:∃m,W 0 m [] H2) (turn:lm σ cap own.length J g tt wi2 g2 tt2 te Qf W)
  (hRR:∀D C s',BlkEnd X Ku σ Qf D C s'->RR (.ref D) C (.ok .next) s') :
  wpAny (model X.prog X.w) X.A (newList []) (λ acc s₃=>wpAny (model X.prog X.w) X.A (newFunctionEnv scope X.env.globals (aH X.env scope.names []) [] X.env.qual none .none (some X.env)) (λ cenv s₄=>
   codeAny (model X.prog X.w) X.A (.compStart (.ListComp elt [%[tg,iter,ifs|0],%[tg2,Kx,ifs2|0]] scope pos) 0 (.ref it) acc { cenv with scope:=relabel scope X.env }) (RR acc cenv.locals) s₄) E s₃) E s2:=by
 apply IL (wpAny_newFunctionEnv ok.cell (by intro y hy;simp at hy) (λ h₁ hns₁ hsb₁=>?_) ok.kind);dsimp only at hns₁ hsb₁ ⊢;generalize hHH:s2.heap.push { cls:=.type "list",dict:=none,data:=.seq ([]:Ks IS).toArray }=HH at hns₁ hsb₁ ⊢;have hCs:HH.objs.size=s2.heap.objs.size+1:=by rw[<- hHH,K3]
 have hDC:s2.heap.objs.size≠HH.objs.size:=by rw[hCs];exact C1 (G1 _)
 have hCle:s2.heap.objs.size<=HH.objs.size:=by rw[hCs];exact Kk _
 have hfl:∀b∈fp,b < s2.heap.objs.size:=λ b hb=>by obtain⟨o,e,_⟩:=T.obj 0 _ st b hb;exact B0 e
 have old:∀b o,s2.heap.get? b=some o->h₁.get? b=some o:=λ b o e=>hsb₁.extBut b o (by rw[hCs];exact C1 (Jf (B0 e))) (A8 _ (hHH ▸ A8 _ e));have hacc:h₁.PlainList s2.heap.objs.size #[]:=%[_|hsb₁.extBut _ _ hDC (A8 _ (hHH ▸ A9 _ rfl))]
 generalize hD:s2.heap.objs.size=D at *;generalize hCC:HH.objs.size=C at *;have hns₁':h₁.Ns C (λ _=>none):=hns₁;have I0:Inv (av X Ku s2 H2 scope C (own ++ cs) fp) [] (aA σ cap own.length) H2 { s2 with heap:=h₁,toks:=s2.toks+([]:Ks (Str×IS)).length } :=
  gy I ok hf (λ b hb=>by rw[hD];exact hfl b hb) (by rw[hD];exact hCle) hns₁' old
 have Dfs:D∉frs X.stack:=λ hb=>by obtain⟨_,o,ho,_⟩:=I.stack.mem hb;exact absurd (B0 ho) (by rw[hD];exact E2 _)
 have Dfp:∀b∈fp,D≠b:=λ b hb z=>absurd (hfl b hb) (by rw[<- z];exact E2 _);have clt:∀x c,(aH X.env scope.names []).lookup x=some c->c < D:=λ x c e=>by have e':=bi X.env scope.names [] x c (λ y hy e=>I.ok.has y.1 (ok.free y hy e)) (λ _ _ z=>by simp at z) e;obtain⟨v,o,ho,_⟩:=I.cell x c e';have:=B0 ho;rw[hD]at this;exact this
 have plt:∀p∈X.pn ++ Ku,p.1 < D:=λ p hp=>by have:=B0 (I.pin p hp).1;rw[hD]at this;exact this
 have stat:∀ {H':Hp} {ob:Obj},(∀b∈fp,H' b=none)->∀b∈fp,cP (av X Ku s2 H2 scope C (own ++ cs) fp) [(D,ob)] H' b:=λ {H' ob} hn b hb=>by
  have q:=I0.ok.exf b hb;apply%[hn b hb,q.1,I0.ok.exfs b hb,.inl hb,q.2|λ p hp=>?_];rcases C4.mp hp with z | z
  ·exact(hf b hb).2.2.2.2.2 p z
  ·have:p=(D,ob):=by simpa using z
   subst this;exact Dfp b hb
 have loop:codeAny (model X.prog X.w) X.A (.compLoop (.ListComp elt [%[tg,iter,ifs|0],%[tg2,Kx,ifs2|0]] scope pos) 0 (.ref it) (.ref D) (compEnvC scope (aH X.env scope.names []) C X.env)) (RR (.ref D) C)
   { s2 with heap:=h₁,toks:=s2.toks+([]:Ks (Str×IS)).length }:=by
  obtain⟨m0,w0⟩:=w0;apply codeAny_loop rfl (λ n s'=>∃i H' its ys,Inv (av X Ku s2 H2 scope C (own ++ cs) fp) [] (aA σ cap own.length) H' s'/\tn i s'.heap/\(∀b∈fp,H' b=none)/\s'.heap.PlainList D its.toArray/\Vals ys its/\H' D=none/\W i n ys H') ?_ m0
   %[0,H2,[],[],I0,T.keep 0 _ _ st λ b _ o e=>old b o e,λ b hb=>(hf b hb).1,hacc,.nil,I.hok.fresh (by rw[hD];exact B4 _)|w0]
  rintro n s3 ⟨i,H3,its,ys,I3,st3,fr3,⟨nn,pl3⟩,rv3,hD3,w3⟩;show wpAny _ X.A ((compTurn (.ListComp elt [%[tg,iter,ifs|0],%[tg2,Kx,ifs2|0]] scope pos) 0 (.ref it) (.ref D) (compEnvC scope (aH X.env scope.names []) C X.env)).onRaise (λ x=>do noteFrame x (compEnvC scope (aH X.env scope.names []) C X.env);theTreesLotGoes x)) _ _ s3;apply wpAny_noted ?_;rw[lh];apply A0 (LM (A0 ?_));have I3':Inv (av X Ku s2 H2 scope C (own ++ cs) fp) [(D,{ cls:=.type "list",data:=.seq its.toArray nn })] (aA σ cap own.length) H3 s3 :=
   I3.pins_of λ p hp=>by
    have:p=(D,{ cls:=.type "list",data:=.seq its.toArray nn }):=by simpa using hp
    subst this;exact%[pl3,hD3,hDC,Dfs|λ v z=>by cases z]
  rcases turn i n ys H3 w3 with⟨stop,hz,qf⟩ | ⟨go,step⟩
  ·apply thn (T.done (av X Ku s2 H2 scope C (own ++ cs) fp) rfl rfl rfl hc i _ s3 _ H3 _ I3' (stat fr3) st3 stop) λ r s4 %[hr|I4]=>?_;subst hr;apply A3 (hRR D C s4 %[%[ys,H3,hD3,qf,?_|?_]|?_])
   ·have pl4:=(I4.pin (D,_) (A6 _ (E4.mpr rfl))).1;have u4:=I4.base;have Ds2:s2.heap.get? D=none:=Lo (by rw[hD];exact B4 _);apply I.call' (s':=s4) (ch:=fp) I4.os %[u4.keep,u4.slot,λ b o e n hx=>?_,u4.there,λ b xs e=>?_,λ b o u e=>?_|λ b ps e=>?_] ?_ I4.bare λ b hb=>%[(hf b hb).2.2.2.1,(hf b hb).2.1,(hf b hb).2.2.2.2.1|(hf b hb).2.2.2.2.2]
    ·rw[ah (λ z=>by rw[z,Ds2]at e;cases e)];exact u4.free b o e n hx
    ·have:=u4.tups b xs e;rw[ah (ae this hD3)];exact this
    ·have:=u4.frzs b o u e;rw[ah (ae this hD3)];exact this
    ·obtain⟨more,e'⟩:=u4.tbls b ps e;exact%[more|by rw[ah (ae e' hD3)];exact e']
    ·exact I4.hok.add hD3 %[hz,its,nn,rv3|pl4]
   ·have CH:(upd H3 D (.lst ys)) C=none:=by rw[ah (Ne.symm hDC)];exact I4.free
    exact I.fpOk (H':=upd H3 D (.lst ys)) (by rw[hD];exact hCle) CH
   ·obtain⟨m,hn,_⟩:=I4.loc;exact%[m|hn]
  ·apply thn (T.item (av X Ku s2 H2 scope C (own ++ cs) fp) rfl rfl rfl hc i _ s3 _ H3 _ I3' (stat fr3) st3 go) λ r s4 %[u,hr|h4]=>?_;subst hr;apply A0 (thn h4 λ _ s5 %[x,H5,I5,r5,y5,st5|fr5]=>?_);have I5':=I5.pinned (stat fr5) (T.obj _ _ st5);apply A0 (K6 (hg C _ s5 _ H5 x u _ I5' r5 (step x H5 y5)) (λ _ s6 ⟨σ6,H6,I6,le6,q6⟩=>?_) λ _ _ z=>E9 z);apply A0 (K6 (hi C _ s6 σ6 H6 _ I6 q6) (λ b s7 ⟨H7,I7,q7⟩=>?_) λ _ _ z=>E9 z);have back:∀ {pins':Ks (Ko×Obj)} {H8:Hp} {s8:IN},Inv (av X Ku s2 H2 scope C (own ++ cs) fp) pins' σ6 H8 s8->Inv (av X Ku s2 H2 scope C (own ++ cs) fp) [] (aA σ cap own.length) H8 s8:=λ I8=>
    I8.bareP.weak le6.1.symm λ i v e=>le6.2 i v e
   cases b with
   | false=>
    rw[Ky B3]at q7;obtain⟨m',hm,w7⟩:=q7;apply A3 %[rfl,m',hm,i+1,H7,its,ys,back I7,T.keep _ _ _ st5 λ b hb o e=>?_,λ b hb=>?_,%[nn|?_],rv3,?_|w7]
    ·exact(I7.pin (b,o) (A6 _ (A6 _ (ax hb e)))).1
    ·obtain⟨o,e,d⟩:=T.obj _ _ st5 b hb;exact(I7.pin (b,o) (A6 _ (A6 _ (ax hb e)))).2.1
    ·exact(I7.pin (D,_) (A6 _ (B8 _ (E4.mpr rfl)))).1
    ·exact(I7.pin (D,_) (A6 _ (B8 _ (E4.mpr rfl)))).2.1
   | true=>
    rw[Kz rfl]at q7;obtain⟨P5,hP5⟩:∃P5,iw fp s5.heap=P5:=%[_|Y]
    have P5f:∀p∈P5,p.1∈fp:=λ p hp=>by rw[<- hP5]at hp;exact(jG hp).1
    apply A0 (K6 (hit2 C _ s7 σ6 H7 _ I7 q7) (λ xv s8 h8=>?_) λ _ _ z=>E9 z);apply A0 (LM (A0 (wpAny_of_eq (hs2 C xv) ?_)));apply A0 (K2 (K6 h8 (λ itv s9 h9=>?_) λ _ _ z=>E9 z));obtain⟨it2,fp2,tn2,J2,H9,e9,I9,T2,st9,f9,W2,⟨m2,w20⟩,turn2⟩:=h9;subst e9;have D2:∀b∈fp2,D≠b:=λ b hb=>(f9 b hb).2.2.2.2.2 (D,{ cls:=.type "list",data:=.seq its.toArray nn }) (A6 _ (B8 _ (E4.mpr rfl)));have p2:∀b∈fp2,∀p∈P5,p.1≠b:=λ b hb p hp=>(f9 b hb).2.2.2.2.2 p (A6 _ (A6 _ (by rw[hP5];exact hp)));have stat2:∀ {H':Hp} {ob:Obj},(∀b∈fp2,H' b=none)->∀b∈fp2,cP (av X Ku s2 H2 scope C (own ++ cs) fp) (P5 ++ [(D,ob)]) H' b:=λ {H' ob} hn b hb=>by
     have q:=f9 b hb;apply%[hn b hb,q.2.1,q.2.2.1,q.2.2.2.1,q.2.2.2.2.1|λ p hp=>?_];rcases C4.mp hp with z | z
     ·exact q.2.2.2.2.2 p (B8 _ z)
     ·rcases C4.mp z with z | z
      ·exact p2 b hb p z
      ·have:p=(D,ob):=by simpa using z
       subst this;exact D2 b hb
    have pD9:=I9.pin (D,{ cls:=.type "list",data:=.seq its.toArray nn }) (A6 _ (B8 _ (E4.mpr rfl)));have I9':Inv (av X Ku s2 H2 scope C (own ++ cs) fp) P5 σ6 H9 s9:=I9.pins_of λ p hp=>I9.pin p (A6 _ (A6 _ (by rw[hP5];exact hp)));have inner:∀ (R2:Result->IN->Prop),(∀s',(∃m' G its ys,m' < n/\Inv (av X Ku s2 H2 scope C (own ++ cs) fp) [] (aA σ cap own.length) G s'/\tn (i+1) s'.heap/\(∀b∈fp,G b=none)/\s'.heap.PlainList D its.toArray/\Vals ys its/\G D=none/\W (i+1) m' ys G)->R2 (.ok .next) s')->∀ (s':IN),(∃i H' its ys,Inv (av X Ku s2 H2 scope C (own ++ cs) fp) P5 σ6 H' s'/\tn2 i s'.heap/\(∀b∈fp2,H' b=none)/\s'.heap.PlainList D its.toArray/\Vals ys its/\H' D=none/\∃m,W2 i m ys H')->codeAny (model X.prog X.w) X.A (.compLoop (.ListComp elt [%[tg,iter,ifs|0],%[tg2,Kx,ifs2|0]] scope pos) 1 (.ref it2) (.ref D) (compEnvC scope (aH X.env scope.names []) C X.env)) R2 s':=by
     rintro R2 hR2 s' ⟨i',H',its',ys',J1,J2',J3,J4,J5,J6,m',J7⟩;apply codeAny_loop rfl (λ n s'=>∃i H' its ys,Inv (av X Ku s2 H2 scope C (own ++ cs) fp) P5 σ6 H' s'/\tn2 i s'.heap/\(∀b∈fp2,H' b=none)/\s'.heap.PlainList D its.toArray/\Vals ys its/\H' D=none/\W2 i n ys H') ?_ m' %[i',H',its',ys',J1,J2',J3,J4,J5,J6|J7];clear J1 J2' J3 J4 J5 J6 J7;clear i' H' its' ys' m' s';rintro n2 t3 ⟨j,G3,jts,zs,J3,tt3,fr3',⟨mm,pl3'⟩,rv3',hD3',w3'⟩;show wpAny _ X.A ((compTurn (.ListComp elt [%[tg,iter,ifs|0],%[tg2,Kx,ifs2|0]] scope pos) 1 (.ref it2) (.ref D) (compEnvC scope (aH X.env scope.names []) C X.env)).onRaise (λ x=>do noteFrame x (compEnvC scope (aH X.env scope.names []) C X.env);theTreesLotGoes x)) _ _ t3;apply wpAny_noted ?_;rw[mH];apply A0 (LM (A0 ?_));have J3':Inv (av X Ku s2 H2 scope C (own ++ cs) fp) (P5 ++ [(D,{ cls:=.type "list",data:=.seq jts.toArray mm })]) σ6 G3 t3 :=
      J3.pins_of λ p hp=>by
       rcases C4.mp hp with z | z
       ·exact J3.pin p (A6 _ z)
       ·have:p=(D,{ cls:=.type "list",data:=.seq jts.toArray mm }):=by simpa using z
        subst this;exact%[pl3',hD3',hDC,Dfs|λ v z=>by cases z]
     rcases turn2 j n2 zs G3 w3' with⟨stop2,qf2⟩ | ⟨go2,hz2,step2⟩
     ·apply thn (T2.done (av X Ku s2 H2 scope C (own ++ cs) fp) rfl rfl rfl hc j _ t3 _ G3 _ J3' (stat2 fr3') tt3 stop2) λ r t4 %[hr|J4]=>?_;subst hr;obtain⟨mo,hmo,wo⟩:=qf2;have pD4:=J4.pin (D,{ cls:=.type "list",data:=.seq jts.toArray mm }) (A6 _ (A6 _ (E4.mpr rfl)));apply A3 (hR2 _ %[mo,G3,jts,zs,hmo,back J4,T.keep _ _ _ st5 λ b hb o e=>?_,λ b hb=>?_,%[mm|pD4.1],rv3',pD4.2.1|wo])
      ·exact(J4.pin (b,o) (A6 _ (B8 _ (by rw[<- hP5];exact ax hb e)))).1
      ·obtain⟨o,e,d⟩:=T.obj _ _ st5 b hb;exact(J4.pin (b,o) (A6 _ (B8 _ (by rw[<- hP5];exact ax hb e)))).2.1
     ·apply thn (T2.item (av X Ku s2 H2 scope C (own ++ cs) fp) rfl rfl rfl hc j _ t3 _ G3 _ J3' (stat2 fr3') tt3 go2) λ r t4 %[u2,hr|h4']=>?_;subst hr;apply A0 (thn h4' λ _ t5 %[x2,G5,J5,r5',y5',st5'|fr5']=>?_);have J5':=J5.pinned (stat2 fr5') (T2.obj _ _ st5');apply A0 (K6 (hg2 C _ t5 _ G5 x2 u2 _ J5' r5' (step2 x2 G5 y5')) (λ _ t6 ⟨σ7,G6,J6,le7,q7'⟩=>?_) λ _ _ z=>E9 z);apply A0 (K6 (hi2 C _ t6 σ7 G6 _ J6 q7') (λ b2 t7 ⟨G7,J7,q8'⟩=>?_) λ _ _ z=>E9 z);have back2:∀ {pins':Ks (Ko×Obj)} {G8:Hp} {t8:IN},Inv (av X Ku s2 H2 scope C (own ++ cs) fp) (P5 ++ pins') σ7 G8 t8->Inv (av X Ku s2 H2 scope C (own ++ cs) fp) P5 σ6 G8 t8:=λ J8=>
       (J8.pins_of λ p hp=>J8.pin p (A6 _ (B8 _ hp))).weak le7.1.symm λ i v e=>le7.2 i v e
      cases b2 with
      | false=>
       rw[Ky B3]at q8';obtain⟨m',hm,w7⟩:=q8';rw[JC]at J7;apply A3 %[rfl,m',hm,j+1,G7,jts,zs,back2 J7,T2.keep _ _ _ st5' λ b hb o e=>?_,λ b hb=>?_,%[mm|?_],rv3',?_|w7]
       ·exact(J7.pin (b,o) (A6 _ (A6 _ (A6 _ (ax hb e))))).1
       ·obtain⟨o,e,d⟩:=T2.obj _ _ st5' b hb;exact(J7.pin (b,o) (A6 _ (A6 _ (A6 _ (ax hb e))))).2.1
       ·exact(J7.pin (D,_) (A6 _ (A6 _ (B8 _ (E4.mpr rfl))))).1
       ·exact(J7.pin (D,_) (A6 _ (A6 _ (B8 _ (E4.mpr rfl))))).2.1
      | true=>
       rw[Kz rfl]at q8';apply A0 (A0 (K6 (he C _ t7 σ7 G7 _ J7 q8') (λ y2 t8 ⟨v2,G8,J8,r8',m',hm,w8⟩=>?_) λ _ _ z=>E9 z));rw[JC]at J8;have pD:=J8.pin (D,{ cls:=.type "list",data:=.seq jts.toArray mm }) (A6 _ (A6 _ (B8 _ (E4.mpr rfl))));have Kw:=rv3'.length;apply A0 (wpAny_list_append_plain (hsz:=by rw[JL];lia) %[mm|pD.1] λ h9 pl9 sb9=>A3 (A3 ?_));have J8':=back2 J8;apply%[Y,m',hm,j+1,G8,jts ++ [y2],zs ++ [v2],?_,T2.keep _ _ _ st5' λ b hb o e=>?_,λ b hb=>?_,?_,rv3'.append (.cons r8' .nil),pD.2.1|w8]
       ·exact J8'.turned (t':=t8.toks) (λ b o hb e=>sb9.extBut b o hb e) pD.2.1 hDC (.inr (by show s2.heap.objs.size<=D;rw[hD];exact B4 _)) (λ x c e=>C1 (clt x c e)) λ p hp=>by
         have hp':p∈(X.pn ++ Ku) ++ P5:=hp;rcases C4.mp hp' with z | z
         ·exact C1 (plt p z)
         ·exact Ne.symm (Dfp p.1 (P5f p z))
       ·exact sb9.extBut b o (Ne.symm (D2 b hb)) (J8.pin (b,o) (A6 _ (A6 _ (A6 _ (ax hb e))))).1
       ·obtain⟨o,e,d⟩:=T2.obj _ _ st5' b hb;exact(J8.pin (b,o) (A6 _ (A6 _ (A6 _ (ax hb e))))).2.1
       ·have e:jts.toArray.push y2=(jts ++ [y2]).toArray:=by simp
        rw[<- e];exact pl9
    have stt:∃i H' its ys,Inv (av X Ku s2 H2 scope C (own ++ cs) fp) P5 σ6 H' s9/\tn2 i s9.heap/\(∀b∈fp2,H' b=none)/\s9.heap.PlainList D its.toArray/\Vals ys its/\H' D=none/\∃m,W2 i m ys H':=%[0,H9,its,ys,I9',st9,λ b hb=>(f9 b hb).1,%[nn|pD9.1],rv3,pD9.2.1,m2|w20]
    have fv:∀ (R2:Result->IN->Prop),(∀s',(∃m' G its ys,m' < n/\Inv (av X Ku s2 H2 scope C (own ++ cs) fp) [] (aA σ cap own.length) G s'/\tn (i+1) s'.heap/\(∀b∈fp,G b=none)/\s'.heap.PlainList D its.toArray/\Vals ys its/\G D=none/\W (i+1) m' ys G)->R2 (.ok .next) s')->codeAny (model X.prog X.w) X.A (.compStart (.ListComp elt [%[tg,iter,ifs|0],%[tg2,Kx,ifs2|0]] scope pos) 1 (.ref it2) (.ref D) (compEnvC scope (aH X.env scope.names []) C X.env)) R2 s9:=λ R2 hR2=>
     eF (inner R2 hR2 s9 stt) (T2.self _ 0 _ _ _ st9 (inner R2 hR2 s9 stt))
    apply A0 (wpAny_runOwn (fv _ ?_));rintro s' ⟨m',G,its,ys,hm,c1,c2,c3,c4,c5,c6,c7⟩;exact A3 %[rfl,m',hm,i+1,G,its,ys,c1,c2,c3,c4,c5,c6|c7]
 exact codeAny_compStart_list loop (T.self _ 0 _ _ _ (T.keep 0 _ _ st λ b _ o e=>old b o e) loop)
def yq (wi:TI) (cap:Ks Nat) (k:Nat) (g:TG) (tt:TT) (wi2:TI) (g2:TG) (tt2:TT) (te:TE):TE:=λ σ H Q=>wi σ H λ J H1=>
 ∃W:Nat->Nat->Ks V->Hp->Prop,(∃m,W 0 m [] H1)/\lm σ cap k J g tt wi2 g2 tt2 te (λ ys H'=>∀p,H' p=none->Q (.ref p) (upd H' p (.lst ys))) W
theorem uK {wi:TI} (hc:X.calm=true) (hit:PI X tg iter wi) (ok:CompOk X scope own cs cap)
  (hg:∀Ku s2 H2 C fp,PG (av X Ku s2 H2 scope C (own ++ cs) fp) tg g) (hi:∀Ku s2 H2 C fp,fR (av X Ku s2 H2 scope C (own ++ cs) fp) ifs tt)
  (hit2:∀Ku s2 H2 C fp,PI (av X Ku s2 H2 scope C (own ++ cs) fp) tg2 Kx wi2) (hg2:∀Ku s2 H2 C fp,PG (av X Ku s2 H2 scope C (own ++ cs) fp) tg2 g2) (hi2:∀Ku s2 H2 C fp,fR (av X Ku s2 H2 scope C (own ++ cs) fp) ifs2 tt2)
  (he:∀Ku s2 H2 C fp,PE (av X Ku s2 H2 scope C (own ++ cs) fp) elt te)
  (hs:∀x,foldedSetIterable iter X.env x=pure x:=by intro _;rfl) (hs2:∀C x,foldedSetIterable Kx (compEnvC scope (aH X.env scope.names []) C X.env) x=pure x:=by intro _ _;rfl):PE X (.ListComp elt [%[tg,iter,ifs|0],%[tg2,Kx,ifs2|0]] scope pos) (yq wi cap own.length g tt wi2 g2 tt2 te):=by
 intro Ku s σ H Q I h;rw[eval_ListComp];apply LP (use:=none) rfl hs (cH λ y hy e=>I.ok.has y.1 (ok.free y hy e)) ok.kind ok.names (thn (hit Ku s σ H _ I h) λ v s1 h1=>thn h1 λ itv s2 h2=>?_);obtain⟨it,fp,tn,J,H2,e,I2,T,st2,f2,W,w0,turn⟩:=h2;subst e;apply rm (RR:=λ acc C=>compPost (model X.prog X.w) X.A X.xe none (EP X Ku σ Q) acc C) I2 ok hc T st2 f2 (λ C=>hg _ _ _ _ _) (λ C=>hi _ _ _ _ _) (λ C=>hit2 _ _ _ _ _) hs2 (λ C=>hg2 _ _ _ _ _) (λ C=>hi2 _ _ _ _ _) (λ C=>he _ _ _ _ _) w0 turn λ D C s' B=>?_;obtain⟨⟨ys,H',hD,q,I',fp'⟩,m,hn⟩:=B;obtain⟨f0,f1,f2',f3,f4,f5⟩:=fp';exact%[m,hn|λ h' sb=>%[.ref D,_,I'.turned (t':=s'.toks) (λ b o hb e=>sb.extBut b o hb e) f0 f1 f3 f4 f5,Y|q D hD]]
end
end L2
namespace PySem
open Sem (wp)
section
variable {prog:IP} {w:IR} {A:Around} {E:IS->IN->Prop} {s:IN}
theorem bY {d:Ko} {es:Kr DictEntry} {ep:Nat} {Q:IS->IN->Prop} (hd:(d == sysModules)=false) (hm:(∃o,s.heap.get? d=some o/\o.ExactDict/\o.data=.dict es ep))
  (hQ:Q (.ref s.heap.objs.size) { s with heap:=s.heap.push { cls:=.type "dict_keyiterator",data:=.fields #[.ref d,.int 0 0,.int es.size 0,.int ep 0] } }) :
  wpAny (model prog w) A (pyIter (.ref d)) Q E s:=by
 obtain⟨o,ho,hc,hdat⟩:=id hm;have hT:s.TypeIs (.ref d) "dict" := %[_,ho|hc.1]
 apply wpAny_pyIter_slot hT F.slot_dict_iter (G9 F.slot_dict_iter hT F.entry_dict_iter ?_ (F.args_dict_iter_1 _));unfold Builtin.«dict.__iter__»;apply A0 ?_;unfold Builtin.Dict.dictSlotNone;apply A0 (Ln hT ?_);show wpAny _ _ (pure (Value.ref d)) _ _ s;apply A3 ?_;show wpAny _ _ (Builtin.Dict.showsAll d >>= _) _ _ s;unfold Builtin.Dict.showsAll;rw[Ky (by rw[hd];exact B3)];apply A0 (A3 ?_);apply A0 (LG ho hdat ?_);apply A0 (Lf ho hdat ?_);have hsz:es.size=es.size:=rfl;apply A0 (IL (A3 %[_,rfl,"dict_keyiterator",_,%[_,A9 _ rfl|rfl],F.slot_dict_keyiterator_next.lookup|?_]));simpa[rawInt,hsz]using hQ
theorem cf {it d:Ko} {i ep:Nat} {es:Kr DictEntry} {en:DictEntry} {Q:Kq IS->IN->Prop} (hit:s.heap.IsKeyIter it d i es.size ep)
  (hm:(∃o,s.heap.get? d=some o/\o.ExactDict/\o.data=.dict es ep)) (hx:es[i]?=some en)
  (hQ:∀h',h'.IsKeyIter it d (i+1) es.size ep->Heap.SameBut it s.heap h'->Q (some en.key) { s with heap:=h' }) :
  wpAny (model prog w) A (pyNext (.ref it)) Q E s:=by
 obtain⟨o,ho,hc,hd⟩:=id hit;obtain⟨od,hod,hcd,hdd⟩:=id hm;unfold pyNext;apply A0 (Lb (wpAny_callSpecial?_slot (name:=Str.ofString "__next__") hit.typeIs Lg
  (G9 Lg hit.typeIs F.entry_dict_keyiterator_next ?_ (F.args_dict_keyiterator_next_1 _))))
 apply A0 (A3 ?_);apply A0 ?_;apply A0 ?_
 first | apply A0 (Lc hit.typeIs (A3 ?_)) | apply A0 (wpAny_typeNameOf_keyiter hit.typeIs (A3 ?_))
 apply A0 (wpAny_fieldsOf ho hd ?_);have hown:Builtin.Dict_items.ownsTuple "dict_keyiterator" = false:=∅
 simp only[hown,Jg,LU];show wpAny _ _ (if (Value.ref d == Value.none)=true then _ else _) _ _ s;rw[Ky (show¬ ((Value.ref d == Value.none)=true)from B3)];apply A0 (A3 ?_);apply A0 (LG hod hdd ?_);have hsz:es.size=es.size:=rfl;rw[Ky (by simp)];apply A0 (A3 ?_);apply A0 (Lf hod hdd ?_);rw[Ky (by simp)];apply A3 ?_;have hlt:i < es.size:=by
  rcases Kj i es.size with h | h
  ·exact h
  ·rw[JU h]at hx;cases hx
 have hlt':i < es.size:=by rw[hsz];exact hlt
 have hkey:es[i]=en:=by rw[JN hlt']at hx;exact C0 hx
 simp only[show¬ ((i:Int) < 0)from by lia,LU,Ja,JN hlt'];apply A0 ?_
 first | apply A0 (Lc hit.typeIs (A3 ?_)) | apply A0 (wpAny_typeNameOf_keyiter hit.typeIs (A3 ?_))
 apply A0 (wpAny_isOneOf_keyiter hit.typeIs ?_);show wpAny _ _ (setField (.ref it) 1 (rawInt ((i:Int)+1)) >>= _) _ _ s;apply A0 (wpAny_setField ho hd (by simp) ?_);have hit':(s.heap.update it (Obj.mapFields (·.setIfInBounds 1 (rawInt ((i:Int)+1))))).IsKeyIter it d (i+1) es.size ep :=
  %[_,LF _ ho (Obj.isFreed_of_fields (Obj.data_mapFields hd _)),(Obj.cls_mapFields ..).trans hc|by rw[Obj.data_mapFields hd];simp[rawInt]]
 apply A0 (K2 ?_);apply A0 (wpAny_isOneOf_keyiter (s:={ s with heap:=s.heap.update it (Obj.mapFields (·.setIfInBounds 1 (rawInt ((i:Int)+1)))) }) hit'.typeIs ?_);show wpAny _ _ (pure es[i].key) _ _ _;exact A3 (A3 %[_,rfl|A3 (by rw[hkey];exact hQ _ hit' (K4 ..))])
theorem cu {it d:Ko} {i ep:Nat} {es:Kr DictEntry} {Q:Kq IS->IN->Prop} (hh:A.handled=none) (hit:s.heap.IsKeyIter it d i es.size ep)
  (hm:(∃o,s.heap.get? d=some o/\o.ExactDict/\o.data=.dict es ep)) (hx:es[i]?=none)
  (hQ:∀h',Heap.ExtBut it s.heap h'->Q none { s with heap:=h' }):wpAny (model prog w) A (pyNext (.ref it)) Q E s:=by
 obtain⟨o,ho,hc,hd⟩:=id hit;obtain⟨od,hod,hcd,hdd⟩:=id hm;unfold pyNext;apply A0 (Lb (wpAny_callSpecial?_slot (name:=Str.ofString "__next__") hit.typeIs Lg
  (G9 Lg hit.typeIs F.entry_dict_keyiterator_next ?_ (F.args_dict_keyiterator_next_1 _))))
 apply A0 (A3 ?_);apply A0 ?_;apply A0 ?_
 first | apply A0 (Lc hit.typeIs (A3 ?_)) | apply A0 (wpAny_typeNameOf_keyiter hit.typeIs (A3 ?_))
 apply A0 (wpAny_fieldsOf ho hd ?_);have hown:Builtin.Dict_items.ownsTuple "dict_keyiterator" = false:=∅
 simp only[hown,Jg,LU];show wpAny _ _ (if (Value.ref d == Value.none)=true then _ else _) _ _ s;rw[Ky (show¬ ((Value.ref d == Value.none)=true)from B3)];apply A0 (A3 ?_);apply A0 (LG hod hdd ?_);have hsz:es.size=es.size:=rfl;rw[Ky (by simp)];apply A0 (A3 ?_);apply A0 (Lf hod hdd ?_);rw[Ky (by simp)];apply A3 ?_;have hge:es.size<=i:=by simpa using hx
 simp only[show¬ ((i:Int) < 0)from by lia,LU,Ja,JU hge];apply A0 ?_
 first | apply A0 (Lc hit.typeIs (A3 ?_)) | apply A0 (wpAny_typeNameOf_keyiter hit.typeIs (A3 ?_))
 show wpAny _ _ (setField (.ref it) 0 .none >>= _) _ _ s;apply A0 (wpAny_setField ho hd (by simp) ?_);show wpAny _ _ (newExc (.type "StopIteration") [] >>= _) _ _ _;apply A0 ?_;simp only[newExc,newTuple];apply A0 (IL ?_ (by size_fits));apply A0 (m:=firstArgMember _ _) (wpAny_of_eq (a:=Value.none) (by first | rfl | (simp only[firstArgMember];rfl)) ?_);apply IL ?_ (by size_fits);simp only[raiseNew];apply A0 (wpAny_handled ?_);rw[show A.in1.handled=none from hh];apply A0 (A3 (wpAny_throw ?_));apply A0 (wpAny_isInstance (T := "StopIteration") (b:=true) %[_,A9 _ rfl|rfl] isSubtype_stop ?_);exact A3 (hQ _ (((K4 ..).extBut.push _).push _))
end
end PySem
namespace L2
open PySem PySem.Spec PyProof.Rows
def Itd (a:Ko) (ob:Obj) (kvs:Ks (Ks Key×V)):It :=
 %[λ i H=>i < kvs.length/\H a=some (.frz ob (.dT kvs)),λ i H x H'=>H'=H/\∃q k v,kvs[i]?=some (k,v)/\x=.ref q/\H q= ~~~(k.map kV)|λ i H=>i=kvs.length/\H a=some (.frz ob (.dT kvs))]
theorem ke {α β:Type} {F:α->β->Prop}:∀ {l₁:Ks α} {l₂:Ks β} {i:Nat} {x:α},Paired F l₁ l₂->l₁[i]?=some x->∃y,l₂[i]?=some y/\F x y
 | _,_,0,_,.cons h _,e=>%[_,Y|by cases e;exact h]
 | _,_,i+1,_,.cons _ r,e=>ke (i:=i) r (by simpa using e)
 | _,_,_,_,.nil,e=>by simp at e
theorem uL {α β:Type} {F G:α->β->Prop}:∀ {l₁:Ks α} {l₂:Ks β},Paired F l₁ l₂->(∀x y,F x y->G x y)->Paired G l₁ l₂
 | _,_,.nil,_=>.nil
 | _,_,.cons h r,f=>.cons (f _ _ h) (uL r f)
theorem gM {α β:Type} {F:α->β->Prop}:∀ {l₁:Ks α} {l₂:Ks β},Paired F l₁ l₂->l₁.length=l₂.length
 | _,_,.nil=>rfl
 | _,_,.cons _ r=>by rw[JF,JF,gM r]
theorem iR {P:IP} {w:IR} {K:C6} {tg:Expr} (a it:Ko) (ob:Obj) (kvs:Ks (Ks Key×V)) (es:Kr DictEntry) (ep:Nat) (hx:ob.ExactDict) (hd:ob.data=.dict es ep) (hn:es.size=kvs.length) :
  Turn P w K tg (Itd a ob kvs) [it] it (λ i h=>h.IsKeyIter it a i es.size ep) where
 mem:=by simp
 obj:=λ i h st b hb=>by
  have e:b=it:=by simpa using hb
  subst e;obtain⟨o,e,c,d⟩:=st;exact%[o,e|λ v z=>by rw[d]at z;cases z]
 keep:=λ i h h' st k=>st.at λ o e=>k it (by simp) o e
 item:=by
  intro X hP hw hK hc i Ku s σ H E I hf st hg;subst hP hw hK;obtain⟨hi,hH⟩:=hg;obtain⟨h1,_,_,xs,pr,o,es',ep',h2,_,h3,h4,_⟩:=(show ObjOk X.prog X.w H s.heap a (.frz ob (.dT kvs))from I.hok a _ hH)
  rw[h1]at h2;cases h2;rw[hd]at h3;cases h3;have hk:kvs[i]?=some kvs[i]:=G2 hi;obtain⟨⟨k',q,v'⟩,hy,e1,e2,e3⟩:=ke pr hk;have hen:es[i]?=some (entryOfKey (tupleKind (aR X.prog X.w)) (k',q,v')):=by rw[<- JB,h4,IY,hy];rfl
  obtain⟨f0,f1,f2,f3,f4,f5⟩:=hf it (by simp);apply cf st %[ob,h1,hx|hd] hen λ h' st' sb=>?_;have I1:Inv X Ku σ H { s with heap:=h' }:=I.turned (t':=s.toks) (λ b o hb e=>(sb.2 b hb).trans e) f0 f1 f3 f4 f5;obtain⟨o,e,c,d⟩:=id st';exact%[_,Y|pC (s:={ s with heap:=h' }) e c d ∅ %[.ref q,H,I1,Y,%[Y,q,kvs[i].1,kvs[i].2,hk,Y|e2],st'|λ b hb=>(hf b hb).1]]
 done:=by
  intro X hP hw hK hc i Ku s σ H E I hf st hg;subst hP hw hK;obtain⟨hi,hH⟩:=hg;obtain⟨h1,_⟩:=(show ObjOk X.prog X.w H s.heap a (.frz ob (.dT kvs))from I.hok a _ hH)
  obtain⟨f0,f1,f2,f3,f4,f5⟩:=hf it (by simp);exact cu (I.ok.hd hc) st %[ob,h1,hx|hd] (by rw[JU];lia) λ h' eb=>%[Y|I.turned (t':=s.toks) (λ b o hb e=>eb b o hb e) f0 f1 f3 f4 f5]
 self:=λ _ _ _ _ _ st h=>wpAny_pyIter_keyiter st h
theorem mI {a:Ko} {ob:Obj} {kvs:Ks (Ks Key×V)} {g:TG} {tb:TS} {D:Ends} {σ:St} {H:Hp} (Pv:Nat->St->Hp->Prop) (h0:Pv 0 σ H) (hl:∀i σ H,i<=kvs.length->Pv i σ H->H a=some (.frz ob (.dT kvs)))
  (hs:∀i k v q σ H,kvs[i]?=some (k,v)->H q= ~~~(k.map kV)->Pv i σ H->g (.ref q) σ H λ σ2 H2=>tb { D with nx:=Pv (i+1),ct:=Pv (i+1),bk:=D.nx } σ2 H2) (hd:∀σ H,Pv kvs.length σ H->D.nx σ H) :
  ∃W:Nat->Nat->St->Hp->Prop,(∃m,W 0 m σ H)/\∀i m σ H,W i m σ H ->
   ((Itd a ob kvs).stop i H/\D.nx σ H)\/((Itd a ob kvs).go i H/\∃N:St->Hp->Prop,(∀σ' H',N σ' H'->∃m',m' < m/\W (i+1) m' σ' H')/\∀x H',(Itd a ob kvs).yld i H x H'->g x σ H' λ σ2 H2=>tb { D with nx:=N,ct:=N,bk:=D.nx } σ2 H2):=by
 apply%[λ i m σ H=>m=kvs.length - i/\i<=kvs.length/\Pv i σ H,%[kvs.length,by simp,G0 _|h0]|?_];rintro i m σ H ⟨rfl,hi,p⟩;have q:=hl i σ H hi p
 by_cases hlt:i < kvs.length
 ·apply .inr %[%[hlt|q],Pv (i+1),λ σ' H' p'=>%[_,⋯,Y,hlt|p']|λ x H' y=>?_];obtain⟨e,qa,k,v,e1,e2,e3⟩:=y;subst e e2;exact hs i k v qa σ _ e1 e3 p
 ·have e:i=kvs.length:=⋯
  subst e;exact .inl %[%[Y|q]|hd σ H p]
theorem rn {lo:Int} {n:Nat} {σ:St} {cap:Ks Nat} {k:Nat} {g g2:TG} {tt tt2:TT} {te:TE} {wi2:TI} {Q:Ks V->Hp->Prop} {H:Hp} (Pv:Nat->Ks V->Hp->Prop) (h0:Pv 0 [] H)
  (ht:∀i ys H',i < n->Pv i ys H'->g (.int (lo+i)) (aA σ cap k) H' λ σ2 H2=>leS (aA σ cap k) σ2/\tt σ2 H2 λ ok H3=>if ok=true then wi2 σ2 H3 (λ J2 H4=>∃W2:Nat->Nat->Ks V->Hp->Prop,(∃m2,W2 0 m2 ys H4)/\lj σ2 J2 g2 tt2 te (λ zs H5=>Nx n Pv i zs H5) W2)else Nx n Pv i ys H3)
  (hd:∀ys H',Pv n ys H'->ys.length<=sizeLine/\Q ys H'):∃W,(∃m,W 0 m [] H)/\lm σ cap k (Itr lo n) g tt wi2 g2 tt2 te Q W:=by
 apply%[λ i m ys H'=>m=n - i/\i<=n/\Pv i ys H',%[_,Y,G0 _|h0]|?_];rintro i m ys H' ⟨rfl,hi,p⟩
 by_cases hin:i < n
 ·apply .inr %[hin|λ x H2 yl=>?_];obtain⟨e1,e2⟩:=yl;subst e1 e2;exact ht i ys _ hin p
 ·have e:i=n:=⋯
  subst e;obtain⟨a1,a2⟩:=hd ys H' p;exact .inl %[B4 _,a1|a2]
theorem yr {lo:Int} {n:Nat} {σ2:St} {g2:TG} {tt2:TT} {te:TE} {N:Ks V->Hp->Prop} {H:Hp} {ys:Ks V} (Pv:Nat->Ks V->Hp->Prop) (h0:Pv 0 ys H)
  (ht:∀i zs H',i < n->Pv i zs H'->zs.length < sizeLine/\g2 (.int (lo+i)) σ2 H' λ σ3 H2=>leS σ2 σ3/\tt2 σ3 H2 λ ok H3=>if ok=true then te σ3 H3 (λ v H4=>Nx n Pv i (zs ++ [v]) H4)else Nx n Pv i zs H3)
  (hd:∀zs H',Pv n zs H'->N zs H'):∃W2:Nat->Nat->Ks V->Hp->Prop,(∃m2,W2 0 m2 ys H)/\lj σ2 (Itr lo n) g2 tt2 te N W2:=by
 apply%[λ i m zs H'=>m=n - i/\i<=n/\Pv i zs H',%[_,Y,G0 _|h0]|?_];rintro i m zs H' ⟨rfl,hi,p⟩
 by_cases hin:i < n
 ·obtain⟨e,hg⟩:=ht i zs H' hin p;apply .inr %[hin,e|λ x H2 yl=>?_];obtain⟨e1,e2⟩:=yl;subst e1 e2;exact hg
 ·have e:i=n:=⋯
  subst e;exact .inl %[B4 _|hd zs H' p]
theorem nW {P:IP} {w:IR} {K:C6} {tg:Expr} (it:Ko) (lo left:Int) (h0:left<=0):Turn P w K tg (Itr lo 0) [it] it (λ i h=>IsLongIter h it lo left 1) where
 mem:=by simp
 obj:=λ i h st b hb=>by
  have e:b=it:=by simpa using hb
  subst e;exact⟨_,st,λ v z=>by
   have z':Data.fields _=Data.cell v:=z;cases z'⟩
 keep:=λ i h h' st k=>k it (by simp) _ st
 item:=by intro X hP hw hK hc i Ku s σ H E I hf st hg;exact absurd hg (Nat.not_lt_zero _)
 done:=by intro X hP hw hK hc i Ku s σ H E I hf st hg;subst hP hw hK;obtain⟨f0,f1,f2,f3,f4,f5⟩:=hf it (by simp);exact wpAny_pyNext_long_end (I.ok.hd hc) st h0 λ h' eb=>%[Y|I.turned (t':=s.toks) (λ b o hb e=>eb b o hb e) f0 f1 f3 f4 f5]
 self:=λ _ _ _ _ _ st h=>wpAny_pyIter_longiter st h
section
variable {X:Cx} {tg:Expr}
def yt (ta:TA):TI:=λ σ H R=>ta σ H λ vs H1=>∃i j:Int,vs=[.int i,.int j]/\(-(2 ^ 62)<=i/\i < 2 ^ 62/\j < 2 ^ 62)/\R (Itr i (j - i).toNat) H1
theorem dZ {a b:Expr} {ta:TA} {p pos:Pos} (hg:Gl X "range") (hm:X.mg "range" = none) (ha:PA X [a,b] ta) (hs:starEach [a,b] X.env=[(false,eval a X.env),(false,eval b X.env)]:=by rfl) (hs2:starEach [b] X.env=[(false,eval b X.env)]:=by rfl) :
  PI X tg (.Call (.Name "range" p) [a,b] [] pos) (yt ta):=by
 intro Ku s σ H R I h;apply Call_ (eI I hg hm boot_range (LK (thn (ha pos Ku s σ H _ I h) λ us s1 %[vs,H1,I1,r1|q1]=>?_) (by rw[hs,hs2]) (by rw[hs2];rfl)));obtain⟨i,j,e,⟨q1,q2,q4⟩,q⟩:=q1;subst e;cases r1 with
 | cons r rr=>
  cases rr with
  | cons r' rr=>
   cases rr;obtain⟨t,rfl⟩:=r;obtain⟨t',rfl⟩:=r'
   by_cases q3:-(2 ^ 62)<=j
   ·exact call_range_2 (ir I1 q1 q2 q3 q4 q)
   apply call_range_2 ?_;have z0:(j - i).toNat=0:=⋯
   rw[z0]at q;have I2:Inv X Ku σ H1 { s1 with heap:=s1.heap.push { cls:=.type "range",data:=.fields #[.int i t,.int j t',.int 1 s1.toks] },toks:=s1.toks+1 }:=I1.kept λ b o e=>A8 _ e;have rs0:Builtin.Range.rangeSize i j 1=0:=by rw[rangeSize_one,Ky ⋯]
   cases hsm:Builtin.Range.small i j 1 with
   | false=>
    apply wpAny_pyIter_longrange (IsRange.new ..) hsm ?_;apply%[_,[(s1.heap.push { cls:=.type "range",data:=.fields #[.int i t,.int j t',.int 1 s1.toks] }).objs.size],_,_,H1,Y,I2.kept (t':=s1.toks+1) λ b o e=>A8 _ e,nW _ i 0 (E7 _),?_,λ b hb=>?_|q]
    ·rw[rs0];exact A9 _ rfl
    ·have e:b=(s1.heap.push { cls:=.type "range",data:=.fields #[.int i t,.int j t',.int 1 s1.toks] }).objs.size:=by simpa using hb
     subst e;exact I2.fpOk (B4 _) (I2.hok.fresh (B4 _))
   | true=>
    apply wpAny_pyIter_range (IsRange.new ..) hsm ?_;apply%[_,[(s1.heap.push { cls:=.type "range",data:=.fields #[.int i t,.int j t',.int 1 s1.toks] }).objs.size],_,_,H1,Y,I2.kept (t':=s1.toks+1) λ b o e=>A8 _ e,iq _ i 0,?_,λ b hb=>?_|q]
    ·rw[rs0];show IsRangeIter _ _ (i+((0:Nat):Int) * 1) (((0:Nat):Int) - ((0:Nat):Int)) 1;have e1:i+((0:Nat):Int) * 1=i:=by simp
     have e2:((0:Nat):Int) - ((0:Nat):Int)=0:=rfl;rw[e1,e2];exact A9 _ rfl
    ·have e:b=(s1.heap.push { cls:=.type "range",data:=.fields #[.int i t,.int j t',.int 1 s1.toks] }).objs.size:=by simpa using hb
     subst e;exact I2.fpOk (B4 _) (I2.hok.fresh (B4 _))
def yu (tl:TE):TI:=λ σ H R=>tl σ H λ x H1=>∃a kvs,x=.ref a/\((H1 a=some (.dT kvs)/\∀ob,R (Itd a ob kvs) (upd H1 a (.frz ob (.dT kvs))))\/∃ob,H1 a=some (.frz ob (.dT kvs))/\R (Itd a ob kvs) H1)
theorem uM {l:Expr} {tl:TE} (hl:PE X l tl):PI X tg l (yu tl):=by
 intro Ku s σ H R I h;apply thn (hl Ku s σ H _ I h) λ v s1 %[x,H1,I1,r1|q1]=>?_;obtain⟨a,kvs,e,q⟩:=q1;subst e;cases r1;rcases q with⟨hH,q⟩ | ⟨ob,hH,q⟩
 ·obtain⟨hz,hs,xs,pr,o,es,ep,h1,h2,h3,h4,h5⟩:=(show ObjOk X.prog X.w H1 s1.heap a (.dT kvs)from I1.hok a _ hH)
  have hn:es.size=kvs.length:=by rw[gM pr,<- JR,h4,B5]
  have I2:Inv X Ku σ (upd H1 a (.frz o (.dT kvs))) s1:=by
   have:=I1.write (x:=a) (e:=a) (o:=.frz o (.dT kvs)) (h':=s1.heap) (t':=s1.toks) (by rw[hH];trivial) (.inl rfl) (λ b u _ e=>e) %[o|h1] %[h1,hz,hs,xs,?_,o,es,ep,h1,h2,h3,h4|h5]
   ·exact this
   ·apply uL pr λ p q %[e1,e2|e3]=>%[e1,?_|e3]
    rw[ah (λ z=>by rw[z,hH]at e2;cases e2)];exact e2
  apply bY hs %[o,h1,h2|h3] ?_;apply%[s1.heap.objs.size,[s1.heap.objs.size],_,_,_,Y,I2.kept (t':=s1.toks) λ b o e=>A8 _ e,iR a _ o kvs es ep h2 h3 hn,%[_,A9 _ rfl,Y|Y],λ b hb=>?_|q o];have e:b=s1.heap.objs.size:=by simpa using hb
  subst e;exact I2.fpOk (B4 _) (I2.hok.fresh (B4 _))
 ·obtain⟨h0,hz,hs,xs,pr,o,es,ep,h1,h2,h3,h4,h5⟩:=(show ObjOk X.prog X.w H1 s1.heap a (.frz ob (.dT kvs))from I1.hok a _ hH)
  rw[h0]at h1;cases h1;have hn:es.size=kvs.length:=by rw[gM pr,<- JR,h4,B5]
  apply bY hs %[ob,h0,h2|h3] ?_;apply%[s1.heap.objs.size,[s1.heap.objs.size],_,_,_,Y,I1.kept (t':=s1.toks) λ b o e=>A8 _ e,iR a _ ob kvs es ep h2 h3 hn,%[_,A9 _ rfl,Y|Y],λ b hb=>?_|q];have e:b=s1.heap.objs.size:=by simpa using hb
  subst e;exact I1.fpOk (B4 _) (I1.hok.fresh (B4 _))
end
theorem rp {a:Ko} {ob:Obj} {kvs:Ks (Ks Key×V)} {σ:St} {cap:Ks Nat} {k:Nat} {g:TG} {tt:TT} {te:TE} {Q:Ks V->Hp->Prop} {H:Hp} (Pv:Nat->Ks V->Hp->Prop) (h0:Pv 0 [] H)
  (hl:∀i ys H',i<=kvs.length->Pv i ys H'->H' a=some (.frz ob (.dT kvs)))
  (ht:∀i kk v q ys H',kvs[i]?=some (kk,v)->H' q= ~~~(kk.map kV)->Pv i ys H'->g (.ref q) (aA σ cap k) H' λ σ2 H2=>leS (aA σ cap k) σ2/\tt σ2 H2 λ ok H3=>if ok=true then te σ2 H3 (λ v H4=>Nx kvs.length Pv i (ys ++ [v]) H4)else Nx kvs.length Pv i ys H3)
  (hz:∀i ys H',i < kvs.length->Pv i ys H'->ys.length < sizeLine) (hd:∀ys H',Pv kvs.length ys H'->ys.length<=sizeLine/\Q ys H'):∃W,(∃m,W 0 m [] H)/\cX σ cap k (Itd a ob kvs) g tt te Q W:=by
 apply%[λ i m ys H'=>m=kvs.length - i/\i<=kvs.length/\Pv i ys H',%[_,Y,G0 _|h0]|?_];rintro i m ys H' ⟨rfl,hi,p⟩;have q:=hl i ys H' hi p
 by_cases hin:i < kvs.length
 ·apply .inr %[%[hin|q],hz i ys H' hin p|λ x H2 yl=>?_];obtain⟨e,qa,k',v',e1,e2,e3⟩:=yl;subst e e2;exact ht i k' v' qa ys _ e1 e3 p
 ·have e:i=kvs.length:=⋯
  subst e;obtain⟨a1,a2⟩:=hd ys H' p;exact .inl %[%[Y|q],a1|a2]
end L2
namespace PySem
open PySem.W
section
variable {prog:IP} {w:IR} {A:Around} {E:IS->IN->Prop} {s:IN} {d:Ko} {o:Obj} {es:Kr DictEntry} {ep:Nat}
theorem yv {Q:IS->IN->Prop} (ho:s.heap.get? d=some o) (hc:o.ExactDict) (hd:o.data=.dict es ep) (hes:es.size<=sizeLine) (h:∀h' o' ep',h'.get? d=some o'->o'.ExactDict->o'.data=.dict #[] ep'->Heap.SameBut d s.heap h'->Q .none { s with heap:=h' }) :
  wpAny (model prog w) A (call (.builtin "dict.clear") [.ref d]) Q E s:=by
 have ty:s.TypeIs (.ref d) "dict" := %[o,ho|hc.1]
 apply call_meetsIn (S:=λ _ R s'=>s'=s/\∀h' o' ep',h'.get? d=some o'->o'.ExactDict->o'.data=.dict #[] ep'->Heap.SameBut d s.heap h'->R (.ok (.ret .none)) { s with heap:=h' }) PySem.F.slot_dict_clear ty PySem.F.entry_dict_clear (PySem.F.args_dict_clear_1 _) (.of_wp λ A R s' %[e|h]=>?_) %[rfl|λ h' o' ep' h1 h2 h3 h4=>h h' o' ep' h1 h2 h3 h4];subst e;unfold Builtin.«dict.clear»;apply A0 ?_;unfold Builtin.Dict.noArgs;apply A0 (Ln ty ?_);show wpAny _ _ (pure d) _ _ s';apply A3 ?_;apply A0 (LG ho hd ?_);apply A0 ?_;unfold bearsInstanceDictMark;apply A0 (wpAny_load ho (A3 ?_));apply A0 (wpAny_updateDictKeys (hz:=hes) ho hd ?_);have q1:=LF (h:=s'.heap) (Obj.mapDictKeys λ _=>#[]) ho (Obj.isFreed_of_dict (Lq hd _))
 split
 ·exact A0 (wpAny_letGo (A3 %[.none,rfl|h _ _ (ep+1) q1 (hc.mapDictKeys _) (Lq hd _) (K4 ..)]))
 ·exact A0 (A3 (A3 %[.none,rfl|h _ _ (ep+1) q1 (hc.mapDictKeys _) (Lq hd _) (K4 ..)]))
end
end PySem
namespace L2
open PySem PySem.Spec PyProof.Rows
section
variable {X:Cx}
theorem rq:MtR X "dict.clear" (λ x xs H Q=>∃a kvs,x=.ref a/\xs=[]/\H a=some (.dT kvs)/\Q .non (upd H a (.dT []))):=by
 intro Ku s σ H x vs v us Q I rx rv h;obtain⟨a,kvs,rfl,rfl,hH,q⟩:=h;cases rx;have hus:=rv.zero;subst hus;obtain⟨hz,hs,xs,pr,o,es,ep,h1,h2,h3,h4,h5⟩:=(show ObjOk X.prog X.w H s.heap a (.dT kvs)from I.hok a _ hH)
 have hn:es.size=kvs.length:=by rw[gM pr,<- JR,h4,B5]
 apply yv h1 h2 h3 ⋯ λ h' o' ep' q1 q2 q3 sb=>%[.non,_,?_,Y|q]
 exact fW (t':=s.toks) I (by rw[hH];exact True.intro) sb %[o'|q1] %[G0 _,hs,[],.nil,o',#[],ep',q1,q2,q3,rfl|.nil]
end
end L2
namespace PySem
open Sem (wp)
section
variable {prog:IP} {w:IR} {A:Around} {E:IS->IN->Prop} {s:IN}
theorem cN {v d:Ko} {es:Kr DictEntry} {ep:Nat} {Q:IS->IN->Prop} (hv:s.heap.IsItemsView v d) (hm:(∃o,s.heap.get? d=some o/\o.ExactDict/\o.data=.dict es ep))
  (hQ:Q (.ref s.heap.objs.size) { s with heap:=s.heap.push { cls:=.type "dict_itemiterator",data:=.fields #[.none,.bool false,.ref d,.int 0 0,.int es.size 0,.int ep 0,.none,.none] } }) :
  wpAny (model prog w) A (pyIter (.ref v)) Q E s:=by
 obtain⟨ov,hov,hcv,hdv⟩:=id hv;obtain⟨o,ho,hc,hdat⟩:=id hm;apply wpAny_pyIter_slot hv.typeIs F.slot_dict_items_iter (G9 F.slot_dict_items_iter hv.typeIs F.entry_dict_items_iter ?_ (F.args_dict_items_iter_1 _));unfold Builtin.«dict_items.__iter__»;apply A0 (A3 ?_);apply A0 ?_;unfold Builtin.Dict_items.dictOf;apply A0 (LH hov hdv (x:=.ref d) rfl (A3 ?_));apply A0 ?_;unfold Builtin.Dict_items.newIterator;apply A0 (LG ho hdat ?_);apply A0 (Lf ho hdat ?_);have hsz:es.size=es.size:=rfl;have hown:Builtin.Dict_items.ownsTuple "dict_itemiterator" = true:=∅
 simp only[hown,Lm];apply IL (A3 %[_,rfl,"dict_itemiterator",_,%[_,A9 _ rfl|rfl],F.slot_dict_itemiterator_next.lookup|?_])
  (by simp only[sizeOk,Builtin.Dict_items.ownedTupleFields,JL,JD,JF,KN,sizeLine_eq];lia)
 simpa[rawInt,hsz,Builtin.Dict_items.ownedTupleFields]using hQ
theorem bQ {it d:Ko} {i ep:Nat} {es:Kr DictEntry} {en:DictEntry} {ok ov:IS} {Q:Kq IS->IN->Prop} (hit:IsItemIter s.heap it d i es.size ep ok ov)
  (hm:(∃o,s.heap.get? d=some o/\o.ExactDict/\o.data=.dict es ep)) (hx:es[i]?=some en)
  (hQ:∀h',IsItemIterOut h' it d (i+1) es.size ep en.key en.val s.heap.objs.size ->
   h'.get? s.heap.objs.size=some { cls:=.type "tuple",data:=.seq #[en.key,en.val] }->h'.objs.size=s.heap.objs.size+1 ->
   (∀b o,b≠it->s.heap.get? b=some o->h'.get? b=some o)->Q (↑s.heap.objs.size) { s with heap:=h' }) :
  wpAny (model prog w) A (pyNext (.ref it)) Q E s:=by
 obtain⟨hp,g,dr,tk,os⟩:=s;obtain⟨od,hod,hcd,hdd⟩:=id hm;have hT:Shared.TypeIs %[hp,g,dr,tk|os] (.ref it) "dict_itemiterator" := %[_,hit|Y]
 unfold pyNext;apply A0 (Lb (wpAny_callSpecial?_slot (name:=Str.ofString "__next__") hT LA
  (G9 LA hT La ?_ (LY _))))
 apply A0 (A3 ?_);apply A0 ?_;apply A0 ?_
 first | apply A0 (K9 hT (A3 ?_)) | apply A0 (LB hT (A3 ?_))
 apply A0 (wpAny_fieldsOf hit rfl ?_);have hown:Builtin.Dict_items.ownsTuple "dict_itemiterator" = true:=∅
 simp only[hown,Lm];show wpAny _ _ (if (Value.ref d == Value.none)=true then _ else _) _ _ _;rw[Ky (show¬ ((Value.ref d == Value.none)=true)from B3)];apply A0 (A3 ?_);apply A0 (LG hod hdd ?_);have hsz:es.size=es.size:=rfl;rw[Ky (by simp)];apply A0 (A3 ?_);apply A0 (Lf hod hdd ?_);rw[Ky (by simp)];apply A3 ?_;have hlt:i < es.size:=by
  rcases Kj i es.size with h | h
  ·exact h
  ·rw[JU h]at hx;cases hx
 have hlt':i < es.size:=hlt;have hkey:es[i]=en:=by rw[JN hlt']at hx;exact C0 hx
 subst hkey;simp only[show¬ ((i:Int) < 0)from by lia,LU,Ja,JN hlt'];apply A0 ?_
 first | apply A0 (K9 hT (A3 ?_)) | apply A0 (LB hT (A3 ?_))
 apply A0 (LW hT ?_);show wpAny _ _ (setField (.ref it) 3 (rawInt ((i:Int)+1)) >>= _) _ _ %[hp,g,dr,tk|os];apply A0 (LD hit (by simp) λ h₁ he₁ hs₁=>?_)
 replace hs₁:Heap.SameBut it hp h₁:=hs₁
 replace he₁:IsItemIter h₁ it d (i+1) es.size ep ok ov:=by
  have e:((i+1:Nat):Int)=(i:Int)+1:=⋯
  unfold IsItemIter;rw[e];simpa[rawInt]using he₁
 have hT₁:Shared.TypeIs %[h₁,g,dr,tk|os] (.ref it) "dict_itemiterator" := %[_,he₁|Y]
 apply A0 (K2 ?_);apply A0 (LW hT₁ ?_);apply A0 (LW hT₁ ?_);show wpAny _ _ (Builtin.Dict_items.pairFromOwner (.ref it) 6 es[i].key es[i].val) _ _ %[h₁,g,dr,tk|os];unfold Builtin.Dict_items.pairFromOwner;apply A0 (wpAny_newTuple ?_);have he₂:IsItemIter (h₁.push { cls:=.type "tuple",data:=.seq #[es[i].key,es[i].val] }) it d (i+1) es.size ep ok ov:=A8 _ he₁;generalize hh₂:h₁.push { cls:=.type "tuple",data:=.seq #[es[i].key,es[i].val] }=h₂ at he₂;have hz₁:h₁.objs.size=hp.objs.size:=hs₁.1;have hil:it < hp.objs.size:=B0 hit;have ht₂:h₂.get? hp.objs.size=some { cls:=.type "tuple",data:=.seq #[es[i].key,es[i].val] }:=by rw[<- hh₂,<- hz₁];exact A9 _ rfl
 have hz₂:h₂.objs.size=hp.objs.size+1:=by rw[<- hh₂,K3,hz₁]
 have hk₂:∀b o,b≠it->hp.get? b=some o->h₂.get? b=some o:=λ b o hb e=>by rw[<- hh₂];exact A8 _ (hs₁.extBut b o hb e)
 show wpAny _ _ (Builtin.Dict_items.ownedTupleIsFree (.ref it) >>= _) _ _ %[h₂,g,dr,tk|os];rw[hz₁];clear hh₂ he₁ hs₁ hT₁ hz₁ h₁;apply A0 ?_;unfold Builtin.Dict_items.ownedTupleIsFree;apply A0 (LH he₂ rfl (x:=.none) rfl (A3 ?_));simp only[Lm];apply A0 (LH he₂ rfl (x:=ok) rfl ?_);apply A0 (LH he₂ rfl (x:=ov) rfl ?_);apply A0 (LD he₂ (by simp) λ h₃ he₃ hs₃=>?_)
 replace hs₃:Heap.SameBut it h₂ h₃:=hs₃
 replace he₃:IsItemIter h₃ it d (i+1) es.size ep es[i].key ov:=he₃
 apply A0 (LD he₃ (by simp) λ h₄ he₄ hs₄=>?_)
 replace hs₄:Heap.SameBut it h₃ h₄:=hs₄
 replace he₄:IsItemIter h₄ it d (i+1) es.size ep es[i].key es[i].val:=he₄
 apply A0 (LD he₄ (by simp) λ h₅ he₅ hs₅=>?_)
 replace hs₅:Heap.SameBut it h₄ h₅:=hs₅
 replace he₅:IsItemIterOut h₅ it d (i+1) es.size ep es[i].key es[i].val hp.objs.size:=he₅
 apply A0 (LD he₅ (by simp) λ h₆ he₆ hs₆=>?_)
 replace hs₆:Heap.SameBut it h₅ h₆:=hs₆
 replace he₆:IsItemIterOut h₆ it d (i+1) es.size ep es[i].key es[i].val hp.objs.size:=he₆
 apply A0 (wpAny_letGo (A3 (A3 %[_,rfl|A3 (hQ h₆ he₆ ?_ ?_ ?_)])))
 ·exact hs₆.extBut _ _ (JW hil) (hs₅.extBut _ _ (JW hil) (hs₄.extBut _ _ (JW hil) (hs₃.extBut _ _ (JW hil) ht₂)))
 ·show h₆.objs.size=hp.objs.size+1;rw[hs₆.1,hs₅.1,hs₄.1,hs₃.1,hz₂]
 ·exactλ b o hb e=>hs₆.extBut b o hb (hs₅.extBut b o hb (hs₄.extBut b o hb (hs₃.extBut b o hb (hk₂ b o hb e))))
theorem cg {it d:Ko} {i ep:Nat} {es:Kr DictEntry} {ok ov:IS} {Q:Kq IS->IN->Prop} (hh:A.handled=none) (hit:IsItemIter s.heap it d i es.size ep ok ov)
  (hm:(∃o,s.heap.get? d=some o/\o.ExactDict/\o.data=.dict es ep)) (hx:es[i]?=none)
  (hQ:∀h',Heap.ExtBut it s.heap h'->Q none { s with heap:=h' }):wpAny (model prog w) A (pyNext (.ref it)) Q E s:=by
 obtain⟨od,hod,hcd,hdd⟩:=id hm;have hT:s.TypeIs (.ref it) "dict_itemiterator" := %[_,hit|Y]
 unfold pyNext;apply A0 (Lb (wpAny_callSpecial?_slot (name:=Str.ofString "__next__") hT LA
  (G9 LA hT La ?_ (LY _))))
 apply A0 (A3 ?_);apply A0 ?_;apply A0 ?_
 first | apply A0 (K9 hT (A3 ?_)) | apply A0 (LB hT (A3 ?_))
 apply A0 (wpAny_fieldsOf hit rfl ?_);have hown:Builtin.Dict_items.ownsTuple "dict_itemiterator" = true:=∅
 simp only[hown,Lm];show wpAny _ _ (if (Value.ref d == Value.none)=true then _ else _) _ _ s;rw[Ky (show¬ ((Value.ref d == Value.none)=true)from B3)];apply A0 (A3 ?_);apply A0 (LG hod hdd ?_);have hsz:es.size=es.size:=rfl;rw[Ky (by simp)];apply A0 (A3 ?_);apply A0 (Lf hod hdd ?_);rw[Ky (by simp)];apply A3 ?_;have hge:es.size<=i:=by simpa using hx
 simp only[show¬ ((i:Int) < 0)from by lia,LU,Ja,JU hge];apply A0 ?_
 first | apply A0 (K9 hT (A3 ?_)) | apply A0 (LB hT (A3 ?_))
 show wpAny _ _ (setField (.ref it) 2 .none >>= _) _ _ s;apply A0 (wpAny_setField hit rfl (by simp) ?_);show wpAny _ _ (newExc (.type "StopIteration") [] >>= _) _ _ _;apply A0 ?_;simp only[newExc,newTuple];apply A0 (IL ?_ (by size_fits));apply A0 (m:=firstArgMember _ _) (wpAny_of_eq (a:=Value.none) (by first | rfl | (simp only[firstArgMember];rfl)) ?_);apply IL ?_ (by size_fits);simp only[raiseNew];apply A0 (wpAny_handled ?_);rw[show A.in1.handled=none from hh];apply A0 (A3 (wpAny_throw ?_));apply A0 (wpAny_isInstance (T := "StopIteration") (b:=true) %[_,A9 _ rfl|rfl] isSubtype_stop ?_);exact A3 (hQ _ (((K4 ..).extBut.push _).push _))
theorem iS:entryFor table "dict_itemiterator.__iter__" = some Builtin.«dict_keyiterator.__iter__» :=
 entryFor_alias (id' := "dict_keyiterator.__iter__") (by kernel_rfl) rfl ∅ (by kernel_rfl)
theorem ed {it d:Ko} {i n ep:Nat} {ok ov:IS} {Q:IS->IN->Prop} (hit:IsItemIter s.heap it d i n ep ok ov) (h:Q (.ref it) s):wpAny (model prog w) A (pyIter (.ref it)) Q E s:=by
 have hT:s.TypeIs (.ref it) "dict_itemiterator" := %[_,hit|Y]
 apply wpAny_pyIter_slot hT F.slot_dict_itemiterator_iter (G9 F.slot_dict_itemiterator_iter hT iS ?_ (F.args_dict_itemiterator_iter_1 _));show wpAny _ _ (ret (.ref it)) _ _ s;exact A3 %[_,rfl,"dict_itemiterator",_,hT,F.slot_dict_itemiterator_next.lookup|h]
theorem uN {d:Ko} {o:Obj} {Q:IS->IN->Prop} (ho:s.heap.get? d=some o) (hc:o.ExactDict) (hz:(d == sysModules)=false) (h:Q (.ref s.heap.objs.size) { s with heap:=s.heap.push { cls:=.type "dict_items",data:=.fields #[.ref d] } }) :
  wpAny (model prog w) A (call (.builtin "dict.items") [.ref d]) Q E s:=by
 have ty:s.TypeIs (.ref d) "dict" := %[o,ho|hc.1]
 apply call_meetsIn (S:=λ _ R s'=>s'=s/\R (.ok (.ret (.ref s.heap.objs.size))) { s with heap:=s.heap.push { cls:=.type "dict_items",data:=.fields #[.ref d] } }) PySem.F.slot_dict_items ty PySem.F.entry_dict_items (PySem.F.args_dict_items_1 _) (.of_wp λ A R s' %[e|h]=>?_) %[rfl|h];subst e;unfold Builtin.«dict.items»;apply A0 ?_;unfold Builtin.Dict.noArgs;apply A0 (Ln ty ?_);show wpAny _ _ (pure d) _ _ s';apply A3 ?_;show wpAny _ _ (Builtin.Dict.showsAll d >>= _) _ _ s';unfold Builtin.Dict.showsAll;rw[Ky (by rw[hz];exact B3)];apply A0 (A3 ?_);exact A0 (IL (A3 %[_,rfl|h]))
end
end PySem
namespace L2
open PySem PySem.Spec PyProof.Rows
def Iti (a:Ko) (ob:Obj) (kvs:Ks (Ks Key×V)):It :=
 %[λ i H=>i < kvs.length/\H a=some (.frz ob (.dT kvs)),λ i H x H'=>∃p q k v,kvs[i]?=some (k,v)/\H p=none/\H q= ~~~(k.map kV)/\x=.ref p/\H'=upd H p (.tup [.ref q,v])|λ i H=>i=kvs.length/\H a=some (.frz ob (.dT kvs))]
theorem nX {P:IP} {w:IR} {K:C6} {el:Ks Expr} {kk:Nat} {tp:Pos} (a it:Ko) (ob:Obj) (kvs:Ks (Ks Key×V)) (es:Kr DictEntry) (ep:Nat) (hx:ob.ExactDict) (hd:ob.data=.dict es ep) (hn:es.size=kvs.length) :
  Turn P w K (.Tuple el kk tp) (Iti a ob kvs) [it] it (λ i h=>∃ok ov,IsItemIter h it a i es.size ep ok ov) where
 mem:=by simp
 obj:=λ i h st b hb=>by
  have e:b=it:=by simpa using hb
  subst e;obtain⟨ok,ov,st⟩:=st;exact%[_,st|λ v z=>by cases z]
 keep:=λ i h h' ⟨ok,ov,st⟩ k=>%[ok,ov|k it (by simp) _ st]
 item:=by
  intro X hP hw hK hc i Ku s σ H E I hf st hg;subst hP hw hK;obtain⟨hi,hH⟩:=hg;obtain⟨ok,ov,st⟩:=st;obtain⟨h1,_,_,xs,pr,o,es',ep',h2,_,h3,h4,_⟩:=(show ObjOk X.prog X.w H s.heap a (.frz ob (.dT kvs))from I.hok a _ hH)
  rw[h1]at h2;cases h2;rw[hd]at h3;cases h3;have hk:kvs[i]?=some kvs[i]:=G2 hi;obtain⟨⟨k',q,v'⟩,hy,e1,e2,e3⟩:=ke pr hk;have hen:es[i]?=some (entryOfKey (tupleKind (aR X.prog X.w)) (k',q,v')):=by rw[<- JB,h4,IY,hy];rfl
  have il:it < s.heap.objs.size:=B0 st;apply bQ st %[ob,h1,hx|hd] hen λ h' b1 b2 b3 bk=>%[_,Y|?_]
  apply wpAny_letOwnedTupleGo_items (s:={ s with heap:=h' }) b1 λ h'' c1 cs=>?_;have cs:Heap.SameBut it h' h'':=cs;have k2:∀b o,b∉[it]->s.heap.get? b=some o->h''.get? b=some o:=λ b o hb q=>by
   have hb:b≠it:=by simpa using hb
   exact cs.extBut b o hb (bk b o hb q)
  have I1:Inv X Ku σ H { s with heap:=h'' }:=I.turnedN (t':=s.toks) hf k2;have hp:=cs.extBut _ _ (JW il) b2;have hn0:H s.heap.objs.size=none:=I.hok.fresh (B4 _);have fpk:=I.fpOk (H':=H) (B4 _) hn0;have I2:Inv X Ku σ (upd H s.heap.objs.size (.tup [.ref q,kvs[i].2])) { s with heap:=h'' }:=I1.track fpk I.sz %[by show 2<=sizeLine;decide,[.ref q,v'],.cons rfl (.cons e3 .nil),_,hp,Y,_|Y];apply%[.ref s.heap.objs.size,_,I2,Y,%[_,q,_,_,hk,hn0,e2,Y|Y],%[_,_|c1]|λ b hb=>?_];have e:b=it:=by simpa using hb
  subst e;rw[ah (C1 il)];exact(hf b hb).1
 done:=by
  intro X hP hw hK hc i Ku s σ H E I hf st hg;subst hP hw hK;obtain⟨hi,hH⟩:=hg;obtain⟨ok,ov,st⟩:=st;obtain⟨h1,_⟩:=(show ObjOk X.prog X.w H s.heap a (.frz ob (.dT kvs))from I.hok a _ hH)
  obtain⟨f0,f1,f2,f3,f4,f5⟩:=hf it (by simp);exact cg (I.ok.hd hc) st %[ob,h1,hx|hd] (by rw[JU];lia) λ h' eb=>%[Y|I.turned (t':=s.toks) (λ b o hb e=>eb b o hb e) f0 f1 f3 f4 f5]
 self:=λ A i s Q E ⟨ok,ov,st⟩ h=>ed st h
section
variable {X:Cx}
def yw (tl:TE):TI:=λ σ H R=>tl σ H λ x H1=>∃a kvs,x=.ref a/\H1 a=some (.dT kvs)/\∀ob,R (Iti a ob kvs) (upd H1 a (.frz ob (.dT kvs)))
theorem uO {l:Expr} {tl:TE} {apos cpos tp:Pos} {el:Ks Expr} {kk:Nat} (hl:PE X l tl)
  (hbase:attributeBase l "items" X.env (eval l X.env)=eval l X.env:=by rfl) (hline:(apos.endLine == cpos.line)=true:=by rfl):PI X (.Tuple el kk tp) (.Call (.Attribute l "items" apos) [] [] cpos) (yw tl):=by
 intro Ku s σ H R I h;apply wpAny_Call_method0_late hbase hline (thn (hl Ku s σ H _ I h) λ v s1 %[x,H1,I1,r1,a,kvs,e,hH|q]=>?_);subst e;cases r1;obtain⟨hz,hs,xs,pr,o,es,ep,h1,h2,h3,h4,h5⟩:=(show ObjOk X.prog X.w H1 s1.heap a (.dT kvs)from I1.hok a _ hH)
 have hn:es.size=kvs.length:=by rw[gM pr,<- JR,h4,B5]
 have I2:Inv X Ku σ (upd H1 a (.frz o (.dT kvs))) s1:=by
  have:=I1.write (x:=a) (e:=a) (o:=.frz o (.dT kvs)) (h':=s1.heap) (t':=s1.toks) (by rw[hH];trivial) (.inl rfl) (λ b u _ e=>e) %[o|h1] %[h1,hz,hs,xs,?_,o,es,ep,h1,h2,h3,h4|h5]
  ·exact this
  ·apply uL pr λ p q %[e1,e2|e3]=>%[e1,?_|e3]
   rw[ah (λ z=>by rw[z,hH]at e2;cases e2)];exact e2
 apply⟨"dict","dict.items",Ld,PySem.F.slot_dict_items,PySem.F.type_dict_items,%[o,h1|h2.1],(λ b e2=>by cases e2;exact%[o,h1|h2.2.1]),Calls.callWith_builtin rfl (PySem.evalArgs_none (uN h1 h2 hs ?_))⟩;have h1':(s1.heap.push { cls:=.type "dict_items",data:=.fields #[.ref a] }).get? a=some o:=A8 _ h1;apply cN (d:=a) (es:=es) (ep:=ep) %[_,A9 _ rfl,rfl|rfl] %[o,h1',h2|h3] ?_;apply%[_,[_],_,_,_,Y,I2.kept (t':=s1.toks) λ b o e=>A8 _ (A8 _ e),nX a _ o kvs es ep h2 h3 hn,%[_,_|A9 _ rfl],λ b hb=>?_|q o];have e:b=(s1.heap.push { cls:=.type "dict_items",data:=.fields #[.ref a] }).objs.size:=by simpa using hb
 have hb':s1.heap.objs.size<=b:=by rw[e,K3];lia
 exact I2.fpOk hb' (I2.hok.fresh hb')
end
end L2
namespace PySem
open Sem (wp)
theorem lq:typeLookup (.type "list") "keys" = pure none:=by rw[typeLookup_type,builtinLookup_eq_fast];kernel_rfl
theorem fe:plainId "dict.update.loop" = true:=∅
theorem kf:entryFor table "dict.update.loop" = some Builtin.«dict.update.loop» := entryFor_of_fast (by kernel_rfl)
theorem nY {prog:IP} {w:IR} {A:Around} {E:IS->IN->Prop} {s:IN} {a:Ko} {o:Obj} {xs:Kr IS} {k:Nat} {Q:Kq IS->IN->Prop}
  (hx:s.heap.get? a=some o) (hc:o.cls=.type "list") (hdat:o.data=.seq xs k) (hd:o.dict=none) (hA:A.handled=none)
  (h:∀h' tk,(∀b u,s.heap.get? b=some u->h'.get? b=some u)->Q none { s with heap:=h',toks:=tk }) :
  wpAny (model prog w) A (getAttr? (.ref a) "keys") Q E s:=by
 obtain⟨c,dct,dat,sl⟩:=o;simp only at hc hdat hd;subst hc hdat hd;obtain⟨hp,g,d,tk,os⟩:=s;have hT:∀tk',(%[hp,g,d,tk'|os]:IN).TypeIs (.ref a) "list" := λ _=>%[_,hx|Y]
 have f1:=sub_AttributeError;have f3:=F.slot_list_getattribute.lookup;have f4:=F.slot_list_getattribute.bind (.ref a);have f5:=am_list_getattr_none;unfold getAttr? getAttrBy? getAttrBy
 repeat (any_goals (first | assumption | exact hT _ | ((with_reducible show wpAny _ _ (call (Value.builtin "list.__getattribute__") _ _) _ _ _);apply call_meets F.slot_list_getattribute (hT _) am_entry_list_getattribute (F.args_list_getattribute_2 _ _) (meets_getattribute_miss_list a xs k sl "keys" _ lq ∅ ∅) %[hx,hA|λ h' tk' e hx'=>?_]) | wp_step))
 obtain⟨t',u',he⟩:=hx'.there;show wpAny _ _ (getattributeRaised _ _ _ _ _ _ _) _ _ _;unfold getattributeRaised
 repeat (any_goals (first | assumption | wp_step))
 exact h _ _ hx'.keeps
end PySem
namespace L2
open PySem PySem.Spec PyProof.Rows
section
variable {X:Cx} {Ku:Ks (Ko×Obj)} {σ:St} {H:Hp} {s:IN} {a b:Ko} {A:Around} {E:IS->IN->Prop}
theorem rz {kvs:Ks (Ks Key×V)} {k:Ks Key} {v:V} {r:IS} {Q:Unit->IN->Prop} (hu:(tupleKind (aR X.prog X.w)).room A) (I:Inv X Ku σ H s) (e:H a=some (.dT kvs)) (eb:H b= ~~~(k.map kV)) (l:kvs.length < sizeLine) (rv:RelV v r)
  (h:∀h' t',Inv X Ku σ (upd H a (.dT (bX kvs k v))) { s with heap:=h',toks:=t' }->Heap.SameBut a s.heap h'->Q () { s with heap:=h',toks:=t' }) :
  wpAny (model X.prog X.w) A (dictSet a (.ref b) r) Q E s:=by
 obtain⟨z,hd,xs,rel,dd⟩:=pW I.hok e;have hz:xs.length<=sizeLine:=by rw[<- Paired.length rel];exact z
 have hl:(bX kvs k v).length<=sizeLine:=by have:=ce kvs k v;lia
 apply wpAny_dictSet_heap (hsz:=hz) hu (dY I.hok eb) dd λ h' dd' hs=>h _ _ ?_ hs;obtain⟨q,es,ep,hq,h2,h3,h4,_,h5⟩:=dd';apply fW I (by rw[e];exact True.intro) hs %[q|hq] %[hl,hd,_,(rel.put k eb rv).keeps λ c ys ec=>?_,q,es,ep,hq,h2,h3,h4|h5];rw[ah (tI ec e (λ z=>nomatch z))];exact ec
def yx (H:Hp) (v:V) (x:Ks Key×V):Prop:=∃p q,v=.ref p/\H p= ~~~[.ref q,x.2]/\H q= ~~~(x.1.map kV)
def dg (acc:Ks (Ks Key×V)) (kvs:Ks (Ks Key×V)):Ks (Ks Key×V):=kvs.foldl (λ a x=>bX a x.1 x.2) acc
theorem nZ {l d it:Ko} {ps:Ks V} {kvs:Ks (Ks Key×V)} {R:Result->IN->Prop} (hh:A.in1.handled=none) (hu:(tupleKind (aR X.prog X.w)).room A.in1) (hl:H l=↥ps) (hp:Paired (yx H) ps kvs) (hdn:H d=none) (hne:it≠d)
  (hf:cP X Ku H it) (hR:∀s',Inv X Ku σ (upd H d (.dT (dg [] kvs))) s'->R (.ok (.ret .none)) s') :
  ∀ (n i:Nat) (s:IN) (acc:Ks (Ks Key×V)),n+i=kvs.length->acc.length<=i->dg acc (kvs.drop i)=dg [] kvs->Inv X Ku σ (upd H d (.dT acc)) s->s.heap.IsListIter it l i ->
  codeAny (model X.prog X.w) A (.builtin "dict.update.loop" %[[.ref d,.ref it,rawInt i,.none]|[]]) R s:=by
 have up:∀ {acc c o},H c=some o->(upd H d (.dT acc)) c=some o:=λ {acc c o} e=>by rw[ah (λ z=>by rw[z,hdn]at e;cases e)];exact e
 have lp:=E5 hp;have fp:∀acc,cP X Ku (upd H d (.dT acc)) it:=λ acc=>%[by rw[ah hne];exact hf.1|hf.2]
 intro n
 induction n with
 | zero=>
  intro i s acc hk hac hfold I hit;obtain⟨its,rv,p1,_⟩:=I.list (IV (up hl));have lv:=rv.length;apply Lh kf ?_;rw[LL fe _];show wpAny _ A.in1 (pyNext (.ref it) >>= _) _ _ s;obtain⟨f0,f1,f2,f3,f4,f5⟩:=fp acc;apply A0 (wpAny_pyNext_list_end hh hit p1.isList (by rw[JU];simp;lia) λ h' eb=>?_);show wpAny _ A.in1 (Builtin.Dict.addKeywords d [] >>= _) _ _ _;have I1:Inv X Ku σ (upd H d (.dT acc)) { s with heap:=h' }:=I.turned (t':=s.toks) (λ b o hb e=>eb b o hb e) f0 f1 f3 f4 f5;have e:dg [] kvs=acc:=by rw[<- hfold,List.drop_eq_nil_of_le ⋯];rfl
  rw[e]at hR;exact A0 (A3 (A3 (hR _ I1)))
 | succ n ih=>
  intro i s acc hk hac hfold I hit;have il:i < kvs.length:=⋯
  obtain⟨its,rv,p1,_⟩:=I.list (IV (up hl));have hki:kvs[i]?=some kvs[i]:=G2 il;obtain⟨v,hv,p,q,rfl,hpq,hq⟩:=Paired.getL hp hki;obtain⟨u,hu',r⟩:=rv.get hv;cases r;obtain⟨f0,f1,f2,f3,f4,f5⟩:=fp acc;apply Lh kf ?_;rw[LL fe _];show wpAny _ A.in1 (pyNext (.ref it) >>= _) _ _ s;apply A0 (wpAny_pyNext_list_item hit p1.isList (x:=.ref p) (by simpa using hu') λ h' hit' sb=>?_);have I1:Inv X Ku σ (upd H d (.dT acc)) { s with heap:=h' }:=I.turned (t':=s.toks) (λ b o hb e=>(sb.2 b hb).trans e) f0 f1 f3 f4 f5;obtain⟨its2,rv2,⟨ot,ht1,ht2,nt,ht3⟩,_⟩:=I1.tuple (IU (up hpq));obtain⟨u1,u2,rfl,r1,r2⟩:=pH rv2;cases r1;apply A0 (K2 ?_);apply A0 (wpAny_tryCatch ?_);unfold Builtin.Dict.pairItems;apply A0 (wpAny_typeOf %[ot,ht1|ht2] ?_);rw[Kz ∅];apply A0 (wpAny_seqItems ht1 ht3 (A3 ?_));show wpAny _ _ (holding [Value.ref q,u2] (dictSet d (.ref q) u2)) _ _ _;apply K2 (rz hu I1 ai (up hq) (by have z:ps.length<=sizeLine:=(show ObjOk X.prog X.w _ s.heap l (.lst ps)from I.hok l _ (up hl)).1;lia) r2 λ h2 t2 I2 sb2=>?_);have eq:upd (upd H d (.dT acc)) d (.dT (bX acc kvs[i].1 kvs[i].2))=upd H d (.dT (bX acc kvs[i].1 kvs[i].2)):=vX;rw[eq]at I2;apply A3 %[plainId_quiet fe _|?_];rw[show rawInt ((i:Int)+1)=rawInt ((i+1:Nat):Int)by rw[Int.natCast_add];rfl];apply ih (i+1) _ _ ⋯ (by have:=ce acc kvs[i].1 kvs[i].2;lia) ?_ I2 (hit'.at λ o e=>(sb2.2 it hne).trans e);rw[<- hfold,Jo il]
  rfl
theorem og (hc:X.calm=true) (hu:X.A.units+2 < cLine):bM X (.type "dict") (λ xs H Q=>∃l ps kvs,xs=[V.ref l]/\H l=↥ps/\Paired (yx H) ps kvs/\∀p,H p=none->Q (.ref p) (upd H p (.dT (dg [] kvs)))):=by
 intro Ku s σ H xs us Q I r h;obtain⟨l,ps,kvs,rfl,hl,hp,q⟩:=h;obtain⟨u,rfl,ru⟩:=cM r;cases ru;apply callType_codes (Q₁:=λ obj s₁=>obj=.ref s.heap.objs.size/\s₁={ s with heap:=s.heap.push { cls:=.type "dict",data:=.dict #[] } }) F.kt_called_dict (F.kt_typeCall_dict_1 _) F.entry_dict_init (kt_code_dict_new _ %[rfl|rfl]) ?_;rintro obj s₁ ⟨rfl,rfl⟩;have hf:=I.hok.fresh (B4 s.heap.objs.size);have hn0:(s.heap.push { cls:=.type "dict",data:=.dict #[] }).get? s.heap.objs.size=some { cls:=.type "dict",data:=.dict #[] }:=A9 _ rfl;have tyn:Shared.TypeIs { s with heap:=s.heap.push { cls:=.type "dict",data:=.dict #[] } } (.ref s.heap.objs.size) "dict" := %[_,hn0|Y]
 have I1:Inv X Ku σ (upd H s.heap.objs.size (.dT [])) { s with heap:=s.heap.push { cls:=.type "dict",data:=.dict #[] } }:=I.laid (a:=s.heap.objs.size) (o:=.dT []) (t':=s.toks) (λ b u e=>A8 _ e) (B4 _) %[G0 _,LJ.mpr (Ne.symm (C1 I.big)),[],.nil,_,#[],0,hn0,%[rfl,rfl|rfl],rfl,rfl|.nil];have up:∀ {c o},H c=some o->(upd H s.heap.objs.size (.dT [])) c=some o:=λ {c o} e=>by rw[ah (λ z=>by rw[z,hf]at e;cases e)];exact e
 obtain⟨z0,its,cn,rv,hlo⟩:=(show ObjOk X.prog X.w _ _ l (.lst ps)from I1.hok l _ (up hl))
 apply%[tyn,F.args_dict_init_2 _ _|?_];unfold Builtin.«dict.__init__»;apply A0 ?_;unfold Builtin.Dict.selfAndRest;apply A0 (Ln tyn ?_);show wpAny _ _ (pure (s.heap.objs.size,[Value.ref l])) _ _ _;apply A3 ?_;show wpAny _ _ (Builtin.Dict.updateFrom "dict.__init__" s.heap.objs.size (.ref l) [] .none) _ _ _;unfold Builtin.Dict.updateFrom;apply A0 (wpAny_typeOf %[_,hlo|rfl] ?_);rw[Kz ∅];apply A0 (nY hlo rfl rfl rfl (I.ok.hd hc) λ h2 t2 k2=>?_);rw[Kz (by rfl)];have I2:Inv X Ku σ (upd H s.heap.objs.size (.dT [])) { s with heap:=h2,toks:=t2 }:=I1.kept (t':=t2) k2;apply A0 (LS ?_);apply A0 (Lp (l:=l) (items:=its.toArray) (s:={ s with heap:=h2,toks:=t2 }) %[_,k2 _ _ hlo,rfl,_|rfl] ?_);have I3:Inv X Ku σ (upd H s.heap.objs.size (.dT [])) { s with heap:=h2.push { cls:=.type "list_iterator",data:=.fields #[.ref l,.int 0 0] },toks:=t2 }:=I2.kept (t':=t2) λ b u e=>A8 _ e;have big:s.heap.objs.size < h2.objs.size:=by have:=B0 (k2 _ _ hn0);exact this
 apply A3 %[plainId_quiet fe _|?_];apply nZ (X:=X) (A:=X.A.in1) (I.ok.hd hc) (show X.A.units+1+1 < cLine from hu) hl hp hf (JW big) (I2.fpOk (H':=H) (B4 _) (I.hok.fresh (C9 big))) (λ s' I'=>?_) kvs.length 0 _ [] ⋯ (B4 _) rfl I3 %[_,A9 _ rfl,rfl|rfl];exact%[Y,.ref s.heap.objs.size,_,I',Y|q _ hf]
end
end L2
namespace PyProof.Rows
set_option autoImplicit false
open PySem
def wM:Bool->Kp->Kr Kp->Nat->Nat->Nat->StateT SortSt Sem (Kq Nat):=sortPriv% PySem.Builtin.gallop
def uP:Kr Kp->Kr Kp->StateT SortSt Sem (Kr Kp):=sortPriv% PySem.Builtin.mergeLo
def uQ:Kr Kp->Kr Kp->StateT SortSt Sem (Kr Kp):=sortPriv% PySem.Builtin.mergeHi
def KdA (κ:KeyKind) (a:Kr Kp):Prop:=∀ (i:Nat) (p:Kp),a[i]?=some p->∃k,κ.keyOf p.1=some k
section
variable {prog:IP} {w:IR} {A:Around} {E:IS->IN->Prop} {s:IN} {κ:KeyKind} {κ0:SortKind}
theorem bo {st:SortSt} {arr:Kr Kp} {i:Nat} {Q:Kp->SortSt->Prop} (hi:i < arr.size) (h:∀p,arr[i]?=some p->Q p st):wpS (model prog w) A E s (elem' arr i) Q st:=by rw[elem'_eq,getElem?_pos arr i hi];exact A5 (h _ (getElem?_pos arr i hi))
theorem ap {α:Type} {c:Prop} [Decidable c] {x y:StateT SortSt Sem α} {Q:α->SortSt->Prop} {st:SortSt} (h1:c->wpS (model prog w) A E s x Q st) (h2:¬ c->wpS (model prog w) A E s y Q st):wpS (model prog w) A E s (if c then x else y) Q st:=by
 split
 ·exact h1 ‹_›
 ·exact h2 ‹_›
def SameG (st st':SortSt):Prop:=kindOf st'=kindOf st/\arrOf st'=arrOf st/\pendingOf st'=pendingOf st/\failedOf st'=failedOf st
theorem SameG.rfl' {st:SortSt}:SameG st st:=%[Y,Y,Y|Y]
theorem dI (a:Kr Kp) (i:Nat):(a.extract i a.size).toList=a.toList.drop i:=by rw[Array.toList_extract,KM];exact JK (by simp)
theorem hU (a:Kr Kp) (i k:Nat):(a.extract i (i+k)).toList ++ a.toList.drop (i+k)=a.toList.drop i:=by rw[Array.toList_extract,KM,show i+k - i=k by lia,<- List.drop_drop];exact List.take_append_drop k _
theorem ff {a:Kr Kp} {i:Nat} {p:Kp} (e:a[i]?=some p):a.toList.drop i=p :: a.toList.drop (i+1):=by rw[<- JB]at e;obtain⟨h,rfl⟩:=A7.mp e;exact Jo h
def MLo (a b out:Kr Kp) (ia ib:Nat):Prop:=(out.toList ++ a.toList.drop ia ++ b.toList.drop ib).Perm (a.toList ++ b.toList)
theorem MLo.done {a b out:Kr Kp} {ia ib:Nat} (h:MLo a b out ia ib):(out ++ a.extract ia a.size ++ b.extract ib b.size).Perm (a ++ b):=by rw[JY];simp only[JO,dI];exact h
theorem MLo.last {a b out:Kr Kp} {ia ib:Nat} (h:MLo a b out ia ib):(out ++ b.extract ib b.size ++ a.extract ia a.size).Perm (a ++ b):=by rw[JY];simp only[JO,dI];apply E3 ?_ h;rw[JC,JC];exact Jx _ KI
theorem MLo.pb {a b out:Kr Kp} {ia ib:Nat} {p:Kp} (h:MLo a b out ia ib) (e:b[ib]?=some p):MLo a b (out.push p) ia (ib+1):=by unfold MLo at h ⊢;rw[ff e]at h;apply E3 ?_ h;rw[Jd];simp only[JC];exact Jx _ (List.perm_middle (a:=p) (l₁:=a.toList.drop ia) (l₂:=b.toList.drop (ib+1))).symm
theorem MLo.pa {a b out:Kr Kp} {ia ib:Nat} {p:Kp} (h:MLo a b out ia ib) (e:a[ia]?=some p):MLo a b (out.push p) (ia+1) ib:=by unfold MLo at h ⊢;rw[ff e]at h;rw[Jd];simpa only[JC,List.cons_append,List.nil_append]using h
theorem MLo.ca {a b out:Kr Kp} {ia ib:Nat} (h:MLo a b out ia ib) (k:Nat):MLo a b (out ++ a.extract ia (ia+k)) (ia+k) ib:=by unfold MLo at h ⊢;rw[<- hU a ia k]at h;rw[JO];simpa only[JC]using h
theorem MLo.cb {a b out:Kr Kp} {ia ib:Nat} (h:MLo a b out ia ib) (k:Nat):MLo a b (out ++ b.extract ib (ib+k)) ia (ib+k):=by unfold MLo at h ⊢;rw[<- hU b ib k]at h;apply E3 ?_ h;rw[JO];simp only[JC];apply Jx _ ?_;rw[<- JC,<- JC];exact KC _ KI
theorem pZ {α:Type} {m:StateT SortSt Sem α} {Q:α->SortSt->Prop} {st:SortSt} (h:∀Q':α->SortSt->Prop,(∀a st',Q a st'->Q' a st')->wpS (model prog w) A E s m Q' st):wpS (model prog w) A E s m Q st:=h Q λ _ _ z=>z
theorem qb {α:Type} {c:Prop} [Decidable c] {jp:Unit->Nat->StateT SortSt Sem α} {x y:Nat} {Q:α->SortSt->Prop} {st:SortSt} (h:∀g,wpS (model prog w) A E s (jp () g) Q st):wpS (model prog w) A E s (if c then jp () x else jp () y) Q st:=ap (λ _=>h _) (λ _=>h _)
def yy:Nat->StateT SortSt Sem Unit:=sortPriv% PySem.Builtin.setMinGallop
theorem mJ {g:Nat} {Q:Unit->SortSt->Prop} {st:SortSt} (h:∀st',SameG st st'->Q () st'):wpS (model prog w) A E s (yy g) Q st:=Lr (h _ %[rfl,rfl,rfl|rfl])
theorem SameG.trans {st st' st'':SortSt} (a:SameG st st') (b:SameG st' st''):SameG st st'':=%[b.1.trans a.1,b.2.1.trans a.2.1,b.2.2.1.trans a.2.2.1|b.2.2.2.trans a.2.2.2]
theorem hV {a:Kr Kp} {i:Nat} {p:Kp} (e:a[i]?=some p):a.toList.take (i+1)=a.toList.take i ++ [p]:=by rw[<- JB]at e;obtain⟨h,rfl⟩:=A7.mp e;rw[List.take_succ,G2 h];rfl
theorem dJ (a:Kr Kp) (i:Nat):(a.extract 0 i).toList=a.toList.take i:=by rw[Array.toList_extract,KM];simp
theorem dL (a:Kr Kp) {i n:Nat} (h:i<=n):a.toList.take i ++ (a.extract i n).toList=a.toList.take n:=by
 obtain⟨k,rfl⟩:∃k,n=i+k:=%[n - i|⋯]
 rw[Array.toList_extract,KM,show i+k - i=k by lia];exact List.take_add.symm
def MHi (a b out:Kr Kp) (na nb:Nat):Prop:=(a.toList.take na ++ b.toList.take nb ++ out.toList.reverse).Perm (a.toList ++ b.toList)
theorem MHi.done {a b out:Kr Kp} {na nb:Nat} (h:MHi a b out na nb):(a.extract 0 na ++ b.extract 0 nb ++ out.reverse).Perm (a ++ b):=by rw[JY];simp only[JO,dJ,Jz];exact h
theorem MHi.first {a b out:Kr Kp} {na nb:Nat} (h:MHi a b out na nb):(b.extract 0 nb ++ a.extract 0 na ++ out.reverse).Perm (a ++ b):=by rw[JY];simp only[JO,dJ,Jz];exact E3 (KC _ KI) h
theorem MHi.cb {a b out:Kr Kp} {na nb i:Nat} (h:MHi a b out na nb) (hi:i<=nb):MHi a b (out ++ (b.extract i nb).reverse) na i:=by unfold MHi at h ⊢;rw[<- dL b hi]at h;rw[JO,Jz,List.reverse_append,List.reverse_reverse];simpa only[JC]using h
theorem MHi.ca {a b out:Kr Kp} {na nb i:Nat} (h:MHi a b out na nb) (hi:i<=na):MHi a b (out ++ (a.extract i na).reverse) i nb:=by unfold MHi at h ⊢;rw[<- dL a hi]at h;apply E3 ?_ h;rw[JO,Jz,List.reverse_append,List.reverse_reverse];simp only[JC];apply Jx _ ?_;rw[<- JC,<- JC];exact KC _ KI
theorem MHi.pb {a b out:Kr Kp} {na nb:Nat} {p:Kp} (h:MHi a b out na nb) (h1:1<=nb) (e:b[nb - 1]?=some p):MHi a b (out.push p) na (nb - 1):=by unfold MHi at h ⊢;rw[<- show nb - 1+1=nb by lia,hV e]at h;rw[Jd,List.reverse_append];simpa only[JC,List.reverse_cons,List.reverse_nil,List.nil_append]using h
theorem MHi.pa {a b out:Kr Kp} {na nb:Nat} {p:Kp} (h:MHi a b out na nb) (h1:1<=na) (e:a[na - 1]?=some p):MHi a b (out.push p) (na - 1) nb:=by unfold MHi at h ⊢;rw[<- show na - 1+1=na by lia,hV e]at h;apply E3 ?_ h;rw[Jd,List.reverse_append];simp only[JC,List.reverse_cons,List.reverse_nil,List.nil_append];apply Jx _ ?_;rw[<- JC,<- JC];exact KC _ KI
end
end PyProof.Rows
namespace PyProof.Rows
set_option autoImplicit false
open PySem
def Tile:Ks (Nat×Nat×Nat)->Nat->Nat->Prop
 | [],lo,hi=>lo=hi
 | x :: l,lo,hi=>x.1=lo/\1<=x.2.1/\Tile l (lo+x.2.1) hi
theorem Tile.le:∀ {l:Ks (Nat×Nat×Nat)} {lo hi:Nat},Tile l lo hi->lo<=hi
 | [],_,_,h=>Nat.le_of_eq h
 | x :: l,lo,hi,h=>C7 (Nat.le_add_right _ _) (Tile.le h.2.2)
theorem Tile.two:∀ {l:Ks (Nat×Nat×Nat)} {i lo hi:Nat} {x y:Nat×Nat×Nat},Tile l lo hi->l[i]?=some x->l[i+1]?=some y->∀q:Nat,
  y.1=x.1+x.2.1/\1<=x.2.1/\1<=y.2.1/\y.1+y.2.1<=hi/\Tile ((l.set i (x.1,x.2.1+y.2.1,q)).eraseIdx (i+1)) lo hi
 | x' :: y' :: l,0,lo,hi,x,y,h,e1,e2,q=>by cases e1;cases e2;obtain⟨h1,h2,h3,h4,h5⟩:=h;apply%[⋯,h2,h4,by have:=h5.le;lia,h1,by show 1<=x'.2.1+y'.2.1;lia|?_];show Tile l (lo+(x'.2.1+y'.2.1)) hi;rw[<- Nat.add_assoc];exact h5
 | [x'],0,_,_,_,_,_,_,e2,_=>by cases e2
 | [],_,_,_,_,_,_,e1,_,_=>by simp at e1
 | z :: l,i+1,lo,hi,x,y,h,e1,e2,q=>by obtain⟨h1,h2,h3⟩:=h;obtain⟨a1,a2,a3,a4,a5⟩:=Tile.two h3 (i:=i) (x:=x) (y:=y) (by simpa using e1) (by simpa using e2) q;exact%[a1,a2,a3,a4,h1,h2|a5]
theorem Tile.push:∀ {l:Ks (Nat×Nat×Nat)} {lo hi n q:Nat},Tile l lo hi->1<=n->Tile (l ++ [(hi,n,q)]) lo (hi+n)
 | [],_,_,_,_,h,hn=>by cases h;exact%[Y,hn|Y]
 | x :: l,_,_,_,_,h,hn=>%[h.1,h.2.1|Tile.push h.2.2 hn]
theorem Tile.upd {f:Nat×Nat×Nat->Nat×Nat×Nat} (hf:∀x,(f x).1=x.1/\(f x).2.1=x.2.1):∀ {l:Ks (Nat×Nat×Nat)} {lo hi:Nat} (i:Nat),Tile l lo hi->Tile (l.modify i f) lo hi
 | [],_,_,i,h=>by simpa using h
 | x :: l,_,_,0,h=>by show Tile (f x :: l) _ _;exact%[(hf x).1.trans h.1,by rw[(hf x).2];exact h.2.1|by rw[(hf x).2];exact h.2.2]
 | x :: l,_,_,i+1,h=>by show Tile (x :: l.modify i f) _ _;exact%[h.1,h.2.1|Tile.upd hf i h.2.2]
theorem kg (sa:Nat):∀ (m:Ks Kp) (j:Nat) (a:Kr Kp),sa+j+m.length<=a.size ->
  ((m.zipIdx j).foldl (λ a (x:Kp×Nat)=>match x with | (p,j)=>a.setIfInBounds (sa+j) p) a).toList=a.toList.take (sa+j) ++ m ++ a.toList.drop (sa+j+m.length)
 | [],j,a,h=>by simp
 | p :: m,j,a,h=>by
  rw[List.zipIdx_cons,List.foldl_cons];have hl:(p :: m).length=m.length+1:=rfl;rw[hl]at h ⊢;rw[kg sa m (j+1) _ (by rw[Array.size_setIfInBounds];lia)];rw[Array.toList_setIfInBounds];have hj:sa+j < a.toList.length:=by simp;lia
  rw[show sa+(j+1)=sa+j+1 by lia,List.take_succ,KW hj,List.take_set_of_le (B4 _),List.drop_set_of_lt ⋯,show sa+j+1+m.length=sa+j+(m.length+1)by lia];simp
theorem wN {M:Model} {A:Around} {E:IS->IN->Prop} {s:IN} {σ:Type} {st st2:σ} {Q:PUnit->σ->Prop} (h:Q ⟨⟩ st2):wpS M A E s (set st2:StateT σ Sem PUnit) Q st:=by unfold wpS;rw[StateT.run_set];exact wpAny_pure %[rfl|h]
structure SP (κ0:SortKind) (a₀:Kr Kp) (st:SortSt):Prop where
 perm:(arrOf st).Perm a₀
 kind:kindOf st=κ0
 failed:failedOf st=none
theorem SP.size {κ0:SortKind} {a₀:Kr Kp} {st:SortSt} (h:SP κ0 a₀ st):(arrOf st).size=a₀.size:=h.perm.size_eq
theorem SP.kd {κ0:SortKind} {κ:KeyKind} {a₀:Kr Kp} {st:SortSt} (h:SP κ0 a₀ st) (h0:KeysOf κ a₀):KdA κ (arrOf st):=λ i p e=>by
 have:p∈(arrOf st).toList:=by rw[<- JB]at e;exact B7 e
 exact h0 _ ((JY.mp h.perm).mem_iff.mp this)
theorem KdA.ext {κ:KeyKind} {a:Kr Kp} (h:KdA κ a) (i j:Nat):KdA κ (a.extract i j):=λ k p e=>by
 rw[Ju]at e
 split at e
 ·exact h _ _ e
 ·cases e
section
variable {prog:IP} {w:IR} {A:Around} {E:IS->IN->Prop} {s:IN} {κ:KeyKind} {κ0:SortKind} {a₀:Kr Kp}
def SPp (κ0:SortKind) (a₀:Kr Kp) (p:Kr (Nat×Nat×Nat)) (st:SortSt):Prop:=SP κ0 a₀ st/\pendingOf st=p
end
end PyProof.Rows
namespace L2
open PySem PySem.Spec PyProof.Rows
theorem rA {f:Ks V->HO} (hf:∀xs ys,f xs=f ys->xs=ys) {l:Ko} {xs:Ks V} {σ:St} {cap:Ks Nat} {k:Nat} {g:TG} {tt:TT} {te:TE} {Q:Ks V->Hp->Prop} {H:Hp} (Pv:Nat->Ks V->Hp->Prop)
  (hk:∀i zs H',Pv i zs H'->H' l=some (f xs)) (h0:Pv 0 [] H)
  (hz:∀i zs H',i < xs.length->Pv i zs H'->zs.length < sizeLine)
  (ht:∀i x p zs H',xs[i]?=some x->H' p=none->Pv i zs H'->g (.ref p) (aA σ cap k) (upd H' p (.tup [.int i,x])) λ σ2 H2=>leS (aA σ cap k) σ2/\tt σ2 H2 λ ok H3=>if ok=true then te σ2 H3 (λ v H4=>Nx xs.length Pv i (zs ++ [v]) H4)else Nx xs.length Pv i zs H3)
  (hd:∀zs H',Pv xs.length zs H'->zs.length<=sizeLine/\Q zs H'):∃W,(∃m,W 0 m [] H)/\cX σ cap k (Ite f l) g tt te Q W:=by
 apply%[λ i m zs H'=>m=xs.length - i/\i<=xs.length/\Pv i zs H',%[_,Y,G0 _|h0]|?_];rintro i m zs H' ⟨rfl,hi,p⟩;have e1:=hk i zs H' p
 by_cases hlt:i < xs.length
 ·have hx:xs[i]?=some xs[i]:=by simp[hlt]
  apply .inr %[%[xs,_,e1|hx],hz i zs H' hlt p|λ v H2 yl=>?_]
  ·obtain⟨q,xs',x,hq,rfl,rfl,e1',ex⟩:=yl;rw[e1]at e1';have e2:=hf _ _ (C0 e1');subst e2;exact ht i x q zs H' ex hq p
 ·have e:i=xs.length:=⋯
  subst e;obtain⟨a1,a2⟩:=hd zs H' p;exact .inl %[%[xs,e1|B4 _],a1|a2]
end L2
namespace PyProof.Rows
set_option autoImplicit false
open PySem
def ky (κ:KeyKind) (p:Kp):κ.α:=(κ.keyOf p.1).getD κ.dflt
def kl (κ:KeyKind) (x y:Kp):Prop:=κ.kle (ky κ x) (ky κ y)
def Srt (κ:KeyKind) (l:Ks Kp):Prop:=l.Pairwise (kl κ)
theorem kl.trans {κ:KeyKind} {x y z:Kp} (a:kl κ x y) (b:kl κ y z):kl κ x z:=KeyOrd.kle_trans a b
theorem kl.rfl' {κ:KeyKind} {x:Kp}:kl κ x x:=LN _
def bey (κ:KeyKind) (left:Bool) (key x:Kp):Bool:=if left=true then κ.blt (ky κ x) (ky κ key)else !(κ.blt (ky κ key) (ky κ x))
theorem Srt.drop {κ:KeyKind} {a:Kr Kp} (h:Srt κ a.toList) {i:Nat} {x y:Kp} (hx:a[i]?=some x) (hy:y∈a.toList.drop i):kl κ x y:=by
 have e:=ff hx;have hs:Srt κ (a.toList.drop i):=h.sublist (List.drop_sublist _ _);rw[e]at hs hy;rcases IZ.mp hy with rfl | hy
 ·exact kl.rfl'
 ·exact(List.pairwise_cons.mp hs).1 y hy
theorem Srt.at {κ:KeyKind} {a:Kr Kp} (h:Srt κ a.toList) {i j:Nat} {x y:Kp} (ij:i<=j) (hx:a[i]?=some x) (hy:a[j]?=some y):kl κ x y:=by
 apply h.drop hx ?_;rw[<- JB]at hy;have:(a.toList.drop i)[j - i]?=some y:=by rw[List.getElem?_drop,show i+(j - i)=j by lia];exact hy
 exact B7 this
structure MS (κ:KeyKind) (a b out:Kr Kp) (ia ib:Nat):Prop where
 pm:MLo a b out ia ib
 sa:Srt κ (out.toList ++ a.toList.drop ia)
 sb:Srt κ (out.toList ++ b.toList.drop ib)
section
variable {κ:KeyKind} {a b out:Kr Kp} {ia ib:Nat}
theorem MS.pb {p:Kp} (h:MS κ a b out ia ib) (e:b[ib]?=some p) (c:∀y∈a.toList.drop ia,kl κ p y):MS κ a b (out.push p) ia (ib+1):=by
 have d:=ff e;have sb:=h.sb;rw[d]at sb;obtain⟨p1,p2,p3⟩:=JG.mp h.sa;apply%[h.pm.pb e,?_|?_]
 ·rw[Jd,JC];apply JG.mpr %[p1,List.pairwise_cons.mpr %[c|p2]|λ x hx y hy=>?_];rcases IZ.mp hy with rfl | hy
  ·exact(JG.mp sb).2.2 x hx _ B9
  ·exact p3 x hx y hy
 ·rw[Jd,JC];exact sb
theorem MS.pa {p:Kp} (h:MS κ a b out ia ib) (e:a[ia]?=some p) (c:∀y∈b.toList.drop ib,kl κ p y):MS κ a b (out.push p) (ia+1) ib:=by
 have d:=ff e;have sa:=h.sa;rw[d]at sa;obtain⟨p1,p2,p3⟩:=JG.mp h.sb;apply%[h.pm.pa e,?_|?_]
 ·rw[Jd,JC];exact sa
 ·rw[Jd,JC];apply JG.mpr %[p1,List.pairwise_cons.mpr %[c|p2]|λ x hx y hy=>?_];rcases IZ.mp hy with rfl | hy
  ·exact(JG.mp sa).2.2 x hx _ B9
  ·exact p3 x hx y hy
theorem MS.ca (h:MS κ a b out ia ib) (k:Nat) (c:∀x∈(a.extract ia (ia+k)).toList,∀y∈b.toList.drop ib,kl κ x y):MS κ a b (out ++ a.extract ia (ia+k)) (ia+k) ib:=by
 have sa:=h.sa;rw[<- hU a ia k,<- JC]at sa;obtain⟨p1,p2,p3⟩:=JG.mp h.sb;apply%[h.pm.ca k,by rw[JO];exact sa|?_];rw[JO];apply JG.mpr %[(JG.mp sa).1,p2|λ x hx y hy=>?_];rcases C4.mp hx with hx | hx
 ·exact p3 x hx y hy
 ·exact c x hx y hy
theorem MS.cb (h:MS κ a b out ia ib) (k:Nat) (c:∀x∈(b.extract ib (ib+k)).toList,∀y∈a.toList.drop ia,kl κ x y):MS κ a b (out ++ b.extract ib (ib+k)) ia (ib+k):=by
 have sb:=h.sb;rw[<- hU b ib k,<- JC]at sb;obtain⟨p1,p2,p3⟩:=JG.mp h.sa;apply%[h.pm.cb k,?_|by rw[JO];exact sb];rw[JO];apply JG.mpr %[(JG.mp sb).1,p2|λ x hx y hy=>?_];rcases C4.mp hx with hx | hx
 ·exact p3 x hx y hy
 ·exact c x hx y hy
theorem MS.done (h:MS κ a b out ia ib) (e:b.size<=ib\/a.size<=ia):(out ++ a.extract ia a.size ++ b.extract ib b.size).Perm (a ++ b)/\Srt κ (out ++ a.extract ia a.size ++ b.extract ib b.size).toList:=by
 apply%[h.pm.done|?_];rw[JO,JO,dI,dI];rcases e with e | e
 ·rw[Jm (l:=b.toList) (by simpa using e),JX];exact h.sa
 ·rw[Jm (l:=a.toList) (by simpa using e),JX];exact h.sb
theorem MS.last (h:MS κ a b out ia ib) (e:ia+1=a.size) (hL:∀p,ia+1=a.size->a[ia]?=some p->∀y∈b.toList,kl κ y p):(out ++ b.extract ib b.size ++ a.extract ia a.size).Perm (a ++ b)/\Srt κ (out ++ b.extract ib b.size ++ a.extract ia a.size).toList:=by
 apply%[h.pm.last|?_];rw[JO,JO,dI,dI];have hx:a[ia]?=some a[ia]:=getElem?_pos _ _ ⋯;have d:=ff hx;rw[Jm (l:=a.toList) (i:=ia+1) (by simp;lia)]at d;have sa:=h.sa;rw[d]at sa ⊢;apply JG.mpr %[h.sb,by simp|λ x hx' y hy=>?_];rw[E4.mp hy];rcases C4.mp hx' with hx' | hx'
 ·exact(JG.mp sa).2.2 x hx' _ B9
 ·exact hL _ e hx x (List.mem_of_mem_drop hx')
def bdv (κ:KeyKind) (left:Bool) (key:Kp) (arr:Kr Kp) (base i:Nat):Bool:=match arr[base+i]? with
 | some p=>bey κ left key p
 | none=>false
theorem kh {left:Bool} {key:Kp} {arr:Kr Kp} {base n:Nat} (hn:base+n<=arr.size):∀i p,i < n->arr[base+i]?=some p->bey κ left key p=bdv κ left key arr base i:=λ i p _ hp=>by unfold bdv;rw[hp]
theorem fg {left:Bool} {key:Kp} {arr:Kr Kp} {base n:Nat} (hn:base+n<=arr.size) (h:∀i j x y,base<=i->i<=j->j < base+n->arr[i]?=some x->arr[j]?=some y->kl κ x y):∀i j,i<=j->j < n->bdv κ left key arr base j=true->bdv κ left key arr base i=true:=by
 intro i j ij jn e;have hx:arr[base+i]?=some arr[base+i]:=getElem?_pos _ _ ⋯;have hy:arr[base+j]?=some arr[base+j]:=getElem?_pos _ _ ⋯;have le:=h _ _ _ _ ⋯ ⋯ ⋯ hx hy;unfold bdv at e ⊢;rw[hx];rw[hy]at e;dsimp only at e ⊢;unfold bey at e ⊢;cases left with
 | true=>exact KeyOrd.klt_of_kle_of_klt le e
 | false=>
  have e:κ.kle (ky κ arr[base+j]) (ky κ key):=by simpa[KeyOrd.kle]using e
  have:=KeyOrd.kle_trans le e;simpa[KeyOrd.kle]using this
theorem xL {x:Kp} {arr:Kr Kp} {base k:Nat} (hn:base+k<=arr.size) (hx:x∈(arr.extract base (base+k)).toList):∃i,i < k/\arr[base+i]?=some x:=by
 obtain⟨i,hi⟩:=Jl hx;rw[JB,Ju]at hi
 split at hi
 ·rename_i c
  exact%[i,⋯|hi]
 ·cases hi
theorem fh {left:Bool} {key x:Kp} {arr:Kr Kp} {base i:Nat} (h:bdv κ left key arr base i=true) (e:arr[base+i]?=some x):kl κ x key:=by
 unfold bdv at h;rw[e]at h;dsimp only[bey]at h;cases left with
 | true=>exact LX h
 | false=>simpa[kl,KeyOrd.kle]using h
theorem dM {left:Bool} {key x:Kp} {arr:Kr Kp} {base i:Nat} (h:bdv κ left key arr base i=false) (e:arr[base+i]?=some x):kl κ key x:=by
 unfold bdv at h;rw[e]at h;dsimp only[bey]at h;cases left with
 | true=>exact h
 | false=>exact LX (by simpa[KeyOrd.klt]using h)
theorem xM {x:Kp} {arr:Kr Kp} {m:Nat} (hx:x∈arr.toList.drop m):∃i,m<=i/\i < arr.size/\arr[i]?=some x:=by obtain⟨i,hi⟩:=Jl hx;rw[List.getElem?_drop,JB]at hi;exact%[m+i,⋯,(Array.getElem?_eq_some_iff.mp hi).1|hi]
end
theorem Srt.take {κ:KeyKind} {a:Kr Kp} (h:Srt κ a.toList) {i:Nat} {x y:Kp} (h1:1<=i) (hy:a[i - 1]?=some y) (hx:x∈a.toList.take i):kl κ x y:=by
 obtain⟨j,hj⟩:=Jl hx;rw[List.getElem?_take]at hj
 split at hj
 ·rename_i c
  rw[JB]at hj;exact h.at ⋯ hj hy
 ·cases hj
theorem uR {x:Kp} {arr:Kr Kp} {m:Nat} (hx:x∈arr.toList.take m):∃i,i < m/\arr[i]?=some x:=by
 obtain⟨j,hj⟩:=Jl hx;rw[List.getElem?_take]at hj
 split at hj
 ·rename_i c
  rw[JB]at hj;exact%[j,c|hj]
 ·cases hj
theorem ki {x:Kp} {arr:Kr Kp} {m n:Nat} (hx:x∈(arr.extract m n).toList):∃i,m<=i/\i < n/\arr[i]?=some x:=by
 obtain⟨i,hi⟩:=Jl hx;rw[JB,Ju]at hi
 split at hi
 ·rename_i c
  exact%[m+i,⋯,⋯|hi]
 ·cases hi
structure MH (κ:KeyKind) (a b out:Kr Kp) (na nb:Nat):Prop where
 pm:MHi a b out na nb
 sa:Srt κ (a.toList.take na ++ out.toList.reverse)
 sb:Srt κ (b.toList.take nb ++ out.toList.reverse)
section
variable {κ:KeyKind} {a b out:Kr Kp} {na nb:Nat}
theorem MH.pb {p:Kp} (h:MH κ a b out na nb) (h1:1<=nb) (e:b[nb - 1]?=some p) (c:∀y∈a.toList.take na,kl κ y p):MH κ a b (out.push p) na (nb - 1):=by
 have d:=hV e;rw[show nb - 1+1=nb by lia]at d;have sb:=h.sb;rw[d,JC]at sb;obtain⟨p1,p2,p3⟩:=JG.mp h.sa;have r:(out.push p).toList.reverse=[p] ++ out.toList.reverse:=by simp
 apply%[h.pm.pb h1 e,?_|by rw[r];exact sb];rw[r];apply JG.mpr %[p1,(JG.mp sb).2.1|λ x hx y hy=>?_];rcases C4.mp hy with hy | hy
 ·rw[E4.mp hy];exact c x hx
 ·exact p3 x hx y hy
theorem MH.pa {p:Kp} (h:MH κ a b out na nb) (h1:1<=na) (e:a[na - 1]?=some p) (c:∀y∈b.toList.take nb,kl κ y p):MH κ a b (out.push p) (na - 1) nb:=by
 have d:=hV e;rw[show na - 1+1=na by lia]at d;have sa:=h.sa;rw[d,JC]at sa;obtain⟨p1,p2,p3⟩:=JG.mp h.sb;have r:(out.push p).toList.reverse=[p] ++ out.toList.reverse:=by simp
 apply%[h.pm.pa h1 e,by rw[r];exact sa|?_];rw[r];apply JG.mpr %[p1,(JG.mp sa).2.1|λ x hx y hy=>?_];rcases C4.mp hy with hy | hy
 ·rw[E4.mp hy];exact c x hx
 ·exact p3 x hx y hy
theorem MH.ca {i:Nat} (h:MH κ a b out na nb) (hi:i<=na) (c:∀x∈b.toList.take nb,∀y∈(a.extract i na).toList,kl κ x y):MH κ a b (out ++ (a.extract i na).reverse) i nb:=by
 have r:(out ++ (a.extract i na).reverse).toList.reverse=(a.extract i na).toList ++ out.toList.reverse:=by simp
 have sa:=h.sa;rw[<- dL a hi,JC]at sa;obtain⟨p1,p2,p3⟩:=JG.mp h.sb;apply%[h.pm.ca hi,by rw[r];exact sa|?_];rw[r];apply JG.mpr %[p1,(JG.mp sa).2.1|λ x hx y hy=>?_];rcases C4.mp hy with hy | hy
 ·exact c x hx y hy
 ·exact p3 x hx y hy
theorem MH.cb {i:Nat} (h:MH κ a b out na nb) (hi:i<=nb) (c:∀x∈a.toList.take na,∀y∈(b.extract i nb).toList,kl κ x y):MH κ a b (out ++ (b.extract i nb).reverse) na i:=by
 have r:(out ++ (b.extract i nb).reverse).toList.reverse=(b.extract i nb).toList ++ out.toList.reverse:=by simp
 have sb:=h.sb;rw[<- dL b hi,JC]at sb;obtain⟨p1,p2,p3⟩:=JG.mp h.sa;apply%[h.pm.cb hi,?_|by rw[r];exact sb];rw[r];apply JG.mpr %[p1,(JG.mp sb).2.1|λ x hx y hy=>?_];rcases C4.mp hy with hy | hy
 ·exact c x hx y hy
 ·exact p3 x hx y hy
theorem MH.done (h:MH κ a b out na nb) (e:na=0\/nb=0):(a.extract 0 na ++ b.extract 0 nb ++ out.reverse).Perm (a ++ b)/\Srt κ (a.extract 0 na ++ b.extract 0 nb ++ out.reverse).toList:=by
 apply%[h.pm.done|?_];rw[JO,JO,dJ,dJ,Jz];rcases e with e | e
 ·subst e;simpa using h.sb
 ·subst e;simpa using h.sa
theorem MH.first (h:MH κ a b out na nb) (e:nb=1) (hF:∀p,b[0]?=some p->∀y∈a.toList,kl κ p y):(b.extract 0 nb ++ a.extract 0 na ++ out.reverse).Perm (a ++ b)/\Srt κ (b.extract 0 nb ++ a.extract 0 na ++ out.reverse).toList:=by
 apply⟨h.pm.first,?_⟩;rw[JO,JO,dJ,dJ,Jz,JC];obtain⟨p1,p2,p3⟩:=JG.mp h.sb;apply JG.mpr %[p1,h.sa|λ x hx y hy=>?_];rcases C4.mp hy with hy | hy
 ·obtain⟨i,ik,ei⟩:=uR hx;rw[show i=0 by lia]at ei;exact hF x ei y (KQ hy)
 ·exact p3 x hx y hy
end
def RunS (κ:KeyKind) (arr:Kr Kp) (x:Nat×Nat×Nat):Prop:=∀i j p q,x.1<=i->i<=j->j < x.1+x.2.1->arr[i]?=some p->arr[j]?=some q->kl κ p q
def RS (κ:KeyKind) (st:SortSt):Prop:=∀x∈(pendingOf st).toList,RunS κ (arrOf st) x
theorem RunS.srt {κ:KeyKind} {arr:Kr Kp} {m n:Nat} (h:∀i j p q,m<=i->i<=j->j < n->arr[i]?=some p->arr[j]?=some q->kl κ p q):Srt κ (arr.extract m n).toList:=by
 unfold Srt;rw[Jp];intro i j hi hj ij;have ex:(arr.extract m n).toList[i]?=some (arr.extract m n).toList[i]:=G2 hi;have ey:(arr.extract m n).toList[j]?=some (arr.extract m n).toList[j]:=G2 hj;rw[JB,Ju]at ex ey
 split at ex
 ·split at ey
  ·exact h _ _ _ _ ⋯ ⋯ ⋯ ex ey
  ·cases ey
 ·cases ex
theorem Tile.apart:∀ {l:Ks (Nat×Nat×Nat)} {i j lo hi:Nat} {x y:Nat×Nat×Nat},Tile l lo hi->i < j->l[i]?=some x->l[j]?=some y->x.1+x.2.1<=y.1
 | z :: l,0,j+1,lo,hi,x,y,h,_,e1,e2=>by cases e1;have:=Tile.from_ h.2.2 (show l[j]?=some y by simpa using e2);have:=h.1;lia
 | z :: l,i+1,j+1,lo,hi,x,y,h,ij,e1,e2=>Tile.apart h.2.2 (i:=i) (j:=j) ⋯ (by simpa using e1) (by simpa using e2)
 | [],_,_,_,_,_,_,_,_,e1,_=>by simp at e1
where
 Tile.from_:∀ {l:Ks (Nat×Nat×Nat)} {i lo hi:Nat} {x:Nat×Nat×Nat},Tile l lo hi->l[i]?=some x->lo<=x.1
 | z :: l,0,lo,hi,x,h,e=>by cases e;exact Nat.le_of_eq h.1.symm
 | z :: l,i+1,lo,hi,x,h,e=>C7 (Nat.le_add_right _ _) (Tile.from_ h.2.2 (i:=i) (by simpa using e))
 | [],_,_,_,_,_,e=>by simp at e
theorem Tile.others {l:Ks (Nat×Nat×Nat)} {i lo hi:Nat} {x y m:Nat×Nat×Nat} (T:Tile l lo hi) (e1:l[i]?=some x) (e2:l[i+1]?=some y):∀z∈(l.set i m).eraseIdx (i+1),z=m\/(z∈l/\(z.1+z.2.1<=x.1\/y.1+y.2.1<=z.1)):=by
 intro z hz;obtain⟨j,hj⟩:=Jl hz;rw[List.getElem?_eraseIdx]at hj
 split at hj
 ·rename_i c
  by_cases ji:j=i
  ·subst ji;rw[KW (A7.mp e1).1]at hj;exact .inl (C0 hj).symm
  ·rw[KP (Ne.symm ji)]at hj;exact .inr %[B7 hj|.inl (T.apart ⋯ hj e1)]
 ·rename_i c
  rw[KP ⋯]at hj;exact .inr %[B7 hj|.inr (T.apart ⋯ e2 hj)]
section
variable {prog:IP} {w:IR} {A:Around} {E:IS->IN->Prop} {s:IN} {κ:KeyKind} {κ0:SortKind} {a₀:Kr Kp}
theorem hW (hO:bz prog w A s κ0 κ) {st:SortSt} {x y:Kp} {Q:Kq Bool->SortSt->Prop} (hk:kindOf st=κ0) (hx:∃k,κ.keyOf x.1=some k) (hy:∃k,κ.keyOf y.1=some k)
  (h:Q (some (κ.blt (ky κ x) (ky κ y))) st):wpS (model prog w) A E s (lt' x y) Q st:=by
 obtain⟨a,ha⟩:=hx;obtain⟨b,hb⟩:=hy;unfold ky at h;rw[ha,hb]at h;rw[lt'_eq];apply A4 (wpS_get ?_);rw[hk];apply A4 (wpS_lift (Lb (hO _ _ _ a b _ ha hb %[rfl|?_])));exact A5 h
theorem ck (hO:bz prog w A s κ0 κ) {st:SortSt} {left:Bool} {key:Kp} {arr:Kr Kp} {base n hint:Nat} {Q:Kq Nat->SortSt->Prop} (hk:kindOf st=κ0) (hn:base+n<=arr.size) (hh:hint < n)
  (ha:KdA κ arr) (hy:∃k,κ.keyOf key.1=some k) (bd:Nat->Bool) (hb:∀i p,i < n->arr[base+i]?=some p->bey κ left key p=bd i) (mono:∀i j,i<=j->j < n->bd j=true->bd i=true)
  (h:∀k,k<=n->(∀i,i < k->bd i=true)->(∀i,k<=i->i < n->bd i=false)->Q (some k) st):wpS (model prog w) A E s (wM left key arr base n hint) Q st:=by
 have neg:∀i j,i<=j->j < n->bd i=false->bd j=false:=λ i j ij jn e=>by
  cases c:bd j with
  | false=>rfl
  | true=>rw[mono i j ij jn c]at e;cases e
 have ask:∀ (i:Nat),i < n->∀ (R:Kq Bool->SortSt->Prop),R (some (bd i)) st->wpS (model prog w) A E s (elem' arr (base+i) >>= λ x=>if left=true then lt' x key else lt' key x >>= λ r=>pure (r.map (!·))) R st:=by
  intro i hi R hR;apply A4 (bo ⋯ λ p hp=>?_);rw[<- hb i p hi hp]at hR;unfold bey at hR
  split
  ·rename_i c
   rw[Kz c]at hR;exact hW hO hk (ha _ _ hp) hy hR
  ·rename_i c
   rw[Ky c]at hR;exact A4 (hW hO hk hy (ha _ _ hp) (A5 hR))
 apply A4 (ask hint hh _ ?_);dsimp only
 split
 ·rename_i c0
  apply A4 (Ll (LC (I:=λ i c st'=>c.1=none/\st'=st/\c.2.1 < c.2.2/\hint+c.2.1 < n/\bd (hint+c.2.1)=true/\i < c.2.2) (Q:=λ c st'=>c.1=none/\st'=st/\hint+c.2.1 < n/\bd (hint+c.2.1)=true/\c.2.1 < c.2.2/\(n - hint<=c.2.2\/bd (hint+c.2.2)=false)) ?_ (λ c st' hc=>%[hc.1,hc.2.1,hc.2.2.2.1,hc.2.2.2.2.1,hc.2.2.1|.inl (by have:=hc.2.2.2.2.2;lia)]) %[rfl,rfl,by dsimp only;lia,by dsimp only;lia,by simpa using c0|by dsimp only;lia]) ?_)
  ·rintro i ⟨r,lo,ofs⟩ st' _ _ ⟨h1,rfl,h2,h3,h4,h5⟩;dsimp only at h1 h2 h3 h4 h5 ⊢
   split
   ·rename_i c1
    exact A5 %[rfl,rfl,h3,h4,h2|.inl c1]
   ·rename_i c1
    apply A4 (ask _ ⋯ _ ?_);dsimp only
    split
    ·rename_i c2
     exact A5 %[rfl,rfl,h3,h4,h2|.inr (by simpa using c2)]
    ·rename_i c2
     exact A5 %[rfl,rfl,by dsimp only;lia,by dsimp only;lia,by simpa using c2|by dsimp only;lia]
  ·rintro⟨r,lo,ofs⟩ st' ⟨h1,rfl,h3,h4,h2,h5⟩;dsimp only at h1 h2 h3 h4 h5 ⊢;subst h1;apply A4 (Ll (LC (I:=λ i c st2=>c.1=none/\st2=st'/\c.2.2<=n/\(∀j,j < c.2.1->bd j=true)/\(∀j,c.2.2<=j->j < n->bd j=false)/\c.2.1<=c.2.2/\c.2.2+i<=c.2.1+n) (Q:=λ c st2=>c.1=none/\st2=st'/\c.2.2<=n/\(∀j,j < c.2.2->bd j=true)/\(∀j,c.2.2<=j->j < n->bd j=false)) ?_ ?_ %[rfl,rfl,by dsimp only;lia,λ j hj=>mono j (hint+lo) (by dsimp only at hj;lia) h3 h4,λ j hj jn=>?_,by dsimp only;lia|by dsimp only;lia]) ?_)
   ·rintro i ⟨r,l2,h2'⟩ st2 _ _ ⟨g1,rfl,g2,g3,g4,g5,g6⟩;dsimp only at g1 g2 g3 g4 g5 g6 ⊢
    split
    ·rename_i c1
     exact A5 %[rfl,rfl,g2,by rw[show h2'=l2 by lia];exact g3|g4]
    ·rename_i c1
     apply A4 (ask _ ⋯ _ ?_);dsimp only
     split
     ·rename_i c2
      apply A5 %[rfl,rfl,g2,λ j hj=>?_,g4,by dsimp only;lia|by dsimp only;lia];dsimp only at hj;exact mono j (l2+(h2' - l2) / 2) ⋯ ⋯ c2
     ·rename_i c2
      apply A5 %[rfl,rfl,by dsimp only;lia,g3,λ j hj jn=>?_,by dsimp only;lia|by dsimp only;lia];dsimp only at hj;exact neg (l2+(h2' - l2) / 2) j ⋯ jn (by simpa using c2)
   ·rintro⟨r,l2,h2'⟩ st2 ⟨g1,rfl,g2,g3,g4,g5,g6⟩;dsimp only at g1 g2 g3 g4 g5 g6;exact%[g1,Y,g2,by dsimp only;rw[show h2'=l2 by lia];exact g3|g4]
   ·dsimp only at hj;rcases h5 with z | z
    ·lia
    ·by_cases cm:n - hint<=ofs
     ·lia
     ·exact neg (hint+ofs) j ⋯ jn z
   ·rintro⟨r,l2,h2'⟩ st2 ⟨g1,rfl,g2,g3,g4⟩;dsimp only at g1 g2 g3 g4 ⊢;subst g1;exact A5 (h _ g2 g3 g4)
 ·rename_i c0
  apply A4 (Ll (LC (I:=λ i c st'=>c.1=none/\st'=st/\c.2.1 < c.2.2/\c.2.1<=hint/\bd (hint - c.2.1)=false/\i < c.2.2) (Q:=λ c st'=>c.1=none/\st'=st/\c.2.1<=hint/\bd (hint - c.2.1)=false/\c.2.1 < c.2.2/\(hint+1<=c.2.2\/bd (hint - c.2.2)=true)) ?_ (λ c st' hc=>%[hc.1,hc.2.1,hc.2.2.2.1,hc.2.2.2.2.1,hc.2.2.1|.inl (by have:=hc.2.2.2.2.2;lia)]) %[rfl,rfl,by dsimp only;lia,by dsimp only;lia,by simpa using c0|by dsimp only;lia]) ?_)
  ·rintro i ⟨r,lo,ofs⟩ st' _ _ ⟨h1,rfl,h2,h3,h4,h5⟩;dsimp only at h1 h2 h3 h4 h5 ⊢
   split
   ·rename_i c1
    exact A5 %[rfl,rfl,h3,h4,h2|.inl c1]
   ·rename_i c1
    apply A4 (ask _ ⋯ _ ?_);dsimp only
    split
    ·rename_i c2
     exact A5 %[rfl,rfl,h3,h4,h2|.inr c2]
    ·rename_i c2
     exact A5 %[rfl,rfl,by dsimp only;lia,by dsimp only;lia,by simpa using c2|by dsimp only;lia]
  ·rintro⟨r,lo,ofs⟩ st' ⟨h1,rfl,h3,h4,h2,h5⟩;dsimp only at h1 h2 h3 h4 h5 ⊢;subst h1;apply A4 (Ll (LC (I:=λ i c st2=>c.1=none/\st2=st'/\c.2.2<=n/\(∀j,j < c.2.1->bd j=true)/\(∀j,c.2.2<=j->j < n->bd j=false)/\c.2.1<=c.2.2/\c.2.2+i<=c.2.1+n) (Q:=λ c st2=>c.1=none/\st2=st'/\c.2.2<=n/\(∀j,j < c.2.2->bd j=true)/\(∀j,c.2.2<=j->j < n->bd j=false)) ?_ ?_ %[rfl,rfl,by dsimp only;lia,λ j hj=>?_,λ j hj jn=>neg (hint - lo) j (by dsimp only at hj;lia) jn h4,by dsimp only;lia|by dsimp only;lia]) ?_)
   ·rintro i ⟨r,l2,h2'⟩ st2 _ _ ⟨g1,rfl,g2,g3,g4,g5,g6⟩;dsimp only at g1 g2 g3 g4 g5 g6 ⊢
    split
    ·rename_i c1
     exact A5 %[rfl,rfl,g2,by rw[show h2'=l2 by lia];exact g3|g4]
    ·rename_i c1
     apply A4 (ask _ ⋯ _ ?_);dsimp only
     split
     ·rename_i c2
      apply A5 %[rfl,rfl,g2,λ j hj=>?_,g4,by dsimp only;lia|by dsimp only;lia];dsimp only at hj;exact mono j (l2+(h2' - l2) / 2) ⋯ ⋯ c2
     ·rename_i c2
      apply A5 %[rfl,rfl,by dsimp only;lia,g3,λ j hj jn=>?_,by dsimp only;lia|by dsimp only;lia];dsimp only at hj;exact neg (l2+(h2' - l2) / 2) j ⋯ jn (by simpa using c2)
   ·rintro⟨r,l2,h2'⟩ st2 ⟨g1,rfl,g2,g3,g4,g5,g6⟩;dsimp only at g1 g2 g3 g4 g5 g6;exact%[g1,Y,g2,by dsimp only;rw[show h2'=l2 by lia];exact g3|g4]
   ·dsimp only at hj;rcases h5 with z | z
    ·lia
    ·by_cases cm:hint+1<=ofs
     ·lia
     ·exact mono j (hint - ofs) ⋯ ⋯ z
   ·rintro⟨r,l2,h2'⟩ st2 ⟨g1,rfl,g2,g3,g4⟩;dsimp only at g1 g2 g3 g4 ⊢;subst g1;exact A5 (h _ g2 g3 g4)
theorem lu (hO:bz prog w A s κ0 κ) {st:SortSt} {a b:Kr Kp} {Q:Kr Kp->SortSt->Prop} (hk:kindOf st=κ0) (ha:KdA κ a) (hb:KdA κ b) (la:1<=a.size) (lb:1<=b.size) (sa:Srt κ a.toList) (sb:Srt κ b.toList) (hF:∀p,b[0]?=some p->∀y∈a.toList,kl κ p y) (hL:∀p,a[a.size - 1]?=some p->∀y∈b.toList,kl κ y p)
  (h:∀r st',r.Perm (a ++ b)/\Srt κ r.toList->SameG st st'->Q r st'):wpS (model prog w) A E s (uP a b) Q st:=by
 apply A4 (wpS_lift (LS %[rfl|?_]));apply A4 (bo ⋯ λ p hp=>?_);have m0:MS κ a b #[p] 0 1:=by
  have:MS κ a b #[] 0 0:=%[by unfold MLo;simp,by simpa using sa|by simpa using sb]
  exact this.pb hp (hF p hp)
 have aL:∀ (i:Nat) p,i+1=a.size->a[i]?=some p->∀y∈b.toList,kl κ y p:=λ i p e hp=>hL p (by rw[<- e];exact hp);have gtA:∀ {x y:Kp} {i:Nat},a[i]?=some x->y∈a.toList.drop i->kl κ x y:=λ hx hy=>Srt.drop sa hx hy;have gtB:∀ {x y:Kp} {i:Nat},b[i]?=some x->y∈b.toList.drop i->kl κ x y:=λ hx hy=>Srt.drop sb hx hy;dsimp -zeta only
 extract_lets
 apply ap (λ c1=>A5 (h _ _ (m0.done (.inl (by simp only[K0]at c1;lia))) .rfl')) (λ c1=>?_);apply ap (λ c2=>A5 (h _ _ (m0.last (by simp only[K0]at c2;lia) (aL 0)) .rfl')) (λ c2=>?_);simp only[K0]at c1 c2;apply A4 (wpS_get ?_);apply A4 (Ll (LC (I:=λ x c st2=>SameG st st2/\c.1=none/\MS κ a b c.2.1 c.2.2.1 c.2.2.2.1/\c.2.2.1+1 < a.size/\c.2.2.2.1 < b.size/\x+1<=c.2.2.1+c.2.2.2.1)
  (Q:=λ c st2=>SameG st st2/\∃r,c.1=some r/\(r.Perm (a ++ b)/\Srt κ r.toList)) ?step ?fin %[.rfl',rfl,m0,by dsimp only;lia,by dsimp only;lia|by dsimp only;lia]) ?post)
 case fin=>
  rintro⟨r,out,ia,ib,mg⟩ st2 ⟨hs,h1,hm,b1,b2,b3⟩;dsimp only at b1 b2 b3;exact absurd b3 ⋯
 case post=>
  rintro⟨r,out,ia,ib,mg⟩ st2 ⟨hs,r',h1,hr⟩;dsimp -zeta only at h1 ⊢;subst h1;exact A5 (h _ _ hr hs)
 case step=>
  clear c1 c2 m0 la lb;rintro x ⟨r,out,ia,ib,mg⟩ st2 _ hx ⟨hs,h1,hm,b1,b2,b3⟩;dsimp -zeta only at h1 hm b1 b2 b3 ⊢;apply A4 (Ll (LC (I:=λ y c st3=>st3=st2/\c.1=none/\MS κ a b c.2.1 c.2.2.1 c.2.2.2.1/\c.2.2.1+1 < a.size/\c.2.2.2.1 < b.size/\x+1+min y 1<=c.2.2.1+c.2.2.2.1)
   (Q:=λ c st3=>SameG st st3/\((∃r,c.1=some r/\(r.Perm (a ++ b)/\Srt κ r.toList))\/(c.1=none/\MS κ a b c.2.1 c.2.2.1 c.2.2.2.1/\c.2.2.1+1 < a.size/\c.2.2.2.1 < b.size/\x+2<=c.2.2.1+c.2.2.2.1))) ?s1 ?f1 %[rfl,rfl,hm,b1,b2|by dsimp only;lia]) ?p1)
  case f1=>
   rintro⟨r,out,ia,ib,ac,bc⟩ st3 ⟨rfl,g1,g2,g3,g4,g5⟩;dsimp only at g1 g2 g3 g4 g5;exact%[hs|.inr %[g1,g2,g3,g4|by dsimp only;lia]]
  case s1=>
   clear hm b1 b2 b3 hx;rintro y ⟨r,out,ia,ib,ac,bc⟩ st3 _ hy ⟨rfl,g1,hm,b1,b2,b3⟩;have sg:=hs;dsimp only at g1 hm b1 b2 b3 ⊢;apply A4 (bo ⋯ λ p1 hp1=>?_);apply A4 (bo ⋯ λ p2 hp2=>?_);apply A4 (hW hO (sg.1.trans hk) (hb _ _ hp1) (ha _ _ hp2) ?_);dsimp only;apply ap (λ c5=>?_) (λ c5=>?_)
   ·apply A4 (bo ⋯ λ q hq=>?_);rw[hp1]at hq;cases hq;have cc:∀y∈a.toList.drop ia,kl κ p1 y:=λ y hy=>kl.trans (LX c5) (gtA hp2 hy);apply ap (λ c2=>?_) (λ c2=>?_)
    ·simp only[K0]at c2;exact A5 %[sg|.inl %[_,rfl|(hm.pb hp1 cc).done (.inl ⋯)]]
    ·simp only[K0]at c2;apply ap (λ c1=>?_) (λ c1=>?_)
     ·exact A5 %[sg|.inr %[rfl,hm.pb hp1 cc,by dsimp only;lia,by dsimp only;lia|by dsimp only;lia]]
     ·exact A5 %[rfl,rfl,hm.pb hp1 cc,by dsimp only;lia,by dsimp only;lia|by dsimp only;lia]
   ·apply A4 (bo ⋯ λ q hq=>?_);rw[hp2]at hq;cases hq;have cc:∀y∈b.toList.drop ib,kl κ p2 y:=λ y hy=>kl.trans (KeyOrd.kle_of_not_klt c5) (gtB hp1 hy);apply ap (λ c4=>?_) (λ c4=>?_)
    ·simp only[K0]at c4;exact A5 %[sg|.inl %[_,rfl|(hm.pa hp2 cc).last ⋯ (aL _)]]
    ·simp only[K0]at c4;apply ap (λ c3=>?_) (λ c3=>?_)
     ·exact A5 %[sg|.inr %[rfl,hm.pa hp2 cc,by dsimp only;lia,by dsimp only;lia|by dsimp only;lia]]
     ·exact A5 %[rfl,rfl,hm.pa hp2 cc,by dsimp only;lia,by dsimp only;lia|by dsimp only;lia]
  case p1=>
   clear hm b1 b2 b3 hx;rintro⟨r,out,ia,ib,ac,bc⟩ st3 ⟨hs,(⟨r',h1,hr⟩ | ⟨h1,hm,b1,b2,b3⟩)⟩
   ·dsimp -zeta only at h1 ⊢;subst h1;exact A5 %[hs,r',rfl|hr]
   ·dsimp -zeta only at h1 hm b1 b2 b3 ⊢;subst h1;apply A4 (wpS_lift (LS %[rfl|?_]));apply A4 (Ll (LC (I:=λ y c st3=>SameG st st3/\c.1=none/\MS κ a b c.2.1 c.2.2.1 c.2.2.2.1/\c.2.2.1+1 < a.size/\c.2.2.2.1 < b.size/\x+2<=c.2.2.1+c.2.2.2.1)
     (Q:=λ c st3=>SameG st st3/\((∃r,c.1=some r/\(r.Perm (a ++ b)/\Srt κ r.toList))\/(c.1=none/\MS κ a b c.2.1 c.2.2.1 c.2.2.2.1/\c.2.2.1+1 < a.size/\c.2.2.2.1 < b.size/\x+2<=c.2.2.1+c.2.2.2.1))) ?s2 ?f2 %[hs,rfl,hm,b1,b2|b3]) ?p2)
    case f2=>exactλ c st3 z=>%[z.1|.inr z.2]
    case p2=>
     clear hm b1 b2 b3;rintro⟨r,out,ia,ib,mg,ac,bc⟩ st3 ⟨hs,(⟨r',h1,hr⟩ | ⟨h1,hm,b1,b2,b3⟩)⟩
     ·dsimp -zeta only at h1 ⊢;subst h1;exact A5 %[hs,r',rfl|hr]
     ·dsimp -zeta only at h1 hm b1 b2 b3 ⊢;subst h1;exact A4 (Lr (A5 %[hs,rfl,hm,b1,b2|by dsimp only;lia]))
    case s2=>
     clear hm b1 b2 b3;rintro y ⟨r,out,ia,ib,mg,ac,bc⟩ st2 _ hy ⟨hs,g1,hm,b1,b2,b3⟩;dsimp only at g1 hm b1 b2 b3;apply pZ λ Qx hQ=>?_
     extract_lets
     apply qb λ mg=>?_;dsimp -zeta +zetaDelta only;apply A4 (mJ λ st3 sg3=>?_);have sg:=hs.trans sg3;apply A4 (bo ⋯ λ p1 hp1=>?_);apply A4 (ck hO (sg.1.trans hk) ⋯ ⋯ ha (hb _ _ hp1) (bdv κ false p1 a ia) (kh ⋯) (fg ⋯ λ i j x y _ ij _ hx hy=>sa.at ij hx hy) λ k1 hk1 gT gF=>?_);have ga:∀x∈(a.extract ia (ia+k1)).toList,kl κ x p1:=λ x hx=>let ⟨i,ik,e⟩:=xL ⋯ hx;fh (gT i ik) e
     have gb:∀y∈a.toList.drop (ia+k1),kl κ p1 y:=λ y hy=>let ⟨i,mi,il,e⟩:=xM hy;dM (gF (i - ia) ⋯ ⋯) (by rw[show ia+(i - ia)=i by lia];exact e)
     dsimp -zeta only
     extract_lets _ jp1
     have hj1:∀o i,MS κ a b o i ib->(∀y∈a.toList.drop i,kl κ p1 y)->i+1 < a.size->x+2<=i+ib->wpS (model prog w) A E s (jp1 () o i) Qx st3:=by
      clear hm b1 b3 g1 hy ga gb gT gF hk1;intro out ia m1 cc b1 b3;dsimp -zeta only[jp1];apply A4 (bo ⋯ λ q hq=>?_);rw[hp1]at hq;cases hq
      try extract_lets
      apply ap (λ c5=>?_) (λ c5=>?_)
      ·simp only[K0]at c5;exact A5 (hQ _ _ %[sg|.inl %[_,rfl|(m1.pb hp1 cc).done (.inl ⋯)]])
      ·simp only[K0]at c5;apply A4 (bo ⋯ λ q2 hq2=>?_);apply A4 (ck hO (sg.1.trans hk) ⋯ ⋯ hb (ha _ _ hq2) (bdv κ true q2 b (ib+1)) (kh ⋯) (fg ⋯ λ i j x y _ ij _ hx hy=>sb.at ij hx hy) λ k2 hk2 gT gF=>?_);have ga:∀x∈(b.extract (ib+1) (ib+1+k2)).toList,kl κ x q2:=λ x hx=>let ⟨i,ik,e⟩:=xL ⋯ hx;fh (gT i ik) e
       have gb:∀y∈b.toList.drop (ib+1+k2),kl κ q2 y:=λ y hy=>let ⟨i,mi,il,e⟩:=xM hy;dM (gF (i - (ib+1)) ⋯ ⋯) (by rw[show ib+1+(i - (ib+1))=i by lia];exact e)
       dsimp -zeta only
       extract_lets _ jp2
       have hj2:∀o i,MS κ a b o ia i->(∀y∈b.toList.drop i,kl κ q2 y)->i < b.size->x+2<=ia+i->wpS (model prog w) A E s (jp2 () o i) Qx st3:=by
        intro o i m2 cc2 h1 h2;dsimp -zeta only[jp2];apply A4 (bo ⋯ λ q3 hq3=>?_);rw[hq2]at hq3;cases hq3;dsimp only;apply ap (λ c2=>?_) (λ c2=>?_)
        ·simp only[K0]at c2;exact A5 (hQ _ _ %[sg|.inl %[_,rfl|(m2.pa hq2 cc2).last ⋯ (aL _)]])
        ·simp only[K0]at c2;apply ap (λ c1=>?_) (λ c1=>?_)
         ·exact A5 (hQ _ _ %[sg|.inr %[rfl,m2.pa hq2 cc2,by dsimp only;lia,by dsimp only;lia|by dsimp only;lia]])
         ·exact A5 (hQ _ _ %[sg,rfl,m2.pa hq2 cc2,by dsimp only;lia,by dsimp only;lia|by dsimp only;lia])
       apply ap (λ c4=>?_) (λ c4=>?_)
       ·try extract_lets
        apply ap (λ c3=>?_) (λ c3=>?_)
        ·simp only[K0]at c3;exact A5 (hQ _ _ %[sg|.inl %[_,rfl|((m1.pb hp1 cc).cb k2 (λ x hx y hy=>kl.trans (ga x hx) (gtA hq2 hy))).done (.inl ⋯)]])
        ·simp only[K0]at c3;exact hj2 _ _ ((m1.pb hp1 cc).cb k2 (λ x hx y hy=>kl.trans (ga x hx) (gtA hq2 hy))) gb ⋯ ⋯
       ·exact hj2 _ _ (m1.pb hp1 cc) (by rw[show k2=0 by lia]at gb;exact gb) ⋯ ⋯
     apply ap (λ c8=>?_) (λ c8=>?_)
     ·try extract_lets
      apply ap (λ c7=>?_) (λ c7=>?_)
      ·simp only[K0]at c7;exact A5 (hQ _ _ %[sg|.inl %[_,rfl|(hm.ca k1 (λ x hx y hy=>kl.trans (ga x hx) (gtB hp1 hy))).last ⋯ (aL _)]])
      ·simp only[K0]at c7;apply ap (λ c6=>?_) (λ c6=>?_)
       ·simp only[K0]at c6;exact A5 (hQ _ _ %[sg|.inl %[_,rfl|(hm.ca k1 (λ x hx y hy=>kl.trans (ga x hx) (gtB hp1 hy))).done (.inr ⋯)]])
       ·simp only[K0]at c6;exact hj1 _ _ (hm.ca k1 (λ x hx y hy=>kl.trans (ga x hx) (gtB hp1 hy))) gb ⋯ ⋯
     ·exact hj1 _ _ hm (by rw[show k1=0 by lia]at gb;exact gb) ⋯ ⋯
theorem lw (hO:bz prog w A s κ0 κ) {st:SortSt} {a b:Kr Kp} {Q:Kr Kp->SortSt->Prop} (hk:kindOf st=κ0) (ha:KdA κ a) (hb:KdA κ b) (la:1<=a.size) (lb:1<=b.size) (sa:Srt κ a.toList) (sb:Srt κ b.toList) (hF:∀p,b[0]?=some p->∀y∈a.toList,kl κ p y) (hL:∀p,a[a.size - 1]?=some p->∀y∈b.toList,kl κ y p)
  (h:∀r st',r.Perm (a ++ b)/\Srt κ r.toList->SameG st st'->Q r st'):wpS (model prog w) A E s (uQ a b) Q st:=by
 apply A4 (wpS_lift (LS %[rfl|?_]));apply A4 (bo ⋯ λ p hp=>?_);have m0:MH κ a b #[p] (a.size - 1) b.size:=by
  have:MH κ a b #[] a.size b.size:=%[by unfold MHi;rw[JK (by simp),JK (by simp)];simp,by rw[JK (by simp)];simpa using sa|by rw[JK (by simp)];simpa using sb]
  exact this.pa la hp λ y hy=>hL p hp y (KQ hy)
 have ltA:∀ {x y:Kp} {i:Nat},1<=i->a[i - 1]?=some y->x∈a.toList.take i->kl κ x y:=λ h1 hy hx=>Srt.take sa h1 hy hx;have ltB:∀ {x y:Kp} {i:Nat},1<=i->b[i - 1]?=some y->x∈b.toList.take i->kl κ x y:=λ h1 hy hx=>Srt.take sb h1 hy hx;dsimp -zeta only
 extract_lets
 apply ap (λ c1=>A5 (h _ _ (m0.done (.inl (by simp only[K0]at c1;lia))) .rfl')) (λ c1=>?_);apply ap (λ c2=>A5 (h _ _ (m0.first (by simp only[K0]at c2;lia) hF) .rfl')) (λ c2=>?_);simp only[K0]at c1 c2;apply A4 (wpS_get ?_);apply A4 (Ll (LC (I:=λ x c st2=>SameG st st2/\c.1=none/\MH κ a b c.2.2.2.1 c.2.1 c.2.2.1/\1<=c.2.1/\c.2.1 < a.size/\2<=c.2.2.1/\c.2.2.1<=b.size/\x+1+c.2.1+c.2.2.1<=a.size+b.size)
  (Q:=λ c st2=>SameG st st2/\∃r,c.1=some r/\(r.Perm (a ++ b)/\Srt κ r.toList)) ?step ?fin %[.rfl',rfl,m0,by dsimp only;lia,by dsimp only;lia|by dsimp only;lia]) ?post)
 case fin=>
  rintro⟨r,ia,ib,out,mg⟩ st2 ⟨hs,h1,hm,b1,b2,b3⟩;dsimp only at b1 b2 b3;exact absurd b3 ⋯
 case post=>
  rintro⟨r,ia,ib,out,mg⟩ st2 ⟨hs,r',h1,hr⟩;dsimp -zeta only at h1 ⊢;subst h1;exact A5 (h _ _ hr hs)
 case step=>
  clear c1 c2 m0 la lb;rintro x ⟨r,ia,ib,out,mg⟩ st2 _ hx ⟨hs,h1,hm,b1,b2,b3⟩;dsimp -zeta only at h1 hm b1 b2 b3 ⊢;apply A4 (Ll (LC (I:=λ y c st3=>st3=st2/\c.1=none/\MH κ a b c.2.2.2.1 c.2.1 c.2.2.1/\1<=c.2.1/\c.2.1 < a.size/\2<=c.2.2.1/\c.2.2.1<=b.size/\x+1+min y 1+c.2.1+c.2.2.1<=a.size+b.size)
   (Q:=λ c st3=>SameG st st3/\((∃r,c.1=some r/\(r.Perm (a ++ b)/\Srt κ r.toList))\/(c.1=none/\MH κ a b c.2.2.2.1 c.2.1 c.2.2.1/\1<=c.2.1/\c.2.1 < a.size/\2<=c.2.2.1/\c.2.2.1<=b.size/\x+2+c.2.1+c.2.2.1<=a.size+b.size))) ?s1 ?f1 %[rfl,rfl,hm,b1,b2|by dsimp only;lia]) ?p1)
  case f1=>
   rintro⟨r,ia,ib,out,ac,bc⟩ st3 ⟨rfl,g1,g2,g3,g4,g5⟩;dsimp only at g1 g2 g3 g4 g5;exact%[hs|.inr %[g1,g2,g3,g4|by dsimp only;lia]]
  case s1=>
   clear hm b1 b2 b3 hx;rintro y ⟨r,ia,ib,out,ac,bc⟩ st3 _ hy ⟨rfl,g1,hm,b1,b2,b3⟩;have sg:=hs;dsimp only at g1 hm b1 b2 b3 ⊢;apply A4 (bo ⋯ λ p1 hp1=>?_);apply A4 (bo ⋯ λ p2 hp2=>?_);apply A4 (hW hO (sg.1.trans hk) (hb _ _ hp1) (ha _ _ hp2) ?_);dsimp only;apply ap (λ c10=>?_) (λ c10=>?_)
   ·apply A4 (bo ⋯ λ q hq=>?_);rw[hp2]at hq;cases hq;have cc:∀y∈b.toList.take ib,kl κ y p2:=λ y hy=>kl.trans (ltB ⋯ hp1 hy) (LX c10);apply ap (λ c7=>?_) (λ c7=>?_)
    ·simp only[K0]at c7;exact A5 %[sg|.inl %[_,rfl|(hm.pa ⋯ hp2 cc).done (.inl ⋯)]]
    ·simp only[K0]at c7;apply ap (λ c6=>?_) (λ c6=>?_)
     ·exact A5 %[sg|.inr %[rfl,(hm.pa ⋯ hp2 cc),by dsimp only;lia,by dsimp only;lia|by dsimp only;lia]]
     ·exact A5 %[rfl,rfl,(hm.pa ⋯ hp2 cc),by dsimp only;lia,by dsimp only;lia|by dsimp only;lia]
   ·apply A4 (bo ⋯ λ q hq=>?_);rw[hp1]at hq;cases hq;have cc:∀y∈a.toList.take ia,kl κ y p1:=λ y hy=>kl.trans (ltA ⋯ hp2 hy) (KeyOrd.kle_of_not_klt c10);apply ap (λ c9=>?_) (λ c9=>?_)
    ·simp only[K0]at c9;exact A5 %[sg|.inl %[_,rfl|(hm.pb ⋯ hp1 cc).first ⋯ hF]]
    ·simp only[K0]at c9;apply ap (λ c8=>?_) (λ c8=>?_)
     ·exact A5 %[sg|.inr %[rfl,(hm.pb ⋯ hp1 cc),by dsimp only;lia,by dsimp only;lia|by dsimp only;lia]]
     ·exact A5 %[rfl,rfl,(hm.pb ⋯ hp1 cc),by dsimp only;lia,by dsimp only;lia|by dsimp only;lia]
  case p1=>
   clear hm b1 b2 b3 hx;rintro⟨r,ia,ib,out,ac,bc⟩ st3 ⟨hs,(⟨r',h1,hr⟩ | ⟨h1,hm,b1,b2,b3⟩)⟩
   ·dsimp -zeta only at h1 ⊢;subst h1;exact A5 %[hs,r',rfl|hr]
   ·dsimp -zeta only at h1 hm b1 b2 b3 ⊢;subst h1;apply A4 (wpS_lift (LS %[rfl|?_]));apply A4 (Ll (LC (I:=λ y c st3=>SameG st st3/\c.1=none/\MH κ a b c.2.2.2.1 c.2.1 c.2.2.1/\1<=c.2.1/\c.2.1 < a.size/\2<=c.2.2.1/\c.2.2.1<=b.size/\x+2+c.2.1+c.2.2.1<=a.size+b.size)
     (Q:=λ c st3=>SameG st st3/\((∃r,c.1=some r/\(r.Perm (a ++ b)/\Srt κ r.toList))\/(c.1=none/\MH κ a b c.2.2.2.1 c.2.1 c.2.2.1/\1<=c.2.1/\c.2.1 < a.size/\2<=c.2.2.1/\c.2.2.1<=b.size/\x+2+c.2.1+c.2.2.1<=a.size+b.size))) ?s2 ?f2 %[hs,rfl,hm,b1,b2|b3]) ?p2)
    case f2=>exactλ c st3 z=>%[z.1|.inr z.2]
    case p2=>
     clear hm b1 b2 b3;rintro⟨r,ia,ib,out,mg,ac,bc⟩ st3 ⟨hs,(⟨r',h1,hr⟩ | ⟨h1,hm,b1,b2,b3⟩)⟩
     ·dsimp -zeta only at h1 ⊢;subst h1;exact A5 %[hs,r',rfl|hr]
     ·dsimp -zeta only at h1 hm b1 b2 b3 ⊢;subst h1;exact A4 (Lr (A5 %[hs,rfl,hm,b1,b2|by dsimp only;lia]))
    case s2=>
     clear hm b1 b2 b3;rintro y ⟨r,ia,ib,out,mg,ac,bc⟩ st2 _ hy ⟨hs,g1,hm,b1,b2,b3⟩;dsimp only at g1 hm b1 b2 b3;apply pZ λ Qx hQ=>?_
     extract_lets
     apply qb λ mg=>?_;dsimp -zeta +zetaDelta only;apply A4 (mJ λ st3 sg3=>?_);have sg:=hs.trans sg3;apply A4 (bo ⋯ λ p1 hp1=>?_);apply A4 (ck hO (sg.1.trans hk) ⋯ ⋯ ha (hb _ _ hp1) (bdv κ false p1 a 0) (kh ⋯) (fg ⋯ λ i j x y _ ij _ hx hy=>sa.at ij hx hy) λ k1 hk1 gT gF=>?_);have ga:∀x∈a.toList.take k1,kl κ x p1:=λ x hx=>let ⟨i,ik,e⟩:=uR hx;fh (gT i ik) (by rw[Kl];exact e)
     have gb:∀y∈(a.extract k1 ia).toList,kl κ p1 y:=λ y hy=>let ⟨i,mi,il,e⟩:=ki hy;dM (gF i mi il) (by rw[Kl];exact e)
     dsimp -zeta only
     extract_lets _ _ jp1
     have bB:2<=ib/\ib<=b.size:=%[b3.1|b3.2.1]
     have hj1:∀i o,MH κ a b o i ib->(∀y∈a.toList.take i,kl κ y p1)->1<=i->i < a.size->x+2+i+ib<=a.size+b.size->wpS (model prog w) A E s (jp1 () i o) Qx st3:=by
      clear hm b1 b3 g1 hy ga gb gT gF hk1;intro ia out m1 cc b1 b1' b3;dsimp -zeta only[jp1]
      try extract_lets
      apply A4 (bo ⋯ λ q hq=>?_);rw[hp1]at hq;cases hq
      try extract_lets
      apply ap (λ c6=>?_) (λ c6=>?_)
      ·simp only[K0]at c6;exact A5 (hQ _ _ %[sg|.inl %[_,rfl|(m1.pb ⋯ hp1 cc).first ⋯ hF]])
      ·simp only[K0]at c6;apply A4 (bo ⋯ λ q2 hq2=>?_);apply A4 (ck hO (sg.1.trans hk) ⋯ ⋯ hb (ha _ _ hq2) (bdv κ true q2 b 0) (kh ⋯) (fg ⋯ λ i j x y _ ij _ hx hy=>sb.at ij hx hy) λ k2 hk2 gT gF=>?_);have ga:∀x∈b.toList.take k2,kl κ x q2:=λ x hx=>let ⟨i,ik,e⟩:=uR hx;fh (gT i ik) (by rw[Kl];exact e)
       have gb:∀y∈(b.extract k2 (ib - 1)).toList,kl κ q2 y:=λ y hy=>let ⟨i,mi,il,e⟩:=ki hy;dM (gF i mi il) (by rw[Kl];exact e)
       dsimp -zeta only
       extract_lets _ _ jp2
       have hj2:∀i o,MH κ a b o ia i->(∀y∈b.toList.take i,kl κ y q2)->2<=i->i<=b.size->x+2+ia+i<=a.size+b.size->wpS (model prog w) A E s (jp2 () i o) Qx st3:=by
        intro i o m2 cc2 h1 h2 h3;dsimp -zeta only[jp2]
        try extract_lets
        apply A4 (bo ⋯ λ q3 hq3=>?_);rw[hq2]at hq3;cases hq3;dsimp only;apply ap (λ c2=>?_) (λ c2=>?_)
        ·simp only[K0]at c2;exact A5 (hQ _ _ %[sg|.inl %[_,rfl|(m2.pa ⋯ hq2 cc2).done (.inl ⋯)]])
        ·simp only[K0]at c2;apply ap (λ c1=>?_) (λ c1=>?_)
         ·exact A5 (hQ _ _ %[sg|.inr %[rfl,(m2.pa ⋯ hq2 cc2),by dsimp only;lia,by dsimp only;lia|by dsimp only;lia]])
         ·exact A5 (hQ _ _ %[sg,rfl,(m2.pa ⋯ hq2 cc2),by dsimp only;lia,by dsimp only;lia|by dsimp only;lia])
       apply ap (λ c5=>?_) (λ c5=>?_)
       ·try extract_lets
        apply ap (λ c4=>?_) (λ c4=>?_)
        ·simp only[K0]at c4;exact A5 (hQ _ _ %[sg|.inl %[_,rfl|((m1.pb ⋯ hp1 cc).cb hk2 (λ x hx y hy=>kl.trans (ltA ⋯ hq2 hx) (gb y hy))).first ⋯ hF]])
        ·simp only[K0]at c4;apply ap (λ c3=>?_) (λ c3=>?_)
         ·simp only[K0]at c3;exact A5 (hQ _ _ %[sg|.inl %[_,rfl|((m1.pb ⋯ hp1 cc).cb hk2 (λ x hx y hy=>kl.trans (ltA ⋯ hq2 hx) (gb y hy))).done (.inr ⋯)]])
         ·simp only[K0]at c3;exact hj2 _ _ ((m1.pb ⋯ hp1 cc).cb hk2 (λ x hx y hy=>kl.trans (ltA ⋯ hq2 hx) (gb y hy))) ga ⋯ ⋯ ⋯
       ·exact hj2 _ _ (m1.pb ⋯ hp1 cc) (by rw[show k2=ib - 1 by lia]at ga;exact ga) ⋯ ⋯ ⋯
     apply ap (λ c8=>?_) (λ c8=>?_)
     ·try extract_lets
      apply ap (λ c7=>?_) (λ c7=>?_)
      ·simp only[K0]at c7;exact A5 (hQ _ _ %[sg|.inl %[_,rfl|(hm.ca hk1 (λ x hx y hy=>kl.trans (ltB ⋯ hp1 hx) (gb y hy))).done (.inl ⋯)]])
      ·simp only[K0]at c7;exact hj1 _ _ (hm.ca hk1 (λ x hx y hy=>kl.trans (ltB ⋯ hp1 hx) (gb y hy))) ga ⋯ ⋯ ⋯
     ·exact hj1 _ _ hm (by rw[show k1=ia by lia]at ga;exact ga) ⋯ ⋯ ⋯
theorem ee (hO:bz prog w A s κ0 κ) (h0:KeysOf κ a₀) {st:SortSt} {i hi:Nat} {Q:Bool->SortSt->Prop} (hP:SP κ0 a₀ st) (hi2:i+1 < (pendingOf st).size) (T:Tile (pendingOf st).toList 0 hi) (hh:hi<=a₀.size) (R:RS κ st)
  (h:∀st',SP κ0 a₀ st'->Tile (pendingOf st').toList 0 hi->RS κ st'->(pendingOf st').size+1=(pendingOf st).size->(∀i,hi<=i->(arrOf st')[i]?=(arrOf st)[i]?)->Q true st'):wpS (model prog w) A E s (mergeAt' i) Q st:=by
 apply A4 (wpS_get ?_);obtain⟨⟨sa,na,pw⟩,e1⟩:∃x,(pendingOf st)[i]?=some x:=%[_|getElem?_pos (pendingOf st) i ⋯]
 obtain⟨⟨sb,nb,pw2⟩,e2⟩:∃x,(pendingOf st)[i+1]?=some x:=%[_|getElem?_pos (pendingOf st) (i+1) hi2]
 obtain⟨t1,t2,t3,t4,t5⟩:=T.two (by rw[JB];exact e1) (by rw[JB];exact e2) pw;dsimp only at t1 t2 t3 t4 t5;have hz:=hP.size;have kd:=hP.kd h0;rw[e1,e2];dsimp only;apply A4 (wN (st2:=SortSt.mk' (kindOf st) (arrOf st) (((pendingOf st).setIfInBounds i (sa,na+nb,pw)).eraseIdxIfInBounds (i+1)) (gallopOf st) (failedOf st)) ?_);have T2:Tile (((pendingOf st).setIfInBounds i (sa,na+nb,pw)).eraseIdxIfInBounds (i+1)).toList 0 hi:=by simpa using t5
 generalize hst2:SortSt.mk' (kindOf st) (arrOf st) (((pendingOf st).setIfInBounds i (sa,na+nb,pw)).eraseIdxIfInBounds (i+1)) (gallopOf st) (failedOf st)=st2;have P2:SP κ0 a₀ st2:=by subst hst2;exact%[hP.perm,hP.kind|hP.failed]
 have A2:arrOf st2=arrOf st:=by subst hst2;rfl
 have T3:Tile (pendingOf st2).toList 0 hi:=by subst hst2;exact T2
 have Z2:(pendingOf st2).size+1=(pendingOf st).size:=by subst hst2;show(((pendingOf st).setIfInBounds i (sa,na+nb,pw)).eraseIdxIfInBounds (i+1)).size+1=_;rw[<- JR,Array.toList_eraseIdxIfInBounds,Array.toList_setIfInBounds,List.length_eraseIdx,List.length_set,JR,Kz hi2];lia
 have m1:=B7 (show(pendingOf st).toList[i]?=some (sa,na,pw)by rw[JB];exact e1);have m2:=B7 (show(pendingOf st).toList[i+1]?=some (sb,nb,pw2)by rw[JB];exact e2);have hA:=R _ m1;have hB:=R _ m2;have others:∀z∈(pendingOf st2).toList,z=(sa,na+nb,pw)\/(z∈(pendingOf st).toList/\(z.1+z.2.1<=sa\/sb+nb<=z.1)):=by
  have e:(pendingOf st2).toList=((pendingOf st).toList.set i (sa,na+nb,pw)).eraseIdx (i+1):=by subst hst2;simp[pendingOf,SortSt.mk']
  rw[e];exact T.others (by rw[JB];exact e1) (by rw[JB];exact e2)
 apply A4 (bo (arr:=arrOf st) (i:=sb) ⋯ λ p hp=>?_);apply A4 (ck (arr:=arrOf st) (base:=sa) (n:=na) hO P2.kind ⋯ ⋯ kd (kd _ _ hp) (bdv κ false p (arrOf st) sa) (kh ⋯) (fg ⋯ λ i j x y a1 a2 a3=>hA i j x y a1 a2 a3) λ k hk gT gF=>?_);have toP:∀i x,sa<=i->i < sa+k->(arrOf st)[i]?=some x->kl κ x p:=λ i x a1 a2 e=>fh (gT (i - sa) ⋯) (by rw[show sa+(i - sa)=i by lia];exact e);have frP:∀i x,sa+k<=i->i < sb->(arrOf st)[i]?=some x->kl κ p x:=λ i x a1 a2 e=>dM (gF (i - sa) ⋯ ⋯) (by rw[show sa+(i - sa)=i by lia];exact e);have pB:∀i x,sb<=i->i < sb+nb->(arrOf st)[i]?=some x->kl κ p x:=λ i x a1 a2 e=>hB sb i p x (B4 _) a1 a2 hp e;dsimp only;apply ap (λ c1=>A5 (h _ P2 T3 (λ z hz=>?_) Z2 λ i _=>by rw[A2])) (λ c1=>?_)
 ·simp only[K0]at c1;rw[A2];rcases others z hz with rfl | ⟨hz,_⟩
  ·intro i j x y a1 a2 a3 ex ey;dsimp only at a1 a3
   by_cases ci:i < sb
   ·by_cases cj:j < sb
    ·exact hA i j x y a1 a2 (by dsimp only;lia) ex ey
    ·exact kl.trans (toP i x a1 ⋯ ex) (pB j y ⋯ ⋯ ey)
   ·exact hB i j x y (by dsimp only;lia) a2 (by dsimp only;lia) ex ey
  ·exact R z hz
 simp only[K0]at c1;apply A4 (bo (arr:=arrOf st) (i:=sa+k+(na - k) - 1) ⋯ λ q hq=>?_);apply A4 (ck (arr:=arrOf st) (base:=sb) (n:=nb) hO P2.kind ⋯ ⋯ kd (kd _ _ hq) (bdv κ true q (arrOf st) sb) (kh ⋯) (fg ⋯ λ i j x y a1 a2 a3=>hB i j x y a1 a2 a3) λ k2 hk2 gT2 gF2=>?_);have toQ:∀i x,sb<=i->i < sb+k2->(arrOf st)[i]?=some x->kl κ x q:=λ i x a1 a2 e=>fh (gT2 (i - sb) ⋯) (by rw[show sb+(i - sb)=i by lia];exact e);have frQ:∀i x,sb+k2<=i->i < sb+nb->(arrOf st)[i]?=some x->kl κ q x:=λ i x a1 a2 e=>dM (gF2 (i - sb) ⋯ ⋯) (by rw[show sb+(i - sb)=i by lia];exact e);have aQ:∀i x,sa<=i->i < sb->(arrOf st)[i]?=some x->kl κ x q:=λ i x a1 a2 e=>hA i _ x q a1 ⋯ (by dsimp only;lia) e hq;dsimp only;apply ap (λ c2=>A5 (h _ P2 T3 (λ z hz=>?_) Z2 λ i _=>by rw[A2])) (λ c2=>?_)
 ·simp only[K0]at c2;rw[A2];rcases others z hz with rfl | ⟨hz,_⟩
  ·intro i j x y a1 a2 a3 ex ey;dsimp only at a1 a3
   by_cases ci:i < sb
   ·by_cases cj:j < sb
    ·exact hA i j x y a1 a2 (by dsimp only;lia) ex ey
    ·exact kl.trans (aQ i x a1 ci ex) (frQ j y ⋯ ⋯ ey)
   ·exact hB i j x y (by dsimp only;lia) a2 (by dsimp only;lia) ex ey
  ·exact R z hz
 simp only[K0]at c2;have fin:∀ (r:Kr Kp) (st3:SortSt),r.Perm ((arrOf st).extract (sa+k) sb ++ (arrOf st).extract sb (sb+k2))/\Srt κ r.toList->SameG st2 st3 ->
   wpS (model prog w) A E s ((modify λ(s:SortSt)=>setArr s (r.toList.zipIdx.foldl (λ a (x:Kp×Nat)=>match x with | (p,j)=>a.setIfInBounds (sa+k+j) p) (arrOf s))) >>= λ _=>(get:StateT SortSt Sem SortSt) >>= λ s=>pure (failedOf s).isNone) Q st3:=by
  rintro r st3 ⟨hr,hsr⟩ hg;apply A4 (Lr (A4 (wpS_get (A5 ?_))));have hrl:=JY.mp hr;have Kw:r.toList.length=sb+k2 - (sa+k):=by rw[hrl.length_eq];simp;lia
  have hw:=kg (sa+k) r.toList 0 (arrOf st3) (by rw[hg.2.1,A2,Kw];lia);have e:failedOf st3=none:=hg.2.2.2.trans P2.failed;show Q (failedOf st3).isNone _;rw[e];apply h _ %[?_,hg.1.trans P2.kind|hg.2.2.2.trans P2.failed] (by show Tile (pendingOf st3).toList 0 hi;rw[hg.2.2.1];exact T3) ?_ (by show(pendingOf st3).size+1=_;rw[hg.2.2.1];exact Z2) ?_
  rotate_left
  ·have ar:(arrOf (setArr st3 (r.toList.zipIdx.foldl (λ a (x:Kp×Nat)=>match x with | (p,j)=>a.setIfInBounds (sa+k+j) p) (arrOf st3)))).toList=(arrOf st).toList.take (sa+k) ++ r.toList ++ (arrOf st).toList.drop (sb+k2):=by show(r.toList.zipIdx.foldl _ (arrOf st3)).toList=_;rw[hw,hg.2.1,A2,Kw,Nat.add_zero,show sa+k+(sb+k2 - (sa+k))=sb+k2 by lia]
   intro z hz;show RunS κ (arrOf (setArr st3 (r.toList.zipIdx.foldl (λ a (x:Kp×Nat)=>match x with | (p,j)=>a.setIfInBounds (sa+k+j) p) (arrOf st3)))) z;generalize arrOf (setArr st3 (r.toList.zipIdx.foldl (λ a (x:Kp×Nat)=>match x with | (p,j)=>a.setIfInBounds (sa+k+j) p) (arrOf st3)))=ar' at ar ⊢;have hz:z∈(pendingOf st2).toList:=by rw[<- hg.2.2.1];exact hz
   have tl:((arrOf st).toList.take (sa+k)).length=sa+k:=by rw[JJ];simp;lia
   have out1:∀i,i < sa+k->ar'[i]?=(arrOf st)[i]? := λ i c=>by rw[<- JB,ar,JC,Jn ⋯,List.getElem?_take,Kz c,JB]
   have in2:∀i x,sa+k<=i->i < sb+k2->ar'[i]?=some x->r.toList[i - (sa+k)]?=some x:=λ i x c1 c2 e=>by rw[<- JB,ar,JC,JV ⋯,tl,Jn ⋯]at e;exact e
   have out3:∀i,sb+k2<=i->ar'[i]?=(arrOf st)[i]? := λ i c=>by rw[<- JB,ar,JC,JV ⋯,tl,JV ⋯,List.getElem?_drop,Kw,JB];congr 1;lia
   have memR:∀x∈r.toList,(∃i,sa+k<=i/\i < sb/\(arrOf st)[i]?=some x)\/∃i,sb<=i/\i < sb+k2/\(arrOf st)[i]?=some x:=λ x hx=>by
    have:=hrl.mem_iff.mp hx;rw[JO]at this;rcases C4.mp this with h | h
    ·exact .inl (ki h)
    ·exact .inr (ki h)
   rcases others z hz with rfl | ⟨hz,zo⟩
   ·intro i j x y a1 a2 a3 ex ey;dsimp only at a1 a3
    by_cases ci:i < sa+k
    ·rw[out1 i ci]at ex
     by_cases cj:j < sa+k
     ·rw[out1 j cj]at ey;exact hA i j x y a1 a2 (by dsimp only;lia) ex ey
     ·apply kl.trans (toP i x a1 ci ex) ?_
      by_cases cj2:j < sb+k2
      ·rcases memR y (B7 (in2 j y ⋯ cj2 ey))with⟨l,l1,l2,l3⟩ | ⟨l,l1,l2,l3⟩
       ·exact frP l y l1 l2 l3
       ·exact pB l y l1 ⋯ l3
      ·rw[out3 j ⋯]at ey;exact pB j y ⋯ ⋯ ey
    ·by_cases ci2:i < sb+k2
     ·have ex':=in2 i x ⋯ ci2 ex
      by_cases cj2:j < sb+k2
      ·have ey':=in2 j y ⋯ cj2 ey;rw[JB]at ex' ey';exact Srt.at hsr ⋯ ex' ey'
      ·rw[out3 j ⋯]at ey;apply kl.trans ?_ (frQ j y ⋯ ⋯ ey);rcases memR x (B7 ex')with⟨l,l1,l2,l3⟩ | ⟨l,l1,l2,l3⟩
       ·exact aQ l x ⋯ l2 l3
       ·exact toQ l x l1 l2 l3
     ·rw[out3 i ⋯]at ex;rw[out3 j ⋯]at ey;exact hB i j x y (by dsimp only;lia) a2 (by dsimp only;lia) ex ey
   ·intro i j x y a1 a2 a3 ex ey;have ez:∀l,z.1<=l->l < z.1+z.2.1->ar'[l]?=(arrOf st)[l]? := λ l c1 c2=>by
     rcases zo with zo | zo
     ·exact out1 l ⋯
     ·exact out3 l ⋯
    rw[ez i a1 ⋯]at ex;rw[ez j ⋯ a3]at ey;exact R z hz i j x y a1 a2 a3 ex ey
  ·intro i hi';have tl:((arrOf st).toList.take (sa+k)).length=sa+k:=by rw[JJ];simp;lia
   show(r.toList.zipIdx.foldl _ (arrOf st3))[i]?=_;rw[<- JB,hw,hg.2.1,A2,Kw,Nat.add_zero,show sa+k+(sb+k2 - (sa+k))=sb+k2 by lia,JC,JV ⋯,tl,JV ⋯,List.getElem?_drop,Kw,JB];congr 1;lia
  apply Array.Perm.trans ?_ hP.perm;rw[JY];show List.Perm (r.toList.zipIdx.foldl _ (arrOf st3)).toList _;rw[hw,hg.2.1,A2,Kw,Nat.add_zero,show sa+k+(sb+k2 - (sa+k))=sb+k2 by lia];have e3:(arrOf st).toList=(arrOf st).toList.take (sa+k) ++ ((arrOf st).extract (sa+k) sb ++ (arrOf st).extract sb (sb+k2)).toList ++ (arrOf st).toList.drop (sb+k2):=by rw[JO,<- JC,dL _ ⋯,dL _ ⋯,List.take_append_drop]
  conv=>rhs;rw[e3]
  exact KC _ (Jx _ hrl)
 have sx:((arrOf st).extract (sa+k) sb).size=sb - (sa+k):=by rw[Array.size_extract];lia
 have sy:((arrOf st).extract sb (sb+k2)).size=k2:=by rw[Array.size_extract];lia
 have sA:Srt κ ((arrOf st).extract (sa+k) sb).toList:=RunS.srt λ i j x y a1 a2 a3=>hA i j x y ⋯ a2 (by dsimp only;lia);have sB:Srt κ ((arrOf st).extract sb (sb+k2)).toList:=RunS.srt λ i j x y a1 a2 a3=>hB i j x y ⋯ a2 (by dsimp only;lia);have hF:∀p',((arrOf st).extract sb (sb+k2))[0]?=some p'->∀y∈((arrOf st).extract (sa+k) sb).toList,kl κ p' y:=λ p' e y hy=>by
  obtain⟨l,l1,l2,l3⟩:=ki hy;rw[Ju]at e
  split at e
  ·rw[Nat.add_zero,hp]at e;cases e;exact frP l y l1 l2 l3
  ·cases e
 have hL:∀p',((arrOf st).extract (sa+k) sb)[((arrOf st).extract (sa+k) sb).size - 1]?=some p'->∀y∈((arrOf st).extract sb (sb+k2)).toList,kl κ y p':=λ p' e y hy=>by
  obtain⟨l,l1,l2,l3⟩:=ki hy;rw[Ju]at e
  split at e
  ·rw[sx,show sa+k+(sb - (sa+k) - 1)=sa+k+(na - k) - 1 by lia,hq]at e;cases e;exact toQ l y l1 l2 l3
  ·cases e
 apply ap (λ c3=>?_) (λ c3=>?_)
 ·exact A4 (lu hO P2.kind (kd.ext _ _) (kd.ext _ _) (by rw[sx];lia) (by rw[sy];lia) sA sB hF hL fin)
 ·exact A4 (lw hO P2.kind (kd.ext _ _) (kd.ext _ _) (by rw[sx];lia) (by rw[sy];lia) sA sB hF hL fin)
end
end PyProof.Rows
namespace PyProof.Rows
set_option autoImplicit false
open PySem
structure SQ (κ0:SortKind) (a₀:Kr Kp) (p:Kr (Nat×Nat×Nat)) (lo:Nat) (aL:Kr Kp) (st:SortSt):Prop where
 sp:SP κ0 a₀ st
 pend:pendingOf st=p
 low:∀i,i < lo->(arrOf st)[i]?=aL[i]?
theorem SQ.size {κ0:SortKind} {a₀:Kr Kp} {p:Kr (Nat×Nat×Nat)} {lo:Nat} {aL:Kr Kp} {st:SortSt} (h:SQ κ0 a₀ p lo aL st):(arrOf st).size=a₀.size:=h.sp.size
theorem SQ.setArr {κ0:SortKind} {a₀:Kr Kp} {p:Kr (Nat×Nat×Nat)} {lo:Nat} {aL:Kr Kp} {st:SortSt} (h:SQ κ0 a₀ p lo aL st) {xs:Kr Kp} (hp:xs.Perm (arrOf st)) (hl:∀i,i < lo->xs[i]?=(arrOf st)[i]?):SQ κ0 a₀ p lo aL (setArr st xs) :=
 %[%[hp.trans h.sp.perm,h.sp.kind|h.sp.failed],h.pend|λ i hi=>(hl i hi).trans (h.low i hi)]
def KL (κ:KeyKind) (lo:Nat) (xs:Kr Kp) (i:Nat):κ.α:=KK κ xs (lo+i)
def SrtL (κ:KeyKind) (lo:Nat) (xs:Kr Kp) (k:Nat):Prop:=∀i j,i<=j->j < k->κ.kle (KL κ lo xs i) (KL κ lo xs j)
def rB (κ:KeyKind) (lo:Nat) (xs:Kr Kp) (k:Nat):Prop:=∀i j,i<=j->j < k->κ.kle (KL κ lo xs j) (KL κ lo xs i)
theorem eg {xs:Kr Kp} {i j lo:Nat} (hj:j<=xs.size) (hl:lo<=i):∀k,k < lo->(mirror xs i j ((j - i) / 2))[k]?=xs[k]? := λ k hk=>by rw[getElem?_mirror_all (i:=i) hj k,Ky ⋯]
theorem oh {xs:Kr Kp} {src d lo:Nat} (hs:src < xs.size) (hd:d<=src) (hl:lo<=src - d):∀k,k < lo->(bubble xs src d)[k]?=xs[k]? := λ k hk=>by rw[getElem?_bubble hs d hd k,Ky ⋯,Ky ⋯]
theorem kj {κ:KeyKind} {xs:Kr Kp} {lo src d:Nat} (hs:lo+src < xs.size) (hd:d<=src) (k:Nat) :
  KL κ lo (bubble xs (lo+src) d) k=if k=src - d then KL κ lo xs src else if src - d < k/\k<=src then KL κ lo xs (k - 1)else KL κ lo xs k:=by
 unfold KL;rw[KK_bubble hs ⋯]
 by_cases h1:k=src - d
 ·rw[Kz h1,Kz ⋯]
 ·rw[Ky h1,Ky ⋯]
  by_cases h2:src - d < k/\k<=src
  ·rw[Kz h2,Kz ⋯,show lo+k - 1=lo+(k - 1)by lia]
  ·rw[Ky h2,Ky ⋯]
theorem kn {κ:KeyKind} {xs:Kr Kp} {lo n:Nat} (hj:lo+n<=xs.size) (k:Nat) :
  KL κ lo (mirror xs lo (lo+n) ((lo+n - lo) / 2)) k=if k < n then KL κ lo xs (n - 1 - k)else KL κ lo xs k:=by
 unfold KL;rw[KK_mirror hj]
 by_cases h1:k < n
 ·rw[Kz h1,Kz ⋯,show lo+(lo+n) - 1 - (lo+k)=lo+(n - 1 - k)by lia]
 ·rw[Ky h1,Ky ⋯]
theorem bC {κ:KeyKind} {xs:Kr Kp} {lo i j:Nat} (hj:lo+j<=xs.size) (hi:lo<=i) (heq:∀k,i<=lo+k->k < j->KL κ lo xs k=KL κ lo xs (j - 1)) (k:Nat) :
  KL κ lo (mirror xs i (lo+j) ((lo+j - i) / 2)) k=KL κ lo xs k:=by
 unfold KL;apply KK_mirror_equal hj (λ k h1 h2=>?_) _;have:=heq (k - lo) ⋯ ⋯;unfold KL at this;rwa [show lo+(k - lo)=k by lia,show lo+(j - 1)=lo+j - 1 by lia]at this
def eO (lo:Nat) (a nrem:Nat):StateT SortSt Sem AscSt :=
 forIn [a:nrem] ((none,a):AscSt) λ _ __s=>do
  let __x<-ltAt' (lo+__s.snd) (lo+__s.snd - 1)
  match __x with
  | some smaller=>if smaller=true then pure (ForInStep.done (none,__s.snd))else pure (ForInStep.yield (none,__s.snd+1))
  | _=>pure (ForInStep.done (some none,__s.snd))
def iU (lo:Nat) (n nrem:Nat):StateT SortSt Sem (Kq Nat):=do
 reverseSlice' lo (lo+n)
 let __s<-eO lo n nrem
 match __s.fst with
 | some r=>pure r
 | none=>pure (some __s.snd)
def fi (lo:Nat) (n nrem:Nat):StateT SortSt Sem DescSt :=
 forIn [n:nrem] ((none,n,0):DescSt) λ _ __s=>do
  let __x<-ltAt' (lo+__s.snd.fst) (lo+__s.snd.fst - 1)
  match __x with
  | some smaller=>
   if smaller=true then
    if __s.snd.snd > 0 then do
     reverseSlice' (lo+__s.snd.fst - (__s.snd.snd+1)) (lo+__s.snd.fst)
     pure (ForInStep.yield (none,__s.snd.fst+1,0))
    else pure (ForInStep.yield (none,__s.snd.fst+1,0))
   else do
    let __x<-ltAt' (lo+__s.snd.fst - 1) (lo+__s.snd.fst)
    match __x with
    | some larger=>
     if larger=true then pure (ForInStep.done (none,__s.snd.fst,__s.snd.snd))
     else pure (ForInStep.yield (none,__s.snd.fst+1,__s.snd.snd+1))
    | _=>pure (ForInStep.done (some none,__s.snd.fst,__s.snd.snd))
  | _=>pure (ForInStep.done (some none,__s.snd.fst,__s.snd.snd))
def dN (lo:Nat) (n nrem:Nat):StateT SortSt Sem (Kq Nat):=do
 liftM (rule "list.sort.descending-run")
 let __s<-fi lo (n+1) nrem
 match __s.fst with
 | some r=>pure r
 | none=>
  if __s.snd.snd > 0 then do
   reverseSlice' (lo+__s.snd.fst - (__s.snd.snd+1)) (lo+__s.snd.fst)
   iU lo __s.snd.fst nrem
  else iU lo __s.snd.fst nrem
theorem lA (lo nrem:Nat):countRun' lo nrem=(do
  let __s<-eO lo 1 nrem
  match __s.fst with
  | some r=>pure r
  | none=>
   if (__s.snd == nrem)=true then pure (some __s.snd)
   else if __s.snd > 1 then do
    let __x<-ltAt' lo (lo+__s.snd - 1)
    match __x with
    | some rose=>if rose=true then pure (some __s.snd)else do
      reverseSlice' lo (lo+__s.snd)
      dN lo __s.snd nrem
    | _=>pure none
   else dN lo __s.snd nrem):=by
 rw[countRun'_eq];dsimp only;unfold dN iU fi eO;congr 1
 funext __s
 obtain⟨r,n⟩:=__s;cases r with
 | some r=>rfl
 | none=>
  dsimp only
  split
  ·rfl
  ·split
   ·congr 1
    funext x
    cases x with
    | none=>rfl
    | some rose=>
     dsimp only
     split
     ·rfl
     ·congr 1
      funext _r
      congr 1
      funext _u
      congr 1;congr 1
      funext s2
      obtain⟨r2,n2,q2⟩:=s2;cases r2 with
      | some r2=>rfl
      | none=>
       dsimp only
       split
       ·congr 1
        funext _v
        (congr 1;funext _w;congr 1;(funext s3;obtain⟨r3,n3⟩:=s3;cases r3 <;> rfl))
       ·(congr 1;funext _w;congr 1;(funext s3;obtain⟨r3,n3⟩:=s3;cases r3 <;> rfl))
   ·congr 1
    funext _u
    congr 1;congr 1
    funext s2
    obtain⟨r2,n2,q2⟩:=s2;cases r2 with
    | some r2=>rfl
    | none=>
     dsimp only
     split
     ·congr 1
      funext _v
      (congr 1;funext _w;congr 1;(funext s3;obtain⟨r3,n3⟩:=s3;cases r3 <;> rfl))
     ·(congr 1;funext _w;congr 1;(funext s3;obtain⟨r3,n3⟩:=s3;cases r3 <;> rfl))
section
variable {prog:IP} {w:IR} {A:Around} {E:IS->IN->Prop} {s:IN} {a₀:Kr Kp} {κ:KeyKind} {κ0:SortKind}
theorem fY {st:SortSt} {p:Kr (Nat×Nat×Nat)} {lo:Nat} {aL:Kr Kp} {i j i' j':Nat} {Q:Kq Bool->SortSt->Prop} (hO:bz prog w A s κ0 κ) (hB:SQ κ0 a₀ p lo aL st) (h0:KeysOf κ a₀) (ei:i'=lo+i) (ej:j'=lo+j) (hi:lo+i < a₀.size) (hj:lo+j < a₀.size)
  (h:Q (some (κ.blt (KL κ lo (arrOf st) i) (KL κ lo (arrOf st) j))) st):wpS (model prog w) A E s (ltAt' i' j') Q st:=by
 subst ei ej;have kd:=hB.sp.kd h0;have hz:=hB.size;obtain⟨x,ex⟩:∃x,(arrOf st)[lo+i]?=some x:=%[_|JN ⋯]
 obtain⟨y,ey⟩:∃y,(arrOf st)[lo+j]?=some y:=%[_|JN ⋯]
 obtain⟨a,ha⟩:=kd _ _ ex;obtain⟨b,hb⟩:=kd _ _ ey;have e1:KL κ lo (arrOf st) i=a:=by unfold KL KK;rw[ex];dsimp only;rw[ha];rfl
 have e2:KL κ lo (arrOf st) j=b:=by unfold KL KK;rw[ey];dsimp only;rw[hb];rfl
 rw[e1,e2]at h;exact nQ hO hB.sp.kind (x:=x.1) (p:=x.2) (y:=y.1) (q:=y.2) ex ey ha hb h
theorem gU {st:SortSt} {p:Kr (Nat×Nat×Nat)} {lo:Nat} {aL:Kr Kp} {n ok:Nat} {Q:Bool->SortSt->Prop} (hO:bz prog w A s κ0 κ) (h0:KeysOf κ a₀) (hn:lo+n<=a₀.size) (hok:ok<=n) (hB:SQ κ0 a₀ p lo aL st) (hs:SrtL κ lo (arrOf st) ok)
  (h:∀st',SQ κ0 a₀ p lo aL st'->SrtL κ lo (arrOf st') n->Q true st'):wpS (model prog w) A E s (binarySort' lo n ok) Q st:=by
 rw[binarySort'_eq];apply A4 (Ll (LC (I:=λ k c st'=>c=(none,())/\SQ κ0 a₀ p lo aL st'/\SrtL κ lo (arrOf st') (min k n))
  (Q:=λ c st'=>c=(none,())/\SQ κ0 a₀ p lo aL st'/\SrtL κ lo (arrOf st') n) ?step ?fin ?init) ?post)
 case post=>
  rintro c st' ⟨rfl,hB',hs'⟩;exact A5 (h st' hB' hs')
 case init=>
  apply%[Y,hB|λ i j hij hj=>?_]
  by_cases h1:ok=0
  ·have:i=j:=⋯
   subst this;exact LN _
  ·exact hs i j hij ⋯
 case fin=>
  rintro c st' ⟨hc,hB',hs'⟩;apply%[hc,hB'|?_];rwa [show min (max (max ok 1) n) n=n by lia]at hs'
 case step=>
  rintro k c st' hak hkn ⟨rfl,hB',hs'⟩;rw[show min k n=k by lia]at hs';have hk:lo+k < a₀.size:=⋯
  apply A4 (Ll (LC (I:=λ x c st''=>st''=st'/\∃l r,c=(none,l,r)/\l<=r/\r<=k/\r - l<=k - x /\
    (∀i,i < l->κ.kle (KL κ lo (arrOf st') i) (KL κ lo (arrOf st') k))/\(∀i,r<=i->i < k->κ.klt (KL κ lo (arrOf st') k) (KL κ lo (arrOf st') i)))
   (Q:=λ c st''=>st''=st'/\∃l r,c=(none,l,r)/\l<=k /\
    (∀i,i < l->κ.kle (KL κ lo (arrOf st') i) (KL κ lo (arrOf st') k))/\(∀i,l<=i->i < k->κ.klt (KL κ lo (arrOf st') k) (KL κ lo (arrOf st') i))) ?istep ?ifin ?iinit) ?ipost)
  case iinit=>exact%[Y,0,k,Y,⋯,⋯,⋯,λ i hi=>⋯|λ i h1 h2=>⋯]
  case ifin=>
   rintro c st'' ⟨rfl,l,r,rfl,hlr,hrk,hm,hlo,hhi⟩;have:l=r:=⋯
   subst this;exact%[Y,l,l,Y,hrk,hlo|hhi]
  case istep=>
   rintro x c st'' _ hxk ⟨rfl,l,r,rfl,hlr,hrk,hm,hlo,hhi⟩;dsimp only
   by_cases hge:l≥r
   ·rw[Kz hge];have:l=r:=⋯
    subst this;exact A5 %[rfl,l,l,rfl,hrk,hlo|hhi]
   ·rw[Ky hge];apply A4 (fY (i:=k) (j:=(l+r) / 2) hO hB' h0 rfl rfl hk ⋯ ?_);cases hless:κ.blt (KL κ lo (arrOf st'') k) (KL κ lo (arrOf st'') ((l+r) / 2))
    case true=>
     simp only[Lm];apply A5 %[rfl,l,(l+r) / 2,rfl,⋯,⋯,⋯,hlo|λ i h1 h2=>?_];exact KeyOrd.klt_of_klt_of_kle hless (hs' _ _ h1 h2)
    case false=>
     simp only[Jg,LU];apply A5 %[rfl,(l+r) / 2+1,r,rfl,⋯,⋯,⋯,λ i h1=>?_|hhi];exact KeyOrd.kle_trans (hs' i ((l+r) / 2) ⋯ ⋯) (show κ.kle _ _ from hless)
  case ipost=>
   rintro c st'' ⟨rfl,l,r,rfl,hlk,hlo,hhi⟩;show wpS _ _ _ _ (do moveDown' (lo+k) (lo+l);pure (ForInStep.yield (none,()))) _ _;rw[moveDown'_eq];apply A4 (Lr (A5 %[rfl,hB'.setArr (bubble_perm _ _ _) (oh (by rw[hB'.size];lia) ⋯ ⋯)|?_]));rw[show min (k+1) n=k+1 by lia];have hks:lo+k < (arrOf st'').size:=by rw[hB'.size];exact hk
   intro i j hij hj;show κ.kle (KL κ lo (bubble (arrOf st'') (lo+k) (lo+k - (lo+l))) i) (KL κ lo (bubble (arrOf st'') (lo+k) (lo+k - (lo+l))) j);rw[show lo+k - (lo+l)=k - l by lia,kj hks ⋯,kj hks ⋯,show k - (k - l)=l by lia]
   repeat' split
   all_goals first
    | (exfalso;lia)
    | exact LN _
    | exact hlo _ ⋯
    | exact LX (hhi _ ⋯ ⋯)
    | exact hs' _ _ ⋯ ⋯
theorem fZ {st:SortSt} {p:Kr (Nat×Nat×Nat)} {lo:Nat} {aL:Kr Kp} {a nrem:Nat} {Q:AscSt->SortSt->Prop} (hO:bz prog w A s κ0 κ) (h0:KeysOf κ a₀) (hn:lo+nrem<=a₀.size) (ha:1<=a) (han:a<=nrem) (hB:SQ κ0 a₀ p lo aL st)
  (hs:SrtL κ lo (arrOf st) a)
  (h:∀n,a<=n->n<=nrem->SrtL κ lo (arrOf st) n->(n=nrem\/κ.klt (KL κ lo (arrOf st) n) (KL κ lo (arrOf st) (n - 1)))->Q (none,n) st) :
  wpS (model prog w) A E s (eO lo a nrem) Q st:=by
 unfold eO;apply LC (I:=λ x c st'=>st'=st/\c=(none,x)/\SrtL κ lo (arrOf st) x) ?step ?fin %[rfl,rfl|hs]
 case fin=>
  rintro c st' ⟨rfl,rfl,hs'⟩;rw[show max a nrem=nrem by lia]at hs' ⊢;exact h nrem han (B4 _) hs' (.inl rfl)
 case step=>
  rintro x c st' hax hxn ⟨rfl,rfl,hs'⟩;dsimp only;apply A4 (fY (i:=x) (j:=x - 1) hO hB h0 rfl ⋯ ⋯ ⋯ ?_);cases hless:κ.blt (KL κ lo (arrOf st') x) (KL κ lo (arrOf st') (x - 1))
  case true=>
   simp only[Lm];exact A5 (h x hax ⋯ hs' (.inr hless))
  case false=>
   simp only[Jg,LU];apply A5 %[rfl,rfl|λ i j hij hj=>?_]
   by_cases hjx:j < x
   ·exact hs' i j hij hjx
   ·have hj':j=x:=⋯
    subst hj'
    by_cases hi':i=j
    ·subst hi';exact LN _
    ·exact KeyOrd.kle_trans (hs' i (j - 1) ⋯ ⋯) hless
theorem iV {st:SortSt} {p:Kr (Nat×Nat×Nat)} {lo:Nat} {aL:Kr Kp} {n nrem:Nat} {Q:Kq Nat->SortSt->Prop} (hO:bz prog w A s κ0 κ) (h0:KeysOf κ a₀) (hn:lo+nrem<=a₀.size) (h1:1<=n) (hnn:n<=nrem) (hB:SQ κ0 a₀ p lo aL st)
  (hs:rB κ lo (arrOf st) n) (h:∀m st',SQ κ0 a₀ p lo aL st'->1<=m->m<=nrem->SrtL κ lo (arrOf st') m->Q (some m) st') :
  wpS (model prog w) A E s (iU lo n nrem) Q st:=by
 unfold iU;have hsz:lo+n<=(arrOf st).size:=by rw[hB.size];lia
 apply A4 (wpS_reverse ?_);have hB':SQ κ0 a₀ p lo aL (setArr st (mirror (arrOf st) lo (lo+n) ((lo+n - lo) / 2))):=hB.setArr (mirror_perm _ _ _ _) (eg hsz ⋯);apply A4 (fZ hO h0 hn h1 hnn hB' ?_ λ m hm1 hm2 hsm _=>A5 (h m _ hB' ⋯ hm2 hsm));intro i j hij hj;show κ.kle (KL κ lo (mirror (arrOf st) lo (lo+n) ((lo+n - lo) / 2)) i) (KL κ lo (mirror (arrOf st) lo (lo+n) ((lo+n - lo) / 2)) j);rw[kn hsz,kn hsz,Kz ⋯,Kz ⋯];exact hs _ _ ⋯ ⋯
theorem jz {st:SortSt} {p:Kr (Nat×Nat×Nat)} {lo:Nat} {aL:Kr Kp} {n nrem:Nat} {Q:DescSt->SortSt->Prop} (hO:bz prog w A s κ0 κ) (h0:KeysOf κ a₀) (hn:lo+nrem<=a₀.size) (h1:1<=n) (hnn:n<=nrem) (hB:SQ κ0 a₀ p lo aL st)
  (hs:rB κ lo (arrOf st) n)
  (h:∀m neq st',SQ κ0 a₀ p lo aL st'->n<=m->m<=nrem->rB κ lo (arrOf st') m->neq+1<=m->(∀i,m - (neq+1)<=i->i < m->KL κ lo (arrOf st') i=KL κ lo (arrOf st') (m - 1))->Q (none,m,neq) st') :
  wpS (model prog w) A E s (fi lo n nrem) Q st:=by
 unfold fi;apply LC (I:=λ x c st'=>∃neq,c=(none,x,neq)/\SQ κ0 a₀ p lo aL st'/\rB κ lo (arrOf st') x/\neq+1<=x /\
   (∀i,x - (neq+1)<=i->i < x->KL κ lo (arrOf st') i=KL κ lo (arrOf st') (x - 1))) ?step ?fin %[0,rfl,hB,hs,⋯|λ i h1 h2=>by congr 1;lia]
 case fin=>
  rintro c st' ⟨neq,rfl,hB',hs',hq,he⟩;rw[show max n nrem=nrem by lia]at hs' hq he ⊢;exact h nrem neq st' hB' hnn (B4 _) hs' hq he
 case step=>
  rintro x c st' hax hxn ⟨neq,rfl,hB',hs',hq,he⟩;dsimp only;have hsz:lo+x<=(arrOf st').size:=by rw[hB'.size];lia
  apply A4 (fY (i:=x) (j:=x - 1) hO hB' h0 rfl ⋯ ⋯ ⋯ ?_);cases hless:κ.blt (KL κ lo (arrOf st') x) (KL κ lo (arrOf st') (x - 1))
  case true=>
   simp only[Lm];have step1:∀xs:Kr Kp,(∀k,KL κ lo xs k=KL κ lo (arrOf st') k)->rB κ lo xs (x+1):=by
    intro xs hk i j hij hj;rw[hk,hk]
    by_cases hjx:j < x
    ·exact hs' i j hij hjx
    ·have hj':j=x:=⋯
     subst hj'
     by_cases hi':i=j
     ·subst hi';exact LN _
     ·exact KeyOrd.kle_trans (LX hless) (hs' i (j - 1) ⋯ ⋯)
   by_cases hneq:neq > 0
   ·rw[Kz hneq];apply A4 (wpS_reverse (A5 %[0,rfl,hB'.setArr (mirror_perm _ _ _ _) (eg hsz ⋯),step1 _ (bC hsz ⋯ (λ k h1 h2=>he k ⋯ h2)),⋯|λ i h1 h2=>by congr 1;lia]))
   ·rw[Ky hneq];exact A5 %[0,rfl,hB',step1 _ (λ _=>rfl),⋯|λ i h1 h2=>by congr 1;lia]
  case false=>
   simp only[Jg,LU];apply A4 (fY (i:=x - 1) (j:=x) hO hB' h0 ⋯ rfl ⋯ ⋯ ?_);cases hlarger:κ.blt (KL κ lo (arrOf st') (x - 1)) (KL κ lo (arrOf st') x)
   case true=>
    simp only[Lm];exact A5 (h x neq st' hB' hax ⋯ hs' hq he)
   case false=>
    simp only[Jg,LU];have heqx:KL κ lo (arrOf st') x=KL κ lo (arrOf st') (x - 1):=KeyOrd.kle_antisymm hlarger hless;apply A5 %[neq+1,rfl,hB',λ i j hij hj=>?_,⋯|λ i h1 h2=>?_]
    ·by_cases hjx:j < x
     ·exact hs' i j hij hjx
     ·have hj':j=x:=⋯
      subst hj'
      by_cases hi':i=j
      ·subst hi';exact LN _
      ·rw[heqx];exact hs' i (j - 1) ⋯ ⋯
    ·rw[show x+1 - 1=x by lia]
     by_cases hix:i=x
     ·subst hix;rfl
     ·rw[heqx];exact he i ⋯ ⋯
theorem fw {st:SortSt} {p:Kr (Nat×Nat×Nat)} {lo:Nat} {aL:Kr Kp} {n nrem:Nat} {Q:Kq Nat->SortSt->Prop} (hO:bz prog w A s κ0 κ) (h0:KeysOf κ a₀) (hn:lo+nrem<=a₀.size) (hnn:n+1<=nrem) (hB:SQ κ0 a₀ p lo aL st)
  (hs:rB κ lo (arrOf st) (n+1)) (h:∀m st',SQ κ0 a₀ p lo aL st'->1<=m->m<=nrem->SrtL κ lo (arrOf st') m->Q (some m) st') :
  wpS (model prog w) A E s (dN lo n nrem) Q st:=by
 unfold dN;apply A4 (wpS_lift (LS %[rfl|?_]));apply A4 (jz hO h0 hn ⋯ hnn hB hs λ m neq st' hB' hm1 hm2 hs' hq he=>?_);dsimp only;have hsz:lo+m<=(arrOf st').size:=by rw[hB'.size];lia
 by_cases hneq:neq > 0
 ·rw[Kz hneq];apply A4 (wpS_reverse (iV hO h0 hn ⋯ hm2 (hB'.setArr (mirror_perm _ _ _ _) (eg hsz ⋯)) ?_ h));intro i j hij hj;show κ.kle (KL κ lo (mirror (arrOf st') _ _ _) j) (KL κ lo (mirror (arrOf st') _ _ _) i);rw[bC hsz ⋯ (λ k h1 h2=>he k ⋯ h2),bC hsz ⋯ (λ k h1 h2=>he k ⋯ h2)];exact hs' i j hij hj
 ·rw[Ky hneq];exact iV hO h0 hn ⋯ hm2 hB' hs' h
theorem jA {st:SortSt} {p:Kr (Nat×Nat×Nat)} {lo:Nat} {aL:Kr Kp} {nrem:Nat} {Q:Kq Nat->SortSt->Prop} (hO:bz prog w A s κ0 κ) (h0:KeysOf κ a₀) (hn:lo+nrem<=a₀.size) (h1:1<=nrem) (hB:SQ κ0 a₀ p lo aL st)
  (h:∀m st',SQ κ0 a₀ p lo aL st'->1<=m->m<=nrem->SrtL κ lo (arrOf st') m->Q (some m) st') :
  wpS (model prog w) A E s (countRun' lo nrem) Q st:=by
 rw[lA];apply A4 (fZ hO h0 hn (B4 1) h1 hB (λ i j hij hj=>by have:i=j:=⋯;subst this;exact LN _) λ n hn1 hn2 hsn hor=>?_);dsimp only
 by_cases hnn:n=nrem
 ·rw[Kz (by simpa using hnn)];exact A5 (h n st hB hn1 hn2 hsn)
 ·rw[Ky (by simpa using hnn)];have hlt:κ.klt (KL κ lo (arrOf st) n) (KL κ lo (arrOf st) (n - 1)):=hor.resolve_left hnn
  by_cases hgt:n > 1
  ·rw[Kz hgt];apply A4 (fY (i:=0) (j:=n - 1) hO hB h0 rfl ⋯ ⋯ ⋯ ?_);cases hrose:κ.blt (KL κ lo (arrOf st) 0) (KL κ lo (arrOf st) (n - 1))
   case true=>
    simp only[Lm];exact A5 (h n st hB hn1 hn2 hsn)
   case false=>
    simp only[Jg,LU];have hsz:lo+n<=(arrOf st).size:=by rw[hB.size];lia
    have hall:∀k,0<=k->k < n->KL κ lo (arrOf st) k=KL κ lo (arrOf st) (n - 1):=by intro k _ hk;have a1:=hsn 0 k ⋯ hk;have a2:=hsn k (n - 1) ⋯ ⋯;exact KeyOrd.kle_antisymm a2 (KeyOrd.kle_trans hrose a1)
    apply A4 (wpS_reverse (fw hO h0 hn ⋯ (hB.setArr (mirror_perm _ _ _ _) (eg hsz ⋯)) ?_ h));intro i j hij hj;show κ.kle (KL κ lo (mirror (arrOf st) _ _ _) j) (KL κ lo (mirror (arrOf st) _ _ _) i);rw[bC hsz ⋯ (λ k h1 h2=>hall k ⋯ h2),bC hsz ⋯ (λ k h1 h2=>hall k ⋯ h2)]
    by_cases hjn:j < n
    ·rw[hall i ⋯ ⋯,hall j ⋯ hjn];exact LN _
    ·have hj':j=n:=⋯
     subst hj'
     by_cases hi':i=j
     ·subst hi';exact LN _
     ·rw[hall i ⋯ ⋯];exact LX hlt
  ·rw[Ky hgt];have hn1':n=1:=⋯
   subst hn1';apply fw hO h0 hn ⋯ hB ?_ h;intro i j hij hj
   by_cases hi':i=j
   ·subst hi';exact LN _
   ·have hi0:i=0:=⋯
    have hj1:j=1:=⋯
    subst hi0;subst hj1;exact LX hlt
end
end PyProof.Rows
namespace PyProof.Rows
set_option autoImplicit false
open PySem
theorem Tile.inn:∀ {l:Ks (Nat×Nat×Nat)} {lo hi:Nat} {z:Nat×Nat×Nat},Tile l lo hi->z∈l->z.1+z.2.1<=hi
 | x :: l,lo,hi,z,T,h=>by
  obtain⟨T1,T2,T3⟩:=T;rcases IZ.mp h with rfl | h
  ·have:=T3.le;lia
  ·exact Tile.inn T3 h
theorem Tile.len:∀ {l:Ks (Nat×Nat×Nat)} {lo hi:Nat},Tile l lo hi->lo+l.length<=hi
 | [],lo,hi,T=>by have:lo=hi:=T;simp;lia
 | x :: l,lo,hi,T=>by obtain⟨T1,T2,T3⟩:=T;have:=Tile.len T3;rw[JF];lia
section
variable {prog:IP} {w:IR} {A:Around} {E:IS->IN->Prop} {s:IN} {κ:KeyKind} {κ0:SortKind} {a₀:Kr Kp}
theorem qc {xs:Kr Kp} {i:Nat} {p:Kp} (e:xs[i]?=some p):KK κ xs i=ky κ p:=by unfold KK ky;rw[e]
theorem SrtL.run {lo n q:Nat} {xs:Kr Kp} (h:SrtL κ lo xs n):RunS κ xs (lo,n,q):=λ i j x y a1 a2 a3 ex ey=>by dsimp only at a1 a3;have:=h (i - lo) (j - lo) ⋯ ⋯;unfold KL at this;rw[show lo+(i - lo)=i by lia,show lo+(j - lo)=j by lia,qc ex,qc ey]at this;exact this
theorem RS.low {st st':SortSt} {lo:Nat} (h:RS κ st) (T:Tile (pendingOf st).toList 0 lo) (e:pendingOf st'=pendingOf st) (l:∀i,i < lo->(arrOf st')[i]?=(arrOf st)[i]?):RS κ st':=λ z hz i j x y a1 a2 a3 ex ey=>by rw[e]at hz;have:=T.inn hz;rw[l i ⋯]at ex;rw[l j ⋯]at ey;exact h z hz i j x y a1 a2 a3 ex ey
theorem RS.push {st:SortSt} {p:Kr (Nat×Nat×Nat)} {x:Nat×Nat×Nat} (h:∀z∈p.toList,RunS κ (arrOf st) z) (hx:RunS κ (arrOf st) x):∀z∈(p.push x).toList,RunS κ (arrOf st) z:=λ z hz=>by
 rw[Jd]at hz;rcases C4.mp hz with hz | hz
 ·exact h z hz
 ·rw[E4.mp hz];exact hx
theorem RS.upd {xs:Kr Kp} {f:Nat×Nat×Nat->Nat×Nat×Nat} (hf:∀x,(f x).1=x.1/\(f x).2.1=x.2.1) {p:Kr (Nat×Nat×Nat)} {k:Nat} (h:∀z∈p.toList,RunS κ xs z):∀z∈(p.modify k f).toList,RunS κ xs z:=λ z hz=>by
 rw[Array.toList_modify]at hz;obtain⟨j,hj⟩:=Jl hz;rw[List.getElem?_modify]at hj;cases e:p.toList[j]? with
 | none=>rw[e]at hj;cases hj
 | some y=>
  rw[e]at hj;have my:=h y (B7 e);simp only[Option.map_eq_map,KO,Option.some.injEq]at hj
  split at hj
  ·subst hj;intro i j x w a1 a2 a3 ex ew;exact my i j x w (by rw[<- (hf y).1];exact a1) a2 (by rw[<- (hf y).1,<- (hf y).2];exact a3) ex ew
  ·subst hj;exact my
theorem jB (hO:bz prog w A s κ0 κ) (h0:KeysOf κ a₀) {st:SortSt} {Q:Unit->SortSt->Prop} (hP:SPp κ0 a₀ #[] st)
  (h:∀st',SP κ0 a₀ st'->SortedToK κ (arrOf st') a₀.size->Q () st'):wpS (model prog w) A E s sortRuns' Q st:=by
 apply A4 (wpS_get ?_);have hz:(arrOf st).size=a₀.size:=hP.1.size;apply A4 (Ll (LC (I:=λ x c st'=>c.1=none/\SP κ0 a₀ st'/\Tile (pendingOf st').toList 0 c.2/\c.2<=a₀.size/\RS κ st'/\x<=c.2) (Q:=λ c st'=>c.1=none/\SP κ0 a₀ st'/\Tile (pendingOf st').toList 0 c.2/\c.2=a₀.size/\RS κ st') ?step (λ c _ z=>%[z.1,z.2.1,z.2.2.1,by have a:=z.2.2.2.1;have b:=z.2.2.2.2.2;have c2:(arrOf st).size<=c.2:=C7 (Nat.le_max_right 0 _) b;lia|z.2.2.2.2.1]) ⟨rfl,hP.1,by rw[hP.2];rfl,G0 _,(λ z hz=>by rw[hP.2]at hz;cases hz),B4 _⟩) ?post)
 case post=>
  rintro⟨r,lo⟩ st1 ⟨g1,P1,T1,l1,R1⟩;dsimp only at g1 T1 l1 ⊢;subst g1;have T1':=T1.len;rw[JR]at T1';apply A4 (Ll (LC (I:=λ x c st'=>c.1=none/\SP κ0 a₀ st'/\Tile (pendingOf st').toList 0 lo/\RS κ st'/\(pendingOf st').size+x<=a₀.size) (Q:=λ c st'=>c.1=none/\SP κ0 a₀ st'/\Tile (pendingOf st').toList 0 lo/\RS κ st'/\(pendingOf st').size<=1) ?_ (λ _ st' z=>%[z.1,z.2.1,z.2.2.1,z.2.2.2.1|by have b:(pendingOf st').size+(arrOf st).size<=a₀.size:=C7 (Jh (Nat.le_max_right 0 _) _) z.2.2.2.2;lia]) %[rfl,P1,T1,R1|⋯]) ?_)
  ·rintro i ⟨r,u⟩ st2 _ _ ⟨g1,P2,T2,R2,z2⟩;apply A4 (wpS_get ?_);apply ap (λ c1=>A5 %[rfl,P2,T2,R2|c1]) (λ c1=>?_);have c2:1 < (pendingOf st2).size:=Nat.lt_of_not_le c1;apply A4 (ee hO h0 P2 ?_ T2 ⋯ R2 λ st3 P3 T3 R3 z3 _=>?_)
   ·have ie:∀ (c:Prop) [Decidable c] (x y z:Nat),x < z->y < z->(if c then x else y) < z:=λ c _ x y z h1 h2=>by split <;> assumption
    exact C3 (Nat.add_lt_add_right (ie _ _ _ _ (show(pendingOf st2).size - 2 - 1 < (pendingOf st2).size - 1 by lia) (show(pendingOf st2).size - 2 < (pendingOf st2).size - 1 by lia)) 1) ⋯
   ·exact ap (λ c3=>absurd c3 ∅) (λ c3=>A5 %[rfl,P3,T3,R3|⋯])
  ·rintro⟨r,u⟩ st2 ⟨g1,P2,T2,R2,z2⟩;dsimp only at g1 ⊢;subst g1;apply A5 (h _ P2 ?_);have sz:=P2.size;intro i j ij hj;obtain⟨x,ex⟩:∃x,(arrOf st2)[i]?=some x:=%[_|JN ⋯]
   obtain⟨y,ey⟩:∃y,(arrOf st2)[j]?=some y:=%[_|JN ⋯]
   rw[qc ex,qc ey];cases e:(pendingOf st2).toList with
   | nil=>
    rw[e]at T2;have:0=lo:=T2;lia
   | cons z l=>
    have hl:l=[]:=by rw[<- JR,e,JF]at z2;exact List.eq_nil_of_length_eq_zero ⋯
    subst hl;rw[e]at T2;obtain⟨t1,t2,t3⟩:=T2;have t3':z.1+z.2.1=lo\/0+z.2.1=lo:=by first | exact .inl t3 | exact .inr t3
    exact R2 z (by rw[e];exact B9) i j x y ⋯ ij ⋯ ex ey
 case step=>
  rintro i ⟨r,lo⟩ st1 _ _ ⟨g1,P1,T1,l1,R1,x1⟩;dsimp only at g1 T1 l1 x1 ⊢;apply ap (λ c1=>?_) (λ c1=>?_)
  ·have c1':(arrOf st).size<=lo:=c1;exact A5 %[rfl,P1,T1,by dsimp only;lia|R1]
  have c2:lo < a₀.size:=by have:¬ (arrOf st).size<=lo:=c1;lia
  apply A4 (jA hO h0 (lo:=lo) (nrem:=(arrOf st).size - lo) (p:=pendingOf st1) (aL:=arrOf st1) ⋯ ⋯ %[P1,rfl|λ _ _=>rfl] λ n st2 P2 n1 n2 S2=>?_);have hz':=hz;unfold arrOf at hz' n2;rw[hz']at n2;simp only[hz'];apply ap (λ c3=>?_) (λ c3=>?_)
  ·apply A4 (wpS_lift (LS %[rfl|?_]));obtain⟨mn,hmn⟩:∃mn,min (a₀.size - lo) (minRun' a₀.size a₀.size 0)=mn:=%[_|Y]
   have h1mn:1<=mn/\lo+mn<=a₀.size/\n<=mn:=by have:n < minRun' a₀.size a₀.size 0:=c3;lia
   unfold minRun' at hmn;simp only[hmn];apply A4 (gU hO h0 (lo:=lo) (n:=mn) (ok:=n) (p:=pendingOf st1) (aL:=arrOf st1) ⋯ ⋯ P2 S2 λ st3 P3 S3=>?_);apply ap (λ c4=>absurd c4 ∅) (λ c4=>?_);have nx:1<=mn/\lo+mn<=a₀.size:=⋯
   have TX:Tile (pendingOf st3).toList 0 lo:=by rw[P3.pend];exact T1
   have RX:RS κ st3:=R1.low T1 P3.pend P3.low;apply A4 (wpS_get ?_)
   split
   ·apply A4 (Ll (LC (I:=λ _ c st'=>c.1=none/\SP κ0 a₀ st'/\Tile (pendingOf st').toList 0 lo/\RS κ st'/\∀i,lo<=i->(arrOf st')[i]?=(arrOf st3)[i]?) (Q:=λ c st'=>c.1=none/\SP κ0 a₀ st'/\Tile (pendingOf st').toList 0 lo/\RS κ st'/\∀i,lo<=i->(arrOf st')[i]?=(arrOf st3)[i]?) ?_ (λ _ _ z=>z) %[rfl,P3.sp,TX,RX|λ _ _=>rfl]) ?_)
    ·rintro i ⟨r,u⟩ st4 _ _ ⟨_,P4,T4,R4,u4⟩;apply A4 (wpS_get ?_)
     split
     ·rename_i he
      apply ap (λ c5=>A5 %[rfl,P4,T4,R4|u4]) (λ c5=>?_);apply A4 (ee hO h0 P4 ?_ T4 l1 R4 λ st5 P5 T5 R5 _ u5=>?_)
      ·have z:1 < (pendingOf st4).size:=by
        split at he
        ·assumption
        ·cases he
       show(pendingOf st4).size - 2+1 < (pendingOf st4).size;lia
      ·exact ap (λ c=>absurd c ∅) (λ _=>A5 %[rfl,P5,T5,R5|λ i hi=>(u5 i hi).trans (u4 i hi)])
     ·exact A5 %[rfl,P4,T4,R4|u4]
    ·rintro⟨r,u⟩ st4 ⟨g1,P4,T4,R4,u4⟩;dsimp only at g1 ⊢;subst g1;have X4:RunS κ (arrOf st4) (lo,mn,0):=λ i j x y a1 a2 a3 ex ey=>by rw[u4 i a1]at ex;rw[u4 j (C7 a1 a2)]at ey;exact S3.run i j x y a1 a2 a3 ex ey
     apply A4 (Lr ?_);apply A4 (Lr (A5 %[rfl,%[P4.perm,P4.kind|P4.failed],?_,?_,?_|?_]))
     ·show Tile (((pendingOf st4).modify _ _).push _).toList 0 _;rw[Jd];apply Tile.push ?_ nx.1;rw[Array.toList_modify];apply Tile.upd ?_ _ T4;exactλ _=>%[Y|Y]
     ·exact nx.2
     ·show∀z∈(((pendingOf st4).modify _ _).push _).toList,RunS κ (arrOf st4) z;apply RS.push (RS.upd ?_ R4) X4;exactλ _=>%[Y|Y]
     ·have:=nx.1;show i+1<=lo+mn;lia
   ·apply A4 (Lr (A5 %[rfl,%[P3.sp.perm,P3.sp.kind|P3.sp.failed],?_,?_,?_|?_]))
    ·show Tile (Array.push _ _).toList 0 _;rw[Jd];exact Tile.push TX nx.1
    ·exact nx.2
    ·show∀z∈((pendingOf st3).push _).toList,RunS κ (arrOf st3) z;exact RS.push RX S3.run
    ·have:=nx.1;show i+1<=lo+mn;lia
  ·have nx:1<=n/\lo+n<=a₀.size:=⋯
   have TX:Tile (pendingOf st2).toList 0 lo:=by rw[P2.pend];exact T1
   have RX:RS κ st2:=R1.low T1 P2.pend P2.low;apply A4 (wpS_get ?_)
   split
   ·apply A4 (Ll (LC (I:=λ _ c st'=>c.1=none/\SP κ0 a₀ st'/\Tile (pendingOf st').toList 0 lo/\RS κ st'/\∀i,lo<=i->(arrOf st')[i]?=(arrOf st2)[i]?) (Q:=λ c st'=>c.1=none/\SP κ0 a₀ st'/\Tile (pendingOf st').toList 0 lo/\RS κ st'/\∀i,lo<=i->(arrOf st')[i]?=(arrOf st2)[i]?) ?_ (λ _ _ z=>z) %[rfl,P2.sp,TX,RX|λ _ _=>rfl]) ?_)
    ·rintro i ⟨r,u⟩ st4 _ _ ⟨_,P4,T4,R4,u4⟩;apply A4 (wpS_get ?_)
     split
     ·rename_i he
      apply ap (λ c5=>A5 %[rfl,P4,T4,R4|u4]) (λ c5=>?_);apply A4 (ee hO h0 P4 ?_ T4 l1 R4 λ st5 P5 T5 R5 _ u5=>?_)
      ·have z:1 < (pendingOf st4).size:=by
        split at he
        ·assumption
        ·cases he
       show(pendingOf st4).size - 2+1 < (pendingOf st4).size;lia
      ·exact ap (λ c=>absurd c ∅) (λ _=>A5 %[rfl,P5,T5,R5|λ i hi=>(u5 i hi).trans (u4 i hi)])
     ·exact A5 %[rfl,P4,T4,R4|u4]
    ·rintro⟨r,u⟩ st4 ⟨g1,P4,T4,R4,u4⟩;dsimp only at g1 ⊢;subst g1;have X4:RunS κ (arrOf st4) (lo,n,0):=λ i j x y a1 a2 a3 ex ey=>by rw[u4 i a1]at ex;rw[u4 j (C7 a1 a2)]at ey;exact S2.run i j x y a1 a2 a3 ex ey
     apply A4 (Lr ?_);apply A4 (Lr (A5 %[rfl,%[P4.perm,P4.kind|P4.failed],?_,?_,?_|?_]))
     ·show Tile (((pendingOf st4).modify _ _).push _).toList 0 _;rw[Jd];apply Tile.push ?_ nx.1;rw[Array.toList_modify];apply Tile.upd ?_ _ T4;exactλ _=>%[Y|Y]
     ·exact nx.2
     ·show∀z∈(((pendingOf st4).modify _ _).push _).toList,RunS κ (arrOf st4) z;apply RS.push (RS.upd ?_ R4) X4;exactλ _=>%[Y|Y]
     ·have:=nx.1;show i+1<=lo+n;lia
   ·apply A4 (Lr (A5 %[rfl,%[P2.sp.perm,P2.sp.kind|P2.sp.failed],?_,?_,?_|?_]))
    ·show Tile (Array.push _ _).toList 0 _;rw[Jd];exact Tile.push TX nx.1
    ·exact nx.2
    ·show∀z∈((pendingOf st2).push _).toList,RunS κ (arrOf st2) z;exact RS.push RX S2.run
    ·have:=nx.1;show i+1<=lo+n;lia
end
section
variable {prog:IP} {w:IR} {A:Around} {E:IS->IN->Prop} {s:IN}
theorem cL {κ:KeyKind} {κ0:SortKind} {a:Ko} {vs:Ks IS} {n:Nat} {P:Fin->IN->Prop} (ho:s.heap.get? a=some (seqObj "list" vs.toArray n))
  (h0:KeysOf κ (pairsOf vs)) (hkk:∀s':IN,(∀b o,b≠a->s.heap.get? b=some o->s'.heap.get? b=some o)->bz prog w A s' κ0 κ/\∀v₁ v₂ rest,vs=v₁ :: v₂ :: rest->∀ (Q:SortKind->IN->Prop),Q κ0 s'->wpAny (model prog w) A (keyKind' (v₁ :: v₂ :: rest).toArray) Q E s') (h64:vs.length < 4096)
  (h:∀st':SortSt,(arrOf st').Perm (pairsOf vs)->SortedToK κ (arrOf st') (pairsOf vs).size->P (.done (.ret .none)) { s with heap:=sortedHeap s.heap a vs ((arrOf st').map (·.2)) }) :
  wpAny (model prog w) A (Builtin.«list.sort» %[[.ref a]|[]]) P E s:=by
 rw[list_sort_plain];have ha:a < s.heap.objs.size:=B0 ho;apply A0 (listItems_at ho rfl ?_);apply A0 (listUpdate_at ho rfl ?_);obtain⟨e1,ho1⟩:∃e1,(s.heap.update a (Obj.mapSeq λ _=>#[])).get? a=some (seqObj "list" #[] e1):=%[_|get?_update_seq ho (λ _=>#[])]
 apply A0 (seqEpoch_at ho1 rfl ?_);apply A0 (wpAny_newTuple ?_);apply A0 (wpAny_newList ?_);apply K2 ?_;have ho6:(((s.heap.update a (Obj.mapSeq λ _=>#[])).push (seqObj "tuple" vs.toArray 0)).push (seqObj "list" #[] 0)).get? a=some (seqObj "list" #[] e1):=by rw[Heap.get?_push_ne _ _ _ (by rw[size_push',Heap.size_update];exact C1 (Jf ha)),Heap.get?_push_ne _ _ _ (by rw[Heap.size_update];exact C1 ha)];exact ho1
 show wpAny (model prog w) A _ P E { s with heap:=((s.heap.update a (Obj.mapSeq λ _=>#[])).push (seqObj "tuple" vs.toArray 0)).push (seqObj "list" #[] 0) };dsimp only;have hsz:vs.toArray.size=vs.length:=by simp
 have fin:=h
 by_cases h2:vs.toArray.size < 2
 ·rw[Kz h2,Kz h2];apply A0 (A3 ?_);rw[StateT.run_pure];apply A0 (A3 ?_);dsimp only;apply A0 (seqEpoch_at ho6 rfl ?_);apply A0 (listUpdate_at ho6 rfl ?_ (hsz2:=by rw[Array.size_map];show(pairsOf vs).size<=_;rw[pairsOf_size,sizeLine_eq];lia));simp only[bne_self_eq_false,Jg,LU];apply A3 (fin (SortSt.mk' general' (vs.toArray.zip vs.toArray) #[] 7 none) (Array.Perm.refl _) ?_);intro i j hij hj;have:i=j:=by rw[pairsOf_size]at hj;lia
  subst this;exact LN _
 ·rw[Ky h2,Ky h2];obtain⟨v₁,v₂,rest,rfl⟩:∃v₁ v₂ rest,vs=v₁ :: v₂ :: rest:=by
   match vs,hsz,h2 with
   | [],_,h2=>simp at h2
   | [_],_,h2=>simp at h2
   | v₁ :: v₂ :: rest,_,_=>exact%[v₁,v₂,rest|Y]
  have kp:∀b o,b≠a->s.heap.get? b=some o->(((s.heap.update a (Obj.mapSeq λ _=>#[])).push (seqObj "tuple" (v₁ :: v₂ :: rest).toArray 0)).push (seqObj "list" #[] 0)).get? b=some o:=λ b o nb e=>
   A8 _ (A8 _ (by rw[Heap.get?_update_ne _ _ _ _ nb];exact e))
  obtain⟨hO,hK⟩:=hkk { s with heap:=((s.heap.update a (Obj.mapSeq λ _=>#[])).push (seqObj "tuple" (v₁ :: v₂ :: rest).toArray 0)).push (seqObj "list" #[] 0) } kp;apply A0 (hK _ _ _ rfl _ ?_);apply A0 (K6 (jB (κ:=κ) (κ0:=κ0) hO (a₀:=pairsOf (v₁ :: v₂ :: rest)) h0 (st:=SortSt.mk' κ0 ((v₁ :: v₂ :: rest).toArray.zip (v₁ :: v₂ :: rest).toArray) #[] 7 none)
   (Q:=λ _ st'=>SP κ0 (pairsOf (v₁ :: v₂ :: rest)) st'/\SortedToK κ (arrOf st') (pairsOf (v₁ :: v₂ :: rest)).size) %[%[Array.Perm.refl _,rfl|rfl]|rfl] λ st' z y=>%[z|y]) ?_ λ _ _ e=>e)
  rintro⟨⟨⟩,st'⟩ s' ⟨rfl,⟨hp,hk2,hf⟩,hs⟩;dsimp only;apply A0 (seqEpoch_at ho6 rfl ?_);apply A0 (listUpdate_at ho6 rfl ?_ (hsz2:=by apply C7 (Nat.le_of_eq ((Array.size_map ..).trans (hp.size_eq.trans (pairsOf_size _)))) ?_;rw[sizeLine_eq];lia));rw[hf];simp only[bne_self_eq_false,Jg,LU];exact A3 (fin st' hp hs)
theorem wO {κ:KeyKind} {κ0:SortKind} {l:Ko} {vs:Ks IS} {Q:IS->IN->Prop} (hl:s.heap.IsList l vs.toArray) (h0:KeysOf κ (pairsOf vs)) (hkk:∀ (A':Around) (s':IN),(∀b o,s.heap.get? b=some o->s'.heap.get? b=some o)->bz prog w A' s' κ0 κ/\∀v₁ v₂ rest,vs=v₁ :: v₂ :: rest->∀ (Q:SortKind->IN->Prop) (E':IS->IN->Prop),Q κ0 s'->wpAny (model prog w) A' (keyKind' (v₁ :: v₂ :: rest).toArray) Q E' s') (h64:vs.length < 4096)
  (h:∀st':SortSt,(arrOf st').Perm (pairsOf vs)->SortedToK κ (arrOf st') (pairsOf vs).size->Q (.ref (s.heap.objs.size+1)) { s with heap:=sortedAll s.heap vs ((arrOf st').map (·.2)) }) :
  wpAny (model prog w) A (call (.builtin "sorted") [.ref l]) Q E s:=by
 apply Calls.call_function_entry kind_sorted plain_sorted entry_sorted (args_sorted1 _) ?_;unfold Builtin.«sorted»;apply A0 (m:=checkCount "sorted" 1 1 _) (A3 ?_);apply A0 (collect_list hl ?_);apply A0 (wpAny_newList ?_);have hsz:((s.heap.push (seqObj "list" #[] 0)).update s.heap.objs.size (Obj.mapSeq (· ++ vs.toArray))).objs.size=s.heap.objs.size+1:=by rw[Heap.size_update,size_push']
 have hoL:(((s.heap.push (seqObj "list" #[] 0)).update s.heap.objs.size (Obj.mapSeq (· ++ vs.toArray))).push (seqObj "list" vs.toArray 0)).get? (s.heap.objs.size+1)=some (seqObj "list" vs.toArray 0):=by rw[<- hsz];exact A9 _ rfl
 show wpAny _ _ _ _ _ { s with heap:=((s.heap.push (seqObj "list" #[] 0)).update s.heap.objs.size (Obj.mapSeq (· ++ vs.toArray))).push (seqObj "list" vs.toArray 0) };rw[hsz];apply A0 (K2 (G9 slot_list_sort %[_,hoL|rfl] entry_list_sort (cL hoL h0 (λ s' k=>by obtain⟨a1,a2⟩:=hkk _ s' (λ b o e=>k b o (C1 (Jf (B0 e))) (A8 _ (by rw[Heap.get?_update_ne _ _ _ _ (C1 (Heap.lt_size e))];exact A8 _ e)));exact%[a1|λ v1 v2 r e Q q=>a2 v1 v2 r e Q _ q]) h64 λ st' a1 a2=>%[_,Y|?_]) (args_list_sort _)));exact A3 %[_,rfl|h st' a1 a2]
end
end PyProof.Rows
namespace L2
open PySem PySem.Spec PyProof.Rows
section
variable {X:Cx}
def yz (K:C6) (xs:Ks V) (H:Hp) (Q:VK):Prop:=∃ (p:Ko) (as:Ks Ko) (sh:Ks Bool) (key:Ko->Ks Int),xs=[.ref p]/\SqL K H p (as.map V.ref)/\as.length < 4096/\sh.head?=some false/\(∀a∈as,∃vs,SqT K H a vs/\eM sh vs=some (key a)) /\
 ∀ (l:Ko) (as':Ks Ko),H l=none->as'.Perm as->(as'.map key).Pairwise (λ x y=>bg y x=false)->Q (.ref l) (upd H l (.lst (as'.map V.ref)))
theorem lB:bM X (.builtin "sorted") (yz X.K):=by
 intro Ku s σ H xs us Q I r h;obtain⟨p,as,sh,key,rfl,hs,h64,h0,hk,q⟩:=h;obtain⟨u,rfl,rfl⟩:=cM r;obtain⟨its,rv,pl,_⟩:=I.list hs;have ei:=jW rv;subst ei;have tu:∀a∈as,∃o us n,s.heap.get? a=some o/\o.cls=.type "tuple" /\ o.data=.seq (List.toArray us) n/\bP sh us=some (key a):=λ a ha=>by obtain⟨vs,hv,hf⟩:=hk a ha;obtain⟨us,r,⟨o,e,c,n,d⟩,_⟩:=I.tuple hv;exact%[o,us,n,e,c,d|lc r hf]
 have kof:∀a∈as,(jx s.heap sh).keyOf (.ref a)=some (key a):=λ a ha=>by
  obtain⟨o,us,n,e,c,d,f⟩:=tu a ha;show(match s.heap.get? a with
   | some o=>match o.data with
    | .seq xs _=>bP sh xs.toList
    | _=>none
   | none=>none)=some (key a)
  rw[e];show(match o.data with
    | .seq xs _=>bP sh xs.toList
    | _=>none)=some (key a)
  rw[d];exact f
 apply wO (κ:=jx s.heap sh) (κ0:=tuples' true) pl.isList ?keys ?kk (by rw[B5];exact h64) λ st' hp hs'=>?_
 case keys=>
  intro pr hpr;rw[pairsOf_toList]at hpr;obtain⟨a,ha,e⟩:=JH.mp (Kb (show(pr.1,pr.2)∈_ from hpr)).1;exact%[key a|by rw[<- e];exact kof a ha]
 case kk=>
  intro A' s' k;apply%[jV h0 k|λ v1 v2 rest e Q E' q=>?_];obtain⟨fs,f1,f2,f3⟩:=eN (h:=s'.heap) (key:=key) h0 as λ a ha=>by obtain⟨o,us,n,e,c,d,f⟩:=tu a ha;exact%[o,us,n,k _ _ e,c,d|f]
  rw[e]at f1;have:(as.map Value.ref).length=rest.length+2:=by rw[e];rfl
  rw[B5]at this;apply PySem.W.kat_kind (T:=.type "int") f1 ⋯ (λ v hv=>?_) rfl q;obtain⟨i,t,rfl⟩:=f3 v hv;exact PySem.W.Looks.of_pure rfl
 have pz:∀l:Ks Ko,(l.map Value.ref).zip (l.map Value.ref)=l.map λ a=>(Value.ref a,Value.ref a):=λ l=>by
  induction l with
  | nil=>rfl
  | cons a l ih=>rw[JA,KY,ih,JA]
 have hp':=JY.mp hp;rw[pairsOf_toList,pz]at hp';obtain⟨as',ea,pa⟩:=iP (f:=λ a=>(Value.ref a,Value.ref a)) (λ pr=>match pr.1 with
  | .ref a=>some a
  | _=>none) (λ a=>rfl) hp'
 have eo:((arrOf st').map (·.2)).toList=as'.map Value.ref:=by rw[Array.toList_map,ea,Jc];rfl
 obtain⟨e,he⟩:=sortedAll_at s.heap (as.map Value.ref) ((arrOf st').map (·.2));have hn:H (s.heap.objs.size+1)=none:=I.hok.fresh (Kk _);apply%[.ref (s.heap.objs.size+1),upd H (s.heap.objs.size+1) (.lst (as'.map V.ref)),I.laid (o:=.lst (as'.map V.ref)) (t':=s.toks) (λ _ _=>sortedAll_old) (Kk _) (show ObjOk _ _ _ _ _ (.lst _)from%[?_,((arrOf st').map (·.2)).toList,e,?_|?_]),Y|q _ as' hn pa ?_]
 ·rw[B5,pa.length_eq];have:(4096:Nat)<=sizeLine:=∅
  lia
 ·rw[eo];exact dF as'
 ·rw[he]
 ·rw[Jp];intro i j hi hj hij;rw[B5]at hi hj;have sz:(pairsOf (as.map Value.ref)).size=as.length:=by rw[pairsOf_size,B5]
  have kk:∀i (hi:i < as'.length),KK (jx s.heap sh) (arrOf st') i=key as'[i]:=λ i hi=>by
   have e:(arrOf st')[i]?=some (Value.ref as'[i],Value.ref as'[i]):=by rw[<- JB,ea,IY,G2 hi];rfl
   unfold KK;rw[e];show((jx s.heap sh).keyOf (.ref as'[i])).getD _=_;rw[kof _ (pa.mem_iff.mp (KU hi))];rfl
  have:=hs' i j ⋯ (by rw[sz,<- pa.length_eq];exact hj);rw[kk i hi,kk j hj]at this;rw[KF,KF];exact this
end
end L2
namespace PySem
open PySem.W
section
variable {prog:IP} {w:IR} {A:Around} {E:IS->IN->Prop} {s:IN} {d a:Ko} {K:Type} [DecidableEq K] {knd:HeapKind prog w K} {k:K} {xs:Ks (K×Ko×IS)}
theorem wP {x:IS} {Q:IS->IN->Prop} (hu:knd.room A.in1) (hkey:knd.is s.heap k a) (hS:(d == sysModules)=false) (hm:s.heap.DictOfH knd d xs) (hsz:xs.length<=sizeLine)
  (h1:∀p,atKey xs k=some p->Q p.2 { s with toks:=s.toks+knd.draws k })
  (h2:atKey xs k=none->∀h',h'.DictOfH knd d (storedH xs k a x)->Heap.SameBut d s.heap h'->Q x { s with heap:=h',toks:=s.toks+knd.draws k }) :
  wpAny (model prog w) A (call (.builtin "dict.setdefault") [.ref d,.ref a,x]) Q E s:=by
 have ty:=hm.typeIs;apply call_meetsIn (S:=λ A' R s'=>A'=A/\s'=s/\(∀p,atKey xs k=some p->R (.ok (.ret p.2)) { s with toks:=s.toks+knd.draws k })/\(atKey xs k=none->∀h',h'.DictOfH knd d (storedH xs k a x)->Heap.SameBut d s.heap h'->R (.ok (.ret x)) { s with heap:=h',toks:=s.toks+knd.draws k })) PySem.F.slot_dict_setdefault ty PySem.F.entry_dict_setdefault (PySem.F.args_dict_setdefault_3 _ _ _) (.of_wp λ A' R s' %[e0,e,g1|g2]=>?_) %[rfl,rfl,λ p hp=>h1 p hp|λ hn h' a1 a2=>h2 hn h' a1 a2];subst e e0;obtain⟨o,es,ep,ho,hc,hd,he,his,hn⟩:=hm;unfold Builtin.«dict.setdefault»;apply A0 ?_;unfold Builtin.Dict.keyAndDefault;apply A0 (Ln ty ?_);show wpAny _ _ (pure (d,Value.ref a,some x)) _ _ s';apply A3 ?_;show wpAny _ _ (if (d == sysModules)=true then _ else(dictSetDefault d (.ref a) x >>= _)) _ _ s';rw[Ky (by rw[hS];exact B3)];apply A0 ?_;unfold dictSetDefault
 try with_reducible apply K2 ?_
 apply A0 (knd.pyHash hu hkey ?_);apply A0 (wpAny_dictFind_heap (s:={ s' with toks:=s'.toks+knd.draws k }) hu hkey ho hd he his hn ?_ ?_)
 ·intro hno;have hnot:k∉xs.map (·.1):=not_mem_keys_of_get hno;apply A0 (LS (A0 (wpAny_updateDictKeys (hz:=by have e:=size_of_entries he;lia) (s:={ s' with toks:=s'.toks+knd.draws k }) ho hd (A3 (A3 ⟨x,rfl,g2 (atKey_none_of_get hno) _ ⟨_,_,ep+1,LF _ ho (Obj.isFreed_of_dict (Lq hd _)),
   hc.mapDictKeys _,Lq hd _,?_,?_,?_⟩ (K4 ..)⟩)))))
  ·rw[storedH_new (atKey_none_of_get hno)];simp[he,entryOfKey]
  ·rw[storedH_new (atKey_none_of_get hno)];intro x hx;rcases C4.mp hx with hx | hx
   ·exact knd.keeps (his x hx) ho hd (K4 ..)
   ·simp only[E4]at hx;subst hx;exact knd.keeps hkey ho hd (K4 ..)
  ·rw[storedH_new (atKey_none_of_get hno)];rw[JE,List.nodup_append];apply%[hn,by simp|?_];intro x hx y hy;simp only[JA,Jj,E4]at hy;subst hy;exactλ e=>hnot (e ▸ hx)
 ·intro j p hj;apply A0 (LG (s:={ s' with toks:=s'.toks+knd.draws k }) ho hd ?_);rw[entry_at he j,hj];exact A0 (LS (A3 (A3 %[p.2,rfl|g1 p (atKey_of_get hn hj)])))
end
end PySem
namespace L2
open PySem PySem.Spec PyProof.Rows
section
variable {X:Cx}
def xN:V->Ks V->Hp->VK->Prop:=λ x ys H Q=>∃ (a b:Ko) (v:V) (kvs:Ks (Ks Key×V)) (k:Ks Key),x=.ref a/\ys=[.ref b,v]/\H a=some (.dT kvs)/\H b= ~~~(k.map kV)/\kvs.length < sizeLine /\
 (∀v',bG kvs k=some v'->Q v' H)/\(bG kvs k=none->Q v (upd H a (.dT (bX kvs k v))))
theorem iW (hu:X.A.units+1 < cLine):MtR X "dict.setdefault" xN:=by
 intro Ku s σ H x ys v us Q I rx rv h;obtain⟨a,b,v',kvs,k,rfl,rfl,hH,hb,hl,q1,q2⟩:=h;cases rx;obtain⟨u,us',rfl,ru,rv'⟩:∃u us',us=u :: us'/\RelV (.ref b) u/\Vals [v'] us':=by
  cases rv with
  | cons r1 r2=>exact%[_,_,Y,r1|r2]
 obtain⟨u2,rfl,r2⟩:=rv'.one;cases ru;obtain⟨z,hd,xs,rel,dd⟩:=pW I.hok hH;have hz:xs.length<=sizeLine:=by rw[<- Paired.length rel];exact z
 have hlp:(bX kvs k v').length<=sizeLine:=by have:=ce kvs k v';lia
 have rv:=rel.val k;apply wP (tupleKind_room_in1 hu) (dY I.hok hb) hd dd hz (λ p hp=>?_) (λ hn h' dd' hs=>?_)
 ·rw[hp]at rv;cases hv:bG kvs k with
  | none=>rw[hv]at rv;exact E9 rv
  | some y=>rw[hv]at rv;exact%[y,H,I.tok _,rv|q1 y hv]
 ·rw[hn]at rv;cases hv:bG kvs k with
  | some y=>rw[hv]at rv;exact E9 rv
  | none=>
   apply%[v',upd H a (.dT (bX kvs k v')),?_,r2|q2 hv];obtain⟨q,es,ep,hq,h2,h3,h4,_,h5⟩:=dd';apply fW I (by rw[hH];exact True.intro) hs %[q|hq] %[hlp,hd,_,(rel.put k hb r2).keeps λ c ys ec=>?_,q,es,ep,hq,h2,h3,h4|h5];rw[ah (tI ec hH (λ z=>nomatch z))];exact ec
end
end L2
namespace PySem
open PySem.W PyProof.Rows
section
variable {prog:IP} {w:IR} {A:Around} {E:IS->IN->Prop} {s:IN} {d:Ko} {es:Kr DictEntry} {ep:Nat}
def OKE (d:Ko) (es:Kr DictEntry) (ep:Nat) (h:Heap):Prop:=∃o,h.get? d=some o/\o.ExactDict/\o.data=.dict es ep
theorem yA (hh:A.handled=none) (I d:Ko) (hne:d≠I) (es:Kr DictEntry) (ep:Nat) :
  Walks prog w A I [I,d] [I] es.size (λ i v=>∃en,es[i]?=some en/\en.key=v) (λ i h=>h.IsKeyIter I d i es.size ep/\OKE d es ep h) where
 sub:=λ b hb=>by simp at hb;simp[hb]
 frame:=λ _ _ _ st hk=>%[st.1.at λ o e=>hk I (by simp) o e|let ⟨o,e,x⟩:=st.2;%[o,hk d (by simp) o e|x]]
 item:=λ i s Q E hi st hQ=>by
  obtain⟨en,hx⟩:∃en,es[i]?=some en:=%[es[i]|JN hi]
  apply cf st.1 st.2 hx λ h' hit' hs'=>?_;exact hQ en.key h' s.toks %[en,hx|Y] %[hit'|let ⟨o,e,x⟩:=st.2;%[o,hs'.extBut d o hne e|x]] λ b o hb e=>hs'.extBut b o (λ h=>hb (by simp[h])) e
 done:=λ s Q E st hQ=>cu hh st.1 st.2 (JU (B4 _)) λ h' he'=>hQ h' s.toks λ b o hb e=>he' b o (λ h=>hb (by simp[h])) e
 self:=λ _ _ _ _ st hQ=>wpAny_pyIter_keyiter st.1 hQ
theorem AS (lo:(d == sysModules)=false):KdlSrc prog w "dict" d d es.size (λ i v=>∃en,es[i]?=some en/\en.key=v) (OKE d es ep) where
 type:=λ _ ⟨o,e,c,_⟩=>%[o,e|c.1]
 there:=λ _ ⟨o,e,_⟩=>%[B0 e|B0 e]
 keep:=λ _ _ ⟨o,e,x⟩ hk=>%[o,hk d (.inl rfl) o e|x]
 notList:=∅
 notTuple:=∅
 hint:=λ _ _ _ _ ⟨o,e,c,_⟩ hq=>kdl_hint_dict %[o,e|c.1] hq
 iter:=λ _ _ hh hm=>%[_,_,(λ _ _ hq=>bY lo hm hq),yA hh _ d (let ⟨_,e,_⟩:=hm;C1 (B0 e)) es ep|%[%[_,A9 _ rfl,Y|Y]|let ⟨o,e,x⟩:=hm;%[o,A8 _ e|x]]]
theorem uS {Q:Ks IS->IN->Prop} (lo:(d == sysModules)=false) (hh:A.handled=none) (hm:OKE d es ep s.heap) (hn:es.size<=sizeLine)
  (h:∀h' tk,(∀b o,s.heap.get? b=some o->h'.get? b=some o)->s.heap.objs.size<=h'.objs.size->Q (es.toList.map (·.key)) { s with heap:=h',toks:=tk }):wpAny (model prog w) A (collect (.ref d)) Q E s:=by
 unfold collect;apply A0 (wpAny_runValue (Lh F.entry_proto_collect ?_));rw[LL F.plain_proto_collect _];show wpAny _ A.in1 (newList [] >>= λ l=>again (.builtin "list.__iadd__" %[[l,.ref d]|[]])) _ _ s;apply A0 (IL ?_);apply A3 %[plainId_quiet F.plain_list_iadd _|Lh F.entry_list_iadd ?_];rw[LL F.plain_list_iadd _];show wpAny _ A.in1 (Builtin.List.listExtendWith (.ref s.heap.objs.size) (.ref d) (.ref s.heap.objs.size)) _ _ { s with heap:=s.heap.push (seqObj "list" #[] 0) };have dl:d < s.heap.objs.size:=let ⟨_,e,_⟩:=hm;B0 e
 have hS:(s.heap.push (seqObj "list" #[] 0)).get? s.heap.objs.size=some (seqObj "list" #[] 0):=A9 _ rfl;apply kdl_extend (R:=λ r s'=>match r with
  | .ok (.ret v)=>wpAny (model prog w) A (match v with
   | .ref a=>do match (<- load a).data with
    | .seq xs _=>pure xs.toList
    | _=>unsupported "internal:collect"
   | _=>unsupported "internal:collect") Q E s'
  | .ok _=>False
  | .error e=>E e s') (s:={ s with heap:=s.heap.push (seqObj "list" #[] 0) }) (AS lo) (by exact hh) (let ⟨o,e,x⟩:=hm;%[o,A8 _ e|x]) s.heap.objs.size (JW dl) (JW dl) (.ref s.heap.objs.size) 0 hS (λ h' tk acc' c' hk hS' hacc=>?_) hn
 have ea:acc'.toList=es.toList.map (·.key):=by
  apply List.ext_getElem? λ j=>?_;rw[IY,JB,JB]
  by_cases c:j < es.size
  ·have c2:j < acc'.size:=by rw[hacc.1];exact c
   obtain⟨en,e1,e2⟩:=hacc.2 j acc'[j] (JN c2);rw[e1,JN c2,<- e2]
   rfl
  ·rw[JU (by rw[hacc.1];lia),JU ⋯]
   rfl
 show wpAny (model prog w) A (do
   let o<-load s.heap.objs.size
   match o.data with
   | .seq xs _=>pure xs.toList
   | _=>unsupported "internal:collect") Q E { s with heap:=h',toks:=tk }
 apply A0 (wpAny_load hS' ?_);show wpAny _ _ (pure acc'.toList) Q E _;rw[ea];exact A3 (h h' tk (λ b o e=>hk b o (C1 (B0 e)) (A8 _ e)) (C9 (B0 hS')))
end
end PySem
namespace PyProof.Rows
open PySem PySem.W
section
variable {prog:IP} {w:IR} {A:Around} {E:IS->IN->Prop} {s:IN}
theorem wQ {κ:KeyKind} {κ0:SortKind} {d:Ko} {es:Kr DictEntry} {ep:Nat} {vs:Ks IS} {Q:IS->IN->Prop} (lo:(d == sysModules)=false) (hh:A.handled=none) (hm:OKE d es ep s.heap) (hv:vs=es.toList.map (·.key)) (h0:KeysOf κ (pairsOf vs)) (hkk:∀ (A':Around) (s':IN),(∀b o,s.heap.get? b=some o->s'.heap.get? b=some o)->bz prog w A' s' κ0 κ/\∀v₁ v₂ rest,vs=v₁ :: v₂ :: rest->∀ (Q:SortKind->IN->Prop) (E':IS->IN->Prop),Q κ0 s'->wpAny (model prog w) A' (keyKind' (v₁ :: v₂ :: rest).toArray) Q E' s') (h64:vs.length < 4096)
  (h:∀ (st':SortSt) (L:Ko) (h':Heap) (tk e:Nat),(arrOf st').Perm (pairsOf vs)->SortedToK κ (arrOf st') (pairsOf vs).size->(∀b o,s.heap.get? b=some o->h'.get? b=some o)->s.heap.objs.size<=L->h'.get? L=some (seqObj "list" ((arrOf st').map (·.2)) e)->Q (.ref L) { s with heap:=h',toks:=tk }) :
  wpAny (model prog w) A (call (.builtin "sorted") [.ref d]) Q E s:=by
 have hsz:es.size<=sizeLine:=by
  have:es.size=vs.length:=by rw[hv,B5,JR]
  have z:(4096:Nat)<=sizeLine:=∅
  lia
 apply Calls.call_function_entry kind_sorted plain_sorted entry_sorted (args_sorted1 _) ?_;unfold Builtin.«sorted»;apply A0 (m:=checkCount "sorted" 1 1 _) (A3 ?_);apply A0 (uS lo (by exact hh) hm hsz λ h1 tk k1 hle=>?_);rw[<- hv];apply A0 (wpAny_newList ?_);have hoL:(h1.push (seqObj "list" vs.toArray 0)).get? h1.objs.size=some (seqObj "list" vs.toArray 0):=A9 _ rfl;show wpAny _ _ _ _ _ { s with heap:=h1.push (seqObj "list" vs.toArray 0),toks:=tk };apply A0 (K2 (G9 slot_list_sort %[_,hoL|rfl] entry_list_sort (cL hoL h0 (λ s' k=>by
  obtain⟨a1,a2⟩:=hkk _ s' (λ b o e=>k b o (C1 (B0 (k1 b o e))) (A8 _ (k1 b o e)));exact%[a1|λ v1 v2 r e Q q=>a2 v1 v2 r e Q _ q]) h64 λ st' a1 a2=>%[_,Y|?_]) (args_list_sort _)))
 obtain⟨e,he⟩:=sortedHeap_at (out:=(arrOf st').map (·.2)) (vs:=vs) hoL;apply A3 %[_,rfl|h st' h1.objs.size _ tk e a1 a2 (λ b o eb=>?_) hle he];have:=B0 (k1 b o eb);rw[sortedHeap_old (C1 this) (by rw[size_push'];exact Jf this)];exact A8 _ (k1 b o eb)
end
end PyProof.Rows
namespace L2
open PySem PySem.Spec PyProof.Rows
theorem gN {α β:Type} (f:α->β) {l l':Ks β} (h:l.Perm l'):∀xs:Ks α,l'=xs.map f->∃xs':Ks α,l=xs'.map f/\xs'.Perm xs:=by
 induction h with
 | nil=>intro xs e;cases xs with
  | nil=>exact%[[],Y|.nil]
  | cons _ _=>cases e
 | cons x _ ih=>intro xs e;cases xs with
  | nil=>cases e
  | cons y ys=>
   rw[JA]at e;injection e with e1 e2
   obtain⟨xs',a,b⟩:=ih ys e2;exact%[y :: xs',by rw[JA,<- e1,<- a]|b.cons y]
 | swap x y l=>intro xs e;cases xs with
  | nil=>cases e
  | cons u us=>cases us with
   | nil=>injection e with _ e;cases e
   | cons v vs=>
    rw[JA,JA]at e;injection e with e1 e
    injection e with e2 e3
    exact%[v :: u :: vs,by rw[JA,JA,<- e1,<- e2,<- e3]|List.Perm.swap _ _ _]
 | trans _ _ i1 i2=>intro xs e;obtain⟨ys,a,b⟩:=i2 xs e;obtain⟨zs,c,d⟩:=i1 ys a;exact%[zs,c|d.trans b]
section
variable {X:Cx}
def yB (xs:Ks V) (H:Hp) (Q:VK):Prop:=∃ (p:Ko) (kvs:Ks (Ks Key×V)) (sh:Ks Bool) (key:Ks Key->Ks Int),xs=[.ref p]/\Rd H p (.dT kvs)/\kvs.length < 4096/\sh.head?=some false/\(∀kv∈kvs,eM sh (kv.1.map kV)=some (key kv.1)) /\
 ∀ (l:Ko) (as':Ks Ko) (ks':Ks (Ks Key)),H l=none->Paired (λ a k=>H a= ~~~(k.map kV)) as' ks'->ks'.Perm (kvs.map (·.1))->(ks'.map key).Pairwise (λ x y=>bg y x=false)->Q (.ref l) (upd H l (.lst (as'.map V.ref)))
def eP (H:Hp) (sh:Ks Bool) (a:Ko):Ks Int:=match H a with
 | some (.tup vs)=>(eM sh vs).getD []
 | _=>[]
theorem qd {H:Hp} {sh:Ks Bool} {a:Ko} {vs:Ks V} {k:Ks Int} (h:H a= ~~~vs) (f:eM sh vs=some k):eP H sh a=k:=by unfold eP;rw[h];dsimp only;rw[f];rfl
theorem lC (hc:X.calm=true):bM X (.builtin "sorted") yB:=by
 intro Ku s σ H xs us Q I r h;obtain⟨p,kvs,sh,key,rfl,hp,h64,h0,hk,q⟩:=h;obtain⟨u,rfl,rfl⟩:=cM r;obtain⟨hz,hs,ys,pr,o,es,ep,h1,h2,h3,h4,h5⟩:=(show ObjOk X.prog X.w H s.heap p (.dT kvs)from hp.ok I.hok)
 have yl:ys.length=kvs.length:=(gM pr).symm;have at':∀y∈ys,∃kv∈kvs,kv.1=y.1/\H y.2.1= ~~~(y.1.map kV):=λ y hy=>by obtain⟨j,hj⟩:=JZ.mp hy;have jl:j < ys.length:=(A7.mp hj).1;have hkj:kvs[j]?=some kvs[j]:=G2 ⋯;obtain⟨z,hz',z1,z2,_⟩:=ke pr hkj;rw[hj]at hz';cases hz';exact%[_,B7 hkj,z1|by rw[<- z1];exact z2]
 have km:∀y∈ys,eP H sh y.2.1=key y.1/\eM sh (y.1.map kV)=some (key y.1):=λ y hy=>by obtain⟨kv,m,e1,e2⟩:=at' y hy;have f:=hk kv m;rw[e1]at f;exact%[qd e2 f|f]
 obtain⟨as,has⟩:∃as,as=ys.map (·.2.1):=%[_|Y]
 have ev:es.toList.map (·.key)=as.map Value.ref:=by rw[h4,has,Jc,Jc];rfl
 have tu:∀a∈as,∃o us n,s.heap.get? a=some o/\o.cls=.type "tuple" /\ o.data=.seq (List.toArray us) n/\bP sh us=some (eP H sh a):=λ a ha=>by rw[has]at ha;obtain⟨y,hy,rfl⟩:=JH.mp ha;obtain⟨kv,m,e1,e2⟩:=at' y hy;obtain⟨k1,k2⟩:=km y hy;obtain⟨us,r,⟨o,e,c,n,d⟩,_⟩:=I.tuple (IU (K:=X.K) e2);exact%[o,us,n,e,c,d|by rw[k1];exact lc r k2]
 have kof:∀a∈as,(jx s.heap sh).keyOf (.ref a)=some (eP H sh a):=λ a ha=>by
  obtain⟨o,us,n,e,c,d,f⟩:=tu a ha;show(match s.heap.get? a with
   | some o=>match o.data with
    | .seq xs _=>bP sh xs.toList
    | _=>none
   | none=>none)=some (eP H sh a)
  rw[e];show(match o.data with
    | .seq xs _=>bP sh xs.toList
    | _=>none)=some (eP H sh a)
  rw[d];exact f
 have al:as.length=kvs.length:=by rw[has,B5,yl]
 apply wQ (κ:=jx s.heap sh) (κ0:=tuples' true) hs (I.ok.hd hc) %[o,h1,h2|h3] ev.symm ?keys ?kk (by rw[B5];lia) λ st' L h' tk e hp hs' kp hL he=>?_
 case keys=>
  intro pr hpr;rw[pairsOf_toList]at hpr;obtain⟨a,ha,e⟩:=JH.mp (Kb (show(pr.1,pr.2)∈_ from hpr)).1;exact%[eP H sh a|by rw[<- e];exact kof a ha]
 case kk=>
  intro A' s' k;apply%[jV h0 k|λ v1 v2 rest e Q E' q=>?_];obtain⟨fs,f1,f2,f3⟩:=eN (h:=s'.heap) (key:=eP H sh) h0 as λ a ha=>by obtain⟨o,us,n,e,c,d,f⟩:=tu a ha;exact%[o,us,n,k _ _ e,c,d|f]
  rw[e]at f1;have:(as.map Value.ref).length=rest.length+2:=by rw[e];rfl
  rw[B5]at this;apply PySem.W.kat_kind (T:=.type "int") f1 ⋯ (λ v hv=>?_) rfl q;obtain⟨i,t,rfl⟩:=f3 v hv;exact PySem.W.Looks.of_pure rfl
 have pz:∀l:Ks Ko,(l.map Value.ref).zip (l.map Value.ref)=l.map λ a=>(Value.ref a,Value.ref a):=λ l=>by
  induction l with
  | nil=>rfl
  | cons a l ih=>rw[JA,KY,ih,JA]
 have hp':=JY.mp hp;rw[pairsOf_toList,pz]at hp';obtain⟨as',ea,pa⟩:=iP (f:=λ a=>(Value.ref a,Value.ref a)) (λ pr=>match pr.1 with
  | .ref a=>some a
  | _=>none) (λ a=>rfl) hp'
 have eo:((arrOf st').map (·.2)).toList=as'.map Value.ref:=by rw[Array.toList_map,ea,Jc];rfl
 have hn:H L=none:=I.hok.fresh hL;obtain⟨ys',ey,py⟩:=gN (λ y:Ks Key×Ko×Value=>y.2.1) pa ys has;have my:∀y∈ys',y∈ys:=λ y hy=>py.mem_iff.mp hy;have pk:∀zs:Ks (Ks Key×Ko×IS),(∀y∈zs,y∈ys)->Paired (λ a k=>H a= ~~~(List.map kV k)) (zs.map λ y=>y.2.1) (zs.map (·.1)):=λ zs=>by
  induction zs with
  | nil=>intro _;exact .nil
  | cons z zs ih=>intro hz;exact .cons (let ⟨_,_,_,e2⟩:=at' z (hz z B9);e2) (ih λ y hy=>hz y (B6 _ hy))
 have ek:kvs.map (·.1)=ys.map (·.1):=by
  apply List.ext_getElem? λ j=>?_;rw[IY,IY]
  by_cases c:j < kvs.length
  ·rw[G2 c];obtain⟨z,hz',z1,_⟩:=ke pr (G2 c);rw[hz',KO,KO,z1]
  ·rw[Jw ⋯,Jw ⋯];rfl
 apply%[.ref L,upd H L (.lst (as'.map V.ref)),I.laid (o:=.lst (as'.map V.ref)) (t':=tk) kp hL (show ObjOk _ _ _ _ _ (.lst _)from%[?_,((arrOf st').map (·.2)).toList,e,?_|?_]),Y|q L as' (ys'.map (·.1)) hn ?_ ?_ ?_]
 ·rw[B5,pa.length_eq];have:(4096:Nat)<=sizeLine:=∅
  lia
 ·rw[eo];exact dF as'
 ·rw[he]
 ·rw[ey];exact pk ys' my
 ·rw[ek];exact py.map _
 ·have e0:(ys'.map (·.1)).map key=as'.map (eP H sh):=by rw[ey,Jc,Jc];exact List.map_congr_left λ y hy=>(km y (my y hy)).1.symm
  rw[e0,Jp];intro i j hi hj hij;rw[B5]at hi hj;have sz:(pairsOf (as.map Value.ref)).size=as.length:=by rw[pairsOf_size,B5]
  have kk:∀i (hi:i < as'.length),KK (jx s.heap sh) (arrOf st') i=eP H sh as'[i]:=λ i hi=>by
   have e:(arrOf st')[i]?=some (Value.ref as'[i],Value.ref as'[i]):=by rw[<- JB,ea,IY,G2 hi];rfl
   unfold KK;rw[e];show((jx s.heap sh).keyOf (.ref as'[i])).getD _=_;rw[kof _ (pa.mem_iff.mp (KU hi))];rfl
  have:=hs' i j ⋯ (by rw[sz,<- pa.length_eq];exact hj);rw[kk i hi,kk j hj]at this;rw[KF,KF];exact this
end
abbrev Rw:=Ko×Ks Key×V
def kvR (Kv:Ks Rw):Ks (Ks Key×V):=Kv.map (·.2)
def RowD (Kv:Ks Rw) (xs:Ks (Ks Key×Ko×IS)):Prop:=Paired (λ(r:Rw) (x:Ks Key×Ko×IS)=>x.1=r.2.1/\x.2.1=r.1/\RelV r.2.2 x.2.2) Kv xs
theorem RowD.len {Kv:Ks Rw} {xs:Ks (Ks Key×Ko×IS)} (h:RowD Kv xs):Kv.length=xs.length:=E5 h
theorem RowD.keys {Kv:Ks Rw} {xs:Ks (Ks Key×Ko×IS)} (h:RowD Kv xs):xs.map (·.1)=Kv.map (·.2.1):=by
 unfold RowD at h
 induction h with
 | nil=>rfl
 | cons a _ ih=>rw[JA,JA,ih,a.1]
theorem RowD.nodup {Kv:Ks Rw} {xs:Ks (Ks Key×Ko×IS)} (h:RowD Kv xs) (n:(Kv.map (·.2.1)).Nodup):(xs.map (·.1)).Nodup:=by rw[h.keys];exact n
theorem RowD.of_mem {Kv:Ks Rw} {xs:Ks (Ks Key×Ko×IS)} (h:RowD Kv xs) {x:Ks Key×Ko×IS} (hx:x∈xs):∃r∈Kv,x.1=r.2.1/\x.2.1=r.1:=by
 unfold RowD at h
 induction h with
 | nil=>cases hx
 | @cons r y rs ys a _ ih=>
  rcases IZ.mp hx with rfl | hx
  ·exact%[r,B9,a.1|a.2.1]
  ·obtain⟨r',m,e⟩:=ih hx;exact%[r',B6 _ m|e]
theorem qe {α β:Type} {F:α->β->Prop}:∀ {a c:Ks α} {b d:Ks β},Paired F a b->Paired F c d->Paired F (a ++ c) (b ++ d)
 | _,_,_,_,.nil,h=>h
 | _,_,_,_,.cons x r,h=>.cons x (qe r h)
theorem RowD.snoc {Kv:Ks Rw} {xs:Ks (Ks Key×Ko×IS)} (h:RowD Kv xs) {b:Ko} {k:Ks Key} {v:V} {u:IS} (r:RelV v u):RowD (Kv ++ [(b,k,v)]) (xs ++ [(k,b,u)]):=qe h (.cons %[Y,Y|r] .nil)
theorem RowD.no {Kv:Ks Rw} {xs:Ks (Ks Key×Ko×IS)} (h:RowD Kv xs) {k:Ks Key} (n:k∉Kv.map (·.2.1)):atKey xs k=none:=by apply atKey_none_of_get λ j p e=>n ?_;rw[<- h.keys];exact JH.mpr %[_,B7 e|Y]
theorem RowD.kt {H:Hp} {D:Ko} {ob:HO} {Kv:Ks Rw} {xs:Ks (Ks Key×Ko×IS)} (h:RowD Kv xs) (kept:∀r∈Kv,H r.1= ~~~(r.2.1.map kV)) (hD:H D=none):KT (upd H D ob) (kvR Kv) xs:=by
 unfold RowD at h
 induction h with
 | nil=>exact .nil
 | @cons r y rs ys a _ ih=>
  apply .cons %[a.1.symm,?_|a.2.2] (ih λ r hr=>kept r (B6 _ hr));have e:=kept r B9;rw[a.2.1,ah (ae e hD)];exact e
def qg (σ:St) (cap:Ks Nat) (k:Nat) (J:It) (g:TG) (tt:TT) (tk tv:TE) (Qf:Ks Rw->Hp->Prop) (W:Nat->Nat->Ks Rw->Hp->Prop):Prop:=∀i m Kv H,W i m Kv H->(∀r∈Kv,H r.1= ~~~(r.2.1.map kV)) /\
 ((J.stop i H/\Kv.length<=sizeLine/\Qf Kv H) \/
  (J.go i H/\Kv.length < sizeLine/\∀x H',J.yld i H x H'->g x (aA σ cap k) H' λ σ2 H2=>leS (aA σ cap k) σ2/\tt σ2 H2 λ ok H3=>
   if ok=true then tk σ2 H3 (λ kv H4=>tv σ2 H4 λ v H5=>∃b ks,kv=.ref b/\H5 b= ~~~(ks.map kV)/\ks∉Kv.map (·.2.1)/\∃m',m' < m/\W (i+1) m' (Kv ++ [(b,ks,v)]) H5)else∃m',m' < m/\W (i+1) m' Kv H3))
section
variable {X:Cx} {Ku:Ks (Ko×Obj)} {σ:St} {H2:Hp} {s2:IN} {scope:Scope} {own cs:Ks Str} {cap:Ks Nat} {fp:Ks Ko} {it:Ko} {tn:Nat->Heap->Prop}
 {kx vx tg iter:Expr} {ifs:Ks Expr} {pos:Pos} {J:It} {g:TG} {tt:TT} {tk tv:TE} {E:IS->IN->Prop} {W:Nat->Nat->Ks Rw->Hp->Prop} {Qf:Ks Rw->Hp->Prop}
structure BlkEndD (X:Cx) (Ku:Ks (Ko×Obj)) (σ:St) (Qf:Ks Rw->Hp->Prop) (D C:Ko) (s':Shared):Prop where
 ex:∃ (Kv:Ks Rw) (H':Hp),H' D=none/\Qf Kv H'/\Inv X Ku σ (upd H' D (.dT (kvR Kv))) s'/\cP X Ku (upd H' D (.dT (kvR Kv))) C
 ns:∃m,s'.heap.Ns C m
theorem rC {RR:IS->Ko->Result->IN->Prop} (I:Inv X Ku σ H2 s2) (ok:CompOk X scope own cs cap) (hc:X.calm=true) (hu:X.A.units+1 < cLine) (T:Turn X.prog X.w X.K tg J fp it tn) (st:tn 0 s2.heap) (hf:∀b∈fp,cP X Ku H2 b)
  (hg:∀C,PG (av X Ku s2 H2 scope C (own ++ cs) fp) tg g) (hi:∀C,fR (av X Ku s2 H2 scope C (own ++ cs) fp) ifs tt) (hk:∀C,PE (av X Ku s2 H2 scope C (own ++ cs) fp) kx tk) (he:∀C,PE (av X Ku s2 H2 scope C (own ++ cs) fp) vx tv)
  (w0:∃m,W 0 m [] H2) (turn:qg σ cap own.length J g tt tk tv Qf W)
  (hRR:∀D C s',BlkEndD X Ku σ Qf D C s'->RR (.ref D) C (.ok .next) s') :
  wpAny (model X.prog X.w) X.A newDict (λ acc s₃=>wpAny (model X.prog X.w) X.A (newFunctionEnv scope X.env.globals (aH X.env scope.names []) [] X.env.qual none .none (some X.env)) (λ cenv s₄=>
   codeAny (model X.prog X.w) X.A (.compStart (.DictComp kx vx [%[tg,iter,ifs|0]] scope pos) 0 (.ref it) acc { cenv with scope:=relabel scope X.env }) (RR acc cenv.locals) s₄) E s₃) E s2:=by
 apply IL (wpAny_newFunctionEnv ok.cell (by intro y hy;simp at hy) (λ h₁ hns₁ hsb₁=>?_) ok.kind);dsimp only at hns₁ hsb₁ ⊢;generalize hHH:s2.heap.push { cls:=.type "dict",dict:=none,data:=.dict #[] }=HH at hns₁ hsb₁ ⊢;have hCs:HH.objs.size=s2.heap.objs.size+1:=by rw[<- hHH,K3]
 have hDC:s2.heap.objs.size≠HH.objs.size:=by rw[hCs];exact C1 (G1 _)
 have hCle:s2.heap.objs.size<=HH.objs.size:=by rw[hCs];exact Kk _
 have hfl:∀b∈fp,b < s2.heap.objs.size:=λ b hb=>by obtain⟨o,e,_⟩:=T.obj 0 _ st b hb;exact B0 e
 have old:∀b o,s2.heap.get? b=some o->h₁.get? b=some o:=λ b o e=>hsb₁.extBut b o (by rw[hCs];exact C1 (Jf (B0 e))) (A8 _ (hHH ▸ A8 _ e));have hacc:h₁.get? s2.heap.objs.size=some { cls:=.type "dict",dict:=none,data:=.dict #[] }:=hsb₁.extBut _ _ hDC (A8 _ (hHH ▸ A9 _ rfl));have hsys:(s2.heap.objs.size == sysModules)=false:=LJ.mpr (Ne.symm (C1 I.big));generalize hD:s2.heap.objs.size=D at *;generalize hCC:HH.objs.size=C at *;have hns₁':h₁.Ns C (λ _=>none):=hns₁;have I0:Inv (av X Ku s2 H2 scope C (own ++ cs) fp) [] (aA σ cap own.length) H2 { s2 with heap:=h₁,toks:=s2.toks+([]:Ks (Str×IS)).length } :=
  gy I ok hf (λ b hb=>by rw[hD];exact hfl b hb) (by rw[hD];exact hCle) hns₁' old
 have Dfs:D∉frs X.stack:=λ hb=>by obtain⟨_,o,ho,_⟩:=I.stack.mem hb;exact absurd (B0 ho) (by rw[hD];exact E2 _)
 have Dfp:∀b∈fp,D≠b:=λ b hb z=>absurd (hfl b hb) (by rw[<- z];exact E2 _);have clt:∀x c,(aH X.env scope.names []).lookup x=some c->c < D:=λ x c e=>by have e':=bi X.env scope.names [] x c (λ y hy e=>I.ok.has y.1 (ok.free y hy e)) (λ _ _ z=>by simp at z) e;obtain⟨v,o,ho,_⟩:=I.cell x c e';have:=B0 ho;rw[hD]at this;exact this
 have plt:∀p∈X.pn ++ Ku,p.1 < D:=λ p hp=>by have:=B0 (I.pin p hp).1;rw[hD]at this;exact this
 have stat:∀ {H':Hp} {ob:Obj},(∀b∈fp,H' b=none)->∀b∈fp,cP (av X Ku s2 H2 scope C (own ++ cs) fp) [(D,ob)] H' b:=λ {H' ob} hn b hb=>by
  have q:=I0.ok.exf b hb;apply%[hn b hb,q.1,I0.ok.exfs b hb,.inl hb,q.2|λ p hp=>?_];rcases C4.mp hp with z | z
  ·exact(hf b hb).2.2.2.2.2 p z
  ·have:p=(D,ob):=by simpa using z
   subst this;exact Dfp b hb
 have loop:codeAny (model X.prog X.w) X.A (.compLoop (.DictComp kx vx [%[tg,iter,ifs|0]] scope pos) 0 (.ref it) (.ref D) (compEnvC scope (aH X.env scope.names []) C X.env)) (RR (.ref D) C)
   { s2 with heap:=h₁,toks:=s2.toks+([]:Ks (Str×IS)).length }:=by
  obtain⟨m0,w0⟩:=w0;apply codeAny_loop rfl (λ n s'=>∃i H' Kv xs o es ep,Inv (av X Ku s2 H2 scope C (own ++ cs) fp) [] (aA σ cap own.length) H' s'/\tn i s'.heap/\(∀b∈fp,H' b=none)/\s'.heap.get? D=some o/\o.ExactDict/\o.data=.dict es ep/\es.toList=xs.map (entryOfKey (tupleKind (aR X.prog X.w)))/\RowD Kv xs/\(Kv.map (·.2.1)).Nodup/\H' D=none/\W i n Kv H') ?_ m0
   %[0,H2,[],[],_,#[],0,I0,T.keep 0 _ _ st λ b _ o e=>old b o e,λ b hb=>(hf b hb).1,hacc,%[rfl,rfl|rfl],rfl,rfl,.nil,List.nodup_nil,I.hok.fresh (by rw[hD];exact B4 _)|w0]
  rintro n s3 ⟨i,H3,Kv,xs,ob,es,ep,I3,st3,fr3,pl3,ex3,dt3,ee3,rv3,nd3,hD3,w3⟩;show wpAny _ X.A ((compTurn (.DictComp kx vx [%[tg,iter,ifs|0]] scope pos) 0 (.ref it) (.ref D) (compEnvC scope (aH X.env scope.names []) C X.env)).onRaise (λ x=>do noteFrame x (compEnvC scope (aH X.env scope.names []) C X.env);theTreesLotGoes x)) _ _ s3;apply wpAny_noted ?_;rw[compTurn_dict];apply A0 (LM (A0 ?_));have I3':Inv (av X Ku s2 H2 scope C (own ++ cs) fp) [(D,ob)] (aA σ cap own.length) H3 s3 :=
   I3.pins_of λ p hp=>by
    have:p=(D,ob):=by simpa using hp
    subst this;exact%[pl3,hD3,hDC,Dfs|λ v z=>by rw[dt3]at z;cases z]
  obtain⟨kept,tt3⟩:=turn i n Kv H3 w3;rcases tt3 with⟨stop,hz,qf⟩ | ⟨go,hz,step⟩
  ·apply thn (T.done (av X Ku s2 H2 scope C (own ++ cs) fp) rfl rfl rfl hc i _ s3 _ H3 _ I3' (stat fr3) st3 stop) λ r s4 %[hr|I4]=>?_;subst hr;apply A3 (hRR D C s4 %[%[Kv,H3,hD3,qf,?_|?_]|?_])
   ·have pl4:=(I4.pin (D,_) (A6 _ (E4.mpr rfl))).1;have u4:=I4.base;have Ds2:s2.heap.get? D=none:=Lo (by rw[hD];exact B4 _);apply I.call' (s':=s4) (ch:=fp) I4.os %[u4.keep,u4.slot,λ b o e n hx=>?_,u4.there,λ b xs e=>?_,λ b o u e=>?_|λ b ps e=>?_] ?_ I4.bare λ b hb=>%[(hf b hb).2.2.2.1,(hf b hb).2.1,(hf b hb).2.2.2.2.1|(hf b hb).2.2.2.2.2]
    ·rw[ah (λ z=>by rw[z,Ds2]at e;cases e)];exact u4.free b o e n hx
    ·have:=u4.tups b xs e;rw[ah (ae this hD3)];exact this
    ·have:=u4.frzs b o u e;rw[ah (ae this hD3)];exact this
    ·obtain⟨more,e'⟩:=u4.tbls b ps e;exact%[more|by rw[ah (ae e' hD3)];exact e']
    ·exact I4.hok.add hD3 %[by rw[kvR,B5];exact hz,hsys,xs,rv3.kt kept hD3,ob,es,ep,pl4,ex3,dt3,ee3|rv3.nodup nd3]
   ·have CH:(upd H3 D (.dT (kvR Kv))) C=none:=by rw[ah (Ne.symm hDC)];exact I4.free
    exact I.fpOk (H':=upd H3 D (.dT (kvR Kv))) (by rw[hD];exact hCle) CH
   ·obtain⟨m,hn,_⟩:=I4.loc;exact%[m|hn]
  ·apply thn (T.item (av X Ku s2 H2 scope C (own ++ cs) fp) rfl rfl rfl hc i _ s3 _ H3 _ I3' (stat fr3) st3 go) λ r s4 %[u,hr|h4]=>?_;subst hr;apply A0 (thn h4 λ _ s5 %[x,H5,I5,r5,y5,st5|fr5]=>?_);have I5':=I5.pinned (stat fr5) (T.obj _ _ st5);apply A0 (K6 (hg C _ s5 _ H5 x u _ I5' r5 (step x H5 y5)) (λ _ s6 ⟨σ6,H6,I6,le6,q6⟩=>?_) λ _ _ z=>E9 z);apply A0 (K6 (hi C _ s6 σ6 H6 _ I6 q6) (λ b s7 ⟨H7,I7,q7⟩=>?_) λ _ _ z=>E9 z);have back:∀ {pins':Ks (Ko×Obj)} {H8:Hp} {s8:IN},Inv (av X Ku s2 H2 scope C (own ++ cs) fp) pins' σ6 H8 s8->Inv (av X Ku s2 H2 scope C (own ++ cs) fp) [] (aA σ cap own.length) H8 s8:=λ I8=>
    I8.bareP.weak le6.1.symm λ i v e=>le6.2 i v e
   cases b with
   | false=>
    rw[Ky B3]at q7;obtain⟨m',hm,w7⟩:=q7;apply A3 %[rfl,m',hm,i+1,H7,Kv,xs,ob,es,ep,back I7,T.keep _ _ _ st5 λ b hb o e=>?_,λ b hb=>?_,?_,ex3,dt3,ee3,rv3,nd3,?_|w7]
    ·exact(I7.pin (b,o) (A6 _ (A6 _ (ax hb e)))).1
    ·obtain⟨o,e,d⟩:=T.obj _ _ st5 b hb;exact(I7.pin (b,o) (A6 _ (A6 _ (ax hb e)))).2.1
    ·exact(I7.pin (D,_) (A6 _ (B8 _ (E4.mpr rfl)))).1
    ·exact(I7.pin (D,_) (A6 _ (B8 _ (E4.mpr rfl)))).2.1
   | true=>
    rw[Kz rfl]at q7;apply A0 (A0 (K6 (hk C _ s7 σ6 H7 _ I7 q7) (λ y s8 ⟨v,H8,I8,r8,q8⟩=>?_) λ _ _ z=>E9 z));apply A0 (K2 (K6 (he C _ s8 σ6 H8 _ I8 q8) (λ y2 s9 ⟨v2,H9,I9,r9,bb,kk,ev,hb9,new,m',hm,w9⟩=>?_) λ _ _ z=>E9 z));subst ev;obtain rfl:y=Value.ref bb:=r8;have pD:=I9.pin (D,ob) (A6 _ (B8 _ (E4.mpr rfl)));obtain⟨kept9,_⟩:=turn (i+1) m' _ H9 w9;have keep9:∀r∈Kv,H9 r.1= ~~~(r.2.1.map kV):=λ r hr=>kept9 r (B8 _ hr);have his:∀x∈xs,(tupleKind (aR X.prog X.w)).is s9.heap x.1 x.2.1:=λ x hx=>by obtain⟨r,hr,e1,e2⟩:=rv3.of_mem hx;rw[e1,e2];exact dY I9.hok (keep9 r hr)
    have hno:atKey xs kk=none:=rv3.no new;apply A0 (LM (K2 (wpAny_dictSet_heap (hsz:=by rw[<- rv3.len];lia) (xs:=xs) (show X.A.units < cLine from Nat.lt_of_succ_lt hu) (dY I9.hok hb9) %[ob,es,ep,pD.1,ex3,dt3,ee3,his|rv3.nodup nd3] λ h9 dd sb9=>A3 ?_)));rw[storedH_new hno]at dd;obtain⟨o9,es9,ep9,hq9,ex9,dt9,ee9,_,nd9⟩:=dd;have I9':=back I9;apply%[Y,m',hm,i+1,H9,Kv ++ [(bb,kk,v2)],xs ++ [(kk,bb,y2)],o9,es9,ep9,?_,T.keep _ _ _ st5 λ b hb o e=>?_,λ b hb=>?_,hq9,ex9,dt9,ee9,rv3.snoc r9,?_,pD.2.1|w9]
    ·exact I9'.turned (t':=_) (λ b o hb e=>sb9.extBut b o hb e) pD.2.1 hDC (.inr (by show s2.heap.objs.size<=D;rw[hD];exact B4 _)) (λ x c e=>C1 (clt x c e)) λ p hp=>by
      have hp':p∈X.pn ++ Ku:=by have:p∈(X.pn ++ Ku) ++ []:=hp;simpa using this
      exact C1 (plt p hp')
    ·exact sb9.extBut b o (Ne.symm (Dfp b hb)) (I9.pin (b,o) (A6 _ (A6 _ (ax hb e)))).1
    ·obtain⟨o,e,d⟩:=T.obj _ _ st5 b hb;exact(I9.pin (b,o) (A6 _ (A6 _ (ax hb e)))).2.1
    ·rw[JE,List.nodup_append];apply%[nd3,by simp|?_];intro x hx y hy;simp only[JA,Jj,E4]at hy;subst hy;exactλ e=>new (e ▸ hx)
 exact codeAny_compStart_dict loop (T.self _ 0 _ _ _ (T.keep 0 _ _ st λ b _ o e=>old b o e) loop)
def yC (wi:TI) (cap:Ks Nat) (k:Nat) (g:TG) (tt:TT) (tk tv:TE):TE:=λ σ H Q=>wi σ H λ J H1=>
 ∃W:Nat->Nat->Ks Rw->Hp->Prop,(∃m,W 0 m [] H1)/\qg σ cap k J g tt tk tv (λ Kv H'=>∀p,H' p=none->Q (.ref p) (upd H' p (.dT (kvR Kv)))) W
theorem mK {wi:TI} (hc:X.calm=true) (hu:X.A.units+1 < cLine) (hit:PI X tg iter wi) (ok:CompOk X scope own cs cap)
  (hg:∀Ku s2 H2 C fp,PG (av X Ku s2 H2 scope C (own ++ cs) fp) tg g) (hi:∀Ku s2 H2 C fp,fR (av X Ku s2 H2 scope C (own ++ cs) fp) ifs tt) (hk:∀Ku s2 H2 C fp,PE (av X Ku s2 H2 scope C (own ++ cs) fp) kx tk) (he:∀Ku s2 H2 C fp,PE (av X Ku s2 H2 scope C (own ++ cs) fp) vx tv)
  (hs:∀x,foldedSetIterable iter X.env x=pure x:=by intro _;rfl):PE X (.DictComp kx vx [%[tg,iter,ifs|0]] scope pos) (yC wi cap own.length g tt tk tv):=by
 intro Ku s σ H Q I h;rw[arm_eval_DictComp];apply LP (use:=none) rfl hs (cH λ y hy e=>I.ok.has y.1 (ok.free y hy e)) ok.kind ok.names (thn (hit Ku s σ H _ I h) λ v s1 h1=>thn h1 λ itv s2 h2=>?_);obtain⟨it,fp,tn,J,H2,e,I2,T,st2,f2,W,w0,turn⟩:=h2;subst e;apply rC (RR:=λ acc C=>compPost (model X.prog X.w) X.A X.xe none (EP X Ku σ Q) acc C) I2 ok hc hu T st2 f2 (λ C=>hg _ _ _ _ _) (λ C=>hi _ _ _ _ _) (λ C=>hk _ _ _ _ _) (λ C=>he _ _ _ _ _) w0 turn λ D C s' B=>?_;obtain⟨⟨Kv,H',hD,q,I',fp'⟩,m,hn⟩:=B;obtain⟨f0,f1,f2',f3,f4,f5⟩:=fp';exact%[m,hn|λ h' sb=>%[.ref D,_,I'.turned (t':=s'.toks) (λ b o hb e=>sb.extBut b o hb e) f0 f1 f3 f4 f5,Y|q D hD]]
end
section
variable {X:Cx}
theorem fG (hc:X.calm=true):bM X (.type "list") (λ xs H Q=>∃a kvs,xs=[V.ref a]/\Rd H a (.dT kvs)/\∀l as,H l=none->Paired (λ(b:Ko) (kv:Ks Key×V)=>H b= ~~~(kv.1.map kV)) as kvs->Q (.ref l) (upd H l (.lst (as.map V.ref)))):=by
 intro Ku s σ H xs us Q I r h;obtain⟨a,kvs,rfl,ha,q⟩:=h;obtain⟨u,rfl,ru⟩:=cM r;cases ru;obtain⟨hz,hs,ys,pr,o,es,ep,h1,h2,h3,h4,h5⟩:=(show ObjOk X.prog X.w H s.heap a (.dT kvs)from ha.ok I.hok)
 have yl:kvs.length=ys.length:=gM pr;have el:es.size=kvs.length:=by rw[yl,<- JR,h4,B5]
 apply PySem.W.kdl_call (AS (d:=a) (es:=es) (ep:=ep) hs) (I.ok.hd hc) %[o,h1,h2|h3] ⋯ λ h' tk acc c hk hL hacc=>?_;have ea:acc.toList=(ys.map (·.2.1)).map Value.ref:=by
  apply List.ext_getElem? λ j=>?_;rw[IY,IY,JB]
  by_cases cc:j < es.size
  ·have c2:j < acc.size:=by rw[hacc.1];exact cc
   obtain⟨en,e1,e2⟩:=hacc.2 j acc[j] (JN c2);rw[<- JB,h4,IY]at e1;cases ey:ys[j]? with
   | none=>rw[ey]at e1;cases e1
   | some y=>
    rw[ey]at e1;cases e1;rw[JN c2,<- e2]
    rfl
  ·rw[JU (by rw[hacc.1];lia),Jw ⋯]
   rfl
 have pk:Paired (λ(b:Ko) (kv:Ks Key×V)=>H b= ~~~(kv.1.map kV)) (ys.map (·.2.1)) kvs:=by
  clear ea hacc hL h4 yl el q h5 hz ha
  induction pr with
  | nil=>exact .nil
  | cons x _ ih=>exact .cons x.2.1 ih
 apply%[.ref s.heap.objs.size,_,I.laid (t':=tk) hk (B4 _) (show ObjOk X.prog X.w _ h' _ (.lst ((ys.map (·.2.1)).map V.ref))from%[by rw[B5,B5];lia,acc.toList,c,?_|by rw[Array.toArray_toList];exact hL]),Y|q _ _ (I.hok.fresh (B4 _)) pk];rw[ea];exact dF _
end
def NxD (n:Nat) (Pv:Nat->Ks Rw->Hp->Prop) (i:Nat) (Kv:Ks Rw) (H:Hp):Prop:=∃m',m' < n - i/\m'=n - (i+1)/\i+1<=n/\Pv (i+1) Kv H
theorem NxD.of {n i:Nat} {Pv:Nat->Ks Rw->Hp->Prop} {Kv:Ks Rw} {H:Hp} (h:i < n) (p:Pv (i+1) Kv H):NxD n Pv i Kv H:=%[n - (i+1),⋯,Y,h|p]
theorem om {K:C6} {a:Ko} {xs:Ks V} {σ:St} {cap:Ks Nat} {k:Nat} {g:TG} {tt:TT} {tk tv:TE} {Q:Ks Rw->Hp->Prop} {H:Hp} (hs:H a=↥xs) (Pv:Nat->Ks Rw->Hp->Prop)
  (hk:∀i Kv H',i<=xs.length->Pv i Kv H'->H' a=↥xs/\∀r∈Kv,H' r.1= ~~~(r.2.1.map kV)) (h0:Pv 0 [] H)
  (ht:∀i x Kv H',xs[i]?=some x->Pv i Kv H'->Kv.length < sizeLine/\g x (aA σ cap k) H' λ σ2 H2=>leS (aA σ cap k) σ2/\tt σ2 H2 λ ok H3=>if ok=true then tk σ2 H3 (λ kv H4=>tv σ2 H4 λ v H5=>∃b ks,kv=.ref b/\H5 b= ~~~(ks.map kV)/\ks∉Kv.map (·.2.1)/\NxD xs.length Pv i (Kv ++ [(b,ks,v)]) H5)else NxD xs.length Pv i Kv H3)
  (hd:∀Kv H',Pv xs.length Kv H'->Kv.length<=sizeLine/\Q Kv H') :
  ∃W,(∃m,W 0 m [] H)/\qg σ cap k (Itl K a) g tt tk tv Q W:=by
 apply%[λ i m Kv H'=>m=xs.length - i/\i<=xs.length/\Pv i Kv H',%[_,Y,G0 _|h0]|?_];rintro i m Kv H' ⟨rfl,hi,p⟩;obtain⟨z',kp⟩:=hk i Kv H' hi p;apply%[kp|?_]
 by_cases hin:i < xs.length
 ·obtain⟨e,hg⟩:=ht i xs[i] Kv H' (by simp[hin]) p;apply .inr %[%[xs,xs[i],IV z'|by simp[hin]],e|λ x H2 yl=>?_];obtain⟨e1,e2⟩:=yl;have e3:=e2 xs (IV z');have e4:x=xs[i]:=by simpa[hin]using e3.symm
  subst e1 e4;exact hg
 ·have e:i=xs.length:=⋯
  subst e;obtain⟨a1,a2⟩:=hd Kv H' p;exact .inl %[%[xs,IV z'|B4 _],a1|a2]
theorem mL {a:Ko} {ob:Obj} {kvs:Ks (Ks Key×V)} {σ:St} {cap:Ks Nat} {k:Nat} {g:TG} {tt:TT} {tk tv:TE} {Q:Ks Rw->Hp->Prop} {H:Hp} (Pv:Nat->Ks Rw->Hp->Prop) (h0:Pv 0 [] H)
  (hl:∀i Kv H',i<=kvs.length->Pv i Kv H'->H' a=some (.frz ob (.dT kvs))/\∀r∈Kv,H' r.1= ~~~(r.2.1.map kV))
  (ht:∀i kk v p q Kv H',kvs[i]?=some (kk,v)->H' p=none->H' q= ~~~(kk.map kV)->Pv i Kv H'->g (.ref p) (aA σ cap k) (upd H' p (.tup [.ref q,v])) λ σ2 H2=>leS (aA σ cap k) σ2/\tt σ2 H2 λ ok H3=>if ok=true then tk σ2 H3 (λ kv H4=>tv σ2 H4 λ v H5=>∃b ks,kv=.ref b/\H5 b= ~~~(ks.map kV)/\ks∉Kv.map (·.2.1)/\NxD kvs.length Pv i (Kv ++ [(b,ks,v)]) H5)else NxD kvs.length Pv i Kv H3)
  (hz:∀i Kv H',i < kvs.length->Pv i Kv H'->Kv.length < sizeLine) (hd:∀Kv H',Pv kvs.length Kv H'->Kv.length<=sizeLine/\Q Kv H'):∃W,(∃m,W 0 m [] H)/\qg σ cap k (Iti a ob kvs) g tt tk tv Q W:=by
 apply%[λ i m Kv H'=>m=kvs.length - i/\i<=kvs.length/\Pv i Kv H',%[_,Y,G0 _|h0]|?_];rintro i m Kv H' ⟨rfl,hi,p⟩;obtain⟨z',kp⟩:=hl i Kv H' hi p;apply%[kp|?_]
 by_cases hin:i < kvs.length
 ·apply .inr %[%[hin|z'],hz i Kv H' hin p|λ x H2 yl=>?_];obtain⟨pa,q,k',v',e1,e2,e3,e4,e5⟩:=yl;subst e4 e5;exact ht i k' v' pa q Kv _ e1 e2 e3 p
 ·have e:i=kvs.length:=⋯
  subst e;obtain⟨a1,a2⟩:=hd Kv H' p;exact .inl %[%[Y|z'],a1|a2]
section
variable {X:Cx}
def wR (tk tv:TE):TE:=λ σ H Q=>∀p,H p=none->tk σ (upd H p (.dT [])) λ x H1=>tv σ H1 λ y H2=>H2 p=some (.dT [])/\∃b ks,x=.ref b/\H2 b= ~~~(ks.map kV)/\Q (.ref p) (upd H2 p (.dT [(ks,y)]))
theorem rD {kx vx:Expr} {tk tv:TE} {pos:Pos} (hu:X.A.units < cLine) (hk:PE X kx tk) (hv:PE X vx tv):PE X (.Dict [some kx] [vx] pos) (wR tk tv):=by
 intro Ku s σ H Q I h;have hb:sysModules < s.heap.objs.size:=Ki (show sysModules < Kt by decide) (I.mod.glob.keeps I.bk).lt;have hn:=I.hok.fresh (B4 s.heap.objs.size);have hd:(s.heap.objs.size == sysModules)=false:=LJ.mpr (JW hb);have I1:Inv X Ku σ (upd H s.heap.objs.size (.dT [])) { s with heap:=s.heap.push { cls:=.type "dict",data:=.dict #[] } } :=
  I.laid (a:=s.heap.objs.size) (o:=.dT []) (t':=s.toks) (λ _ _ q=>A8 _ q) (B4 _) (mB s.heap I.big)
 apply wpAny_Dict_any rfl rfl (by simp) (by show 1<=15;decide) (pairTrees_cons_walk (thn (hk Ku _ σ _ _ I1 (h _ hn)) λ u s1 %[x,H1,J1,rx|q1]=>thn (hv Ku s1 σ H1 _ J1 q1) λ w2 s2 %[y,H2,J2,ry,e,kt,ks,ex,ek|q2]=>pairTrees_nil_walk ?_));subst ex;cases rx;obtain⟨_,_,xs,rel,dm⟩:=pW J2.hok e;cases rel;have ne:kt≠s.heap.objs.size:=λ z=>by rw[z,e]at ek;cases ek
 unfold storeAll;apply wpAny_forIn_list _ (λ rest (_:PUnit) s'=>(rest=[(Value.ref kt,w2)]/\s'=s2)\/(rest=[]/\∃v H,Inv X Ku σ H s'/\RelV v (.ref s.heap.objs.size)/\Q v H)) _ ?_ ?_ _ _ (.inl %[Y|Y])
 ·rintro x rest b s' (⟨e1,rfl⟩ | ⟨e1,_⟩)
  ·cases e1;apply A0 (wpAny_dictSet_heap (knd:=tupleKind (aR X.prog X.w)) (hsz:=G0 _) hu (dY J2.hok ek) dm λ h' dd' hs=>A3 (.inr %[Y|?_]));apply%[.ref s.heap.objs.size,_,?_,Y|q2];obtain⟨o',es',ep',g0',g1',g2',g3',_,g4'⟩:=dd';apply J2.write (x:=s.heap.objs.size) (e:=s.heap.objs.size) (by rw[e];exact True.intro) (.inl rfl) (λ b q hb z=>(hs.2 b hb).trans z) %[_|g0'] ?_;exact%[by show 1<=sizeLine;decide,hd,[(ks,kt,w2)],.cons %[Y,by rw[ah ne];exact ek|ry] .nil,o',es',ep',g0',g1',g2',g3'|g4']
  ·cases e1
 ·rintro b s' (⟨e1,_⟩ | ⟨_,r⟩)
  ·cases e1
  ·exact r
end
def AT (l1 l2 l3:Ko):It :=
  ⟨λ i H=>∃xs ys zs x y w,H l1= ~~~xs/\H l2= ~~~ys/\H l3= ~~~zs/\xs[i]?=some x/\ys[i]?=some y/\zs[i]?=some w,
   λ i H v H'=>∃p xs ys zs x y w,H p=none/\v=.ref p/\H'=upd H p (.tup [x,y,w])/\H l1= ~~~xs/\H l2= ~~~ys/\H l3= ~~~zs/\xs[i]?=some x/\ys[i]?=some y/\zs[i]?=some w,
   λ i H=>∃xs ys zs,H l1= ~~~xs/\H l2= ~~~ys/\H l3= ~~~zs/\xs.length<=i⟩
def yD (ta:TA):TI:=λ σ H R=>ta σ H λ vs H1=>∃l1 l2 l3 xs ys zs,vs=[.ref l1,.ref l2,.ref l3]/\H1 l1= ~~~xs/\H1 l2= ~~~ys/\H1 l3= ~~~zs/\R (AT l1 l2 l3) H1
theorem uT {X:Cx} {a b c:Expr} {ta:TA} {p pos tp:Pos} {es:Ks Expr} {kk:Nat} (hg:Gl X "zip") (hm:X.mg "zip" = none) (ha:PA X [a,b,c] ta)
  (hs:starEach [a,b,c] X.env=[(false,eval a X.env),(false,eval b X.env),(false,eval c X.env)]:=by rfl) (hs2:starEach [b,c] X.env=[(false,eval b X.env),(false,eval c X.env)]:=by rfl) :
  PI X (.Tuple es kk tp) (.Call (.Name "zip" p) [a,b,c] [] pos) (yD ta):=by
 apply hG hg hm ha (by rw[hs,hs2]) (by rw[hs2];rfl) 2 ⋯ (λ vs hv=>?_) λ vs H1 R %[l1,l2,l3,xs,ys,zs,e,e1,e2,e3|q]=>%[[(true,l1),(true,l2),(true,l3)],_,Y,e,?_,q,?_,?_|?_]
 ·match vs,hv with
  | [x,y,z],_=>exact%[by kernel_rfl,by kernel_rfl|λ obj=>de obj _ _ _]
 ·simp only[IZ,JQ,LO];rintro p (rfl | rfl | rfl)
  ·exact%[_|e1]
  ·exact%[_|e2]
  ·exact%[_|e3]
 ·rintro i H ⟨xs,ys,zs,x,y,z,a1,a2,a3,b1,b2,b3⟩;exact%[[x,y,z],%[%[_,a1|b1],%[_,a2|b2],%[_,a3|b3]|Y]|Y]
 ·rintro i H v H' ⟨p,vs,a0,rfl,rfl,r,hl⟩
  match vs,r,hl with
  | [x,y,z],⟨⟨xs,a1,b1⟩,⟨ys,a2,b2⟩,⟨zs,a3,b3⟩,_⟩,_=>exact%[p,xs,ys,zs,x,y,z,a0,Y,Y,a1,a2,a3,b1,b2|b3]
 ·rintro i H ⟨xs,ys,zs,a1,a2,a3,h⟩;apply%[[],%[%[_,a1|h]|?_]|by simp];simp only[IZ,JQ,LO];rintro q (rfl | rfl)
  ·exact%[_|a2]
  ·exact%[_|a3]
theorem oo {l1 l2 l3:Ko} {xs ys zs:Ks V} {σ:St} {cap:Ks Nat} {k:Nat} {g:TG} {tt:TT} {te:TE} {Q:Ks V->Hp->Prop} {H:Hp} (Pv:Nat->Ks V->Hp->Prop) (hn:xs.length=ys.length) (hn':xs.length=zs.length)
  (hk:∀i us H',Pv i us H'->H' l1= ~~~xs/\H' l2= ~~~ys/\H' l3= ~~~zs) (h0:Pv 0 [] H)
  (hz:∀i us H',i < xs.length->Pv i us H'->us.length < sizeLine)
  (ht:∀i x y w p us H',xs[i]?=some x->ys[i]?=some y->zs[i]?=some w->H' p=none->Pv i us H'->g (.ref p) (aA σ cap k) (upd H' p (.tup [x,y,w])) λ σ2 H2=>leS (aA σ cap k) σ2/\tt σ2 H2 λ ok H3=>if ok=true then te σ2 H3 (λ v H4=>Nx xs.length Pv i (us ++ [v]) H4)else Nx xs.length Pv i us H3)
  (hd:∀us H',Pv xs.length us H'->us.length<=sizeLine/\Q us H'):∃W,(∃m,W 0 m [] H)/\cX σ cap k (AT l1 l2 l3) g tt te Q W:=by
 apply%[λ i m us H'=>m=xs.length - i/\i<=xs.length/\Pv i us H',%[_,Y,G0 _|h0]|?_];rintro i m us H' ⟨rfl,hi,p⟩;obtain⟨e1,e2,e3⟩:=hk i us H' p
 by_cases hlt:i < xs.length
 ·have hx:xs[i]?=some xs[i]:=by simp[hlt]
  have hy:ys[i]?=some (ys[i]'⋯):=by simp[show i < ys.length by lia]
  have hw:zs[i]?=some (zs[i]'⋯):=by simp[show i < zs.length by lia]
  apply .inr %[%[xs,ys,zs,_,_,_,e1,e2,e3,hx,hy|hw],hz i us H' hlt p|λ v H2 yl=>?_]
  ·obtain⟨q,xs',ys',zs',x,y,w,hq,rfl,rfl,e1',e2',e3',ex,ey,ew⟩:=yl;rw[e1]at e1';cases e1';rw[e2]at e2';cases e2';rw[e3]at e3';cases e3';exact ht i x y w q us H' ex ey ew hq p
 ·have e:i=xs.length:=⋯
  subst e;obtain⟨a1,a2⟩:=hd us H' p;exact .inl %[%[xs,ys,zs,e1,e2,e3|B4 _],a1|a2]
def AU (l1 l2:Ko):It :=
  ⟨λ i H=>∃xs ys x y,H l1= ~~~xs/\H l2= ~~~ys/\xs[i]?=some x/\ys[i]?=some y,
   λ i H v H'=>∃p xs ys x y,H p=none/\v=.ref p/\H'=upd H p (.tup [x,y])/\H l1= ~~~xs/\H l2= ~~~ys/\xs[i]?=some x/\ys[i]?=some y,
   λ i H=>∃xs ys,H l1= ~~~xs/\H l2= ~~~ys/\xs.length<=i⟩
def yE (ta:TA):TI:=λ σ H R=>ta σ H λ vs H1=>∃l1 l2 xs ys,vs=[.ref l1,.ref l2]/\H1 l1= ~~~xs/\H1 l2= ~~~ys/\R (AU l1 l2) H1
theorem mM {X:Cx} {a b:Expr} {ta:TA} {p pos tp:Pos} {es:Ks Expr} {kk:Nat} (hg:Gl X "zip") (hm:X.mg "zip" = none) (ha:PA X [a,b] ta)
  (hs:starEach [a,b] X.env=[(false,eval a X.env),(false,eval b X.env)]:=by rfl) (hs2:starEach [b] X.env=[(false,eval b X.env)]:=by rfl) :
  PI X (.Tuple es kk tp) (.Call (.Name "zip" p) [a,b] [] pos) (yE ta):=by
 apply hG hg hm ha (by rw[hs,hs2]) (by rw[hs2];rfl) 1 ⋯ (λ vs hv=>?_) λ vs H1 R %[l1,l2,xs,ys,e,e1,e2|q]=>%[[(true,l1),(true,l2)],_,Y,e,?_,q,?_,?_|?_]
 ·match vs,hv with
  | [x,y],_=>exact%[F.typeCall_zip_2 _ _,F.newCall_zip_2 _ _|λ obj=>F.args_object_init_3 obj _ _]
 ·simp only[IZ,JQ,LO];rintro p (rfl | rfl)
  ·exact%[_|e1]
  ·exact%[_|e2]
 ·rintro i H ⟨xs,ys,x,y,a1,a2,b1,b2⟩;exact%[[x,y],%[%[_,a1|b1],%[_,a2|b2]|Y]|Y]
 ·rintro i H v H' ⟨p,vs,a0,rfl,rfl,r,hl⟩
  match vs,r,hl with
  | [x,y],⟨⟨xs,a1,b1⟩,⟨ys,a2,b2⟩,_⟩,_=>exact%[p,xs,ys,x,y,a0,Y,Y,a1,a2,b1|b2]
 ·rintro i H ⟨xs,ys,a1,a2,h⟩;apply%[[],%[%[_,a1|h]|?_]|by simp];simp only[IZ,JQ,LO];rintro q rfl;exact%[_|a2]
theorem iX {l1 l2:Ko} {xs ys:Ks V} {σ:St} {cap:Ks Nat} {k:Nat} {g:TG} {tt:TT} {te:TE} {Q:Ks V->Hp->Prop} {H:Hp} (Pv:Nat->Ks V->Hp->Prop) (hn:xs.length=ys.length)
  (hk:∀i us H',Pv i us H'->H' l1= ~~~xs/\H' l2= ~~~ys) (h0:Pv 0 [] H)
  (hz:∀i us H',i < xs.length->Pv i us H'->us.length < sizeLine)
  (ht:∀i x y p us H',xs[i]?=some x->ys[i]?=some y->H' p=none->Pv i us H'->g (.ref p) (aA σ cap k) (upd H' p (.tup [x,y])) λ σ2 H2=>leS (aA σ cap k) σ2/\tt σ2 H2 λ ok H3=>if ok=true then te σ2 H3 (λ v H4=>Nx xs.length Pv i (us ++ [v]) H4)else Nx xs.length Pv i us H3)
  (hd:∀us H',Pv xs.length us H'->us.length<=sizeLine/\Q us H'):∃W,(∃m,W 0 m [] H)/\cX σ cap k (AU l1 l2) g tt te Q W:=by
 apply%[λ i m us H'=>m=xs.length - i/\i<=xs.length/\Pv i us H',%[_,Y,G0 _|h0]|?_];rintro i m us H' ⟨rfl,hi,p⟩;obtain⟨e1,e2⟩:=hk i us H' p
 by_cases hlt:i < xs.length
 ·have hx:xs[i]?=some xs[i]:=by simp[hlt]
  have hy:ys[i]?=some (ys[i]'⋯):=by simp[show i < ys.length by lia]
  apply .inr %[%[xs,ys,_,_,e1,e2,hx|hy],hz i us H' hlt p|λ v H2 yl=>?_]
  ·obtain⟨q,xs',ys',x,y,hq,rfl,rfl,e1',e2',ex,ey⟩:=yl;rw[e1]at e1';cases e1';rw[e2]at e2';cases e2';exact ht i x y q us H' ex ey hq p
 ·have e:i=xs.length:=⋯
  subst e;obtain⟨a1,a2⟩:=hd us H' p;exact .inl %[%[xs,ys,e1,e2|B4 _],a1|a2]
section
variable {X:Cx}
theorem rE (bs:Ks Bool):(List.range bs.length).any (λ i=>bs.getD i false)=bs.any id:=by
 rw[Ka,Js,Js];constructor
 ·rintro⟨i,hi,e⟩;have hi':=Jt.mp hi;rw[Jk,G2 hi']at e;exact%[_,KU hi'|e]
 ·rintro⟨b,hb,e⟩;obtain⟨i,hi,e2⟩:=KA hb;apply%[i,Jt.mpr hi|?_];rw[Jk,G2 hi];show bs[i]=true;rw[e2];exact e
def yF (K:C6):Ks V->Hp->VK->Prop:=λ xs H Q=>∃ (p:Ko) (bs:Ks Bool),xs=[.ref p]/\SqL K H p (bs.map V.bl)/\Q (.bl (bs.any id)) H
theorem fj (hc:X.calm=true):bM X (.builtin "any") (yF X.K):=by
 intro Ku s σ H xs us Q I r h;obtain⟨p,bs,rfl,hs,q⟩:=h;obtain⟨u,rfl,rfl⟩:=cM r;obtain⟨its,rv,pl,_⟩:=I.list hs;have e:=iO rv;subst e;have hlt:p < s.heap.objs.size:=by obtain⟨_,_,e,_⟩:=pl;exact B0 e
 apply call_any_walk (Lp pl.isList ?_);apply%[_,_,_,_,_,_,λ i=>bs.getD i false,Y,Walks.list (A:=X.A.in1) (I.ok.hd hc) _ p (C1 hlt) _,%[%[_,A9 _ rfl,Y|Y]|pl.isList.push _],λ i v s' Q' E' hP hQ'=>?_|λ h' tk hk=>?_]
 ·have hP':(bs.map Value.bool)[i]?=some v:=by simpa using hP
  rw[IY]at hP';cases hb:bs[i]? with
  | none=>rw[hb]at hP';cases hP'
  | some b=>
   rw[hb]at hP';cases hP';have hQ2:Q' (bs.getD i false) s':=hQ';rw[Jk,hb]at hQ2;exact G4 hQ2
 ·have e2:((bs.map Value.bool).toArray.size)=bs.length:=by simp
  rw[e2,rE];apply%[.bl (bs.any id),H,I.kept (h':=h') (t':=tk) (λ b o e=>hk b o ?_ (A8 _ e)),Y|q];intro z;rw[E4.mp z]at e;exact absurd (B0 e) (E2 _)
end
abbrev Tps (H H':Hp):Prop:=∀a xs,H a= ~~~xs->H' a= ~~~xs
theorem Same.tps {H H':Hp} (s:Same H H'):Tps H H':=λ _ _ e=>s _ _ e
def Sf (F:Ko->Prop) (H H':Hp):Prop:=∀b o,H b=some o->H' b=some o\/(F b/\∃ob kvs,o=.dT kvs/\H' b=some (.frz ob (.dT kvs)))
theorem Same.sf {F:Ko->Prop} {H H':Hp} (s:Same H H'):Sf F H H':=λ b o e=>.inl (s b o e)
theorem Sf.trans {F:Ko->Prop} {H H1 H2:Hp} (a:Sf F H H1) (b:Sf F H1 H2):Sf F H H2:=λ c o e=>by
 rcases a c o e with h | ⟨f,ob,kvs,rfl,h⟩
 ·exact b c o h
 ·rcases b c _ h with h | ⟨_,_,_,z,_⟩
  ·exact .inr %[f,ob,kvs,Y|h]
  ·cases z
theorem Sf.mono {F G:Ko->Prop} {H H':Hp} (h:∀a,F a->G a) (s:Sf F H H'):Sf G H H':=λ b o e=>(s b o e).imp id λ%[f|r]=>%[h b f|r]
theorem Sf.not {F:Ko->Prop} {H H':Hp} (s:Sf F H H') {b:Ko} {o:HO} (n:¬ F b) (e:H b=some o):H' b=some o:=(s b o e).resolve_right λ%[f|_]=>n f
theorem Sf.tps {F:Ko->Prop} {H H':Hp} (s:Sf F H H'):Tps H H':=λ b xs e=>(s b _ e).resolve_right λ%[_,_,_,z|_]=>by cases z
theorem Sf.lst {F:Ko->Prop} {H H':Hp} (s:Sf F H H') {b:Ko} {xs:Ks V} (e:H b=↥xs):H' b=↥xs:=(s b _ e).resolve_right λ%[_,_,_,z|_]=>by cases z
theorem Sf.frz {F:Ko->Prop} {H H':Hp} (s:Sf F H H') {b:Ko} {ob:Obj} {u:HO} (e:H b=some (.frz ob u)):H' b=some (.frz ob u):=(s b _ e).resolve_right λ%[_,_,_,z|_]=>by cases z
theorem Sf.rd {F:Ko->Prop} {H H':Hp} (s:Sf F H H') {b:Ko} {kvs:Ks (Ks Key×V)} (e:Rd H b (.dT kvs)):Rd H' b (.dT kvs):=by
 rcases e with e | ⟨ob,e⟩
 ·rcases s b _ e with h | ⟨_,ob,kvs',z,h⟩
  ·exact .inl h
  ·cases z;exact .inr %[ob|h]
 ·exact .inr %[ob|s.frz e]
theorem Sf.free {F:Ko->Prop} {H H':Hp} (s:Sf F H H') {b:Ko} (h:H' b=none):H b=none:=by
 cases e:H b with
 | none=>rfl
 | some o=>rcases s b o e with z | ⟨_,_,_,_,z⟩ <;> rw[h]at z <;> cases z
theorem Sf.same {F:Ko->Prop} {H H0 H':Hp} (s0:Same H H0) (s:Sf F H0 H') (n:∀a,F a->H a=none):Same H H':=λ b o e=>s.not (λ f=>by rw[n b f]at e;cases e) (s0 _ _ e)
theorem wS {a:Ko} {H:Hp} {kvs:Ks (Ks Key×V)} {R:It->Hp->Prop} (rd:Rd H a (.dT kvs)) (h:∀ob H',H' a=some (.frz ob (.dT kvs))->Sf (· = a) H H'->R (Itd a ob kvs) H') :
  (H a=some (.dT kvs)/\∀ob,R (Itd a ob kvs) (upd H a (.frz ob (.dT kvs))))\/∃ob,H a=some (.frz ob (.dT kvs))/\R (Itd a ob kvs) H:=by
 rcases rd with e | ⟨ob,e⟩
 ·apply .inl %[e|λ ob=>h ob _ ai λ b o eb=>?_]
  by_cases z:b=a
  ·subst z;rw[e]at eb;cases eb;exact .inr %[Y,ob,kvs,Y|ai]
  ·rw[ah z];exact .inl eb
 ·exact .inr %[ob,e|h ob H e (Same.sf (Same.refl _))]
theorem DGet.r {H:Hp} {a b:Ko} {kvs:Ks (Ks Key×V)} {k:Ks Key} (e:Rd H a (.dT kvs)) (eb:H b= ~~~(k.map kV)):DGet H a (.ref b) (bG kvs k):=.inr %[kvs,k,b,e,Y,eb|Y]
def Sg (F:Ko->Prop) (st:Ko) (H H':Hp):Prop:=∀b o,H b=some o->H' b=some o\/(F b/\∃ob kvs,o=.dT kvs/\H' b=some (.frz ob (.dT kvs)))\/(b=st/\∃kvs kvs',o=.dT kvs/\Rd H' b (.dT kvs'))
theorem Sf.sg {F:Ko->Prop} {st:Ko} {H H':Hp} (s:Sf F H H'):Sg F st H H':=λ b o e=>(s b o e).imp id .inl
theorem Same.sg {F:Ko->Prop} {st:Ko} {H H':Hp} (s:Same H H'):Sg F st H H':=λ b o e=>.inl (s b o e)
theorem Sg.refl {F:Ko->Prop} {st:Ko} (H:Hp):Sg F st H H:=λ _ _ e=>.inl e
theorem Sg.put {F:Ko->Prop} {st:Ko} {H:Hp} {kvs kvs':Ks (Ks Key×V)} (h:H st=some (.dT kvs)):Sg F st H (upd H st (.dT kvs')):=λ b o e=>by
 by_cases z:b=st
 ·subst z;rw[h]at e;cases e;exact .inr (.inr %[Y,kvs,kvs',Y|.inl ai])
 ·rw[ah z];exact .inl e
theorem Sg.trans {F:Ko->Prop} {st:Ko} {H H1 H2:Hp} (a:Sg F st H H1) (b:Sg F st H1 H2):Sg F st H H2:=λ c o e=>by
 rcases a c o e with h | ⟨f,ob,kvs,rfl,h⟩ | ⟨rfl,kvs,kvs',rfl,h⟩
 ·exact b c o h
 ·rcases b c _ h with h | ⟨_,_,_,z,_⟩ | ⟨_,_,_,z,_⟩
  ·exact .inr (.inl %[f,ob,kvs,Y|h])
  ·cases z
  ·cases z
 ·apply .inr (.inr %[Y,kvs|?_]);rcases h with h | ⟨ob,h⟩
  ·rcases b c _ h with h | ⟨_,ob,k2,z,h⟩ | ⟨_,_,k2,z,h⟩
   ·exact%[kvs',Y|.inl h]
   ·exact%[k2,Y|.inr %[ob|h]]
   ·exact%[k2,Y|h]
  ·rcases b c _ h with h | ⟨_,_,_,z,_⟩ | ⟨_,_,_,z,_⟩
   ·exact%[kvs',Y|.inr %[ob|h]]
   ·cases z
   ·cases z
theorem Sg.keep {F:Ko->Prop} {st:Ko} {H H':Hp} (s:Sg F st H H') {b:Ko} {o:HO} (n:∀kvs,o≠.dT kvs) (e:H b=some o):H' b=some o:=by
 rcases s b o e with h | ⟨_,_,kvs,z,_⟩ | ⟨_,kvs,_,z,_⟩
 ·exact h
 ·exact absurd z (n kvs)
 ·exact absurd z (n kvs)
theorem Sg.tps {F:Ko->Prop} {st:Ko} {H H':Hp} (s:Sg F st H H'):Tps H H':=λ _ _ e=>s.keep (λ _ z=>by cases z) e
theorem Sg.lst {F:Ko->Prop} {st:Ko} {H H':Hp} (s:Sg F st H H') {b:Ko} {xs:Ks V} (e:H b=↥xs):H' b=↥xs:=s.keep (λ _ z=>by cases z) e
theorem Sg.ins {F:Ko->Prop} {st:Ko} {H H':Hp} (s:Sg F st H H') {b C d:Ko} {fs:Ks (Str×V)} (e:H b=some (.ins C d fs)):H' b=some (.ins C d fs):=s.keep (λ _ z=>by cases z) e
theorem Sg.frz {F:Ko->Prop} {st:Ko} {H H':Hp} (s:Sg F st H H') {b:Ko} {ob:Obj} {u:HO} (e:H b=some (.frz ob u)):H' b=some (.frz ob u):=s.keep (λ _ z=>by cases z) e
theorem Sg.rd {F:Ko->Prop} {st:Ko} {H H':Hp} (s:Sg F st H H') {b:Ko} (n:b≠st) {kvs:Ks (Ks Key×V)} (e:Rd H b (.dT kvs)):Rd H' b (.dT kvs):=by
 rcases e with e | ⟨ob,e⟩
 ·rcases s b _ e with h | ⟨_,ob,k2,z,h⟩ | ⟨z,_⟩
  ·exact .inl h
  ·cases z;exact .inr %[ob|h]
  ·exact absurd z n
 ·exact .inr %[ob|s.frz e]
theorem Sg.not {F:Ko->Prop} {st:Ko} {H H':Hp} (s:Sg F st H H') {b:Ko} {o:HO} (n:b≠st) (nf:¬ F b) (e:H b=some o):H' b=some o:=by
 rcases s b _ e with h | ⟨f,_⟩ | ⟨z,_⟩
 ·exact h
 ·exact absurd f nf
 ·exact absurd z n
theorem Sg.sf {F:Ko->Prop} {st:Ko} {H H':Hp} (s:Sg F st H H') (n:H st=none):Sf F H H':=λ b o e=>by
 rcases s b _ e with h | f | ⟨z,_⟩
 ·exact .inl h
 ·exact .inr f
 ·rw[z,n]at e;cases e
section
variable {X:Cx}
def uU (tl:TE):TI:=λ σ H R=>tl σ H λ x H1=>∃a kvs,x=.ref a/\Rd H1 a (.dT kvs)/\∀ob H',H' a=some (.frz ob (.dT kvs))->Sf (· = a) H1 H'->R (Itd a ob kvs) H'
theorem iY {tg l:Expr} {tl:TE} (hl:PE X l tl):PI X tg l (uU tl):=by
 intro Ku s σ H R I h;have h2:PE X l (λ σ' H' Q=>∃Q1:VK,tl σ' H' Q1/\∀x H1,Q1 x H1->Q x H1):=by intro Ku s σ H Q I ⟨Q1,h1,h2⟩;apply thn (hl Ku s σ H Q1 I h1) λ v s1 z=>?_;obtain⟨x,H1,a1,a2,a3⟩:=z;exact%[x,H1,a1,a2|h2 _ _ a3]
 apply uM h2 Ku s σ H R I %[_,h|λ x H1 z=>?_];obtain⟨a,kvs,e,rd,hh⟩:=z;exact%[a,kvs,e|wS rd hh]
theorem rF {tg l:Expr} {tl:TE} (K:C6) (hK:X.K=K) (hl:PE X l tl):PI X tg l (uU tl):=iY hl
end
theorem uV {l1 l2:Ko} {xs ys:Ks V} {g:TG} {tb:TS} {D:Ends} {σ:St} {H:Hp} (Pv:Nat->St->Hp->Prop) (hn:xs.length=ys.length) (h0:Pv 0 σ H) (hk:∀i σ H',Pv i σ H'->H' l1= ~~~xs/\H' l2=↥ys)
  (ht:∀i x y p σ H,xs[i]?=some x->ys[i]?=some y->H p=none->Pv i σ H->g (.ref p) σ (upd H p (.tup [x,y])) λ σ2 H2=>tb { D with nx:=Pv (i+1),ct:=Pv (i+1),bk:=D.nx } σ2 H2) (hd:∀σ H,Pv xs.length σ H->D.nx σ H) :
  ∃W:Nat->Nat->St->Hp->Prop,(∃m,W 0 m σ H)/\∀i m σ H,W i m σ H ->
   ((wJ l1 l2).stop i H/\D.nx σ H)\/((wJ l1 l2).go i H/\∃N:St->Hp->Prop,(∀σ' H',N σ' H'->∃m',m' < m/\W (i+1) m' σ' H')/\∀x H',(wJ l1 l2).yld i H x H'->g x σ H' λ σ2 H2=>tb { D with nx:=N,ct:=N,bk:=D.nx } σ2 H2):=by
 apply%[λ i m σ H=>m=xs.length - i/\i<=xs.length/\Pv i σ H,%[xs.length,by simp,G0 _|h0]|?_];rintro i m σ H ⟨rfl,hi,p⟩;obtain⟨e1,e2⟩:=hk i σ H p
 by_cases hlt:i < xs.length
 ·apply .inr %[%[xs,ys,xs[i],ys[i]'⋯,e1,e2,by simp[hlt]|by simp[show i < ys.length by lia]],Pv (i+1),λ σ' H' p'=>%[xs.length - (i+1),⋯,Y,hlt|p']|λ v H' y=>?_];obtain⟨q,xs',ys',x,y,hq,rfl,rfl,e1',e2',ex,ey⟩:=y;rw[e1]at e1';cases e1';rw[e2]at e2';cases e2';exact ht i x y q σ H ex ey hq p
 ·have e:i=xs.length:=⋯
  subst e;exact .inl %[%[xs,ys,e1,e2|.inl (B4 _)]|hd σ H p]
def AV (l1 l2 l3:Ko):It :=
  ⟨λ i H=>∃xs ys zs x y w,H l1= ~~~xs/\H l2= ~~~ys/\H l3=↥zs/\xs[i]?=some x/\ys[i]?=some y/\zs[i]?=some w,
   λ i H v H'=>∃p xs ys zs x y w,H p=none/\v=.ref p/\H'=upd H p (.tup [x,y,w])/\H l1= ~~~xs/\H l2= ~~~ys/\H l3=↥zs/\xs[i]?=some x/\ys[i]?=some y/\zs[i]?=some w,
   λ i H=>∃xs ys zs,H l1= ~~~xs/\H l2= ~~~ys/\H l3=↥zs/\xs.length<=i⟩
def yG (ta:TA):TI:=λ σ H R=>ta σ H λ vs H1=>∃l1 l2 l3 xs ys zs,vs=[.ref l1,.ref l2,.ref l3]/\H1 l1= ~~~xs/\H1 l2= ~~~ys/\H1 l3=↥zs/\R (AV l1 l2 l3) H1
theorem uW {X:Cx} {a b c:Expr} {ta:TA} {p pos tp:Pos} {es:Ks Expr} {kk:Nat} (hg:Gl X "zip") (hm:X.mg "zip" = none) (ha:PA X [a,b,c] ta)
  (hs:starEach [a,b,c] X.env=[(false,eval a X.env),(false,eval b X.env),(false,eval c X.env)]:=by rfl) (hs2:starEach [b,c] X.env=[(false,eval b X.env),(false,eval c X.env)]:=by rfl) :
  PI X (.Tuple es kk tp) (.Call (.Name "zip" p) [a,b,c] [] pos) (yG ta):=by
 apply hG hg hm ha (by rw[hs,hs2]) (by rw[hs2];rfl) 2 ⋯ (λ vs hv=>?_) λ vs H1 R %[l1,l2,l3,xs,ys,zs,e,e1,e2,e3|q]=>%[[(true,l1),(true,l2),(false,l3)],_,Y,e,?_,q,?_,?_|?_]
 ·match vs,hv with
  | [x,y,z],_=>exact%[by kernel_rfl,by kernel_rfl|λ obj=>de obj _ _ _]
 ·simp only[IZ,JQ,LO];rintro p (rfl | rfl | rfl)
  ·exact%[_|e1]
  ·exact%[_|e2]
  ·exact%[_|e3]
 ·rintro i H ⟨xs,ys,zs,x,y,z,a1,a2,a3,b1,b2,b3⟩;exact%[[x,y,z],%[%[_,a1|b1],%[_,a2|b2],%[_,a3|b3]|Y]|Y]
 ·rintro i H v H' ⟨p,vs,a0,rfl,rfl,r,hl⟩
  match vs,r,hl with
  | [x,y,z],⟨⟨xs,a1,b1⟩,⟨ys,a2,b2⟩,⟨zs,a3,b3⟩,_⟩,_=>exact%[p,xs,ys,zs,x,y,z,a0,Y,Y,a1,a2,a3,b1,b2|b3]
 ·rintro i H ⟨xs,ys,zs,a1,a2,a3,h⟩;apply%[[],%[%[_,a1|h]|?_]|by simp];simp only[IZ,JQ,LO];rintro q (rfl | rfl)
  ·exact%[_|a2]
  ·exact%[_|a3]
theorem oq {l1 l2 l3:Ko} {xs ys zs:Ks V} {σ:St} {cap:Ks Nat} {k:Nat} {g:TG} {tt:TT} {te:TE} {Q:Ks V->Hp->Prop} {H:Hp} (Pv:Nat->Ks V->Hp->Prop) (hn:xs.length=ys.length) (hn':xs.length=zs.length)
  (hk:∀i us H',Pv i us H'->H' l1= ~~~xs/\H' l2= ~~~ys/\H' l3=↥zs) (h0:Pv 0 [] H)
  (hz:∀i us H',i < xs.length->Pv i us H'->us.length < sizeLine)
  (ht:∀i x y w p us H',xs[i]?=some x->ys[i]?=some y->zs[i]?=some w->H' p=none->Pv i us H'->g (.ref p) (aA σ cap k) (upd H' p (.tup [x,y,w])) λ σ2 H2=>leS (aA σ cap k) σ2/\tt σ2 H2 λ ok H3=>if ok=true then te σ2 H3 (λ v H4=>Nx xs.length Pv i (us ++ [v]) H4)else Nx xs.length Pv i us H3)
  (hd:∀us H',Pv xs.length us H'->us.length<=sizeLine/\Q us H'):∃W,(∃m,W 0 m [] H)/\cX σ cap k (AV l1 l2 l3) g tt te Q W:=by
 apply%[λ i m us H'=>m=xs.length - i/\i<=xs.length/\Pv i us H',%[_,Y,G0 _|h0]|?_];rintro i m us H' ⟨rfl,hi,p⟩;obtain⟨e1,e2,e3⟩:=hk i us H' p
 by_cases hlt:i < xs.length
 ·have hx:xs[i]?=some xs[i]:=by simp[hlt]
  have hy:ys[i]?=some (ys[i]'⋯):=by simp[show i < ys.length by lia]
  have hw:zs[i]?=some (zs[i]'⋯):=by simp[show i < zs.length by lia]
  apply .inr %[%[xs,ys,zs,_,_,_,e1,e2,e3,hx,hy|hw],hz i us H' hlt p|λ v H2 yl=>?_]
  ·obtain⟨q,xs',ys',zs',x,y,w,hq,rfl,rfl,e1',e2',e3',ex,ey,ew⟩:=yl;rw[e1]at e1';cases e1';rw[e2]at e2';cases e2';rw[e3]at e3';cases e3';exact ht i x y w q us H' ex ey ew hq p
 ·have e:i=xs.length:=⋯
  subst e;obtain⟨a1,a2⟩:=hd us H' p;exact .inl %[%[xs,ys,zs,e1,e2,e3|B4 _],a1|a2]
end L2
namespace PySem
open PySem.W PyProof.Rows
section
variable {prog:IP} {w:IR} {A:Around} {E:IS->IN->Prop} {s:IN}
theorem rG {it d a:Ko} {f:Bool} {oa:Obj} {i ep:Nat} {es:Kr DictEntry} {en:DictEntry} {ok ov:IS} {Q:Kq IS->IN->Prop} (hit:W.KdxIt s.heap it d i es.size ep ok ov a f) (hoa:s.heap.get? a=some oa) (hne:a≠it)
  (hm:(∃o,s.heap.get? d=some o/\o.ExactDict/\o.data=.dict es ep)) (hx:es[i]?=some en)
  (hQ:∀h',W.KdxIt h' it d (i+1) es.size ep ok ov a true ->
   h'.get? s.heap.objs.size=some { cls:=.type "tuple",data:=.seq #[en.key,en.val] }->h'.objs.size=s.heap.objs.size+1 ->
   (∀b o,b≠it->s.heap.get? b=some o->h'.get? b=some o)->Q (↑s.heap.objs.size) { s with heap:=h' }) :
  wpAny (model prog w) A (pyNext (.ref it)) Q E s:=by
 obtain⟨hp,g,dr,tk,os⟩:=s;obtain⟨od,hod,hcd,hdd⟩:=id hm;have hT:Shared.TypeIs %[hp,g,dr,tk|os] (.ref it) "dict_itemiterator" := %[_,hit|Y]
 unfold pyNext;apply A0 (Lb (wpAny_callSpecial?_slot (name:=Str.ofString "__next__") hT LA
  (G9 LA hT La ?_ (LY _))))
 apply A0 (A3 ?_);apply A0 ?_;apply A0 ?_
 first | apply A0 (K9 hT (A3 ?_)) | apply A0 (LB hT (A3 ?_))
 apply A0 (wpAny_fieldsOf hit rfl ?_);have hown:Builtin.Dict_items.ownsTuple "dict_itemiterator" = true:=∅
 simp only[hown,Lm];show wpAny _ _ (if (Value.ref d == Value.none)=true then _ else _) _ _ _;rw[Ky (show¬ ((Value.ref d == Value.none)=true)from B3)];apply A0 (A3 ?_);apply A0 (LG hod hdd ?_);have hsz:es.size=es.size:=rfl;rw[Ky (by simp)];apply A0 (A3 ?_);apply A0 (Lf hod hdd ?_);rw[Ky (by simp)];apply A3 ?_;have hlt:i < es.size:=by
  rcases Kj i es.size with h | h
  ·exact h
  ·rw[JU h]at hx;cases hx
 have hlt':i < es.size:=hlt;have hkey:es[i]=en:=by rw[JN hlt']at hx;exact C0 hx
 subst hkey;simp only[show¬ ((i:Int) < 0)from by lia,LU,Ja,JN hlt'];apply A0 ?_
 first | apply A0 (K9 hT (A3 ?_)) | apply A0 (LB hT (A3 ?_))
 apply A0 (LW hT ?_);show wpAny _ _ (setField (.ref it) 3 (rawInt ((i:Int)+1)) >>= _) _ _ %[hp,g,dr,tk|os];apply A0 (LD hit (by simp) λ h₁ he₁ hs₁=>?_)
 replace hs₁:Heap.SameBut it hp h₁:=hs₁
 replace he₁:W.KdxIt h₁ it d (i+1) es.size ep ok ov a f:=by
  have e:((i+1:Nat):Int)=(i:Int)+1:=⋯
  unfold W.KdxIt;rw[e];simpa[rawInt]using he₁
 have hT₁:Shared.TypeIs %[h₁,g,dr,tk|os] (.ref it) "dict_itemiterator" := %[_,he₁|Y]
 apply A0 (K2 ?_);apply A0 (LW hT₁ ?_);apply A0 (LW hT₁ ?_);show wpAny _ _ (Builtin.Dict_items.pairFromOwner (.ref it) 6 es[i].key es[i].val) _ _ %[h₁,g,dr,tk|os];unfold Builtin.Dict_items.pairFromOwner;apply A0 (wpAny_newTuple ?_);have he₂:W.KdxIt (h₁.push { cls:=.type "tuple",data:=.seq #[es[i].key,es[i].val] }) it d (i+1) es.size ep ok ov a f:=A8 _ he₁;generalize hh₂:h₁.push { cls:=.type "tuple",data:=.seq #[es[i].key,es[i].val] }=h₂ at he₂;have hz₁:h₁.objs.size=hp.objs.size:=hs₁.1;have hil:it < hp.objs.size:=B0 hit;have ht₂:h₂.get? hp.objs.size=some { cls:=.type "tuple",data:=.seq #[es[i].key,es[i].val] }:=by rw[<- hh₂,<- hz₁];exact A9 _ rfl
 have hz₂:h₂.objs.size=hp.objs.size+1:=by rw[<- hh₂,K3,hz₁]
 have hk₂:∀b o,b≠it->hp.get? b=some o->h₂.get? b=some o:=λ b o hb e=>by rw[<- hh₂];exact A8 _ (hs₁.extBut b o hb e)
 show wpAny _ _ (Builtin.Dict_items.ownedTupleIsFree (.ref it) >>= _) _ _ %[h₂,g,dr,tk|os];rw[hz₁];clear hh₂ he₁ hs₁ hT₁ hz₁ h₁;apply A0 ?_;unfold Builtin.Dict_items.ownedTupleIsFree;have hoa₂:h₂.get? a=some oa:=hk₂ a oa hne hoa;apply A0 (LH he₂ rfl (x:=rawInt a) rfl ?_);show wpAny _ _ (loadIfAlive (Int.toNat (a:Int)) >>= _) _ _ _;rw[Ja];apply A0 (W.kdx_alive hoa₂ ?_);show wpAny _ _ (field (.ref it) 1 >>= _) _ _ _;apply A0 (LH he₂ rfl (x:=.bool f) rfl ?_);cases f with
 | true=>exact A3 (A3 (A3 %[_,rfl|A3 (hQ h₂ he₂ ht₂ hz₂ hk₂)]))
 | false=>
  show wpAny _ _ (setField (.ref it) 1 (.bool true) >>= _) _ _ _;apply A0 (LD he₂ (by simp) λ h₃ he₃ hs₃=>?_)
  replace hs₃:Heap.SameBut it h₂ h₃:=hs₃
  exact A3 (A3 (A3 %[_,rfl|A3 (hQ h₃ he₃ (hs₃.extBut _ _ (JW hil) ht₂) (by rw[hs₃.1,hz₂]) λ b o hb e=>hs₃.extBut b o hb (hk₂ b o hb e))]))
theorem uX {it d a:Ko} {f:Bool} {i ep:Nat} {es:Kr DictEntry} {ok ov:IS} {Q:Kq IS->IN->Prop} (hh:A.handled=none) (hit:W.KdxIt s.heap it d i es.size ep ok ov a f)
  (hm:(∃o,s.heap.get? d=some o/\o.ExactDict/\o.data=.dict es ep)) (hx:es[i]?=none)
  (hQ:∀h',Heap.ExtBut it s.heap h'->Q none { s with heap:=h' }):wpAny (model prog w) A (pyNext (.ref it)) Q E s:=by
 obtain⟨od,hod,hcd,hdd⟩:=id hm;have hT:s.TypeIs (.ref it) "dict_itemiterator" := %[_,hit|Y]
 unfold pyNext;apply A0 (Lb (wpAny_callSpecial?_slot (name:=Str.ofString "__next__") hT LA
  (G9 LA hT La ?_ (LY _))))
 apply A0 (A3 ?_);apply A0 ?_;apply A0 ?_
 first | apply A0 (K9 hT (A3 ?_)) | apply A0 (LB hT (A3 ?_))
 apply A0 (wpAny_fieldsOf hit rfl ?_);have hown:Builtin.Dict_items.ownsTuple "dict_itemiterator" = true:=∅
 simp only[hown,Lm];show wpAny _ _ (if (Value.ref d == Value.none)=true then _ else _) _ _ s;rw[Ky (show¬ ((Value.ref d == Value.none)=true)from B3)];apply A0 (A3 ?_);apply A0 (LG hod hdd ?_);have hsz:es.size=es.size:=rfl;rw[Ky (by simp)];apply A0 (A3 ?_);apply A0 (Lf hod hdd ?_);rw[Ky (by simp)];apply A3 ?_;have hge:es.size<=i:=by simpa using hx
 simp only[show¬ ((i:Int) < 0)from by lia,LU,Ja,JU hge];apply A0 ?_
 first | apply A0 (K9 hT (A3 ?_)) | apply A0 (LB hT (A3 ?_))
 show wpAny _ _ (setField (.ref it) 2 .none >>= _) _ _ s;apply A0 (wpAny_setField hit rfl (by simp) ?_);show wpAny _ _ (newExc (.type "StopIteration") [] >>= _) _ _ _;apply A0 ?_;simp only[newExc,newTuple];apply A0 (IL ?_ (by size_fits));apply A0 (m:=firstArgMember _ _) (wpAny_of_eq (a:=Value.none) (by first | rfl | (simp only[firstArgMember];rfl)) ?_);apply IL ?_ (by size_fits);simp only[raiseNew];apply A0 (wpAny_handled ?_);rw[show A.in1.handled=none from hh];apply A0 (A3 (wpAny_throw ?_));apply A0 (wpAny_isInstance (T := "StopIteration") (b:=true) %[_,A9 _ rfl|rfl] isSubtype_stop ?_);exact A3 (hQ _ (((K4 ..).extBut.push _).push _))
theorem AW {it d S:Ko} {i ep:Nat} {es:Kr DictEntry} {en:DictEntry} {Q:Kq IS->IN->Prop} (st:KdxSt s.heap it d S i es.size ep) (hS:S < s.heap.objs.size) (hm:OKE d es ep s.heap) (hx:es[i]?=some en)
  (hQ:∀h',KdxSt h' it d S (i+1) es.size ep->h'.get? s.heap.objs.size=some { cls:=.type "tuple",data:=.seq #[en.key,en.val] }->h'.objs.size=s.heap.objs.size+1->(∀b o,b≠it->s.heap.get? b=some o->h'.get? b=some o)->Q (↑s.heap.objs.size) { s with heap:=h' }) :
  wpAny (model prog w) A (pyNext (.ref it)) Q E s:=by
 rcases st with⟨rfl,ok,ov,st⟩ | ⟨ok,ov,a,f,oa,st,ha,h1,h2⟩
 ·have il:it < s.heap.objs.size:=B0 st;apply bQ st hm hx λ h' b1 b2 b3 b4=>hQ h' (.inr %[_,_,_,_,_,b1,b2,JW il|JW hS]) b2 b3 b4
 ·exact rG st ha h1 hm hx λ h' b1 b2 b3 b4=>hQ h' (.inr %[_,_,a,_,oa,b1,b4 a oa h1 ha,h1|h2]) b2 b3 b4
theorem Gj {it d S:Ko} {i ep:Nat} {es:Kr DictEntry} {Q:Kq IS->IN->Prop} (hh:A.handled=none) (st:KdxSt s.heap it d S i es.size ep) (hm:OKE d es ep s.heap) (hx:es[i]?=none)
  (hQ:∀h',Heap.ExtBut it s.heap h'->Q none { s with heap:=h' }):wpAny (model prog w) A (pyNext (.ref it)) Q E s:=by
 rcases st with⟨rfl,ok,ov,st⟩ | ⟨ok,ov,a,f,oa,st,ha,h1,h2⟩
 ·exact cg hh st hm hx hQ
 ·exact uX hh st hm hx hQ
def PrI (es:Kr DictEntry) (I:Ko) (h:Heap) (as:Ks Ko) (i:Nat):Prop:=as.length=i/\as.Pairwise (· < ·)/\(∀a∈as,I < a)/\∀ (j:Nat) (a:Ko),as[j]?=some a->∃en,es[j]?=some en/\h.get? a=some { cls:=.type "tuple",data:=.seq #[en.key,en.val] }
theorem AX {R:Result->IN->Prop} {S I d:Ko} {es:Kr DictEntry} {ep:Nat} (hh:A.handled=none) (hSI:S < I) (hdS:d≠S) (hdI:d≠I) (hz:es.size<=sizeLine) (res:IS) {h₁:Heap}
  (hR:∀ (h':Heap) (tk:Nat) (acc:Kr IS) (c:Nat) (as:Ks Ko),(∀b o,b≠S->b≠I->h₁.get? b=some o->h'.get? b=some o)->h'.get? S=some { cls:=.type "list",data:=.seq acc c }->PrI es I h' as es.size->acc.toList=as.map Value.ref->R (.ok (.ret res)) { s with heap:=h',toks:=tk }) :
  ∀ (k i:Nat) (h:Heap) (tk c:Nat) (acc:Kr IS) (as:Ks Ko),es.size - i=k->i<=es.size->KdxSt h I d S i es.size ep->OKE d es ep h->(∀b o,b≠S->b≠I->h₁.get? b=some o->h.get? b=some o)->h.get? S=some { cls:=.type "list",data:=.seq acc c }->acc.toList=as.map Value.ref->PrI es I h as i->I < h.objs.size ->
   codeAny (model prog w) A (.builtin "list.extend.loop" %[[.ref S,.ref I,res]|[]]) R { s with heap:=h,toks:=tk }:=by
 intro k
 induction k with
 | zero=>
  intro i h tk c acc as e1 e2 st hm fr hS ha pr hI;have ei:i=es.size:=⋯
  subst ei;apply Lh F.entry_extend_loop ?_;rw[LL F.plain_extend_loop _];unfold Builtin.«list.extend.loop»;apply A0 (Gj (s:={ s with heap:=h,toks:=tk }) (by exact hh) st hm (JU (B4 _)) λ h' eb=>A3 ?_);apply hR h' tk acc c as (λ b o b1 b2 e=>eb b o b2 (fr b o b1 b2 e)) (eb S _ (C1 hSI) hS) %[pr.1,pr.2.1,pr.2.2.1|λ j a hj=>?_] ha;obtain⟨en,h1,h2⟩:=pr.2.2.2 j a hj;exact%[en,h1|eb a _ (JW (pr.2.2.1 a (B7 hj))) h2]
 | succ k ih=>
  intro i h tk c acc as e1 e2 st hm fr hS ha pr hI;have hi:i < es.size:=⋯
  have hSl:=B0 hS;apply Lh F.entry_extend_loop ?_;rw[LL F.plain_extend_loop _];unfold Builtin.«list.extend.loop»;apply A0 (AW (s:={ s with heap:=h,toks:=tk }) st hSl hm (JN hi) λ h' st' ht hz' fr'=>?_);have hS':h'.get? S=some { cls:=.type "list",data:=.seq acc c }:=fr' S _ (C1 hSI) hS;have al:acc.size=i:=by rw[<- JR,ha,B5,pr.1]
  apply A0 (listUpdate_at (s:={ s with heap:=h',toks:=tk }) hS' rfl (A3 %[plainId_quiet F.plain_extend_loop _|?_]) ⋯ (by rw[Array.size_push];lia));have sb:Heap.SameBut S h' (h'.update S (Obj.mapSeq λ x=>x.push (.ref h.objs.size))):=K4 ..;have hSu:(h'.update S (Obj.mapSeq λ x=>x.push (.ref h.objs.size))).get? S=some { cls:=.type "list",data:=.seq (acc.push (.ref h.objs.size)) (c+1) }:=(LF (Obj.mapSeq λ x=>x.push (.ref h.objs.size)) hS' rfl).trans (by simp[Obj.mapSeq]);have up:∀b o,b≠S->h'.get? b=some o->(h'.update S (Obj.mapSeq λ x=>x.push (.ref h.objs.size))).get? b=some o:=λ b o hb e=>sb.extBut b o hb e;apply ih (i+1) _ tk (c+1) (acc.push (.ref h.objs.size)) (as ++ [h.objs.size]) ⋯ hi ?_ ?_ (λ b o b1 b2 e=>up b o b1 (fr' b o b2 (fr b o b1 b2 e))) hSu (by rw[Jd,ha,JE];rfl) ?_ ?_
  ·rcases st' with⟨z,_⟩ | ⟨ok,ov,a,f,oa,q1,q2,q3,q4⟩
   ·cases z
   ·exact .inr %[ok,ov,a,f,oa,up _ _ (JW hSI) q1,up _ _ q4 q2,q3|q4]
  ·obtain⟨o,e,x⟩:=hm;exact%[o,up _ _ hdS (fr' _ _ hdI e)|x]
  ·apply%[by rw[JD,pr.1];rfl,?_,?_|?_]
   ·rw[JG];apply%[pr.2.1,List.pairwise_singleton _ _|λ a ma b mb=>?_];rw[E4.mp mb];obtain⟨j,hj⟩:=JZ.mp ma;obtain⟨en,_,h2⟩:=pr.2.2.2 j a hj;exact B0 h2
   ·intro a ma;rcases C4.mp ma with ma | ma
    ·exact pr.2.2.1 a ma
    ·rw[E4.mp ma];exact hI
   ·intro j a hj
    by_cases c:j < as.length
    ·rw[Jn c]at hj;obtain⟨en,h1,h2⟩:=pr.2.2.2 j a hj;have aI:=pr.2.2.1 a (B7 hj);exact%[en,h1|up _ _ (JW (Ki hSI aI)) (fr' _ _ (JW aI) h2)]
    ·have jl:j < (as ++ [h.objs.size]).length:=(A7.mp hj).1;have ej:j=as.length:=by rw[JD]at jl;simp at jl;lia
     subst ej;rw[JV (B4 _),Nat.sub_self]at hj;cases hj;exact%[es[i],by rw[pr.1];exact JN hi|up _ _ (JW hSl) ht]
  ·have hz':h'.objs.size=h.objs.size+1:=hz';rw[sb.1,hz'];exact Jf hI
theorem uY {r d:Ko} {es:Kr DictEntry} {ep:Nat} {Q:Ks IS->IN->Prop} (hh:A.handled=none) (hv:s.heap.IsItemsView r d) (hm:OKE d es ep s.heap) (hz:es.size<=sizeLine)
  (h:∀ (h':Heap) (tk:Nat) (as:Ks Ko),(∀b o,s.heap.get? b=some o->h'.get? b=some o)->PrI es s.heap.objs.size h' as es.size->s.heap.objs.size<=h'.objs.size->Q (as.map Value.ref) { s with heap:=h',toks:=tk }):wpAny (model prog w) A (collect (.ref r)) Q E s:=by
 unfold collect;apply A0 (wpAny_runValue (Lh F.entry_proto_collect ?_));rw[LL F.plain_proto_collect _];show wpAny _ A.in1 (newList [] >>= λ l=>again (.builtin "list.__iadd__" %[[l,.ref r]|[]])) _ _ s;apply A0 (IL ?_);apply A3 %[plainId_quiet F.plain_list_iadd _|Lh F.entry_list_iadd ?_];rw[LL F.plain_list_iadd _];show wpAny _ A.in1 (Builtin.List.listExtendWith (.ref s.heap.objs.size) (.ref r) (.ref s.heap.objs.size)) _ _ { s with heap:=s.heap.push (seqObj "list" #[] 0) };have rl:r < s.heap.objs.size:=let ⟨_,e,_⟩:=hv;B0 e
 have dl:d < s.heap.objs.size:=let ⟨_,e,_⟩:=hm;B0 e
 have hS:(s.heap.push (seqObj "list" #[] 0)).get? s.heap.objs.size=some { cls:=.type "list",data:=.seq #[] 0 }:=A9 _ rfl;have hv1:(s.heap.push (seqObj "list" #[] 0)).IsItemsView r d:=let ⟨o,e,x⟩:=hv;%[o,A8 _ e|x]
 have hm1:OKE d es ep (s.heap.push (seqObj "list" #[] 0)):=let ⟨o,e,x⟩:=hm;%[o,A8 _ e|x]
 have sz1:(s.heap.push (seqObj "list" #[] 0)).objs.size=s.heap.objs.size+1:=K3 _ _;have fr1:∀b o,s.heap.get? b=some o->(s.heap.push (seqObj "list" #[] 0)).get? b=some o:=λ b o e=>A8 _ e;generalize s.heap.push (seqObj "list" #[] 0)=h1 at hS hv1 hm1 sz1 fr1 ⊢;unfold Builtin.List.listExtendWith;have ty:Shared.TypeIs { s with heap:=h1 } (.ref r) "dict_items" := let ⟨o,e,x,_⟩:=hv1;%[o,e|x]
 apply A0 (wpAny_typeOf ty ?_);rw[Ky (by
  have:Builtin.List.listSameRef (.ref s.heap.objs.size) (.ref r)=false:=by show(s.heap.objs.size == r)=false;exact LJ.mpr (JW rl)
  rw[this];decide)]
 apply A0 (cN hv1 hm1 ?_);apply A0 (K2 (kdx_hint (let ⟨o,e,x,_⟩:=hv1;%[o,A8 _ e|x]) ?_));rw[Kz ∅];have hI:(h1.push { cls:=.type "dict_itemiterator",data:=.fields #[Value.none,Value.bool false,Value.ref d,Value.int 0 0,Value.int (es.size:Int) 0,Value.int (ep:Int) 0,Value.none,Value.none] }).get? h1.objs.size=some _:=A9 _ rfl;have sz2:=K3 h1 { cls:=.type "dict_itemiterator",data:=.fields #[Value.none,Value.bool false,Value.ref d,Value.int 0 0,Value.int (es.size:Int) 0,Value.int (ep:Int) 0,Value.none,Value.none] };have fr2:∀b o,h1.get? b=some o->(h1.push { cls:=.type "dict_itemiterator",data:=.fields #[Value.none,Value.bool false,Value.ref d,Value.int 0 0,Value.int (es.size:Int) 0,Value.int (ep:Int) 0,Value.none,Value.none] }).get? b=some o:=λ b o e=>A8 _ e;generalize h1.push { cls:=.type "dict_itemiterator",data:=.fields #[Value.none,Value.bool false,Value.ref d,Value.int 0 0,Value.int (es.size:Int) 0,Value.int (ep:Int) 0,Value.none,Value.none] }=h2 at hI sz2 fr2 ⊢;have ne1:s.heap.objs.size≠h1.objs.size:=by rw[sz1];exact C1 (G1 _)
 have lt1:s.heap.objs.size < h1.objs.size:=by rw[sz1];exact G1 _
 apply A0 (LS ?_);apply A0 ?_;unfold Builtin.List.listTouch;have hS2:h2.get? s.heap.objs.size=some { cls:=.type "list",data:=.seq #[] 0 }:=fr2 _ _ hS;have hS3:(h2.update s.heap.objs.size (Obj.mapSeq λ x=>x.push Value.none)).get? s.heap.objs.size=some { cls:=.type "list",data:=.seq #[Value.none] 1 }:=(LF (Obj.mapSeq λ x=>x.push Value.none) hS2 rfl).trans (by simp[Obj.mapSeq]);have sb3:Heap.SameBut s.heap.objs.size h2 (h2.update s.heap.objs.size (Obj.mapSeq λ x=>x.push Value.none)):=K4 ..;apply A0 (listUpdate_at (s:={ s with heap:=h2 }) hS2 rfl ?_ (G0 _) (by show 1<=_;lia));show wpAny _ _ _ _ _ { s with heap:=h2.update s.heap.objs.size (Obj.mapSeq λ x=>x.push Value.none) };generalize h2.update s.heap.objs.size (Obj.mapSeq λ x=>x.push Value.none)=h3 at hS3 sb3 ⊢;have hS4:(h3.update s.heap.objs.size (Obj.mapSeq λ x=>x.pop)).get? s.heap.objs.size=some { cls:=.type "list",data:=.seq #[] 2 }:=(LF (Obj.mapSeq λ x=>x.pop) hS3 rfl).trans (by simp[Obj.mapSeq]);have sb4:Heap.SameBut s.heap.objs.size h3 (h3.update s.heap.objs.size (Obj.mapSeq λ x=>x.pop)):=K4 ..;apply listUpdate_at (s:={ s with heap:=h3 }) hS3 rfl ?_ zS1 (by show 0<=_;lia);show wpAny _ _ _ _ _ { s with heap:=h3.update s.heap.objs.size (Obj.mapSeq λ x=>x.pop) };generalize h3.update s.heap.objs.size (Obj.mapSeq λ x=>x.pop)=h4 at hS4 sb4 ⊢;have fr4:∀b o,b≠s.heap.objs.size->h1.get? b=some o->h4.get? b=some o:=λ b o nb e=>sb4.extBut b o nb (sb3.extBut b o nb (fr2 b o e));have sz4:h4.objs.size=h1.objs.size+1:=by rw[sb4.1,sb3.1,sz2]
 have hI4:=sb4.extBut _ _ ne1.symm (sb3.extBut _ _ ne1.symm hI);apply A3 %[plainId_quiet F.plain_extend_loop _|?_];apply AX (s:=s) (S:=s.heap.objs.size) (I:=h1.objs.size) (d:=d) (es:=es) (ep:=ep) (h₁:=h4) (by exact hh) lt1 (C1 dl) (C1 (Ki dl lt1)) hz (.ref s.heap.objs.size) (λ h' tk acc c as fr hS' pr ha=>?_) es.size 0 h4 s.toks 2 #[] [] ⋯ (G0 _) (.inl %[Y,_,_|hI4]) (let ⟨o,e,x⟩:=hm1;%[o,fr4 _ _ (C1 dl) e|x]) (λ _ _ _ _ e=>e) hS4 rfl ⟨rfl,List.Pairwise.nil,(λ a h=>by cases h),(λ j a h=>by simp at h)⟩ (by rw[sz4];exact G1 _);show wpAny (model prog w) A (do
   let o<-load s.heap.objs.size
   match o.data with
   | .seq xs _=>pure xs.toList
   | _=>unsupported "internal:collect") Q E { s with heap:=h',toks:=tk }
 apply A0 (wpAny_load hS' ?_);show wpAny _ _ (pure acc.toList) Q E _;rw[ha];apply A3 (h h' tk as (λ b o e=>?_) %[pr.1,pr.2.1,λ a ma=>?_|pr.2.2.2] (C9 (B0 hS')))
 ·have lb:=B0 e;exact fr b o (C1 lb) (C1 (Ki lb lt1)) (fr4 _ _ (C1 lb) (fr1 _ _ e))
 ·exact Ki lt1 (pr.2.2.1 a ma)
end
end PySem
namespace PyProof.Rows
open PySem PySem.W L2
section
variable {prog:IP} {w:IR} {A:Around} {E:IS->IN->Prop} {s:IN}
def gA (as:Ks Ko) (key:Ko->Ks Int):KeyKind where
 α:=Ks Int
 blt:=bg
 irrefl:=df
 trans:=fc
 negTrans:=hJ
 total:=cW
 keyOf:=λ v=>match v with
  | .ref a=>if a∈as then some (key a)else none
  | _=>none
 dflt:=[]
theorem wT {κ0:SortKind} {r d:Ko} {es:Kr DictEntry} {ep:Nat} {Q:IS->IN->Prop} (hh:A.handled=none) (hv:s.heap.IsItemsView r d) (hm:OKE d es ep s.heap) (h64:es.size < 4096)
  (h:∀ (h1:Heap) (as:Ks Ko),(∀b o,s.heap.get? b=some o->h1.get? b=some o)->PrI es s.heap.objs.size h1 as es.size->s.heap.objs.size<=h1.objs.size->∃key:Ko->Ks Int,
   (∀ (A':Around) (s':IN),A'.units<=A.units+4->(∀b o,h1.get? b=some o->s'.heap.get? b=some o)->bz prog w A' s' κ0 (gA as key)/\∀v₁ v₂ rest,as.map Value.ref=v₁ :: v₂ :: rest->∀ (Q:SortKind->IN->Prop) (E':IS->IN->Prop),Q κ0 s'->wpAny (model prog w) A' (keyKind' (v₁ :: v₂ :: rest).toArray) Q E' s') /\
   ∀ (as':Ks Ko) (L:Ko) (h':Heap) (tk e:Nat),as'.Perm as->(as'.map key).Pairwise (λ x y=>bg y x=false)->(∀b o,h1.get? b=some o->h'.get? b=some o)->h1.objs.size<=L->h'.get? L=some (seqObj "list" (as'.map Value.ref).toArray e)->Q (.ref L) { s with heap:=h',toks:=tk }) :
  wpAny (model prog w) A (call (.builtin "sorted") [.ref r]) Q E s:=by
 have hsz:es.size<=sizeLine:=by
  have z:(4096:Nat)<=sizeLine:=∅
  lia
 apply Calls.call_function_entry kind_sorted plain_sorted entry_sorted (args_sorted1 _) ?_;unfold Builtin.«sorted»;apply A0 (m:=checkCount "sorted" 1 1 _) (A3 ?_);apply A0 (uY (by exact hh) hv hm hsz λ h1 tk as k1 pr hle=>?_);obtain⟨key,hkk,hq⟩:=h h1 as k1 pr hle;obtain⟨vs,ev⟩:∃vs,vs=as.map Value.ref:=%[_|Y]
 rw[<- ev];have vl:vs.length=es.size:=by rw[ev,B5,pr.1]
 have kof:∀a∈as,(gA as key).keyOf (.ref a)=some (key a):=λ a ha=>Kz ha;have h0:KeysOf (gA as key) (pairsOf vs):=by intro p hp;rw[pairsOf_toList]at hp;have:=(Kb (show(p.1,p.2)∈_ from hp)).1;rw[ev]at this;obtain⟨a,ha,e⟩:=JH.mp this;exact%[key a|by rw[<- e];exact kof a ha]
 apply A0 (wpAny_newList ?_);have hoL:(h1.push (seqObj "list" vs.toArray 0)).get? h1.objs.size=some (seqObj "list" vs.toArray 0):=A9 _ rfl;show wpAny _ _ _ _ _ { s with heap:=h1.push (seqObj "list" vs.toArray 0),toks:=tk };apply A0 (K2 (G9 slot_list_sort %[_,hoL|rfl] entry_list_sort (cL hoL h0 (λ s' k=>by
  apply And.imp id (λ a2 v1 v2 r e Q q=>a2 v1 v2 r (ev ▸ e) Q _ q) (hkk _ s' ?_ (λ b o e=>k b o (C1 (B0 e)) (A8 _ e)));show A.units+1+1<=A.units+4;lia) ⋯ λ st' a1 a2=>%[_,Y|?_]) (args_list_sort _)))
 obtain⟨e,he⟩:=sortedHeap_at (out:=(arrOf st').map (·.2)) (vs:=vs) hoL;have pz:∀l:Ks Ko,(l.map Value.ref).zip (l.map Value.ref)=l.map λ a=>(Value.ref a,Value.ref a):=λ l=>by
  induction l with
  | nil=>rfl
  | cons a l ih=>rw[JA,KY,ih,JA]
 have hp':=JY.mp a1;rw[pairsOf_toList,ev,pz]at hp';obtain⟨as',ea,pa⟩:=iP (f:=λ a=>(Value.ref a,Value.ref a)) (λ pr=>match pr.1 with
  | .ref a=>some a
  | _=>none) (λ a=>rfl) hp'
 have eo:((arrOf st').map (·.2)).toList=as'.map Value.ref:=by rw[Array.toList_map,ea,Jc];rfl
 apply A3 %[_,rfl|hq as' h1.objs.size _ tk e pa ?_ (λ b o eb=>?_) (B4 _) ?_]
 ·rw[Jp];intro i j hi hj hij;rw[B5]at hi hj;have sz:(pairsOf vs).size=as.length:=by rw[pairsOf_size,vl,pr.1]
  have kk:∀i (hi:i < as'.length),KK (gA as key) (arrOf st') i=key as'[i]:=λ i hi=>by
   have e:(arrOf st')[i]?=some (Value.ref as'[i],Value.ref as'[i]):=by rw[<- JB,ea,IY,G2 hi];rfl
   unfold KK;rw[e];show((gA as key).keyOf (.ref as'[i])).getD _=_;rw[kof _ (pa.mem_iff.mp (KU hi))];rfl
  have:=a2 i j ⋯ (by rw[sz,<- pa.length_eq];exact hj);rw[kk i hi,kk j hj]at this;rw[KF,KF];exact this
 ·have:=B0 eb;rw[sortedHeap_old (C1 this) (by rw[size_push'];exact Jf this)];exact A8 _ eb
 ·rw[he,<- eo,Array.toArray_toList]
end
end PyProof.Rows
namespace L2
open PySem PySem.Spec PyProof.Rows PySem.SeqAt
theorem mN:∀a b:Ks Int,HT.lexLt a b=bg a b
 | [],[]=>rfl
 | [],_ :: _=>rfl
 | _ :: _,[]=>rfl
 | x :: a,y :: b=>by have ih:=mN a b;simp only[HT.lexLt,bg,ih]
theorem AY (ns:Ks Int):(PyData.tuple (ns.map PyData.int)).canLay0=true/\(PyData.tuple (ns.map PyData.int)).depth=1:=by
 have h:PyData.canLayAll0 (ns.map PyData.int)=true/\PyData.depthAll (ns.map PyData.int)=0:=by
  induction ns with
  | nil=>exact%[Y|Y]
  | cons n r ih=>
   obtain⟨i1,i2⟩:=ih;apply%[by rw[JA,PyData.canLayAll0,i1];rfl|?_];rw[JA,PyData.depthAll,i2]
   rfl
 exact%[by rw[PyData.canLay0,h.1]|by rw[PyData.depth,h.2]]
theorem Gk (a b:Ks Int):PyData.eqv (.tuple (a.map PyData.int)) (.tuple (b.map PyData.int))=decide (a=b):=by
 have h:∀a b:Ks Int,PyData.eqvAll (a.map PyData.int) (b.map PyData.int)=decide (a=b):=λ a=>by
  induction a with
  | nil=>intro b;cases b <;> rfl
  | cons x a ih=>intro b;cases b with
   | nil=>rfl
   | cons y b=>
    have h:PyData.eqvAll ((x :: a).map PyData.int) ((y :: b).map PyData.int)=(PyData.eqv (.int x) (.int y) && PyData.eqvAll (a.map PyData.int) (b.map PyData.int)):=rfl;have e:PyData.eqv (.int x) (.int y)=decide (x=y):=by simp[PyData.eqv];rfl
    rw[h,ih b,e];simp
 rw[<- h a b];simp[PyData.eqv]
theorem yH {h:Heap} {us:Ks IS} {ns:Ks Int} (i:IntsAre us ns):∃as,ReadsAll h us (ns.map PyData.int) as:=by
 induction i with
 | nil=>exact%[_|.nil]
 | cons n t _ ih=>obtain⟨as,r⟩:=ih;exact%[_|.cons (.int n t) r]
theorem wU {A:Around} {s:IN} (l:Ko):EqAt A s (.ref l) (.ref l) true:=λ prog w E Q h=>by unfold eqBool;apply K2 ?_;rw[Kz (by simp)];exact A0 (LS (A3 h))
section
variable {X:Cx}
def fH (r a:Ko):Heap->Prop:=λ h=>h.IsItemsView r a
def wV (tl:TE):TE:=λ σ H Q=>tl σ H λ x H1=>∃a kvs,x=.ref a/\Rd H1 a (.dT kvs)/\∀r,H1 r=none->Q (.ref r) (upd H1 r (.ext (fH r a)))
theorem ko {l:Expr} {tl:TE} {apos cpos:Pos} (hl:PE X l tl) (hbase:attributeBase l "items" X.env (eval l X.env)=eval l X.env:=by rfl) (hline:(apos.endLine == cpos.line)=true:=by rfl) :
  PE X (.Call (.Attribute l "items" apos) [] [] cpos) (wV tl):=by
 intro Ku s σ H Q I h;apply wpAny_Call_method0_late hbase hline (thn (hl Ku s σ H _ I h) λ v s1 %[x,H1,I1,r1,a,kvs,e,hH|q]=>?_);subst e;cases r1;obtain⟨hz,hs,xs,pr,o,es,ep,h1,h2,h3,h4,h5⟩:=(show ObjOk X.prog X.w H1 s1.heap a (.dT kvs)from hH.ok I1.hok)
 apply⟨"dict","dict.items",Ld,PySem.F.slot_dict_items,PySem.F.type_dict_items,%[o,h1|h2.1],(λ b e2=>by cases e2;exact%[o,h1|h2.2.1]),Calls.callWith_builtin rfl (PySem.evalArgs_none (uN h1 h2 hs ?_))⟩;apply%[.ref s1.heap.objs.size,_,I1.laid (a:=s1.heap.objs.size) (o:=.ext (fH s1.heap.objs.size a)) (t':=s1.toks) (λ b o e=>A8 _ e) (B4 _) ?_,Y|q _ (I1.hok.fresh (B4 _))];exact%[%[_,A9 _ rfl,Y|Y],%[_|A9 _ rfl]|λ h1 h2 ⟨o,e,x⟩ k=>%[o,k o e|x]]
def jC (H:Hp) (f:Ko->HO):Ks Ko->Hp
 | []=>H
 | a :: as=>upd (jC H f as) a (f a)
theorem qh {H:Hp} {f:Ko->HO}:∀ {as:Ks Ko} {a:Ko},a∈as->jC H f as a=some (f a)
 | b :: as,a,h=>by
  by_cases c:a=b
  ·subst c;exact ai
  ·rw[jC,ah c];exact qh ((IZ.mp h).resolve_left c)
theorem gc {H:Hp} {f:Ko->HO}:∀ {as:Ks Ko} {a:Ko},a∉as->jC H f as a=H a
 | [],a,_=>rfl
 | b :: as,a,h=>by rw[jC,ah (λ z:a=b=>h (by rw[z];exact B9))];exact gc λ z=>h (B6 _ z)
def qi (xs:Ks V) (H:Hp) (Q:VK):Prop:=∃ (r a:Ko) (kvs:Ks (Ks Key×V)) (key:Ks Key->Ks Int),xs=[.ref r]/\H r=some (.ext (fH r a))/\Rd H a (.dT kvs)/\kvs.length < 4096/\(∀kv∈kvs,kv.1.map kV=(key kv.1).map V.int/\∃l,kv.2=.ref l)/\(kvs.map λ kv=>key kv.1).Nodup /\
 ∀ (L:Ko) (as':Ks Ko) (kvs':Ks (Ks Key×V)) (H':Hp),H L=none->H' L=↥(as'.map V.ref)->Paired (λ p kv=>∃q,H' p= ~~~[.ref q,kv.2]/\H' q= ~~~(kv.1.map kV)) as' kvs'->kvs'.Perm kvs->(kvs'.map λ kv=>key kv.1).Pairwise (λ x y=>bg y x=false)->Same H H'->Q (.ref L) H'
theorem fz (hc:X.calm=true) (hu:X.A.units+64 < cLine):bM X (.builtin "sorted") qi:=by
 intro Ku s σ H xs us Q I rr h;obtain⟨r,a,kvs,key,rfl,hr,ha,h64,hk,knd,q⟩:=h;obtain⟨u,rfl,rfl⟩:=cM rr;obtain⟨hz,hs,ys,pr,o,es,ep,h1,h2,h3,h4,h5⟩:=(show ObjOk X.prog X.w H s.heap a (.dT kvs)from ha.ok I.hok)
 obtain⟨vw,_,_⟩:=(show ObjOk X.prog X.w H s.heap r (.ext (fH r a))from I.hok r _ hr)
 have yl:kvs.length=ys.length:=gM pr;have el:es.size=kvs.length:=by rw[yl,<- JR,h4,B5]
 have ent:∀ (j:Nat) (en:DictEntry),es[j]?=some en->∃kv q v,kvs[j]?=some kv/\en.key=.ref q/\en.val=v/\H q= ~~~(kv.1.map kV)/\RelV kv.2 v:=λ j en he=>by rw[<- JB,h4,IY]at he;obtain⟨y,hy,e⟩:=JI.mp he;have jl:j < ys.length:=(A7.mp hy).1;have hkj:kvs[j]?=some kvs[j]:=G2 ⋯;obtain⟨z,hz',z1,z2,z3⟩:=ke pr hkj;rw[hy]at hz';cases hz';exact%[_,y.2.1,y.2.2,hkj,by rw[<- e];rfl,by rw[<- e];rfl,z2|z3]
 apply wT (κ0:=tuples' false) (I.ok.hd hc) vw %[o,h1,h2|h3] ⋯ λ hp as k1 pi hle=>?_;obtain⟨pl,pp,pI,pe⟩:=pi;have and:as.Nodup:=List.Pairwise.imp (R:=λ a b:Ko=>a < b) (λ {a b} h e=>absurd h (by rw[e];exact E2 _)) pp;obtain⟨at',eat⟩:∃at':Ko->Ks Key×V,at'=λ b=>(kvs[as.idxOf b]?).getD ([],.non):=%[_|Y]
 have ix:∀ (j:Nat) (b:Ko),as[j]?=some b->kvs[j]?=some (at' b):=λ j b hj=>by
  obtain⟨jl,jb⟩:=A7.mp hj;have:as.idxOf b=j:=by rw[<- jb];exact List.Nodup.idxOf_getElem and j jl
  rw[eat];dsimp only;rw[this,G2 (show j < kvs.length by lia)]
  rfl
 have fact:∀b∈as,∃q v,hp.get? b=some { cls:=.type "tuple",data:=.seq #[.ref q,v] }/\H q= ~~~((at' b).1.map kV)/\RelV (at' b).2 v/\at' b∈kvs:=λ b hb=>by obtain⟨j,hj⟩:=JZ.mp hb;obtain⟨en,e1,e2⟩:=pe j b hj;obtain⟨kv,q,v,a1,a2,a3,a4,a5⟩:=ent j en e1;have:=ix j b hj;rw[a1]at this;cases this;rw[a2,a3]at e2;exact%[q,v,e2,a4,a5|B7 a1]
 have emap:as.map at'=kvs:=by
  apply List.ext_getElem? λ j=>?_;rw[IY];cases hj:as[j]? with
  | none=>rw[Jw (by have:=List.getElem?_eq_none_iff.mp hj;lia)];rfl
  | some b=>rw[ix j b hj];rfl
 obtain⟨kq,hkq⟩:∃kq:Ko->Ko,∀b∈as,∃v,hp.get? b=some { cls:=.type "tuple",data:=.seq #[.ref (kq b),v] }/\H (kq b)= ~~~((at' b).1.map kV)/\RelV (at' b).2 v/\at' b∈kvs:=by apply%[λ b=>if c:b∈as then(fact b c).choose else 0|λ b hb=>?_];dsimp only;rw[dif_pos hb];exact(fact b hb).choose_spec
 apply%[λ b=>key (at' b).1,λ A' s' ua k=>%[?_|?_]|λ as' L h' tk e pa ps k2 hL he=>?_]
 ·-- one is less
  intro E x y kx ky Q ex ey hq;have mem:∀ {v:IS} {z:Ks Int},(gA as λ b=>key (at' b).1).keyOf v=some z->∃b∈as,v=.ref b/\z=key (at' b).1:=λ {v z} h=>by
   cases v with
   | ref b=>
    have h:(if b∈as then some (key (at' b).1)else none)=some z:=h
    by_cases c:b∈as
    ·rw[Kz c]at h;exact%[b,c,Y|(C0 h).symm]
    ·rw[Ky c]at h;cases h
   | _=>cases h
  obtain⟨b,mb,rfl,rfl⟩:=mem ex;obtain⟨c,mc,rfl,rfl⟩:=mem ey;obtain⟨v,g1,g2,_,m1⟩:=hkq b mb;obtain⟨v',g1',g2',_,m1'⟩:=hkq c mc;rw[(hk _ m1).1]at g2;rw[(hk _ m1').1]at g2';have kk:∀b o,s.heap.get? b=some o->s'.heap.get? b=some o:=λ b o e=>k b o (k1 b o e);have mono:∀ {x:Ko} {is:Kr IS},IsTup s.heap x is->IsTup s'.heap x is:=λ⟨o,e,y⟩=>%[o,kk _ _ e|y]
  obtain⟨its,r1,p1,_⟩:=I.tuple (IU (K:=X.K) g2);obtain⟨its2,r2,p2,_⟩:=I.tuple (IU (K:=X.K) g2');have i1:IntsAre its.toArray.toList (key (at' b).1):=iF r1;have i2:IntsAre its2.toArray.toList (key (at' c).1):=iF r2;have rds:∀ {x:Ko} {is:Kr IS} {ns:Ks Int},IsTup s'.heap x is->IntsAre is.toList ns->∃as,Reads s'.heap (.ref x) (.tuple (ns.map PyData.int)) as:=λ⟨o,e,c,n,d⟩ i=>by obtain⟨as,r⟩:=yH (h:=s'.heap) i;exact%[_|.tuple e c d r]
  obtain⟨rs,rd⟩:=rds (mono p1) i1;obtain⟨rs',rd'⟩:=rds (mono p2) i2;have lay:=AY (key (at' b).1);have lay':=AY (key (at' c).1);have uu:A'.units+1 < cLine:=by have:A'.units<=X.A.units+4:=ua;lia
  apply PySem.W.kat_lt (k _ _ g1) rfl (k _ _ g1') rfl (PySem.W.kat_cons (eqAt_reads _ _ A' s' _ _ _ _ rd rd' lay.1 lay'.1 (by rw[lay.2,lay'.2];exact uu) X.prog X.w _ _ ?_));rw[Gk];apply PySem.W.kat_go (λ e=>PySem.W.kat_yes ?_) (λ e=>PySem.W.kat_no (PySem.W.kat_one _ _ ?_))
  ·have e:=C2 e;have bc:b=c:=by
    obtain⟨i,hi⟩:=JZ.mp mb;obtain⟨j,hj⟩:=JZ.mp mc;have hi':(kvs.map λ kv=>key kv.1)[i]?=some (key (at' b).1):=by rw[IY,ix i b hi];rfl
    have hj':(kvs.map λ kv=>key kv.1)[j]?=some (key (at' c).1):=by rw[IY,ix j c hj];rfl
    obtain⟨il,ib⟩:=A7.mp hi';obtain⟨jl,jb⟩:=A7.mp hj';have:=(KD (h₀:=il) (h₁:=jl) knd).mp (by rw[ib,jb,e]);subst this;rw[hi]at hj;exact C0 hj
   subst bc;rw[g1]at g1';cases g1';obtain⟨l,hl⟩:=(hk _ m1).2;have rv:v=.ref l:=by obtain⟨v2,g5,_,g6,_⟩:=hkq b mb;rw[g1]at g5;cases g5;rw[hl]at g6;exact g6
   subst rv;have hq:Q (bg (key (at' b).1) (key (at' b).1)) s':=hq;rw[df]at hq;exact PySem.W.kat_cons (wU l X.prog X.w _ _ (PySem.W.kat_yes (PySem.W.kat_nil hq)))
  ·apply HT.lt_tupInts (mono p1) (mono p2) i1 i2 ⋯ ?_;rw[mN];exact hq
 ·-- all are tuples that begin with tuples
  intro v1 v2 rest e Q E' hq;have firsts:∀bs:Ks Ko,(∀b∈bs,b∈as)->∃fs,PySem.W.KatTups s'.heap (bs.map Value.ref) fs/\fs.length=bs.length/\∀v∈fs,∃x is,v=Value.ref x/\IsTup s.heap x is:=λ bs=>by
   induction bs with
   | nil=>exactλ _=>%[[],trivial,Y|λ v hv=>by cases hv]
   | cons b bs ih=>
    intro hb;obtain⟨fs,f1,f2,f3⟩:=ih λ c hc=>hb c (B6 _ hc);obtain⟨v,g1,g2,_,_⟩:=hkq b (hb b B9);obtain⟨its,_,p1,_⟩:=I.tuple (IU (K:=X.K) g2);apply%[.ref (kq b) :: fs,PySem.W.KatTups.cons (k _ _ g1) rfl rfl (by simp) f1,by rw[JF,JF,f2]|λ v hv=>?_];rcases IZ.mp hv with z | z
    ·exact%[_,_,z|p1]
    ·exact f3 v z
  obtain⟨fs,f1,f2,f3⟩:=firsts as λ _ h=>h;rw[e]at f1;have:(as.map Value.ref).length=rest.length+2:=by rw[e];rfl
  rw[B5]at this;apply PySem.W.kat_kind (T:=.type "tuple") f1 ⋯ (λ v hv=>?_) rfl hq;obtain⟨x,is,rfl,o,e,c,_⟩:=f3 v hv;exactλ A Q E s2 fr hq=>wpAny_typeOf %[o,fr _ _ (k _ _ (k1 _ _ e))|c] hq
 ·-- what is told
  obtain⟨f,ef⟩:∃f:Ko->HO,f=λ b=>.tup [.ref (kq b),(at' b).2]:=%[_|Y]
  have I1:Inv X Ku σ H { s with heap:=h',toks:=tk }:=I.kept (t':=tk) λ b o e=>k2 b o (k1 b o e);have fresh:∀b∈as,H b=none:=λ b hb=>I.hok.fresh (C9 (pI b hb));have szb:∀b∈as,X.s₀.heap.objs.size<=b:=λ b hb=>C7 I.sz (C9 (pI b hb));have IA:∀bs:Ks Ko,(∀b∈bs,b∈as)->bs.Nodup->Inv X Ku σ (jC H f bs) { s with heap:=h',toks:=tk }:=λ bs=>by
   induction bs with
   | nil=>exactλ _ _=>I1
   | cons b bs ih=>
    intro hb hn;obtain⟨n1,n2⟩:=J9.mp hn;have J:=ih (λ c hc=>hb c (B6 _ hc)) n2;have mb:=hb b B9;obtain⟨v,g1,g2,g3,_⟩:=hkq b mb;apply J.track (I.fpOk (C9 (pI b mb)) (by rw[gc n1];exact fresh b mb)) (szb b mb) ?_;rw[ef];exact%[by show 2<=sizeLine;decide,[.ref (kq b),v],.cons rfl (.cons g3 .nil),_,k2 _ _ g1,Y,_|Y]
  have Lsz:s.heap.objs.size<=L:=C7 hle hL;have Lfr:H L=none:=I.hok.fresh Lsz;have Lna:L∉as:=λ hb=>by obtain⟨v,g1,_⟩:=hkq L hb;exact absurd (B0 g1) (Nat.not_lt_of_le hL)
  have al:as'.length<=sizeLine:=by
   have:(4096:Nat)<=sizeLine:=∅
   have:=pa.length_eq;lia
  have I3:Inv X Ku σ (upd (jC H f as) L (.lst (as'.map V.ref))) { s with heap:=h',toks:=tk }:=by apply(IA as (λ _ h=>h) and).track (I.fpOk Lsz (by rw[gc Lna];exact Lfr)) (C7 I.sz Lsz) ?_;apply(show ObjOk _ _ _ _ _ (.lst _)from%[by rw[B5];exact al,as'.map Value.ref,e,dF as'|?_]);exact he
  have same:Same H (upd (jC H f as) L (.lst (as'.map V.ref))):=λ b o eb=>by rw[ah (λ z=>by rw[z,Lfr]at eb;cases eb),gc (λ z=>by rw[fresh b z]at eb;cases eb)];exact eb
  apply%[.ref L,_,I3,Y|q L as' (as'.map at') _ Lfr ai ?_ ?_ ?_ same]
  ·have:∀bs:Ks Ko,(∀b∈bs,b∈as)->Paired (λ p kv=>∃q,(upd (jC H f as) L (.lst (as'.map V.ref))) p= ~~~[.ref q,kv.2]/\(upd (jC H f as) L (.lst (as'.map V.ref))) q= ~~~(kv.1.map kV)) bs (bs.map at'):=λ bs=>by
    induction bs with
    | nil=>exactλ _=>.nil
    | cons b bs ih=>
     intro hb;have mb:=hb b B9;obtain⟨v,g1,g2,g3,_⟩:=hkq b mb;apply .cons %[kq b,?_|same _ _ g2] (ih λ c hc=>hb c (B6 _ hc));rw[ah (λ z:b=L=>Lna (by rw[<- z];exact mb)),qh mb,ef]
   exact this as' λ b hb=>pa.mem_iff.mp hb
  ·rw[<- emap];exact pa.map _
  ·rw[Jc];exact ps
end
end L2
namespace Pc
open PySem L2
def top (i:Nat):Stmt:=PySem.Challenge.pw_platecuts_k71_whole_greatest_bundles.main.body.getD i (.Pass %[0,0,0|0])
abbrev lD:Stmt:=top 9
abbrev lE:Stmt:=top 10
abbrev wW:Stmt:=top 11
abbrev dk:Stmt:=top 12
abbrev dq:Stmt:=top 13
abbrev hX:Stmt:=top 17
abbrev dO:Stmt:=top 18
abbrev fm:Stmt:=top 19
abbrev eh:Stmt:=top 20
abbrev dh:Stmt:=top 21
abbrev du:Stmt:=top 27
abbrev cw:Stmt:=top 28
abbrev ge:Stmt:=top 29
abbrev dP:Stmt:=top 30
abbrev cx:Stmt:=top 31
abbrev br:Stmt:=top 32
abbrev cz:Stmt:=top 33
abbrev bt:Stmt:=top 34
abbrev hZ:Stmt:=top 38
abbrev ig:Stmt:=top 39
abbrev dQ:Stmt:=inClass (top 40) 0
abbrev er:Stmt:=inClass (top 40) 1
abbrev ou:Stmt:=inClass (top 40) 2
abbrev cK:Stmt:=inClass (top 40) 3
abbrev dv:Stmt:=inClass (top 40) 4
abbrev cS:Stmt:=inClass (top 40) 5
abbrev et:Stmt:=inClass (top 40) 6
abbrev qj:Stmt:=top 42
abbrev wX:Stmt:=top 43
abbrev ql:Stmt:=top 44
abbrev qo:Stmt:=top 45
abbrev mO:Stmt:=top 46
abbrev qp:Stmt:=top 47
abbrev dw:Stmt:=top 48
abbrev iZ:Stmt:=top 49
abbrev dz:Stmt:=top 50
abbrev mP:Stmt:=top 51
abbrev gf:Stmt:=top 52
abbrev kr:Stmt:=top 53
abbrev fI:Stmt:=top 54
abbrev fo:Stmt:=top 55
abbrev lF:Stmt:=top 56
abbrev mQ:Stmt:=top 57
@[elab_as_elim] theorem aB {H:Hp} {t:Ko} {o:HO} {P:Hp->Prop} (ht:H t=none) (h:∀H',H' t=some o->Same H H'->P H'):P (upd H t o):=h _ ai (IT ht)
section
variable {P:IP} {w:IR} {K:C6} {mg:Str->Kq IS} {base:Heap}
structure Blt (mg:Str->Kq Value):Prop where
 isi:mg "isinstance" = none
 int:mg "int" = none
 bool:mg "bool" = none
 list:mg "list" = none
 tuple:mg "tuple" = none
 len:mg "len" = none
 range:mg "range" = none
 max:mg "max" = none
 min:mg "min" = none
 abs:mg "abs" = none
 divmod:mg "divmod" = none
 sum:mg "sum" = none
 sorted:mg "sorted" = none
 all:mg "all" = none
 repr:mg "repr" = none
 zip:mg "zip" = none
 enumerate:mg "enumerate" = none
 mostk:∃t,mg "MOST_KINDS" = some (.int 8 t)
 fivek:∃t,mg "THINGS_OF_A_KIND" = some (.int 5 t)
end
theorem aq {t u:TS} {D:Ends} {σ:St} {H:Hp} (J:St->Hp->Prop) (h1:∀R:St->Hp->Prop,(∀σ' H',J σ' H'->R σ' H')->t { D with nx:=R } σ H) (h2:∀σ' H',J σ' H'->u D σ' H'):Av t u D σ H:=h1 _ h2
section
variable {P:IP} {w:IR} {K:C6} {mg:Str->Kq IS} {base:Heap}
theorem wY:FnScope ["thing","least"] ["thing","least"] (defScope lD):=%[Y,Y,Y,∅,Y,∅|∅]
theorem uZ {f:Ko} {fd:IQ} (F:Fun K "is_whole" "is_whole" lD f fd) (B:Blt mg):FnOk P w K mg base CX0 1 f fd ["thing","least"] (dU K):=by
 apply F.ok wY (λ vs H Q E h=>?_) (λ cdv A outer s H vs Q E hr h=>?_)
 ·obtain⟨x,T,l,rfl,_⟩:=h
  rfl
 obtain⟨x,T,l,rfl,⟨tn,ty⟩,q⟩:=h;apply⟨_,ag (ao (eJ (ak bu rfl B.isi K7 (aa (pv 0) (aa (cJ (v:=.ty "int") rfl B.int PyProof.Rows.boot_int rfl) ab)))
  (eJ (tL (ak bu rfl B.isi K7 (aa (pv 0) (aa (cJ (v:=.ty "bool") rfl B.bool PyProof.Rows.boot_bool rfl) ab))))
  (fA (bJ xC (pv 0) (pv 1) (aJ _)))))),?_⟩
 apply%[_,Y,x,_,_,_,_,Y,ty,Y,wz T tn,_,Y|?_];have tb:=pQ ty;apply fu (λ c=>?_) (λ c=>?_)
 ·apply%[_,Y,x,_,_,_,_,Y,ty,Y,ml T tn,_,Y,_,Y|?_];apply fu (λ c2=>?_) (λ c2=>?_)
  ·have hT:(T == "int")=true:=by
    have:(T == "bool")=false:=by simpa using c2
    rw[this,Bool.or_false]at c;exact c
   obtain⟨i,rfl⟩:=ym ty tn hT;exact%[_,Y,_,Y,_,_,Y,Y|q]
  ·have hT:qS x=true:=by
    rw[<- tb];cases e:(T == "bool")with
    | true=>rfl
    | false=>rw[e]at c2;exact absurd rfl c2
   cases x <;> first | exact q | (exact absurd hT B3)
 ·have hx:bF x l=false:=by
   cases x with
   | int i=>
    exfalso;have ty':=ty;generalize hv:Value.type T=tv at ty';cases ty' with
    | int=>cases hv;exact c rfl
   | _=>rfl
  rw[hx]at q;exact q
theorem wZ:FnScope ["thing"] ["thing"] (defScope lE):=%[Y,Y,Y,∅,Y,∅|∅]
theorem vb {f:Ko} {fd:IQ} (F:Fun K "is_truth" "is_truth" lE f fd) (B:Blt mg):FnOk P w K mg base CX0 1 f fd ["thing"] (gY K):=by
 apply F.ok wZ (λ vs H Q E h=>?_) (λ cdv A outer s H vs Q E hr h=>?_)
 ·obtain⟨x,T,rfl,_⟩:=h
  rfl
 obtain⟨x,T,rfl,⟨tn,ty⟩,q⟩:=h;apply%[_,ag (ao (ak bu rfl B.isi K7 (aa (pv 0) (aa (cJ (v:=.ty "bool") rfl B.bool PyProof.Rows.boot_bool rfl) ab))))|?_];apply%[_,Y,x,_,_,_,_,Y,ty,Y,ml T tn|?_];rw[pQ ty];exact q
theorem AZ:FnScope ["thing"] ["thing"] (defScope wW):=%[Y,Y,Y,∅,Y,∅|∅]
theorem yI {f:Ko} {fd:IQ} (F:Fun K "is_row" "is_row" wW f fd) (B:Blt mg):FnOk P w K mg base CX0 1 f fd ["thing"] (pR K):=by
 apply F.ok AZ (λ vs H Q E h=>?_) (λ cdv A outer s H vs Q E hr h=>?_)
 ·obtain⟨x,T,rfl,_⟩:=h
  rfl
 obtain⟨x,T,rfl,ty,q⟩:=h;apply%[_,ag (ao (ak kT rfl B.isi K7 (aa (pv 0) (aa (aG (aa (cJ (v:=.ty "list") rfl B.list Lj rfl) (aa (cJ (v:=.ty "tuple") rfl B.tuple K8 rfl) ab))) ab))))|?_];apply%[_,Y,zS2|λ p hp=>?_];have s1:Same H (upd H p (.tup [.ty "list",.ty "tuple"])):=λ b o e=>by rw[ah (ae e hp)];exact e
 have t2:=Ty.same s1 ty;exact%[x,p,_,_,_,_,Y,t2.2,ai,Y,wA T ty.1|q _ s1]
theorem scIsKind:FnScope ["thing","wide","high","worth","wanted","turns"] ["thing"] (defScope hZ):=%[Y,Y,Y,∅,Y,∅|∅]
theorem rH {f:Ko} {fd:IQ} (F:Fun K "is_kind" "is_kind" hZ f fd) (B:Blt mg) (DW:Dn P w K mg base "is_whole" ["thing","least"] 1 (dU K)) (DT:Dn P w K mg base "is_truth" ["thing"] 1 (gY K)) (DR:Dn P w K mg base "is_row" ["thing"] 1 (pR K)) :
  FnOk P w K mg base CX0 2 f fd ["thing"] (fT K):=by
 apply F.ok scIsKind (λ vs H Q E h=>?_) (λ cdv A outer s H vs Q E hr h=>?_)
 ·obtain⟨x,T,rfl,_⟩:=h
  rfl
 obtain⟨x,T,rfl,ty,q⟩:=h;obtain⟨tk,htk⟩:=B.fivek;have nd:=scIsKind.nd;apply⟨_,af (aZ (PW.pt (cF (aU (aM (au DR hr rfl (aa (pv 0) ab)))) (cG (aO jH (ak aK rfl B.len LI (aa (pv 0) ab)) (cO (v:=.int 5) rfl htk %[tk|Y]) (aJ _))))) (ag (ao cD)) aD)
  (af (eK (pv 0) (uo rfl (am (aj (i:=1) nd rfl (Or.inl rfl)) (am (aj (i:=2) nd rfl (Or.inl rfl)) (am (aj (i:=3) nd rfl (Or.inl rfl)) (am (aj (i:=4) nd rfl (Or.inl rfl)) (am (aj (i:=5) nd rfl (Or.inl rfl)) bp)))))))
  (af (aZ (PW.pt (cF (aU (aM (au DW hr rfl (aa (pv 1) (aa ad ab))))) (cG (aU (aM (au DW hr rfl (aa (pv 2) (aa ad ab)))))))) (ag (ao cD)) aD)
  (ag (ao (eJ (au DW hr rfl (aa (pv 3) (aa ad ab))) (eJ (au DW hr rfl (aa (pv 4) (aa ad ab))) (fA (au DT hr rfl (aa (pv 5) ab))))))))),?_⟩
 apply%[_,Y,x,T,Y,ty|λ H1 s1=>%[_,Y|?_]];rcases q with⟨n1,n2,q⟩ | ⟨a,xs,rfl,hx,its,q⟩
 ·have e:(T == "list" || T == "tuple")=false:=by simp[n1,n2]
  rw[e];apply cQ (cQ ?_);exact q H1 s1
 ·have e:(T == "list" || T == "tuple")=true:=by
   have t2:=ty.2;generalize hv:Value.type T=tv at t2;generalize hr:V.ref a=rv at t2;cases t2 with
   | lst _=>cases hv;rfl
   | frz _=>cases hv;rfl
   | tup _=>cases hv;rfl
   | dK e=>cases hr;rcases hx with z | z <;> (rw[z]at e;cases e)
   | dT e=>cases hr;rcases hx with z | z <;> (rw[z]at e;cases e)
   | ext e _=>cases hr;rcases hx with z | z <;> (rw[z]at e;cases e)
   | ins=>cases hv
   | _=>cases hr
  rw[e];have sq:SqL K H1 a xs\/SqT K H1 a xs:=by
   rcases hx with z | z
   ·exact .inl (IV (s1 _ _ z))
   ·exact .inr (IU (s1 _ _ z))
  apply aT %[_,rfl,a,xs,rfl,sq,rfl,_,rfl|?_];apply fu (λ c=>?_) (λ c=>?_)
  ·have hl:xs.length≠5:=λ z=>by rw[z]at c;exact absurd c ∅
   have:jO xs=false:=by
    unfold jO
    split
    ·exact absurd rfl hl
    ·rfl
   rw[this]at q;exact q H1 s1
  ·have hl:xs.length=5:=by
    by_cases z:xs.length=5
    ·exact z
    ·exfalso;apply c ?_;have:¬ (V.int (xs.length:Int)=V.int 5):=λ h=>z (by have:=V.int.inj h;lia);rw[K5 this];rfl
   obtain⟨x1,x2,x3,x4,x5,rfl⟩:∃x1 x2 x3 x4 x5,xs=[x1,x2,x3,x4,x5]:=by
    match xs,hl with
    | [a,b,c,d,e],_=>exact%[a,b,c,d,e|Y]
   obtain⟨T1,t1⟩:=its x1 (by simp);obtain⟨T2,t2⟩:=its x2 (by simp);obtain⟨T3,t3⟩:=its x3 (by simp);obtain⟨T4,t4⟩:=its x4 (by simp);obtain⟨T5,t5⟩:=its x5 (by simp);apply%[_,Y,a,_,Y,sq,Y,x1,_,Y,x2,_,Y,x3,_,Y,x4,_,Y,x5,_,Y,Y|?_];apply%[_,Y,x1,T1,1,Y,Ty.same s1 t1,_,Y|?_];have q':∀b,jO [x1,x2,x3,x4,x5]=b->Q (.bl b) H1:=λ b e=>by rw[<- e];exact q H1 s1
   have k5:jO [x1,x2,x3,x4,x5]=(bF x1 1 && bF x2 1 && bF x3 0 && bF x4 0 && qS x5):=rfl;cases w1:bF x1 1 with
   | false=>
    apply cQ (cQ ?_);exact q' false (by rw[k5,w1];rfl)
   | true=>
    apply aT %[_,rfl,x2,T2,1,rfl,Ty.same s1 t2,_,rfl|?_];cases w2:bF x2 1 with
    | false=>
     apply cQ ?_;exact q' false (by rw[k5,w1,w2];rfl)
    | true=>
     apply aT %[_,rfl,x3,T3,0,rfl,Ty.same s1 t3,_,rfl|?_];cases w3:bF x3 0 with
     | false=>
      apply aT ?_;exact q' false (by rw[k5,w1,w2,w3];rfl)
     | true=>
      apply cQ %[_,rfl,x4,T4,0,rfl,Ty.same s1 t4,_,rfl|?_];cases w4:bF x4 0 with
      | false=>
       apply aT ?_;exact q' false (by rw[k5,w1,w2,w3,w4];rfl)
      | true=>
       apply cQ %[_,rfl,x5,T5,rfl,Ty.same s1 t5|?_];exact q' _ (by rw[k5,w1,w2,w3,w4];rfl)
theorem scInit:FnScope ["self","blade","kinds","kind"] ["self","blade","kinds"] (defScope dQ):=%[Y,Y,Y,∅,Y,∅|∅]
theorem xb {f C:Ko} {fd:IQ} (F:Fun K "__init__" "Shop.__init__" dQ f fd) (B:Blt mg) (T:ShopTxt K C) (DW:Dn P w K mg base "is_whole" ["thing","least"] 1 (dU K)) (DR:Dn P w K mg base "is_row" ["thing"] 1 (pR K))
  (DK:Dn P w K mg base "is_kind" ["thing"] 2 (fT K)):FnOk P w K mg base CX0 3 f fd ["self","blade","kinds"] (nJ C):=by
 apply F.ok scInit (λ vs H Q E h=>?_) (λ cdv A outer s H vs Q E hr h=>?_)
 ·obtain⟨x,dx,ks,b,rs,kds,rfl,_⟩:=h
  rfl
 obtain⟨x,dx,ks,b,rs,kds,rfl,hx,b0,hks,hrs,hgd,n1,n8,q⟩:=h;have hr1:=hr.mono (show 1<=2 by decide);obtain⟨tk,htk⟩:=B.mostk;have nd:=scInit.nd;have n8':(8:Nat) < sizeLine:=∅
 apply⟨_,af (aZ (aU (aM (au DW hr1 rfl (aa (pv 1) (aa ad ab))))) gt aD)
  (af (aZ (PW.pt (cF (aU (aM (au DR hr1 rfl (aa (pv 2) ab)))) (cG (aU (tR gH gH ad (ak aK rfl B.len LI (aa (pv 2) ab)) (cO (v:=.int 8) rfl htk %[tk|rfl])))))) gt aD)
  (af (bv E6 rfl (uq (pv 2)) (aj (i:=3) nd rfl (Or.inl rfl)) (ag (aZ (aU (aM (au DK hr rfl (aa (pv 3) ab)))) gt aD)))
  (af (tU (pv 0) (pv 1) rfl)
  (ag (tU (pv 0) (aS aP rfl B.tuple K8 (aa (aX (own:=["kind"]) (cs:=[]) (cap:=[]) rfl (uq (pv 2))
   (ay (sc:=defScope dQ) (N:=["self","blade","kinds","kind"]) rfl rfl ∅)
   (λ _ _ _ _ _=>aj (i:=0) (by show List.Nodup (["kind"]:Ks Str);decide +kernel) rfl (Or.inl rfl) (Or.inr rfl)) (λ _ _ _ _ _=>aE)
   (λ _ _ _ _ _=>aS (r:=ut K) aP rfl B.tuple K8 (aa (pv 0) ab))) ab)) rfl))))),?_⟩
 apply%[_,Y,.int b,_,0,Y,.int,_,Y|?_];have wb:bF (.int b) 0=true:=B1 b0;rw[wb];apply aT ?_;have tyk:∃T,Ty K H (.ref ks) T/\(T == "list" || T == "tuple")=true:=by
  rcases hks with e | e
  ·exact%[_,.lst e|Y]
  ·exact%[_,.tup e|Y]
 obtain⟨T0,ty0,te0⟩:=tyk;apply%[_,Y,.ref ks,T0,Y,ty0|λ H1 s1=>%[_,Y|?_]];rw[te0];have sq:∀ {H2:Hp},Same H H2->SqL K H2 ks rs\/SqT K H2 ks rs:=λ s2=>by
  rcases hks with z | z
  ·exact .inl (IV (s2 _ _ z))
  ·exact .inr (IU (s2 _ _ z))
 apply aT %[_,rfl,ks,rs,rfl,sq s1,_,_,rfl,rfl,_,rfl|?_];rw[K1 (show(1:Int)<=(rs.length:Int)by lia)];apply cQ %[_,_,rfl,rfl,_,rfl|?_];rw[K1 (show(rs.length:Int)<=8 by lia)];apply aT ?_;have yP:=E5 hrs;apply uv (j:=2) (a:=ks) (xs:=rs) rfl (hks.imp (λ z=>s1 _ _ z) λ z=>s1 _ _ z) (λ i σ H2=>∃v,σ=[↑x,⇑b,↑ks,v]/\Same H1 H2) %[none,rfl|Same.refl _] (λ i σ H2 _ ⟨_,_,s2⟩ o e=>s2 _ _ e) ?_ ?_
 ·rintro i y σ H2 hi ⟨v,rfl,s2⟩;obtain⟨k,hk,rk⟩:=IX hrs hi;apply%[_,Y|?_];simp only[qL,JX];apply qV ((rk.same s1).same s2) (hgd k (B7 hk)) λ H3 s3=>%[_,Y|aT ?_]
  exact%[_,Y|s2.trans s3]
 rintro σ H2 ⟨v,rfl,s12⟩;have s2:Same H H2:=s1.trans s12;apply%[_,Y,_,Y,x,C,dx,[],Y,s2 _ _ hx,T.cl,T.nB,(by show 0 < 1000;decide)|?_];have k3:∀c o,c≠x->H c=some o->(upd H2 x (.ins C dx (dj "blade_width" (.int b) []))) c=some o:=λ c o n e=>by rw[ah n];exact s2 c o e
 have x3:(upd H2 x (.ins C dx (dj "blade_width" (.int b) []))) x=some (.ins C dx (dj "blade_width" (.int b) [])):=ai;generalize upd H2 x (.ins C dx (dj "blade_width" (.int b) []))=H3 at k3 x3 ⊢;have rx:∀c xs,H c=↥xs\/H c= ~~~xs->c≠x:=λ c xs e z=>by subst z;rcases e with e | e <;> (rw[hx]at e;cases e)
 dsimp only[AE,tCB,xF];apply qU (j:=2) (a:=ks) (xs:=rs) rfl (hks.imp (λ z=>k3 _ _ (rx _ _ (.inl z)) z) λ z=>k3 _ _ (rx _ _ (.inr z)) z) (λ i ys H4=>ys.length=i/\Same H3 H4/\Tups H4 ys (kds.take i)) (λ i ys H4 _ ⟨_,s4,_⟩ o e=>s4 _ _ e) %[rfl,Same.refl _|.nil] ?_ ?_
 ·rintro i y ys H4 hi ⟨hy,s4,ty4⟩;have hin:i < rs.length:=(A7.mp hi).1;obtain⟨k,hk,rk⟩:=IX hrs hi;have tk1:kds.take (i+1)=kds.take i ++ [k]:=by rw[JM,hk];rfl
  apply%[⋯,leS.set rfl|aF ?_];rcases rk with⟨a,rfl,h⟩ | ⟨a,rfl,h⟩
  ·have h4:=s4 _ _ (k3 _ _ (rx _ _ (.inr h)) h);exact%[_,Y,a,_,Y|.inr %[IU h4|Nx.of hin %[by rw[JD,hy];rfl,s4|by rw[tk1];exact Paired.snoc ty4 %[a,Y|h4]]]]
  ·have h4:=s4 _ _ (k3 _ _ (rx _ _ (.inl h)) h);apply%[_,Y,a,_,Y|.inl %[IV h4|λ l hl=>Nx.of hin %[by rw[JD,hy];rfl,λ c o e=>?_|?_]]]
   ·have e4:=s4 c o e;rw[ah (ae e4 hl)];exact e4
   ·rw[tk1];exact Paired.snoc (Tups.keep (λ c xs e=>by rw[ah (ae e hl)];exact e) ty4) %[l,rfl|ai]
 rintro ys H4 ⟨hy,s4,ty4⟩;apply%[⋯|λ p hp=>?_];apply%[p,ys,Y|.inl %[IV ai|λ r hr'=>?_]];have hpr:r≠p:=λ z=>by rw[z,ai]at hr';cases hr'
 have hr4:H4 r=none:=by rw[ah hpr]at hr';exact hr'
 have x4:=s4 _ _ x3;have xp:x≠p:=ae x4 hp;have xr:x≠r:=ae x4 hr4;apply%[_,Y,x,C,dx,_,Y,(by rw[ah xr,ah xp];exact x4),T.cl,T.nK,(C8 (eL _ _ _) ∅)|?_];rw[yP,Jb]at ty4;apply q _ %[dx,r,ys,ai,by rw[ah (Ne.symm xr),ai]|?_] λ c o n e=>?_
 ·apply Tups.keep (λ c xs e=>?_) ty4;rw[ah (λ z=>by rw[z,x4]at e;cases e),ah (ae e hr4),ah (ae e hp)];exact e
 ·have e4:=s4 _ _ (k3 c o n e);rw[ah n,ah (ae e4 hr4),ah (ae e4 hp)];exact e4
theorem xc:FnScope ["self"] ["self"] (defScope er):=%[Y,Y,Y,∅,Y,∅|∅]
theorem vc {f C:Ko} {fd:IQ} (F:Fun K "blade" "Shop.blade" er f fd) (T:ShopTxt K C):FnOk P w K mg base CX0 1 f fd ["self"] (kU C):=by
 apply F.ok xc (λ vs H Q E h=>?_) (λ cdv A outer s H vs Q E hr h=>?_)
 ·obtain⟨x,b,ks,rfl,_⟩:=h
  rfl
 obtain⟨x,b,ks,rfl,⟨dx,r,rs,h1,h2,h3⟩,q⟩:=h;exact%[_,ag (ao (gv (pv 0) rfl)),_,Y,x,C,dx,_,_,Y,h1,T.cl,T.nB,nI _ _|q]
theorem vd:FnScope ["kind"] ["kind"] (defScope ig):=%[Y,Y,Y,∅,Y,∅|∅]
theorem rJ {f:Ko} {fd:IQ} (F:Fun K "can_lie_turned" "can_lie_turned" ig f fd):FnOk P w K mg base CX0 1 f fd ["kind"] (fU K):=by
 apply F.ok vd (λ vs H Q E h=>?_) (λ cdv A outer s H vs Q E hr h=>?_)
 ·obtain⟨a,k,rfl,_⟩:=h
  rfl
 obtain⟨a,k,rfl,ha,q⟩:=h;apply%[_,ag (ao (eJ (bf bD (pv 0) ad (λ _ _=>rfl)) (fA (bJ jH (bf bD (pv 0) ad (λ _ _=>rfl)) (bf bD (pv 0) ad (λ _ _=>rfl)) (aJ _)))))|?_];apply%[_,Y,a,_,4,_,Y,Y,IU ha,Y,_,Y|?_];unfold bI at q;apply fu (λ c=>?_) (λ c=>?_)
 ·rw[c,Bool.true_and]at q;apply%[_,Y,a,_,0,_,Y,Y,IU ha,Y,_,Y,a,_,1,_,Y,Y,IU ha,Y,Y|?_];rw[kO];rw[show(decide (k.w=k.h))=(k.w == k.h)from rfl]at q;exact q
 ·have c':k.tu=false:=by simpa using c
  rw[c',Bool.false_and]at q;exact q
theorem scLyings:FnScope ["self","told","number","kind"] ["self"] (defScope dv):=%[Y,Y,Y,∅,Y,∅|∅]
theorem rK {f C:Ko} {fd:IQ} (F:Fun K "lyings" "Shop.lyings" dv f fd) (T:ShopTxt K C) (me:mg "enumerate" = none) (DT:Dn P w K mg base "can_lie_turned" ["kind"] 1 (fU K)) :
  FnOk P w K mg base CX0 2 f fd ["self"] (iN C):=by
 apply F.ok scLyings (λ vs H Q E h=>?_) (λ cdv A outer s H vs Q E hr h=>?_)
 ·obtain⟨x,b,ks,rfl,_⟩:=h
  rfl
 obtain⟨x,b,ks,rfl,⟨dx,r,rs,h1,h2,h3⟩,n8,q⟩:=h;have nd:=scLyings.nd;apply⟨_,af (aV (i:=1) nd rfl (Or.inl rfl) (bW ab))
  (af (bv E6 rfl (gZ rfl me (aa (gv (pv 0) rfl) ab)) (bU rfl (am (aj (i:=2) nd rfl (Or.inl rfl)) (am (aj (i:=3) nd rfl (Or.inl rfl)) bp)))
   (af (bS (gJ IM PySem.F.slot_list_append PySem.F.type_list_append cV (pv 1) (aa (aG (aa (pv 2) (aa cD ab))) ab)))
   (ag (aZ (aM (au DT hr rfl (aa (pv 3) ab)))
    (ag (bS (gJ IM PySem.F.slot_list_append PySem.F.type_list_append cV (pv 1) (aa (aG (aa (pv 2) (aa cD ab))) ab)))) aD))))
  (ag (ao (pv 1)))),?_⟩
 apply%[∅|λ l hl=>?_];have s1:Same H (upd H l (.lst [])):=IT hl;have l1:(upd H l (.lst ([]:Ks V))) l=↥[]:=ai;generalize upd H l (.lst ([]:Ks V))=H1 at s1 l1 ⊢;have vJ:=E5 h3;have n8':(100:Nat) < sizeLine:=∅
 apply%[_,Y,x,C,dx,_,_,Y,s1 _ _ h1,T.cl,T.nK,dE _ _,r,rs,Y|.inr %[s1 _ _ h2|?_]];apply iM (f:=HO.tup) (λ _ _ e=>HO.tup.inj e) (xs:=rs) (λ i σ H2=>∃v2 v3 ys,σ=[↑x,↑l,v2,v3]/\Same H H2/\H2 l=↥ys/\Lys H2 ys (lyK (ks.take i) 0)) %[none,none,[],rfl,s1,l1|.nil]
  (λ i σ H2 ⟨_,_,_,_,s2,_⟩=>s2 _ _ h2) ?_ ?_
 ·rintro i y p σ H2 hi hp ⟨v2,v3,ys,rfl,s2,l2,y2⟩;obtain⟨k,hk,a,rfl,ha⟩:=IX h3 hi;have s3:Same H (upd H2 p (.tup [.int i,.ref a])):=s2.trans (IT hp);have l3:(upd H2 p (.tup [.int (i:Int),.ref a])) l=↥ys:=by rw[ah (ae l2 hp)];exact l2
  have y3:Lys (upd H2 p (.tup [.int (i:Int),.ref a])) ys (lyK (ks.take i) 0):=Lys.keep (λ c xs e=>by rw[ah (ae e hp)];exact e) y2;have p3:(upd H2 p (.tup [.int (i:Int),.ref a])) p= ~~~[.int (i:Int),.ref a]:=ai;generalize upd H2 p (.tup [.int (i:Int),.ref a])=H3 at s3 l3 y3 p3 ⊢;have hli:i < ks.length:=(A7.mp hk).1;have ylen:ys.length<=16:=by have e1:=E5 y2;have e2:=kX (ks.take i) 0;rw[JJ]at e2;lia
  have tk1:lyK (ks.take (i+1)) 0=lyK (ks.take i) 0 ++ lyT i k:=by rw[JM,hk];show lyK (ks.take i ++ [k]) 0=_;rw[mr,JJ,Kl,Nat.min_eq_left (C9 hli)]
  apply%[p,_,Y,IU p3,Y,_,_,Y,_,_,Y,Y|?_];apply%[_,Y,.inl %[Y,_|IV l3],_,Y,zS2|λ t ht=>?_];have lt:l≠t:=ae l3 ht;apply%[l,ys,_,Y,Y,(by rw[ah lt];exact l3),⋯|?_];obtain⟨s4,l4,y4⟩:=ux (b:=false) hl s3 l3 y3 ht;generalize upd (upd H3 t (.tup [.int (i:Int),.bl false])) l (.lst (ys ++ [.ref t]))=H4 at s4 l4 y4 ⊢;apply%[_,Y,a,k,Y,s4 _ _ ha,_,Y|?_];apply fu (λ c=>?_) (λ c=>?_)
  ·apply%[_,Y,.inl %[Y,_|IV l4],_,Y,zS2|λ t' ht'=>?_];have lt':l≠t':=ae l4 ht';apply%[l,_,_,Y,Y,(by rw[ah lt'];exact l4),(by rw[JD];show ys.length+1 < sizeLine;lia)|?_];obtain⟨s5,l5,y5⟩:=ux (b:=true) hl s4 l4 y4 ht';apply%[_,_,_,Y,s5,l5|?_];rw[tk1];unfold lyT;rw[Kz c];rw[show lyK (ks.take i) 0 ++ [(i,false),(i,true)]=lyK (ks.take i) 0 ++ [(i,false)] ++ [(i,true)]by simp];exact y5
  ·apply%[_,_,_,Y,s4,l4|?_];rw[tk1];unfold lyT;rw[Ky c];exact y4
 ·rintro σ H2 ⟨v2,v3,ys,rfl,s2,l2,y2⟩;rw[vJ,Jb]at y2;exact%[_,Y|q l ys H2 hl l2 y2 s2]
theorem rL:FnScope ["self","kind","turned"] ["self","kind","turned"] (defScope cS):=%[Y,Y,Y,∅,Y,∅|∅]
theorem ow {f C:Ko} {fd:IQ} (F:Fun K "is_lying" "Shop.is_lying" cS f fd) (B:Blt mg) (T:ShopTxt K C) (DW:Dn P w K mg base "is_whole" ["thing","least"] 1 (dU K)) (DU:Dn P w K mg base "is_truth" ["thing"] 1 (gY K)) (DT:Dn P w K mg base "can_lie_turned" ["kind"] 1 (fU K)) :
  FnOk P w K mg base CX0 2 f fd ["self","kind","turned"] (eZ K C):=by
 apply F.ok rL (λ vs H Q E h=>?_) (λ cdv A outer s H vs Q E hr h=>?_)
 ·obtain⟨s,b,ks,x,t,T0,U,rfl,_⟩:=h
  rfl
 obtain⟨s,b,ks,x,t,T0,U,rfl,⟨dx,r,rs,h1,h2,h3⟩,tx,tt,q⟩:=h;have vJ:=E5 h3;apply⟨_,af (aZ (PW.pt (cF (aU (aM (au DW hr rfl (aa (pv 1) (aa ad ab))))) (cF (aO xC (pv 1) (ak aK rfl B.len LI (aa (gv (pv 0) rfl) ab)) (aJ _))
   (cG (aU (aM (au DU hr rfl (aa (pv 2) ab)))))))) (ag (ao cD)) aD)
  (ag (ao (At (tL (pv 2)) (fA (au DT hr rfl (aa (bf bD (gv (pv 0) rfl) (pv 1) (λ _ _=>rfl)) ab)))))),?_⟩
 apply%[_,Y,x,_,0,Y,tx,_,Y|?_];cases hw:bF x 0 with
 | false=>
  have e:gz ks x t=false:=by
   cases x with
   | int i=>
    have h0:decide (0<=i)=false:=hw;cases t <;> first | rfl | (show(decide (0<=i) && _)=false;rw[h0,Bool.false_and])
   | _=>rfl
  rw[e]at q;exact cQ (cQ q)
 | true=>
  have ex:∃i,x=.int i/\0<=i:=by
   cases x with
   | int i=>exact%[i,Y|C2 hw]
   | _=>cases hw
  obtain⟨i,rfl,i0⟩:=ex;apply aT %[_,rfl,_,rfl,s,C,dx,_,_,rfl,h1,T.cl,T.nK,dE _ _,r,rs,rfl,.inr (IU h2),i,_,rfl,rfl,_,rfl|?_]
  by_cases hi:(rs.length:Int)<=i
  ·rw[K1 hi];have e:gz ks (.int i) t=false:=by have hn:ks[i.toNat]?=none:=Jw ⋯;cases t <;> first | rfl | (show(decide (0<=i) && match ks[i.toNat]? with | some k=>_ | none=>false)=false;rw[hn,Bool.and_false])
   rw[e]at q;exact cQ (cQ q)
  ·rw[K5 hi];apply aT %[_,rfl,t,_,rfl,tt,_,rfl|?_];have hlt:i.toNat < ks.length:=⋯
   cases hb:qS t with
   | false=>
    have e:gz ks (.int i) t=false:=by cases t <;> first | rfl | cases hb
    rw[e]at q;exact cQ q
   | true=>
    have ex:∃c,t=.bl c:=by cases t <;> first | exact%[_|Y] | cases hb
    obtain⟨c,rfl⟩:=ex;obtain⟨y,hy⟩:∃y,rs[i.toNat]?=some y:=%[rs[i.toNat]'⋯|by simp[show i.toNat < rs.length by lia]]
    obtain⟨k,hk,a,rfl,ha⟩:=IX h3 hy;have e:gz ks (.int i) (.bl c)=(!c || bI k):=by show(decide (0<=i) && match ks[i.toNat]? with | some k=>(!c || bI k) | none=>false)=_;rw[hk,K1 i0,Bool.true_and]
    rw[e]at q;apply aT %[_,rfl,c,rfl,_,rfl|?_];apply fu (λ d=>?_) (λ d=>?_)
    ·rw[d,Bool.true_or]at q;exact q
    ·have d':(!c)=false:=by simpa using d
     rw[d',Bool.false_or]at q;have at':atI rs i=↑a:=by
      have en:ixN rs.length i=some i.toNat:=by unfold ixN;rw[Kz i0,Kz ⋯]
      unfold atI;rw[en];exact hy
     exact%[_,Y,s,C,dx,_,_,Y,h1,T.cl,T.nK,dE _ _,_,Y,r,rs,i,_,Y,Y,IU h2,at',a,k,Y,ha|q]
end
def ve (k:Kd) (c:Bool):Ks V:=if c=true then[.int k.h,.int k.w]else[.int k.w,.int k.h]
inductive spSides (K:C6) (C:Ko) (vs:Ks V) (H:Hp) (Q:VK) (E_:XK):Prop
 | mk (s:Ko) (b:Int) (ks:Ks Kd) (x t:V) (T U:String) (e_1:vs=[.ref s,x,t]) (e_2:ShopAt C H s b ks) (e_3:Ty K H x T) (e_4:Ty K H t U) (e_5:gz ks x t=true) (e_6:∀ (i:Int) (c:Bool) (k:Kd) (p:Ko),x=.int i->t=.bl c->ks[i.toNat]?=some k->gz ks x t=true->H p=none->Q (.ref p) (upd H p (.tup (ve k c)))):spSides K C vs H Q E_
theorem rM {ks:Ks Kd} {x t:V} (h:gz ks x t=true):∃ (i:Int) (c:Bool) (k:Kd),x=.int i/\t=.bl c/\0<=i/\ks[i.toNat]?=some k:=by
 unfold gz at h
 split at h
 ·rename_i i c
  rw[Ji]at h;obtain⟨h1,h2⟩:=h
  split at h2
  ·rename_i k hk
   exact%[i,c,k,Y,Y,C2 h1|hk]
  ·cases h2
 ·cases h
theorem yJ {rs:Ks V} {i:Int} {v:V} (i0:0<=i) (h:rs[i.toNat]?=some v):atI rs i=some v:=by
 have en:ixN rs.length i=some i.toNat:=by unfold ixN;have:=(A7.mp h).1;rw[Kz i0,Kz ⋯]
 unfold atI;rw[en];exact h
section
variable {P:IP} {w:IR} {K:C6} {mg:Str->Kq IS} {base:Heap}
theorem scSides:FnScope ["self","kind","turned","row"] ["self","kind","turned"] (defScope et):=%[Y,Y,Y,∅,Y,∅|∅]
theorem vf {f C:Ko} {fd:IQ} (F:Fun K "sides" "Shop.sides" et f fd) (T:ShopTxt K C) (ML:Mn P w K mg base C "is_lying" ["self","kind","turned"] 2 (eZ K C)) :
  FnOk P w K mg base CX0 3 f fd ["self","kind","turned"] (spSides K C):=by
 apply F.ok scSides (λ vs H Q E h=>?_) (λ cdv A outer s H vs Q E hr h=>?_)
 ·obtain⟨s,b,ks,x,t,T0,U,rfl,_⟩:=h
  rfl
 obtain⟨s,b,ks,x,t,T0,U,rfl,S,tx,tt,he,hq⟩:=h;have nd:=scSides.nd;apply⟨_,af (aZ (aU (aM (uy (pv 0) T.cl ML hr (aa (pv 1) (aa (pv 2) ab))))) (ag fN) aD)
  (af (aV (i:=3) nd rfl (Or.inl rfl) (bf bD (gv (pv 0) rfl) (pv 1) (λ _ _=>rfl)))
  (af (aZ (aM (pv 2)) (ag (ao (aG (aa (bf bD (pv 3) ad (λ _ _=>rfl)) (aa (bf bD (pv 3) ad (λ _ _=>rfl)) ab))))) aD)
  (ag (ao (aG (aa (bf bD (pv 3) ad (λ _ _=>rfl)) (aa (bf bD (pv 3) ad (λ _ _=>rfl)) ab))))))),?_⟩
 obtain⟨dx,r,rs,h1,h2,h3⟩:=id S;apply%[_,Y,s,dx,_,Y,h1,dW _ _ ∅ ∅,_,Y,_,Y,s,b,ks,x,t,T0,U,Y,S,tx,tt,_,Y|?_];cases hl:gz ks x t with
 | false=>rw[hl]at he;cases he
 | true=>
  obtain⟨i,c,k,rfl,rfl,i0,hk⟩:=rM hl;have vJ:=E5 h3;have hik:=(A7.mp hk).1;obtain⟨y,hy⟩:∃y,rs[i.toNat]?=some y:=%[rs[i.toNat]'⋯|by simp[show i.toNat < rs.length by lia]]
  obtain⟨k',hk',a,rfl,ha⟩:=IX h3 hy;rw[hk]at hk';obtain rfl:=C0 hk';apply aT ?_;apply%[_,Y,s,C,dx,_,_,Y,h1,T.cl,T.nK,dE _ _,_,Y,r,rs,i,_,Y,Y,IU h2,yJ i0 hy|?_];apply%[_,Y,_,Y|?_];cases c with
  | true=>
   apply cQ ?_;apply%[_,Y,a,_,1,_,Y,Y,IU ha,Y,_,Y,a,_,0,_,Y,Y,IU ha,Y,zS2|λ p hp=>?_];exact hq i true k p rfl rfl hk hl hp
  | false=>
   apply aT ?_;apply%[_,Y,a,_,0,_,Y,Y,IU ha,Y,_,Y,a,_,1,_,Y,Y,IU ha,Y,zS2|λ p hp=>?_];exact hq i false k p rfl rfl hk hl hp
def sd1 (k:Kd) (c:Bool):Int:=if c=true then k.h else k.w
def sd2 (k:Kd) (c:Bool):Int:=if c=true then k.w else k.h
theorem vg (k:Kd) (c:Bool):ve k c=[.int (sd1 k c),.int (sd2 k c)]:=by cases c <;> rfl
def rN (k:Kd) (c:Bool) (w h:Int):Bool:=decide (sd1 k c<=w) && decide (sd2 k c<=h)
inductive spCP (vs:Ks V) (H:Hp) (Q:VK) (E_:XK):Prop
 | mk (w h:Int) (e_1:vs=[.int w,.int h]) (e_2:1<=w) (e_3:1<=h) (e_4:Q .non H):spCP vs H Q E_
inductive spCS (vs:Ks V) (H:Hp) (Q:VK) (E_:XK):Prop
 | mk (w h m:Int) (e_1:vs=[.int w,.int h,.int m]) (e_2:w<=m) (e_3:h<=m) (e_4:Q .non H):spCS vs H Q E_
inductive spLies (C:Ko) (vs:Ks V) (H:Hp) (Q:VK) (E_:XK):Prop
 | mk (s:Ko) (b:Int) (ks:Ks Kd) (w h i:Int) (c:Bool) (k:Kd) (e_1:vs=[.ref s,.int w,.int h,.int i,.bl c,.int 0,.int 0]) (e_2:ShopAt C H s b ks) (e_3:gz ks (.int i) (.bl c)=true) (e_4:ks[i.toNat]?=some k) (e_5:∀H',Same H H'->Q (.bl (rN k c w h)) H'):spLies C vs H Q E_
theorem sccplate:FnScope ["wide","high"] ["wide","high"] (defScope dk):=%[Y,Y,Y,∅,Y,∅|∅]
theorem rO {f:Ko} {fd:IQ} (F:Fun K "check_plate" "check_plate" dk f fd) (DW:Dn P w K mg base "is_whole" ["thing","least"] 1 (dU K)):FnOk P w K mg base CX0 2 f fd ["wide","high"] (spCP):=by
 apply F.ok sccplate (λ vs H Q E h=>?_) (λ cdv A outer s H vs Q E hr h=>?_)
 ·obtain⟨w1,h1,rfl,_⟩:=h
  rfl
 obtain⟨w1,h1,rfl,hw,hh,q⟩:=h;have nd:=sccplate.nd;apply%[_,(@ag _ _ _ ((PW.pt (cF (@aU _ _ _ _ (@aM _ _ _ (DW∪((pv 0)^^^(ad^^^ab))) (by intro _;rfl))) (cG (@aU _ _ _ _ (@aM _ _ _ (DW∪((pv 1)^^^(ad^^^ab))) (by intro _;rfl))))))<|>(@ag _ _ _ fN)<|>aD))|?_];apply%[_,Y,.int w1,"int",1,Y,Ty.int,_,Y|?_];rw[show bF (.int w1) 1=true from K1 hw];apply aT %[_,rfl,.int h1,"int",1,rfl,Ty.int,_,rfl|?_];rw[show bF (.int h1) 1=true from K1 hh];exact aT q
theorem sccsides:FnScope ["wide","high","most"] ["wide","high","most"] (defScope dq):=%[Y,Y,Y,∅,Y,∅|∅]
theorem rP {f:Ko} {fd:IQ} (F:Fun K "check_sides" "check_sides" dq f fd) : FnOk P w K mg base CX0 1 f fd ["wide","high","most"] (spCS):=by
 apply F.ok sccsides (λ vs H Q E h=>?_) (λ cdv A outer s H vs Q E hr h=>?_)
 ·obtain⟨w1,h1,m,rfl,_⟩:=h
  rfl
 obtain⟨w1,h1,m,rfl,hw,hh,q⟩:=h;have nd:=sccsides.nd;apply%[_,(@ag _ _ _ ((PW.pt (cF ((pv 0)<*>iB<*>(pv 2)) (cG ((pv 1)<*>iB<*>(pv 2)))))<|>(@ag _ _ _ fN)<|>aD))|?_];apply%[_,Y,_,Y,_,_,Y,Y,_,Y|?_];rw[K5 (show¬ m < w1 by lia)];apply aT %[_,rfl,_,rfl,_,_,rfl,rfl,_,rfl|?_];rw[K5 (show¬ m < h1 by lia)];exact aT q
theorem sclies:FnScope ["shop","wide","high","kind","turned","x","y","piece_wide","piece_high"] ["shop","wide","high","kind","turned","x","y"] (defScope hX):=%[Y,Y,Y,∅,Y,∅|∅]
theorem xf {f C:Ko} {fd:IQ} (F:Fun K "lies_in" "lies_in" hX f fd) (T:ShopTxt K C) (DW:Dn P w K mg base "is_whole" ["thing","least"] 1 (dU K)) (MI:Mn P w K mg base C "is_lying" ["self","kind","turned"] 2 (eZ K C)) (MS:Mn P w K mg base C "sides" ["self","kind","turned"] 3 (spSides K C)):FnOk P w K mg base CX0 4 f fd ["shop","wide","high","kind","turned","x","y"] (spLies C):=by
 apply F.ok sclies (λ vs H Q E h=>?_) (λ cdv A outer s H vs Q E hr h=>?_)
 ·obtain⟨s,b,ks,w,h,i,c,k,rfl,_⟩:=h
  rfl
 obtain⟨s,b,ks,w,h,i,c,k,rfl,S,ly,hk,q⟩:=h;have nd:=sclies.nd;have hr1:=hr.mono (show 1<=3 by decide);have hr2:=hr.mono (show 2<=3 by decide);apply%[_,(((PW.pt (cF (@aU _ _ _ _ (@aM _ _ _ (uy (pv 0) T.cl MI hr2 ((pv 3)^^^((pv 4)^^^ab))) (by intro _;rfl))) (cF (@aU _ _ _ _ (@aM _ _ _ (@au _ _ _ _ _ _ _ _ _ _ DW hr1 Y ((pv 5)^^^(ad^^^ab)) ∅ Y Y) (by intro _;rfl))) (cG (@aU _ _ _ _ (@aM _ _ _ (@au _ _ _ _ _ _ _ _ _ _ DW hr1 Y ((pv 6)^^^(ad^^^ab)) ∅ Y Y) (by intro _;rfl)))))))<|>(cD⁻¹)<|>aD)<<<((@eK _ _ _ _ _ _ (uy (pv 0) T.cl MS hr ((pv 3)^^^((pv 4)^^^ab))) (bU Y (7•(8•bp))) Y Y Y)<<<((eJ (@bJ _ _ _ _ _ _ _ _ gH ((pv 5)|||be|||(pv 7)) (pv 1) (aJ _)) (fA (@bJ _ _ _ _ _ _ _ _ gH ((pv 6)|||be|||(pv 8)) (pv 2) (aJ _))))⁻¹)))|?_];obtain⟨dx,r,rs,h1,h2,h3⟩:=id S;apply%[_,Y,s,dx,_,Y,h1,dW _ _ ∅ ∅,_,Y,_,Y,s,b,ks,.int i,.bl c,"int","bool",Y,S,Ty.int,Ty.bl,_,Y|?_];rw[ly];apply aT %[_,rfl,.int 0,"int",0,rfl,Ty.int,_,rfl|aT %[_,rfl,.int 0,"int",0,rfl,Ty.int,_,rfl|aT ?_]];apply%[_,Y,s,dx,_,Y,h1,dW _ _ ∅ ∅,_,Y,_,Y,s,b,ks,.int i,.bl c, "int", "bool",Y,S,Ty.int,Ty.bl,ly|λ i' c' k' p e1 e2 hk' _ hp=>?_];cases e1;cases e2;rw[hk]at hk';cases hk';rw[vg];have q1:=q _ (IT hp (o:=.tup [.int (sd1 k c),.int (sd2 k c)]));apply%[p,_,Y,IU ai,Y,_,_,Y,_,_,Y,Y|?_];apply%[_,Y,_,Y,_,_,Y,Y,_,Y,_,_,Y,Y,_,Y|?_];unfold rN at q1;apply fu (λ cc=>?_) (λ cc=>?_)
 ·apply%[_,Y,_,Y,_,_,Y,Y,_,Y,_,_,Y,Y|?_];rw[Km]at cc ⊢;rw[cc]at q1;exact q1
 ·rw[Km]at cc;rw[show decide (sd1 k c<=w)=false by simpa using cc]at q1;exact q1
theorem ja {a b c:St} (h1:leS a b) (h2:leS b c):leS a c:=%[h2.1.trans h1.1|λ i v e=>h2.2 i v (h1.2 i v e)]
theorem xg {i:Nat} {k:Kd} {q:Nat×Bool} (h:q∈lyT i k):q.1=i/\(q.2=false\/bI k=true):=by
 unfold lyT at h;rcases IZ.mp h with rfl | h
 ·exact%[Y|.inl rfl]
 ·by_cases c:bI k=true
  ·rw[Kz c]at h;rw[E4.mp h];exact%[Y|.inr c]
  ·rw[Ky c]at h;simp at h
theorem lG:∀ {ks:Ks Kd} {i:Nat} {q:Nat×Bool},q∈lyK ks i->i<=q.1/\∃k,ks[q.1 - i]?=some k/\(q.2=false\/bI k=true)
 | [],_,_,h=>by simp[lyK]at h
 | k :: r,i,q,h=>by
  rcases C4.mp h with h | h
  ·obtain⟨h1,h2⟩:=xg h;exact%[⋯,k,by rw[h1,Nat.sub_self];rfl|h2]
  ·obtain⟨h1,k',h2,h3⟩:=lG h;apply%[⋯,k',?_|h3];rw[show q.1 - i=(q.1 - (i+1))+1 by lia];exact h2
theorem qr {ks:Ks Kd} {q:Nat×Bool} (h:q∈lyK ks 0):gz ks (.int q.1) (.bl q.2)=true/\∃k,ks[q.1]?=some k:=by
 obtain⟨_,k,h2,h3⟩:=lG h;rw[Nat.sub_zero]at h2;apply%[?_,k|h2];unfold gz;simp only[Ja,h2,Ji];apply%[B1 ⋯|?_];rcases h3 with e | e
 ·rw[e];rfl
 ·rw[e,Bool.or_true]
def jc (ks:Ks Kd) (w h:Int) (q:Nat×Bool):Bool:=match ks[q.1]? with
 | some k=>rN k q.2 w h
 | none=>false
inductive spLyIn (C:Ko) (vs:Ks V) (H:Hp) (Q:VK) (E_:XK):Prop
 | mk (s t:Ko) (b:Int) (ks:Ks Kd) (w h:Int) (e_1:vs=[.ref s,.ref t]) (e_2:ShopAt C H s b ks) (e_3:ks.length<=8) (e_4:H t= ~~~[.int w,.int h]) (e_5:∀ (l:Ko) (ys:Ks V) (H':Hp),H l=none->H' l=↥ys->Lys H' ys ((lyK ks 0).filter (jc ks w h))->Same H H'->Q (.ref l) H'):spLyIn C vs H Q E_
theorem sclyin:FnScope ["shop","part","wide","high"] ["shop","part"] (defScope dO):=%[Y,Y,Y,∅,Y,∅|∅]
theorem xh {f C:Ko} {fd:IQ} (F:Fun K "lyings_in" "lyings_in" dO f fd) (T:ShopTxt K C) (ML:Mn P w K mg base C "lyings" ["self"] 2 (iN C)) (DLI:Dn P w K mg base "lies_in" ["shop","wide","high","kind","turned","x","y"] 4 (spLies C)):FnOk P w K mg base CX0 5 f fd ["shop","part"] (spLyIn C):=by
 apply F.ok sclyin (λ vs H Q E h=>?_) (λ cdv A outer s H vs Q E hr h=>?_)
 ·obtain⟨s,t,b,ks,w,h,rfl,_⟩:=h
  rfl
 obtain⟨s,t,b,ks,w,h,rfl,S,k8,ht,q⟩:=h;have nd:=sclyin.nd;have hr2:=hr.mono (show 2<=4 by decide);apply%[_,((@eK _ _ _ _ _ _ (pv 1) (bU Y (am (aj (i:=2) nd Y (Or.inr Y)) (am (aj (i:=3) nd Y (Or.inr Y)) bp))) Y Y Y)<<<((aX (own:=["kind","turned"]) (cs:=["shop","wide","high"]) (cap:=[0,2,3]) Y (aW (kW (pv 0) T.cl ML hr2)) (ay (sc:=defScope dO) (N:=["shop","part","wide","high"]) Y Y ∅) (λ _ _ _ _ _=>fF K Y Y (by show List.Nodup (["kind","turned","shop","wide","high"]:Ks Str) ;decide +kernel) Y Y Y Y) (λ _ _ _ _ _=>(iI (@aM _ _ _ (DLI∪((pv 2)^^^((pv 3)^^^((pv 4)^^^((pv 0)^^^((pv 1)^^^(ad^^^(ad^^^ab)))))))) (by intro _;rfl)))) (λ _ _ _ _ _=>(@aG _ _ _ _ _ ((pv 0)^^^((pv 1)^^^ab)))))⁻¹))|?_];have sz:(100:Nat) < sizeLine:=∅
 obtain⟨dx,r,rs,h1,h2,h3⟩:=id S;apply%[_,Y,t,_,Y,IU ht,Y,_,_,Y,_,_,Y,Y|?_];apply%[_,Y,s,dx,_,Y,h1,dW _ _ ∅ ∅,s,b,ks,Y,S,k8|λ l1 ys H1 hl1 l1' ly s1=>?_];have lyl:=kX ks 0;have ylen:=E5 ly;apply%[l1,Y,%[_|IV l1']|(bA (K:=K) (.inl l1') (λ i zs H4=>Same H1 H4/\zs.length<=i/\Lys H4 zs (((lyK ks 0).take i).filter (jc ks w h))) (λ i zs H4 _ ⟨s4,_⟩ o e=>s4 _ _ e) %[Same.refl _,B4 _|.nil] ?_ ?_).1 l1']
 ·rintro i y zs H4 hi ⟨s4,zl,lz⟩;have hin:i < ys.length:=(A7.mp hi).1;obtain⟨qq,hq,a,rfl,ha⟩:=IX ly hi;obtain⟨li,k,hk⟩:=qr (B7 hq);apply%[⋯,a,_,Y,IU (s4 _ _ ha),Y,_,_,Y,_,_,Y,Y|?_];apply%[ja (leS.set rfl) (leS.set rfl)|?_];have S4:ShopAt C H4 s b ks:=S.keep (λ c o e=>s4 _ _ (s1 _ _ e)) (λ c C' d fs e=>s4 _ _ (s1 _ _ e));apply%[_,Y,_,Y,_,Y,_,Y,_,Y,s,b,ks,w,h,(qq.1:Int),qq.2,k,Y,S4,li,(by rw[Ja];exact hk)|λ H5 s5=>%[_,Y|?_]];have st:((lyK ks 0).take (i+1)).filter (jc ks w h)=((lyK ks 0).take i).filter (jc ks w h) ++ (if rN k qq.2 w h=true then[qq]else[]):=by rw[JM,hq,List.filter_append];simp only[JS,List.filter_cons,List.filter_nil];rw[show jc ks w h qq=rN k qq.2 w h by unfold jc;rw[hk]]
  dsimp only;apply fu (λ cc=>?_) (λ cc=>?_)
  ·rw[cc,Kz rfl]at st;apply%[_,Y,_,Y,zS2|λ p hp=>Nx.of hin %[(s4.trans s5).trans (IT hp),by rw[JD];show _+1<=_;lia|?_]];rw[st];apply Paired.snoc (Lys.keep (λ c o e=>?_) lz) %[p,rfl|ai];have e5:=s5 _ _ e;rw[ah (ae e5 hp)];exact e5
  ·rw[Ky cc,JX]at st;apply Nx.of hin %[s4.trans s5,⋯|?_];rw[st];exact Lys.keep (λ c o e=>s5 _ _ e) lz
 ·rintro zs H4 ⟨s4,zl,lz⟩;rw[ylen,Jb]at lz;apply%[⋯|λ p hp=>q p zs _ ((s1.trans s4).free hp) ai (Lys.keep (λ c o e=>?_) lz) ((s1.trans s4).trans (IT hp))];rw[ah (ae e hp)];exact e
end
def PtAt (H:Hp) (v:V) (p:Int×Int):Prop:=∃q,v=.ref q/\H q= ~~~[.int p.1,.int p.2]
theorem PtAt.keep {H H':Hp} (s:Same H H') {v:V} {p:Int×Int} (h:PtAt H v p):PtAt H' v p:=by obtain⟨q,e,h⟩:=h;exact%[q,e|s _ _ h]
def jd (a:Int) (n:Nat):Ks (Int×Int):=(List.range n).map λ(c:Nat)=>(a,1+(c:Int))
def aw (m n:Nat):Ks (Int×Int):=(List.range m).flatMap λ(a:Nat)=>jd (1+(a:Int)) n
theorem mR (a:Int) (n:Nat):(jd a n).length=n:=by unfold jd;rw[B5,KR]
theorem dA (m n:Nat):aw (m+1) n=aw m n ++ jd (1+(m:Int)) n:=by unfold aw;rw[List.range_succ,KB];simp
theorem kz (a:Int) (n:Nat):jd a (n+1)=jd a n ++ [(a,1+(n:Int))]:=by
 unfold jd;rw[List.range_succ,JE]
 rfl
theorem bZ (m n:Nat):(aw m n).length=m * n:=by
 induction m with
 | zero=>simp[aw]
 | succ m ih=>rw[dA,JD,ih,mR,Nat.succ_mul]
section
variable {P:IP} {w:IR} {K:C6} {mg:Str->Kq IS} {base:Heap}
inductive spParts (vs:Ks V) (H:Hp) (Q:VK) (E_:XK):Prop
 | mk (m n:Nat) (e_1:vs=[.int m,.int n]) (e_2:m<=16) (e_3:n<=16) (e_4:∀ (l:Ko) (ys:Ks V) (H':Hp),H' l=↥ys->Paired (PtAt H') ys (aw m n)->Same H H'->Q (.ref l) H'):spParts vs H Q E_
theorem scparts:FnScope ["wide","high"] ["wide","high"] (defScope dh):=%[Y,Y,Y,∅,Y,∅|∅]
theorem vh {f:Ko} {fd:IQ} (F:Fun K "parts_up_to" "parts_up_to" dh f fd) (B:Blt mg):FnOk P w K mg base CX0 1 f fd ["wide","high"] (spParts):=by
 apply F.ok scparts (λ vs H Q E h=>?_) (λ cdv A outer s H vs Q E hr h=>?_)
 ·obtain⟨m,n,rfl,_⟩:=h
  rfl
 obtain⟨m,n,rfl,m16,n16,q⟩:=h;have nd:=scparts.nd;apply%[_,((uK (own:=["a","b"]) (cs:=["high"]) (cap:=[1]) Y (eV Y B.range (ad^^^(((pv 0)|||be|||ad)^^^ab))) (ay (sc:=defScope dh) (N:=["wide","high"]) Y Y ∅) (λ _ _ _ _ _=>aj (i:=0) (by show List.Nodup (["a","b","high"]:Ks Str) ;decide +kernel) Y (Or.inl Y) (Or.inr Y)) (λ _ _ _ _ _=>aE) (λ _ _ _ _ _=>(eV Y B.range (ad^^^(((pv 2)|||be|||ad)^^^ab)))) (λ _ _ _ _ _=>aj (i:=1) (by show List.Nodup (["a","b","high"]:Ks Str) ;decide +kernel) Y (Or.inl Y) (Or.inr Y)) (λ _ _ _ _ _=>aE) (λ _ _ _ _ _=>(@aG _ _ _ _ _ ((pv 0)^^^((pv 1)^^^ab)))))⁻¹)|?_];have z4:4096<=sizeLine:=∅
 apply%[_,Y,_,_,Y,Y,1,_,Y,%[∅,∅,by show -(2 ^ 62)<=(m:Int)+1;lia|by show(m:Int)+1 < 2 ^ 62;lia]|?_];have em:((m:Int)+1 - 1).toNat=m:=⋯
 show∃W,_/\lm _ _ _ (Itr 1 ((m:Int)+1 - 1).toNat) _ _ _ _ _ _ _ W;rw[em];apply rn (lo:=1) (n:=m) (λ i ys Hx=>Same H Hx/\Paired (PtAt Hx) ys (aw i n)) %[Same.refl _|.nil] ?_ ?_
 ·rintro i ys Hx hi ⟨sx,py⟩;apply%[leS.set rfl|aF ?_];apply%[_,Y,_,_,Y,Y,1,_,Y,%[∅,∅,by show -(2 ^ 62)<=(n:Int)+1;lia|by show(n:Int)+1 < 2 ^ 62;lia]|?_];have en:((n:Int)+1 - 1).toNat=n:=⋯
  show∃W2,_/\lj _ (Itr 1 ((n:Int)+1 - 1).toNat) _ _ _ _ W2;rw[en];apply yr (lo:=1) (n:=n) (λ j zs Hy=>Same H Hy/\Paired (PtAt Hy) zs (aw i n ++ jd (1+(i:Int)) j)) %[sx|by show Paired _ _ (_ ++ []);rw[JX];exact py] ?_ ?_
  ·rintro j zs Hy hj ⟨sy,pz⟩;have pl:=E5 pz;rw[JD,bZ,mR]at pl;have:i * n<=16 * 16:=KH ⋯ ⋯;apply%[⋯,leS.set rfl|aF ?_];apply%[_,Y,_,Y,zS2|λ t ht=>?_];apply aB ht λ Hz k1 s1=>?_;apply Nx.of hj %[sy.trans s1|?_];rw[kz,<- JC];exact Paired.app (IW pz λ v p h=>h.keep s1) (.cons %[t,Y|k1] .nil)
  ·rintro zs Hy ⟨sy,pz⟩;apply Nx.of hi %[sy|?_];rw[dA];exact pz
 ·rintro ys Hx ⟨sx,py⟩;have pl:=E5 py;rw[bZ]at pl;have:m * n<=16 * 16:=KH ⋯ ⋯;apply%[⋯|λ l hl=>?_];apply aB hl λ Hz k2 s2=>?_;exact q l ys Hz k2 (IW py λ v p h=>h.keep s2) (sx.trans s2)
end
structure BeC (mg:Str->Kq Value):Prop where
 dn:∃t,mg "DOWN" = some (.str "down" t)
 rs:∃t,mg "REST" = some (.str "rest" t)
 pc:∃t,mg "PIECE" = some (.str "piece" t)
 ac:∃t,mg "ACROSS" = some (.str "across" t)
abbrev wv (dn:Bool):V:=.str (if dn=true then "down" else "across")
def WpAt (H:Hp) (v:V) (x:Bool×Int):Prop:=∃q,v=.ref q/\H q= ~~~[wv x.1,.int x.2]
theorem WpAt.keep {H H':Hp} (s:Same H H') {v:V} {x:Bool×Int} (h:WpAt H v x):WpAt H' v x:=by obtain⟨q,e,h⟩:=h;exact%[q,e|s _ _ h]
def wpL (dn:Bool) (n:Nat):Ks (Bool×Int):=(List.range n).map λ(j:Nat)=>(dn,1+(j:Int))
theorem bT (dn:Bool) (n:Nat):(wpL dn n).length=n:=by unfold wpL;rw[B5,KR]
theorem gg (dn:Bool) (n:Nat):wpL dn (n+1)=wpL dn n ++ [(dn,1+(n:Int))]:=by
 unfold wpL;rw[List.range_succ,JE]
 rfl
def aY (b w h:Int):Ks (Bool×Int):=wpL true (w - b - 1).toNat ++ wpL false (h - b - 1).toNat
def cI (w h:Int) (x:Bool×Int):Int×Int:=if x.1=true then(x.2,h)else(w,x.2)
def cB (b w h:Int) (x:Bool×Int):Int×Int:=if x.1=true then(w - x.2 - b,h)else(w,h - x.2 - b)
def CutAt (b w h:Int) (H:Hp) (v:V) (x:Bool×Int):Prop:=∃q t1 t2,v=.ref q/\H q= ~~~[wv x.1,.int x.2,.ref t1,.ref t2]/\H t1= ~~~[.int (cI w h x).1,.int (cI w h x).2]/\H t2= ~~~[.int (cB b w h x).1,.int (cB b w h x).2]
theorem CutAt.keep {b w h:Int} {H H':Hp} (s:Same H H') {v:V} {x:Bool×Int} (c:CutAt b w h H v x):CutAt b w h H' v x:=by obtain⟨q,t1,t2,e,h1,h2,h3⟩:=c;exact%[q,t1,t2,e,s _ _ h1,s _ _ h2|s _ _ h3]
section
variable {P:IP} {w:IR} {K:C6} {mg:Str->Kq IS} {base:Heap}
inductive spParts2 (vs:Ks V) (H:Hp) (Q:VK) (E_:XK):Prop
 | mk (b w h p:Int) (t:Ko) (dn:Bool) (e_1:vs=[.int b,.ref t,.str (if dn=true then "down" else "across"),.int p]) (e_2:H t= ~~~[.int w,.int h]) (e_3:∀ (u t1 t2:Ko) (H':Hp),H' u= ~~~[.ref t1,.ref t2]->H' t1= ~~~(if dn=true then[.int p,.int h]else[.int w,.int p])->H' t2= ~~~(if dn=true then[.int (w - p - b),.int h]else[.int w,.int (h - p - b)])->Same H H'->Q (.ref u) H'):spParts2 vs H Q E_
inductive spCuts (vs:Ks V) (H:Hp) (Q:VK) (E_:XK):Prop
 | mk (b w h:Int) (t:Ko) (e_1:vs=[.int b,.ref t]) (e_2:H t= ~~~[.int w,.int h]) (e_3:w<=16) (e_4:h<=16) (e_5:0<=b) (e_6:∀ (l:Ko) (ys:Ks V) (H':Hp),H' l=↥ys->Paired (CutAt b w h H') ys (aY b w h)->Same H H'->Q (.ref l) H'):spCuts vs H Q E_
theorem scparts2:FnScope ["blade","part","way","p","wide","high"] ["blade","part","way","p"] (defScope fm):=%[Y,Y,Y,∅,Y,∅|∅]
theorem rQ {f:Ko} {fd:IQ} (F:Fun K "cut_parts" "cut_parts" fm f fd) (Z:BeC mg):FnOk P w K mg base CX0 1 f fd ["blade","part","way","p"] (spParts2):=by
 apply F.ok scparts2 (λ vs H Q E h=>?_) (λ cdv A outer s H vs Q E hr h=>?_)
 ·obtain⟨b,w1,h1,p1,t,dn,rfl,_⟩:=h
  rfl
 obtain⟨b,w1,h1,p1,t,dn,rfl,ht,q⟩:=h;have nd:=scparts2.nd;obtain⟨tdn,hdn⟩:=Z.dn;apply%[_,((@eK _ _ _ _ _ _ (pv 1) (bU Y (4•(5•bp))) Y Y Y)<<<((((pv 2)<*>iA<*>(cO (v:=.str "down") Y hdn %[tdn|Y]))<|>((@aG _ _ _ _ _ ((@aG _ _ _ _ _ ((pv 3)^^^((pv 5)^^^ab)))^^^((@aG _ _ _ _ _ ((((pv 4)|||bN|||(pv 3))|||bN|||(pv 0))^^^((pv 5)^^^ab)))^^^ab)))⁻¹)<|>aD)<<<((@aG _ _ _ _ _ ((@aG _ _ _ _ _ ((pv 4)^^^((pv 3)^^^ab)))^^^((@aG _ _ _ _ _ ((pv 4)^^^((((pv 5)|||bN|||(pv 3))|||bN|||(pv 0))^^^ab)))^^^ab)))⁻¹)))|?_];apply%[_,Y,t,_,Y,IU ht,Y,_,_,Y,_,_,Y,Y|?_];cases dn with
 | true=>
  apply%[_,Y,Y,_,Y|cQ ?_];apply%[_,Y,_,Y,zS2|λ t1 h1'=>?_];have sa:Same H (upd H t1 (.tup [.int p1,.int h1])):=IT h1';have ka:(upd H t1 (.tup [.int p1,.int h1])) t1= ~~~[.int p1,.int h1]:=ai;generalize upd H t1 (.tup [.int p1,.int h1])=Ha at sa ka ⊢;apply%[_,Y,_,Y,_,_,Y,Y,_,Y,_,_,Y,Y,_,Y,zS2|λ t2 h2'=>?_];have sb:Same Ha (upd Ha t2 (.tup [.int (w1 - p1 - b),.int h1])):=IT h2';have kb:(upd Ha t2 (.tup [.int (w1 - p1 - b),.int h1])) t2= ~~~[.int (w1 - p1 - b),.int h1]:=ai;generalize upd Ha t2 (.tup [.int (w1 - p1 - b),.int h1])=Hb at sb kb ⊢;apply%[zS2|λ u hu=>?_];have sc:Same Hb (upd Hb u (.tup [.ref t1,.ref t2])):=IT hu;have kc:(upd Hb u (.tup [.ref t1,.ref t2])) u= ~~~[.ref t1,.ref t2]:=ai;generalize upd Hb u (.tup [.ref t1,.ref t2])=Hc at sc kc ⊢;exact q u t1 t2 Hc kc (sc _ _ (sb _ _ ka)) (sc _ _ kb) ((sa.trans sb).trans sc)
 | false=>
  apply%[_,Y,Y,_,Y|aT ?_];apply%[_,Y,_,Y,zS2|λ t1 h1'=>?_];have sa:Same H (upd H t1 (.tup [.int w1,.int p1])):=IT h1';have ka:(upd H t1 (.tup [.int w1,.int p1])) t1= ~~~[.int w1,.int p1]:=ai;generalize upd H t1 (.tup [.int w1,.int p1])=Ha at sa ka ⊢;apply%[_,Y,_,Y,_,Y,_,_,Y,Y,_,Y,_,_,Y,Y,zS2|λ t2 h2'=>?_];have sb:Same Ha (upd Ha t2 (.tup [.int w1,.int (h1 - p1 - b)])):=IT h2';have kb:(upd Ha t2 (.tup [.int w1,.int (h1 - p1 - b)])) t2= ~~~[.int w1,.int (h1 - p1 - b)]:=ai;generalize upd Ha t2 (.tup [.int w1,.int (h1 - p1 - b)])=Hb at sb kb ⊢;apply%[zS2|λ u hu=>?_];have sc:Same Hb (upd Hb u (.tup [.ref t1,.ref t2])):=IT hu;have kc:(upd Hb u (.tup [.ref t1,.ref t2])) u= ~~~[.ref t1,.ref t2]:=ai;generalize upd Hb u (.tup [.ref t1,.ref t2])=Hc at sc kc ⊢;exact q u t1 t2 Hc kc (sc _ _ (sb _ _ ka)) (sc _ _ kb) ((sa.trans sb).trans sc)
theorem sccuts:FnScope ["blade","part","down","across"] ["blade","part"] (defScope eh):=%[Y,Y,Y,∅,Y,∅|∅]
theorem xi {f:Ko} {fd:IQ} (F:Fun K "cuts_of" "cuts_of" eh f fd) (B:Blt mg) (Z:BeC mg) (DP:Dn P w K mg base "cut_parts" ["blade","part","way","p"] 1 (spParts2)):FnOk P w K mg base CX0 2 f fd ["blade","part"] (spCuts):=by
 apply F.ok sccuts (λ vs H Q E h=>?_) (λ cdv A outer s H vs Q E hr h=>?_)
 ·obtain⟨b,w1,h1,t,rfl,_⟩:=h
  rfl
 obtain⟨b,w1,h1,t,rfl,ht,w16,h16,b0,q⟩:=h;have nd:=sccuts.nd;obtain⟨tdn,hdn⟩:=Z.dn;obtain⟨tac,hac⟩:=Z.ac;apply%[_,((kS (i:=2) (own:=["p"]) (cs:=[]) (cap:=[]) Y nd Y Y Y (dZ Y B.range (ad^^^((((pv 1)&&&bD&&&ad)|||bN|||(pv 0))^^^ab))) (ay (sc:=defScope eh) (N:=["blade","part","down","across"]) Y Y ∅) (λ _ _ _ _ _=>aj (i:=0) (by show List.Nodup (["p"]:Ks Str) ;decide +kernel) Y (Or.inl Y) (Or.inr Y)) (λ _ _ _ _ _=>aE) (λ _ _ _ _ _=>(@aG _ _ _ _ _ ((cO (v:=.str "down") Y hdn %[tdn|Y])^^^((pv 0)^^^ab)))))<<<((kS (i:=3) (own:=["p"]) (cs:=[]) (cap:=[]) Y nd Y Y Y (dZ Y B.range (ad^^^((((pv 1)&&&bD&&&ad)|||bN|||(pv 0))^^^ab))) (ay (sc:=defScope eh) (N:=["blade","part","down","across"]) Y Y ∅) (λ _ _ _ _ _=>aj (i:=0) (by show List.Nodup (["p"]:Ks Str) ;decide +kernel) Y (Or.inl Y) (Or.inr Y)) (λ _ _ _ _ _=>aE) (λ _ _ _ _ _=>(@aG _ _ _ _ _ ((cO (v:=.str "across") Y hac %[tac|Y])^^^((pv 0)^^^ab)))))<<<((aX (own:=["way","p"]) (cs:=["blade","part"]) (cap:=[0,1]) Y (aW ((pv 2)|||iG|||(pv 3))) (ay (sc:=defScope eh) (N:=["blade","part","down","across"]) Y Y ∅) (λ _ _ _ _ _=>fF K Y Y (by show List.Nodup (["way","p","blade","part"]:Ks Str) ;decide +kernel) Y Y Y Y) (λ _ _ _ _ _=>aE) (λ _ _ _ _ _=>(az (r:=xI K) pL (@aG _ _ _ _ _ ((pv 0)^^^((pv 1)^^^ab))) (DP∪((pv 2)^^^((pv 3)^^^((pv 0)^^^((pv 1)^^^ab))))))))⁻¹)))|?_];have z4:4096<=sizeLine:=∅
 have wn:(w1 - b - 1).toNat<=16:=⋯
 have hn:(h1 - b - 1).toNat<=16:=⋯
 apply aq (λ σ' H'=>∃ (dl:Ko) (ys:Ks V),σ'=[⇑b,↑t,↑dl,none]/\H' dl=↥ys/\Paired (WpAt H') ys (wpL true (w1 - b - 1).toNat)/\Same H H') (λ R hR=>?_) ?_
 ·apply%[_,Y,t,_,0,_,Y,Y,IU ht,Y,_,Y,_,_,Y,Y,1,_,Y,%[∅,∅|by show w1 - b < 2 ^ 62;lia]|?_];show∃W,_/\cX _ _ _ (Itr 1 (w1 - b - 1).toNat) _ _ _ _ W;generalize(w1 - b - 1).toNat=n at *;apply dG (lo:=1) (n:=n) (λ i ys Hx=>Same H Hx/\Paired (WpAt Hx) ys (wpL true i)) %[Same.refl _|.nil] ?_ ?_
  ·rintro i ys Hx hi ⟨sx,py⟩;have pl:=E5 py;rw[bT]at pl;apply%[⋯,leS.set rfl|aF ?_];apply%[_,Y,zS2|λ q' hq=>?_];apply aB hq λ Hy k9 s9=>?_;apply Nx.of hi %[sx.trans s9|?_];rw[gg];exact Paired.app (IW py λ v p h=>h.keep s9) (.cons %[q',Y|k9] .nil)
  ·rintro ys Hx ⟨sx,py⟩;have pl:=E5 py;rw[bT]at pl;apply%[⋯|λ l hl=>?_];apply aB hl λ Hy k9 s9=>?_;exact hR _ _ %[l,ys,rfl,k9,IW py λ v p h=>h.keep s9|sx.trans s9]
 rintro _ H1 ⟨dl,ys,rfl,kd,pd,s1⟩;apply aq (λ σ' H'=>∃ (al:Ko) (zs:Ks V),σ'=[⇑b,↑t,↑dl,↑al]/\H' al=↥zs/\Paired (WpAt H') zs (wpL false (h1 - b - 1).toNat)/\Same H1 H') (λ R hR=>?_) ?_
 ·apply%[_,Y,t,_,1,_,Y,Y,IU (s1 _ _ ht),Y,_,Y,_,_,Y,Y,1,_,Y,%[∅,∅|by show h1 - b < 2 ^ 62;lia]|?_];show∃W,_/\cX _ _ _ (Itr 1 (h1 - b - 1).toNat) _ _ _ _ W;generalize(h1 - b - 1).toNat=n at *;apply dG (lo:=1) (n:=n) (λ i ys Hx=>Same H1 Hx/\Paired (WpAt Hx) ys (wpL false i)) %[Same.refl _|.nil] ?_ ?_
  ·rintro i ys Hx hi ⟨sx,py⟩;have pl:=E5 py;rw[bT]at pl;apply%[⋯,leS.set rfl|aF ?_];apply%[_,Y,zS2|λ q' hq=>?_];apply aB hq λ Hy k9 s9=>?_;apply Nx.of hi %[sx.trans s9|?_];rw[gg];exact Paired.app (IW py λ v p h=>h.keep s9) (.cons %[q',Y|k9] .nil)
  ·rintro ys Hx ⟨sx,py⟩;have pl:=E5 py;rw[bT]at pl;apply%[⋯|λ l hl=>?_];apply aB hl λ Hy k9 s9=>?_;exact hR _ _ %[l,ys,rfl,k9,IW py λ v p h=>h.keep s9|sx.trans s9]
 rintro _ H2 ⟨al,zs,rfl,ka,pa,s2⟩;have s02:=s1.trans s2;have ht2:=s02 _ _ ht;have pd2:Paired (WpAt H2) ys (wpL true (w1 - b - 1).toNat):=IW pd λ v p h=>h.keep s2;have l1:=E5 pd2;have l2:=E5 pa;rw[bT]at l1 l2;have pc:Paired (WpAt H2) (ys ++ zs) (aY b w1 h1):=Paired.app pd2 pa;apply%[_,Y,_,Y,dl,al,_,_,Y,Y,s2 _ _ kd,ka,⋯|λ cl hcl=>?_];apply aB hcl λ H3 k3 s3=>?_;have pc3:Paired (WpAt H3) (ys ++ zs) (aY b w1 h1):=IW pc λ v p h=>h.keep s3;have cl32:(ys ++ zs).length<=32:=by rw[JD];lia
 apply%[cl,Y,%[_|IV k3]|(bA (K:=K) (.inl k3) (λ i us Hx=>Same H3 Hx/\Paired (CutAt b w1 h1 Hx) us ((aY b w1 h1).take i)) (λ i us Hx _ ⟨sx,_⟩ o e=>sx _ _ e) %[Same.refl _|.nil] ?_ ?_).1 k3]
 ·rintro i y us Hx hi ⟨sx,pu⟩;have hin:i < (ys ++ zs).length:=(A7.mp hi).1;obtain⟨⟨dn,p⟩,hq,a,rfl,ha⟩:=IX pc3 hi;have ul:=E5 pu;rw[JJ]at ul;have hax:=sx _ _ ha;apply%[⋯,a,_,Y,IU hax,Y,_,_,Y,_,_,Y,Y|?_];apply%[ja (leS.set rfl) (leS.set rfl)|aF ?_];apply%[_,Y,_,Y,zS2|λ x hx=>?_];apply aB hx λ Hy k4 s4=>?_;apply%[_,Y,_,Y,_,Y,_,Y,b,w1,h1,p,t,dn,Y,s4 _ _ (sx _ _ (s3 _ _ ht2))|λ u t1 t2 Hz ku k1 k2 s5=>?_];apply⟨x,u,_,_,Y,Y,IU (s5 _ _ k4),IU ku,List.cons_ne_nil _ _,zS4,(λ z=>by cases z),λ _ m hm=>?_⟩;rw[show[wv dn,V.int p] ++ [V.ref t1,V.ref t2]=[wv dn,V.int p,V.ref t1,V.ref t2]from rfl];apply aB hm λ Hw k6 s6=>?_;have sxw:=s4.trans (s5.trans s6);apply Nx.of hin %[sx.trans sxw|?_];rw[JM,hq];apply Paired.app (IW pu λ v p h=>h.keep sxw) (.cons %[m,t1,t2,Y,k6,?_|?_] .nil)
  ·cases dn <;> exact s6 _ _ k1
  ·cases dn <;> exact s6 _ _ k2
 ·rintro us Hx ⟨sx,pu⟩;have pl:=E5 pc3;rw[pl,Jb]at pu;have ul:=E5 pu;apply%[⋯|λ l hl=>?_];apply aB hl λ Hy k7 s7=>?_;exact q l us Hy k7 (IW pu λ v p h=>h.keep s7) (s02.trans (s3.trans (sx.trans s7)))
end
def bV (b:Ks Int):Ks V:=b.map V.int
def cC (n:Nat) (k:Int):Ks Int:=(List.range n).map λ j:Nat=>if Int.ofNat j=k then(1:Int)else 0
def cA:Ks Int->Ks Int->Ks Int->Ks Int
 | x :: a,y :: b,z :: w=>min (x+y) z :: cA a b w
 | _,_,_=>[]
theorem gC:∀ {a b w:Ks Int},a.length=b.length->a.length=w.length->(cA a b w).length=a.length
 | [],_,_,_,_=>by simp[cA]
 | x :: a,y :: b,z :: w,h1,h2=>by simp only[JF,Nat.add_right_cancel_iff]at h1 h2;rw[cA,JF,JF,gC h1 h2]
theorem je:∀ {a b w:Ks Int} {i:Nat} {x y z:Int},a[i]?=some x->b[i]?=some y->w[i]?=some z->(cA a b w)[i]?=some (min (x+y) z)
 | x :: a,y :: b,z :: w,0,_,_,_,h1,h2,h3=>by simp only[List.getElem?_cons_zero,Option.some.injEq]at h1 h2 h3;subst h1 h2 h3;simp[cA]
 | x :: a,y :: b,z :: w,i+1,_,_,_,h1,h2,h3=>by rw[cA,List.getElem?_cons_succ];exact je (by simpa using h1) (by simpa using h2) (by simpa using h3)
 | [],_,_,_,_,_,_,h1,_,_=>by simp at h1
 | _ :: _,[],_,_,_,_,_,_,h2,_=>by simp at h2
 | _ :: _,_ :: _,[],_,_,_,_,_,_,h3=>by simp at h3
theorem xO:∀a b:Ks Int,PyData.eqvAll (a.map PyData.int) (b.map PyData.int)=decide (a=b)
 | [],[]=>rfl
 | [],_ :: _=>rfl
 | _ :: _,[]=>rfl
 | x :: a,y :: b=>by
  have ih:=xO a b;have h:PyData.eqvAll ((x :: a).map PyData.int) ((y :: b).map PyData.int)=(PyData.eqv (.int x) (.int y) && PyData.eqvAll (a.map PyData.int) (b.map PyData.int)):=rfl;have e:PyData.eqv (.int x) (.int y)=decide (x=y):=by simp[PyData.eqv];rfl
  rw[h,ih,e];simp
theorem xP (a b:Ks Int):PyData.eqv (.tuple (a.map PyData.int)) (.tuple (b.map PyData.int))=decide (a=b):=by rw[<- xO a b];simp[PyData.eqv]
def leB (a b:Ks Int):Bool:=(a.zip b).all λ p=>decide (p.1<=p.2)
def gW (a b:Ks Int):Bool:=!decide (a=b) && leB a b
section
variable {P:IP} {w:IR} {K:C6} {mg:Str->Kq IS} {base:Heap}
def gh (C:Ko):Sp:=λ vs H Q _=>∃ (x:Ko) (b:Int) (ks:Ks Kd),vs=[.ref x]/\ShopAt C H x b ks/\ks.length<=8/\∀ (t:Ko) (H':Hp),H t=none->H' t= ~~~(ks.map λ k=>V.int k.wa)->Same H H'->Q (.ref t) H'
def vi (C:Ko):Sp:=λ vs H Q _=>∃ (s:Ko) (b w h:Int) (ks:Ks Kd),vs=[.ref s,.int w,.int h]/\ShopAt C H s b ks/\ks.length<=8/\1<=w/\w<=8/\1<=h/\h<=8/\(ks.map λ k=>k.wa).sum<=6/\∀H',Same H H'->Q .non H'
def oz:Sp:=λ vs H Q _=>∃ (t:Ko) (ws:Ks Int) (k:Int),vs=[.ref t,.int k]/\H t= ~~~(bV ws)/\ws.length<=8/\∀ (a:Ko) (H':Hp),H' a= ~~~(bV (cC ws.length k))->Same H H'->Q (.ref a) H'
def oA:Sp:=λ vs H Q _=>∃ (t u v:Ko) (xs ys ws:Ks Int),vs=[.ref t,.ref u,.ref v]/\H t= ~~~(bV xs)/\H u= ~~~(bV ys)/\H v= ~~~(bV ws)/\xs.length=ys.length/\xs.length=ws.length/\xs.length<=8/\∀ (a:Ko) (H':Hp),H' a= ~~~(bV (cA xs ys ws))->Same H H'->Q (.ref a) H'
def oB:Sp:=λ vs H Q _=>∃ (t u:Ko) (xs ys:Ks Int),vs=[.ref t,.ref u]/\H t= ~~~(bV xs)/\H u= ~~~(bV ys)/\xs.length=ys.length/\xs.length<=8/\∀H',Same H H'->Q (.bl (gW xs ys)) H'
theorem sconeb:FnScope ["wanted","kind"] ["wanted","kind"] (defScope cw):=%[Y,Y,Y,∅,Y,∅|∅]
theorem xj {f:Ko} {fd:IQ} (F:Fun K "bundle_of_one" "bundle_of_one" cw f fd) (B:Blt mg):FnOk P w K mg base CX0 1 f fd ["wanted","kind"] (oz):=by
 apply F.ok sconeb (λ vs H Q E h=>?_) (λ cdv A outer s H vs Q E hr h=>?_)
 ·obtain⟨t,ws,k,rfl,_⟩:=h
  rfl
 obtain⟨t,ws,k,rfl,ht,l8,q⟩:=h;have nd:=sconeb.nd;apply%[_,((@aS _ _ _ _ _ _ _ _ _ aP Y B.tuple K8 ((aX (own:=["number"]) (cs:=["kind"]) (cap:=[1]) Y (eU Y B.range ((@ak _ _ _ _ _ _ _ _ _ aK Y B.len LI ((pv 0)^^^ab) ∅ ∅ Y Y)^^^ab)) (ay (sc:=defScope cw) (N:=["wanted","kind"]) Y Y ∅) (λ _ _ _ _ _=>aj (i:=0) (by show List.Nodup (["number","kind"]:Ks Str) ;decide +kernel) Y (Or.inl Y) (Or.inr Y)) (λ _ _ _ _ _=>aE) (λ _ _ _ _ _=>(tM ((pv 0)<*>iA<*>(pv 1)) ad ad)))^^^ab) ∅ ∅ Y Y)⁻¹)|?_];have wl:(bV ws).length=ws.length:=B5 _;have sz:(40000:Nat)<=sizeLine:=∅
 have ol:(cC ws.length k).length=ws.length:=by unfold cC;rw[B5,KR]
 apply%[_,Y,t,_,Y,.inr (IU ht)|?_];rw[wl];apply%[_,Y,⋯,⋯|dG (lo:=0) (n:=Int.toNat (ws.length:Int)) (λ i ys Hx=>Same H Hx/\ys=((cC ws.length k).take i).map V.int) %[Same.refl _|Y] ?_ ?_]
 ·rintro i ys Hx hi ⟨sx,rfl⟩;have hik:i < ws.length:=⋯
  apply%[by rw[B5,JJ];lia,leS.set rfl|aF ?_];have oi:(cC ws.length k)[i]?=some (if Int.ofNat i=k then(1:Int)else 0):=by unfold cC;rw[IY,List.getElem?_range hik];rfl
  have tk:∀z:Int,(if Int.ofNat i=k then(1:Int)else 0)=z->((cC ws.length k).take i).map V.int ++ [V.int z]=((cC ws.length k).take (i+1)).map V.int:=λ z hz=>by rw[JM,oi,hz];simp only[JS,JE,JA,Jj]
  apply%[_,Y,_,Y,Y,_,Y|?_]
  by_cases c:Int.ofNat i=k
  ·rw[show decide (V.int (0+i)=V.int k)=true from K1 (by rw[<- c,Km];rfl)];exact cQ (show Nx (Int.toNat (ws.length:Int)) (λ i ys Hx=>Same H Hx/\ys=((cC ws.length k).take i).map V.int) i (((cC ws.length k).take i).map V.int ++ [V.int 1]) Hx from Nx.of hi %[sx|tk 1 (Kz c)])
  ·rw[show decide (V.int (0+i)=V.int k)=false from K5 (λ z=>c (by injection z with z;rw[<- z,Km];rfl))];exact aT (show Nx (Int.toNat (ws.length:Int)) (λ i ys Hx=>Same H Hx/\ys=((cC ws.length k).take i).map V.int) i (((cC ws.length k).take i).map V.int ++ [V.int 0]) Hx from Nx.of hi %[sx|tk 0 (Ky c)])
 ·rintro ys Hx ⟨sx,rfl⟩;rw[JK ⋯];apply%[by rw[B5];lia|λ cl hcl=>?_];apply aB hcl λ H1 k1 s1=>?_;apply%[cl,_,Y|.inl %[IV k1|λ tp htp=>?_]];exact q tp _ ai ((sx.trans s1).trans (IT htp))
theorem scjoined:FnScope ["one","other","wanted"] ["one","other","wanted"] (defScope ge):=%[Y,Y,Y,∅,Y,∅|∅]
theorem rR {f:Ko} {fd:IQ} (F:Fun K "joined" "joined" ge f fd) (B:Blt mg):FnOk P w K mg base CX0 1 f fd ["one","other","wanted"] (oA):=by
 apply F.ok scjoined (λ vs H Q E h=>?_) (λ cdv A outer s H vs Q E hr h=>?_)
 ·obtain⟨t,u,v,xs,ys,ws,rfl,_⟩:=h
  rfl
 obtain⟨t,u,v,xs,ys,ws,rfl,ht,hu',hv,e1,e2,l8,q⟩:=h;have nd:=scjoined.nd;apply%[_,((@aS _ _ _ _ _ _ _ _ _ aP Y B.tuple K8 ((aX (own:=["few","more","most"]) (cs:=[]) (cap:=[]) Y (uT Y B.zip ((pv 0)^^^((pv 1)^^^((pv 2)^^^ab)))) (ay (sc:=defScope ge) (N:=["one","other","wanted"]) Y Y ∅) (λ _ _ _ _ _=>mC K Y Y (by show List.Nodup (["few","more","most"]:Ks Str) ;decide +kernel) Y Y Y Y Y Y) (λ _ _ _ _ _=>aE) (λ _ _ _ _ _=>(@ak _ _ _ _ _ _ _ _ _ (cU Y) Y B.min LZ (((pv 0)|||be|||(pv 1))^^^((pv 2)^^^ab)) ∅ ∅ Y Y)))^^^ab) ∅ ∅ Y Y)⁻¹)|?_];have l1:(bV xs).length=xs.length:=B5 _;have l2:(bV ys).length=ys.length:=B5 _;have l3:(bV ws).length=ws.length:=B5 _;have sz:(40000:Nat)<=sizeLine:=∅
 have jl:=gC e1 e2;apply%[_,Y,_,Y,_,Y,t,u,v,_,_,_,Y,ht,hu',hv|oo (xs:=bV xs) (ys:=bV ys) (zs:=bV ws) (λ i us Hx=>Same H Hx/\us=((cA xs ys ws).take i).map V.int) ⋯ ⋯ (λ i us Hx ⟨sx,_⟩=>%[sx _ _ ht,sx _ _ hu'|sx _ _ hv]) %[Same.refl _|Y] (λ i us Hx hi ⟨_,e⟩=>by rw[e,B5,JJ];lia) ?_ ?_]
 ·rintro i x y z p us Hx hx hy hz hp ⟨sx,rfl⟩;have hin:i < (bV xs).length:=(A7.mp hx).1;obtain⟨x',hx',rfl⟩:=JI.mp (show Option.map V.int xs[i]?=some x by rw[<- IY];exact hx);obtain⟨y',hy',rfl⟩:=JI.mp (show Option.map V.int ys[i]?=some y by rw[<- IY];exact hy);obtain⟨z',hz',rfl⟩:=JI.mp (show Option.map V.int ws[i]?=some z by rw[<- IY];exact hz);have ji:=je hx' hy' hz';have s1:=IT hp (o:=.tup [.int x',.int y',.int z']);apply%[p,_,Y,IU ai,Y,_,_,Y,_,_,Y,_,_,Y,Y,ja (ja (leS.set rfl) (leS.set rfl)) (leS.set rfl)|aF ?_];apply%[_,Y,_,Y,_,_,Y,Y,_,Y,_,_,Y|Nx.of hin %[sx.trans s1|?_]];rw[JM,ji,show(if z' < x'+y' then z' else x'+y')=min (x'+y') z' by split <;> lia];simp only[JS,JE,JA,Jj]
 ·rintro us Hx ⟨sx,rfl⟩;rw[l1,JK ⋯];apply%[by rw[B5];lia|λ cl hcl=>?_];apply aB hcl λ H1 k1 s1=>?_;apply%[cl,_,Y|.inl %[IV k1|λ tp htp=>?_]];exact q tp _ ai ((sx.trans s1).trans (IT htp))
theorem scisless:FnScope ["one","other"] ["one","other"] (defScope dP):=%[Y,Y,Y,∅,Y,∅|∅]
theorem rS {f:Ko} {fd:IQ} (F:Fun K "is_lesser" "is_lesser" dP f fd) (B:Blt mg):FnOk P w K mg base CX0 1 f fd ["one","other"] (oB):=by
 apply F.ok scisless (λ vs H Q E h=>?_) (λ cdv A outer s H vs Q E hr h=>?_)
 ·obtain⟨t,u,xs,ys,rfl,_⟩:=h
  rfl
 obtain⟨t,u,xs,ys,rfl,ht,hu',e1,l8,q⟩:=h;have nd:=scisless.nd;have hu:=hr.units;apply%[_,((eJ (@bJ _ _ _ _ _ _ _ _ (um hu) (pv 0) (pv 1) (aJ _)) (fA (@ak _ _ _ _ _ _ _ _ _ (fb Y) Y B.all PyProof.Rows.boot_all ((aX (own:=["few","many"]) (cs:=[]) (cap:=[]) Y (mM Y B.zip ((pv 0)^^^((pv 1)^^^ab))) (ay (sc:=defScope dP) (N:=["one","other"]) Y Y ∅) (λ _ _ _ _ _=>fF K Y Y (by show List.Nodup (["few","many"]:Ks Str) ;decide +kernel) Y Y Y Y) (λ _ _ _ _ _=>aE) (λ _ _ _ _ _=>(@bJ _ _ _ _ _ _ _ _ gH (pv 0) (pv 1) (aJ _))))^^^ab) ∅ ∅ Y Y)))⁻¹)|?_];have l1:(bV xs).length=xs.length:=B5 _;have l2:(bV ys).length=ys.length:=B5 _;have sz:(40000:Nat)<=sizeLine:=∅
 have lay:∀ns:Ks Int,PyData.canLayAll0 (ns.map PyData.int)=true/\PyData.depthAll (ns.map PyData.int)=0:=λ ns=>by
  induction ns with
  | nil=>exact%[Y|Y]
  | cons n r ih=>
   obtain⟨i1,i2⟩:=ih;apply%[by rw[JA,PyData.canLayAll0,i1];rfl|?_];rw[JA,PyData.depthAll,i2]
   rfl
 have shp:∀ns:Ks Int,SeqAt.shaped (.tuple (ns.map PyData.int))=true:=λ ns=>by
  obtain⟨i1,i2⟩:=lay ns;unfold SeqAt.shaped;rw[PyData.canLay0,i1,PyData.depth,i2]
  decide
 apply%[_,Y,_,Y,.tuple (xs.map PyData.int),.tuple (ys.map PyData.int),.tup (IU ht) (uA _),.tup (IU hu') (uA _),shp xs,shp ys,_,Y|?_];rw[xP]
 by_cases c:xs=ys
 ·rw[K1 c];apply aT ?_;have:=q H (Same.refl _);unfold gW at this;rw[K1 c]at this;exact this
 rw[K5 c];apply cQ ?_;have cmp:∀i,i < xs.length->((xs.zip ys).take (i+1)).map (λ p:Int×Int=>decide (p.1<=p.2))=((xs.zip ys).take i).map (λ p:Int×Int=>decide (p.1<=p.2)) ++ [decide ((xs[i]?).getD 0<=(ys[i]?).getD 0)]:=λ i hi=>by
  have hz:(xs.zip ys)[i]?=some (xs[i],ys[i]'⋯):=by rw[KJ];exact%[G2 hi|G2 ⋯]
  rw[JM,hz,G2 hi,G2 (show i < ys.length by lia)];simp
 apply%[_,Y,_,Y,t,u,_,_,Y,ht,hu'|iX (xs:=bV xs) (ys:=bV ys) (λ i us Hx=>Same H Hx/\us=(((xs.zip ys).take i).map (λ p:Int×Int=>decide (p.1<=p.2))).map V.bl) ⋯ (λ i us Hx ⟨sx,_⟩=>%[sx _ _ ht|sx _ _ hu']) %[Same.refl _|Y] (λ i us Hx hi ⟨_,e⟩=>by rw[e,B5,B5,JJ];lia) ?_ ?_]
 ·rintro i x y p us Hx hx hy hp ⟨sx,rfl⟩;have hin:i < (bV xs).length:=(A7.mp hx).1;obtain⟨x',hx',rfl⟩:=JI.mp (show Option.map V.int xs[i]?=some x by rw[<- IY];exact hx);obtain⟨y',hy',rfl⟩:=JI.mp (show Option.map V.int ys[i]?=some y by rw[<- IY];exact hy);have s1:=IT hp (o:=.tup [.int x',.int y']);apply%[p,_,Y,IU ai,Y,_,_,Y,_,_,Y,Y,ja (leS.set rfl) (leS.set rfl)|aF ?_];apply%[_,Y,_,Y,_,_,Y,Y|Nx.of hin %[sx.trans s1|?_]];rw[cmp i ⋯,hx',hy',JE]
  rfl
 ·rintro us Hx ⟨sx,rfl⟩;rw[l1,JK (by rw[List.length_zip];lia)];apply%[by rw[B5,B5,List.length_zip];lia|λ cl hcl=>?_];apply%[cl,_,Y,IV ai|?_];have:=q _ (sx.trans (IT hcl (o:=.lst (((xs.zip ys).map (λ p:Int×Int=>decide (p.1<=p.2))).map V.bl))));unfold gW leB at this;rw[K5 c]at this;rw[List.all_map];exact this
theorem scwanted:FnScope ["self"] ["self"] (defScope cK):=%[Y,Y,Y,∅,Y,∅|∅]
theorem rT {f C:Ko} {fd:IQ} (F:Fun K "wanted" "Shop.wanted" cK f fd) (B:Blt mg) (T:ShopTxt K C):FnOk P w K mg base CX0 1 f fd ["self"] (gh C):=by
 apply F.ok scwanted (λ vs H Q E h=>?_) (λ cdv A outer s H vs Q E hr h=>?_)
 ·obtain⟨x,b,ks,rfl,_⟩:=h
  rfl
 obtain⟨x,b,ks,rfl,S,k8,q⟩:=h;have nd:=scwanted.nd;apply%[_,((@aS _ _ _ _ _ _ _ _ _ aP Y B.tuple K8 ((aX (own:=["kind"]) (cs:=[]) (cap:=[]) Y (nq (gv (pv 0) Y)) (ay (sc:=defScope cK) (N:=["self"]) Y Y ∅) (λ _ _ _ _ _=>aj (i:=0) (by show List.Nodup (["kind"]:Ks Str) ;decide +kernel) Y (Or.inl Y) (Or.inr Y)) (λ _ _ _ _ _=>aE) (λ _ _ _ _ _=>(bf (r:=rIxT K) bD (pv 0) ad (λ _ _=>Y))))^^^ab) ∅ ∅ Y Y)⁻¹)|?_];have sz:(100:Nat) < sizeLine:=∅
 obtain⟨dx,r,rs,h1,h2,h3⟩:=id S;have len:=E5 h3;apply%[_,Y,x,C,dx,_,_,Y,h1,T.cl,T.nK,dE _ _,r,Y,%[_|IU h2]|(bA (K:=K) (.inr h2) (λ i ys H4=>H4=H/\ys=((ks.take i).map λ k=>V.int k.wa)) (λ i ys H4 _ ⟨e4,_⟩ o e=>by rw[e4];exact e) %[Y|Y] ?_ ?_).2 h2]
 ·rintro i y ys H4 hi ⟨e4,rfl⟩;subst e4;have hin:i < rs.length:=(A7.mp hi).1;obtain⟨k,hk,a,rfl,ha⟩:=IX h3 hi;apply%[by rw[B5,JJ];lia,leS.set rfl|aF %[_,Y,a,_,3,_,Y,Y,IU ha,Y|Nx.of hin %[Y|?_]]];rw[JM,hk];simp only[JS,JE,JA,Jj]
 ·rintro ys H4 ⟨e4,rfl⟩;subst e4;rw[len,Jb];apply%[by rw[B5];lia|λ p hp=>%[p,_,Y|.inl %[IV ai|λ t ht=>?_]]];have s1:=(IT (o:=.lst (ks.map λ k=>V.int k.wa)) hp).trans (IT (o:=.tup (ks.map λ k=>V.int k.wa)) ht);exact q t _ ((IT hp).free ht) ai s1
theorem sccsmall:FnScope ["shop","wide","high"] ["shop","wide","high"] (defScope du):=%[Y,Y,Y,∅,Y,∅|∅]
theorem rU {f:Ko} {fd:IQ} (F:Fun K "check_small" "check_small" du f fd) {C:Ko} (B:Blt mg) (T:ShopTxt K C) (hms:∃t,mg "MOST_SIDE" = some (.int 8 t)) (hmw:∃t,mg "MOST_WANTED" = some (.int 6 t)) (MW:Mn P w K mg base C "wanted" ["self"] 1 (gh C)) (DCP:Dn P w K mg base "check_plate" ["wide","high"] 2 (spCP)) (DCS:Dn P w K mg base "check_sides" ["wide","high","most"] 1 (spCS)):FnOk P w K mg base CX0 3 f fd ["shop","wide","high"] (vi C):=by
 apply F.ok sccsmall (λ vs H Q E h=>?_) (λ cdv A outer s H vs Q E hr h=>?_)
 ·obtain⟨s,b,w1,h1,ks,rfl,_⟩:=h
  rfl
 obtain⟨s,b,w1,h1,ks,rfl,sh,k8,w0,w8,h0,h8,sm,q⟩:=h;have nd:=sccsmall.nd;obtain⟨tm1,hm1⟩:=hms;obtain⟨tm2,hm2⟩:=hmw;apply%[_,((@bS _ _ _ _ (DCP∪((pv 1)^^^((pv 2)^^^ab))) Y)<<<((@bS _ _ _ _ (DCS∩((pv 1)^^^((pv 2)^^^((cO (v:=.int 8) Y hm1 %[tm1|Y])^^^ab)))) Y)>>>(((@ak _ _ _ _ _ _ _ _ _ (rh Y) Y B.sum PyProof.Rows.boot_sum ((kW (pv 0) T.cl MW (hr.mono ∅))^^^ab) ∅ ∅ Y Y)<*>iB<*>(cO (v:=.int 6) Y hm2 %[tm2|Y]))<|>(@ag _ _ _ fN)<|>aD)))|?_];obtain⟨dx,r,rs,S1,S2,S3⟩:=id sh;apply%[_,Y,_,Y,w1,h1,Y,w0,h0|?_];apply aq (λ σ' H'=>σ'=[↑s,⇑w1,⇑h1]/\H=H') (λ R hR=>hR _ _ %[rfl|rfl]) ?_;rintro _ _ ⟨rfl,rfl⟩;apply%[_,Y,_,Y,w1,h1,8,Y,w8,h8|?_];apply aq (λ σ' H'=>σ'=[↑s,⇑w1,⇑h1]/\H=H') (λ R hR=>hR _ _ %[rfl|rfl]) ?_;rintro _ _ ⟨rfl,rfl⟩;apply%[_,Y,s,dx,_,Y,S1,(dW _ _ ∅ ∅),s,b,ks,Y,sh,k8|λ t H1 hn ht s1=>?_];apply%[t,ks.map (λ k=>k.wa),Y,IU (by rw[Jc];exact ht),_,_,Y,Y,_,Y|?_];rw[K5 ⋯];exact aT (q _ s1)
end
def msr (p:Int×Int):Nat:=(p.1+p.2).toNat
theorem qu {dn:Bool} {n:Nat} {x:Bool×Int} (h:x∈wpL dn n):x.1=dn/\1<=x.2/\x.2<=n:=by unfold wpL at h;obtain⟨j,hj,rfl⟩:=JH.mp h;have:=Jt.mp hj;exact%[Y,by show 1<=1+(j:Int);lia|by show 1+(j:Int)<=n;lia]
theorem rV {b w h:Int} {x:Bool×Int} (m:x∈aY b w h):1<=x.2/\(if x.1=true then x.2+b < w else x.2+b < h):=by
 unfold aY at m;rcases C4.mp m with m | m
 ·obtain⟨e,h1,h2⟩:=qu m;rw[e,Kz rfl];exact%[h1|⋯]
 ·obtain⟨e,h1,h2⟩:=qu m;rw[e,Ky B3];exact%[h1|⋯]
theorem gj {b w h:Int} {x:Bool×Int} (b0:0<=b) (w0:1<=w) (h0:1<=h) (m:x∈aY b w h) :
  (1<=(cI w h x).1/\1<=(cI w h x).2/\(cI w h x).1<=w/\(cI w h x).2<=h/\((cI w h x).1 < w\/(cI w h x).1=w/\(cI w h x).2 < h)/\msr (cI w h x) < msr (w,h)) /\
  (1<=(cB b w h x).1/\1<=(cB b w h x).2/\(cB b w h x).1<=w/\(cB b w h x).2<=h/\((cB b w h x).1 < w\/(cB b w h x).1=w/\(cB b w h x).2 < h)/\msr (cB b w h x) < msr (w,h)):=by
 obtain⟨h1,h2⟩:=rV m;obtain⟨dn,p⟩:=x;cases dn with
 | true=>
  have h2:p+b < w:=h2;have h1:1<=p:=h1;show(1<=p/\1<=h/\p<=w/\h<=h/\(p < w\/p=w/\h < h)/\(p+h).toNat < (w+h).toNat)/\(1<=w - p - b/\1<=h/\w - p - b<=w/\h<=h/\(w - p - b < w\/w - p - b=w/\h < h)/\(w - p - b+h).toNat < (w+h).toNat)
  apply%[%[?_,?_,?_,?_,?_|?_]|%[?_,?_,?_,?_,?_|?_]] <;> lia
 | false=>
  have h2:p+b < h:=h2;have h1:1<=p:=h1;show(1<=w/\1<=p/\w<=w/\p<=h/\(w < w\/w=w/\p < h)/\(w+p).toNat < (w+h).toNat)/\(1<=w/\1<=h - p - b/\w<=w/\h - p - b<=h/\(w < w\/w=w/\h - p - b < h)/\(w+(h - p - b)).toNat < (w+h).toNat)
  apply%[%[?_,?_,?_,?_,?_|?_]|%[?_,?_,?_,?_,?_|?_]] <;> lia
def ltP (p q:Int×Int):Prop:=p.1 < q.1\/p.1=q.1/\p.2 < q.2
theorem rowP_mem {a:Int} {n:Nat} {p:Int×Int}:p∈jd a n↔p.1=a/\1<=p.2/\p.2<=n:=by
 unfold jd;constructor
 ·intro h;obtain⟨j,hj,rfl⟩:=JH.mp h;have:=Jt.mp hj;exact%[Y,by show 1<=1+(j:Int);lia|by show 1+(j:Int)<=n;lia]
 ·rintro⟨e,h1,h2⟩;apply JH.mpr %[(p.2 - 1).toNat,Jt.mpr ⋯|?_];rw[<- e,show 1+((p.2 - 1).toNat:Int)=p.2 by lia]
theorem partsL_mem {n:Nat} {p:Int×Int}:∀ {m:Nat},p∈aw m n↔(1<=p.1/\p.1<=m)/\1<=p.2/\p.2<=n
 | 0=>by
  constructor
  ·intro h;simp[aw]at h
  ·rintro⟨⟨h1,h2⟩,_⟩;exfalso;have h2:p.1<=0:=h2;lia
 | m+1=>by
  rw[dA,C4,partsL_mem (m:=m),rowP_mem];constructor
  ·rintro(⟨⟨h1,h2⟩,h3⟩ | ⟨h1,h2⟩)
   ·exact%[%[h1|⋯]|h3]
   ·exact%[%[⋯|⋯]|h2]
  ·rintro⟨⟨h1,h2⟩,h3⟩
   by_cases e:p.1=1+(m:Int)
   ·exact .inr %[e|h3]
   ·exact .inl %[%[h1|⋯]|h3]
theorem kA (a:Int):∀n:Nat,(jd a n).Pairwise ltP
 | 0=>List.Pairwise.nil
 | n+1=>by rw[kz,JG];apply%[kA a n,List.pairwise_singleton _ _|λ p hp q hq=>?_];rw[E4.mp hq];obtain⟨e,_,h⟩:=rowP_mem.mp hp;exact .inr %[e|by show p.2 < 1+(n:Int);lia]
theorem cq (n:Nat):∀m:Nat,(aw m n).Pairwise ltP
 | 0=>List.Pairwise.nil
 | m+1=>by rw[dA,JG];apply%[cq n m,kA _ n|λ p hp q hq=>?_];obtain⟨⟨_,h⟩,_⟩:=partsL_mem.mp hp;obtain⟨e,_⟩:=rowP_mem.mp hq;exact .inl ⋯
theorem gO {m n i:Nat} {p q:Int×Int} (hi:(aw m n)[i]?=some p) (hq:q∈aw m n) (hl:ltP q p):q∈(aw m n).take i:=by
 obtain⟨j,hj⟩:=JZ.mp hq;obtain⟨i1,i2⟩:=A7.mp hi;obtain⟨j1,j2⟩:=A7.mp hj
 by_cases h:j < i
 ·apply JZ.mpr %[j|?_];rw[List.getElem?_take_of_lt h];exact hj
 ·exfalso;rcases Kj i j with h' | h'
  ·have:=Jp.mp (cq n m) i j i1 j1 h';rw[i2,j2]at this;unfold ltP at this hl;lia
  ·have e:i=j:=⋯
   subst e;rw[hi]at hj;cases hj;unfold ltP at hl;lia
theorem oC {m n i:Nat} {p:Int×Int} (hi:(aw m n)[i]?=some p):p∉(aw m n).take i:=λ h=>by obtain⟨j,hj⟩:=JZ.mp h;obtain⟨j0,_⟩:=A7.mp hj;rw[JJ]at j0;rw[List.getElem?_take_of_lt ⋯]at hj;obtain⟨i1,i2⟩:=A7.mp hi;obtain⟨j1,j2⟩:=A7.mp hj;have:=Jp.mp (cq n m) j i j1 i1 ⋯;rw[i2,j2]at this;unfold ltP at this;lia
abbrev pk (p:Int×Int):Ks Key:=[.inl p.1,.inl p.2]
theorem oE {p q:Int×Int} (h:pk p=pk q):p=q:=by
 obtain⟨a,b⟩:=p;obtain⟨c,d⟩:=q;have h:([.inl a,.inl b]:Ks Key)=[.inl c,.inl d]:=h;injection h with h1 h2
 injection h1 with h1
 injection h2 with h2 _
 injection h2 with h2
 rw[h1,h2]
def byP (ss:Ks ((Int×Int)×V)):Ks (Ks Key×V):=ss.map λ s=>(pk s.1,s.2)
theorem xk {ss:Ks ((Int×Int)×V)} {p:Int×Int} {v:V} (h:p∉ss.map (·.1)):bX (byP ss) (pk p) v=byP (ss ++ [(p,v)]):=by
 unfold bX;rw[Ky,byP,byP,JE]
 ·rfl
 ·intro e;obtain⟨x,hx,e⟩:=Js.mp e;obtain⟨s,hs,rfl⟩:=JH.mp hx;have:s.1=p:=oE (C2 e);exact h (JH.mpr %[s,hs|this])
theorem dB:∀ {ss:Ks ((Int×Int)×V)} {p:Int×Int},p∈ss.map (·.1)->∃v,bG (byP ss) (pk p)=some v/\(p,v)∈ss
 | s :: r,p,h=>by
  by_cases e:s.1=p
  ·apply%[s.2,bq (by show pk s.1=pk p;rw[e])|?_];rw[<- e];exact B9
  ·have h:p∈r.map (·.1):=(IZ.mp h).resolve_left (λ z=>e z.symm);obtain⟨v,h1,h2⟩:=dB h;apply%[v,?_|B6 _ h2];show bG ((pk s.1,s.2) :: byP r) (pk p)=some v;rw[bj (λ z=>e (oE z))];exact h1
inductive Stp where
 | rest
 | piece (k:Int) (t:Bool)
 | cut (dn:Bool) (p:Int) (f:Int×Int) (o:Ks Int) (s:Int×Int) (u:Ks Int)
abbrev Rws:=Ks (Ks Int×Stp)
def gD (rs:Rws) (r:Ks Int×Stp):Rws:=if r.1∈rs.map (·.1)then rs else rs ++ [r]
def eG (rs l:Rws):Rws:=l.foldl gD rs
theorem gm (rs l m:Rws):eG rs (l ++ m)=eG (eG rs l) m:=List.foldl_append
theorem putN_keys {rs:Rws} {r:Ks Int×Stp} {x:Ks Int}:x∈(gD rs r).map (·.1)↔x∈rs.map (·.1)\/x=r.1:=by
 unfold gD
 split
 ·next h=>exact%[.inl|λ z=>z.elim id λ e=>e ▸ h]
 ·rw[JE,C4,JA,Jj,E4]
theorem adds_keys {x:Ks Int}:∀ {l rs:Rws},x∈(eG rs l).map (·.1)↔x∈rs.map (·.1)\/x∈l.map (·.1)
 | [],rs=>by simp[eG]
 | r :: l,rs=>by show x∈(eG (gD rs r) l).map (·.1)↔_;rw[adds_keys,putN_keys,JA,IZ,or_assoc]
theorem jf {rs:Rws} {r:Ks Int×Stp} (h:(rs.map (·.1)).Nodup):((gD rs r).map (·.1)).Nodup:=by
 unfold gD
 split
 ·exact h
 ·next z=>
  rw[JE,List.nodup_append];apply%[h,by simp|λ a ha b hb e=>z ?_];simp only[JA,Jj,E4]at hb;rw[<- hb,<- e];exact ha
theorem fJ:∀ {l rs:Rws},(rs.map (·.1)).Nodup->((eG rs l).map (·.1)).Nodup
 | [],_,h=>h
 | r :: l,rs,h=>by show((eG (gD rs r) l).map (·.1)).Nodup;exact fJ (jf h)
def InB (ws b:Ks Int):Prop:=b.length=ws.length/\leB b ws=true/\∀x∈b,0<=x
theorem di (x y:Int) (a b:Ks Int):leB (x :: a) (y :: b)=(decide (x<=y) && leB a b):=rfl
theorem mS:∀a:Ks Int,leB a a=true
 | []=>rfl
 | x :: a=>by rw[di,mS a,K1 (E7 x)];rfl
theorem kB:∀ {a b c:Ks Int},a.length=b.length->b.length=c.length->leB a b=true->leB b c=true->leB a c=true
 | [],_,_,_,_,_,_=>rfl
 | x :: a,y :: b,z :: c,h1,h2,h3,h4=>by rw[di,Ji,LV]at h3 h4 ⊢;exact%[Int.le_trans h3.1 h4.1|kB (by simpa using h1) (by simpa using h2) h3.2 h4.2]
 | _ :: _,[],_,h1,_,_,_=>by simp at h1
 | _ :: _,_ :: _,[],_,h2,_,_=>by simp at h2
theorem oF:∀ {a b:Ks Int},a.length=b.length->leB a b=true->a.sum<=b.sum/\(a.sum=b.sum->a=b)
 | [],[],_,_=>%[E7 _|λ _=>rfl]
 | x :: a,y :: b,h1,h2=>by rw[di,Ji,LV]at h2;obtain⟨i1,i2⟩:=oF (a:=a) (b:=b) (by simpa using h1) h2.2;rw[Kf,Kf];apply%[⋯|λ e=>?_];rw[i2 ⋯,show x=y by lia]
 | [],_ :: _,h,_=>by simp at h
 | _ :: _,[],h,_=>by simp at h
theorem InB.sum {ws b:Ks Int} (h:InB ws b):b.sum<=ws.sum:=(oF h.1 h.2.1).1
def rW:Ks Int->Ks (Ks Int)
 | []=>[[]]
 | w :: ws=>(List.range (w+1).toNat).flatMap λ x:Nat=>(rW ws).map λ b=>Int.ofNat x :: b
theorem InB.box:∀ {ws b:Ks Int},InB ws b->b∈rW ws
 | [],[],_=>E4.mpr rfl
 | [],_ :: _,h=>by have:=h.1;simp at this
 | _ :: _,[],h=>by have:=h.1;simp at this
 | w :: ws,x :: b,⟨h1,h2,h3⟩=>by rw[di,Ji,LV]at h2;have x0:=h3 x B9;apply Je.mpr %[x.toNat,Jt.mpr ⋯|JH.mpr %[b,InB.box %[by simpa using h1,h2.2|λ y hy=>h3 y (B6 _ hy)]|?_]];rw[show Int.ofNat x.toNat=x from Int.toNat_of_nonneg x0]
theorem mT {α β:Type} (f:α->Ks β) (n:Nat):∀l:Ks α,(∀a∈l,(f a).length=n)->(l.flatMap f).length=l.length * n
 | [],_=>by simp
 | a :: l,h=>by rw[Jr,JD,h a B9,mT f n l (λ b hb=>h b (B6 _ hb)),JF,Nat.succ_mul,Nat.add_comm]
theorem lH:∀ {ws:Ks Int},(∀x∈ws,0<=x)->0<=ws.sum
 | [],_=>E7 _
 | w :: ws,h=>by have:=lH (ws:=ws) (λ x hx=>h x (B6 _ hx));have:=h w B9;rw[Kf];lia
theorem mU:∀ {ws:Ks Int},(∀x∈ws,0<=x)->(rW ws).length<=2 ^ ws.sum.toNat
 | [],_=>∅
 | w :: ws,h=>by
  have w0:=h w B9;have h':∀x∈ws,0<=x:=λ x hx=>h x (B6 _ hx);have s0:=lH h';have ih:=mU h';have e:(rW (w :: ws)).length=(w+1).toNat * (rW ws).length:=by show((List.range (w+1).toNat).flatMap _).length=_;rw[mT _ (rW ws).length _ (λ a _=>B5 _),KR]
  rw[e,Kf,show(w+ws.sum).toNat=w.toNat+ws.sum.toNat by lia,Nat.pow_add];apply KH ?_ ih;have:=@Nat.lt_two_pow_self w.toNat;lia
theorem InB.few {ws:Ks Int} (h0:∀x∈ws,0<=x) (h6:ws.sum<=6) {bs:Ks (Ks Int)} (hn:bs.Nodup) (hb:∀b∈bs,InB ws b):bs.length<=64 :=
 C7 (List.Nodup.length_le_of_subset hn λ b m=>(hb b m).box) (C7 (mU h0) (C7 (Nat.pow_le_pow_right ∅ (show ws.sum.toNat<=6 by lia)) ∅))
theorem InB.join:∀ {ws a b:Ks Int},(∀x∈ws,0<=x)->InB ws a->InB ws b->InB ws (cA a b ws)
 | [],[],[],_,_,_=>%[Y,Y|λ _ h=>by simp[cA]at h]
 | w :: ws,x :: a,y :: b,h0,⟨a1,a2,a3⟩,⟨b1,b2,b3⟩=>by
  rw[di,Ji,LV]at a2 b2;have w0:=h0 w B9;have x0:=a3 x B9;have y0:=b3 y B9;obtain⟨i1,i2,i3⟩:=InB.join (ws:=ws) (a:=a) (b:=b) (λ z hz=>h0 z (B6 _ hz)) %[by simpa using a1,a2.2|λ z hz=>a3 z (B6 _ hz)] %[by simpa using b1,b2.2|λ z hz=>b3 z (B6 _ hz)];apply%[by rw[cA,JF,JF,i1],?_|λ z hz=>?_]
  ·rw[cA,di,i2,K1 (Int.min_le_right _ _)];rfl
  ·rw[cA]at hz;rcases IZ.mp hz with rfl | hz
   ·lia
   ·exact i3 z hz
 | [],_ :: _,_,_,h,_=>by have:=h.1;simp at this
 | [],[],_ :: _,_,_,h=>by have:=h.1;simp at this
 | _ :: _,[],_,_,h,_=>by have:=h.1;simp at this
 | _ :: _,_ :: _,[],_,_,h=>by have:=h.1;simp at this
theorem ii:∀ {a b:Ks Int},a.length=b.length->(leB a b=true↔∀ (i:Nat) (x y:Int),a[i]?=some x->b[i]?=some y->x<=y)
 | [],[],_=>%[λ _ i x y h=>by simp at h|λ _=>rfl]
 | u :: a,v :: b,h=>by
  have ih:=ii (a:=a) (b:=b) (by simpa using h);rw[di,Ji,LV,ih];constructor
  ·rintro⟨h1,h2⟩ i x y hx hy;cases i with
   | zero=>simp at hx hy;lia
   | succ i=>exact h2 i x y (by simpa using hx) (by simpa using hy)
  ·intro h';exact%[h' 0 u v rfl rfl|λ i x y hx hy=>h' (i+1) x y (by simpa using hx) (by simpa using hy)]
 | [],_ :: _,h=>by simp at h
 | _ :: _,[],h=>by simp at h
def bR (n:Nat):Ks Int:=List.replicate n 0
theorem InB.zero {ws:Ks Int} (h0:∀x∈ws,0<=x):InB ws (bR ws.length):=by apply%[JT,(ii JT).mpr λ i x y hx hy=>?_|λ x hx=>by rw[(KZ.mp hx).2];exact E7 _];have e:x=0:=(KZ.mp (B7 hx)).2;rw[e];exact h0 y (B7 hy)
theorem qv {n i:Nat} {k x:Int} (h:(cC n k)[i]?=some x):i < n/\x=if Int.ofNat i=k then 1 else 0:=by unfold cC at h;rw[IY]at h;obtain⟨j,hj,e⟩:=JI.mp h;have hl:=(A7.mp hj).1;rw[List.getElem?_range (by simpa using hl)]at hj;cases hj;exact%[by simpa using hl|e.symm]
theorem eQ (n:Nat) (k:Int):(cC n k).length=n:=by unfold cC;rw[B5,KR]
theorem InB.one {ws:Ks Int} {k:Nat} {z:Int} (h0:∀x∈ws,0<=x) (hk:ws[k]?=some z) (hz:0 < z):InB ws (cC ws.length k):=by
 apply%[eQ _ _,(ii (eQ _ _)).mpr λ i x y hx hy=>?_|λ x hx=>?_]
 ·obtain⟨_,e⟩:=qv hx;have y0:=h0 y (B7 hy)
  by_cases c:Int.ofNat i=(k:Int)
  ·rw[Kz c]at e;have:i=k:=by have:(i:Int)=k:=c;lia
   subst this;rw[hk]at hy;cases hy;lia
  ·rw[Ky c]at e;lia
 ·obtain⟨i,hi⟩:=JZ.mp hx;obtain⟨_,e⟩:=qv hi;rw[e];split <;> lia
def jD (bs:Ks (Ks Int)):Ks (Ks Int):=bs.mergeSort λ x y=>!(bg y x)
theorem dR (bs:Ks (Ks Int)):(jD bs).Perm bs:=List.mergeSort_perm _ _
theorem kC (bs:Ks (Ks Int)):(jD bs).Pairwise λ x y=>bg y x=false:=by
 have:=List.pairwise_mergeSort (le:=λ x y=>!(bg y x)) (λ a b c h1 h2=>?_) (λ a b=>?_) bs
 ·exact this.imp λ h=>by simpa using h
 ·simp only[Bool.not_eq_true']at h1 h2 ⊢;cases e:bg c a with
  | false=>rfl
  | true=>
   rcases hJ c b a e with z | z
   ·rw[z]at h2;cases h2
   ·rw[z]at h1;cases h1
 ·cases e:bg b a with
  | false=>rfl
  | true=>
   cases e2:bg a b with
   | false=>rfl
   | true=>have:=fc _ _ _ e e2;rw[df]at this;cases this
theorem rX {l bs:Ks (Ks Int)} (hp:l.Perm bs) (hs:l.Pairwise λ x y=>bg y x=false):l=jD bs :=
 List.Perm.eq_of_pairwise (le:=λ x y=>bg y x=false) (λ a b _ _ a1 a2=>cW _ _ a2 a1) hs (kC bs) (hp.trans (dR bs).symm)
def kD (bs:Ks (Ks Int)) (b:Ks Int):Bool:=!(bs.map λ c=>gW b c).any id
def fK (bs:Ks (Ks Int)):Ks (Ks Int):=(jD bs).filter (kD bs)
theorem mem_topB {bs:Ks (Ks Int)} {b:Ks Int}:b∈fK bs↔b∈bs/\∀c∈bs,gW b c=false:=by unfold fK kD;rw[J0,(dR bs).mem_iff];apply and_congr_right λ _=>?_;rw[Bool.not_eq_true',List.any_eq_false];simp only[id,Bool.not_eq_true];exact%[λ h c hc=>h _ (JH.mpr %[c,hc|Y])|λ h c hc=>by obtain⟨d,hd,rfl⟩:=JH.mp hc;exact h d hd]
theorem rY (bs:Ks (Ks Int)):(fK bs).Pairwise λ x y=>bg y x=false:=(kC bs).filter _
theorem fL {bs:Ks (Ks Int)} (h:bs.Nodup):(fK bs).Nodup:=((dR bs).symm.nodup h).filter _
def vj (rs:Rws) (b:Ks Int):Stp:=((rs.find? λ r=>decide (r.1=b)).map (·.2)).getD .rest
def jg (rs:Rws):Rws:=(fK (rs.map (·.1))).map λ b=>(b,vj rs b)
theorem kF (rs:Rws):(jg rs).map (·.1)=fK (rs.map (·.1)):=by unfold jg;rw[Jc];exact List.map_id' _
def waA (ks:Ks Kd) (i:Nat):Int:=((ks[i]?).map (·.wa)).getD 0
abbrev wsK (ks:Ks Kd):Ks Int:=ks.map λ k=>k.wa
def lyR (ks:Ks Kd) (q:Nat×Bool):Rws:=if 0 < waA ks q.1 then[(cC ks.length q.1,.piece q.1 q.2)]else[]
def lyC (ks:Ks Kd) (p:Int×Int):Rws:=((lyK ks 0).filter (jc ks p.1 p.2)).flatMap (lyR ks)
def yK (b:Int) (ks:Ks Kd) (p:Int×Int) (c:Bool×Int) (o u:Ks Int):Ks Int×Stp:=(cA o u (wsK ks),.cut c.1 c.2 (cI p.1 p.2 c) o (cB b p.1 p.2 c) u)
def rZ (b:Int) (ks:Ks Kd) (p:Int×Int) (c:Bool×Int) (us:Ks (Ks Int)) (o:Ks Int):Rws:=us.map (yK b ks p c o)
def mV (b:Int) (ks:Ks Kd) (fd:Int×Int->Rws) (p:Int×Int) (c:Bool×Int):Rws:=((fd (cI p.1 p.2 c)).map (·.1)).flatMap (rZ b ks p c ((fd (cB b p.1 p.2 c)).map (·.1)))
def eC (ks:Ks Kd):Rws:=[(bR ks.length,.rest)]
def bO (b:Int) (ks:Ks Kd) (fd:Int×Int->Rws) (p:Int×Int):Rws:=eG (eG (eC ks) (lyC ks p)) ((aY b p.1 p.2).flatMap (mV b ks fd p))
def gF (b:Int) (ks:Ks Kd):Nat->Int×Int->Rws
 | 0,_=>[]
 | n+1,p=>jg (bO b ks (gF b ks n) p)
theorem jh {α β:Type} {f g:α->Ks β}:∀ {l:Ks α},(∀a∈l,f a=g a)->l.flatMap f=l.flatMap g
 | [],_=>rfl
 | a :: l,h=>by rw[Jr,Jr,h a B9,jh λ b hb=>h b (B6 _ hb)]
theorem gp {b:Int} {ks:Ks Kd} {f g:Int×Int->Rws} {p:Int×Int} (h:∀c∈aY b p.1 p.2,f (cI p.1 p.2 c)=g (cI p.1 p.2 c)/\f (cB b p.1 p.2 c)=g (cB b p.1 p.2 c)):bO b ks f p=bO b ks g p:=by unfold bO;rw[jh λ c hc=>?_];unfold mV;rw[(h c hc).1,(h c hc).2]
theorem fq {b:Int} {ks:Ks Kd} (b0:0<=b):∀ (n m:Nat) (p:Int×Int),msr p < n->msr p < m->1<=p.1->1<=p.2->gF b ks n p=gF b ks m p
 | 0,_,_,h,_,_,_=>absurd h (Nat.not_lt_zero _)
 | _+1,0,_,_,h,_,_=>absurd h (Nat.not_lt_zero _)
 | n+1,m+1,p,h1,h2,p1,p2=>by show jg _=jg _;rw[gp λ c hc=>?_];obtain⟨⟨a1,a2,_,_,_,a6⟩,⟨c1,c2,_,_,_,c6⟩⟩:=gj b0 p1 p2 hc;have e:msr (p.1,p.2)=msr p:=rfl;exact%[fq b0 n m _ ⋯ ⋯ a1 a2|fq b0 n m _ ⋯ ⋯ c1 c2]
def gB (b:Int) (ks:Ks Kd) (p:Int×Int):Rws:=gF b ks (msr p+1) p
theorem xQ {b:Int} {ks:Ks Kd} (b0:0<=b) (p:Int×Int) (p1:1<=p.1) (p2:1<=p.2):gB b ks p=jg (bO b ks (gB b ks) p):=by show jg _=jg _;rw[gp λ c hc=>?_];obtain⟨⟨a1,a2,_,_,_,a6⟩,⟨c1,c2,_,_,_,c6⟩⟩:=gj b0 p1 p2 hc;have e:msr (p.1,p.2)=msr p:=rfl;exact%[fq b0 _ _ _ ⋯ ⋯ a1 a2|fq b0 _ _ _ ⋯ ⋯ c1 c2]
theorem ws0 {ks:Ks Kd} (hg:∀k∈ks,0<=k.wa):∀x∈wsK ks,0<=x:=λ x hx=>by obtain⟨k,hk,rfl⟩:=JH.mp hx;exact hg k hk
theorem vk {ks:Ks Kd} (hg:∀k∈ks,0<=k.wa) {q:Nat×Bool} {r:Ks Int×Stp} (h:r∈lyR ks q):InB (wsK ks) r.1:=by
 unfold lyR at h
 split at h
 ·next z=>
  rw[E4]at h;subst h;have e:(wsK ks).length=ks.length:=B5 _;show InB (wsK ks) (cC ks.length q.1);rw[<- e];apply InB.one (ws0 hg) (z:=waA ks q.1) ?_ z;rw[IY];unfold waA at z ⊢;cases e:ks[q.1]? with
  | none=>rw[e]at z;exact absurd z ∅
  | some k=>rfl
 ·cases h
theorem ft {b:Int} {ks:Ks Kd} (hg:∀k∈ks,0<=k.wa) {fd:Int×Int->Rws} {p:Int×Int} (hf:∀c∈aY b p.1 p.2,(∀r∈fd (cI p.1 p.2 c),InB (wsK ks) r.1)/\∀r∈fd (cB b p.1 p.2 c),InB (wsK ks) r.1) {x:Ks Int} (hx:x∈(bO b ks fd p).map (·.1)):InB (wsK ks) x:=by
 unfold bO at hx;rcases adds_keys.mp hx with hx | hx
 ·rcases adds_keys.mp hx with hx | hx
  ·simp only[eC,JA,Jj,E4]at hx;rw[hx,show ks.length=(wsK ks).length from(B5 _).symm];exact InB.zero (ws0 hg)
  ·obtain⟨r,hr,rfl⟩:=JH.mp hx;obtain⟨q,_,hq⟩:=Je.mp hr;exact vk hg hq
 ·obtain⟨r,hr,rfl⟩:=JH.mp hx;obtain⟨c,hc,hr⟩:=Je.mp hr;obtain⟨o,ho,hr⟩:=Je.mp hr;obtain⟨u,hu,rfl⟩:=JH.mp hr;obtain⟨ro,mo,rfl⟩:=JH.mp ho;obtain⟨ru,mu,rfl⟩:=JH.mp hu;exact InB.join (ws0 hg) ((hf c hc).1 _ mo) ((hf c hc).2 _ mu)
theorem cT (b:Int) (ks:Ks Kd) (fd:Int×Int->Rws) (p:Int×Int):((bO b ks fd p).map (·.1)).Nodup:=fJ (fJ (by simp[eC]))
theorem vm {b:Int} {ks:Ks Kd} (hg:∀k∈ks,0<=k.wa):∀ (n:Nat) (p:Int×Int),∀r∈gF b ks n p,InB (wsK ks) r.1
 | 0,_,r,h=>by cases h
 | n+1,p,r,h=>by have hm:r.1∈(gF b ks (n+1) p).map (·.1):=JH.mpr %[r,h|Y];rw[show gF b ks (n+1) p=jg (bO b ks (gF b ks n) p)from rfl,kF]at hm;exact ft hg (λ c _=>%[vm hg n _|vm hg n _]) (mem_topB.mp hm).1
theorem jj {b:Int} {ks:Ks Kd} (hg:∀k∈ks,0<=k.wa) {p:Int×Int} {r:Ks Int×Stp} (h:r∈gB b ks p):InB (wsK ks) r.1:=vm hg _ _ r h
def gK (b:Int) (ks:Ks Kd) (p:Int×Int):Ks (Ks Int):=(gB b ks p).map (·.1)
theorem eE {b:Int} {ks:Ks Kd} (hg:∀k∈ks,0<=k.wa) {p:Int×Int} {x:Ks Int} (h:x∈gK b ks p):InB (wsK ks) x:=by obtain⟨r,hr,rfl⟩:=JH.mp h;exact jj hg hr
theorem kG {b:Int} {ks:Ks Kd} (b0:0<=b) (p:Int×Int) (p1:1<=p.1) (p2:1<=p.2):gK b ks p=fK ((bO b ks (gB b ks) p).map (·.1)):=by unfold gK;rw[xQ b0 p p1 p2,kF]
theorem lesB_iff {a b:Ks Int}:gW a b=true↔a≠b/\leB a b=true:=by unfold gW;rw[Ji,Bool.not_eq_true',decide_eq_false_iff_not]
theorem vn {bs:Ks (Ks Int)} {ws:Ks Int} (hb:∀b∈bs,InB ws b):∀ (k:Nat) (b:Ks Int),b∈bs->ws.sum - b.sum < k->∃t∈fK bs,leB b t=true
 | 0,b,m,h=>by have:=(hb b m).sum;lia
 | k+1,b,m,h=>by
  by_cases c:∀c∈bs,gW b c=false
  ·exact%[b,mem_topB.mpr %[m|c]|mS b]
  ·simp only[Classical.not_forall]at c;obtain⟨d,md,e⟩:=c;have e:gW b d=true:=by simpa using e
   obtain⟨n1,l1⟩:=lesB_iff.mp e;have el:b.length=d.length:=by rw[(hb b m).1,(hb d md).1]
   obtain⟨s1,s2⟩:=oF el l1;have:b.sum≠d.sum:=λ z=>n1 (s2 z);obtain⟨t,mt,lt⟩:=vn hb k d md ⋯;exact%[t,mt|kB el (by rw[(hb d md).1,(hb t (mem_topB.mp mt).1).1]) l1 lt]
theorem xm {bs:Ks (Ks Int)} {ws:Ks Int} (hb:∀b∈bs,InB ws b) {b:Ks Int} (m:b∈bs):∃t∈fK bs,leB b t=true :=
 vn hb ((ws.sum - b.sum).toNat+1) b m ⋯
def bK (b:Ks Int):Ks Key:=b.map Sum.inl
theorem eR (b:Ks Int):(bK b).map kV=bV b:=by unfold bK bV;rw[Jc];rfl
theorem lI:∀ {a b:Ks Int},bK a=bK b->a=b
 | [],[],_=>rfl
 | x :: a,y :: b,h=>by
  have h:(Sum.inl x :: bK a:Ks Key)=Sum.inl y :: bK b:=h;injection h with h1 h2
  injection h1 with h1
  rw[h1,lI h2]
 | [],_ :: _,h=>by cases h
 | _ :: _,[],h=>by cases h
def KyA (H:Hp) (v:V) (p:Int×Int) (b:Ks Int):Prop:=∃a x y,v=.ref a/\H a= ~~~[.ref x,.ref y]/\H x= ~~~[.int p.1,.int p.2]/\H y= ~~~(bV b)
def StA (H:Hp) (v:V):Stp->Prop
 | .rest=>∃a,v=.ref a/\H a=some (.tup [.str "rest"])
 | .piece k t=>∃a,v=.ref a/\H a=some (.tup [.str "piece",.int k,.bl t,.int 0,.int 0])
 | .cut dn p f o s u=>∃a x y,v=.ref a/\H a= ~~~[wv dn,.int p,x,y]/\KyA H x f o/\KyA H y s u
theorem KyA.keep {H H':Hp} (s:Tps H H') {v:V} {p:Int×Int} {b:Ks Int}:KyA H v p b->KyA H' v p b
 | ⟨a,x,y,e,h1,h2,h3⟩=>%[a,x,y,e,s _ _ h1,s _ _ h2|s _ _ h3]
theorem StA.keep {H H':Hp} (s:Tps H H') {v:V}:∀ {t:Stp},StA H v t->StA H' v t
 | .rest,⟨a,e,h⟩=>%[a,e|s _ _ h]
 | .piece _ _,⟨a,e,h⟩=>%[a,e|s _ _ h]
 | .cut ..,⟨a,x,y,e,h,h1,h2⟩=>%[a,x,y,e,s _ _ h,h1.keep s|h2.keep s]
def RwA (H:Hp) (kv:Ks Key×V) (r:Ks Int×Stp):Prop:=kv.1=bK r.1/\StA H kv.2 r.2
theorem RwA.keep {H H':Hp} (s:Tps H H') {kv:Ks Key×V} {r:Ks Int×Stp} (h:RwA H kv r):RwA H' kv r:=%[h.1|h.2.keep s]
abbrev RwsA (H:Hp) (kvs:Ks (Ks Key×V)) (rs:Rws):Prop:=Paired (RwA H) kvs rs
theorem RwsA.keep {H H':Hp} (s:Tps H H') {kvs:Ks (Ks Key×V)} {rs:Rws} (h:RwsA H kvs rs):RwsA H' kvs rs:=by
 induction h with
 | nil=>exact .nil
 | cons a _ ih=>exact .cons (a.keep s) ih
theorem RwsA.keys {H:Hp} {kvs:Ks (Ks Key×V)} {rs:Rws} (h:RwsA H kvs rs):kvs.map (·.1)=(rs.map (·.1)).map bK:=by
 induction h with
 | nil=>rfl
 | cons a _ ih=>rw[JA,JA,JA,ih,a.1]
theorem RwsA.get {H:Hp} {kvs:Ks (Ks Key×V)} {rs:Rws} {b:Ks Int} (h:RwsA H kvs rs) (m:b∈rs.map (·.1)):∃v,bG kvs (bK b)=some v/\StA H v (vj rs b):=by
 induction h with
 | nil=>cases m
 | @cons kv r kvs rs a _ ih=>
  by_cases e:r.1=b
  ·apply%[kv.2,bq (by rw[a.1,e])|?_];unfold vj;rw[List.find?_cons_of_pos (by simpa using e)];exact a.2
  ·obtain⟨v,h1,h2⟩:=ih ((IZ.mp m).resolve_left λ z=>e z.symm);apply%[v,by rw[bj (λ z=>e (lI (a.1.symm.trans z)))];exact h1|?_];unfold vj;rw[List.find?_cons_of_neg (by simpa using e)];exact h2
theorem RwsA.no {H:Hp} {kvs:Ks (Ks Key×V)} {rs:Rws} {b:Ks Int} (h:RwsA H kvs rs) (m:b∉rs.map (·.1)):bG kvs (bK b)=none:=by
 induction h with
 | nil=>rfl
 | @cons kv r kvs rs a _ ih=>
  rw[bj (λ z=>m (IZ.mpr (.inl (lI (a.1.symm.trans z)).symm)))];exact ih λ z=>m (B6 _ z)
theorem jk:∀b:Ks Int,eM (List.replicate b.length false) (bV b)=some b
 | []=>rfl
 | x :: b=>by
  have ih:=jk b;show eM (false :: List.replicate b.length false) (V.int x :: bV b)=_;simp only[eM,ih]
  rfl
def unK (k:Ks Key):Ks Int:=k.map λ x=>match x with
 | .inl i=>i
 | .inr _=>0
theorem gE:∀b:Ks Int,unK (bK b)=b
 | []=>rfl
 | x :: b=>by show x :: unK (bK b)=x :: b;rw[gE b]
abbrev BsA (H:Hp) (as:Ks Ko) (bs:Ks (Ks Int)):Prop:=Paired (λ c b=>H c= ~~~(bV b)) as bs
theorem BsA.keep {H H':Hp} (s:Tps H H') {as:Ks Ko} {bs:Ks (Ks Int)} (h:BsA H as bs):BsA H' as bs:=IW h λ _ _ e=>s _ _ e
section
variable {P:IP} {w:IR} {K:C6} {mg:Str->Kq IS} {base:Heap}
def lJ:Sp:=λ vs H Q _=>∃ (a:Ko) (n:Nat) (kvs:Ks (Ks Key×V)) (rs:Rws),vs=[.ref a]/\Rd H a (.dT kvs)/\RwsA H kvs rs/\(rs.map (·.1)).Nodup/\(∀b∈rs.map (·.1),b.length=n)/\1<=n/\n<=8/\rs.length<=64 /\
 ∀ (d:Ko) (kvs':Ks (Ks Key×V)) (H':Hp),H d=none->H' d=some (.dT kvs')->RwsA H' kvs' (jg rs)->Sf (· = a) H H'->Q (.ref d) H'
theorem scalone:FnScope ["steps","greatest"] ["steps"] (defScope br):=%[Y,Y,Y,∅,Y,∅|∅]
theorem vo {f:Ko} {fd:IQ} (F:Fun K "greatest_alone" "greatest_alone" br f fd) (B:Blt mg) (han:mg "any" = none) (DLe:Dn P w K mg base "is_lesser" ["one","other"] 1 (oB)):FnOk P w K mg base CX0 2 f fd ["steps"] (lJ):=by
 apply F.ok scalone (λ vs H Q E h=>?_) (λ cdv A outer s H vs Q E hr h=>?_)
 ·obtain⟨a,n,kvs,rs,rfl,_⟩:=h
  rfl
 obtain⟨a,n,kvs,rs,rfl,ha,hrw,rnd,rl,n1,n8,r4,q⟩:=h;have nd:=scalone.nd;have hu:=hr.units;have hu1:=C8 (Jh (show 1<=64 by decide) _) hu;apply%[_,((uI (i:=1) (own:=["one"]) (cs:=["steps"]) (cap:=[0]) Y nd Y Y Y (aW (@ak _ _ _ _ _ _ _ _ _ (lC Y) Y B.sorted Ls ((pv 0)^^^ab) ∅ ∅ Y Y)) (iQ (sc:=defScope br) (N:=["steps","greatest"]) Y Y ∅) (λ _ _ _ _ _=>aj (i:=0) (by show List.Nodup (["one","steps"]:Ks Str) ;decide +kernel) Y (Or.inr Y) (Or.inl Y)) (λ _ _ _ _ _=>(iI (@aU _ _ _ _ (@aM _ _ _ (ak (r:=yF K) (fj Y) Y han PyProof.Rows.boot_any ((aX (own:=["other"]) (cs:=["one"]) (cap:=[0]) Y (rF K Y (pv 1)) (ay (N:=["one","steps"]) Y Y (by rfl)) (λ _ _ _ _ _=>aj (i:=0) (by show List.Nodup (["other","one"]:Ks Str) ;decide +kernel) Y (Or.inl Y) (Or.inr Y)) (λ _ _ _ _ _=>aE) (λ _ _ _ _ _=>(DLe∪((pv 1)^^^((pv 0)^^^ab)))))^^^ab)) (by intro _;rfl))))) (λ _ _ _ _ _=>(pv 0)))<<<((mK (own:=["bundle"]) (cs:=["steps"]) (cap:=[0]) Y hu1 (aW (pv 1)) (ay (sc:=defScope br) (N:=["steps","greatest"]) Y Y ∅) (λ _ _ _ _ _=>aj (i:=0) (by show List.Nodup (["bundle","steps"]:Ks Str) ;decide +kernel) Y (Or.inl Y) (Or.inr Y)) (λ _ _ _ _ _=>aE) (λ _ _ _ _ _=>(pv 0)) (λ _ _ _ _ _=>(cR hu1 (pv 1) (pv 0) (λ _ _=>Y))))⁻¹))|?_];have z4:4096<=sizeLine:=∅
 have kl:=E5 hrw;have ek:=RwsA.keys hrw;obtain⟨bs,hbs⟩:∃bs,bs=rs.map (·.1):=%[_|Y]
 rw[<- hbs]at ek rnd rl;have el:bs.length=rs.length:=by rw[hbs,B5]
 have sl:(jD bs).length=bs.length:=(dR bs).length_eq;apply aq (λ σ' H'=>∃ (gl:Ko) (as:Ks Ko),σ'=[↑a,↑gl]/\H' gl=↥(as.map V.ref)/\BsA H' as (fK bs)/\Sf (· = a) H H') (λ R hR=>?_) ?_
 ·apply%[_,Y,a,kvs,List.replicate n false,unK,Y,ha,⋯,?_,?_|λ l as' ks' hl pa pp ps=>?_]
  ·obtain⟨m,rfl⟩:∃m,n=m+1:=%[n - 1|⋯]
   rfl
  ·intro kv hkv;have hm:kv.1∈bs.map bK:=by rw[<- ek];exact JH.mpr %[kv,hkv|Y]
   obtain⟨b,hb,e⟩:=JH.mp hm;rw[<- e,eR,gE,<- rl b hb];exact jk b
  obtain⟨bs',e1,p1⟩:=gN bK pp bs ek;subst e1;have p2:bs'.Pairwise λ x y=>bg y x=false:=by rw[Jc,show unK∘bK=id from funext gE,List.map_id]at ps;exact ps
  have e2:=rX p1 p2;subst e2;apply aB hl λ H1 k1 s1=>?_;have pa1:BsA H1 as' (jD bs):=by
   have:∀ (as:Ks Ko) (bs:Ks (Ks Int)),Paired (λ a k=>H a= ~~~(List.map kV k)) as (bs.map bK)->BsA H1 as bs:=λ as=>by
    induction as with
    | nil=>intro bs h;cases bs with
     | nil=>exact .nil
     | cons _ _=>cases h
    | cons c as ih=>intro bs h;cases bs with
     | nil=>cases h
     | cons b bs=>cases h with
      | cons h1 h2=>exact .cons (by rw[eR]at h1;exact s1 _ _ h1) (ih bs h2)
   exact this _ _ pa
  have al:=E5 pa1;have rd1:=(Same.sf (F:=(· = a)) s1).rd ha;apply%[l,Y,%[_|IV k1]|(bA (K:=K) (.inl k1) (λ i us Hx=>Sf (· = a) H1 Hx/\∃as,us=as.map V.ref/\BsA Hx as (((jD bs).take i).filter (kD bs))) (λ i us Hx _ ⟨sx,_⟩ o e=>by cases(k1.symm.trans e);exact sx.lst k1) %[Same.sf (Same.refl _),[],Y|.nil] ?_ ?_).1 k1]
  ·rintro i x us Hx hi ⟨sx,as,rfl,pas⟩;have hin:=(A7.mp hi).1;rw[IY]at hi;obtain⟨c,hc,rfl⟩:=JI.mp hi;obtain⟨b,hb,hcb⟩:=IX pa1 hc;have tk:(jD bs).take (i+1)=(jD bs).take i ++ [b]:=by rw[JM,hb];rfl
   have pn:=List.filter_append (p:=kD bs) ((jD bs).take i) [b];rw[<- tk]at pn;have bm:b∈bs:=(dR _).mem_iff.mp (B7 hb);have bl:=rl b bm;apply%[by rw[B5,Paired.length pas];exact C8 (Kg _ _) (by rw[JJ];lia),leS.set rfl|?_];apply%[_,Y,a,kvs,Y,sx.rd rd1|λ ob Hy hy sy=>?_];have hcy:Hy c= ~~~(bV b):=sy.tps _ _ (sx.tps _ _ hcb);have rwy:RwsA Hy kvs rs:=hrw.keep λ x xs e=>sy.tps _ _ (sx.tps _ _ (s1 _ _ e));apply rp (λ j vs Hz=>Same Hy Hz/\vs=((bs.take j).map λ c=>gW b c).map V.bl) %[Same.refl _|rfl] (λ j vs Hz _ ⟨sz,_⟩=>sz _ _ hy) ?_ ?_ ?_
   ·rintro j kk v q vs Hz hj hq ⟨sz,rfl⟩;have hjn:=(A7.mp hj).1;obtain⟨r,hr,hk,_⟩:=IX rwy hj;have hk:kk=bK r.1:=hk;have hbj:bs[j]?=some r.1:=by rw[hbs,IY,hr];rfl
    have rj:=rl r.1 (B7 hbj);rw[hk,eR]at hq;apply%[leS.set rfl|aF %[_,Y,_,Y,c,q,b,r.1,Y,sz _ _ hcy,hq,⋯,⋯|λ H' s'=>Nx.of hjn %[sz.trans s'|?_]]];rw[JM,hbj,JS,JE,JE]
    rfl
   ·rintro j vs Hz hj ⟨_,rfl⟩;rw[B5,B5,JJ];lia
   ·rintro vs Hz ⟨sz,rfl⟩;rw[JK ⋯];apply%[by rw[B5,B5];lia|λ p hp=>%[p,_,Y,IV ai,_,Y|?_]];have s9:Sf (· = a) H1 (upd Hz p (.lst ((bs.map λ c=>gW b c).map V.bl))):=(sx.trans sy).trans (Same.sf (sz.trans (IT hp)));have t9:Tps Hx (upd Hz p (.lst ((bs.map λ c=>gW b c).map V.bl))):=λ x xs e=>(IT hp) _ _ (sz _ _ (sy.tps _ _ e));apply fu (λ c1=>%[_,Y|Nx.of hin %[s9,as ++ [c],by rw[JE];rfl|?_]]) (λ c1=>Nx.of hin %[s9,as,rfl|?_])
    ·rw[pn,List.filter_cons,Kz (show kD bs b=true from c1),List.filter_nil];exact Paired.app (pas.keep t9) (.cons (t9 _ _ (sx.tps _ _ hcb)) .nil)
    ·rw[pn,List.filter_cons,Ky (show¬ kD bs b=true from c1),List.filter_nil,JX];exact pas.keep t9
  ·rintro us Hx ⟨sx,as,rfl,pas⟩;rw[B5,al,Jb]at pas;have pl:=E5 pas;apply%[by rw[B5,pl];exact C7 (Kg _ _) ⋯|λ p hp=>?_];apply aB hp λ H2 k2 s2=>?_;exact hR _ _ %[p,as,rfl,k2,pas.keep (Same.tps s2)|(Same.sf s1).trans (sx.trans (Same.sf s2))]
 rintro _ H1 ⟨gl,as,rfl,hgl,pas,s1⟩;have rd1:=s1.rd ha;have rw1:=hrw.keep s1.tps;have tl:(fK bs).length<=bs.length:=C7 (Kg _ _) ⋯;have tnd:=fL rnd;have al:=E5 pas;apply%[_,Y,gl,Y,%[_|IV hgl]|om (K:=K) hgl (λ i Kv Hx=>Same H1 Hx/\Kv.length=i/\(∀r∈Kv,Hx r.1= ~~~(r.2.1.map kV))/\RwsA Hx (kvR Kv) (((fK bs).take i).map λ b=>(b,vj rs b))) (λ i Kv Hx _ ⟨sx,_,hr,_⟩=>%[sx _ _ hgl|hr]) ⟨Same.refl _,Y,(λ r hr=>by cases hr),.nil⟩ ?_ ?_]
 ·rintro i x Kv Hx hi ⟨sx,rl1,hr,pr⟩;have hin:=(A7.mp hi).1;rw[B5]at hin;rw[IY]at hi;obtain⟨c,hc,rfl⟩:=JI.mp hi;obtain⟨b,hb,hcb⟩:=IX pas hc;have bm:b∈bs:=(mem_topB.mp (B7 hb)).1;obtain⟨v,hv,hst⟩:=rw1.get (by rw[<- hbs];exact bm);have hcx:Hx c= ~~~((bK b).map kV):=by rw[eR];exact sx _ _ hcb
  have tk:(fK bs).take (i+1)=(fK bs).take i ++ [b]:=by rw[JM,hb];rfl
  apply%[⋯,leS.set rfl|aF %[_,Y,_,Y,_,Y,a,v,Y,hv ▸ DGet.r ((Same.sf (F:=(· = a)) sx).rd rd1) hcx,c,bK b,Y,hcx,?_|NxD.of (by rw[B5];exact hin) %[sx,by rw[JD,rl1];rfl,λ r hr'=>?_|?_]]]
  ·intro hm;have ek':=pr.keys;have:Kv.map (·.2.1)=(kvR Kv).map (·.1):=by unfold kvR;rw[Jc];rfl
   rw[this,ek',Jc,Jc]at hm;obtain⟨d,hd,e⟩:=JH.mp hm;have:d=b:=lI e;subst this;obtain⟨k,hk1,hk2⟩:=KA hd;rw[List.getElem_take]at hk2;rw[JJ]at hk1;have hbb:=(A7.mp hb).2;have hbl:=(A7.mp hb).1;have:=(KD (h₀:=show k < (fK bs).length by lia) (h₁:=hbl) tnd).mp (hk2.trans hbb.symm);lia
  ·rcases C4.mp hr' with h | h
   ·exact hr r h
   ·rw[E4.mp h];exact hcx
  ·rw[tk,JE,show kvR (Kv ++ [(c,bK b,v)])=kvR Kv ++ [(bK b,v)]by unfold kvR;rw[JE];rfl];exact Paired.app pr (.cons %[Y|hst.keep (Same.tps sx)] .nil)
 ·rintro Kv Hx ⟨sx,rl1,hr,pr⟩;rw[B5]at rl1 pr;rw[al,Jb]at pr;apply%[⋯|λ d hd=>?_];have hdH:H d=none:=(s1.trans (Same.sf sx)).free hd;apply q d _ _ hdH ai ?_ ((s1.trans (Same.sf sx)).trans (Same.sf (IT hd)));unfold jg;rw[<- hbs];exact pr.keep (Same.tps (IT hd))
end
def sd (b:Int) (ks:Ks Kd) (fa:Ko) (H:Hp) (ss:Ks ((Int×Int)×V)):Prop:=∀q v,(q,v)∈ss->∃d kvs,v=.ref d/\d≠fa/\Rd H d (.dT kvs)/\RwsA H kvs (gB b ks q)
abbrev FdS (ss:Ks ((Int×Int)×V)):Ko->Prop:=λ a=>∃q,(q,V.ref a)∈ss
theorem RwsA.set {H:Hp} {kvs:Ks (Ks Key×V)} {rs:Rws} {b:Ks Int} {t:Stp} {v':V} (h:RwsA H kvs rs) (e:bG kvs (bK b)=some v'):gD rs (b,t)=rs:=by unfold gD;apply Kz (Classical.byContradiction λ z=>?_);rw[h.no z]at e;cases e
theorem RwsA.put {H:Hp} {kvs:Ks (Ks Key×V)} {rs:Rws} {b:Ks Int} {t:Stp} {v:V} (h:RwsA H kvs rs) (s:StA H v t) (e:bG kvs (bK b)=none):RwsA H (bX kvs (bK b) v) (gD rs (b,t)):=by rw[uC v e];unfold gD;rw[Ky (λ z=>by obtain⟨v',h1,_⟩:=h.get z;rw[e]at h1;cases h1)];exact Paired.app h (.cons %[Y|s] .nil)
def GR (ks:Ks Kd) (rs:Rws):Prop:=(rs.map (·.1)).Nodup/\∀x∈rs.map (·.1),InB (wsK ks) x
theorem GR.put {ks:Ks Kd} {rs:Rws} {r:Ks Int×Stp} (h:GR ks rs) (i:InB (wsK ks) r.1):GR ks (gD rs r):=%[jf h.1|λ x hx=>(putN_keys.mp hx).elim (h.2 x) λ e=>e ▸ i]
theorem GR.few {ks:Ks Kd} {rs:Rws} (h:GR ks rs) (kw:∀k∈ks,0<=k.wa) (w6:(wsK ks).sum<=6):rs.length<=64:=by have:=InB.few (ws0 kw) w6 h.1 h.2;rw[B5]at this;exact this
theorem GR.zero {ks:Ks Kd} (kw:∀k∈ks,0<=k.wa):GR ks (eC ks):=by apply%[by simp[eC]|λ x hx=>?_];simp only[eC,JA,Jj,E4]at hx;rw[hx,show ks.length=(wsK ks).length from(B5 _).symm];exact InB.zero (ws0 kw)
def StI (st:Ko) (ks:Ks Kd) (H:Hp) (rs:Rws):Prop:=∃kvs,H st=some (.dT kvs)/\RwsA H kvs rs/\GR ks rs
theorem StI.same {st:Ko} {ks:Ks Kd} {H H':Hp} {rs:Rws} (s:Same H H'):StI st ks H rs->StI st ks H' rs
 | ⟨kvs,h1,h2,h3⟩=>%[kvs,s _ _ h1,h2.keep (Same.tps s)|h3]
theorem StI.sf {F:Ko->Prop} {st:Ko} {ks:Ks Kd} {H H':Hp} {rs:Rws} (s:Sf F H H') (n:¬ F st):StI st ks H rs->StI st ks H' rs
 | ⟨kvs,h1,h2,h3⟩=>%[kvs,s.not n h1,h2.keep s.tps|h3]
theorem mW {F:Ko->Prop} {st ka:Ko} {ks:Ks Kd} {H:Hp} {rs:Rws} {b':Ks Int} {t:Stp} {v:V} {Q:VK} (kw:∀k∈ks,0<=k.wa) (w6:(wsK ks).sum<=6) (hI:StI st ks H rs) (hk:H ka= ~~~(bV b')) (ib:InB (wsK ks) b') (ha:StA H v t)
  (hq:∀v' H',StI st ks H' (gD rs (b',t))->Sg F st H H'->Q v' H'):xN (.ref st) [.ref ka,v] H Q:=by
 obtain⟨kvs,h1,h2,h3⟩:=hI;have z4:4096<=sizeLine:=∅
 have l1:=h3.few kw w6;have l2:=E5 h2;apply%[st,ka,v,kvs,bK b',Y,Y,h1,by rw[eR];exact hk,⋯,λ v' hv'=>hq _ _ %[kvs,h1,?_|h3.put ib] (Sg.refl _)|λ hn=>hq _ _ %[_,ai,(h2.put ha hn).keep (Sg.put (F:=F) h1).tps|h3.put ib] (Sg.put h1)];rw[h2.set hv'];exact h2
section
variable {P:IP} {w:IR} {K:C6} {mg:Str->Kq IS} {base:Heap}
def kH (b:Int) (ks:Ks Kd):Prop:=0<=b/\1<=ks.length/\ks.length<=8/\(∀k∈ks,0<=k.wa)/\(wsK ks).sum<=6
def lK (C:Ko):Sp:=λ vs H Q _=>∃ (s t fa:Ko) (b:Int) (ks:Ks Kd) (p:Int×Int) (ss:Ks ((Int×Int)×V)),vs=[.ref s,.ref t,.ref fa]/\ShopAt C H s b ks/\kH b ks/\H t= ~~~[.int p.1,.int p.2]/\1<=p.1/\p.1<=8/\1<=p.2/\p.2<=8 /\
 H fa=some (.dT (byP ss))/\sd b ks fa H ss/\(∀c∈aY b p.1 p.2,cI p.1 p.2 c∈ss.map (·.1)/\cB b p.1 p.2 c∈ss.map (·.1)) /\
 ∀ (d:Ko) (kvs:Ks (Ks Key×V)) (H':Hp),H d=none->H' d=some (.dT kvs)->RwsA H' kvs (bO b ks (gB b ks) p)->Sf (FdS ss) H H'->Q (.ref d) H'
theorem scsteps:FnScope ["shop","part","found","wanted","steps","kind","turned","way","p","first","second","one","other"] ["shop","part","found"] (defScope cx):=%[Y,Y,Y,∅,Y,∅|∅]
theorem vp {f:Ko} {fd:IQ} (F:Fun K "steps_of_part" "steps_of_part" cx f fd) {C:Ko} (B:Blt mg) (Z:BeC mg) (T:ShopTxt K C) (MW:Mn P w K mg base C "wanted" ["self"] 1 (gh C)) (MB:Mn P w K mg base C "blade" ["self"] 1 (kU C)) (DLI:Dn P w K mg base "lyings_in" ["shop","part"] 5 ((spLyIn C))) (DB1:Dn P w K mg base "bundle_of_one" ["wanted","kind"] 1 (oz)) (DJ:Dn P w K mg base "joined" ["one","other","wanted"] 1 (oA)) (DCU:Dn P w K mg base "cuts_of" ["blade","part"] 2 (spCuts)):FnOk P w K mg base CX0 6 f fd ["shop","part","found"] (lK C):=by
 apply F.ok scsteps (λ vs H Q E h=>?_) (λ cdv A outer s H vs Q E hr h=>?_)
 ·obtain⟨s,t,fa,b,ks,p,ss,rfl,_⟩:=h
  rfl
 obtain⟨s,t,fa,b,ks,p,ss,rfl,S0,⟨b0,k1,k8,kw,w6⟩,ht,p1,p8,h1,h8,hfa,fok,cin,q⟩:=h;have nd:=scsteps.nd;have hu:=hr.units;have hu1:=C8 (Jh (show 1<=64 by decide) _) hu;obtain⟨trs,hrs⟩:=Z.rs;obtain⟨tpc,hpc⟩:=Z.pc;apply%[_,((3∣(kW (pv 0) T.cl MW (hr.mono ∅)))<<<((4∣(rD (Nat.lt_of_succ_lt hu1) (@aS _ _ _ _ _ _ _ _ _ aP Y B.tuple K8 ((aX (own:=["many"]) (cs:=[]) (cap:=[]) Y (nq (pv 3)) (ay (sc:=defScope cx) (N:=["shop","part","found","wanted","steps","kind","turned","way","p","first","second","one","other"]) Y Y ∅) (λ _ _ _ _ _=>aj (i:=0) (by show List.Nodup (["many"]:Ks Str) ;decide +kernel) Y (Or.inl Y) (Or.inr Y)) (λ _ _ _ _ _=>aE) (λ _ _ _ _ _=>ad))^^^ab) ∅ ∅ Y Y) (@aG _ _ _ _ _ ((cO (v:=.str "rest") Y hrs %[trs|Y])^^^ab))))<<<((@bv _ _ _ _ _ _ _ _ E6 Y (aW (DLI∪((pv 0)^^^((pv 1)^^^ab)))) (bU Y (5•(6•bp))) (@ag _ _ _ ((((pv 3)&&&bD&&&(pv 5))<*>iB<*>ad)<|>(@ag _ _ _ (@bS _ _ _ _ (@gJ _ _ _ _ _ _ _ _ _ _ _ _ Ld PySem.F.slot_dict_setdefault PySem.F.type_dict_setdefault (iW hu1) (pv 4) ((DB1∩((pv 3)^^^((pv 5)^^^ab)))^^^((@aG _ _ _ _ _ ((cO (v:=.str "piece") Y hpc %[tpc|Y])^^^((pv 5)^^^((pv 6)^^^(ad^^^(ad^^^ab))))))^^^ab)) Y Y Y Y Y) Y))<|>aD)) (by intro _;rfl))<<<((@bv _ _ _ _ _ _ _ _ E6 Y (aW (DCU∩((kW (pv 0) T.cl MB (hr.mono ∅))^^^((pv 1)^^^ab)))) (bU Y (7•(8•(9•(10•bp))))) (@ag _ _ _ (@bv _ _ _ _ _ _ _ _ E6 Y (iY (cR hu1 (pv 2) (pv 9) (λ _ _=>Y))) (aj (i:=11) nd Y (Or.inl Y)) (@ag _ _ _ (@bv _ _ _ _ _ _ _ _ E6 Y (iY (cR hu1 (pv 2) (pv 10) (λ _ _=>Y))) (aj (i:=12) nd Y (Or.inl Y)) (@ag _ _ _ (@bS _ _ _ _ (@gJ _ _ _ _ _ _ _ _ _ _ _ _ Ld PySem.F.slot_dict_setdefault PySem.F.type_dict_setdefault (iW hu1) (pv 4) ((DJ∩((pv 11)^^^((pv 12)^^^((pv 3)^^^ab))))^^^((@aG _ _ _ _ _ ((pv 7)^^^((pv 8)^^^((@aG _ _ _ _ _ ((pv 9)^^^((pv 11)^^^ab)))^^^((@aG _ _ _ _ _ ((pv 10)^^^((pv 12)^^^ab)))^^^ab)))))^^^ab)) Y Y Y Y Y) Y)) (by intro _;rfl))) (by intro _;rfl))) (by intro _;rfl))<<<((pv 4)⁻¹)))))|?_];have z4:4096<=sizeLine:=∅
 obtain⟨dx,r0,rs0,g1,g2,g3⟩:=id S0;have wl:(wsK ks).length=ks.length:=B5 _;have kw0:=ws0 kw;apply aq (λ σ' H'=>∃wt:Ko,σ'=[↑s,↑t,↑fa,↑wt,none,none,none,none,none,none,none,none,none]/\H' wt= ~~~(bV (wsK ks))/\Same H H') (λ R hR=>?_) ?_
 ·apply%[_,Y,s,dx,_,Y,g1,dW _ _ ∅ ∅,s,b,ks,Y,S0,k8|λ wt H1 _ h1 s1=>hR _ _ %[wt,Y,?_|s1]];rw[h1,bV,Jc];rfl
 rintro _ H1 ⟨wt,rfl,hwt,s1⟩;have wvl:(bV (wsK ks)).length=ks.length:=by rw[bV,B5,wl]
 apply aq (λ σ' H'=>∃ (st:Ko) (kvs:Ks (Ks Key×V)),σ'=[↑s,↑t,↑fa,↑wt,↑st,none,none,none,none,none,none,none,none]/\H1 st=none/\H' st=some (.dT kvs)/\RwsA H' kvs (eC ks)/\Same H1 H') (λ R hR=>?_) ?_
 ·intro st hst;apply aB hst λ H2 k2 s2=>?_;have hw2:=s2 _ _ hwt;apply%[_,Y,wt,Y,%[_|IU hw2]|(bA (K:=K) (.inr hw2) (λ i us Hx=>Same H2 Hx/\us=bV (bR i)) (λ i us Hx _ ⟨sx,_⟩ o e=>sx _ _ e) %[Same.refl _|Y] ?_ ?_).2 hw2]
  ·rintro i x us Hx hi ⟨sx,rfl⟩;have hin:=(A7.mp hi).1;rw[wvl]at hin;apply%[by rw[bV,bR,B5,JT];lia,leS.set rfl|aF (show Nx (bV (wsK ks)).length (λ i us Hx=>Same H2 Hx/\us=bV (bR i)) i (bV (bR i) ++ [V.int 0]) Hx from Nx.of (by rw[wvl];exact hin) %[sx|?_])];rw[bR,bR,bV,bV,List.replicate_succ',JE];rfl
  ·rintro us Hx ⟨sx,rfl⟩;rw[wvl];apply%[by rw[bV,bR,B5,JT];lia|λ cl hcl=>?_];apply aB hcl λ H3 k3 s3=>?_;apply%[cl,_,Y|.inl %[IV k3|λ kt hkt=>?_]];apply aB hkt λ H4 k4 s4=>?_;apply%[zS1|λ vt hvt=>?_];apply aB hvt λ H5 k5 s5=>?_;have h5:H5 st=some (.dT []):=s5 _ _ (s4 _ _ (s3 _ _ (sx _ _ k2)));have e5:H5 kt= ~~~((bK (bR ks.length)).map kV):=by rw[eR];exact s5 _ _ k4
   apply%[h5,kt,bK (bR ks.length),Y,e5|hR _ _ %[st,_,Y,hst,ai,.cons %[Y,vt,Y|?_] .nil|λ c o e=>?_]]
   ·rw[ah (λ z=>by rw[z,h5]at k5;cases k5)];exact k5
   ·rw[ah (ae e hst)];exact s5 _ _ (s4 _ _ (s3 _ _ (sx _ _ (s2 _ _ e))))
 rintro _ H2 ⟨st,kvs0,rfl,hst1,hst,rw0,s2⟩;have hstH:H st=none:=s1.free hst1;have nfa:¬ FdS ss fa:=λ⟨q',m⟩=>by obtain⟨d,_,e,n,_⟩:=fok q' _ m;cases e;exact n rfl
 have fnst:fa≠st:=ae hfa hstH;have s02:=s1.trans s2;have in0:StI st ks H2 (eC ks):=%[kvs0,hst,rw0|GR.zero kw]
 have nst:¬ FdS ss st:=λ⟨q',m⟩=>by obtain⟨d,kv,e,_,rd,_⟩:=fok q' _ m;cases e;rcases rd with z | ⟨_,z⟩ <;> rw[hstH]at z <;> cases z
 apply aq (λ σ' H'=>∃ (v5 v6:Kq V),σ'=[↑s,↑t,↑fa,↑wt,↑st,v5,v6,none,none,none,none,none,none]/\StI st ks H' (eG (eC ks) (lyC ks p))/\Sg (FdS ss) st H2 H') (λ R hR=>?_) ?_
 ·have S2:=S0.keep (λ c o e=>s02 _ _ e) (λ c C' d fs e=>s02 _ _ e);apply%[_,Y,_,Y,s,t,b,ks,p.1,p.2,Y,S2,k8,s02 _ _ ht|λ ll ys H3 _ hll pys s3=>?_];obtain⟨ly,ely⟩:∃ly,ly=(lyK ks 0).filter (jc ks p.1 p.2):=%[_|Y]
  rw[<- ely]at pys;have yl:=E5 pys;apply%[ll,Y,%[_|IV hll]|cr (xs:=ys) (λ i σ' H'=>∃ (v5 v6:Kq V),σ'=[↑s,↑t,↑fa,↑wt,↑st,v5,v6,none,none,none,none,none,none]/\StI st ks H' (eG (eC ks) ((ly.take i).flatMap (lyR ks)))/\Sg (FdS ss) st H3 H') %[none,none,Y,in0.same s3|Sg.refl _] (λ i σ Hx _ ⟨_,_,_,_,sx⟩=>IV (sx.lst hll)) ?_ ?_]
  ·rintro i x σ Hx hi ⟨v5,v6,rfl,inx,sx⟩;obtain⟨qq,hq,ta,rfl,hta⟩:=IX pys hi;have qm:=B7 hq;have qk:∃k,ks[qq.1]?=some k:=(qr (J0.mp (ely ▸ qm)).1).2;obtain⟨k,hk⟩:=qk;have tk:(ly.take (i+1)).flatMap (lyR ks)=(ly.take i).flatMap (lyR ks) ++ lyR ks qq:=by rw[JM,hq,JS,KB,Jr,KG,JX]
   have wk:waA ks qq.1=k.wa:=by unfold waA;rw[hk];rfl
   have hwx:Hx wt= ~~~(bV (wsK ks)):=sx.tps _ _ (s3 _ _ (s2 _ _ hwt));have hat:(bV (wsK ks))[qq.1]? = ⇑k.wa:=by rw[bV,IY,IY,hk];rfl
   apply%[ta,_,Y,IU (sx.tps _ _ hta),Y,_,_,Y,_,_,Y,Y|?_];apply%[_,Y,_,Y,wt,_,_,_,Y,Y,IU hwx,fQ hat,_,_,Y,Y,_,Y|?_];apply fu (λ c1=>?_) (λ c1=>?_)
   ·have c1':0 < k.wa:=C2 c1;have lr:lyR ks qq=[(cC ks.length qq.1,.piece qq.1 qq.2)]:=by unfold lyR;rw[wk,Kz c1']
    apply%[_,Y,.inr (.inr (.inl %[Y|.inr (let ⟨kv,h,_⟩:=inx;%[kv|h])])),_,Y,_,Y,wt,wsK ks,(qq.1:Int),Y,hwx,⋯|λ ka H4 hka s4=>?_];rw[wl]at hka;apply%[_,Y,_,Y,zS5|λ va hva=>?_];apply aB hva λ H5 k5 s5=>?_;apply mW (F:=FdS ss) kw w6 (inx.same (s4.trans s5)) (s5 _ _ hka) (vk kw (q:=qq) (r:=(cC ks.length qq.1,.piece qq.1 qq.2)) (by rw[lr];exact E4.mpr rfl)) (t:=.piece qq.1 qq.2) %[va,rfl|k5] λ v' H6 in6 s6=>%[_,_,Y,?_|(sx.trans (Same.sg (s4.trans s5))).trans s6]
    rw[tk,lr,gm];exact in6
   ·have lr:lyR ks qq=[]:=by unfold lyR;rw[wk,Ky (λ z=>c1 (K1 z))]
    apply%[_,_,Y,?_|sx];rw[tk,lr,JX];exact inx
  ·rintro σ Hx ⟨v5,v6,rfl,inx,sx⟩;rw[JK ⋯,ely]at inx;exact hR _ _ %[v5,v6,rfl,inx|(Same.sg s3).trans sx]
 rintro _ H3 ⟨v5,v6,rfl,in3,s3⟩;obtain⟨R0,eR0⟩:∃R0,R0=eG (eC ks) (lyC ks p):=%[_|Y]
 rw[<- eR0]at in3;have s03:Sg (FdS ss) st H H3:=(Same.sg s02).trans s3;apply aq (λ σ' H'=>∃ (v7 v8 v9 v10 v11 v12:Kq V),σ'=[↑s,↑t,↑fa,↑wt,↑st,v5,v6,v7,v8,v9,v10,v11,v12]/\StI st ks H' (bO b ks (gB b ks) p)/\Sg (FdS ss) st H H') (λ R hR=>?_) ?_
 ·apply%[_,Y,s,dx,_,Y,s03.ins g1,dW _ _ ∅ ∅,s,b,ks,Y,S0.keep s03.tps (λ _ _ _ _ e=>s03.ins e)|?_];apply%[_,Y,b,p.1,p.2,t,Y,s03.tps _ _ ht,⋯,⋯,b0|λ cl cy H4 hcl pc s4=>?_];have s04:Sg (FdS ss) st H H4:=s03.trans (Same.sg s4);have cyl:=E5 pc;have wt4:H4 wt= ~~~(bV (wsK ks)):=s4 _ _ (s3.tps _ _ (s2 _ _ hwt));apply%[cl,Y,%[_|IV hcl]|cr (xs:=cy) (λ i σ' H'=>∃ (v7 v8 v9 v10 v11 v12:Kq V),σ'=[↑s,↑t,↑fa,↑wt,↑st,v5,v6,v7,v8,v9,v10,v11,v12]/\StI st ks H' (eG R0 (((aY b p.1 p.2).take i).flatMap (mV b ks (gB b ks) p)))/\Sg (FdS ss) st H4 H') %[none,none,none,none,none,none,Y,in3.same s4|Sg.refl _] (λ i σ Hx _ ⟨_,_,_,_,_,_,_,_,sx⟩=>IV (sx.lst hcl)) ?_ ?_]
  ·rintro i x σ Hx hi ⟨v7,v8,v9,v10,v11,v12,rfl,inx,sx⟩;obtain⟨c,hc,ta,t1,t2,rfl,hta,ht1,ht2⟩:=IX pc hi;have cm:=B7 hc;obtain⟨m1,m2⟩:=cin c cm;obtain⟨w1,hv1,hm1⟩:=dB m1;obtain⟨w2,hv2,hm2⟩:=dB m2;obtain⟨d1,kv1,rfl,nd1,rd1,rw1⟩:=fok _ _ hm1;obtain⟨d2,kv2,rfl,nd2,rd2,rw2⟩:=fok _ _ hm2;have n1:d1≠st:=λ z=>nst (z ▸ %[_|hm1]);have n2:d2≠st:=λ z=>nst (z ▸ %[_|hm2]);have s0x:Sg (FdS ss) st H Hx:=s04.trans sx;have hfx:Hx fa=some (.dT (byP ss)):=s0x.not fnst nfa hfa;have tk:((aY b p.1 p.2).take (i+1)).flatMap (mV b ks (gB b ks) p)=((aY b p.1 p.2).take i).flatMap (mV b ks (gB b ks) p) ++ mV b ks (gB b ks) p c:=by rw[JM,hc,JS,KB,Jr,KG,JX]
   obtain⟨R1,eR1⟩:∃R1,R1=eG R0 (((aY b p.1 p.2).take i).flatMap (mV b ks (gB b ks) p)):=%[_|Y]
   rw[<- eR1]at inx;apply%[ta,_,Y,IU (sx.tps _ _ hta),Y,_,_,Y,_,_,Y,_,_,Y,_,_,Y,Y|?_];apply%[_,Y,_,Y,fa,_,Y,hv1 ▸ DGet.t (k:=pk (cI p.1 p.2 c)) hfx (sx.tps _ _ ht1),d1,kv1,Y,s0x.rd n1 rd1|λ ob1 Hy hy1 sy=>?_];have sy':Sf (FdS ss) Hx Hy:=sy.mono λ a (e:a=d1)=>e ▸ %[_|hm1]
   have s0y:=s0x.trans sy'.sg;obtain⟨os,eos⟩:∃os,os=gK b ks (cI p.1 p.2 c):=%[_|Y]
   obtain⟨us,eus⟩:∃us,us=gK b ks (cB b p.1 p.2 c):=%[_|Y]
   have r1l:kv1.length=os.length:=by rw[eos,gK,B5];exact E5 rw1
   have r2l:kv2.length=us.length:=by rw[eus,gK,B5];exact E5 rw2
   apply mI (λ j σ' H'=>∃ (v11 v12:Kq V),σ'=[↑s,↑t,↑fa,↑wt,↑st,v5,v6,some (wv c.1),⇑c.2,↑t1,↑t2,v11,v12]/\StI st ks H' (eG R1 ((os.take j).flatMap (rZ b ks p c us)))/\Sg (FdS ss) st Hy H') %[v11,v12,rfl,inx.sf sy' nst|Sg.refl _] (λ j σ Hz _ ⟨_,_,_,_,sz⟩=>sz.frz hy1) ?_ ?_
   ·rintro j kk vv q1 σ Hz hj hq1 ⟨v11,v12,rfl,inz,sz⟩;obtain⟨ro,hro,hk1,_⟩:=IX rw1 hj;have hoj:os[j]?=some ro.1:=by rw[eos,gK,IY,hro];rfl
    have hk1:kk=bK ro.1:=hk1;rw[hk1,eR]at hq1;have io:InB (wsK ks) ro.1:=eE kw (eos ▸ B7 hoj);have s0z:=s0y.trans sz;have hfz:Hz fa=some (.dT (byP ss)):=s0z.not fnst nfa hfa;have tz:Tps H4 Hz:=λ a xs e=>sz.tps _ _ (sy'.tps _ _ (sx.tps _ _ e));have tkj:(os.take (j+1)).flatMap (rZ b ks p c us)=(os.take j).flatMap (rZ b ks p c us) ++ rZ b ks p c us ro.1:=by rw[JM,hoj,JS,KB,Jr,KG,JX]
    obtain⟨R2,eR2⟩:∃R2,R2=eG R1 ((os.take j).flatMap (rZ b ks p c us)):=%[_|Y]
    rw[<- eR2]at inz;apply%[_,Y,_,Y,fa,_,Y,hv2 ▸ DGet.t (k:=pk (cB b p.1 p.2 c)) hfz (tz _ _ ht2),d2,kv2,Y,s0z.rd n2 rd2|λ ob2 Hu hu2 su=>?_];have su':Sf (FdS ss) Hz Hu:=su.mono λ a (e:a=d2)=>e ▸ %[_|hm2]
    apply mI (λ k σ' H'=>∃ (v12:Kq V),σ'=[↑s,↑t,↑fa,↑wt,↑st,v5,v6,some (wv c.1),⇑c.2,↑t1,↑t2,↑q1,v12]/\StI st ks H' (eG R2 ((us.take k).map (yK b ks p c ro.1)))/\Sg (FdS ss) st Hu H') %[v12,rfl,inz.sf su' nst|Sg.refl _] (λ k σ Hv _ ⟨_,_,_,sv⟩=>sv.frz hu2) ?_ ?_
    ·rintro k kk2 vv2 q2 σ Hv hk' hq2 ⟨v12,rfl,inv,sv⟩;obtain⟨ru,hru,hk2,_⟩:=IX rw2 hk';have huk:us[k]?=some ru.1:=by rw[eus,gK,IY,hru];rfl
     have hk2:kk2=bK ru.1:=hk2;rw[hk2,eR]at hq2;have iu:InB (wsK ks) ru.1:=eE kw (eus ▸ B7 huk);have tv:Tps Hz Hv:=λ a xs e=>sv.tps _ _ (su'.tps _ _ e);have t4v:Tps H4 Hv:=λ a xs e=>tv _ _ (tz _ _ e);apply%[_,Y,.inr (.inr (.inl %[Y|.inr (let ⟨kv,h,_⟩:=inv;%[kv|h])])),_,Y,_,Y,_,Y,q1,q2,wt,ro.1,ru.1,wsK ks,Y,tv _ _ hq1,hq2,t4v _ _ wt4,by rw[io.1,iu.1],io.1,by rw[io.1,wl];exact k8|λ ka H5 hka s5=>?_];apply%[_,Y,_,Y,_,Y,_,Y,zS2|λ xa hxa=>?_];apply aB hxa λ H6 k6 s6=>?_;apply%[_,Y,_,Y,zS2|λ ya hya=>?_];apply aB hya λ H7 k7 s7=>?_;apply%[zS4|λ va hva=>?_];apply aB hva λ H8 kk8 s8=>?_;have s58:Same H5 H8:=(s6.trans s7).trans s8;have sv8:Same Hv H8:=s5.trans s58;apply mW (F:=FdS ss) kw w6 (inv.same sv8) (s58 _ _ hka) (InB.join kw0 io iu) (t:=.cut c.1 c.2 (cI p.1 p.2 c) ro.1 (cB b p.1 p.2 c) ru.1) %[va,_,_,rfl,kk8,%[xa,t1,q1,rfl,s8 _ _ (s7 _ _ k6),sv8 _ _ (t4v _ _ ht1)|sv8 _ _ (tv _ _ hq1)]|%[ya,t2,q2,rfl,s8 _ _ k7,sv8 _ _ (t4v _ _ ht2)|sv8 _ _ hq2]] λ v' H9 in9 s9=>%[_,Y,?_|(sv.trans (Same.sg sv8)).trans s9]
     rw[JM,huk,JS,JE,gm];exact in9
    ·rintro σ Hv ⟨v12,rfl,inv,sv⟩;apply%[_,_,Y,?_|sz.trans (su'.sg.trans sv)];rw[tkj,gm,<- eR2];rw[r2l,Jb]at inv;exact inv
   ·rintro σ Hz ⟨v11,v12,rfl,inz,sz⟩;apply%[_,_,_,_,_,_,Y,?_|sx.trans (sy'.sg.trans sz)];rw[tk,gm,<- eR1];rw[r1l,Jb]at inz;unfold mV;rw[eos,eus]at inz;exact inz
  ·rintro σ Hx ⟨v7,v8,v9,v10,v11,v12,rfl,inx,sx⟩;apply hR _ _ %[v7,v8,v9,v10,v11,v12,rfl,?_|s04.trans sx];rw[JK ⋯]at inx;unfold bO;rw[<- eR0];exact inx
 rintro _ H4 ⟨v7,v8,v9,v10,v11,v12,rfl,⟨kvs,i1,i2,i3⟩,s4⟩;exact%[_,Y|q st kvs H4 hstH i1 i2 (s4.sf hstH)]
def jm (C:Ko):Sp:=λ vs H Q _=>∃ (s:Ko) (b:Int) (ks:Ks Kd) (m n:Nat),vs=[.ref s,.int m,.int n]/\ShopAt C H s b ks/\kH b ks/\1<=m/\m<=8/\1<=n/\n<=8 /\
 ∀ (fa:Ko) (ss:Ks ((Int×Int)×V)) (H':Hp),H fa=none->H' fa=some (.dT (byP ss))->ss.map (·.1)=aw m n->sd b ks fa H' ss->(∀a,FdS ss a->H a=none)->Same H H'->Q (.ref fa) H'
def LsA (H H':Hp) (v:V) (bs:Ks (Ks Int)):Prop:=∃l as,v=.ref l/\H l=none/\H' l=↥(as.map V.ref)/\BsA H' as bs
def jo (C:Ko):Sp:=λ vs H Q _=>∃ (s:Ko) (b:Int) (ks:Ks Kd) (m n:Nat),vs=[.ref s,.int m,.int n]/\ShopAt C H s b ks/\kH b ks/\1<=m/\m<=8/\1<=n/\n<=8 /\
 ∀ (ta:Ko) (ll:Ks ((Int×Int)×V)) (H':Hp),H ta=none->H' ta=some (.dT (byP ll))->ll.map (·.1)=aw m n->(∀q v,(q,v)∈ll->LsA H H' v (gK b ks q))->Same H H'->Q (.ref ta) H'
theorem scgreats:FnScope ["shop","wide","high","found","part"] ["shop","wide","high"] (defScope cz):=%[Y,Y,Y,∅,Y,∅|∅]
theorem si {f:Ko} {fd:IQ} (F:Fun K "greatest_steps" "greatest_steps" cz f fd) {C:Ko} (B:Blt mg) (DPU:Dn P w K mg base "parts_up_to" ["wide","high"] 1 (spParts)) (DST:Dn P w K mg base "steps_of_part" ["shop","part","found"] 6 ((lK C))) (DAL:Dn P w K mg base "greatest_alone" ["steps"] 2 (lJ)):FnOk P w K mg base CX0 7 f fd ["shop","wide","high"] (jm C):=by
 apply F.ok scgreats (λ vs H Q E h=>?_) (λ cdv A outer s H vs Q E hr h=>?_)
 ·obtain⟨s,b,ks,m,n,rfl,_⟩:=h
  rfl
 obtain⟨s,b,ks,m,n,rfl,S0,⟨b0,k1',k8,kw,w6⟩,m1,m8,n1,n8,q⟩:=h;have nd:=scgreats.nd;have hu:=hr.units;have hu1:=C8 (Jh (show 1<=64 by decide) _) hu;apply%[_,((3∣uD)<<<((@bv _ _ _ _ _ _ _ _ E6 Y (aW (DPU∩((pv 1)^^^((pv 2)^^^ab)))) (aj (i:=4) nd Y (Or.inl Y)) (@ag _ _ _ (wF hu1 (pv 3) (pv 4) (DAL∩((DST∪((pv 0)^^^((pv 4)^^^((pv 3)^^^ab))))^^^ab)) Y)) (by intro _;rfl))<<<((pv 3)⁻¹)))|?_];have z4:4096<=sizeLine:=∅
 have wl:(wsK ks).length=ks.length:=B5 _;apply aq (λ σ' H'=>∃fa:Ko,σ'=[↑s,⇑m,⇑n,↑fa,none]/\H fa=none/\H' fa=some (.dT [])/\Same H H') (λ R hR=>?_) ?_
 ·intro fa hfa;apply aB hfa λ H1 k1 s1=>?_;exact hR _ _ %[fa,rfl,hfa,k1|s1]
 rintro _ H1 ⟨fa,rfl,hfa,k1,s1⟩;apply aq (λ σ' H'=>∃ (ss:Ks ((Int×Int)×V)) (v4:Kq V),σ'=[↑s,⇑m,⇑n,↑fa,v4]/\H' fa=some (.dT (byP ss))/\ss.map (·.1)=aw m n/\sd b ks fa H' ss/\(∀a,FdS ss a->H a=none)/\Same H H') (λ R hR=>?_) ?_
 ·apply%[_,Y,_,Y,m,n,Y,⋯,⋯|λ pl ys H3 hpl pys s3=>?_];have pln:=E5 pys;have p64:(aw m n).length<=64:=by rw[bZ];exact KH m8 n8
  have s13:=s1.trans s3;apply%[pl,Y,%[_|IV hpl]|cr (xs:=ys) (λ i σ' H'=>∃ (ss:Ks ((Int×Int)×V)) (v4:Kq V),σ'=[↑s,⇑m,⇑n,↑fa,v4]/\H' fa=some (.dT (byP ss))/\ss.map (·.1)=(aw m n).take i/\sd b ks fa H' ss/\(∀a,FdS ss a->H a=none)/\Sg (λ a=>H a=none) fa H3 H') ⟨[],none,Y,s3 _ _ k1,Y,(λ q v h=>by cases h),(λ a ⟨q,h⟩=>by cases h),Sg.refl _⟩ (λ i σ Hx _ ⟨_,_,_,_,_,_,_,sx⟩=>IV (sx.lst hpl)) ?_ ?_]
  ·rintro i x σ Hx hi ⟨ss,v4,rfl,hfx,es,fok,fnw,sx⟩;obtain⟨p,hp,ta,rfl,hta⟩:=IX pys hi;have pm:=B7 hp;obtain⟨⟨p1,p2⟩,p3,p4⟩:=partsL_mem.mp pm;have pnew:=oC hp;have sl:ss.length<=64:=by have:=Li List.length es;rw[B5,JJ]at this;lia
   have cutIn:∀c∈aY b p.1 p.2,cI p.1 p.2 c∈ss.map (·.1)/\cB b p.1 p.2 c∈ss.map (·.1):=λ c hc=>by obtain⟨⟨a1,a2,a3,a4,a5,_⟩,⟨c1,c2,c3,c4,c5,_⟩⟩:=gj b0 p1 p3 hc;rw[es];exact%[gO hp (partsL_mem.mpr %[%[a1|⋯],a2|⋯]) a5|gO hp (partsL_mem.mpr %[%[c1|⋯],c2|⋯]) c5]
   have s0x:Sg (λ a=>H a=none) fa H Hx:=(Same.sg s13).trans sx;have tx:Hx ta= ~~~[.int p.1,.int p.2]:=sx.tps _ _ hta;apply%[_,Y,_,Y,_,Y,s,ta,fa,b,ks,p,ss,Y,S0.keep s0x.tps (λ _ _ _ _ e=>s0x.ins e),%[b0,k1',k8,kw|w6],tx,p1,⋯,p3,⋯,hfx,fok,cutIn|λ st kvs H4 hst h4 rw4 s4=>?_];have nfa:¬ FdS ss fa:=λ⟨q',mq⟩=>by obtain⟨d,_,e,nn,_⟩:=fok q' _ mq;cases e;exact nn rfl
   have inR:∀x∈(bO b ks (gB b ks) p).map (·.1),InB (wsK ks) x:=λ x hx=>ft kw (λ c _=>%[λ r hr=>jj kw hr|λ r hr=>jj kw hr]) hx;have few:=InB.few (ws0 kw) w6 (cT b ks (gB b ks) p) inR;rw[B5]at few;apply%[st,ks.length,kvs,_,Y,.inl h4,rw4,cT _ _ _ _,λ x hx=>by rw[(inR x hx).1,wl],k1',k8,few|λ d kv5 H5 hd h5 rw5 s5=>?_];rw[<- xQ b0 p p1 p3]at rw5;have n1:fa≠st:=ae hfx hst;have f4:H4 fa=some (.dT (byP ss)):=s4.not nfa hfx;have f5:H5 fa=some (.dT (byP ss)):=s5.not n1 f4;have dn:Hx d=none:=s4.free hd;have nd:d≠fa:=(ae hfx dn).symm;have dH:H d=none:=by
    cases e:H d with
    | none=>rfl
    | some o=>
     rcases s0x _ _ e with z | ⟨z,_⟩ | ⟨z,_⟩
     ·rw[dn]at z;cases z
     ·rw[z]at e;cases e
     ·exact absurd z nd
   have stH:H st=none:=by
    cases e:H st with
    | none=>rfl
    | some o=>
     rcases s0x _ _ e with z | ⟨z,_⟩ | ⟨z,_⟩
     ·rw[hst]at z;cases z
     ·rw[z]at e;cases e
     ·exact absurd z.symm n1
   have s45:Sf (λ a=>H a=none) Hx H5:=(s4.mono λ a h=>fnw a h).trans (s5.mono λ a (h:a=st)=>h ▸ stH);apply%[_,Y,_,Y,fa,_,Y,DPut.t (k:=pk p) f5 (s45.tps _ _ tx) (by unfold byP;rw[B5];lia),ss ++ [(p,.ref d)],_,Y,?_,?_,?_,?_|(sx.trans s45.sg).trans (Sg.put f5)]
   ·rw[xk (by rw[es];exact pnew)];exact ai
   ·rw[JE,es,JM,hp];rfl
   ·intro q' v' hm;have kt:Tps H5 (upd H5 fa (.dT (bX (byP ss) (pk p) (V.ref d)))):=(Sg.put (F:=λ _=>False) f5).tps;rcases C4.mp hm with hm | hm
    ·obtain⟨d',kv',rfl,nn,rd,rw'⟩:=fok q' v' hm;apply%[d',kv',Y,nn,?_|(rw'.keep s45.tps).keep kt];exact(Sg.put (F:=λ _=>False) f5).rd nn (s45.rd rd)
    ·rw[E4]at hm;cases hm;exact%[d,kv5,Y,nd,.inl (by rw[ah nd];exact h5)|rw5.keep kt]
   ·rintro a ⟨q',hm⟩;rcases C4.mp hm with hm | hm
    ·exact fnw a %[q'|hm]
    ·rw[E4]at hm;cases hm;exact dH
  ·rintro σ Hx ⟨ss,v4,rfl,hfx,es,fok,fnw,sx⟩;rw[JK ⋯]at es;apply hR _ _ %[ss,v4,rfl,hfx,es,fok,fnw|?_];exact Sf.same (Same.refl _) (((Same.sg s13).trans sx).sf hfa) (λ _ h=>h)
 rintro _ H2 ⟨ss,v4,rfl,h2,es,fok,fnw,s2⟩;exact%[_,Y|q fa ss H2 hfa h2 es fok fnw s2]
theorem scgreatb:FnScope ["shop","wide","high","found"] ["shop","wide","high"] (defScope bt):=%[Y,Y,Y,∅,Y,∅|∅]
theorem sj {f:Ko} {fd:IQ} (F:Fun K "greatest_bundles" "greatest_bundles" bt f fd) {C:Ko} (B:Blt mg) (DCK:Dn P w K mg base "check_small" ["shop","wide","high"] 3 ((vi C))) (DGS:Dn P w K mg base "greatest_steps" ["shop","wide","high"] 7 ((jm C))):FnOk P w K mg base CX0 8 f fd ["shop","wide","high"] (jo C):=by
 apply F.ok scgreatb (λ vs H Q E h=>?_) (λ cdv A outer s H vs Q E hr h=>?_)
 ·obtain⟨s,b,ks,m,n,rfl,_⟩:=h
  rfl
 obtain⟨s,b,ks,m,n,rfl,S0,⟨b0,k1',k8,kw,w6⟩,m1,m8,n1,n8,q⟩:=h;have nd:=scgreatb.nd;have hu:=hr.units;have hu1:=C8 (Jh (show 1<=64 by decide) _) hu;apply%[_,((@bS _ _ _ _ (DCK∩((pv 0)^^^((pv 1)^^^((pv 2)^^^ab)))) Y)<<<((3∣(DGS∪((pv 0)^^^((pv 1)^^^((pv 2)^^^ab)))))<<<((mK (own:=["part","steps"]) (cs:=[]) (cap:=[]) Y hu1 (uO (pv 3)) (ay (sc:=defScope bt) (N:=["shop","wide","high","found"]) Y Y ∅) (λ _ _ _ _ _=>fF K Y Y (by show List.Nodup (["part","steps"]:Ks Str) ;decide +kernel) Y Y Y Y) (λ _ _ _ _ _=>aE) (λ _ _ _ _ _=>(pv 0)) (λ _ _ _ _ _=>(@aS _ _ _ _ _ _ _ _ _ (fG Y) Y B.list Lj ((pv 1)^^^ab) ∅ ∅ Y Y)))⁻¹)))|?_];have z4:4096<=sizeLine:=∅
 apply aq (λ σ' H'=>σ'=[↑s,⇑m,⇑n,none]/\Same H H') (λ R hR=>?_) ?_
 ·exact%[_,Y,_,Y,_,Y,s,b,m,n,ks,Y,S0,k8,⋯,⋯,⋯,⋯,w6|λ H' s'=>hR _ _ %[Y|s']]
 rintro _ H1 ⟨rfl,s1⟩;apply aq (λ σ' H'=>∃ (fa:Ko) (ss:Ks ((Int×Int)×V)),σ'=[↑s,⇑m,⇑n,↑fa]/\H1 fa=none/\H' fa=some (.dT (byP ss))/\ss.map (·.1)=aw m n/\sd b ks fa H' ss/\Same H1 H') (λ R hR=>?_) ?_
 ·exact%[_,Y,_,Y,_,Y,s,b,ks,m,n,Y,S0.keep (λ _ _ e=>s1 _ _ e) (λ _ _ _ _ e=>s1 _ _ e),%[b0,k1',k8,kw|w6],m1,m8,n1,n8|λ fa ss H' a1 a2 a3 a4 _ a6=>hR _ _ %[fa,ss,Y,a1,a2,a3,a4|a6]]
 rintro _ H2 ⟨fa,ss,rfl,hfa,h2,es,fok,s2⟩;have p64:(aw m n).length<=64:=by rw[bZ];exact KH m8 n8
 have sl:ss.length<=64:=by rw[<- B5 (f:=(·.1)),es];exact p64
 apply%[_,Y,fa,byP ss,Y,h2|λ ob=>?_];have hf:(upd H2 fa (.frz ob (.dT (byP ss)))) fa=some (.frz ob (.dT (byP ss))):=ai;have sf0:Sf (· = fa) H2 (upd H2 fa (.frz ob (.dT (byP ss)))):=λ c o e=>by
  by_cases z:c=fa
  ·subst z;rw[h2]at e;cases e;exact .inr %[Y,ob,_,Y|ai]
  ·rw[ah z];exact .inl e
 generalize upd H2 fa (.frz ob (.dT (byP ss)))=H3 at hf sf0 ⊢;have fok3:sd b ks fa H3 ss:=λ q' v' hm=>by obtain⟨d,kv,e,nn,rd,rw'⟩:=fok q' v' hm;exact%[d,kv,e,nn,sf0.rd rd|rw'.keep sf0.tps]
 have bl:(byP ss).length=ss.length:=B5 _;have fr:∀ {l:Ko},H3 l=none->H l=none:=λ h=>s1.free (s2.free (sf0.free h));have snd:(ss.map (·.1)).Nodup:=by rw[es];exact(cq n m).imp λ {a c} h e=>by subst e;unfold ltP at h;lia
 apply mL (λ i Kv Hx=>Same H3 Hx/\Kv.length=i/\(∀r∈Kv,Hx r.1= ~~~(r.2.1.map kV))/\∃ll,kvR Kv=byP ll/\ll.map (·.1)=(ss.map (·.1)).take i/\∀q' v',(q',v')∈ll->LsA H Hx v' (gK b ks q')) ⟨Same.refl _,rfl,(λ r hr=>by cases hr),[],rfl,rfl,(λ q' v' h=>by cases h)⟩ (λ i Kv Hx _ ⟨sx,_,hr,_⟩=>%[sx _ _ hf|hr]) ?_ ?_ ?_
 ·rintro i kk v pt qt Kv Hx hi hpt hqt ⟨sx,rl,hr,ll,e1,e2,e3⟩;have hin:=(A7.mp hi).1;unfold byP at hi;rw[IY]at hi;obtain⟨⟨p,v'⟩,hsi,e⟩:=JI.mp hi;injection e with ek ev
  subst ek ev;have hpi:(ss.map (·.1))[i]?=some p:=by rw[IY,hsi];rfl
  obtain⟨d,kv,e,nn,rd,rwd⟩:=fok3 p v' (B7 hsi);have e:v'=.ref d:=e;subst e;have rl64:kv.length<=64:=by
   have l1:=E5 rwd;have l2:=InB.few (ws0 kw) w6 (bs:=gK b ks p) ?_ (λ x hx=>eE kw hx)
   ·rw[gK,B5]at l2;lia
   ·obtain⟨⟨p1,_⟩,p3,_⟩:=partsL_mem.mp (show p∈aw m n by rw[<- es];exact B7 hpi);rw[kG b0 p p1 p3];exact fL (cT _ _ _ _)
  apply aB hpt λ H4 k4 s4=>?_;have s34:=sx.trans s4;apply%[pt,_,Y,IU k4,Y,_,_,Y,_,_,Y,Y,ja (leS.set rfl) (leS.set rfl)|aF %[_,Y,_,Y,d,kv,Y,(Same.sf (F:=(· = fa)) s34).rd rd|λ l as hl pas=>?_]];apply aB hl λ H5 k5 s5=>?_;have hq5:H5 qt= ~~~((pk p).map kV):=s5 _ _ (s4 _ _ hqt);have pn:p∉ll.map (·.1):=λ z=>by rw[e2]at z;obtain⟨k,hk1,hk2⟩:=KA z;rw[List.getElem_take]at hk2;rw[JJ]at hk1;have hb1:=(A7.mp hpi).1;have hb2:=(A7.mp hpi).2;have:=(KD (h₀:=show k < (ss.map (·.1)).length by lia) (h₁:=hb1) snd).mp (hk2.trans hb2.symm);lia
  apply%[qt,pk p,Y,hq5,?_|NxD.of hin %[s34.trans s5,by rw[JD,rl];rfl,λ r hr'=>?_,ll ++ [(p,.ref l)],?_,?_|?_]]
  ·intro hm;have:Kv.map (·.2.1)=(kvR Kv).map (·.1):=by unfold kvR;rw[Jc];rfl
   rw[this,e1]at hm;unfold byP at hm;rw[Jc]at hm;obtain⟨d',hd',e⟩:=JH.mp hm;exact pn (JH.mpr %[d',hd'|oE e])
  ·rcases C4.mp hr' with h | h
   ·exact s5 _ _ (s4 _ _ (hr r h))
   ·rw[E4.mp h];exact hq5
  ·unfold kvR byP at e1 ⊢;rw[JE,JE,e1];rfl
  ·rw[JE,e2,JM,hpi];rfl
  ·intro q' v' hm;rcases C4.mp hm with hm | hm
   ·obtain⟨l',as',e,h1,h2,h3⟩:=e3 q' v' hm;exact%[l',as',e,h1,s5 _ _ (s4 _ _ h2)|h3.keep (Same.tps (s4.trans s5))]
   ·rw[E4]at hm;cases hm;apply%[l,as,Y,fr (s34.free hl),k5|?_];have:∀ (as:Ks Ko) (kv:Ks (Ks Key×V)) (rs:Rws),Paired (λ(b:Ko) (kv:Ks Key×V)=>H4 b= ~~~(kv.1.map kV)) as kv->RwsA H3 kv rs->BsA H5 as (rs.map (·.1)):=λ as kv rs h1 h2=>by
     induction h2 generalizing as with
     | nil=>cases h1;exact .nil
     | cons x _ ih=>cases h1 with
      | cons y z=>exact .cons (by rw[x.1,eR]at y;exact s5 _ _ y) (ih _ z)
    exact this as kv _ pas rwd
 ·rintro i Kv Hx hi ⟨_,rl,_⟩;lia
 ·rintro Kv Hx ⟨sx,rl,hr,ll,e1,e2,e3⟩;apply%[⋯|λ ta hta=>?_];rw[e1];have hn:=sx.free hta;rw[bl,JK (by rw[B5];lia),es]at e2;apply aB hta λ H4 k4 s4=>?_;apply q ta ll H4 (fr hn) k4 e2 (λ q' v' hm=>?_) (λ c o e=>?_)
  ·obtain⟨l',as',e,h1,h2,h3⟩:=e3 q' v' hm;exact%[l',as',e,h1,s4 _ _ h2|h3.keep (Same.tps s4)]
  ·apply s4 _ _ (sx _ _ (sf0.not (λ z=>?_) (s2 _ _ (s1 _ _ e))));have z:c=fa:=z;rw[z,s1.free hfa]at e;cases e
end
def lnL (k:Kd):Ks (Int×Int):=if k.tu && !decide (k.w=k.h)then[(k.w,k.h),(k.h,k.w)]else[(k.w,k.h)]
def gP (k:Kd) (w h:Int):Bool:=(lnL k).any λ q=>decide (q.1<=w) && decide (q.2<=h)
section
variable {P:IP} {w:IR} {K:C6} {mg:Str->Kq IS} {base:Heap}
theorem sccell:FnScope ["_law_script","_law_k"] ["_law_script","_law_k"] (defScope qj):=%[Y,Y,Y,∅,Y,∅|∅]
theorem xn {f:Ko} {fd:IQ} (F:Fun K "_law_cell" "_law_cell" qj f fd) (B:Blt mg):FnOk P w K mg base CX0 1 f fd ["_law_script","_law_k"] (nN K):=by
 apply F.ok sccell (λ vs H Q E h=>?_) (λ cdv A outer s H vs Q E hr h=>?_)
 ·obtain⟨a,ns,n,rfl,_⟩:=h
  rfl
 obtain⟨a,ns,n,rfl,hS,n0,q⟩:=h;have nd:=sccell.nd;apply%[_,((((pv 1)<*>pG<*>(@ak _ _ _ _ _ _ _ _ _ aK Y B.len LI ((pv 0)^^^ab) ∅ ∅ Y Y))<|>(((pv 0)&&&bL&&&(pv 1))⁻¹)<|>aD)<<<(ad⁻¹))|?_];have hl:(ns.map V.int).length=ns.length:=B5 _;apply%[_,Y,_,Y,a,_,Y,.inl hS,_,_,Y,Y,_,Y|?_];apply fu (λ c=>?_) (λ c=>?_)
 ·have c':n < ((ns.map V.int).length:Int):=C2 c;rw[hl]at c';have hk:n.toNat < ns.length:=⋯
  have hv:atI (ns.map V.int) n=some (.int ns[n.toNat]):=fV n0 (by rw[IY,G2 hk];rfl);exact%[_,Y,_,Y,a,_,_,_,Y,Y,hS,hv|q _]
 ·exact q _
theorem scpot:FnScope ["_law_cell_here"] ["_law_cell_here"] (defScope wX):=%[Y,Y,Y,∅,Y,∅|∅]
theorem yL {f:Ko} {fd:IQ} (F:Fun K "_law_pot" "_law_pot" wX f fd) (B:Blt mg):FnOk P w K mg base CX0 1 f fd ["_law_cell_here"] (nO):=by
 apply F.ok scpot (λ vs H Q E h=>?_) (λ cdv A outer s H vs Q E hr h=>?_)
 ·obtain⟨c,rfl,_⟩:=h
  rfl
 obtain⟨c,rfl,q⟩:=h;have nd:=scpot.nd;apply%[_,((@bW _ _ _ _ ((@ak _ _ _ _ _ _ _ _ _ (qG Y) Y B.max PyProof.Rows.boot_max (ad^^^(((@ak _ _ _ _ _ _ _ _ _ lW Y B.abs PyProof.Rows.boot_abs ((pv 0)^^^ab) ∅ ∅ Y Y)|||bN|||(ad|||nu|||ad))^^^ab)) ∅ ∅ Y Y)^^^((((@ak _ _ _ _ _ _ _ _ _ lW Y B.abs PyProof.Rows.boot_abs ((pv 0)^^^ab) ∅ ∅ Y Y)|||kN|||ad)|||be|||ad)^^^ab)))⁻¹)|?_];apply%[_,Y,_,Y,_,_,Y,Y,%[∅,∅|∅],_,_,Y,Y,_,_,Y,_,Y,_,Y,_,_,Y,Y,(by show(0:Int) < 2147483629;decide),_,_,Y,Y,zS2|λ p hp=>?_];apply q p _ hp %[_,_,?_,?_,?_|ai] (IT hp)
 ·split <;> lia
 ·have:=Int.emod_nonneg (if c < 0 then -c else c) (show(2147483629:Int)≠0 by decide);lia
 ·have:=Int.emod_lt_of_pos (if c < 0 then -c else c) (show(0:Int) < 2147483629 by decide);lia
theorem scdraw:FnScope ["_law_pot_here","_law_many","_law_digit"] ["_law_pot_here","_law_many"] (defScope ql):=%[Y,Y,Y,∅,Y,∅|∅]
theorem xo {f:Ko} {fd:IQ} (F:Fun K "_law_draw" "_law_draw" ql f fd) (B:Blt mg):FnOk P w K mg base CX0 1 f fd ["_law_pot_here","_law_many"] (dX):=by
 apply F.ok scdraw (λ vs H Q E h=>?_) (λ cdv A outer s H vs Q E hr h=>?_)
 ·obtain⟨p,m,rfl,_⟩:=h
  rfl
 obtain⟨p,m,rfl,⟨a,b,a0,b0,b1,hp⟩,m0,m1,q⟩:=h;have nd:=scdraw.nd;apply%[_,(((((pv 0)&&&bL&&&ad)<*>iB<*>ad)<|>((@eK _ _ _ _ _ _ (@ak _ _ _ _ _ _ _ _ _ kZ Y B.divmod PyProof.Rows.boot_divmod (((pv 0)&&&bL&&&ad)^^^((pv 1)^^^ab)) ∅ ∅ Y Y) (bU Y (am (tO (pv 0) ad lZ) (2•bp))) Y Y Y)<<<((pv 2)⁻¹))<|>aD)<<<((@eK _ _ _ _ _ _ (((((pv 0)&&&bL&&&ad)|||nr|||ad)|||be|||ad)|||kN|||ad) (tO (pv 0) ad lZ) Y Y Y)<<<(((((((pv 0)&&&bL&&&ad)|||nr|||((pv 0)&&&bL&&&ad))|||kN|||ad)|||uk|||ad)|||kN|||(pv 1))⁻¹)))|?_];have at0:atI [V.int a,V.int b] 0=⇑a:=rfl;have at1:atI [V.int a,V.int b] 1=⇑b:=rfl;apply%[_,Y,p,_,_,_,Y,Y,IV hp,at0,_,_,Y,Y,_,Y|?_];apply fu (λ c=>?_) (λ c=>?_)
 ·have c':0 < a:=C2 c;apply%[_,Y,p,_,_,_,Y,Y,IV hp,at0,_,Y,_,_,Y,%[m0|m1]|λ t ht=>?_];have npt:p≠t:=ae hp ht;have hp1:(upd H t (.tup [.int (a / m),.int (a % m)])) p=↥[.int a,.int b]:=by rw[ah npt];exact hp
  apply%[t,_,Y,IU ai,Y,_,_,Y,_,Y,p,_,_,_,Y,Y,hp1,Y,_,_,Y,Y|?_];apply%[_,Y|q _ _ (Int.emod_nonneg _ ⋯) (Int.emod_lt_of_pos _ m0) %[a / m,b,Int.ediv_nonneg a0 ⋯,b0,b1|ai] ((But.new ht).trans But.upd)]
 ·apply%[_,Y,p,_,_,_,Y,Y,IV hp,at1,_,_,Y,Y,.inr %[∅|∅],_,_,Y,Y,_,_,Y,Y,(by show(0:Int) < 2147483647;decide),_,Y,p,_,_,_,Y,Y,hp,Y|?_];have n0:0<=(b * 48271+11) % 2147483647:=Int.emod_nonneg _ ∅;have n1:(b * 48271+11) % 2147483647 < 2147483647:=Int.emod_lt_of_pos _ ∅;apply%[_,Y,p,_,_,_,Y,Y,IV ai,Y,_,Y,p,_,_,_,Y,Y,IV ai,Y,_,_,Y,Y,.inl %[⋯|⋯],_,_,Y,Y,(by show(0:Int) < 2147483629;decide),_,_,Y,Y,%[∅|∅],_,Y,_,_,Y,Y,m0|?_];exact q _ _ (Int.emod_nonneg _ ⋯) (Int.emod_lt_of_pos _ m0) %[a,_,a0,n0,⋯|ai] But.upd
def oG:Sp:=λ vs H Q _=>∃ (t:Ko) (k:Kd),vs=[.ref t]/\H t= ~~~(kdV k)/\∀ (l:Ko) (ys:Ks V) (H':Hp),H' l=↥ys->Paired (PtAt H') ys (lnL k)->Same H H'->Q (.ref l) H'
def lL:Sp:=λ vs H Q _=>∃ (t:Ko) (k:Kd) (w h:Int),vs=[.ref t,.int w,.int h]/\H t= ~~~(kdV k)/\∀ (H':Hp),Same H H'->Q (.bl (gP k w h)) H'
def oH:Sp:=λ vs H Q _=>∃ (p:Ko) (m:Int),vs=[.ref p,.int m]/\PotB H p/\1<=m/\m<=8/\∀ (r:Int) (H':Hp),1<=r->r < 10 ^ 60->PotB H' p->But p H H'->Q (.int r) H'
def jq:Sp:=λ vs H Q _=>∃ (p:Ko),vs=[.ref p]/\PotB H p/\∀ (r:Int) (H':Hp),0<=r->r < 10 ^ 60->PotB H' p->But p H H'->Q (.int r) H'
theorem sclain:FnScope ["_law_kind","_law_wide","_law_high","_law_worth","_law_wanted","_law_turns"] ["_law_kind"] (defScope qo):=%[Y,Y,Y,∅,Y,∅|∅]
theorem xq {f:Ko} {fd:IQ} (F:Fun K "_law_lain" "_law_lain" qo f fd) (B:Blt mg):FnOk P w K mg base CX0 1 f fd ["_law_kind"] (oG):=by
 apply F.ok sclain (λ vs H Q E h=>?_) (λ cdv A outer s H vs Q E hr h=>?_)
 ·obtain⟨t,k,rfl,_⟩:=h
  rfl
 obtain⟨t,k,rfl,ht,q⟩:=h;have nd:=sclain.nd;apply%[_,((@eK _ _ _ _ _ _ (pv 0) (bU Y (1•(2•(3•(4•(5•bp)))))) Y Y Y)<<<(((PW.pt (tK (@aM _ _ _ (pv 5) (by intro _;rfl)) (pj ((pv 1)<*>jH<*>(pv 2)))))<|>((@bW _ _ _ _ ((@aG _ _ _ _ _ ((pv 1)^^^((pv 2)^^^ab)))^^^((@aG _ _ _ _ _ ((pv 2)^^^((pv 1)^^^ab)))^^^ab)))⁻¹)<|>aD)<<<((@bW _ _ _ _ ((@aG _ _ _ _ _ ((pv 1)^^^((pv 2)^^^ab)))^^^ab))⁻¹)))|?_];apply aq (λ σ' H'=>σ'=[↑t,⇑k.w,⇑k.h,⇑k.wo,⇑k.wa,some (.bl k.tu)]/\H=H') (λ R hR=>?_) ?_
 ·exact%[_,Y,t,_,Y,IU ht,Y,_,_,Y,_,_,Y,_,_,Y,_,_,Y,_,_,Y,Y|hR _ _ %[Y|Y]]
 rintro _ _ ⟨rfl,rfl⟩;have two:(k.tu && !decide (k.w=k.h))=true->lnL k=[(k.w,k.h),(k.h,k.w)]:=λ h=>by unfold lnL;rw[Kz h]
 have one:¬ (k.tu && !decide (k.w=k.h))=true->lnL k=[(k.w,k.h)]:=λ h=>by unfold lnL;rw[Ky h]
 apply aq (λ σ' H'=>(¬ (k.tu && !decide (k.w=k.h))=true)/\σ'=[↑t,⇑k.w,⇑k.h,⇑k.wo,⇑k.wa,some (.bl k.tu)]/\H=H') (λ R hR=>?_) ?_
 ·apply%[_,Y,_,Y|?_];cases hc:k.tu with
  | false=>exact aT (aT (hR _ _ %[by rw[hc];exact B3,by rw[hc]|rfl]))
  | true=>
   apply cQ %[_,rfl,_,rfl,rfl,_,rfl|?_];apply fu (λ c1=>?_) (λ c1=>hR _ _ %[?_,by rw[hc]|rfl])
   ·have cc:(k.tu && !decide (k.w=k.h))=true:=by rw[hc,Bool.true_and];simpa using c1
    apply%[_,Y,_,Y,zS2|λ a ha=>?_];apply aB ha λ H1 k1 s1=>?_;apply%[_,Y,_,Y,zS2|λ b hb=>?_];apply aB hb λ H2 k2 s2=>?_;apply%[zS2|λ l hl=>?_];apply aB hl λ H3 k3 s3=>?_;exact q l _ H3 k3 (by rw[two cc];exact .cons %[a,Y|s3 _ _ (s2 _ _ k1)] (.cons %[b,Y|s3 _ _ k2] .nil)) ((s1.trans s2).trans s3)
   ·rw[hc,Bool.true_and];simpa using c1
 rintro _ _ ⟨cc,rfl,rfl⟩;apply%[_,Y,_,Y,zS2|λ a ha=>?_];apply aB ha λ H1 k1 s1=>?_;apply%[zS1|λ l hl=>?_];apply aB hl λ H2 k2 s2=>?_;exact q l _ H2 k2 (by rw[one cc];exact .cons %[a,Y|s2 _ _ k1] .nil) (s1.trans s2)
theorem scfitsk:FnScope ["_law_kind","_law_wide","_law_high"] ["_law_kind","_law_wide","_law_high"] (defScope mO):=%[Y,Y,Y,∅,Y,∅|∅]
theorem vq {f:Ko} {fd:IQ} (F:Fun K "_law_fits" "_law_fits" mO f fd) (B:Blt mg) (han:mg "any" = none) (DLN:Dn P w K mg base "_law_lain" ["_law_kind"] 1 (oG)):FnOk P w K mg base CX0 2 f fd ["_law_kind","_law_wide","_law_high"] (lL):=by
 apply F.ok scfitsk (λ vs H Q E h=>?_) (λ cdv A outer s H vs Q E hr h=>?_)
 ·obtain⟨t,k,w1,h1,rfl,_⟩:=h
  rfl
 obtain⟨t,k,w1,h1,rfl,ht,q⟩:=h;have nd:=scfitsk.nd;apply%[_,((@ak _ _ _ _ _ _ _ _ _ (fj Y) Y han PyProof.Rows.boot_any ((aX (own:=["_law_one","_law_other"]) (cs:=["_law_wide","_law_high"]) (cap:=[1,2]) Y (aW (DLN∪((pv 0)^^^ab))) (ay (sc:=defScope mO) (N:=["_law_kind","_law_wide","_law_high"]) Y Y ∅) (λ _ _ _ _ _=>fF K Y Y (by show List.Nodup (["_law_one","_law_other","_law_wide","_law_high"]:Ks Str) ;decide +kernel) Y Y Y Y) (λ _ _ _ _ _=>aE) (λ _ _ _ _ _=>(eJ (@bJ _ _ _ _ _ _ _ _ gH (pv 0) (pv 2) (aJ _)) (fA (@bJ _ _ _ _ _ _ _ _ gH (pv 1) (pv 3) (aJ _))))))^^^ab) ∅ ∅ Y Y)⁻¹)|?_];have z4:4096<=sizeLine:=∅
 have ll:(lnL k).length<=2:=by unfold lnL;split <;> simp
 apply%[_,Y,t,k,Y,ht|λ l ys H1 hl py s1=>?_];have yl:=E5 py;apply%[l,Y,%[_|IV hl]|(bA (K:=K) (.inl hl) (λ i us Hx=>H1=Hx/\us=(((lnL k).take i).map λ q=>decide (q.1<=w1) && decide (q.2<=h1)).map V.bl) (λ i us Hx _ ⟨e,_⟩ o h=>e ▸ h) %[Y|Y] ?_ ?_).1 hl]
 ·rintro i x us _ hi ⟨rfl,rfl⟩;have hin:=(A7.mp hi).1;obtain⟨c,hc,ta,rfl,hta⟩:=IX py hi;apply%[by rw[B5,B5,JJ];lia,ta,_,Y,IU hta,Y,_,_,Y,_,_,Y,Y,ja (leS.set rfl) (leS.set rfl)|aF ?_];have tk:∀v:Bool,(decide (c.1<=w1) && decide (c.2<=h1))=v->Nx ys.length (λ i us Hx=>H1=Hx/\us=(((lnL k).take i).map λ q=>decide (q.1<=w1) && decide (q.2<=h1)).map V.bl) i ((((lnL k).take i).map λ q=>decide (q.1<=w1) && decide (q.2<=h1)).map V.bl ++ [.bl v]) H1:=λ v hv=>Nx.of hin %[rfl|by rw[JM,hc,JS,JE,JE,<- hv];rfl];apply%[_,Y,_,Y,_,_,Y,Y|?_];cases c1:decide (c.1<=w1)with
  | false=>exact%[_,Y|aT (tk false (by rw[c1];rfl))]
  | true=>exact%[_,Y|cQ %[_,Y,_,Y,_,_,Y,Y|tk _ (by rw[c1];rfl)]]
 ·rintro us _ ⟨rfl,rfl⟩;rw[yl,Jb];apply%[by rw[B5,B5];lia|λ p hp=>%[p,_,Y,IV ai|?_]];have:=q _ (s1.trans (IT hp (o:=.lst ((((lnL k)).map λ q=>decide (q.1<=w1) && decide (q.2<=h1)).map V.bl))));unfold gP at this;rw[List.any_map];exact this
theorem scsize:FnScope ["_law_pot_here","_law_most"] ["_law_pot_here","_law_most"] (defScope qp):=%[Y,Y,Y,∅,Y,∅|∅]
theorem xt {f:Ko} {fd:IQ} (F:Fun K "_law_size" "_law_size" qp f fd) (B:Blt mg) (DD:Dn P w K mg base "_law_draw" ["_law_pot_here","_law_many"] 1 (dX)):FnOk P w K mg base CX0 2 f fd ["_law_pot_here","_law_most"] (oH):=by
 apply F.ok scsize (λ vs H Q E h=>?_) (λ cdv A outer s H vs Q E hr h=>?_)
 ·obtain⟨p,m,rfl,_⟩:=h
  rfl
 obtain⟨p,m,rfl,pt,m1,m8,q⟩:=h;have nd:=scsize.nd;apply%[_,((((DD∪((pv 0)^^^(ad^^^ab)))<*>iA<*>ad)<|>((((pv 1)|||be|||ad)|||be|||(DD∪((pv 0)^^^((ad|||nu|||ad)^^^ab))))⁻¹)<|>aD)<<<((ad|||be|||(DD∪((pv 0)^^^((@ak _ _ _ _ _ _ _ _ _ (cU Y) Y B.min LZ ((pv 1)^^^(((@bW _ _ _ _ (ad^^^(ad^^^(ad^^^ab))))&&&bL&&&(DD∪((pv 0)^^^(ad^^^ab))))^^^ab)) ∅ ∅ Y Y)^^^ab))))⁻¹))|?_];have e50:(10:Int) ^ (50:Int).toNat=10 ^ 50:=rfl;have e60:(10:Int) ^ 50+20 < 10 ^ 60:=∅
 have e61:(0:Int) < 10 ^ 50:=∅
 apply aq (λ σ' H'=>σ'=[↑p,⇑m]/\PotB H' p/\But p H H') (λ R hR=>?_) ?_
 ·apply%[_,Y,p,12,Y,pt,∅,∅|λ z H1 z0 z1 pt1 b1=>%[Y,_,Y|?_]];apply fu (λ cc=>?_) (λ cc=>hR _ _ %[rfl,pt1|b1]);apply%[_,Y,_,_,Y,Y,_,Y,_,_,Y,Y,%[∅,∅|∅],p,_,Y,pt1,(by rw[e50];decide),(by rw[e50];decide)|λ r H2 r0 r1 pt2 b2=>%[_,_,Y,Y|q _ H2 ⋯ ?_ pt2 (b1.trans b2)]];rw[e50]at r1;lia
 rintro _ H1 ⟨rfl,pt1,b1⟩;apply%[_,Y,_,Y,zS3|λ l hl=>?_];apply aB hl λ H2 k2 s2=>?_;apply%[_,Y,p,3,Y,pt1.same s2,∅,∅|λ z H3 z0 z1 pt3 b3=>?_];have nl:l≠p:=λ e=>by obtain⟨_,_,_,_,_,h⟩:=pt1;rw[<- e,hl]at h;cases h
 have k3:=b3 _ _ nl k2;obtain⟨v,hv,v1,v8⟩:∃v:Int,([.int 2,.int 3,.int 8]:Ks V)[z.toNat]? = ⇑v/\1<=v/\v<=8:=by
  have:z=0\/z=1\/z=2:=⋯
  rcases this with rfl | rfl | rfl
  ·exact%[2,Y,∅|∅]
  ·exact%[3,Y,∅|∅]
  ·exact%[8,Y,∅|∅]
 apply%[l,_,z,_,Y,Y,IV k3,fV z0 hv,_,_,Y,p,_,Y,pt3,?_,?_|λ r H4 r0 r1 pt4 b4=>%[_,_,Y,Y|q _ H4 ⋯ ?_ pt4 ?_]]
 ·split <;> lia
 ·split <;> lia
 ·have:(if v < m then v else m)<=8:=by split <;> lia
  lia
 ·exactλ c o n e=>b4 _ _ n (b3 _ _ n (s2 _ _ (b1 _ _ n e)))
theorem scsblade:FnScope ["_law_pot_here"] ["_law_pot_here"] (defScope dz):=%[Y,Y,Y,∅,Y,∅|∅]
theorem sk {f:Ko} {fd:IQ} (F:Fun K "_law_small_blade" "_law_small_blade" dz f fd) (B:Blt mg) (DD:Dn P w K mg base "_law_draw" ["_law_pot_here","_law_many"] 1 (dX)):FnOk P w K mg base CX0 2 f fd ["_law_pot_here"] (jq):=by
 apply F.ok scsblade (λ vs H Q E h=>?_) (λ cdv A outer s H vs Q E hr h=>?_)
 ·obtain⟨p,rfl,_⟩:=h
  rfl
 obtain⟨p,rfl,pt,q⟩:=h;have nd:=scsblade.nd;apply%[_,(((@bW _ _ _ _ (ad^^^(ad^^^(ad^^^(ad^^^((DD∪((pv 0)^^^(ad^^^ab)))^^^((ad|||nu|||ad)^^^ab)))))))&&&bL&&&(DD∪((pv 0)^^^(ad^^^ab))))⁻¹)|?_];have e50:(10:Int) ^ (50:Int).toNat=10 ^ 50:=rfl;apply%[_,Y,p,9,Y,pt,∅,∅|λ y H1 y0 y1 pt1 b1=>?_];apply%[_,_,Y,Y,%[∅,∅|∅],zS6|λ l hl=>?_];rw[e50];apply aB hl λ H2 k2 s2=>?_;apply%[_,Y,p,6,Y,pt1.same s2,∅,∅|λ z H3 z0 z1 pt3 b3=>?_];have nl:l≠p:=λ e=>by obtain⟨_,_,_,_,_,h⟩:=pt1;rw[<- e,hl]at h;cases h
 have k3:=b3 _ _ nl k2;obtain⟨v,hv,v1,v8⟩:∃v:Int,([.int 0,.int 0,.int 1,.int 2,.int y,.int (10 ^ 50)]:Ks V)[z.toNat]? = ⇑v/\0<=v/\v < 10 ^ 60:=by
  have:z=0\/z=1\/z=2\/z=3\/z=4\/z=5:=⋯
  rcases this with rfl | rfl | rfl | rfl | rfl | rfl
  ·exact%[0,Y,∅|∅]
  ·exact%[0,Y,∅|∅]
  ·exact%[1,Y,∅|∅]
  ·exact%[2,Y,∅|∅]
  ·exact%[y,Y,y0|Int.lt_trans y1 ∅]
  ·exact%[10 ^ 50,Y,∅|∅]
 exact%[l,_,z,_,Y,Y,IV k3,fV z0 hv|q v H3 v1 v8 pt3 λ c o n e=>b3 _ _ n (s2 _ _ (b1 _ _ n e))]
end
def fM (ks:Ks Kd):Prop:=(∀k∈ks,Good k)/\(wsK ks).sum<=6
theorem oI {α β:Type} {R:α->β->Prop}:∀ (n:Nat) {xs:Ks α} {ys:Ks β},Paired R xs ys->Paired R (xs.drop n) (ys.drop n)
 | 0,_,_,h=>h
 | _+1,_,_,.nil=>.nil
 | n+1,_,_,.cons _ r=>oI n r
theorem kI {H H':Hp} {m a b:Ko} {o:HO} (h:(H'=H/\(m=a\/m=b))\/(H m=none/\H'=upd H m o)):Same H H':=by
 rcases h with⟨rfl,_⟩ | ⟨h,rfl⟩
 ·exact Same.refl _
 ·exact IT h
theorem oJ {l:Ks Int} {i j:Nat} {x:Int} (h:l[i]?=some x):(l.take (i+1)).eraseIdx j=if i=j then(l.take i).eraseIdx j else(l.take i).eraseIdx j ++ [x]:=by
 have hl:i < l.length:=(A7.mp h).1;have tl:(l.take i).length=i:=by rw[JJ];lia
 rw[JM,h,JS]
 by_cases c:i=j
 ·subst c;rw[Kz rfl,List.eraseIdx_append_of_length_le ⋯,tl,Nat.sub_self,show[x].eraseIdx 0=[]from rfl,JX,List.eraseIdx_of_length_le ⋯]
 ·rw[Ky c]
  by_cases c2:j < i
  ·rw[List.eraseIdx_append_of_lt_length ⋯]
  ·rw[List.eraseIdx_append_of_length_le ⋯,List.eraseIdx_of_length_le (by simp;lia),List.eraseIdx_of_length_le (l:=l.take i) ⋯]
section
variable {P:IP} {w:IR} {K:C6} {mg:Str->Kq IS} {base:Heap}
def lM:Sp:=λ vs H Q _=>∃ (p:Ko) (w h:Int) (n:Nat),vs=[.ref p,.int w,.int h,.int n]/\PotB H p/\1<=w/\w<=8/\1<=h/\h<=8/\n<=8 /\
 ∀ (kl:Ko) (rs:Ks V) (ks:Ks Kd) (H':Hp),kl≠p->H kl=none->H' kl=↥rs->Tups H' rs ks->fM ks->ks.length=n->PotB H' p->But p H H'->Q (.ref kl) H'
def lN:Sp:=λ vs H Q _=>∃ (p kl:Ko) (rs:Ks V) (ks:Ks Kd),vs=[.ref p,.ref kl]/\PotB H p/\kl≠p/\H kl=↥rs/\Tups H rs ks/\fM ks/\ks.length<=8 /\
 ∀ (kl':Ko) (rs':Ks V) (ks':Ks Kd) (H':Hp),kl'≠p->H' kl'=↥rs'->Tups H' rs' ks'->fM ks'->ks'.length=ks.length->PotB H' p->But p H H'->Q (.ref kl') H'
def im:Sp:=λ vs H Q _=>∃ (t u:Ko) (xs ys:Ks Int),vs=[.ref t,.ref u]/\H t= ~~~(bV xs)/\H u= ~~~(bV ys)/\xs.length=ys.length/\xs.length<=8/\∀H',Same H H'->Q (.bl (leB xs ys)) H'
theorem scshopk:FnScope ["_law_pot_here","_law_wide","_law_high","_law_many","_law_found","_law_left","_law_k","_law_wanted","_law_worth"] ["_law_pot_here","_law_wide","_law_high","_law_many"] (defScope dw):=%[Y,Y,Y,∅,Y,∅|∅]
theorem vy {f:Ko} {fd:IQ} (F:Fun K "_law_shop_kinds" "_law_shop_kinds" dw f fd) (B:Blt mg) (DD:Dn P w K mg base "_law_draw" ["_law_pot_here","_law_many"] 1 (dX)) (DSZ:Dn P w K mg base "_law_size" ["_law_pot_here","_law_most"] 2 (oH)):FnOk P w K mg base CX0 3 f fd ["_law_pot_here","_law_wide","_law_high","_law_many"] (lM):=by
 apply F.ok scshopk (λ vs H Q E h=>?_) (λ cdv A outer s H vs Q E hr h=>?_)
 ·obtain⟨p,w1,h1,n,rfl,_⟩:=h
  rfl
 obtain⟨p,w1,h1,n,rfl,pt,w0,w8,h0,h8,n8,q⟩:=h;have nd:=scshopk.nd;apply%[_,((4∣(@bW _ _ _ _ ab))<<<((5∣ad)<<<((@bv _ _ _ _ _ _ _ _ E6 Y (eU Y B.range ((pv 3)^^^ab)) (aj (i:=6) nd Y (Or.inl Y)) ((7∣(DD∩((pv 0)^^^(((@ak _ _ _ _ _ _ _ _ _ (cU Y) Y B.min LZ ((pv 5)^^^(((@bW _ _ _ _ (ad^^^(ad^^^(ad^^^(ad^^^ab)))))&&&bL&&&(DD∩((pv 0)^^^(ad^^^ab))))^^^ab)) ∅ ∅ Y Y)|||be|||ad)^^^ab))))<<<((5∣((pv 5)|||bN|||(pv 7)))<<<((8∣(DD∩((pv 0)^^^(ad^^^ab))))>>>(@bS _ _ _ _ (@gJ _ _ _ _ _ _ _ _ _ _ _ _ IM PySem.F.slot_list_append PySem.F.type_list_append cV (pv 4) ((@aG _ _ _ _ _ ((DSZ∪((pv 0)^^^((pv 1)^^^ab)))^^^((DSZ∪((pv 0)^^^((pv 2)^^^ab)))^^^((pv 8)^^^((pv 7)^^^((@bJ _ _ _ _ _ _ _ _ iA (DD∩((pv 0)^^^(ad^^^ab))) ad (aJ _))^^^ab))))))^^^ab) Y Y Y Y Y) Y)))) (by intro _;rfl))<<<((pv 4)⁻¹))))|?_];have z4:4096<=sizeLine:=∅
 apply aq (λ σ' H'=>∃fl:Ko,σ'=[↑p,⇑w1,⇑h1,⇑n,↑fl,none,none,none,none]/\H fl=none/\H' fl=↥[]/\Same H H') (λ R hR=>?_) ?_
 ·apply%[zS0|λ fl hfl=>?_];apply aB hfl λ H1 k1 s1=>?_;exact hR _ _ %[fl,rfl,hfl,k1|s1]
 rintro _ H1 ⟨fl,rfl,hfl,k1,s1⟩;have nfp:fl≠p:=λ e=>by obtain⟨_,_,_,_,_,h⟩:=pt;rw[<- e,hfl]at h;cases h
 apply aq (λ σ' H'=>σ'=[↑p,⇑w1,⇑h1,⇑n,↑fl,⇑6,none,none,none]/\H1=H') (λ R hR=>hR _ _ %[rfl|rfl]) ?_;rintro _ _ ⟨rfl,rfl⟩;apply aq (λ σ' H'=>∃ (v5 v6 v7 v8:Kq V) (rs:Ks V) (ks:Ks Kd),σ'=[↑p,⇑w1,⇑h1,⇑n,↑fl,v5,v6,v7,v8]/\H' fl=↥rs/\Tups H' rs ks/\fM ks/\ks.length=n/\PotB H' p/\But p H H') (λ R hR=>?_) ?_
 ·apply%[_,Y,_,Y,⋯,⋯|?_];rw[Ja];apply eW (lo:=0) (n:=n) (λ i σ' H'=>∃ (v6 v7 v8:Kq V) (rs:Ks V) (ks:Ks Kd),σ'=[↑p,⇑w1,⇑h1,⇑n,↑fl,⇑(6 - (wsK ks).sum),v6,v7,v8]/\H' fl=↥rs/\Tups H' rs ks/\fM ks/\ks.length=i/\PotB H' p/\But p H H') ⟨none,none,none,[],[],rfl,k1,.nil,⟨λ k h=>(by cases h),∅⟩,rfl,pt.same s1,Same.but s1⟩ ?_ ?_
  ·rintro i σ Hx hin ⟨v6,v7,v8,rs,ks,rfl,hfx,tp,⟨gk,w6⟩,kl,ptx,bx⟩;have ws0':=lH (ws0 (ks:=ks) λ k h=>(gk k h).wa);have rl:=E5 tp;apply aq (λ σ' H'=>∃y:Int,σ'=[↑p,⇑w1,⇑h1,⇑n,↑fl,⇑(6 - (wsK ks).sum),⇑(0+(i:Int)),⇑y,v8]/\0<=y/\y<=6 - (wsK ks).sum/\PotB H' p/\But p Hx H') (λ R hR=>?_) ?_
   ·apply%[_,Y,_,Y,zS4|λ l hl=>?_];apply aB hl λ H2 k2 s2=>?_;apply%[_,Y,p,4,Y,ptx.same s2,∅,∅|λ z H3 z0 z1 pt3 b3=>?_];have nl:l≠p:=λ e=>by obtain⟨_,_,_,_,_,h⟩:=ptx;rw[<- e,hl]at h;cases h
    have k3:=b3 _ _ nl k2;obtain⟨v,hv,v1,v6'⟩:∃v:Int,([.int 3,.int 3,.int 3,.int 6]:Ks V)[z.toNat]? = ⇑v/\0<=v/\v<=6:=by
     have:z=0\/z=1\/z=2\/z=3:=⋯
     rcases this with rfl | rfl | rfl | rfl
     ·exact%[3,Y,∅|∅]
     ·exact%[3,Y,∅|∅]
     ·exact%[3,Y,∅|∅]
     ·exact%[6,Y,∅|∅]
    apply%[l,_,z,_,Y,Y,IV k3,fV z0 hv,_,_,Y,_,_,Y,Y,p,_,Y,pt3,?_,?_|λ r H4 r0 r1 pt4 b4=>hR _ _ %[r,Y,r0,?_,pt4|?_]]
    ·split <;> lia
    ·have:(if v < 6 - (wsK ks).sum then v else 6 - (wsK ks).sum)<=6:=by split <;> lia
     lia
    ·have:(if v < 6 - (wsK ks).sum then v else 6 - (wsK ks).sum)<=6 - (wsK ks).sum:=by split <;> lia
     lia
    ·exactλ c o n e=>b4 _ _ n (b3 _ _ n (s2 _ _ e))
   rintro _ H2 ⟨y,rfl,y0,y1,pt2,b2⟩;apply aq (λ σ' H'=>σ'=[↑p,⇑w1,⇑h1,⇑n,↑fl,⇑(6 - (wsK ks).sum - y),⇑(0+(i:Int)),⇑y,v8]/\H2=H') (λ R hR=>%[_,Y,_,Y,_,_,Y,Y|hR _ _ %[Y|Y]]) ?_;rintro _ _ ⟨rfl,rfl⟩;apply aq (λ σ' H'=>∃o:Int,σ'=[↑p,⇑w1,⇑h1,⇑n,↑fl,⇑(6 - (wsK ks).sum - y),⇑(0+(i:Int)),⇑y,⇑o]/\0<=o/\o < 4/\PotB H' p/\But p H2 H') (λ R hR=>?_) ?_
   ·exact%[_,Y,p,4,Y,pt2,∅,∅|λ o H3 o0 o1 pt3 b3=>hR _ _ %[o,Y,o0,o1,pt3|b3]]
   rintro _ H3 ⟨o,rfl,o0,o1,pt3,b3⟩;have f3:H3 fl=↥rs:=b3 _ _ nfp (b2 _ _ nfp hfx);apply%[_,Y,.inl %[Y,_|IV f3],_,Y,_,Y,p,w1,Y,pt3,w0,w8|λ x H4 x0 x1 pt4 b4=>?_];apply%[_,Y,_,Y,p,h1,Y,pt4,h0,h8|λ u H5 u0 u1 pt5 b5=>?_];apply%[_,Y,_,Y,_,Y,p,2,Y,pt5,∅,∅|λ e H6 e0 e1 pt6 b6=>?_];apply%[Y,zS5|λ ta hta=>?_];obtain⟨kd,ekd⟩:∃kd:Kd,kd=%[x,u,o,y|decide (V.int e=V.int 1)]:=%[_|Y]
   apply aB hta λ H7 k7 s7=>?_;have bx7:But p Hx H7:=λ c o n e=>s7 _ _ (b6 _ _ n (b5 _ _ n (b4 _ _ n (b3 _ _ n (b2 _ _ n e)))));have f7:H7 fl=↥rs:=bx7 _ _ nfp hfx;apply%[fl,rs,_,Y,Y,f7,⋯,⇑(0+(i:Int)),⇑y,⇑o,rs ++ [.ref ta],ks ++ [kd],?_,ai,?_,%[?_|?_],?_,?_|?_]
   ·rw[show(wsK (ks ++ [kd])).sum=(wsK ks).sum+y by rw[wsK,JE,Ke,ekd];simp,show(6:Int) - ((wsK ks).sum+y)=6 - (wsK ks).sum - y by lia]
   ·have kt:∀b xs,Hx b= ~~~xs->(upd H7 fl (.lst (rs ++ [.ref ta]))) b= ~~~xs:=λ c xs e=>by rw[ah (λ z=>by rw[z,hfx]at e;cases e)];exact bx7 _ _ (λ z=>by obtain⟨_,_,_,_,_,h⟩:=ptx;rw[z,h]at e;cases e) e
    apply Paired.app (Tups.keep kt tp) (.cons %[ta,Y|?_] .nil);rw[ah (λ z=>by rw[z,f7]at k7;cases k7),k7,ekd]
    rfl
   ·intro k hk;rcases C4.mp hk with h | h
    ·exact gk k h
    ·rw[E4.mp h,ekd];have e60:(4:Int) < 10 ^ 60:=∅
     have e61:(7:Int) < 10 ^ 60:=∅
     exact%[x0,u0,o0,y0,x1,u1,Int.lt_trans o1 e60|Int.lt_of_le_of_lt (show y<=6 by lia) ∅]
   ·rw[wsK,JE,Ke,ekd];show(wsK ks).sum+(y+0)<=6;lia
   ·rw[JD,kl];rfl
   ·have pt7:=pt6.same s7;obtain⟨a1,a2,a3,a4,a5,h⟩:=pt7;exact%[a1,a2,a3,a4,a5|by rw[ah (Ne.symm nfp)];exact h]
   ·exactλ c o n e=>by rw[ah (ae e hfl)];exact bx7 _ _ n (bx _ _ n e)
  ·rintro σ Hx ⟨v6,v7,v8,rs,ks,rfl,h1,h2,h3,h4,h5,h6⟩;exact hR _ _ %[_,_,_,_,rs,ks,rfl,h1,h2,h3,h4,h5|h6]
 rintro _ H2 ⟨v5,v6,v7,v8,rs,ks,rfl,h1,h2,h3,h4,h5,h6⟩;exact%[_,Y|q fl rs ks H2 nfp hfl h1 h2 h3 h4 h5 h6]
theorem scalike:FnScope ["_law_pot_here","_law_kinds","_law_at","_law_spare","_law_other"] ["_law_pot_here","_law_kinds"] (defScope iZ):=%[Y,Y,Y,∅,Y,∅|∅]
theorem vz {f:Ko} {fd:IQ} (F:Fun K "_law_alike" "_law_alike" iZ f fd) (B:Blt mg) (DD:Dn P w K mg base "_law_draw" ["_law_pot_here","_law_many"] 1 (dX)):FnOk P w K mg base CX0 2 f fd ["_law_pot_here","_law_kinds"] (lN):=by
 apply F.ok scalike (λ vs H Q E h=>?_) (λ cdv A outer s H vs Q E hr h=>?_)
 ·obtain⟨p,kl,rs,ks,rfl,_⟩:=h
  rfl
 obtain⟨p,kl,rs,ks,rfl,pt,nkp,hkl,tp,⟨gk,w6⟩,k8,q⟩:=h;have nd:=scalike.nd;apply%[_,(((PW.pt (cF ((@ak _ _ _ _ _ _ _ _ _ aK Y B.len LI ((pv 1)^^^ab) ∅ ∅ Y Y)<*>pG<*>ad) (cG ((DD∪((pv 0)^^^(ad^^^ab)))<*>pG<*>ad))))<|>((pv 1)⁻¹)<|>aD)<<<((@aV _ _ 2 _ _ _ _ nd Y (Or.inr Y) (DD∪((pv 0)^^^(((@ak _ _ _ _ _ _ _ _ _ aK Y B.len LI ((pv 1)^^^ab) ∅ ∅ Y Y)|||bN|||ad)^^^ab))) Y (Or.inl Y))<<<((3∣(ad|||bN|||(@ak _ _ _ _ _ _ _ _ _ (qW Y) Y B.sum PyProof.Rows.boot_sum ((aX (own:=["_law_k","_law_kind"]) (cs:=["_law_at"]) (cap:=[2]) Y (gZ Y B.enumerate ((pv 1)^^^ab)) (ay (sc:=defScope iZ) (N:=["_law_pot_here","_law_kinds","_law_at","_law_spare","_law_other"]) Y Y ∅) (λ _ _ _ _ _=>fF K Y Y (by show List.Nodup (["_law_k","_law_kind","_law_at"]:Ks Str) ;decide +kernel) Y Y Y Y) (λ _ _ _ _ _=>(iI ((pv 0)<*>jH<*>((pv 2)|||be|||ad)))) (λ _ _ _ _ _=>(bf (r:=rIxT K) bD (pv 1) ad (λ _ _=>Y))))^^^ab) ∅ ∅ Y Y)))<<<((4∣(((@dC _ _ _ _ _ _ _ _ _ _ uh ((pv 1)&&&bL&&&(pv 2)) eX (eY ad))|||pT|||(@aG _ _ _ _ _ ((@ak _ _ _ _ _ _ _ _ _ (cU Y) Y B.min LZ ((((pv 1)&&&bL&&&(pv 2))&&&bD&&&ad)^^^((pv 3)^^^ab)) ∅ ∅ Y Y)^^^ab)))|||pT|||(@dC _ _ _ _ _ _ _ _ _ _ uh ((pv 1)&&&bL&&&(pv 2)) (eY ad) eX)))<<<((((@dC _ _ _ _ _ _ _ _ _ _ gX (pv 1) eX (eY ((pv 2)|||be|||ad)))|||iG|||(@bW _ _ _ _ ((pv 4)^^^ab)))|||iG|||(@dC _ _ _ _ _ _ _ _ _ _ gX (pv 1) (eY ((pv 2)|||be|||ad)) eX))⁻¹)))))|?_];have z4:4096<=sizeLine:=∅
 have rl:=E5 tp;apply aq (λ σ' H'=>σ'=[↑p,↑kl,none,none,none]/\2<=ks.length/\PotB H' p/\But p H H') (λ R hR=>?_) ?_
 ·apply%[_,Y,kl,_,Y,.inl (IV hkl),_,_,Y,Y,_,Y|?_];cases c1:decide ((rs.length:Int) < 2)with
  | true=>exact cQ (cQ %[_,rfl|q kl rs ks H nkp hkl tp %[gk|w6] rfl pt (Same.but (Same.refl _))])
  | false=>
   have c1':=of_decide_eq_false c1;apply aT %[_,rfl,p,8,rfl,pt,∅,∅|λ z H1 z0 z1 pt1 b1=>%[_,_,rfl,rfl,_,rfl|?_]];apply fu (λ c=>%[_,Y|q kl rs ks H1 nkp (b1 _ _ nkp hkl) ?_ %[gk|w6] rfl pt1 b1]) (λ c=>hR _ _ %[rfl,⋯,pt1|b1]);exact Tups.keep (λ c xs e=>b1 _ _ (λ z=>by obtain⟨_,_,_,_,_,h⟩:=pt;rw[z,h]at e;cases e) e) tp
 rintro _ H1 ⟨rfl,k2,pt1,b1⟩;have keepT:∀ {Ha Hb:Hp},PotB Ha p->But p Ha Hb->∀c xs,Ha c= ~~~xs->Hb c= ~~~xs:=λ pa bb c xs e=>bb _ _ (λ z=>by obtain⟨_,_,_,_,_,h⟩:=pa;rw[z,h]at e;cases e) e;apply aq (λ σ' H'=>∃i:Nat,σ'=[↑p,↑kl,⇑i,none,none]/\i+1 < ks.length/\PotB H' p/\But p H H') (λ R hR=>?_) ?_
 ·apply%[_,Y,_,Y,kl,_,Y,.inl (IV (b1 _ _ nkp hkl)),_,_,Y,Y,p,_,Y,pt1,⋯,⋯|λ z H2 z0 z1 pt2 b2=>?_];obtain⟨i,rfl⟩:∃i:Nat,z=i:=%[z.toNat|(Int.toNat_of_nonneg z0).symm]
  exact hR _ _ %[i,rfl,⋯,pt2|b1.trans b2]
 rintro _ H2 ⟨i,rfl,hi,pt2,b2⟩;have hk2:H2 kl=↥rs:=b2 _ _ nkp hkl;have tp2:Tups H2 rs ks:=Tups.keep (keepT pt b2) tp;obtain⟨k,hk⟩:∃k,ks[i]?=some k:=%[_|G2 ⋯]
 obtain⟨r,hr,ka,rfl,hka⟩:=Paired.getL tp2 hk;obtain⟨ns,ens⟩:∃ns,ns=(wsK ks).eraseIdx (i+1):=%[_|Y]
 have wl:(wsK ks).length=ks.length:=B5 _;apply aq (λ σ' H'=>σ'=[↑p,↑kl,⇑i,⇑(6 - ns.sum),none]/\Same H2 H') (λ R hR=>?_) ?_
 ·apply%[_,Y,kl,rs,Y|.inl %[hk2|rA (f:=HO.lst) (λ _ _ e=>by injection e) (λ j zs Hx=>Same H2 Hx/\zs=(((wsK ks).take j).eraseIdx (i+1)).map V.int) (λ j zs Hx ⟨sx,_⟩=>sx _ _ hk2) %[Same.refl _|Y] ?_ ?_ ?_]]
  ·rintro j zs Hx hj ⟨_,rfl⟩;rw[B5];have:=List.length_eraseIdx_le ((wsK ks).take j) (i+1);rw[JJ]at this;lia
  ·rintro j x pp zs Hx hj hpp ⟨sx,rfl⟩;have hjn:=(A7.mp hj).1;obtain⟨k',hk',ta,rfl,hta⟩:=IX tp2 hj;have hw:(wsK ks)[j]?=some k'.wa:=by rw[IY,hk'];rfl
   have es:=oJ (j:=i+1) hw;apply aB hpp λ H3 k3 s3=>?_;apply%[pp,_,Y,IU k3,Y,_,_,Y,_,_,Y,Y,ja (leS.set rfl) (leS.set rfl)|?_];apply%[_,Y,_,Y,_,_,Y,Y,Y,_,Y|?_];have cc:((j:Int)=(i:Int)+1)↔j=i+1:=⋯
   by_cases c:j=i+1
   ·rw[show(!decide (V.int (j:Int)=V.int ((i:Int)+1)))=false by rw[K1 (by rw[cc.mpr c])];rfl];apply aT (Nx.of hjn %[sx.trans s3|?_]);rw[es,Kz c]
   ·rw[show(!decide (V.int (j:Int)=V.int ((i:Int)+1)))=true by rw[K5 (λ z=>c (cc.mp (by injection z)))];rfl];apply cQ %[_,rfl,ta,_,3,_,rfl,rfl,IU (s3 _ _ (sx _ _ hta)),rfl|Nx.of hjn %[sx.trans s3|?_]];rw[es,Ky c,JE]
    rfl
  ·rintro zs Hx ⟨sx,rfl⟩;rw[rl,<- wl,Jb,<- ens];have nl:ns.length<=8:=by have:=List.length_eraseIdx_le (wsK ks) (i+1);rw[<- ens]at this;lia
   apply%[by rw[B5];lia|λ l hl=>?_];apply aB hl λ H3 k3 s3=>?_;exact%[l,ns,Y,IV k3,_,_,Y,Y|hR _ _ %[Y|sx.trans s3]]
 rintro _ H3 ⟨rfl,s3⟩;have hk3:=s3 _ _ hk2;have hka3:=s3 _ _ hka;have g0:=gk k (B7 hk);have wn:(wsK ks)[i+1]?=some (ks[i+1]'hi).wa:=by rw[IY,G2 hi];rfl
 have e2:ns.sum=((wsK ks).take (i+1)).sum+((wsK ks).drop (i+2)).sum:=by rw[ens,List.eraseIdx_eq_take_drop_succ,Ke]
 have e3:(wsK ks).sum=((wsK ks).take (i+1)).sum+(ks[i+1]'hi).wa+((wsK ks).drop (i+2)).sum:=by
  have:=List.take_append_drop (i+1) (wsK ks);rw[Jo (by rw[wl];exact hi)]at this;rw[<- this,Ke,Kf,List.take_left' (by rw[JJ];lia),show∀ (a:Ks Int) (x:Int) (r:Ks Int),a.length=i+1->(a ++ x :: r).drop (i+2)=r fromλ a x r h=>by rw[List.drop_append,h];simp[h]]
  ·simp only[KF];lia
  ·rw[JJ];lia
 have gn:=(gk _ (KU hi)).wa;obtain⟨mw,emw⟩:∃mw:Int,mw=(if 6 - ns.sum < k.wa then 6 - ns.sum else k.wa):=%[_|Y]
 have mw0:0<=mw/\mw<=k.wa/\mw<=6 - ns.sum:=by have:=g0.wa;rw[emw];split <;> lia
 obtain⟨k',ek'⟩:∃k':Kd,k'=%[k.w,k.h,k.wo,mw|k.tu]:=%[_|Y]
 apply aq (λ σ' H'=>∃o:Ko,σ'=[↑p,↑kl,⇑i,⇑(6 - ns.sum),↑o]/\H' o= ~~~(kdV k')/\Same H3 H') (λ R hR=>?_) ?_
 ·apply%[_,Y,_,Y,kl,_,_,_,Y,Y,IV hk3,fQ hr,_,Y,ka,_,Y,IU hka3,(by show¬ (HT.sIx 5 0 none=0/\HT.sIx 5 5 (some 3)=5);decide)|λ t1 ht1=>?_];rw[show gR (kdV k) none (some 3)=[.int k.w,.int k.h,.int k.wo]from rfl];apply aB ht1 λ H4 k4 s4=>?_;apply%[_,Y,_,Y,kl,_,_,_,Y,Y,IV (s4 _ _ hk3),fQ hr,ka,_,3,_,Y,Y,IU (s4 _ _ hka3),Y,_,Y,k.wa,_,Y|?_];rw[<- emw];apply%[zS1|λ t2 ht2=>?_];apply aB ht2 λ H5 k5 s5=>?_;apply%[t1,t2,_,_,Y,Y,s5 _ _ k4,k5,zS4|λ t3 H6 d6 h6=>?_];have s6:=kI d6;have s36:=(s4.trans s5).trans s6;apply%[_,Y,_,Y,kl,_,_,_,Y,Y,IV (s36 _ _ hk3),fQ hr,_,Y,ka,_,Y,IU (s36 _ _ hka3),(by show¬ (HT.sIx 5 0 (some 4)=0/\HT.sIx 5 5 none=5);decide)|λ t4 ht4=>?_];rw[show gR (kdV k) (some 4) none=[.bl k.tu]from rfl];apply aB ht4 λ H7 k7 s7=>?_;apply%[t3,t4,_,_,Y,Y,s7 _ _ h6,k7,zS5|λ t5 H8 d8 h8=>?_];apply hR _ _ %[t5,rfl,?_|(s36.trans s7).trans (kI d8)];rw[h8,ek']
  rfl
 rintro _ H4 ⟨o,rfl,ho,s4⟩;have s24:=s3.trans s4;have hk4:=s24 _ _ hk2;apply%[_,Y,_,Y,_,_,Y,Y,_,Y,kl,_,Y,IV hk4|λ l1 hl1=>?_];rw[show((i:Int)+1)=((i+1:Nat):Int)from rfl,jP];apply aB hl1 λ H5 k5 s5=>?_;apply%[_,Y,zS1|λ l2 hl2=>?_];apply aB hl2 λ H6 k6 s6=>?_;apply%[l1,l2,_,_,Y,Y,s6 _ _ k5,k6,by rw[JJ];simp;lia|λ l3 hl3=>?_];apply aB hl3 λ H7 k7 s7=>?_;have s47:=(s5.trans s6).trans s7;apply%[_,Y,_,Y,_,_,Y,Y,_,Y,kl,_,Y,IV (s47 _ _ hk4)|λ l4 hl4=>?_];rw[show((i:Int)+2)=((i+2:Nat):Int)from rfl,jR];apply aB hl4 λ H8 kk8 s8=>?_;apply%[l3,l4,_,_,Y,Y,s8 _ _ k7,kk8,by rw[JD,JJ,Jy];simp;lia|λ l5 hl5=>?_];apply aB hl5 λ H9 k9 s9=>?_;have s49:=(s47.trans s8).trans s9;have s29:=s24.trans s49;have pt9:=pt2.same s29;apply q l5 _ (ks.take (i+1) ++ [k'] ++ ks.drop (i+2)) H9 (λ e=>by obtain⟨_,_,_,_,_,h⟩:=pt2;rw[<- e,s24.free (s47.free (s8.free hl5))]at h;cases h) k9 ?_ ⟨λ k0 hk0=>?_,?_⟩ ?_ pt9 (λ c o n e=>s29 _ _ (b2 _ _ n e))
 ·have tp9:Tups H9 rs ks:=Tups.keep (λ c xs e=>s29 _ _ e) tp2;exact Paired.app (Paired.app (Paired.takeP _ tp9) (.cons %[o,Y|s49 _ _ ho] .nil)) (oI _ tp9)
 ·rcases C4.mp hk0 with h | h
  ·rcases C4.mp h with h | h
   ·exact gk _ (KQ h)
   ·rw[E4.mp h,ek'];exact%[g0.w,g0.h,g0.wo,mw0.1,g0.w',g0.h',g0.wo'|Int.lt_of_le_of_lt mw0.2.1 g0.wa']
  ·exact gk _ (List.mem_of_mem_drop h)
 ·have:(wsK (ks.take (i+1) ++ [k'] ++ ks.drop (i+2))).sum=((wsK ks).take (i+1)).sum+(mw+0)+((wsK ks).drop (i+2)).sum:=by
   rw[wsK,JE,JE,Ke,Ke,List.map_take,List.map_drop,ek']
   rfl
  lia
 ·rw[JD,JD,JJ,Jy];simp;lia
theorem sclessb:FnScope ["_law_one","_law_other"] ["_law_one","_law_other"] (defScope mP):=%[Y,Y,Y,∅,Y,∅|∅]
theorem vA {f:Ko} {fd:IQ} (F:Fun K "_law_less" "_law_less" mP f fd) (B:Blt mg):FnOk P w K mg base CX0 1 f fd ["_law_one","_law_other"] (im):=by
 apply F.ok sclessb (λ vs H Q E h=>?_) (λ cdv A outer s H vs Q E hr h=>?_)
 ·obtain⟨t,u,xs,ys,rfl,_⟩:=h
  rfl
 obtain⟨t,u,xs,ys,rfl,ht,hu',e1,l8,q⟩:=h;have nd:=sclessb.nd;apply%[_,((@ak _ _ _ _ _ _ _ _ _ (fb Y) Y B.all PyProof.Rows.boot_all ((aX (own:=["_law_few","_law_many"]) (cs:=[]) (cap:=[]) Y (mM Y B.zip ((pv 0)^^^((pv 1)^^^ab))) (ay (sc:=defScope mP) (N:=["_law_one","_law_other"]) Y Y ∅) (λ _ _ _ _ _=>fF K Y Y (by show List.Nodup (["_law_few","_law_many"]:Ks Str) ;decide +kernel) Y Y Y Y) (λ _ _ _ _ _=>aE) (λ _ _ _ _ _=>(@bJ _ _ _ _ _ _ _ _ gH (pv 0) (pv 1) (aJ _))))^^^ab) ∅ ∅ Y Y)⁻¹)|?_];have l1:(bV xs).length=xs.length:=B5 _;have l2:(bV ys).length=ys.length:=B5 _;have sz:(40000:Nat)<=sizeLine:=∅
 have cmp:∀i,i < xs.length->((xs.zip ys).take (i+1)).map (λ p:Int×Int=>decide (p.1<=p.2))=((xs.zip ys).take i).map (λ p:Int×Int=>decide (p.1<=p.2)) ++ [decide ((xs[i]?).getD 0<=(ys[i]?).getD 0)]:=λ i hi=>by
  have hz:(xs.zip ys)[i]?=some (xs[i],ys[i]'⋯):=by rw[KJ];exact%[G2 hi|G2 ⋯]
  rw[JM,hz,G2 hi,G2 (show i < ys.length by lia)];simp
 apply%[_,Y,_,Y,t,u,_,_,Y,ht,hu'|iX (xs:=bV xs) (ys:=bV ys) (λ i us Hx=>Same H Hx/\us=(((xs.zip ys).take i).map (λ p:Int×Int=>decide (p.1<=p.2))).map V.bl) ⋯ (λ i us Hx ⟨sx,_⟩=>%[sx _ _ ht|sx _ _ hu']) %[Same.refl _|Y] (λ i us Hx hi ⟨_,e⟩=>by rw[e,B5,B5,JJ];lia) ?_ ?_]
 ·rintro i x y p us Hx hx hy hp ⟨sx,rfl⟩;have hin:i < (bV xs).length:=(A7.mp hx).1;obtain⟨x',hx',rfl⟩:=JI.mp (show Option.map V.int xs[i]?=some x by rw[<- IY];exact hx);obtain⟨y',hy',rfl⟩:=JI.mp (show Option.map V.int ys[i]?=some y by rw[<- IY];exact hy);have s1:=IT hp (o:=.tup [.int x',.int y']);apply%[p,_,Y,IU ai,Y,_,_,Y,_,_,Y,Y,ja (leS.set rfl) (leS.set rfl)|aF ?_];apply%[_,Y,_,Y,_,_,Y,Y|Nx.of hin %[sx.trans s1|?_]];rw[cmp i ⋯,hx',hy',JE]
  rfl
 ·rintro us Hx ⟨sx,rfl⟩;rw[l1,JK (by rw[List.length_zip];lia)];apply%[by rw[B5,B5,List.length_zip];lia|λ cl hcl=>?_];apply%[cl,_,Y,IV ai|?_];have:=q _ (sx.trans (IT hcl (o:=.lst (((xs.zip ys).map (λ p:Int×Int=>decide (p.1<=p.2))).map V.bl))));unfold leB at this;rw[List.all_map];exact this
end
def bsD (bs:Ks (Ks Int)):Ks PyData:=bs.map λ b=>.tuple (b.map PyData.int)
theorem qw (ns:Ks Int):PyData.canLayAll0 (ns.map PyData.int)=true/\PyData.depthAll (ns.map PyData.int)=0:=by
 induction ns with
 | nil=>exact%[Y|Y]
 | cons n r ih=>
  obtain⟨i1,i2⟩:=ih;apply%[by rw[JA,PyData.canLayAll0,i1];rfl|?_];rw[JA,PyData.depthAll,i2]
  rfl
theorem xR (bs:Ks (Ks Int)):PyData.canLayAll0 (bsD bs)=true/\PyData.depthAll (bsD bs)<=1:=by
 induction bs with
 | nil=>exact%[Y|∅]
 | cons b r ih=>
  obtain⟨i1,i2⟩:=ih;obtain⟨j1,j2⟩:=qw b;have e:bsD (b :: r)=.tuple (b.map PyData.int) :: bsD r:=rfl;apply%[by rw[e,PyData.canLayAll0,PyData.canLay0,j1,i1];rfl|?_];rw[e,PyData.depthAll,PyData.depth,j2];lia
theorem eA (bs:Ks (Ks Int)):SeqAt.shaped (.list (bsD bs))=true:=by obtain⟨i1,i2⟩:=xR bs;unfold SeqAt.shaped;rw[PyData.canLay0,i1,PyData.depth];simp only[Bool.true_and,LV];lia
theorem gq {K:C6} {H:Hp} {as:Ks Ko} {bs:Ks (Ks Int)} (h:BsA H as bs):DatVs K H (as.map V.ref) (bsD bs):=by
 induction h with
 | nil=>exact .nil
 | cons x _ ih=>exact .cons (.tup (IU x) (uA _)) ih
theorem mX:∀a b:Ks (Ks Int),PyData.eqvAll (bsD a) (bsD b)=decide (a=b)
 | [],[]=>rfl
 | [],_ :: _=>rfl
 | _ :: _,[]=>rfl
 | x :: a,y :: b=>by have h:PyData.eqvAll (bsD (x :: a)) (bsD (y :: b))=(PyData.eqv (.tuple (x.map PyData.int)) (.tuple (y.map PyData.int)) && PyData.eqvAll (bsD a) (bsD b)):=rfl;rw[h,mX a b,xP];simp
theorem qx (a b:Ks (Ks Int)):PyData.eqv (.list (bsD a)) (.list (bsD b))=decide (a=b):=by rw[<- mX a b];simp[PyData.eqv]
section
variable {P:IP} {w:IR} {K:C6} {mg:Str->Kq IS} {base:Heap}
def jr:Sp:=λ vs H Q _=>∃ (l kl:Ko) (as:Ks Ko) (bs:Ks (Ks Int)) (rs:Ks V) (ks:Ks Kd),vs=[.ref l,.ref kl]/\H l=↥(as.map V.ref)/\BsA H as bs/\bs≠[]/\bs.length<=64/\bs.Pairwise (λ x y=>bg y x=false)/\(∀b∈bs,InB (wsK ks) b)/\bs.Nodup/\(∀a∈bs,∀b∈bs,a≠b->leB a b=false) /\
 H kl=↥rs/\Tups H rs ks/\1<=ks.length/\ks.length<=8/\∀H',Same H H'->Q (.bl true) H'
def sn (b w h:Int) (H:Hp) (v:V) (x:Bool×Int):Prop:=∃q t1 t2,v=.ref q/\H q= ~~~[.ref t1,.ref t2]/\H t1= ~~~[.int (cI w h x).1,.int (cI w h x).2]/\H t2= ~~~[.int (cB b w h x).1,.int (cB b w h x).2]
def lO:Sp:=λ vs H Q _=>∃ (b w h:Int),vs=[.int b,.int w,.int h]/\w<=8/\h<=8/\0<=b/\b < 10 ^ 60/\∀ (l:Ko) (ys:Ks V) (H':Hp),H l=none->H' l=↥ys->Paired (sn b w h H') ys (aY b w h)->Same H H'->Q (.ref l) H'
theorem scislist:FnScope ["_law_found","_law_kinds","_law_bundle","_law_many","_law_kind","_law_k"] ["_law_found","_law_kinds"] (defScope gf):=%[Y,Y,Y,∅,Y,∅|∅]
theorem sw {f:Ko} {fd:IQ} (F:Fun K "_law_is_list" "_law_is_list" gf f fd) (B:Blt mg) (han:mg "any" = none) (DLS:Dn P w K mg base "_law_less" ["_law_one","_law_other"] 1 (im)):FnOk P w K mg base CX0 2 f fd ["_law_found","_law_kinds"] (jr):=by
 apply F.ok scislist (λ vs H Q E h=>?_) (λ cdv A outer s H vs Q E hr h=>?_)
 ·obtain⟨l,kl,as,bs,rs,ks,rfl,_⟩:=h
  rfl
 obtain⟨l,kl,as,bs,rs,ks,rfl,hl,pb,bn,b64,bsrt,bin,bnd,banti,hkl,tp,k1,k8,q⟩:=h;have nd:=scislist.nd;have hu:=hr.units;apply%[_,(((PW.pt (cF (@aU _ _ _ _ (@aM _ _ _ (@ak _ _ _ _ _ _ _ _ _ bu Y B.isi K7 ((pv 0)^^^((cJ (v:=.ty "list") Y B.list Lj Y)^^^ab)) ∅ ∅ Y Y) (by intro _;rfl))) (cF ((pv 0)<*>(yj hu)<*>(@bW _ _ _ _ ab)) (cG ((pv 0)<*>(um hu)<*>(@ak _ _ _ _ _ _ _ _ _ lB Y B.sorted Ls ((pv 0)^^^ab) ∅ ∅ Y Y))))))<|>(cD⁻¹)<|>aD)<<<((@bv _ _ _ _ _ _ _ _ E6 Y (aW (pv 0)) (aj (i:=2) nd Y (Or.inr Y)) (((PW.pt (cF (@aU _ _ _ _ (@aM _ _ _ (@ak _ _ _ _ _ _ _ _ _ bu Y B.isi K7 ((pv 2)^^^((cJ (v:=.ty "tuple") Y B.tuple K8 Y)^^^ab)) ∅ ∅ Y Y) (by intro _;rfl))) (cG ((@ak _ _ _ _ _ _ _ _ _ aK Y B.len LI ((pv 2)^^^ab) ∅ ∅ Y Y)<*>jH<*>(@ak _ _ _ _ _ _ _ _ _ aK Y B.len LI ((pv 1)^^^ab) ∅ ∅ Y Y)))))<|>(cD⁻¹)<|>aD)>>>(@bv _ _ _ _ _ _ _ _ E6 Y (wK Y B.zip ((pv 2)^^^((pv 1)^^^ab))) (bU Y (3•(4•bp))) (@ag _ _ _ ((PW.pt (cF (@aU _ _ _ _ (@aM _ _ _ (@ak _ _ _ _ _ _ _ _ _ bu Y B.isi K7 ((pv 3)^^^((cJ (v:=.ty "int") Y B.int PyProof.Rows.boot_int Y)^^^ab)) ∅ ∅ Y Y) (by intro _;rfl))) (cF (@aM _ _ _ (@ak _ _ _ _ _ _ _ _ _ bu Y B.isi K7 ((pv 3)^^^((cJ (v:=.ty "bool") Y B.bool PyProof.Rows.boot_bool Y)^^^ab)) ∅ ∅ Y Y) (by intro _;rfl)) (cF ((pv 3)<*>pG<*>ad) (cG ((pv 3)<*>iB<*>((pv 4)&&&bD&&&ad)))))))<|>(cD⁻¹)<|>aD)) (by intro _;rfl))) (by intro _;rfl))<<<((@bv _ _ _ _ _ _ _ _ E6 Y (gZ Y B.enumerate ((pv 0)^^^ab)) (bU Y (5•(am (aj (i:=2) nd Y (Or.inr Y)) bp))) (@ag _ _ _ ((@aM _ _ _ (@ak _ _ _ _ _ _ _ _ _ (fj Y) Y han PyProof.Rows.boot_any ((aX (own:=["_law_other"]) (cs:=["_law_bundle"]) (cap:=[2]) Y (aW ((@dC _ _ _ _ _ _ _ _ _ _ gX (pv 0) eX (eY (pv 5)))|||iG|||(@dC _ _ _ _ _ _ _ _ _ _ gX (pv 0) (eY ((pv 5)|||be|||ad)) eX))) (ay (sc:=defScope gf) (N:=["_law_found","_law_kinds","_law_bundle","_law_many","_law_kind","_law_k"]) Y Y ∅) (λ _ _ _ _ _=>aj (i:=0) (by show List.Nodup (["_law_other","_law_bundle"]:Ks Str) ;decide +kernel) Y (Or.inl Y) (Or.inr Y)) (λ _ _ _ _ _=>aE) (λ _ _ _ _ _=>(DLS∪((pv 1)^^^((pv 0)^^^ab)))))^^^ab) ∅ ∅ Y Y) (by intro _;rfl))<|>(cD⁻¹)<|>aD)) (by intro _;rfl))<<<(cD⁻¹))))|?_];have z4:4096<=sizeLine:=∅
 have al:=E5 pb;have rl:=E5 tp;have wl:(wsK ks).length=ks.length:=B5 _;apply aq (λ σ' H'=>σ'=[↑l,↑kl,none,none,none,none]/\Same H H') (λ R hR=>?_) ?_
 ·apply%[_,Y,_,_,_,_,_,Y,.lst hl,Y,Y,_,Y|aT ?_];apply%[_,Y,zS0|λ e he=>?_];apply aB he λ H1 k1 s1=>?_;have hl1:=s1 _ _ hl;have pb1:BsA H1 as bs:=pb.keep (Same.tps s1);apply%[_,_,.lst (IV hl1) (gq pb1),.lst (IV k1) .nil,eA bs,Y,_,Y|?_];rw[show PyData.eqv (.list (bsD bs)) (.list [])=false by rw[show([]:Ks PyData)=bsD []from rfl,qx];exact K5 bn];apply aT ?_;obtain⟨sh,esh⟩:∃sh,sh=List.replicate ks.length false:=%[_|Y]
  have fit:∀a b,H1 a= ~~~(bV b)->b∈bs->eP H1 sh a=b/\eM sh (bV b)=some b:=λ a b h m=>by
   have f:eM sh (bV b)=some b:=by rw[esh,<- wl,<- (bin b m).1];exact jk b
   exact%[qd h f|f]
  have kas:∀ (as:Ks Ko) (cs:Ks (Ks Int)),(∀b∈cs,b∈bs)->BsA H1 as cs->as.map (eP H1 sh)=cs:=λ as cs hm h=>by
   induction h with
   | nil=>rfl
   | cons x _ ih=>rw[JA,(fit _ _ x (hm _ B9)).1,ih λ b hb=>hm b (B6 _ hb)]
  have kbs:=kas as bs (λ _ h=>h) pb1;have kat:∀a∈as,∃b∈bs,H1 a= ~~~(bV b):=λ a ha=>by obtain⟨i,hi⟩:=JZ.mp ha;obtain⟨b,hb,h⟩:=IX pb1 hi;exact%[b,B7 hb|h]
  apply%[_,Y,_,Y,l,as,sh,eP H1 sh,Y,IV hl1,⋯,?_,?_|λ so as' hso pa ps=>?_]
  ·obtain⟨m,hm⟩:∃m,ks.length=m+1:=%[ks.length - 1|⋯]
   rw[esh,hm];rfl
  ·intro a ha;obtain⟨b,mb,h⟩:=kat a ha;exact%[_,IU h|by rw[(fit a b h mb).1];exact(fit a b h mb).2]
  have pm:(as'.map (eP H1 sh)).Perm bs:=by rw[<- kbs];exact pa.map _
  have eb:as'.map (eP H1 sh)=bs:=List.Perm.eq_of_pairwise (le:=λ x y=>bg y x=false) (λ a b _ _ a1 a2=>cW _ _ a2 a1) ps bsrt pm;have pb':BsA H1 as' bs:=by
   have:∀zs:Ks Ko,(∀a∈zs,a∈as)->BsA H1 zs (zs.map (eP H1 sh)):=λ zs=>by
    induction zs with
    | nil=>intro _;exact .nil
    | cons z zs ih=>
     intro hz;apply .cons ?_ (ih λ a ha=>hz a (B6 _ ha));obtain⟨b,mb,h⟩:=kat z (hz z B9);rw[(fit z b h mb).1];exact h
   have:=this as' (λ a ha=>pa.mem_iff.mp ha);rwa [eb]at this
  apply aB hso λ H2 k2 s2=>?_;apply%[_,_,.lst (IV (s2 _ _ hl1)) (gq (pb1.keep (Same.tps s2))),.lst (IV k2) (gq (pb'.keep (Same.tps s2))),eA bs,eA bs,_,Y|?_];rw[qx,K1 rfl];exact aT (hR _ _ %[rfl|s1.trans s2])
 rintro _ H1 ⟨rfl,s1⟩;apply aq (λ σ' H'=>∃v2 v3 v4:Kq V,σ'=[↑l,↑kl,v2,v3,v4,none]/\Same H H') (λ R hR=>?_) ?_
 ·apply%[_,Y,l,Y,%[_|IV (s1 _ _ hl)]|cr (xs:=as.map V.ref) (λ i σ' H'=>∃v2 v3 v4:Kq V,σ'=[↑l,↑kl,v2,v3,v4,none]/\Same H H') %[none,none,none,Y|s1] (λ i σ Hx _ ⟨_,_,_,_,sx⟩=>IV (sx _ _ hl)) ?_ (λ σ Hx h=>hR _ _ h)];rintro i x σ Hx hi ⟨v2,v3,v4,rfl,sx⟩;rw[IY]at hi;obtain⟨c,hc,rfl⟩:=JI.mp hi;obtain⟨b,hb,hcb⟩:=IX pb hc;have ib:=bin b (B7 hb);have hcx:=sx _ _ hcb;have hkx:=sx _ _ hkl;have bl:(bV b).length=rs.length:=by rw[bV,B5,ib.1,wl,rl]
  apply aq (λ σ' H'=>σ'=[↑l,↑kl,↑c,v3,v4,none]/\Hx=H') (λ R hR=>?_) ?_
  ·apply%[_,Y,_,_,_,_,_,Y,.tup hcx,Y,Y,_,Y|aT ?_];apply%[_,Y,c,_,Y,.inr (IU hcx),_,Y,kl,_,Y,.inl (IV hkx),Y,_,Y|?_];rw[bl,show(!decide (V.int (rs.length:Int)=V.int (rs.length:Int)))=false by rw[K1 rfl];rfl];exact aT (hR _ _ %[rfl|rfl])
  rintro _ _ ⟨rfl,rfl⟩;apply%[_,Y,_,Y,c,kl,_,_,Y,hcx,hkx|uV (xs:=bV b) (ys:=rs) (λ j σ' H'=>∃v3 v4:Kq V,σ'=[↑l,↑kl,↑c,v3,v4,none]/\Same Hx H') bl %[v3,v4,Y|Same.refl _] (λ j σ H' ⟨_,_,_,sy⟩=>%[sy _ _ hcx|sy _ _ hkx]) ?_ (λ σ H' ⟨v3,v4,e,sy⟩=>%[_,v3,v4,e|sx.trans sy])];rintro j x y pp σ Hy hx hy hpp ⟨v3,v4,rfl,sy⟩;obtain⟨m,hm,rfl⟩:=JI.mp (show Option.map V.int b[j]?=some x by rw[<- IY];exact hx);obtain⟨k,hk,ka,rfl,hka⟩:=IX tp hy;have m0:=ib.2.2 m (B7 hm);have m1:=(ii ib.1).mp ib.2.1 j m k.wa hm (by rw[IY,hk];rfl);apply aB hpp λ H3 k3 s3=>?_;apply%[pp,_,Y,IU k3,Y,_,_,Y,_,_,Y,Y|?_];apply%[_,Y,_,_,_,_,_,Y,.int m,Y,Y,_,Y|aT ?_];apply%[_,Y,_,_,_,_,_,Y,.int m,Y,Y,_,Y|aT ?_];apply%[_,Y,_,_,Y,Y,_,Y|?_];rw[K5 ⋯];apply aT %[_,rfl,_,rfl,ka,_,3,_,rfl,rfl,IU (s3 _ _ (sy _ _ (sx _ _ hka))),rfl,_,_,rfl,rfl,_,rfl|?_];rw[K5 ⋯];exact aT %[_,_,rfl|sy.trans s3]
 rintro _ H2 ⟨v2,v3,v4,rfl,s2⟩;apply aq (λ σ' H'=>∃v2 v5:Kq V,σ'=[↑l,↑kl,v2,v3,v4,v5]/\Same H H') (λ R hR=>?_) ?_
 ·apply%[_,Y,l,as.map V.ref,Y|.inl %[s2 _ _ hl|iM (f:=HO.lst) (λ _ _ e=>by injection e) (λ i σ' H'=>∃v2 v5:Kq V,σ'=[↑l,↑kl,v2,v3,v4,v5]/\Same H H') %[v2,none,Y|s2] (λ i σ H' ⟨_,_,_,sx⟩=>sx _ _ hl) ?_ (λ σ Hx h=>hR _ _ h)]];rintro i x pp σ Hx hi hpp ⟨v2,v5,rfl,sx⟩;rw[IY]at hi;obtain⟨c,hc,rfl⟩:=JI.mp hi;obtain⟨b,hb,hcb⟩:=IX pb hc;have hin:i < bs.length:=(A7.mp hb).1;apply aB hpp λ H3 k3 s3=>?_;have s03:=sx.trans s3;apply%[pp,_,Y,IU k3,Y,_,_,Y,_,_,Y,Y|?_];apply%[_,Y,_,Y,_,Y,l,_,Y,IV (s03 _ _ hl)|λ l1 hl1=>?_];rw[jP];apply aB hl1 λ H4 k4 s4=>?_;apply%[_,Y,_,Y,_,_,Y,Y,_,Y,l,_,Y,IV (s4 _ _ (s03 _ _ hl))|λ l2 hl2=>?_];rw[show((i:Int)+1)=((i+1:Nat):Int)from rfl,jR];apply aB hl2 λ H5 k5 s5=>?_;apply%[l1,l2,_,_,Y,Y,s5 _ _ k4,k5,by rw[JJ,Jy,B5];lia|λ l3 hl3=>?_];rw[<- List.map_take,<- List.map_drop,<- JE];apply aB hl3 λ H6 k6 s6=>?_;have s06:=((s03.trans s4).trans s5).trans s6;have po:BsA H6 (as.take i ++ as.drop (i+1)) (bs.take i ++ bs.drop (i+1)):=by have p6:=pb.keep (Same.tps s06);exact Paired.app (Paired.takeP _ p6) (oI _ p6)
  have ol:=E5 po;have ol2:(bs.take i ++ bs.drop (i+1)).length<=64:=by rw[JD,JJ,Jy];lia
  have nole:∀d∈bs.take i ++ bs.drop (i+1),d.length=b.length/\leB b d=false:=λ d hd=>by
   have hd':d∈bs:=(C4.mp hd).elim KQ List.mem_of_mem_drop;apply%[by rw[(bin d hd').1,(bin b (B7 hb)).1]|banti b (B7 hb) d hd' λ e=>?_];subst e;have hbb:=(A7.mp hb).2;rcases C4.mp hd with h | h
   ·obtain⟨k,hk1,hk2⟩:=KA h;rw[List.getElem_take]at hk2;rw[JJ]at hk1;have:=(KD (h₀:=show k < bs.length by lia) (h₁:=hin) bnd).mp (hk2.trans hbb.symm);lia
   ·obtain⟨k,hk1,hk2⟩:=KA h;rw[List.getElem_drop]at hk2;rw[Jy]at hk1;have:=(KD (h₀:=show i+1+k < bs.length by lia) (h₁:=hin) bnd).mp (hk2.trans hbb.symm);lia
  apply%[l3,Y,%[_|IV k6]|(bA (K:=K) (.inl k6) (λ j us Hy=>Same H6 Hy/\us=(List.replicate j false).map V.bl) (λ j us Hy _ ⟨sy,_⟩ o e=>sy _ _ e) %[Same.refl _|Y] ?_ ?_).1 k6]
  ·rintro j x us Hy hj ⟨sy,rfl⟩;have hjn:=(A7.mp hj).1;have hjl:j < (as.take i ++ as.drop (i+1)).length:=by rw[B5]at hjn;exact hjn
   rw[IY]at hj;obtain⟨o,ho,rfl⟩:=JI.mp hj;obtain⟨d,hd,hod⟩:=IX po ho;obtain⟨dl,dn⟩:=nole d (B7 hd);have ib:=bin b (B7 hb);apply%[by rw[B5,JT];lia,leS.set rfl|aF %[_,Y,_,Y,c,o,b,d,Y,sy _ _ (s06 _ _ hcb),sy _ _ hod,dl.symm,by rw[ib.1,wl];exact k8|λ H' s'=>Nx.of hjn %[sy.trans s'|?_]]];rw[dn,List.replicate_succ',JE];rfl
  ·rintro us Hy ⟨sy,rfl⟩;apply%[by rw[B5,JT,B5];lia|λ pl hpl=>%[pl,_,Y,IV ai,_,Y|?_]];rw[show(List.replicate (List.map V.ref (as.take i ++ as.drop (i+1))).length false).any id=false by rw[List.any_eq_false];intro x hx;rw[(KZ.mp hx).2];decide];exact aT %[_,_,rfl|s06.trans (sy.trans (IT hpl))]
 rintro _ H3 ⟨v2,v5,rfl,s3⟩;exact q H3 s3
theorem sccutsl:FnScope ["_law_blade","_law_wide","_law_high","_law_found"] ["_law_blade","_law_wide","_law_high"] (defScope kr):=%[Y,Y,Y,∅,Y,∅|∅]
theorem vB {f:Ko} {fd:IQ} (F:Fun K "_law_cuts" "_law_cuts" kr f fd) (B:Blt mg):FnOk P w K mg base CX0 1 f fd ["_law_blade","_law_wide","_law_high"] (lO):=by
 apply F.ok sccutsl (λ vs H Q E h=>?_) (λ cdv A outer s H vs Q E hr h=>?_)
 ·obtain⟨b,w1,h1,rfl,_⟩:=h
  rfl
 obtain⟨b,w1,h1,rfl,w8,h8,b0,b60,q⟩:=h;have nd:=sccutsl.nd;apply%[_,((kS (i:=3) (own:=["_law_place"]) (cs:=["_law_blade","_law_wide","_law_high"]) (cap:=[0,1,2]) Y nd Y Y Y (dZ Y B.range (ad^^^(((pv 1)|||bN|||(pv 0))^^^ab))) (ay (sc:=defScope kr) (N:=["_law_blade","_law_wide","_law_high","_law_found"]) Y Y ∅) (λ _ _ _ _ _=>aj (i:=0) (by show List.Nodup (["_law_place","_law_blade","_law_wide","_law_high"]:Ks Str) ;decide +kernel) Y (Or.inl Y) (Or.inr Y)) (λ _ _ _ _ _=>aE) (λ _ _ _ _ _=>(@aG _ _ _ _ _ ((@aG _ _ _ _ _ ((pv 0)^^^((pv 3)^^^ab)))^^^((@aG _ _ _ _ _ ((((pv 2)|||bN|||(pv 0))|||bN|||(pv 1))^^^((pv 3)^^^ab)))^^^ab)))))<<<(((pv 3)|||iG|||(aX (own:=["_law_place"]) (cs:=["_law_blade","_law_wide","_law_high"]) (cap:=[0,1,2]) Y (dZ Y B.range (ad^^^(((pv 2)|||bN|||(pv 0))^^^ab))) (ay (sc:=defScope kr) (N:=["_law_blade","_law_wide","_law_high","_law_found"]) Y Y ∅) (λ _ _ _ _ _=>aj (i:=0) (by show List.Nodup (["_law_place","_law_blade","_law_wide","_law_high"]:Ks Str) ;decide +kernel) Y (Or.inl Y) (Or.inr Y)) (λ _ _ _ _ _=>aE) (λ _ _ _ _ _=>(@aG _ _ _ _ _ ((@aG _ _ _ _ _ ((pv 2)^^^((pv 0)^^^ab)))^^^((@aG _ _ _ _ _ ((pv 2)^^^((((pv 3)|||bN|||(pv 0))|||bN|||(pv 1))^^^ab)))^^^ab))))))⁻¹))|?_];have z4:4096<=sizeLine:=∅
 have wn:(w1 - b - 1).toNat<=16:=⋯
 have hn:(h1 - b - 1).toNat<=16:=⋯
 have kp:∀ {Ha Hb:Hp} {v:V} {x:Bool×Int},Same Ha Hb->sn b w1 h1 Ha v x->sn b w1 h1 Hb v x:=λ s ⟨q',t1,t2,e,a1,a2,a3⟩=>%[q',t1,t2,e,s _ _ a1,s _ _ a2|s _ _ a3]
 apply aq (λ σ' H'=>∃ (dl:Ko) (ys:Ks V),σ'=[⇑b,⇑w1,⇑h1,↑dl]/\H' dl=↥ys/\Paired (sn b w1 h1 H') ys (wpL true (w1 - b - 1).toNat)/\Same H H') (λ R hR=>?_) ?_
 ·apply%[_,Y,_,Y,_,_,Y,Y,1,_,Y,%[∅,∅|by show w1 - b < 2 ^ 62;lia]|?_];show∃W,_/\cX _ _ _ (Itr 1 (w1 - b - 1).toNat) _ _ _ _ W;generalize(w1 - b - 1).toNat=n at *;apply dG (lo:=1) (n:=n) (λ i ys Hx=>Same H Hx/\Paired (sn b w1 h1 Hx) ys (wpL true i)) %[Same.refl _|.nil] ?_ ?_
  ·rintro i ys Hx hi ⟨sx,py⟩;have pl:=E5 py;rw[bT]at pl;apply%[⋯,leS.set rfl|aF ?_];apply%[_,Y,_,Y,zS2|λ t1 ht1=>?_];apply aB ht1 λ H1 k1 s1=>?_;apply%[_,Y,_,Y,_,_,Y,Y,_,Y,_,_,Y,Y,_,Y,zS2|λ t2 ht2=>?_];apply aB ht2 λ H2 k2 s2=>?_;apply%[zS2|λ q' hq=>?_];apply aB hq λ H3 k3 s3=>?_;have s13:=(s1.trans s2).trans s3;apply Nx.of hi %[sx.trans s13|?_];rw[gg];exact Paired.app (IW py λ v p h=>kp s13 h) (.cons %[q',t1,t2,Y,k3,s3 _ _ (s2 _ _ k1)|s3 _ _ k2] .nil)
  ·rintro ys Hx ⟨sx,py⟩;have pl:=E5 py;rw[bT]at pl;apply%[⋯|λ l hl=>?_];apply aB hl λ H1 k1 s1=>?_;exact hR _ _ %[l,ys,rfl,k1,IW py λ v p h=>kp s1 h|sx.trans s1]
 rintro _ H1 ⟨dl,ys,rfl,hdl,py,s1⟩;apply%[_,Y,_,Y,_,Y,_,_,Y,Y,1,_,Y,%[∅,∅|by show h1 - b < 2 ^ 62;lia]|?_];show∃W,_/\cX _ _ _ (Itr 1 (h1 - b - 1).toNat) _ _ _ _ W;have ec:aY b w1 h1=wpL true (w1 - b - 1).toNat ++ wpL false (h1 - b - 1).toNat:=rfl;have yl:=E5 py;rw[bT]at yl;generalize(h1 - b - 1).toNat=n at *;apply dG (lo:=1) (n:=n) (λ i zs Hx=>Same H1 Hx/\Paired (sn b w1 h1 Hx) zs (wpL false i)) %[Same.refl _|.nil] ?_ ?_
 ·rintro i zs Hx hi ⟨sx,pz⟩;have pl:=E5 pz;rw[bT]at pl;apply%[⋯,leS.set rfl|aF ?_];apply%[_,Y,_,Y,zS2|λ t1 ht1=>?_];apply aB ht1 λ H2 k2 s2=>?_;apply%[_,Y,_,Y,_,Y,_,_,Y,Y,_,Y,_,_,Y,Y,zS2|λ t2 ht2=>?_];apply aB ht2 λ H3 k3 s3=>?_;apply%[zS2|λ q' hq=>?_];apply aB hq λ H4 k4 s4=>?_;have s24:=(s2.trans s3).trans s4;apply Nx.of hi %[sx.trans s24|?_];rw[gg];exact Paired.app (IW pz λ v p h=>kp s24 h) (.cons %[q',t1,t2,Y,k4,s4 _ _ (s3 _ _ k2)|s4 _ _ k3] .nil)
 ·rintro zs Hx ⟨sx,pz⟩;have pl:=E5 pz;rw[bT]at pl;apply%[⋯|λ l hl=>?_];apply aB hl λ H2 k2 s2=>?_;apply%[dl,l,_,_,Y,Y,s2 _ _ (sx _ _ hdl),k2,⋯|λ l2 hl2=>?_];apply aB hl2 λ H3 k3 s3=>?_;have s13:=(sx.trans s2).trans s3;apply q l2 _ H3 (s1.free (sx.free (s2.free hl2))) k3 ?_ (s1.trans s13);rw[ec];exact Paired.app (IW py λ v p h=>kp s13 h) (IW pz λ v p h=>kp (s2.trans s3) h)
end
def Gm (K:C6):R2:=λ x y H Q=>∃d xs,DatV K H x d/\DatV K H y (.list xs)/\SeqAt.shaped (.list xs)=true/\SeqAt.shaped d=true/\(∀y∈xs,SeqAt.noMix y d=true)/\Q (.bl (decide (Spec.countIn d xs≠0))) H
theorem xu {X:Cx} (K:C6) (hK:X.K=K) (hu:X.A.units+65 < cLine):OpR X (compareOp .In) (Gm K):=hK ▸ yn hu
def fkL (ks:Ks Kd) (p:Int×Int) (j:Nat):Ks (Ks Int):=((List.range j).filter λ i=>match ks[i]? with
 | some k=>decide (0 < k.wa) && gP k p.1 p.2
 | none=>false).map λ(i:Nat)=>cC ks.length i
def bcO (ks:Ks Kd) (us:Ks (Ks Int)) (o:Ks Int):Ks (Ks Int):=us.map λ u=>cA o u (wsK ks)
def bcC (b:Int) (ks:Ks Kd) (p:Int×Int) (c:Bool×Int):Ks (Ks Int):=(gK b ks (cI p.1 p.2 c)).flatMap (bcO ks (gK b ks (cB b p.1 p.2 c)))
def bnL (b:Int) (ks:Ks Kd) (p:Int×Int):Ks (Ks Int):=bR ks.length :: fkL ks p ks.length ++ (aY b p.1 p.2).flatMap (bcC b ks p)
def TdOk (b:Int) (ks:Ks Kd) (H:Hp) (ll:Ks ((Int×Int)×V)):Prop:=∀q v,(q,v)∈ll->∃l as,v=.ref l/\H l=↥(as.map V.ref)/\BsA H as (gK b ks q)
theorem TdOk.keep {b:Int} {ks:Ks Kd} {H H':Hp} {ll:Ks ((Int×Int)×V)} (s:Same H H') (h:TdOk b ks H ll):TdOk b ks H' ll:=λ q v m=>by obtain⟨l,as,e,h1,h2⟩:=h q v m;exact%[l,as,e,s _ _ h1|h2.keep (Same.tps s)]
theorem vC {k:Kd} {c:Bool} (hc:c=true->bI k=true):∀ {ks:Ks Kd} {i j:Nat},ks[i]?=some k->(j+i,c)∈lyK ks j
 | k' :: r,0,j,h=>by
  simp only[List.getElem?_cons_zero,Option.some.injEq]at h;subst h;apply B8 _ ?_;unfold lyT;cases c with
  | false=>exact B9
  | true=>rw[Kz (hc rfl)];exact B6 _ (E4.mpr rfl)
 | k' :: r,i+1,j,h=>by apply A6 _ ?_;have:=vC hc (ks:=r) (i:=i) (j:=j+1) (by simpa using h);rw[show j+1+i=j+(i+1)by lia]at this;exact this
 | [],_,_,h=>by simp at h
theorem fitsK_iff {k:Kd} {w h:Int}:gP k w h=true↔∃c:Bool,(c=true->bI k=true)/\rN k c w h=true:=by
 unfold gP lnL;constructor
 ·intro z;obtain⟨q,hq,e⟩:=Js.mp z
  by_cases c:(k.tu && !decide (k.w=k.h))=true
  ·rw[Kz c]at hq;simp only[IZ,JQ,LO]at hq;rcases hq with rfl | rfl
   ·exact⟨false,(λ z=>by cases z),e⟩
   ·exact%[true,λ _=>c|e]
  ·rw[Ky c]at hq;rw[E4]at hq;subst hq;exact⟨false,(λ z=>by cases z),e⟩
 ·rintro⟨c,h1,h2⟩;cases c with
  | false=>split <;> exact Js.mpr %[(k.w,k.h),B9|h2]
  | true=>
   rw[Kz (show(k.tu && !decide (k.w=k.h))=true from h1 rfl)];exact Js.mpr %[(k.h,k.w),B6 _ (E4.mpr rfl)|h2]
theorem xw {ks:Ks Kd} {p:Int×Int} {x:Ks Int}:x∈fkL ks p ks.length↔x∈(lyC ks p).map (·.1):=by
 unfold fkL lyC;constructor
 ·intro h;obtain⟨i,hi,rfl⟩:=JH.mp h;obtain⟨_,hc⟩:=J0.mp hi;cases e:ks[i]? with
  | none=>rw[e]at hc;cases hc
  | some k=>
   rw[e]at hc;obtain⟨h1,h2⟩:=E1.mp hc;obtain⟨c,c1,c2⟩:=fitsK_iff.mp h2;have m:=vC c1 (j:=0) e;rw[Kl]at m;apply JH.mpr %[(cC ks.length i,.piece i c),Je.mpr %[(i,c),J0.mpr %[m|?_]|?_]|Y]
   ·show jc ks p.1 p.2 (i,c)=true;unfold jc;rw[e];exact c2
   ·unfold lyR waA;rw[e,Kz (show 0 < (Option.map (λ x:Kd=>x.wa) (some k)).getD 0 from of_decide_eq_true h1)];exact E4.mpr rfl
 ·intro h;obtain⟨r,hr,rfl⟩:=JH.mp h;obtain⟨q,hq,hr⟩:=Je.mp hr;obtain⟨hq,hf⟩:=J0.mp hq;obtain⟨_,k,hk,hc⟩:=lG hq;rw[Nat.sub_zero]at hk;unfold lyR at hr
  split at hr
  ·next z=>
   rw[E4]at hr;subst hr;apply JH.mpr %[q.1,J0.mpr %[Jt.mpr (A7.mp hk).1|?_]|Y];rw[hk];unfold waA at z;rw[hk]at z;apply E1.mpr %[B1 z|fitsK_iff.mpr %[q.2,λ e=>hc.resolve_left (by rw[e];decide)|?_]];unfold jc at hf;rw[hk]at hf;exact hf
  ·cases hr
theorem mem_bnL {b:Int} {ks:Ks Kd} {p:Int×Int} {x:Ks Int}:x∈bnL b ks p↔x∈(bO b ks (gB b ks) p).map (·.1):=by
 unfold bO;rw[adds_keys,adds_keys,<- xw];unfold bnL eC;rw[C4,IZ,JA,Jj,E4];apply or_congr Iff.rfl ?_;constructor
 ·intro h;obtain⟨c,hc,h⟩:=Je.mp h;obtain⟨o,ho,h⟩:=Je.mp h;obtain⟨u,hu,rfl⟩:=JH.mp h;exact JH.mpr %[yK b ks p c o u,Je.mpr %[c,hc|Je.mpr %[o,ho|JH.mpr %[u,hu|Y]]]|Y]
 ·intro h;obtain⟨r,hr,rfl⟩:=JH.mp h;obtain⟨c,hc,h⟩:=Je.mp hr;obtain⟨o,ho,h⟩:=Je.mp h;obtain⟨u,hu,rfl⟩:=JH.mp h;exact Je.mpr %[c,hc|Je.mpr %[o,ho|JH.mpr %[u,hu|Y]]]
theorem yM {b:Int} {ks:Ks Kd} {p:Int×Int} (kw:∀k∈ks,0<=k.wa) {x:Ks Int} (h:x∈bnL b ks p):InB (wsK ks) x:=ft kw (λ c _=>%[λ r hr=>jj kw hr|λ r hr=>jj kw hr]) (mem_bnL.mp h)
theorem qy {b:Int} {ks:Ks Kd} {p:Int×Int} (b0:0<=b) (p1:1<=p.1) (p2:1<=p.2) (kw:∀k∈ks,0<=k.wa) {x:Ks Int} (h:x∈bnL b ks p):∃t∈gK b ks p,leB x t=true:=by rw[kG b0 p p1 p2];exact xm (λ y hy=>ft kw (λ c _=>%[λ r hr=>jj kw hr|λ r hr=>jj kw hr]) hy) (mem_bnL.mp h)
theorem Ba {b:Int} {ks:Ks Kd} {p:Int×Int} (b0:0<=b) (p1:1<=p.1) (p2:1<=p.2) {x:Ks Int} (h:x∈gK b ks p):x∈bnL b ks p:=by rw[kG b0 p p1 p2]at h;exact mem_bnL.mpr (mem_topB.mp h).1
theorem dS {b:Int} {ks:Ks Kd} {p:Int×Int} (b0:0<=b) (p1:1<=p.1) (p2:1<=p.2):(gK b ks p).Nodup:=by rw[kG b0 p p1 p2];exact fL (cT _ _ _ _)
theorem ip {α β:Type} {f:α->Ks β} {n:Nat}:∀ {l:Ks α},(∀a∈l,(f a).length<=n)->(l.flatMap f).length<=l.length * n
 | [],_=>by simp
 | a :: l,h=>by have h1:=h a B9;have h2:=ip (l:=l) λ b hb=>h b (B6 _ hb);rw[Jr,JD,JF,Nat.succ_mul];lia
theorem sC {kvs:Ks (Ks Key×V)} {k j:Ks Key} {v:V}:j∈(bX kvs k v).map (·.1)↔j∈kvs.map (·.1)\/j=k:=by
 have e:=uB kvs k j v;have mi:∀ (l:Ks (Ks Key×V)),j∈l.map (·.1)↔bG l j≠none:=λ l=>⟨λ h z=>uE z h,λ h=>by
  cases z:bG l j with
  | none=>exact absurd z h
  | some y=>exact wG z⟩
 rw[mi,mi,e]
 by_cases c:j=k
 ·simp[c]
 ·simp[c]
theorem gQ {j:Ks Key}:∀ {kvs acc:Ks (Ks Key×V)},j∈(dg acc kvs).map (·.1)↔j∈acc.map (·.1)\/j∈kvs.map (·.1)
 | [],acc=>by simp[dg]
 | x :: r,acc=>by show j∈(dg (bX acc x.1 x.2) r).map (·.1)↔_;rw[gQ,sC,JA,IZ,or_assoc]
theorem js:∀ {kvs acc:Ks (Ks Key×V)},(dg acc kvs).length<=acc.length+kvs.length
 | [],acc=>B4 _
 | x :: r,acc=>by have:=js (kvs:=r) (acc:=bX acc x.1 x.2);have:=ce acc x.1 x.2;show(dg (bX acc x.1 x.2) r).length<=_;rw[JF];lia
theorem xx (a b:Ks Int):Spec.same (.tuple (a.map PyData.int)) (.tuple (b.map PyData.int))=decide (a=b):=by
 have h:∀a b:Ks Int,Spec.sameAll (a.map PyData.int) (b.map PyData.int)=decide (a=b):=λ a=>by
  induction a with
  | nil=>intro b;cases b <;> rfl
  | cons x a ih=>intro b;cases b with
   | nil=>rfl
   | cons y b=>
    rw[JA,JA];simp only[Spec.sameAll,Spec.same,ih b]
    by_cases c:x=y <;> simp[c]
 simp only[Spec.same,h]
theorem mY (x:Ks Int):∀cs:Ks (Ks Int),0<=Spec.countIn (.tuple (x.map PyData.int)) (bsD cs)/\(Spec.countIn (.tuple (x.map PyData.int)) (bsD cs)≠0↔x∈cs)
 | []=>by simp[Spec.countIn,bsD]
 | c :: cs=>by
  obtain⟨h1,h2⟩:=mY x cs;have e:bsD (c :: cs)=.tuple (c.map PyData.int) :: bsD cs:=rfl;rw[e];simp only[Spec.countIn,xx,IZ]
  by_cases h:c=x
  ·subst h;simp only[decide_true,Lm,true_or,iff_true];exact%[⋯|⋯]
  ·have h':¬ x=c:=λ z=>h z.symm;simp only[h,h',decide_false,false_or];apply%[?_|?_]
   ·simpa using h1
   ·simpa using h2
theorem mZ (c:Ks Int):SeqAt.shaped (.tuple (c.map PyData.int))=true:=by
 obtain⟨i1,i2⟩:=qw c;unfold SeqAt.shaped;rw[PyData.canLay0,i1,PyData.depth,i2]
 decide
theorem vD (x:Ks Int) (cs:Ks (Ks Int)):∀y∈bsD cs,SeqAt.noMix y (.tuple (x.map PyData.int))=true:=by
 intro y hy;obtain⟨c,_,rfl⟩:=JH.mp hy;have h:∀a b:Ks Int,SeqAt.noMixAll (a.map PyData.int) (b.map PyData.int)=true:=λ a=>by
  induction a with
  | nil=>intro b;cases b <;> rfl
  | cons x a ih=>intro b;cases b with
   | nil=>rfl
   | cons y b=>
    rw[JA,JA];simp only[SeqAt.noMixAll,SeqAt.noMix,ih b]
    rfl
 simp only[SeqAt.noMix,h]
def Sl (fl:Ko) (H H':Hp):Prop:=∀b o,H b=some o->H' b=some o\/(b=fl/\∃xs ys,o=.lst xs/\H' b=↥ys)
theorem eS {fl:Ko} {H H':Hp} (s:Same H H'):Sl fl H H':=λ b o e=>.inl (s b o e)
theorem Sl.trans {fl:Ko} {H H1 H2:Hp} (a:Sl fl H H1) (b:Sl fl H1 H2):Sl fl H H2:=λ c o e=>by
 rcases a c o e with h | ⟨rfl,xs,ys,rfl,h⟩
 ·exact b c o h
 ·rcases b c _ h with h | ⟨_,_,zs,_,h⟩
  ·exact .inr %[Y,xs,ys,Y|h]
  ·exact .inr %[Y,xs,zs,Y|h]
theorem Sl.tps {fl:Ko} {H H':Hp} (s:Sl fl H H'):Tps H H':=λ b xs e=>(s b _ e).resolve_right λ%[_,_,_,z|_]=>by cases z
theorem Sl.dT {fl:Ko} {H H':Hp} (s:Sl fl H H') {b:Ko} {kvs:Ks (Ks Key×V)} (e:H b=some (.dT kvs)):H' b=some (.dT kvs):=(s b _ e).resolve_right λ%[_,_,_,z|_]=>by cases z
theorem Sl.lst {fl:Ko} {H H':Hp} (s:Sl fl H H') {b:Ko} {o:HO} (n:b≠fl) (e:H b=some o):H' b=some o:=(s b _ e).resolve_right λ%[z|_]=>n z
theorem Sl.same {fl:Ko} {H H':Hp} (s:Sl fl H H') (n:H fl=none):Same H H':=λ b o e=>s.lst (λ z=>by rw[z,n]at e;cases e) e
def FI (fl:Ko) (H:Hp) (cs:Ks (Ks Int)):Prop:=∃as,H fl=↥(as.map V.ref)/\BsA H as cs
theorem FI.same {fl:Ko} {H H':Hp} {cs:Ks (Ks Int)} (s:Same H H'):FI fl H cs->FI fl H' cs
 | ⟨as,h1,h2⟩=>%[as,s _ _ h1|h2.keep (Same.tps s)]
theorem ng {fl t:Ko} {H:Hp} {cs:Ks (Ks Int)} {c:Ks Int} {Q:VK} (hI:FI fl H cs) (hl:cs.length < sizeLine) (ht:H t= ~~~(bV c)) (hq:∀H',FI fl H' (cs ++ [c])->Sl fl H H'->Q .non H'):rAppend (.ref fl) [.ref t] H Q:=by
 obtain⟨as,h1,h2⟩:=hI;have al:=E5 h2;have sl:Sl fl H (upd H fl (.lst (as.map V.ref ++ [.ref t]))):=λ b o e=>by
  by_cases z:b=fl
  ·subst z;rw[h1]at e;cases e;exact .inr %[Y,_,_,Y|ai]
  ·rw[ah z];exact .inl e
 apply%[fl,_,_,Y,Y,h1,by rw[B5];lia|hq _ %[as ++ [t],?_|Paired.app (h2.keep sl.tps) (.cons (sl.tps _ _ ht) .nil)] sl];rw[ai,JE];rfl
section
variable {P:IP} {w:IR} {K:C6} {mg:Str->Kq IS} {base:Heap}
def xy (b:Int) (ks:Ks Kd) (m n:Nat) (H:Hp) (ta kl:Ko):Prop:=kH b ks/\b < 10 ^ 60/\m<=8/\n<=8/\∃ (ll:Ks ((Int×Int)×V)) (rs:Ks V),H ta=some (.dT (byP ll))/\ll.map (·.1)=aw m n/\TdOk b ks H ll/\H kl=↥rs/\Tups H rs ks
def lP:Sp:=λ vs H Q _=>∃ (ta kl:Ko) (b:Int) (ks:Ks Kd) (m n:Nat) (p:Int×Int),vs=[.ref ta,.int b,.ref kl,.int p.1,.int p.2]/\xy b ks m n H ta kl/\p∈aw m n /\
 ∀ (l:Ko) (as:Ks Ko) (cs:Ks (Ks Int)) (H':Hp),H' l=↥(as.map V.ref)->BsA H' as cs->(∀x,x∈cs↔x∈bnL b ks p)->cs.length<=100000->Same H H'->Q (.ref l) H'
def jt:Sp:=λ vs H Q _=>∃ (ta kl:Ko) (b:Int) (ks:Ks Kd) (m n:Nat) (p:Int×Int),vs=[.ref ta,.int b,.ref kl,.int p.1,.int p.2]/\xy b ks m n H ta kl/\p∈aw m n /\
 ∀ (H':Hp),Same H H'->Q (.bl true) H'
theorem scborne:FnScope ["_law_told","_law_blade","_law_kinds","_law_wide","_law_high","_law_found","_law_number","_law_kind","_law_one","_law_other","_law_first","_law_second"] ["_law_told","_law_blade","_law_kinds","_law_wide","_law_high"] (defScope fI):=%[Y,Y,Y,∅,Y,∅|∅]
theorem vE {f:Ko} {fd:IQ} (F:Fun K "_law_borne" "_law_borne" fI f fd) (B:Blt mg) (hdc:mg "dict" = none) (DFT:Dn P w K mg base "_law_fits" ["_law_kind","_law_wide","_law_high"] 2 (lL)) (DCT:Dn P w K mg base "_law_cuts" ["_law_blade","_law_wide","_law_high"] 1 (lO)):FnOk P w K mg base CX0 3 f fd ["_law_told","_law_blade","_law_kinds","_law_wide","_law_high"] (lP):=by
 apply F.ok scborne (λ vs H Q E h=>?_) (λ cdv A outer s H vs Q E hr h=>?_)
 ·obtain⟨ta,kl,b,ks,m,n,p,rfl,_⟩:=h
  rfl
 obtain⟨ta,kl,b,ks,m,n,p,rfl,⟨⟨b0,k1,k8,kw,w6⟩,b60,m8,n8,ll,rs,hta,el,td,hkl,tp⟩,pm,q⟩:=h;have nd:=scborne.nd;have hu:=hr.units;have hu1:=C8 (Jh (show 1<=64 by decide) _) hu;have hu2:=C8 (Jh (show 2<=64 by decide) _) hu;apply%[_,((5∣(@bW _ _ _ _ ((@aS _ _ _ _ _ _ _ _ _ aP Y B.tuple K8 (((@bW _ _ _ _ (ad^^^ab))|||yh|||(@ak _ _ _ _ _ _ _ _ _ aK Y B.len LI ((pv 2)^^^ab) ∅ ∅ Y Y))^^^ab) ∅ ∅ Y Y)^^^ab)))<<<((@bv _ _ _ _ _ _ _ _ E6 Y (gZ Y B.enumerate ((pv 2)^^^ab)) (bU Y (am (aj (i:=6) nd Y (Or.inr Y)) (7•bp))) (@ag _ _ _ ((PW.pt (tK (((pv 7)&&&bD&&&ad)<*>iB<*>ad) (pj (@aM _ _ _ (DFT∪((pv 7)^^^((pv 3)^^^((pv 4)^^^ab)))) (by intro _;rfl)))))<|>(@ag _ _ _ (@bS _ _ _ _ (@gJ _ _ _ _ _ _ _ _ _ _ _ _ IM PySem.F.slot_list_append PySem.F.type_list_append cV (pv 5) ((@aS _ _ _ _ _ _ _ _ _ aP Y B.tuple PyProof.Rows.boot_tuple ((aX (own:=["_law_k"]) (cs:=["_law_number"]) (cap:=[6]) Y (eU Y B.range ((@ak _ _ _ _ _ _ _ _ _ aK Y B.len LI ((pv 2)^^^ab) ∅ ∅ Y Y)^^^ab)) (ay (sc:=defScope fI) (N:=["_law_told","_law_blade","_law_kinds","_law_wide","_law_high","_law_found","_law_number","_law_kind","_law_one","_law_other","_law_first","_law_second"]) Y Y ∅) (λ _ _ _ _ _=>aj (i:=0) (by show List.Nodup (["_law_k","_law_number"]:Ks Str) ;decide +kernel) Y (Or.inl Y) (Or.inr Y)) (λ _ _ _ _ _=>aE) (λ _ _ _ _ _=>(@aS _ _ _ _ _ _ _ _ _ qH Y B.int PyProof.Rows.boot_int ((@bJ _ _ _ _ _ _ _ _ iA (pv 0) (pv 1) (aJ _))^^^ab) ∅ ∅ Y Y)))^^^ab) ∅ ∅ Y Y)^^^ab) Y Y Y Y Y) Y))<|>aD)) (by intro _;rfl))<<<((@bv _ _ _ _ _ _ _ _ E6 Y (aW (DCT∩((pv 1)^^^((pv 3)^^^((pv 4)^^^ab))))) (bU Y (8•(9•bp))) (@ag _ _ _ (@bv _ _ _ _ _ _ _ _ E6 Y (aW (cR hu1 (pv 0) (pv 8) (λ _ _=>Y))) (aj (i:=10) nd Y (Or.inl Y)) (@ag _ _ _ (@bv _ _ _ _ _ _ _ _ E6 Y (aW (cR hu1 (pv 0) (pv 9) (λ _ _=>Y))) (aj (i:=11) nd Y (Or.inl Y)) (@ag _ _ _ (@bS _ _ _ _ (@gJ _ _ _ _ _ _ _ _ _ _ _ _ IM PySem.F.slot_list_append PySem.F.type_list_append cV (pv 5) ((@aS _ _ _ _ _ _ _ _ _ aP Y B.tuple PyProof.Rows.boot_tuple ((aX (own:=["_law_a","_law_b","_law_kind"]) (cs:=[]) (cap:=[]) Y (uW Y B.zip ((pv 10)^^^((pv 11)^^^((pv 2)^^^ab)))) (ay (sc:=defScope fI) (N:=["_law_told","_law_blade","_law_kinds","_law_wide","_law_high","_law_found","_law_number","_law_kind","_law_one","_law_other","_law_first","_law_second"]) Y Y ∅) (λ _ _ _ _ _=>mC K Y Y (by show List.Nodup (["_law_a","_law_b","_law_kind"]:Ks Str) ;decide +kernel) Y Y Y Y Y Y) (λ _ _ _ _ _=>aE) (λ _ _ _ _ _=>(@ak _ _ _ _ _ _ _ _ _ (cU Y) Y B.min LZ (((pv 0)|||be|||(pv 1))^^^((bf (r:=rIxT K) bD (pv 2) ad (λ _ _=>Y))^^^ab)) ∅ ∅ Y Y)))^^^ab) ∅ ∅ Y Y)^^^ab) Y Y Y Y Y) Y)) (by intro _;rfl))) (by intro _;rfl))) (by intro _;rfl))<<<((@aS _ _ _ _ _ _ _ _ _ (fG Y) Y B.list Lj ((@aS _ _ _ _ _ _ _ _ _ (og Y hu2) Y hdc PyProof.Rows.boot_dict ((aX (own:=["_law_one"]) (cs:=[]) (cap:=[]) Y (aW (pv 5)) (ay (sc:=defScope fI) (N:=["_law_told","_law_blade","_law_kinds","_law_wide","_law_high","_law_found","_law_number","_law_kind","_law_one","_law_other","_law_first","_law_second"]) Y Y ∅) (λ _ _ _ _ _=>aj (i:=0) (by show List.Nodup (["_law_one"]:Ks Str) ;decide +kernel) Y (Or.inl Y) (Or.inr Y)) (λ _ _ _ _ _=>aE) (λ _ _ _ _ _=>(@aG _ _ _ _ _ ((pv 0)^^^(cD^^^ab)))))^^^ab) ∅ ∅ Y Y)^^^ab) ∅ ∅ Y Y)⁻¹))))|?_];have z4:100000<=sizeLine:=∅
 have rl:=E5 tp;have wl:(wsK ks).length=ks.length:=B5 _;obtain⟨⟨p1,p2⟩,p3,p4⟩:=partsL_mem.mp pm;apply aq (λ σ' H'=>∃fl:Ko,σ'=[↑ta,⇑b,↑kl,⇑p.1,⇑p.2,↑fl,none,none,none,none,none,none]/\H fl=none/\FI fl H' [bR ks.length]/\Same H H') (λ R hR=>?_) ?_
 ·apply%[zS1|λ l0 hl0=>?_];apply aB hl0 λ H1 k1_ s1=>?_;apply%[_,Y,kl,_,Y,.inl (IV (s1 _ _ hkl)),l0,_,_,Y,Y,k1_,⋯,⋯,by show 1 * _<=sizeLine;lia|λ l1 hl1=>?_];rw[show(List.replicate ((rs.length:Int)).toNat [V.int 0]).flatten=bV (bR ks.length)by rw[Ja,rl];unfold bV bR;induction ks.length with
   | zero=>rfl
   | succ n ih=>rw[Jv,Kh,ih,Jv];rfl]
  apply aB hl1 λ H2 k2 s2=>?_;apply%[l1,_,Y|.inl %[IV k2|λ t1 ht1=>?_]];apply aB ht1 λ H3 k3 s3=>?_;apply%[zS1|λ fl hfl=>?_];apply aB hfl λ H4 k4 s4=>?_;have s03:=(s1.trans s2).trans s3;exact hR _ _ %[fl,rfl,s03.free hfl,%[[t1],k4|.cons (s4 _ _ k3) .nil]|s03.trans s4]
 rintro _ H1 ⟨fl,rfl,hfl,i1,s1⟩;have nkf:kl≠fl:=ae hkl hfl;have fkl:∀j,(fkL ks p j).length<=j:=λ j=>by unfold fkL;rw[B5];exact C7 (Kg _ _) (by rw[KR];lia)
 apply aq (λ σ' H'=>∃ (v6 v7:Kq V),σ'=[↑ta,⇑b,↑kl,⇑p.1,⇑p.2,↑fl,v6,v7,none,none,none,none]/\FI fl H' (bR ks.length :: fkL ks p ks.length)/\Sl fl H1 H') (λ R hR=>?_) ?_
 ·apply%[_,Y,kl,rs,Y|.inl %[s1 _ _ hkl|iM (f:=HO.lst) (λ _ _ e=>by injection e) (λ i σ' H'=>∃v6 v7:Kq V,σ'=[↑ta,⇑b,↑kl,⇑p.1,⇑p.2,↑fl,v6,v7,none,none,none,none]/\FI fl H' (bR ks.length :: fkL ks p i)/\Sl fl H1 H') %[none,none,Y,i1|eS (Same.refl _)] (λ i σ H' ⟨_,_,_,_,sx⟩=>sx.lst nkf (s1 _ _ hkl)) ?_ ?_]]
  ·rintro i x pp σ Hx hi hpp ⟨v6,v7,rfl,ix,sx⟩;have hin:i < ks.length:=by have:=(A7.mp hi).1;lia
   obtain⟨k,hk,ka,rfl,hka⟩:=IX tp hi;apply aB hpp λ H2 k2 s2=>?_;have hka2:H2 ka= ~~~(kdV k):=s2 _ _ (sx.tps _ _ (s1 _ _ hka));have hkl2:H2 kl=↥rs:=s2 _ _ (sx.lst nkf (s1 _ _ hkl));have sx2:=sx.trans (eS s2);have fk:fkL ks p (i+1)=fkL ks p i ++ if (decide (0 < k.wa) && gP k p.1 p.2)=true then[cC ks.length i]else[]:=by
    unfold fkL;rw[List.range_succ,List.filter_append,JE,List.filter_cons,hk];dsimp only
    split
    ·rfl
    ·rfl
   have no:(decide (0 < k.wa) && gP k p.1 p.2)=false->∀Hz,FI fl Hz (bR ks.length :: fkL ks p i)->FI fl Hz (bR ks.length :: fkL ks p (i+1)):=λ c Hz h=>by rw[fk,c,Ky B3,JX];exact h
   apply%[pp,_,Y,IU k2,Y,_,_,Y,_,_,Y,Y|?_];apply%[_,Y,ka,_,3,_,Y,Y,IU hka2,Y,_,_,Y,Y,_,Y|?_];cases c1:decide (0 < k.wa)with
   | false=>exact aT (aT %[_,_,rfl,no (by rw[c1];rfl) _ (ix.same s2)|sx2])
   | true=>
    apply cQ %[_,rfl,_,rfl,_,rfl,ka,k,p.1,p.2,rfl,hka2|λ H3 s3=>%[_,rfl|?_]];cases c2:gP k p.1 p.2 with
    | false=>exact aT %[_,_,rfl,no (by rw[c1,c2];rfl) _ (ix.same (s2.trans s3))|sx2.trans (eS s3)]
    | true=>
     apply cQ ?_;have ix3:=ix.same (s2.trans s3);apply%[_,Y,.inl %[Y|(let ⟨as,h,_⟩:=ix3;%[_|IV h])]|?_];apply%[_,Y,kl,_,Y,.inl (IV (s3 _ _ hkl2)),_,Y,⋯,⋯|?_];rw[Ja,rl];apply dG (lo:=0) (n:=ks.length) (λ j us Hy=>Same H3 Hy/\us=((cC ks.length i).take j).map V.int) %[Same.refl _|rfl] ?_ ?_
     ·rintro j us Hy hj ⟨sy,rfl⟩;have oj:(cC ks.length i)[j]?=some (if Int.ofNat j=(i:Int)then(1:Int)else 0):=by unfold cC;rw[IY,List.getElem?_range hj];rfl
      apply%[by rw[B5,JJ,eQ];lia,leS.set rfl|aF ?_];apply%[_,Y,_,Y,Y|.inr %[_,Y|Nx.of hj %[sy|?_]]];rw[JM,oj,JS,JE];have:decide (V.int (0+(j:Int))=V.int (i:Int))=decide (Int.ofNat j=(i:Int)):=by
       by_cases c:Int.ofNat j=(i:Int)
       ·rw[K1 c,K1 (by rw[<- c,Km];rfl)]
       ·rw[K5 c,K5 (λ z=>c (by injection z with z;rw[<- z,Km];rfl))]
      rw[this]
      by_cases c:Int.ofNat j=(i:Int) <;> simp[c]
     ·rintro us Hy ⟨sy,rfl⟩;rw[JK (by rw[eQ];lia)];apply%[by rw[B5,eQ];lia|λ cl hcl=>?_];apply aB hcl λ H4 k4 s4=>?_;apply%[cl,_,Y|.inl %[IV k4|λ tp' htp=>?_]];apply aB htp λ H5 k5 s5=>?_;have s35:=(sy.trans s4).trans s5;apply ng (c:=cC ks.length i) (ix3.same s35) (by rw[JF];have:=fkl i;lia) k5 λ H6 i6 s6=>%[_,_,Y,?_|(sx2.trans (eS (s3.trans s35))).trans s6]
      rw[fk,Kz (by rw[c1,c2];rfl)];exact i6
  ·rintro σ Hx ⟨v6,v7,rfl,ix,sx⟩;rw[rl]at ix;exact hR _ _ %[v6,v7,rfl,ix|sx]
 rintro _ H2 ⟨v6,v7,rfl,i2,s2⟩;obtain⟨R0,eR0⟩:∃R0,R0=bR ks.length :: fkL ks p ks.length:=%[_|Y]
 rw[<- eR0]at i2;have r0l:R0.length<=9:=by rw[eR0,JF];have:=fkl ks.length;lia
 have s02:Sl fl H H2:=(eS s1).trans s2;have glen:∀q∈aw m n,(gK b ks q).length<=64/\∀x∈gK b ks q,InB (wsK ks) x:=λ q hq=>by obtain⟨⟨q1,_⟩,q3,_⟩:=partsL_mem.mp hq;exact%[InB.few (ws0 kw) w6 (dS b0 q1 q3) (λ x hx=>eE kw hx)|λ x hx=>eE kw hx]
 have cutIn:∀c∈aY b p.1 p.2,cI p.1 p.2 c∈aw m n/\cB b p.1 p.2 c∈aw m n:=λ c hc=>by obtain⟨⟨a1,a2,a3,a4,a5,_⟩,⟨c1,c2,c3,c4,c5,_⟩⟩:=gj b0 p1 p3 hc;exact%[partsL_mem.mpr %[%[a1|⋯],a2|⋯]|partsL_mem.mpr %[%[c1|⋯],c2|⋯]]
 have bco:∀c∈aY b p.1 p.2,∀o,(bcO ks (gK b ks (cB b p.1 p.2 c)) o).length<=64:=λ c hc o=>by unfold bcO;rw[B5];exact(glen _ (cutIn c hc).2).1
 have bcc:∀c∈aY b p.1 p.2,(bcC b ks p c).length<=4096:=λ c hc=>by have:=ip (l:=gK b ks (cI p.1 p.2 c)) (f:=bcO ks (gK b ks (cB b p.1 p.2 c))) (n:=64) (λ o _=>bco c hc o);have:=(glen _ (cutIn c hc).1).1;unfold bcC;lia
 have cl16:(aY b p.1 p.2).length<=16:=by unfold aY;rw[JD,bT,bT];lia
 have tkl:∀i,(((aY b p.1 p.2).take i).flatMap (bcC b ks p)).length<=65536:=λ i=>by have:=ip (l:=(aY b p.1 p.2).take i) (f:=bcC b ks p) (n:=4096) (λ c hc=>bcc c (KQ hc));rw[JJ]at this;have:min i (aY b p.1 p.2).length * 4096<=16 * 4096:=Nat.mul_le_mul_right _ ⋯;lia
 apply aq (λ σ' H'=>∃ (v8 v9 v10 v11:Kq V),σ'=[↑ta,⇑b,↑kl,⇑p.1,⇑p.2,↑fl,v6,v7,v8,v9,v10,v11]/\FI fl H' (bnL b ks p)/\Sl fl H H') (λ R hR=>?_) ?_
 ·apply%[_,Y,_,Y,_,Y,b,p.1,p.2,Y,⋯,⋯,b0,b60|λ cl cy H3 hn3 hcl pc s3=>?_];have cyl:=E5 pc;have ncf:cl≠fl:=λ z=>by obtain⟨as,h,hb⟩:=i2;rw[<- z,hn3]at h;cases h
  apply%[cl,Y,%[_|IV hcl]|cr (xs:=cy) (λ i σ' H'=>∃ (v8 v9 v10 v11:Kq V),σ'=[↑ta,⇑b,↑kl,⇑p.1,⇑p.2,↑fl,v6,v7,v8,v9,v10,v11]/\FI fl H' (R0 ++ ((aY b p.1 p.2).take i).flatMap (bcC b ks p))/\Sl fl H3 H') %[none,none,none,none,Y,by rw[List.take_zero,KG,JX];exact i2.same s3|eS (Same.refl _)] (λ i σ Hx _ ⟨_,_,_,_,_,_,sx⟩=>IV (sx.lst ncf hcl)) ?_ ?_]
  ·rintro i x σ Hx hi ⟨v8,v9,v10,v11,rfl,ix,sx⟩;obtain⟨c,hc,qa,t1,t2,rfl,hqa,ht1,ht2⟩:=IX pc hi;have cm:=B7 hc;obtain⟨m1,m2⟩:=cutIn c cm;obtain⟨w1,hv1,hm1⟩:=dB (ss:=ll) (by rw[el];exact m1);obtain⟨w2,hv2,hm2⟩:=dB (ss:=ll) (by rw[el];exact m2);obtain⟨d1,as1,rfl,hd1,ba1⟩:=td _ _ hm1;obtain⟨d2,as2,rfl,hd2,ba2⟩:=td _ _ hm2;have n1:d1≠fl:=ae hd1 hfl;have n2:d2≠fl:=ae hd2 hfl;have s0x:Sl fl H Hx:=(s02.trans (eS s3)).trans sx;have tk:((aY b p.1 p.2).take (i+1)).flatMap (bcC b ks p)=((aY b p.1 p.2).take i).flatMap (bcC b ks p) ++ bcC b ks p c:=by rw[JM,hc,JS,KB,Jr,KG,JX]
   obtain⟨R1,eR1⟩:∃R1,R1=R0 ++ ((aY b p.1 p.2).take i).flatMap (bcC b ks p):=%[_|Y]
   have r1l:R1.length<=65545:=by rw[eR1,JD];have:=tkl i;lia
   rw[<- eR1]at ix;obtain⟨os,eos⟩:∃os,os=gK b ks (cI p.1 p.2 c):=%[_|Y]
   obtain⟨us,eus⟩:∃us,us=gK b ks (cB b p.1 p.2 c):=%[_|Y]
   rw[<- eos]at ba1;rw[<- eus]at ba2;have ol:=E5 ba1;have ul:=E5 ba2;have o64:os.length<=64:=by rw[eos];exact(glen _ m1).1
   have u64:us.length<=64:=by rw[eus];exact(glen _ m2).1
   apply%[qa,_,Y,IU (sx.tps _ _ hqa),Y,_,_,Y,_,_,Y,Y|?_];apply%[_,Y,_,Y,ta,_,Y,hv1 ▸ DGet.t (k:=pk (cI p.1 p.2 c)) (s0x.dT hta) (sx.tps _ _ ht1),d1,Y,%[_|IV (s0x.lst n1 hd1)]|?_];apply cr (xs:=as1.map V.ref) (λ j σ' H'=>∃ (v10 v11:Kq V),σ'=[↑ta,⇑b,↑kl,⇑p.1,⇑p.2,↑fl,v6,v7,↑t1,↑t2,v10,v11]/\FI fl H' (R1 ++ (os.take j).flatMap (bcO ks us))/\Sl fl Hx H') %[v10,v11,rfl,by rw[List.take_zero,KG,JX];exact ix|eS (Same.refl _)] (λ j σ Hy _ ⟨_,_,_,_,sy⟩=>IV (sy.lst n1 (s0x.lst n1 hd1))) ?_ ?_
   ·rintro j x σ Hy hj ⟨v10,v11,rfl,iy,sy⟩;rw[IY]at hj;obtain⟨q1,hq1,rfl⟩:=JI.mp hj;obtain⟨o,ho,hqo⟩:=IX ba1 hq1;have io:InB (wsK ks) o:=(glen _ m1).2 o (eos ▸ B7 ho);have s0y:=s0x.trans sy;have tkj:(os.take (j+1)).flatMap (bcO ks us)=(os.take j).flatMap (bcO ks us) ++ bcO ks us o:=by rw[JM,ho,JS,KB,Jr,KG,JX]
    obtain⟨R2,eR2⟩:∃R2,R2=R1 ++ (os.take j).flatMap (bcO ks us):=%[_|Y]
    have r2l:R2.length<=69641:=by rw[eR2,JD];have:=ip (l:=os.take j) (f:=bcO ks us) (n:=64) (λ o _=>by unfold bcO;rw[B5];exact u64);rw[JJ]at this;have:min j os.length * 64<=64 * 64:=Nat.mul_le_mul_right _ ⋯;lia
    rw[<- eR2]at iy;apply%[_,Y,_,Y,ta,_,Y,hv2 ▸ DGet.t (k:=pk (cB b p.1 p.2 c)) (s0y.dT hta) (sy.tps _ _ (sx.tps _ _ ht2)),d2,Y,%[_|IV (s0y.lst n2 hd2)]|?_];apply cr (xs:=as2.map V.ref) (λ k σ' H'=>∃ (v11:Kq V),σ'=[↑ta,⇑b,↑kl,⇑p.1,⇑p.2,↑fl,v6,v7,↑t1,↑t2,↑q1,v11]/\FI fl H' (R2 ++ (us.take k).map λ u=>cA o u (wsK ks))/\Sl fl Hy H') %[v11,rfl,by rw[List.take_zero,Jj,JX];exact iy|eS (Same.refl _)] (λ k σ Hz _ ⟨_,_,_,sz⟩=>IV (sz.lst n2 (s0y.lst n2 hd2))) ?_ ?_
    ·rintro k x σ Hz hk ⟨v11,rfl,iz,sz⟩;rw[IY]at hk;obtain⟨q2,hq2,rfl⟩:=JI.mp hk;obtain⟨u,hu',hqu⟩:=IX ba2 hq2;have iu:InB (wsK ks) u:=(glen _ m2).2 u (eus ▸ B7 hu');have s0z:=s0y.trans sz;have h1z:Hz q1= ~~~(bV o):=s0z.tps _ _ hqo;have h2z:Hz q2= ~~~(bV u):=s0z.tps _ _ hqu;have hkz:Hz kl=↥rs:=s0z.lst nkf hkl;have jl:=gC (a:=o) (b:=u) (w:=wsK ks) (by rw[io.1,iu.1]) io.1;apply%[_,Y,.inl %[Y|(let ⟨as,h,_⟩:=iz;%[_|IV h])]|?_];apply%[_,Y,_,Y,_,Y,q1,q2,kl,_,_,_,Y,h1z,h2z,hkz|oq (xs:=bV o) (ys:=bV u) (zs:=rs) (λ e vs He=>Same Hz He/\vs=((cA o u (wsK ks)).take e).map V.int) (by rw[bV,bV,B5,B5,io.1,iu.1]) (by rw[bV,B5,io.1,wl,rl]) (λ e vs He ⟨se,_⟩=>%[se _ _ h1z,se _ _ h2z|se _ _ hkz]) %[Same.refl _|Y] (λ e vs He he ⟨_,ev⟩=>by rw[ev,B5,JJ];rw[bV,B5]at he;have:=io.1;lia) ?_ ?_]
     ·rintro e x y z pp vs He hx hy hz hpp ⟨se,rfl⟩;have hin:e < (bV o).length:=(A7.mp hx).1;obtain⟨x',hx',rfl⟩:=JI.mp (show Option.map V.int o[e]?=some x by rw[<- IY];exact hx);obtain⟨y',hy',rfl⟩:=JI.mp (show Option.map V.int u[e]?=some y by rw[<- IY];exact hy);obtain⟨kd,hkd,ka,rfl,hka⟩:=IX tp hz;have ji:=je hx' hy' (show(wsK ks)[e]?=some kd.wa by rw[IY,hkd];rfl);have s9:=IT hpp (o:=.tup [.int x',.int y',.ref ka]);apply%[pp,_,Y,IU ai,Y,_,_,Y,_,_,Y,_,_,Y,Y,ja (ja (leS.set rfl) (leS.set rfl)) (leS.set rfl)|aF ?_];apply%[_,Y,_,Y,_,_,Y,Y,_,Y,ka,_,3,_,Y,Y,IU (s9 _ _ (se _ _ (s0z.tps _ _ hka))),Y,_,_,Y|Nx.of hin %[se.trans s9|?_]];rw[JM,ji,show(if kd.wa < x'+y' then kd.wa else x'+y')=min (x'+y') kd.wa by split <;> lia];simp only[JS,JE,JA,Jj]
     ·rintro vs He ⟨se,rfl⟩;rw[JK (by rw[bV,B5];lia)];apply%[by rw[B5,jl,io.1,wl];lia|λ cl' hcl'=>?_];apply aB hcl' λ H4 k4 s4=>?_;apply%[cl',_,Y|.inl %[IV k4|λ tp' htp=>?_]];apply aB htp λ H5 k5 s5=>?_;have se5:=(se.trans s4).trans s5;apply ng (c:=cA o u (wsK ks)) (iz.same se5) (by rw[JD,B5,JJ];lia) k5 λ H6 i6 s6=>%[_,Y,?_|(sz.trans (eS se5)).trans s6]
      rw[JM,hu',JS,JE,<- JC];exact i6
    ·rintro σ Hz ⟨v11,rfl,iz,sz⟩;apply%[_,_,Y,?_|sy.trans sz];rw[tkj,<- JC,<- eR2];rw[B5,ul,Jb]at iz;exact iz
   ·rintro σ Hy ⟨v10,v11,rfl,iy,sy⟩;apply%[_,_,_,_,Y,?_|sx.trans sy];rw[tk,<- JC,<- eR1];rw[B5,ol,Jb]at iy;unfold bcC;rw[<- eos,<- eus];exact iy
  ·rintro σ Hx ⟨v8,v9,v10,v11,rfl,ix,sx⟩;apply hR _ _ %[v8,v9,v10,v11,rfl,?_|(s02.trans (eS s3)).trans sx];rw[JK ⋯,eR0]at ix;exact ix
 rintro _ H3 ⟨v8,v9,v10,v11,rfl,⟨as,hfl3,ba⟩,s3⟩;have al:=E5 ba;have bl:(bnL b ks p).length<=65545:=by have:=tkl (aY b p.1 p.2).length;rw[Jb]at this;unfold bnL;rw[<- eR0,JD];lia
 apply%[_,Y,fl,Y,%[_|IV hfl3]|(bA (K:=K) (.inl hfl3) (λ i us Hx=>Same H3 Hx/\Paired (yx Hx) us (((bnL b ks p).take i).map λ c=>(bK c,V.bl true))) (λ i us Hx _ ⟨sx,_⟩ o e=>sx _ _ e) %[Same.refl _|.nil] ?_ ?_).1 hfl3]
 ·rintro i x us Hx hi ⟨sx,pu⟩;have hin:=(A7.mp hi).1;rw[IY]at hi;obtain⟨a,ha,rfl⟩:=JI.mp hi;obtain⟨c,hc,hac⟩:=IX ba ha;have pl:=E5 pu;rw[B5,JJ]at pl;rw[B5]at hin;apply%[⋯,leS.set rfl|aF %[_,Y,zS2|λ pp hpp=>?_]];apply aB hpp λ H4 k4 s4=>?_;apply Nx.of (by rw[B5];exact hin) %[sx.trans s4|?_];rw[JM,hc,JS,JE];apply Paired.app (IW pu λ v kv %[p',q',e,h1|h2]=>%[p',q',e,s4 _ _ h1|s4 _ _ h2]) (.cons %[pp,a,Y,k4|?_] .nil);show H4 a= ~~~((bK c).map kV);rw[eR];exact s4 _ _ (sx _ _ hac)
 ·rintro us Hx ⟨sx,pu⟩;rw[B5,al,Jb]at pu;have pl:=E5 pu;rw[B5]at pl;apply%[⋯|λ pl' hpl'=>?_];apply aB hpl' λ H4 k4 s4=>?_;apply%[pl',us,_,Y,k4,IW pu λ v kv %[p',q',e,h1|h2]=>%[p',q',e,s4 _ _ h1|s4 _ _ h2]|λ da hda=>?_];obtain⟨kv,ekv⟩:∃kv,kv=dg [] ((bnL b ks p).map λ c=>(bK c,V.bl true)):=%[_|Y]
  rw[<- ekv];apply aB hda λ H5 k5 s5=>?_;apply%[da,kv,Y,.inl k5|λ lo as' hlo pa=>?_];apply aB hlo λ H6 k6 s6=>?_;have keyb:∀k,k∈kv.map (·.1)↔∃c∈bnL b ks p,bK c=k:=λ k=>by
   rw[ekv,gQ,Jc];constructor
   ·rintro(h | h)
    ·cases h
    ·obtain⟨c,hc,e⟩:=JH.mp h;exact%[c,hc|e]
   ·rintro⟨c,hc,e⟩;exact .inr (JH.mpr %[c,hc|e])
  have kvl:kv.length<=65545:=by have:=js (kvs:=(bnL b ks p).map λ c=>(bK c,V.bl true)) (acc:=[]);rw[<- ekv,B5]at this;simp only[KN]at this;lia
  have baF:∀ (as:Ks Ko) (kv:Ks (Ks Key×V)),(∀x∈kv,∃c,bK c=x.1)->Paired (λ(b:Ko) (kv:Ks Key×V)=>H5 b= ~~~(kv.1.map kV)) as kv->BsA H6 as (kv.map λ x=>unK x.1):=λ as kv hk h=>by
   induction h with
   | nil=>exact .nil
   | @cons a x _ _ y _ ih=>
    apply .cons ?_ (ih λ z hz=>hk z (B6 _ hz));obtain⟨c,hc⟩:=hk x B9;rw[<- hc,eR]at y;show H6 a= ~~~(bV (unK x.1));rw[<- hc,gE];exact s6 _ _ y
  apply q lo as' (kv.map λ x=>unK x.1) H6 k6 (baF as' kv (λ x hx=>?_) pa) (λ x=>?_) (by rw[B5];lia) ?_
  ·obtain⟨c,_,e⟩:=(keyb x.1).mp (JH.mpr %[x,hx|Y]);exact%[c|e]
  ·rw[JH];constructor
   ·rintro⟨y,hy,rfl⟩;obtain⟨c,hc,e⟩:=(keyb y.1).mp (JH.mpr %[y,hy|Y]);rw[<- e,gE];exact hc
   ·intro hx;obtain⟨y,hy,e⟩:=JH.mp ((keyb (bK x)).mpr %[x,hx|Y]);exact%[y,hy|by rw[e,gE]]
  ·have s36:=((sx.trans s4).trans s5).trans s6;exact(s3.same hfl).trans s36
theorem scwalked:FnScope ["_law_told","_law_blade","_law_kinds","_law_wide","_law_high","_law_borne_here"] ["_law_told","_law_blade","_law_kinds","_law_wide","_law_high"] (defScope fo):=%[Y,Y,Y,∅,Y,∅|∅]
theorem sD {f:Ko} {fd:IQ} (F:Fun K "_law_walked" "_law_walked" fo f fd) (B:Blt mg) (han:mg "any" = none) (DLS:Dn P w K mg base "_law_less" ["_law_one","_law_other"] 1 (im)) (DBO:Dn P w K mg base "_law_borne" ["_law_told","_law_blade","_law_kinds","_law_wide","_law_high"] 3 (lP)):FnOk P w K mg base CX0 4 f fd ["_law_told","_law_blade","_law_kinds","_law_wide","_law_high"] (jt):=by
 apply F.ok scwalked (λ vs H Q E h=>?_) (λ cdv A outer s H vs Q E hr h=>?_)
 ·obtain⟨ta,kl,b,ks,m,n,p,rfl,_⟩:=h
  rfl
 obtain⟨ta,kl,b,ks,m,n,p,rfl,td0,pm,q⟩:=h;have nd:=scwalked.nd;have hu:=hr.units;have hu1:=C8 (Jh (show 1<=64 by decide) _) hu;have hu2:=C8 (Jh (show 2<=64 by decide) _) hu;have hu65:=Nat.lt_of_succ_lt hr.units66;apply%[_,((@aV _ _ 5 _ _ _ _ nd Y (Or.inr Y) (DBO∪((pv 0)^^^((pv 1)^^^((pv 2)^^^((pv 3)^^^((pv 4)^^^ab)))))) Y (Or.inl Y))<<<(((@aU _ _ _ _ (@aM _ _ _ (@ak _ _ _ _ _ _ _ _ _ (fb Y) Y B.all PyProof.Rows.boot_all ((uH (own:=["_law_bundle"]) (cs:=["_law_told","_law_wide","_law_high"]) (cap:=[0,3,4]) Y (aW (pv 5)) (iQ (sc:=defScope fo) (N:=["_law_told","_law_blade","_law_kinds","_law_wide","_law_high","_law_borne_here"]) Y Y ∅) (λ _ _ _ _ _=>aj (i:=0) (by show List.Nodup (["_law_bundle","_law_told","_law_wide","_law_high"]:Ks Str) ;decide +kernel) Y (Or.inr Y) (Or.inl Y)) (λ _ _ _ _ _=>aE) (λ _ _ _ _ _=>(ak (r:=yF K) (fj Y) Y han PyProof.Rows.boot_any ((aX (own:=["_law_one"]) (cs:=["_law_bundle"]) (cap:=[0]) Y (uJ K Y (cR hu1 (pv 1) (@aG _ _ _ _ _ ((pv 2)^^^((pv 3)^^^ab))) (λ _ _=>Y))) (ay (N:=["_law_bundle","_law_told","_law_wide","_law_high"]) Y Y (by rfl)) (λ _ _ _ _ _=>aj (i:=0) (by show List.Nodup (["_law_one","_law_bundle"]:Ks Str) ;decide +kernel) Y (Or.inl Y) (Or.inr Y)) (λ _ _ _ _ _=>aE) (λ _ _ _ _ _=>(DLS∩((pv 1)^^^((pv 0)^^^ab)))))^^^ab))))^^^ab) ∅ ∅ Y Y) (by intro _;rfl)))<|>(cD⁻¹)<|>aD)<<<((@ak _ _ _ _ _ _ _ _ _ (fb Y) Y B.all PyProof.Rows.boot_all ((aX (own:=["_law_one"]) (cs:=["_law_borne_here"]) (cap:=[5]) Y (aW (cR hu1 (pv 0) (@aG _ _ _ _ _ ((pv 3)^^^((pv 4)^^^ab))) (λ _ _=>Y))) (ay (sc:=defScope fo) (N:=["_law_told","_law_blade","_law_kinds","_law_wide","_law_high","_law_borne_here"]) Y Y ∅) (λ _ _ _ _ _=>aj (i:=0) (by show List.Nodup (["_law_one","_law_borne_here"]:Ks Str) ;decide +kernel) Y (Or.inl Y) (Or.inr Y)) (λ _ _ _ _ _=>aE) (λ _ _ _ _ _=>(@bJ _ _ _ _ _ _ _ _ (xu K Y hu65) (pv 0) (pv 1) Y)))^^^ab) ∅ ∅ Y Y)⁻¹)))|?_];have z4:100000<=sizeLine:=∅
 obtain⟨⟨b0,k1,k8,kw,w6⟩,b60,m8,n8,ll,rs,hta,el,td,hkl,tp⟩:=id td0;have wl:(wsK ks).length=ks.length:=B5 _;obtain⟨⟨p1,p2⟩,p3,p4⟩:=partsL_mem.mp pm;obtain⟨w1,hv1,hm1⟩:=dB (ss:=ll) (by rw[el];exact pm);obtain⟨d,as,rfl,hd,ba⟩:=td _ _ hm1;have al:=E5 ba;have g64:(gK b ks p).length<=64:=InB.few (ws0 kw) w6 (dS b0 p1 p3) (λ x hx=>eE kw hx);apply aq (λ σ' H'=>∃ (l:Ko) (bs:Ks Ko) (cs:Ks (Ks Int)),σ'=[↑ta,⇑b,↑kl,⇑p.1,⇑p.2,↑l]/\H' l=↥(bs.map V.ref)/\BsA H' bs cs/\(∀x,x∈cs↔x∈bnL b ks p)/\cs.length<=100000/\Same H H') (λ R hR=>?_) ?_
 ·exact%[_,Y,_,Y,_,Y,_,Y,_,Y,ta,kl,b,ks,m,n,p,Y,td0,pm|λ l bs cs H' a1 a2 a3 a4 a5=>hR _ _ %[l,bs,cs,Y,a1,a2,a3,a4|a5]]
 rintro _ H1 ⟨l,bs,cs,rfl,hl,bb,cm,cl,s1⟩;have bl:=E5 bb;apply aq (λ σ' H'=>σ'=[↑ta,⇑b,↑kl,⇑p.1,⇑p.2,↑l]/\Same H1 H') (λ R hR=>?_) ?_
 ·apply%[_,Y,l,Y,%[_|IV hl]|(bA (K:=K) (.inl hl) (λ i us Hx=>Same H1 Hx/\us=(List.replicate i true).map V.bl) (λ i us Hx _ ⟨sx,_⟩ o e=>sx _ _ e) %[Same.refl _|Y] ?_ ?_).1 hl]
  ·rintro i x us Hx hi ⟨sx,rfl⟩;have hin:=(A7.mp hi).1;have hin':i < bs.length:=by rw[B5]at hin;exact hin
   rw[IY]at hi;obtain⟨a,ha,rfl⟩:=JI.mp hi;obtain⟨c,hc,hac⟩:=IX bb ha;have cb:=(cm c).mp (B7 hc);have ic:=yM kw cb;obtain⟨t,mt,lt⟩:=qy b0 p1 p3 kw cb;apply%[by rw[B5,JT];lia,leS.set rfl|aF ?_];apply%[_,Y,_,Y,_,Y,zS2|λ kt hkt=>?_];apply aB hkt λ H2 k2 s2=>?_;have s12:=sx.trans s2;have hd2:H2 d=↥(as.map V.ref):=s12 _ _ (s1 _ _ hd);have ba2:BsA H2 as (gK b ks p):=ba.keep (Same.tps (s1.trans s12));apply%[ta,_,Y,hv1 ▸ DGet.t (k:=pk p) (s12 _ _ (s1 _ _ hta)) k2,d,Y,%[_|IV hd2]|(bA (K:=K) (.inl hd2) (λ j vs Hy=>Same H2 Hy/\vs=(((gK b ks p).take j).map λ t=>leB c t).map V.bl) (λ j vs Hy _ ⟨sy,_⟩ o e=>sy _ _ e) %[Same.refl _|Y] ?_ ?_).1 hd2]
   ·rintro j x vs Hy hj ⟨sy,rfl⟩;have hjn:=(A7.mp hj).1;have hjn':j < as.length:=by rw[B5]at hjn;exact hjn
    rw[IY]at hj;obtain⟨o,ho,rfl⟩:=JI.mp hj;obtain⟨u,hu',hou⟩:=IX ba2 ho;have iu:=eE kw (B7 hu');apply%[by rw[B5,B5,JJ];lia,leS.set rfl|aF %[_,Y,_,Y,a,o,c,u,Y,sy _ _ (s12 _ _ hac),sy _ _ hou,by rw[ic.1,iu.1],by rw[ic.1,wl];exact k8|λ H' s'=>Nx.of hjn %[sy.trans s'|?_]]];rw[JM,hu',JS,JE,JE]
    rfl
   ·rintro vs Hy ⟨sy,rfl⟩;rw[show(List.map V.ref as).length=(gK b ks p).length by rw[B5,al],Jb];apply%[by rw[B5,B5];lia|λ pl hpl=>%[pl,_,Y,IV ai|?_]];rw[show((gK b ks p).map λ t=>leB c t).any id=true from Js.mpr %[true,JH.mpr %[t,mt|lt]|Y]];apply Nx.of hin %[(s12.trans sy).trans (IT hpl)|?_];rw[List.replicate_succ',JE];rfl
  ·rintro us Hx ⟨sx,rfl⟩;apply%[by rw[B5,JT,B5];lia|λ pl hpl=>%[pl,_,Y,IV ai,_,Y|?_]];rw[show(List.replicate (List.map V.ref bs).length true).all id=true from KS.mpr λ x hx=>by rw[(KZ.mp hx).2];rfl];exact aT (hR _ _ %[rfl|sx.trans (IT hpl)])
 rintro _ H2 ⟨rfl,s2⟩;have s02:=s1.trans s2;have hl2:=s2 _ _ hl;have bb2:BsA H2 bs cs:=bb.keep (Same.tps s2);apply%[_,Y,_,Y,_,Y,zS2|λ kt hkt=>?_];apply aB hkt λ H3 k3 s3=>?_;have s03:=s02.trans s3;have hd3:H3 d=↥(as.map V.ref):=s03 _ _ hd;have ba3:BsA H3 as (gK b ks p):=ba.keep (Same.tps s03);apply%[ta,_,Y,hv1 ▸ DGet.t (k:=pk p) (s03 _ _ hta) k3,d,Y,%[_|IV hd3]|(bA (K:=K) (.inl hd3) (λ i us Hx=>Same H3 Hx/\us=(List.replicate i true).map V.bl) (λ i us Hx _ ⟨sx,_⟩ o e=>sx _ _ e) %[Same.refl _|Y] ?_ ?_).1 hd3]
 ·rintro i x us Hx hi ⟨sx,rfl⟩;have hin:=(A7.mp hi).1;have hin':i < as.length:=by rw[B5]at hin;exact hin
  rw[IY]at hi;obtain⟨a,ha,rfl⟩:=JI.mp hi;obtain⟨c,hc,hac⟩:=IX ba3 ha;have mc:=(cm c).mpr (Ba b0 p1 p3 (B7 hc));apply%[by rw[B5,JT];lia,leS.set rfl|aF ?_];apply%[_,Y,_,Y,.tuple (c.map PyData.int),bsD cs,.tup (IU (sx _ _ hac)) (uA _),.lst (IV (sx _ _ (s3 _ _ hl2))) (gq (bb2.keep (Same.tps (s3.trans sx)))),eA cs,mZ c,vD c cs|?_];rw[K1 ((mY c cs).2.mpr mc)];apply Nx.of hin %[sx|?_];rw[List.replicate_succ',JE];rfl
 ·rintro us Hx ⟨sx,rfl⟩;apply%[by rw[B5,JT,B5];lia|λ pl hpl=>%[pl,_,Y,IV ai|?_]];rw[show(List.replicate (List.map V.ref as).length true).all id=true from KS.mpr λ x hx=>by rw[(KZ.mp hx).2];rfl];exact q _ (s03.trans (sx.trans (IT hpl)))
end
theorem sE {C x dx:Ko} {H:Hp} (hx:H x=none) (hd:H dx=none):Same H (upd (upd H dx (.own x)) x (.ins C dx [])):=λ c o e=>by rw[ah (ae e hx),ah (ae e hd)];exact e
mutual
def wt:PyData->Nat
 | .str z=>z.length+1
 | .list ds=>wts ds+1
 | .tuple ds=>wts ds+1
 | _=>1
def wts:Ks PyData->Nat
 | []=>0
 | d :: r=>wt d+wts r
end
def Sm (i:Int):Prop:=0<=i/\i < 10 ^ 61
mutual
inductive Fit:PyData->Prop
 | bool (b:Bool):Fit (.bool b)
 | int {i:Int}:Sm i->Fit (.int i)
 | str {z:Str}:(PyData.str z).showable=true->(PyData.str z).shown.length<=90->Fit (.str z)
 | list {ds:Ks PyData}:Fits ds->Fit (.list ds)
 | tuple {ds:Ks PyData}:Fits ds->Fit (.tuple ds)
inductive Fits:Ks PyData->Prop
 | nil:Fits []
 | cons {d:PyData} {ds:Ks PyData}:Fit d->Fits ds->Fits (d :: ds)
end
mutual
theorem Fit.sh:∀ {d:PyData},Fit d->d.showable=true/\d.hasDict=false/\d.shown.length+2<=100 * wt d
 | _,.bool b=>by cases b <;> exact%[∅,∅|∅]
 | _,.int (i:=i) ⟨h0,h1⟩=>by
  have hs:Short i:=by
   have:(10:Int) ^ 61 < 10 ^ 62:=∅
   have e:((10 ^ 62:Nat):Int)=10 ^ 62:=∅
   unfold Short;lia
  have:=hs.len;exact%[by simp[PyData.showable,hs.log],by simp[PyData.hasDict]|by show _<=100 * 1;lia]
 | _,.str (z:=z) h1 h2=>⟨h1,by simp[PyData.hasDict],by
  show _<=100 * (z.length+1);lia⟩
 | _,.list (ds:=ds) h=>by obtain⟨h1,h2,h3,h4⟩:=h.sh;have:=listText_len_le (PyData.shownAll ds);apply%[by simp only[PyData.showable,h1],by simp only[PyData.hasDict,h2]|?_];show(PyData.list ds).shown.length+2<=100 * (wts ds+1);simp only[PyData.shown];lia
 | _,.tuple (ds:=ds) h=>by obtain⟨h1,h2,h3,h4⟩:=h.sh;have:=tupleText_len_le (PyData.shownAll ds);apply%[by simp only[PyData.showable,h1],by simp only[PyData.hasDict,h2]|?_];show(PyData.tuple ds).shown.length+2<=100 * (wts ds+1);simp only[PyData.shown];lia
theorem Fits.sh:∀ {ds:Ks PyData},Fits ds->PyData.showableAll ds=true/\PyData.hasDictAll ds=false/\((PyData.shownAll ds).map (·.length)).sum+2 * ds.length<=100 * wts ds/\(PyData.shownAll ds).length=ds.length
 | _,.nil=>%[Y,Y,B4 _|Y]
 | _,.cons (d:=d) (ds:=ds) a r=>by obtain⟨d1,d2,d3⟩:=a.sh;obtain⟨e1,e2,e3,e4⟩:=r.sh;apply%[by simp only[PyData.showableAll,d1,e1,Bool.and_self],by simp only[PyData.hasDictAll,d2,e2,Bool.or_self],?_|by simp only[PyData.shownAll,JF];lia];show _<=100 * (wt d+wts ds);simp only[PyData.shownAll,JA,Kf,JF];lia
end
theorem Fit.ok {d:PyData} (h:Fit d) (z:wt d<=100000):d.showable=true/\d.hasDict=false/\d.shown.length<=sizeLine:=by
 obtain⟨h1,h2,h3⟩:=h.sh;have:(10000000:Nat)<=sizeLine:=∅
 exact%[h1,h2|⋯]
def tdP (b:Int) (ks:Ks Kd) (p:Int×Int):PyData:=.tuple [.tuple [.int p.1,.int p.2],.list (bsD (gK b ks p))]
def tdD (b:Int) (ks:Ks Kd) (ps:Ks (Int×Int)):Ks PyData:=ps.map (tdP b ks)
theorem nh:∀ {ns:Ks Int},(∀x∈ns,Sm x)->Fits (ns.map PyData.int)/\wts (ns.map PyData.int)=ns.length
 | [],_=>%[.nil|Y]
 | n :: ns,h=>by obtain⟨h1,h2⟩:=nh (ns:=ns) λ x hx=>h x (B6 _ hx);apply%[.cons (.int (h n B9)) h1|?_];show 1+wts (ns.map PyData.int)=_;rw[h2,JF];lia
theorem vF:∀ {bs:Ks (Ks Int)},(∀b∈bs,b.length<=8/\∀x∈b,Sm x)->Fits (bsD bs)/\wts (bsD bs)<=9 * bs.length
 | [],_=>%[.nil|B4 _]
 | b :: bs,h=>by obtain⟨h1,h2⟩:=vF (bs:=bs) λ x hx=>h x (B6 _ hx);obtain⟨g1,g2⟩:=h b B9;obtain⟨i1,i2⟩:=nh g2;apply%[.cons (.tuple i1) h1|?_];show(wts (b.map PyData.int)+1)+wts (bsD bs)<=_;rw[i2,JF];lia
theorem vG {b:Int} {ks:Ks Kd} (kw:∀k∈ks,0<=k.wa) (k8:ks.length<=8) (w6:(wsK ks).sum<=6) (b0:0<=b):∀ {ps:Ks (Int×Int)},(∀p∈ps,1<=p.1/\p.1<=8/\1<=p.2/\p.2<=8)->Fits (tdD b ks ps)/\wts (tdD b ks ps)<=600 * ps.length
 | [],_=>%[.nil|B4 _]
 | p :: ps,h=>by
  obtain⟨h1,h2⟩:=vG kw k8 w6 b0 (ps:=ps) λ x hx=>h x (B6 _ hx);obtain⟨p1,p2,p3,p4⟩:=h p B9;have sm:∀x:Int,0<=x->x<=8->Sm x:=λ x x0 x8=>%[x0|Int.lt_of_le_of_lt x8 ∅]
  have g64:(gK b ks p).length<=64:=InB.few (ws0 kw) w6 (dS b0 p1 p3) (λ x hx=>eE kw hx);have wl:(wsK ks).length=ks.length:=B5 _;obtain⟨i1,i2⟩:=vF (bs:=gK b ks p) λ c hc=>by
   have ic:=eE kw hc;apply%[by rw[ic.1,wl];exact k8|λ x hx=>sm x (ic.2.2 x hx) ?_];have h1:=ic.sum;have h2:x<=c.sum:=by
    have:∀ (l:Ks Int),(∀y∈l,0<=y)->x∈l->x<=l.sum:=λ l=>by
     induction l with
     | nil=>intro _ h;cases h
     | cons z l ih=>
      intro h0 hm;have z0:=h0 z B9;have l0:=lH (ws:=l) λ y hy=>h0 y (B6 _ hy);rw[Kf];rcases IZ.mp hm with rfl | hm
      ·lia
      ·have:=ih (λ y hy=>h0 y (B6 _ hy)) hm;lia
    exact this c ic.2.2 hx
   lia
  apply%[.cons (.tuple (.cons (.tuple (.cons (.int (sm _ ⋯ ⋯)) (.cons (.int (sm _ ⋯ ⋯)) .nil))) (.cons (.list i1) .nil))) h1|?_];show wt (tdP b ks p)+wts (tdD b ks ps)<=_;have e:wt (tdP b ks p)=(wts (bsD (gK b ks p))+1)+4:=by show(1+(1+0)+1)+((wts (bsD (gK b ks p))+1)+0)+1=_;lia
  rw[e,JF];lia
theorem vH (b:Int) (ks:Ks Kd) (ps:Ks (Int×Int)):PyData.depthAll (tdD b ks ps)<=3:=by
 induction ps with
 | nil=>show PyData.depthAll []<=3;decide
 | cons p ps ih=>
  have e:tdD b ks (p :: ps)=tdP b ks p :: tdD b ks ps:=rfl;obtain⟨_,h⟩:=xR (gK b ks p);have d1:(PyData.tuple [.int p.1,.int p.2]).depth=1:=rfl;have d2:(PyData.list (bsD (gK b ks p))).depth<=2:=by rw[PyData.depth];lia
  have d3:(tdP b ks p).depth<=3:=by unfold tdP;rw[PyData.depth,PyData.depthAll,PyData.depthAll,PyData.depthAll,d1];lia
  rw[e,PyData.depthAll];lia
theorem Bb {b:Int} {ks:Ks Kd} {m n:Nat} (g:kH b ks) (m8:m<=8) (n8:n<=8):(PyData.list (tdD b ks (aw m n))).showable=true/\(PyData.list (tdD b ks (aw m n))).hasDict=false/\(PyData.list (tdD b ks (aw m n))).depth<=64/\(PyData.list (tdD b ks (aw m n))).shown.length<=sizeLine:=by
 obtain⟨b0,k1,k8,kw,w6⟩:=g;have pl:(aw m n).length<=64:=by rw[bZ];exact KH m8 n8
 obtain⟨f1,f2⟩:=vG kw k8 w6 b0 (ps:=aw m n) λ p hp=>by obtain⟨⟨p1,p2⟩,p3,p4⟩:=partsL_mem.mp hp;exact%[p1,⋯,p3|⋯]
 obtain⟨a1,a2,a3⟩:=Fit.ok (.list f1) (by show wts (tdD b ks (aw m n))+1<=100000;lia);apply%[a1,a2,?_|a3];have:=vH b ks (aw m n);rw[PyData.depth];lia
theorem yN {p q:Int×Int} (h:ltP p q):bg [q.1,q.2] [p.1,p.2]=false:=by
 unfold ltP at h;rcases h with h | ⟨h1,h2⟩
 ·rw[bg,Ky ⋯];exact B2 ⋯
 ·rw[bg,Kz ⋯,bg,Ky ⋯];exact B2 ⋯
theorem qz {K:C6} {b:Int} {ks:Ks Kd} {H:Hp}:∀ {ll:Ks ((Int×Int)×V)} {as:Ks Ko},TdOk b ks H ll->Paired (λ p kv=>∃q,H p= ~~~[.ref q,kv.2]/\H q= ~~~(kv.1.map kV)) as (byP ll)->DatVs K H (as.map V.ref) (tdD b ks (ll.map (·.1)))
 | [],_,_,h=>by cases h;exact .nil
 | x :: ll,_,td,h=>by
  cases h with
  | cons h1 h2=>
   obtain⟨q,a1,a2⟩:=h1;obtain⟨l,as,e,b1,b2⟩:=td x.1 x.2 B9;apply .cons (.tup (IU a1) (.cons (.tup (IU a2) (.cons (.int _) (.cons (.int _) .nil))) (.cons ?_ .nil))) (qz (λ q v m=>td q v (B6 _ m)) h2);show DatV K H x.2 _;rw[e];exact .lst (IV b1) (gq b2)
theorem kJ {K:C6} {b:Int} {ks:Ks Kd} {H:Hp} {r ta:Ko} {ll:Ks ((Int×Int)×V)} {m n:Nat} {Q:VK} (hr:H r=some (.ext (fH r ta))) (hta:H ta=some (.dT (byP ll))) (el:ll.map (·.1)=aw m n) (m8:m<=8) (n8:n<=8) (td:TdOk b ks H ll)
  (hq:∀ (L:Ko) (H':Hp),H L=none->DatV K H' (.ref L) (.list (tdD b ks (aw m n)))->Same H H'->Q (.ref L) H'):qi [.ref r] H Q:=by
 have pl:(aw m n).length<=64:=by rw[bZ];exact KH m8 n8
 have ekk:(byP ll).map (λ kv=>unK kv.1)=(aw m n).map λ q=>[q.1,q.2]:=by rw[<- el];unfold byP;rw[Jc,Jc];rfl
 have srt:((byP ll).map λ kv=>unK kv.1).Pairwise (λ x y=>bg y x=false):=by rw[ekk,List.pairwise_map];exact(cq n m).imp λ h=>yN h
 have nd:((byP ll).map λ kv=>unK kv.1).Nodup:=by
  rw[ekk];apply List.pairwise_map.mpr ((cq n m).imp λ {p q} h e=>?_);injection e with e1 e2
  injection e2 with e2 _
  unfold ltP at h;lia
 apply%[r,ta,byP ll,unK,Y,hr,.inl hta,by unfold byP;rw[B5,<- B5 (f:=(·.1)),el];lia,λ kv hkv=>?_,nd|λ L as' kvs' H' hL hL' pr pp ps sm=>?_]
 ·obtain⟨x,hx,rfl⟩:=JH.mp hkv;obtain⟨l,_,e,_⟩:=td x.1 x.2 hx;exact%[Y,l|e]
 ·have ek:kvs'=byP ll:=by
   apply List.Perm.eq_of_pairwise (le:=λ x y=>bg (unK y.1) (unK x.1)=false) (λ x y hx hy a1 a2=>?_) (List.pairwise_map.mp ps) (List.pairwise_map.mp srt) pp;have e:=cW _ _ a2 a1;obtain⟨i,hi⟩:=JZ.mp (pp.mem_iff.mp hx);obtain⟨j,hj⟩:=JZ.mp hy;have hi':((byP ll).map λ kv=>unK kv.1)[i]?=some (unK x.1):=by rw[IY,hi];rfl
   have hj':((byP ll).map λ kv=>unK kv.1)[j]?=some (unK y.1):=by rw[IY,hj];rfl
   obtain⟨il,ib⟩:=A7.mp hi';obtain⟨jl,jb⟩:=A7.mp hj';have:=(KD (h₀:=il) (h₁:=jl) nd).mp (by rw[ib,jb,e]);subst this;rw[hi]at hj;exact C0 hj
  subst ek;have:=qz (K:=K) (td.keep sm) pr;rw[el]at this;exact hq L H' hL (.lst (IV hL') this) sm
section
variable {P:IP} {w:IR} {K:C6} {mg:Str->Kq IS} {base:Heap}
def gG:Sp:=λ vs H Q _=>∃ (p:Ko),vs=[.ref p]/\PotB H p/\∀H',But p H H'->Q (.bl true) H'
def qA (K:C6):Sp:=λ vs H Q _=>∃ (a:Ko) (ns:Ks Int),vs=[.ref a]/\SqL K H a (ns.map V.int)/\ns.length<=63/\∀H',Q (.bl true) H'
theorem scright:FnScope ["_law_pot_here","_law_sides","_law_wide","_law_high","_law_kinds","_law_blade","_law_shop","_law_told","_law_a","_law_b","_law_kept","_law_part"] ["_law_pot_here"] (defScope lF):=%[Y,Y,Y,∅,Y,∅|∅]
theorem vI {f:Ko} {fd:IQ} (F:Fun K "_law_right" "_law_right" lF f fd) {C:Ko} (B:Blt mg) (hdc:mg "dict" = none) (DD:Dn P w K mg base "_law_draw" ["_law_pot_here","_law_many"] 1 (dX)) (DSK:Dn P w K mg base "_law_shop_kinds" ["_law_pot_here","_law_wide","_law_high","_law_many"] 3 (lM)) (DSB:Dn P w K mg base "_law_small_blade" ["_law_pot_here"] 2 (jq)) (DAK:Dn P w K mg base "_law_alike" ["_law_pot_here","_law_kinds"] 2 (lN)) (DGB:Dn P w K mg base "greatest_bundles" ["shop","wide","high"] 8 (jo C)) (DIL:Dn P w K mg base "_law_is_list" ["_law_found","_law_kinds"] 2 (jr)) (DWK:Dn P w K mg base "_law_walked" ["_law_told","_law_blade","_law_kinds","_law_wide","_law_high"] 4 (jt)) (DSh:Kn P w K mg base "Shop" C ["self","blade","kinds"] 3 (nJ C)):FnOk P w K mg base CX0 9 f fd ["_law_pot_here"] (gG):=by
 apply F.ok scright (λ vs H Q E h=>?_) (λ cdv A outer s H vs Q E hr h=>?_)
 ·obtain⟨p,rfl,_⟩:=h
  rfl
 obtain⟨p,rfl,pt,q⟩:=h;have nd:=scright.nd;have hu:=hr.units;have hu1:=C8 (Jh (show 1<=64 by decide) _) hu;have hu6:=hr.units66;have hg:=hr.gd;apply%[_,((1∣(@bW _ _ _ _ ((ad|||be|||(DD∩((pv 0)^^^(ad^^^ab))))^^^((ad|||be|||(DD∩((pv 0)^^^(ad^^^ab))))^^^ab))))<<<((((DD∩((pv 0)^^^(ad^^^ab)))<*>iA<*>ad)<|>(@ag _ _ _ (1∣(@bW _ _ _ _ ((ad|||be|||(DD∩((pv 0)^^^(ad^^^ab))))^^^((ad|||be|||(DD∩((pv 0)^^^(ad^^^ab))))^^^ab)))))<|>aD)<<<((@eK _ _ _ _ _ _ (pv 1) (uo Y (2•(3•bp))) Y Y Y)<<<((4∣(DSK∩((pv 0)^^^((pv 2)^^^((pv 3)^^^(((@bW _ _ _ _ (ad^^^(ad^^^(ad^^^(ad^^^(ad^^^ab))))))&&&bL&&&(DD∩((pv 0)^^^(ad^^^ab))))^^^ab))))))<<<((5∣(DSB∩((pv 0)^^^ab)))<<<((4∣(DAK∩((pv 0)^^^((pv 4)^^^ab))))<<<((6∣(AJ DSh (hr.mono ∅) Y ((pv 5)^^^((pv 4)^^^ab))))<<<((7∣(DGB∪((pv 6)^^^((pv 2)^^^((pv 3)^^^ab)))))<<<(((PW.pt (cF (@aU _ _ _ _ (@aM _ _ _ (@ak _ _ _ _ _ _ _ _ _ bu Y B.isi K7 ((pv 7)^^^((cJ (v:=.ty "dict") Y hdc PyProof.Rows.boot_dict Y)^^^ab)) ∅ ∅ Y Y) (by intro _;rfl))) (cG ((@ak _ _ _ _ _ _ _ _ _ nV Y B.len LI ((pv 7)^^^ab) ∅ ∅ Y Y)<*>jH<*>((pv 2)|||nr|||(pv 3))))))<|>(cD⁻¹)<|>aD)<<<((@bv _ _ _ _ _ _ _ _ E6 Y (eV Y B.range (ad^^^(((pv 2)|||be|||ad)^^^ab))) (aj (i:=8) nd Y (Or.inl Y)) (@ag _ _ _ (@bv _ _ _ _ _ _ _ _ E6 Y (eV Y B.range (ad^^^(((pv 3)|||be|||ad)^^^ab))) (aj (i:=9) nd Y (Or.inl Y)) (((PW.pt (cF (xY (rc hu1 (@aG _ _ _ _ _ ((pv 8)^^^((pv 9)^^^ab))) (pv 7))) (cG (@aU _ _ _ _ (@aM _ _ _ (DIL∩((cR hu1 (pv 7) (@aG _ _ _ _ _ ((pv 8)^^^((pv 9)^^^ab))) (λ _ _=>Y))^^^((pv 4)^^^ab))) (by intro _;rfl))))))<|>(cD⁻¹)<|>aD)>>>((@aU _ _ _ _ (@aM _ _ _ (DWK∩((pv 7)^^^((pv 5)^^^((pv 4)^^^((pv 8)^^^((pv 9)^^^ab)))))) (by intro _;rfl)))<|>(cD⁻¹)<|>aD)) (by intro _;rfl))) (by intro _;rfl))<<<((10∣(@ak _ _ _ _ _ _ _ _ _ (jS hg hu6) Y B.repr PyProof.Rows.boot_repr ((@ak _ _ _ _ _ _ _ _ _ (fz Y hu) Y B.sorted Ls ((ko (pv 7))^^^ab) ∅ ∅ Y Y)^^^ab) ∅ ∅ Y Y))<<<((@bv _ _ _ _ _ _ _ _ E6 Y (aW (@aS _ _ _ _ _ _ _ _ _ (fG Y) Y B.list Lj ((pv 7)^^^ab) ∅ ∅ Y Y)) (aj (i:=11) nd Y (Or.inl Y)) (@ag _ _ _ (@bS _ _ _ _ (@gJ _ _ _ _ _ _ _ _ _ _ _ _ IM PySem.F.slot_list_append PySem.F.type_list_append cV (cR hu1 (pv 7) (pv 11) (λ _ _=>Y)) ((pv 11)^^^ab) Y Y Y Y Y) Y)) (by intro _;rfl))<<<((@bS _ _ _ _ (yf PySem.F.plainAttrs_dict PySem.F.slot_dict_clear PySem.F.type_dict_clear rq (pv 7)) Y)<<<((@bJ _ _ _ _ _ _ _ _ iA (@ak _ _ _ _ _ _ _ _ _ (jS hg hu6) Y B.repr PyProof.Rows.boot_repr ((@ak _ _ _ _ _ _ _ _ _ (fz Y hu) Y B.sorted PyProof.Rows.boot_sorted ((ko (DGB∪((pv 6)^^^((pv 2)^^^((pv 3)^^^ab)))))^^^ab) ∅ ∅ Y Y)^^^ab) ∅ ∅ Y Y) (pv 10) (aJ _))⁻¹))))))))))))))|?_]
 have z4:100000<=sizeLine:=∅
 have e60:(10:Int) < 10 ^ 60:=∅
 apply aq (λ σ' H'=>∃ (sl:Ko) (x y:Int),σ'=[↑p,↑sl,none,none,none,none,none,none,none,none,none,none]/\sl≠p/\H' sl=↥[.int x,.int y]/\1<=x/\x<=8/\1<=y/\y<=8/\PotB H' p/\But p H H') (λ R hR=>?_) ?_
 ·apply%[_,Y,p,5,Y,pt,∅,∅|λ y1 Ha y10 y11 pa ba=>%[_,_,Y,Y,_,Y,p,5,Y,pa,∅,∅|λ y2 Hb y20 y21 pb bb=>%[_,_,Y,Y,zS2|λ sl hsl=>?_]]];apply aB hsl λ H1 k1 s1=>?_;exact hR _ _ ⟨sl,_,_,rfl,(λ e=>by obtain⟨_,_,_,_,_,h⟩:=pb;rw[<- e,hsl]at h;cases h),k1,⋯,⋯,⋯,⋯,pb.same s1,λ c o nn e=>s1 _ _ (bb _ _ nn (ba _ _ nn e))⟩
 rintro _ H1 ⟨sl,x,y,rfl,nsp,hsl,x1,x8,y1,y8,pt1,b1⟩;apply aq (λ σ' H'=>∃ (sl:Ko) (x y:Int),σ'=[↑p,↑sl,none,none,none,none,none,none,none,none,none,none]/\sl≠p/\H' sl=↥[.int x,.int y]/\1<=x/\x<=8/\1<=y/\y<=8/\PotB H' p/\But p H H') (λ R hR=>?_) ?_
 ·apply%[_,Y,p,16,Y,pt1,∅,∅|λ z H2 z0 z1 pt2 b2=>%[Y,_,Y|?_]];apply fu (λ cc=>?_) (λ cc=>hR _ _ %[sl,x,y,rfl,nsp,b2 _ _ nsp hsl,x1,x8,y1,y8,pt2|λ c o nn e=>b2 _ _ nn (b1 _ _ nn e)]);apply%[_,Y,p,8,Y,pt2,∅,∅|λ y1 Ha y10 y11 pa ba=>%[_,_,Y,Y,_,Y,p,8,Y,pa,∅,∅|λ y2 Hb y20 y21 pb bb=>%[_,_,Y,Y,zS2|λ sl hsl=>?_]]];apply aB hsl λ H3 k3 s3=>?_;exact hR _ _ ⟨sl,_,_,rfl,(λ e=>by obtain⟨_,_,_,_,_,h⟩:=pb;rw[<- e,hsl]at h;cases h),k3,⋯,⋯,⋯,⋯,pb.same s3,λ c o nn e=>s3 _ _ (bb _ _ nn (ba _ _ nn (b2 _ _ nn (b1 _ _ nn e))))⟩
 rintro _ H2 ⟨sl,x,y,rfl,nsp,hsl,x1,x8,y1,y8,pt2,b2⟩;obtain⟨m,rfl⟩:∃m:Nat,x=m:=%[x.toNat|(Int.toNat_of_nonneg ⋯).symm]
 obtain⟨n,rfl⟩:∃n:Nat,y=n:=%[y.toNat|(Int.toNat_of_nonneg ⋯).symm]
 apply aq (λ σ' H'=>σ'=[↑p,↑sl,⇑(m:Int),⇑(n:Int),none,none,none,none,none,none,none,none]/\H2=H') (λ R hR=>?_) ?_
 ·exact%[_,Y,sl,_,Y,.inl (IV hsl),Y,_,_,Y,_,_,Y,Y|hR _ _ %[Y|Y]]
 rintro _ _ ⟨rfl,rfl⟩;apply aq (λ σ' H'=>∃ (kl:Ko) (rs:Ks V) (ks:Ks Kd),σ'=[↑p,↑sl,⇑(m:Int),⇑(n:Int),↑kl,none,none,none,none,none,none,none]/\kl≠p/\H' kl=↥rs/\Tups H' rs ks/\fM ks/\1<=ks.length/\ks.length<=8/\PotB H' p/\But p H H') (λ R hR=>?_) ?_
 ·apply%[_,Y,_,Y,_,Y,zS5|λ l hl=>?_];apply aB hl λ H3 k3 s3=>?_;apply%[_,Y,p,5,Y,pt2.same s3,∅,∅|λ z H4 z0 z1 pt4 b4=>?_];have nl:l≠p:=(λ e=>by obtain⟨_,_,_,_,_,h⟩:=pt2;rw[<- e,hl]at h;cases h)
  have k4:=b4 _ _ nl k3;obtain⟨v,hv,v1,v8⟩:∃v:Nat,([.int 1,.int 2,.int 3,.int 4,.int 8]:Ks V)[z.toNat]? = ⇑(v:Int)/\1<=v/\v<=8:=by
   have:z=0\/z=1\/z=2\/z=3\/z=4:=⋯
   rcases this with rfl | rfl | rfl | rfl | rfl
   ·exact%[1,Y,∅|∅]
   ·exact%[2,Y,∅|∅]
   ·exact%[3,Y,∅|∅]
   ·exact%[4,Y,∅|∅]
   ·exact%[8,Y,∅|∅]
  apply%[l,_,z,_,Y,Y,IV k4,fV z0 hv,p,m,n,v,Y,pt4,x1,x8,y1,y8,v8|λ kl rs ks H5 nkp hn hkl tp gw kl' pt5 b5=>hR _ _ %[kl,rs,ks,Y,nkp,hkl,tp,gw,⋯,⋯,pt5|λ c o nn e=>b5 _ _ nn (b4 _ _ nn (s3 _ _ (b2 _ _ nn e)))]]
 rintro _ H3 ⟨kl,rs,ks,rfl,nkp,hkl,tp,gw,kl1,kl8,pt3,b3⟩;have tpk:∀ {Ha Hb:Hp} {c:Ko} {xs:Ks V},PotB Ha p->But p Ha Hb->Ha c= ~~~xs->Hb c= ~~~xs:=λ {Ha Hb c xs} pa bb e=>bb _ _ (λ z=>by obtain⟨_,_,_,_,_,h⟩:=pa;rw[z,h]at e;cases e) e;apply aq (λ σ' H'=>∃ (b:Int),σ'=[↑p,↑sl,⇑(m:Int),⇑(n:Int),↑kl,⇑b,none,none,none,none,none,none]/\0<=b/\b < 10 ^ 60/\H' kl=↥rs/\Tups H' rs ks/\PotB H' p/\But p H H') (λ R hR=>?_) ?_
 ·exact%[_,Y,p,Y,pt3|λ b H4 b0 b60 pt4 b4=>hR _ _ %[b,Y,b0,b60,b4 _ _ nkp hkl,Tups.keep (λ c xs e=>tpk pt3 b4 e) tp,pt4|λ c o nn e=>b4 _ _ nn (b3 _ _ nn e)]]
 rintro _ H4 ⟨b,rfl,b0,b60,hkl4,tp4,pt4,b4⟩;apply aq (λ σ' H'=>∃ (kl:Ko) (rs:Ks V) (ks:Ks Kd),σ'=[↑p,↑sl,⇑(m:Int),⇑(n:Int),↑kl,⇑b,none,none,none,none,none,none]/\kl≠p/\H' kl=↥rs/\Tups H' rs ks/\fM ks/\1<=ks.length/\ks.length<=8/\PotB H' p/\But p H H') (λ R hR=>?_) ?_
 ·exact%[_,Y,_,Y,p,kl,rs,ks,Y,pt4,nkp,hkl4,tp4,gw,kl8|λ kl' rs' ks' H5 a1 a2 a3 a4 a5 a6 a7=>hR _ _ %[kl',rs',ks',Y,a1,a2,a3,a4,⋯,⋯,a6|λ c o nn e=>a7 _ _ nn (b4 _ _ nn e)]]
 clear hkl tp gw kl1 kl8 hkl4 tp4 nkp;rintro _ H5 ⟨kl,rs,ks,rfl,nkp,hkl,tp,⟨gk,w6⟩,kl1,kl8,pt5,b5⟩;have rl:=E5 tp;apply aq (λ σ' H'=>∃ (sh:Ko),σ'=[↑p,↑sl,⇑(m:Int),⇑(n:Int),↑kl,⇑b,↑sh,none,none,none,none,none]/\ShopAt C H' sh b ks/\Same H5 H') (λ R hR=>?_) ?_
 ·apply%[_,Y,_,Y|?_];refineλ x dx hx hdx ne0=>?_;have sm:Same H5 (upd (upd H5 dx (.own x)) x (.ins C dx [])):=sE hx hdx;apply%[x,dx,kl,b,rs,ks,Y,ai,b0,.inl (sm _ _ hkl),IW (Tups.keep (λ c xs e=>sm _ _ e) tp) (λ v k h=>.inl h),gk,⋯,⋯|λ Hb Sb kb=>%[Y|?_]];exact hR _ _ %[x,rfl,Sb|λ c o e=>kb c o (ae e hx) (sm _ _ e)]
 rintro _ H6 ⟨sh,rfl,S6,s6⟩;have good:kH b ks:=%[b0,kl1,kl8,λ k h=>(gk k h).wa|w6]
 have m8:m<=8:=⋯
 have n8:n<=8:=⋯
 apply aq (λ σ' H'=>∃ (ta:Ko) (ll:Ks ((Int×Int)×V)),σ'=[↑p,↑sl,⇑(m:Int),⇑(n:Int),↑kl,⇑b,↑sh,↑ta,none,none,none,none]/\H6 ta=none/\H' ta=some (.dT (byP ll))/\ll.map (·.1)=aw m n/\(∀q v,(q,v)∈ll->LsA H6 H' v (gK b ks q))/\Same H6 H') (λ R hR=>?_) ?_
 ·exact%[_,Y,_,Y,_,Y,sh,b,ks,m,n,Y,S6,good,⋯,m8,⋯,n8|λ ta ll H' a1 a2 a3 a4 a5=>hR _ _ %[ta,ll,Y,a1,a2,a3,a4|a5]]
 rintro _ H7 ⟨ta,ll,rfl,hta0,hta,el,lsa,s7⟩;have tdk:TdOk b ks H7 ll:=λ q v mm=>by obtain⟨l,as,e,_,h1,h2⟩:=lsa q v mm;exact%[l,as,e,h1|h2]
 have lll:ll.length=m * n:=by rw[<- B5 (f:=(·.1)),el,bZ]
 apply aq (λ σ' H'=>σ'=[↑p,↑sl,⇑(m:Int),⇑(n:Int),↑kl,⇑b,↑sh,↑ta,none,none,none,none]/\H7=H') (λ R hR=>?_) ?_
 ·apply%[_,Y,_,_,_,_,_,Y,.dT hta,Y,Y,_,Y|aT ?_];apply%[_,Y,ta,_,Y,hta,_,Y,_,Y,_,_,Y,Y,.inl %[⋯|⋯],Y,_,Y|?_];rw[show(byP ll).length=m * n by unfold byP;rw[B5];exact lll,show(!decide (V.int ((m * n:Nat):Int)=V.int ((m:Int) * (n:Int))))=false by rw[K1 (by rw[Int.natCast_mul])];rfl];exact aT (hR _ _ %[rfl|rfl])
 rintro _ _ ⟨rfl,rfl⟩;have s57:=s6.trans s7;have told7:xy b ks m n H7 ta kl:=%[good,b60,m8,n8,ll,rs,hta,el,tdk,s57 _ _ hkl|Tups.keep (λ c xs e=>s57 _ _ e) tp]
 have toldk:∀ {Hx:Hp},Same H7 Hx->xy b ks m n Hx ta kl:=λ sx=>%[good,b60,m8,n8,ll,rs,sx _ _ hta,el,tdk.keep sx,sx _ _ (s57 _ _ hkl)|Tups.keep (λ c xs e=>sx _ _ (s57 _ _ e)) tp]
 apply aq (λ σ' H'=>∃v8 v9:Kq V,σ'=[↑p,↑sl,⇑(m:Int),⇑(n:Int),↑kl,⇑b,↑sh,↑ta,v8,v9,none,none]/\Same H7 H') (λ R hR=>?_) ?_
 ·apply%[_,Y,_,_,Y,Y,1,_,Y,%[∅,∅,⋯|⋯]|?_];rw[show((m:Int)+1 - 1).toNat=m by lia];apply eW (lo:=1) (n:=m) (λ i σ' H'=>∃v8 v9:Kq V,σ'=[↑p,↑sl,⇑(m:Int),⇑(n:Int),↑kl,⇑b,↑sh,↑ta,v8,v9,none,none]/\Same H7 H') %[none,none,rfl|Same.refl _] ?_ (λ σ Hx h=>hR _ _ h);rintro i σ Hx him ⟨v8,v9,rfl,sx⟩;apply%[_,Y,_,_,Y,Y,1,_,Y,%[∅,∅,⋯|⋯]|?_];rw[show((n:Int)+1 - 1).toNat=n by lia];apply eW (lo:=1) (n:=n) (λ j σ' H'=>∃v9:Kq V,σ'=[↑p,↑sl,⇑(m:Int),⇑(n:Int),↑kl,⇑b,↑sh,↑ta,⇑(1+(i:Int)),v9,none,none]/\Same H7 H') %[v9,rfl|sx] ?_ (λ σ Hy ⟨v9,e,sy⟩=>%[_,v9,e|sy]);rintro j σ Hy hjn ⟨v9,rfl,sy⟩;obtain⟨pq,epq⟩:∃pq:Int×Int,pq=(1+(i:Int),1+(j:Int)):=%[_|Y]
  have pm:pq∈aw m n:=by rw[epq];exact partsL_mem.mpr %[%[by show 1<=1+(i:Int);lia|by show 1+(i:Int)<=m;lia],by show 1<=1+(j:Int);lia|by show 1+(j:Int)<=n;lia]
  obtain⟨⟨q1,_⟩,q3,_⟩:=partsL_mem.mp pm;obtain⟨v,hv,hm⟩:=dB (ss:=ll) (by rw[el];exact pm);obtain⟨l,as,rfl,hl,ba⟩:=tdk _ _ hm;have kwa:∀k∈ks,0<=k.wa:=λ k h=>(gk k h).wa;have g0:gK b ks pq≠[]:=λ z=>by obtain⟨t,mt,_⟩:=qy b0 q1 q3 kwa (x:=bR ks.length) (p:=pq) (by unfold bnL;exact B8 _ B9);rw[z]at mt;cases mt
  have g64:(gK b ks pq).length<=64:=InB.few (ws0 kwa) w6 (dS b0 q1 q3) (λ x hx=>eE kwa hx);have gs:(gK b ks pq).Pairwise (λ x y=>bg y x=false):=by rw[kG b0 pq q1 q3];exact rY _
  have ga:∀a∈gK b ks pq,∀c∈gK b ks pq,a≠c->leB a c=false:=λ a ma c mc ne=>by
   rw[kG b0 pq q1 q3]at ma mc;have h:=(mem_topB.mp ma).2 c (mem_topB.mp mc).1;cases e:leB a c with
   | false=>rfl
   | true=>rw[lesB_iff.mpr %[ne|e]]at h;cases h
  apply aq (λ σ' H'=>σ'=[↑p,↑sl,⇑(m:Int),⇑(n:Int),↑kl,⇑b,↑sh,↑ta,⇑(1+(i:Int)),⇑(1+(j:Int)),none,none]/\Same H7 H') (λ R hR=>?_) ?_
  ·apply%[_,Y,_,Y,zS2|λ kt hkt=>?_];apply aB hkt λ H8 k8 s8=>?_;have s78:=sy.trans s8;have k8q:H8 kt= ~~~((pk pq).map kV):=by rw[epq];exact k8
   apply%[_,Y,ta,↑l,Y,hv ▸ DGet.t (k:=pk pq) (s78 _ _ hta) k8q,_,Y|aT ?_];apply%[_,Y,_,Y,_,Y,zS2|λ kt2 hkt2=>?_];apply aB hkt2 λ H9 k9 s9=>?_;have s79:=s78.trans s9;have k9':H9 kt2= ~~~((pk pq).map kV):=by rw[epq];exact k9
   apply%[ta,.ref l,Y,hv ▸ DGet.t (k:=pk pq) (s79 _ _ hta) k9',_,Y,l,kl,as,gK b ks pq,rs,ks,Y,s79 _ _ hl,ba.keep (Same.tps s79),g0,g64,gs,(λ x hx=>eE kwa hx),dS b0 q1 q3,ga,s79 _ _ (s57 _ _ hkl),Tups.keep (λ c xs e=>s79 _ _ (s57 _ _ e)) tp,kl1,kl8|λ Hz sz=>%[_,Y|aT (hR _ _ %[Y|s79.trans sz])]]
  rintro _ H8 ⟨rfl,s8⟩;apply%[_,Y,_,Y,_,Y,_,Y,_,Y,ta,kl,b,ks,m,n,pq,by rw[epq];rfl,toldk s8,pm|λ Hz sz=>%[_,Y|aT %[_,Y|s8.trans sz]]]
 rintro _ H8 ⟨v8,v9,rfl,s8⟩;obtain⟨D,eD⟩:∃D,D=PyData.list (tdD b ks (aw m n)):=%[_|Y]
 obtain⟨d1,d2,d3,d4⟩:=Bb good m8 n8;rw[<- eD]at d1 d2 d3 d4;apply aq (λ σ' H'=>σ'=[↑p,↑sl,⇑(m:Int),⇑(n:Int),↑kl,⇑b,↑sh,↑ta,v8,v9,some (.str D.shown),none]/\Same H7 H') (λ R hR=>?_) ?_
 ·apply%[_,Y,ta,byP ll,Y,.inl (s8 _ _ hta)|λ r hr=>?_];have sr:=s8.trans (IT hr (o:=.ext (fH r ta)));dsimp only[qL];apply kJ (K:=K) ai (sr _ _ hta) el m8 n8 (tdk.keep sr) λ L H9 hL dat s9=>?_;rw[<- eD]at dat;exact%[L,_,Y,dat,d1,d2,d3,d4|hR _ _ %[Y|sr.trans s9]]
 rintro _ H9 ⟨rfl,s9⟩;apply aq (λ σ' H'=>∃v11:Kq V,σ'=[↑p,↑sl,⇑(m:Int),⇑(n:Int),↑kl,⇑b,↑sh,↑ta,v8,v9,some (.str D.shown),v11]/\H' ta=some (.dT (byP ll))/\Same H6 H') (λ R hR=>?_) ?_
 ·apply%[_,Y,ta,byP ll,Y,.inl (s9 _ _ hta)|λ l as hl pas=>?_];apply aB hl λ H10 k10 s10=>?_;have s710:=s9.trans s10;have pal:=E5 pas;have bpl:(byP ll).length<=64:=by unfold byP;rw[B5,lll];exact KH m8 n8
  apply%[l,Y,%[_|IV k10]|cr (xs:=as.map V.ref) (λ i σ' H'=>∃v11:Kq V,σ'=[↑p,↑sl,⇑(m:Int),⇑(n:Int),↑kl,⇑b,↑sh,↑ta,v8,v9,some (.str D.shown),v11]/\(∀c o,(∀xs,o≠.lst xs)->H10 c=some o->H' c=some o)/\H' l=↥(as.map V.ref)/\Same H6 H'/\∀q v,(q,v)∈ll->∃l' xs,v=.ref l'/\l'≠l/\H6 l'=none/\H' l'=↥xs/\xs.length<=64+i) %[none,Y,(λ c o _ e=>e),k10,s7.trans s710|λ q v mm=>?_] (λ i σ Hx _ ⟨_,_,_,h,_⟩=>IV h) ?_ ?_]
  ·obtain⟨l',as',e,h0,h1,h2⟩:=lsa q v mm;apply%[l',_,e,λ z=>?_,h0,s710 _ _ h1|?_]
   ·have:=s9 _ _ h1;rw[z,hl]at this;cases this
   ·have kwa:∀k∈ks,0<=k.wa:=λ k h=>(gk k h).wa;have qm:q∈aw m n:=by rw[<- el];exact JH.mpr %[_,mm|Y]
    obtain⟨⟨q1,_⟩,q3,_⟩:=partsL_mem.mp qm;have g64:(gK b ks q).length<=64:=InB.few (ws0 kwa) w6 (dS b0 q1 q3) (λ x hx=>eE kwa hx);rw[B5,Paired.length h2];lia
  ·rintro i x σ Hx hi ⟨v11,rfl,nl,hlx,sx,lx⟩;have hin:i < as.length:=by have:=(A7.mp hi).1;rw[B5]at this;exact this
   rw[IY]at hi;obtain⟨c,hc,rfl⟩:=JI.mp hi;obtain⟨kv,hkv,hck⟩:=IX pas hc;obtain⟨y,hy,e⟩:=JH.mp (B7 hkv);obtain⟨qq,v⟩:=y;obtain⟨w,hw,mw⟩:=dB (ss:=ll) (p:=qq) (JH.mpr %[_,hy|Y]);obtain⟨l',xs,rfl,nl',hn6,hl',xl⟩:=lx _ _ mw;have hcx:Hx c= ~~~((pk qq).map kV):=by apply nl _ _ (λ _ z=>by cases z) (s10 _ _ ?_);rw[hck,<- e]
   have htx:Hx ta=some (.dT (byP ll)):=nl _ _ (λ _ z=>by cases z) (s710 _ _ hta);apply%[_,Y,_,Y,ta,.ref l',Y,hw ▸ DGet.t (k:=pk qq) htx hcx,.inl %[Y,_|IV hl'],_,Y,l',xs,_,Y,Y,hl',⋯,_,Y,λ c' o no e'=>?_,?_,λ c' o e'=>?_|λ q' v' mm=>?_]
   ·rw[ah (λ z=>by rw[z]at e';have:=nl _ _ no e';rw[hl']at this;cases this;exact no _ rfl)];exact nl _ _ no e'
   ·rw[ah (Ne.symm nl')];exact hlx
   ·rw[ah (λ z=>by rw[z,hn6]at e';cases e')];exact sx _ _ e'
   ·obtain⟨l2,xs2,e2,n2,h2,h3,h4⟩:=lx q' v' mm
    by_cases z:l2=l'
    ·subst z;exact%[l2,_,e2,n2,h2,ai|by rw[hl']at h3;cases h3;rw[JD];simp;lia]
    ·exact%[l2,xs2,e2,n2,h2,by rw[ah z];exact h3|⋯]
  ·rintro σ Hx ⟨v11,rfl,nl,hlx,sx,lx⟩;exact hR _ _ ⟨v11,rfl,nl _ _ (λ _ z=>by cases z) (s710 _ _ hta),sx⟩
 rintro _ H10 ⟨v11,rfl,h10,s10⟩;apply aq (λ σ' H'=>σ'=[↑p,↑sl,⇑(m:Int),⇑(n:Int),↑kl,⇑b,↑sh,↑ta,v8,v9,some (.str D.shown),v11]/\Same H6 H') (λ R hR=>?_) ?_
 ·exact%[_,Y,.inr (.inr (.inl %[Y|.inr %[_|h10]])),ta,_,Y,Y,h10|hR _ _ %[Y|λ c o e=>by rw[ah (ae e hta0)];exact s10 _ _ e]]
 rintro _ H11 ⟨rfl,s11⟩;apply%[_,Y,_,Y,_,Y,sh,b,ks,m,n,Y,S6.keep (λ c xs e=>s11 _ _ e) (λ c C' d fs e=>s11 _ _ e),good,⋯,m8,⋯,n8|λ ta2 ll2 H12 a1 a2 a3 a4 a5=>?_];have td2:TdOk b ks H12 ll2:=λ q v mm=>by obtain⟨l,as,e,_,h1,h2⟩:=a4 q v mm;exact%[l,as,e,h1|h2]
 apply%[ta2,byP ll2,Y,.inl a2|λ r hr=>?_];have sr:=IT hr (o:=.ext (fH r ta2));dsimp only[qL];apply kJ (K:=K) ai (sr _ _ a2) a3 m8 n8 (td2.keep sr) λ L H13 hL dat s13=>?_;rw[<- eD]at dat;apply%[L,_,Y,dat,d1,d2,d3,d4,_,Y,Y|?_];rw[K1 rfl];exact q _ λ c o nn e=>s13 _ _ (sr _ _ (a5 _ _ (s11 _ _ (s6 _ _ (b5 _ _ nn e)))))
theorem sclaw:FnScope ["_law_script","_law_k"] ["_law_script"] (defScope mQ):=%[Y,Y,Y,∅,Y,∅|∅]
theorem yO {f:Ko} {fd:IQ} (F:Fun K "law" "law" mQ f fd) (B:Blt mg) (DCE:Dn P w K mg base "_law_cell" ["_law_script","_law_k"] 1 (nN K)) (DP:Dn P w K mg base "_law_pot" ["_law_cell_here"] 1 (nO)) (DR:Dn P w K mg base "_law_right" ["_law_pot_here"] 9 (gG)):FnOk P w K mg base CX0 10 f fd ["_law_script"] (qA K):=by
 apply F.ok sclaw (λ vs H Q E h=>?_) (λ cdv A outer s H vs Q E hr h=>?_)
 ·obtain⟨a,ns,rfl,_⟩:=h
  rfl
 obtain⟨a,ns,rfl,hS,n63,q⟩:=h;have nd:=sclaw.nd;apply%[_,((@bv _ _ _ _ _ _ _ _ E6 Y (eU Y B.range (((@ak _ _ _ _ _ _ _ _ _ (cU Y) Y B.min LZ ((@ak _ _ _ _ _ _ _ _ _ aK Y B.len LI ((pv 0)^^^ab) ∅ ∅ Y Y)^^^(ad^^^ab)) ∅ ∅ Y Y)|||be|||ad)^^^ab)) (aj (i:=1) nd Y (Or.inl Y)) (@ag _ _ _ ((@aU _ _ _ _ (@aM _ _ _ (DR∪((DP∩((DCE∩((pv 0)^^^((pv 1)^^^ab)))^^^ab))^^^ab)) (by intro _;rfl)))<|>(cD⁻¹)<|>aD)) (by intro _;rfl))<<<(cD⁻¹))|?_];have hl:(ns.map V.int).length=ns.length:=B5 _;apply aq (λ σ' H'=>∃v1:Kq V,σ'=[↑a,v1]/\Same H H') (λ R hR=>?_) ?_
 ·apply%[_,Y,a,_,Y,.inl hS,_,_,Y,_,_,Y,Y,_,Y,?_,?_|?_]
  ·rw[hl];split <;> lia
  ·rw[hl];split <;> lia
  apply eW (lo:=0) (λ i σ' H'=>∃v1:Kq V,σ'=[↑a,v1]/\Same H H') %[none,rfl|Same.refl _] ?_ (λ σ Hx h=>hR _ _ h);rintro i σ Hx hi ⟨v1,rfl,sx⟩;apply%[_,Y,_,Y,a,ns,_,Y,Same.seq sx hS,⋯|λ c=>?_];apply%[c,Y|λ p H1 hp pt s1=>?_];apply%[p,Y,pt|λ H2 b2=>%[_,Y|aT %[_,Y|λ b o e=>b2 _ _ (ae (sx _ _ e) hp) (s1 _ _ (sx _ _ e))]]]
 rintro _ H1 ⟨v1,rfl,s1⟩;exact q H1
end
theorem Gn {α:Type} {us:Ks α} (h:us.length=1):∃a,us=[a]:=by
 match us,h with
 | [a],_=>exact%[a|Y]
theorem yP {α:Type} {us:Ks α} (h:us.length=2):∃a b,us=[a,b]:=by
 match us,h with
 | [a,b],_=>exact%[a,b|Y]
theorem vJ {α:Type} {us:Ks α} (h:us.length=3):∃a b c,us=[a,b,c]:=by
 match us,h with
 | [a,b,c],_=>exact%[a,b,c|Y]
theorem Go {α:Type} {us:Ks α} (h:us.length=4):∃a b c d,us=[a,b,c,d]:=by
 match us,h with
 | [a,b,c,d],_=>exact%[a,b,c,d|Y]
theorem Gp {α:Type} {us:Ks α} (h:us.length=5):∃a b c d e,us=[a,b,c,d,e]:=by
 match us,h with
 | [a,b,c,d,e],_=>exact%[a,b,c,d,e|Y]
abbrev DI (K:C6) (n:Str) (st:Stmt) (f:Ko):Prop:=∃ (od an:Kq Ko) (sl:Kr (Kq IS)) (oc kV dc pm cd ct:IS),PySem.W.nsIn K Kt n=some (↑f)/\K.lookup f=some %[oc,od,.func (E8 n n (defArgs st) (defBody st) (defScope st) .none kV dc pm an cd ct)|sl]/\PySem.W.codeIn K cd n=true/\PySem.W.keepIn K (.ref f)=true
abbrev MI (K:C6) (C:Ko) (n q:Str) (st:Stmt) (f:Ko):Prop:=∃ (od an:Kq Ko) (sl:Kr (Kq IS)) (oc kV dc pm cd ct:IS),PySem.W.findIn K (.ref C) n=some (↑f)/\PySem.W.isFn K (.ref f)=true/\K.lookup f=some %[oc,od,.func (E8 n q (defArgs st) (defBody st) (defScope st) .none kV dc pm an cd ct)|sl]/\PySem.W.codeIn K cd q=true/\PySem.W.keepIn K (.ref f)=true
theorem diM {K:C6} {n:Str} {st:Stmt} {f:Ko} {od an:Kq Ko} {sl:Kr (Kq IS)} {oc kV dc pm cd ct:IS} (a:PySem.W.nsIn K Kt n=some (↑f)) (l:K.lookup f=some %[oc,od,.func (E8 n n (defArgs st) (defBody st) (defScope st) .none kV dc pm an cd ct)|sl]) (c:PySem.W.codeIn K cd n=true) (k:PySem.W.keepIn K (.ref f)=true):DI K n st f:=%[_,_,_,_,_,_,_,_,_,a,l,c|k]
theorem miM {K:C6} {C:Ko} {n q:Str} {st:Stmt} {f:Ko} {od an:Kq Ko} {sl:Kr (Kq IS)} {oc kV dc pm cd ct:IS} (a:PySem.W.findIn K (.ref C) n=some (↑f)) (i:PySem.W.isFn K (.ref f)=true) (l:K.lookup f=some %[oc,od,.func (E8 n q (defArgs st) (defBody st) (defScope st) .none kV dc pm an cd ct)|sl]) (c:PySem.W.codeIn K cd q=true) (k:PySem.W.keepIn K (.ref f)=true):MI K C n q st f:=%[_,_,_,_,_,_,_,_,_,a,i,l,c|k]
inductive DE (K:C6) (mg:Str->Kq Value) (n:Str) (st:Stmt) (f:Ko) (ps:Ks Str):Prop
 | mk (fd:IQ) (F:Fun K n n st f fd) (b:Binds K fd ps []) (k:PySem.W.keepIn K (.ref f)=true) (q:mg n=↑f):DE K mg n st f ps
theorem diE {K:C6} {h:Heap} {mg:Str->Kq IS} {n:Str} {st:Stmt} {f:Ko} (X:K.In h) (G:h.Ns Kt mg) (d:DI K n st f) (ps:Ks Str) (hb:∀ (kV dc pm:IS) (an:Kq Ko) (cd ct:IS) (us:Ks IS),us.length=ps.length->bindArgs (E8 n n (defArgs st) (defBody st) (defScope st) .none kV dc pm an cd ct) %[us|[]]=pure (ps.zip us)):DE K mg n st f ps:=by obtain⟨_,_,_,_,_,_,_,_,_,a,l,c,k⟩:=d;have F:=nG (st:=st) l c k;exact%[_,F,F.binds hb,k|PySem.W.mg_of X G a]
inductive ME (K:C6) (C:Ko) (n q:Str) (st:Stmt) (f:Ko) (ps:Ks Str):Prop
 | mk (fd:IQ) (F:Fun K n q st f fd) (b:Binds K fd ps []) (k:PySem.W.keepIn K (.ref f)=true) (a:PySem.W.findIn K (.ref C) n=some (↑f)) (i:PySem.W.isFn K (.ref f)=true):ME K C n q st f ps
theorem miE {K:C6} {C:Ko} {n q:Str} {st:Stmt} {f:Ko} (d:MI K C n q st f) (ps:Ks Str) (hb:∀ (kV dc pm:IS) (an:Kq Ko) (cd ct:IS) (us:Ks IS),us.length=ps.length->bindArgs (E8 n q (defArgs st) (defBody st) (defScope st) .none kV dc pm an cd ct) %[us|[]]=pure (ps.zip us)):ME K C n q st f ps:=by obtain⟨_,_,_,_,_,_,_,_,_,a,i,l,c,k⟩:=d;have F:=nG (st:=st) l c k;exact%[_,F,F.binds hb,k,a|i]
theorem bd1 {n q:Str} {st:Stmt} {a:Str} (h:∀ (kV dc pm:IS) (an:Kq Ko) (cd ct ua:IS),bindArgs (E8 n q (defArgs st) (defBody st) (defScope st) .none kV dc pm an cd ct) %[[ua]|[]]=pure [(a,ua)]):∀ (kV dc pm:IS) (an:Kq Ko) (cd ct:IS) (us:Ks IS),us.length=[a].length->bindArgs (E8 n q (defArgs st) (defBody st) (defScope st) .none kV dc pm an cd ct) %[us|[]]=pure ([a].zip us):=by intro _ _ _ _ _ _ us hl;obtain⟨_,rfl⟩:=Gn hl;exact h _ _ _ _ _ _ _
theorem bd2 {n q:Str} {st:Stmt} {a b:Str} (h:∀ (kV dc pm:IS) (an:Kq Ko) (cd ct ua ub:IS),bindArgs (E8 n q (defArgs st) (defBody st) (defScope st) .none kV dc pm an cd ct) %[[ua,ub]|[]]=pure [(a,ua),(b,ub)]):∀ (kV dc pm:IS) (an:Kq Ko) (cd ct:IS) (us:Ks IS),us.length=[a,b].length->bindArgs (E8 n q (defArgs st) (defBody st) (defScope st) .none kV dc pm an cd ct) %[us|[]]=pure ([a,b].zip us):=by intro _ _ _ _ _ _ us hl;obtain⟨_,_,rfl⟩:=yP hl;exact h _ _ _ _ _ _ _ _
theorem bd3 {n q:Str} {st:Stmt} {a b c:Str} (h:∀ (kV dc pm:IS) (an:Kq Ko) (cd ct ua ub uc:IS),bindArgs (E8 n q (defArgs st) (defBody st) (defScope st) .none kV dc pm an cd ct) %[[ua,ub,uc]|[]]=pure [(a,ua),(b,ub),(c,uc)]):∀ (kV dc pm:IS) (an:Kq Ko) (cd ct:IS) (us:Ks IS),us.length=[a,b,c].length->bindArgs (E8 n q (defArgs st) (defBody st) (defScope st) .none kV dc pm an cd ct) %[us|[]]=pure ([a,b,c].zip us):=by intro _ _ _ _ _ _ us hl;obtain⟨_,_,_,rfl⟩:=vJ hl;exact h _ _ _ _ _ _ _ _ _
theorem bd4 {n q:Str} {st:Stmt} {a b c d:Str} (h:∀ (kV dc pm:IS) (an:Kq Ko) (cd ct ua ub uc ud:IS),bindArgs (E8 n q (defArgs st) (defBody st) (defScope st) .none kV dc pm an cd ct) %[[ua,ub,uc,ud]|[]]=pure [(a,ua),(b,ub),(c,uc),(d,ud)]):∀ (kV dc pm:IS) (an:Kq Ko) (cd ct:IS) (us:Ks IS),us.length=[a,b,c,d].length->bindArgs (E8 n q (defArgs st) (defBody st) (defScope st) .none kV dc pm an cd ct) %[us|[]]=pure ([a,b,c,d].zip us):=by intro _ _ _ _ _ _ us hl;obtain⟨_,_,_,_,rfl⟩:=Go hl;exact h _ _ _ _ _ _ _ _ _ _
theorem bd5 {n q:Str} {st:Stmt} {a b c d e:Str} (h:∀ (kV dc pm:IS) (an:Kq Ko) (cd ct ua ub uc ud ue:IS),bindArgs (E8 n q (defArgs st) (defBody st) (defScope st) .none kV dc pm an cd ct) %[[ua,ub,uc,ud,ue]|[]]=pure [(a,ua),(b,ub),(c,uc),(d,ud),(e,ue)]):∀ (kV dc pm:IS) (an:Kq Ko) (cd ct:IS) (us:Ks IS),us.length=[a,b,c,d,e].length->bindArgs (E8 n q (defArgs st) (defBody st) (defScope st) .none kV dc pm an cd ct) %[us|[]]=pure ([a,b,c,d,e].zip us):=by intro _ _ _ _ _ _ us hl;obtain⟨_,_,_,_,_,rfl⟩:=Gp hl;exact h _ _ _ _ _ _ _ _ _ _ _
theorem lx7 {α:Type} {us:Ks α} (h:us.length=7):∃a b c d e f g,us=[a,b,c,d,e,f,g]:=by
 match us,h with
 | [a,b,c,d,e,f,g],_=>exact%[a,b,c,d,e,f,g|Y]
theorem bd7 {n q:Str} {st:Stmt} {a b c d e f g:Str} (h:∀ (kV dc pm:IS) (an:Kq Ko) (cd ct ua ub uc ud ue uf ug:IS),bindArgs (E8 n q (defArgs st) (defBody st) (defScope st) .none kV dc pm an cd ct) %[[ua,ub,uc,ud,ue,uf,ug]|[]]=pure [(a,ua),(b,ub),(c,uc),(d,ud),(e,ue),(f,uf),(g,ug)]):∀ (kV dc pm:IS) (an:Kq Ko) (cd ct:IS) (us:Ks IS),us.length=[a,b,c,d,e,f,g].length->bindArgs (E8 n q (defArgs st) (defBody st) (defScope st) .none kV dc pm an cd ct) %[us|[]]=pure ([a,b,c,d,e,f,g].zip us):=by intro _ _ _ _ _ _ us hl;obtain⟨_,_,_,_,_,_,_,rfl⟩:=lx7 hl;exact h _ _ _ _ _ _ _ _ _ _ _ _ _
theorem HJ {α:Type} {us:Ks α} (h:us.length=6):∃a b c d e f,us=[a,b,c,d,e,f]:=by
 match us,h with
 | [a,b,c,d,e,f],_=>exact%[a,b,c,d,e,f|Y]
theorem HL {α:Type} {us:Ks α} (h:us.length=7):∃a b c d e f g,us=[a,b,c,d,e,f,g]:=by
 match us,h with
 | [a,b,c,d,e,f,g],_=>exact%[a,b,c,d,e,f,g|Y]
open PySem.W in
theorem all_mk {l:OpenLaw} {w:IR} {K:Frag} {h:Heap} {mg:Str->Kq IS} {fa f0 f1 f2 f3 f4 f5 f6 f7 f8 f9 f10 f11 f12 f13 f14 f15 f16 f17 f18 f19 f20 f21 f22 f23 f24 f25 f26 f27 f28 f29 f30 f31 f32 f33 f34 f35 C fm0 fm1 fm2 fm3 fm4 fm5:Ko} (X:K.In h) (G:h.Ns Kt mg) (hfa:mg "law" = ↑fa)
  {tc0:Tok} {tc1:Tok} {tc2:Tok} {tc3:Tok} {tc4:Tok} {tc5:Tok} {tc6:Tok} {tc7:Tok}
  (d0:DI K "is_whole" lD f0)
  (d1:DI K "is_truth" lE f1)
  (d2:DI K "is_row" wW f2)
  (d3:DI K "is_kind" hZ f3)
  (d4:DI K "can_lie_turned" ig f4)
  (d5:DI K "check_plate" dk f5)
  (d6:DI K "check_sides" dq f6)
  (d7:DI K "lies_in" hX f7)
  (d8:DI K "lyings_in" dO f8)
  (d9:DI K "parts_up_to" dh f9)
  (d10:DI K "cut_parts" fm f10)
  (d11:DI K "cuts_of" eh f11)
  (d12:DI K "check_small" du f12)
  (d13:DI K "bundle_of_one" cw f13)
  (d14:DI K "joined" ge f14)
  (d15:DI K "is_lesser" dP f15)
  (d16:DI K "greatest_alone" br f16)
  (d17:DI K "steps_of_part" cx f17)
  (d18:DI K "greatest_steps" cz f18)
  (d19:DI K "greatest_bundles" bt f19)
  (d20:DI K "_law_cell" qj f20)
  (d21:DI K "_law_pot" wX f21)
  (d22:DI K "_law_draw" ql f22)
  (d23:DI K "_law_lain" qo f23)
  (d24:DI K "_law_fits" mO f24)
  (d25:DI K "_law_size" qp f25)
  (d26:DI K "_law_small_blade" dz f26)
  (d27:DI K "_law_shop_kinds" dw f27)
  (d28:DI K "_law_alike" iZ f28)
  (d29:DI K "_law_less" mP f29)
  (d30:DI K "_law_is_list" gf f30)
  (d31:DI K "_law_cuts" kr f31)
  (d32:DI K "_law_borne" fI f32)
  (d33:DI K "_law_walked" fo f33)
  (d34:DI K "_law_right" lF f34)
  (d35:DI K "law" mQ f35)
  (aC:nsIn K Kt "Shop" = some (↑C))
  (dm0:MI K C "__init__" "Shop.__init__" dQ fm0)
  (dm1:MI K C "blade" "Shop.blade" er fm1)
  (dm2:MI K C "wanted" "Shop.wanted" cK fm2)
  (dm3:MI K C "lyings" "Shop.lyings" dv fm3)
  (dm4:MI K C "is_lying" "Shop.is_lying" cS fm4)
  (dm5:MI K C "sides" "Shop.sides" et fm5)
  (pg:plainGet K C Str.empty=true)
  (hd:hasDictIn K C=true)
  (po:plainOver K C=true)
  (sa:findIn K (.ref C) "__setattr__" = some (some (.builtin "object.__setattr__")))
  (mk:makesIn K C=true)
  (kc:keepIn K (.ref C)=true)
  (n0:findIn K (.ref C) "blade_width" = some none)
  (n1:findIn K (.ref C) "kind_rows" = some none)
  (z0:nsIn K Kt "isinstance" = some none)
  (z1:nsIn K Kt "int" = some none)
  (z2:nsIn K Kt "bool" = some none)
  (z3:nsIn K Kt "list" = some none)
  (z4:nsIn K Kt "tuple" = some none)
  (z5:nsIn K Kt "len" = some none)
  (z6:nsIn K Kt "range" = some none)
  (z7:nsIn K Kt "max" = some none)
  (z8:nsIn K Kt "min" = some none)
  (z9:nsIn K Kt "abs" = some none)
  (z10:nsIn K Kt "divmod" = some none)
  (z11:nsIn K Kt "sum" = some none)
  (z12:nsIn K Kt "sorted" = some none)
  (z13:nsIn K Kt "all" = some none)
  (z14:nsIn K Kt "repr" = some none)
  (z15:nsIn K Kt "zip" = some none)
  (z16:nsIn K Kt "enumerate" = some none)
  (z17:nsIn K Kt "str" = some none)
  (z18:nsIn K Kt "any" = some none)
  (z19:nsIn K Kt "dict" = some none)
  (uc0:nsIn K Kt "MOST_KINDS" = some (some (.int 8 tc0)))
  (uc1:nsIn K Kt "THINGS_OF_A_KIND" = some (some (.int 5 tc1)))
  (uc2:nsIn K Kt "DOWN" = some (some (.str "down" tc2)))
  (uc3:nsIn K Kt "REST" = some (some (.str "rest" tc3)))
  (uc4:nsIn K Kt "PIECE" = some (some (.str "piece" tc4)))
  (uc5:nsIn K Kt "ACROSS" = some (some (.str "across" tc5)))
  (uc6:nsIn K Kt "MOST_SIDE" = some (some (.int 8 tc6)))
  (uc7:nsIn K Kt "MOST_WANTED" = some (some (.int 6 tc7))) :
  ∃fd:IQ,(∀ (s:IN) (v:IS),BindsTo s fd %[[v]|[]] [("_law_script",v)])/\∀base:Heap,K.In base->base.Ns Kt mg->FnOk l.prog w K mg base CX0 10 fa fd ["_law_script"] (qA K):=by
 obtain⟨_,F0,b0,k0,q0⟩:=diE X G d0 ["thing","least"] (bd2 λ _ _ _ _ _ _ _ _=>rfl);obtain⟨_,F1,b1,k1,q1⟩:=diE X G d1 ["thing"] (bd1 λ _ _ _ _ _ _ _=>rfl);obtain⟨_,F2,b2,k2,q2⟩:=diE X G d2 ["thing"] (bd1 λ _ _ _ _ _ _ _=>rfl);obtain⟨_,F3,b3,k3,q3⟩:=diE X G d3 ["thing"] (bd1 λ _ _ _ _ _ _ _=>rfl);obtain⟨_,F4,b4,k4,q4⟩:=diE X G d4 ["kind"] (bd1 λ _ _ _ _ _ _ _=>rfl);obtain⟨_,F5,b5,k5,q5⟩:=diE X G d5 ["wide","high"] (bd2 λ _ _ _ _ _ _ _ _=>rfl);obtain⟨_,F6,b6,k6,q6⟩:=diE X G d6 ["wide","high","most"] (bd3 λ _ _ _ _ _ _ _ _ _=>rfl);obtain⟨_,F7,b7,k7,q7⟩:=diE X G d7 ["shop","wide","high","kind","turned","x","y"] (bd7 λ _ _ _ _ _ _ _ _ _ _ _ _ _=>rfl);obtain⟨_,F8,b8,k8,q8⟩:=diE X G d8 ["shop","part"] (bd2 λ _ _ _ _ _ _ _ _=>rfl);obtain⟨_,F9,b9,k9,q9⟩:=diE X G d9 ["wide","high"] (bd2 λ _ _ _ _ _ _ _ _=>rfl);obtain⟨_,F10,b10,k10,q10⟩:=diE X G d10 ["blade","part","way","p"] (bd4 λ _ _ _ _ _ _ _ _ _ _=>rfl);obtain⟨_,F11,b11,k11,q11⟩:=diE X G d11 ["blade","part"] (bd2 λ _ _ _ _ _ _ _ _=>rfl);obtain⟨_,F12,b12,k12,q12⟩:=diE X G d12 ["shop","wide","high"] (bd3 λ _ _ _ _ _ _ _ _ _=>rfl);obtain⟨_,F13,b13,k13,q13⟩:=diE X G d13 ["wanted","kind"] (bd2 λ _ _ _ _ _ _ _ _=>rfl);obtain⟨_,F14,b14,k14,q14⟩:=diE X G d14 ["one","other","wanted"] (bd3 λ _ _ _ _ _ _ _ _ _=>rfl);obtain⟨_,F15,b15,k15,q15⟩:=diE X G d15 ["one","other"] (bd2 λ _ _ _ _ _ _ _ _=>rfl);obtain⟨_,F16,b16,k16,q16⟩:=diE X G d16 ["steps"] (bd1 λ _ _ _ _ _ _ _=>rfl);obtain⟨_,F17,b17,k17,q17⟩:=diE X G d17 ["shop","part","found"] (bd3 λ _ _ _ _ _ _ _ _ _=>rfl);obtain⟨_,F18,b18,k18,q18⟩:=diE X G d18 ["shop","wide","high"] (bd3 λ _ _ _ _ _ _ _ _ _=>rfl);obtain⟨_,F19,b19,k19,q19⟩:=diE X G d19 ["shop","wide","high"] (bd3 λ _ _ _ _ _ _ _ _ _=>rfl);obtain⟨_,F20,b20,k20,q20⟩:=diE X G d20 ["_law_script","_law_k"] (bd2 λ _ _ _ _ _ _ _ _=>rfl);obtain⟨_,F21,b21,k21,q21⟩:=diE X G d21 ["_law_cell_here"] (bd1 λ _ _ _ _ _ _ _=>rfl);obtain⟨_,F22,b22,k22,q22⟩:=diE X G d22 ["_law_pot_here","_law_many"] (bd2 λ _ _ _ _ _ _ _ _=>rfl);obtain⟨_,F23,b23,k23,q23⟩:=diE X G d23 ["_law_kind"] (bd1 λ _ _ _ _ _ _ _=>rfl);obtain⟨_,F24,b24,k24,q24⟩:=diE X G d24 ["_law_kind","_law_wide","_law_high"] (bd3 λ _ _ _ _ _ _ _ _ _=>rfl);obtain⟨_,F25,b25,k25,q25⟩:=diE X G d25 ["_law_pot_here","_law_most"] (bd2 λ _ _ _ _ _ _ _ _=>rfl);obtain⟨_,F26,b26,k26,q26⟩:=diE X G d26 ["_law_pot_here"] (bd1 λ _ _ _ _ _ _ _=>rfl);obtain⟨_,F27,b27,k27,q27⟩:=diE X G d27 ["_law_pot_here","_law_wide","_law_high","_law_many"] (bd4 λ _ _ _ _ _ _ _ _ _ _=>rfl);obtain⟨_,F28,b28,k28,q28⟩:=diE X G d28 ["_law_pot_here","_law_kinds"] (bd2 λ _ _ _ _ _ _ _ _=>rfl);obtain⟨_,F29,b29,k29,q29⟩:=diE X G d29 ["_law_one","_law_other"] (bd2 λ _ _ _ _ _ _ _ _=>rfl);obtain⟨_,F30,b30,k30,q30⟩:=diE X G d30 ["_law_found","_law_kinds"] (bd2 λ _ _ _ _ _ _ _ _=>rfl);obtain⟨_,F31,b31,k31,q31⟩:=diE X G d31 ["_law_blade","_law_wide","_law_high"] (bd3 λ _ _ _ _ _ _ _ _ _=>rfl);obtain⟨_,F32,b32,k32,q32⟩:=diE X G d32 ["_law_told","_law_blade","_law_kinds","_law_wide","_law_high"] (bd5 λ _ _ _ _ _ _ _ _ _ _ _=>rfl);obtain⟨_,F33,b33,k33,q33⟩:=diE X G d33 ["_law_told","_law_blade","_law_kinds","_law_wide","_law_high"] (bd5 λ _ _ _ _ _ _ _ _ _ _ _=>rfl);obtain⟨_,F34,b34,k34,q34⟩:=diE X G d34 ["_law_pot_here"] (bd1 λ _ _ _ _ _ _ _=>rfl);obtain⟨_,an,_,_,kV,dc,pm,cd,ct,a35,l35,c35,k35⟩:=d35;have F35:=nG (st:=mQ) l35 c35 k35;obtain⟨_,Fm0,bm0,km0,am0,im0⟩:=miE dm0 ["self","blade","kinds"] (bd3 λ _ _ _ _ _ _ _ _ _=>rfl);obtain⟨_,Fm1,bm1,km1,am1,im1⟩:=miE dm1 ["self"] (bd1 λ _ _ _ _ _ _ _=>rfl);obtain⟨_,Fm2,bm2,km2,am2,im2⟩:=miE dm2 ["self"] (bd1 λ _ _ _ _ _ _ _=>rfl);obtain⟨_,Fm3,bm3,km3,am3,im3⟩:=miE dm3 ["self"] (bd1 λ _ _ _ _ _ _ _=>rfl);obtain⟨_,Fm4,bm4,km4,am4,im4⟩:=miE dm4 ["self","kind","turned"] (bd3 λ _ _ _ _ _ _ _ _ _=>rfl);obtain⟨_,Fm5,bm5,km5,am5,im5⟩:=miE dm5 ["self","kind","turned"] (bd3 λ _ _ _ _ _ _ _ _ _=>rfl);have e:=hfa.symm.trans (mg_of X G a35);cases e;have y0:=mg_none_of X G z0;have y1:=mg_none_of X G z1;have y2:=mg_none_of X G z2
 have y3:=mg_none_of X G z3;have y4:=mg_none_of X G z4;have y5:=mg_none_of X G z5;have y6:=mg_none_of X G z6;have y7:=mg_none_of X G z7;have y8:=mg_none_of X G z8;have y9:=mg_none_of X G z9;have y10:=mg_none_of X G z10;have y11:=mg_none_of X G z11;have y12:=mg_none_of X G z12;have y13:=mg_none_of X G z13;have y14:=mg_none_of X G z14;have y15:=mg_none_of X G z15;have y16:=mg_none_of X G z16;have y17:=mg_none_of X G z17;have y18:=mg_none_of X G z18;have y19:=mg_none_of X G z19;have u0:=mg_of X G uc0;have u1:=mg_of X G uc1;have u2:=mg_of X G uc2;have u3:=mg_of X G uc3;have u4:=mg_of X G uc4;have u5:=mg_of X G uc5;have u6:=mg_of X G uc6;have u7:=mg_of X G uc7;have qC:=mg_of X G aC;apply%[fnOf "law" "law" (defArgs mQ) (defBody mQ) (defScope mQ) .none kV dc pm an cd ct,λ s v=>.of_eq rfl|λ base _ _=>?_];have B:Blt mg:=%[y0,y1,y2,y3,y4,y5,y6,y7,y8,y9,y10,y11,y12,y13,y14,y15,y16,%[_|u0]|%[_|u1]]
 have T:ShopTxt K C:=%[%[pg,hd,po|sa],n0|n1]
 have ZB:BeC mg:=%[%[_|u2],%[_|u3],%[_|u4]|%[_|u5]]
 have D0:Dn l.prog w K mg base "is_whole" ["thing","least"] 1 (dU K):=%[_,_,uZ F0 B,b0,k0|q0]
 have D1:Dn l.prog w K mg base "is_truth" ["thing"] 1 (gY K):=%[_,_,vb F1 B,b1,k1|q1]
 have D2:Dn l.prog w K mg base "is_row" ["thing"] 1 (pR K):=%[_,_,yI F2 B,b2,k2|q2]
 have D3:Dn l.prog w K mg base "is_kind" ["thing"] 2 (fT K):=%[_,_,rH F3 B D0 D1 D2,b3,k3|q3]
 have D4:Dn l.prog w K mg base "can_lie_turned" ["kind"] 1 (fU K):=%[_,_,rJ F4,b4,k4|q4]
 have MB:Mn l.prog w K mg base C "blade" ["self"] 1 (kU C):=%[_,_,vc Fm1 T,bm1|%[am1,im1|km1]]
 have MW:Mn l.prog w K mg base C "wanted" ["self"] 1 (gh C):=%[_,_,rT Fm2 B T,bm2|%[am2,im2|km2]]
 have ML:Mn l.prog w K mg base C "lyings" ["self"] 2 (iN C):=%[_,_,rK Fm3 T y16 D4,bm3|%[am3,im3|km3]]
 have MI:Mn l.prog w K mg base C "is_lying" ["self","kind","turned"] 2 (eZ K C):=%[_,_,ow Fm4 B T D0 D1 D4,bm4|%[am4,im4|km4]]
 have MS:Mn l.prog w K mg base C "sides" ["self","kind","turned"] 3 (spSides K C):=%[_,_,vf Fm5 T MI,bm5|%[am5,im5|km5]]
 have DS:Kn l.prog w K mg base "Shop" C ["self","blade","kinds"] 3 (nJ C):=%[_,_,%[mk,am0,im0|kc],xb Fm0 B T D0 D2 D3,bm0|qC]
 have D5:Dn l.prog w K mg base "check_plate" ["wide","high"] 2 (spCP):=%[_,_,rO F5 D0,b5,k5|q5]
 have D6:Dn l.prog w K mg base "check_sides" ["wide","high","most"] 1 (spCS):=%[_,_,rP F6,b6,k6|q6]
 have D7:Dn l.prog w K mg base "lies_in" ["shop","wide","high","kind","turned","x","y"] 4 (spLies C):=%[_,_,xf F7 T D0 MI MS,b7,k7|q7]
 have D8:Dn l.prog w K mg base "lyings_in" ["shop","part"] 5 (spLyIn C):=%[_,_,xh F8 T ML D7,b8,k8|q8]
 have D9:Dn l.prog w K mg base "parts_up_to" ["wide","high"] 1 (spParts):=%[_,_,vh F9 B,b9,k9|q9]
 have D10:Dn l.prog w K mg base "cut_parts" ["blade","part","way","p"] 1 (spParts2):=%[_,_,rQ F10 ZB,b10,k10|q10]
 have D11:Dn l.prog w K mg base "cuts_of" ["blade","part"] 2 (spCuts):=%[_,_,xi F11 B ZB D10,b11,k11|q11]
 have D12:Dn l.prog w K mg base "check_small" ["shop","wide","high"] 3 (vi C):=%[_,_,rU F12 B T %[_|u6] %[_|u7] MW D5 D6,b12,k12|q12]
 have D13:Dn l.prog w K mg base "bundle_of_one" ["wanted","kind"] 1 (oz):=%[_,_,xj F13 B,b13,k13|q13]
 have D14:Dn l.prog w K mg base "joined" ["one","other","wanted"] 1 (oA):=%[_,_,rR F14 B,b14,k14|q14]
 have D15:Dn l.prog w K mg base "is_lesser" ["one","other"] 1 (oB):=%[_,_,rS F15 B,b15,k15|q15]
 have D16:Dn l.prog w K mg base "greatest_alone" ["steps"] 2 (lJ):=%[_,_,vo F16 B y18 D15,b16,k16|q16]
 have D17:Dn l.prog w K mg base "steps_of_part" ["shop","part","found"] 6 (lK C):=%[_,_,vp F17 B ZB T MW MB D8 D13 D14 D11,b17,k17|q17]
 have D18:Dn l.prog w K mg base "greatest_steps" ["shop","wide","high"] 7 (jm C):=%[_,_,si F18 B D9 D17 D16,b18,k18|q18]
 have D19:Dn l.prog w K mg base "greatest_bundles" ["shop","wide","high"] 8 (jo C):=%[_,_,sj F19 B D12 D18,b19,k19|q19]
 have D20:Dn l.prog w K mg base "_law_cell" ["_law_script","_law_k"] 1 (nN K):=%[_,_,xn F20 B,b20,k20|q20]
 have D21:Dn l.prog w K mg base "_law_pot" ["_law_cell_here"] 1 (nO):=%[_,_,yL F21 B,b21,k21|q21]
 have D22:Dn l.prog w K mg base "_law_draw" ["_law_pot_here","_law_many"] 1 (dX):=%[_,_,xo F22 B,b22,k22|q22]
 have D23:Dn l.prog w K mg base "_law_lain" ["_law_kind"] 1 (oG):=%[_,_,xq F23 B,b23,k23|q23]
 have D24:Dn l.prog w K mg base "_law_fits" ["_law_kind","_law_wide","_law_high"] 2 (lL):=%[_,_,vq F24 B y18 D23,b24,k24|q24]
 have D25:Dn l.prog w K mg base "_law_size" ["_law_pot_here","_law_most"] 2 (oH):=%[_,_,xt F25 B D22,b25,k25|q25]
 have D26:Dn l.prog w K mg base "_law_small_blade" ["_law_pot_here"] 2 (jq):=%[_,_,sk F26 B D22,b26,k26|q26]
 have D27:Dn l.prog w K mg base "_law_shop_kinds" ["_law_pot_here","_law_wide","_law_high","_law_many"] 3 (lM):=%[_,_,vy F27 B D22 D25,b27,k27|q27]
 have D28:Dn l.prog w K mg base "_law_alike" ["_law_pot_here","_law_kinds"] 2 (lN):=%[_,_,vz F28 B D22,b28,k28|q28]
 have D29:Dn l.prog w K mg base "_law_less" ["_law_one","_law_other"] 1 (im):=%[_,_,vA F29 B,b29,k29|q29]
 have D30:Dn l.prog w K mg base "_law_is_list" ["_law_found","_law_kinds"] 2 (jr):=%[_,_,sw F30 B y18 D29,b30,k30|q30]
 have D31:Dn l.prog w K mg base "_law_cuts" ["_law_blade","_law_wide","_law_high"] 1 (lO):=%[_,_,vB F31 B,b31,k31|q31]
 have D32:Dn l.prog w K mg base "_law_borne" ["_law_told","_law_blade","_law_kinds","_law_wide","_law_high"] 3 (lP):=%[_,_,vE F32 B y19 D24 D31,b32,k32|q32]
 have D33:Dn l.prog w K mg base "_law_walked" ["_law_told","_law_blade","_law_kinds","_law_wide","_law_high"] 4 (jt):=%[_,_,sD F33 B y18 D29 D32,b33,k33|q33]
 have D34:Dn l.prog w K mg base "_law_right" ["_law_pot_here"] 9 (gG):=%[_,_,vI F34 B y19 D22 D27 D26 D28 D19 D30 D33 DS,b34,k34|q34]
 exact yO F35 B D20 D21 D34
theorem walk {l:PySem.W.OpenLaw} {q:IP} {loose:Ks Str} {XP:(Str->Kq IS)->Heap->Prop} {YP:IR->Heap->Prop} {d:DefRec} {K:Params->C6} (hn:l.most=some 63) (hdf:d.params.defaults=[])
  (hY:∀ (w:IR) (h:Heap),YP w h->(K w.params).In h)
  (F:∀ (w:IR) (mg:Str->Kq IS) (fa:Ko) (h:Heap),(K w.params).In h->h.Ns Kt mg->mg d.name=↑fa ->
   ∃fd:IQ,(∀ (s:IN) (u:IS),BindsTo s fd %[[u]|[]] [("_law_script",u)])/\∀base:Heap,(K w.params).In base->base.Ns Kt mg->FnOk l.prog w (K w.params) mg base CX0 10 fa fd ["_law_script"] (qA (K w.params))) :
  PySem.W.WalkO q loose XP YP l.row.toRowW d [] (λ f vs=>PySem.call f vs) :=
 L2.walk_of (n:=63) (k:=10) (x := "_law_script") (CX:=λ _=>CX0) (sp:=λ w=>qA (K w.params)) hn ∅ hdf %[rfl,∅,∅|rfl] hY F (λ _ _ a ns hl _ hS=>%[a,ns,Y,hS,hl|λ _=>rfl]) λ _ _ _ _ _ z=>z
end Pc
namespace Pc
open PySem L2
section
open PySem.W
def kE (P:Params) (n:Str) (t:Nat) (v:IS):DictEntry:=%[PyData.keyHash P n,.str n t|v]
def kO3 (P:Params):Obj:=%[(.type "dict"),none,(.dict #[kE P "__name__" 165 (.str "law_platecuts_k71_whole_greatest_bundles" 563),kE P "__doc__" 166 .none,kE P "__package__" 167 .none,kE P "__loader__" 168 (.builtin "__main__.__loader__#opaque"),kE P "__spec__" 169 .none,kE P "__annotations__" 170 (.ref 6),kE P "__builtins__" 171 (.ref 4),kE P "__file__" 173 (.str "/claim/cut.py" 172),kE P "__cached__" 174 .none,kE P "PlateError" 206 (.ref 24),kE P "NoBlade" 222 (.ref 37),kE P "NoKinds" 238 (.ref 49),kE P "NoKind" 254 (.ref 61),kE P "NoLying" 270 (.ref 73),kE P "NoPlate" 286 (.ref 85),kE P "TooLarge" 302 (.ref 97),kE P "is_whole" 312 (.ref 106),kE P "is_truth" 319 (.ref 113),kE P "is_row" 326 (.ref 120),kE P "check_plate" 334 (.ref 127),kE P "check_sides" 343 (.ref 134),kE P "DOWN" 347 (.str "down" 346),kE P "ACROSS" 349 (.str "across" 348),kE P "lies_in" 364 (.ref 141),kE P "lyings_in" 370 (.ref 146),kE P "cut_parts" 382 (.ref 153),kE P "cuts_of" 388 (.ref 158),kE P "parts_up_to" 394 (.ref 163),kE P "REST" 396 (.str "rest" 395),kE P "PIECE" 398 (.str "piece" 397),kE P "MOST_SIDE" 402 (.int 8 401),kE P "MOST_WANTED" 404 (.int 6 403),kE P "check_small" 413 (.ref 170),kE P "bundle_of_one" 419 (.ref 175),kE P "joined" 425 (.ref 180),kE P "is_lesser" 431 (.ref 185),kE P "steps_of_part" 437 (.ref 190),kE P "greatest_alone" 443 (.ref 195),kE P "greatest_steps" 454 (.ref 202),kE P "greatest_bundles" 460 (.ref 207),kE P "MOST_KINDS" 464 (.int 8 463),kE P "THINGS_OF_A_KIND" 466 (.int 5 465),kE P "is_kind" 478 (.ref 214),kE P "can_lie_turned" 485 (.ref 221),kE P "Shop" 562 (.ref 276),kE P "_law_cell" 572 (.ref 287),kE P "_law_pot" 579 (.ref 294),kE P "_law_draw" 588 (.ref 301),kE P "_law_lain" 600 (.ref 308),kE P "_law_fits" 606 (.ref 313),kE P "_law_size" 614 (.ref 320),kE P "_law_shop_kinds" 629 (.ref 327),kE P "_law_alike" 635 (.ref 332),kE P "_law_small_blade" 642 (.ref 339),kE P "_law_less" 648 (.ref 344),kE P "_law_is_list" 654 (.ref 349),kE P "_law_cuts" 660 (.ref 354),kE P "_law_borne" 666 (.ref 359),kE P "_law_walked" 672 (.ref 364),kE P "_law_right" 690 (.ref 371),kE P "law" 698 (.ref 378)] 61)|#[]]
def Gq (P:Params):Obj:=%[(.type "dict"),none,(.dict #[kE P "__module__" 196 (.str "platecuts.errors" 187),kE P "__firstlineno__" 200 (.int 2 199),kE P "__static_attributes__" 201 (.ref 22),kE P "__weakref__" 203 (.ref 25),kE P "__doc__" 204 .none] 3)|#[]]
def Gr (P:Params):Obj:=%[(.type "type"),none,(.cls %["PlateError",[.type "ValueError"],[.ref 24,.type "ValueError",.type "Exception",.type "BaseException",.type "object"],23,"PlateError",true,[],[.ref 37,.ref 49,.ref 61,.ref 73,.ref 85,.ref 97],false,none|false])|#[↑15,none,some (.str "PlateError" 189),some (.str "PlateError" 197),some (.builtin "ValueError.__new__"),some (.bool true)]]
def gk0 (x0 x1 x2 x3 x4 x5 x6:Nat)(P:Params):Obj:=%[(.type "dict"),none,(.dict #[kE P "__module__" x0 (.str "platecuts.errors" 187),kE P "__firstlineno__" x1 (.int x2 x3),kE P "__static_attributes__" x4 (.ref x5),kE P "__doc__" x6 .none] 2)|#[]]
def Gs:=gk0 214 218 4 217 219 35 220
def gk1 (x0:Str)(x1 x2 x3 x4 x5:Nat)(P:Params):Obj:=%[(.type "type"),none,(.cls %[x0,[.ref 24],[.ref x1,.ref 24,.type "ValueError",.type "Exception",.type "BaseException",.type "object"],x2,x0,true,[],[],false,none|false])|#[↑x3,none,some (.str x0 x4),some (.str x0 x5),some (.builtin "ValueError.__new__"),some (.bool true)]]
def Gu:=gk1 "NoBlade" 37 36 28 207 215
def Gv:=gk0 230 234 6 233 235 47 236
def Gw:=gk1 "NoKinds" 49 48 40 223 231
def Gx:=gk0 246 250 8 249 251 59 252
def Gy:=gk1 "NoKind" 61 60 52 239 247
def Gz:=gk0 262 266 10 265 267 71 268
def GA:=gk1 "NoLying" 73 72 64 255 263
def GB:=gk0 278 282 12 281 283 83 284
def GC:=gk1 "NoPlate" 85 84 76 271 279
def GD:=gk0 294 298 14 297 299 95 300
def GE:=gk1 "TooLarge" 97 96 88 287 295
def gk2 (x0:Str)(x1:Nat)(x2:Str)(x3 x4 x5 x6 x7 x8 x9 x10 x11 x12 x13:Nat)(P:Params):Obj:=%[(.type "code"),none,(.fields #[.str x0 x1,.str x2 x3,.str "/claim/cut.py" x4,.int x5 0,.int x6 0,.int 0 0,.int 0 0,.int 3 0,.ref x7,.bool true,.int 181 0,.ref x8,.none,.ref x9,.ref x10,.ref x11,.int x12 0,.int x5 0,.str "/claim/cut.py" x13])|#[]]
def Bc:=gk2 "is_whole" 305 "is_whole" 306 307 17 2 100 101 102 103 104 310 311
def gk3 (x0 x1:Str)(x2:Stmt)(x3:Str)(x4 x5:Nat)(P:Params):Obj:=%[(.type "function"),none,(.func (fnOf x0 x1 (defArgs x2) (defBody x2) (defScope x2) .none .none .none (.str x3 x4) none (.ref x5) .none))|#[]]
def Bd:=gk3 "is_whole" "is_whole" lD "platecuts.checks" 303 105
def Be:=gk2 "is_truth" 313 "is_truth" 314 315 19 1 107 108 109 110 111 317 318
def Bf:=gk3 "is_truth" "is_truth" lE "platecuts.checks" 303 112
def Bg:=gk2 "is_row" 320 "is_row" 321 322 21 1 114 115 116 117 118 324 325
def Bh:=gk3 "is_row" "is_row" wW "platecuts.checks" 303 119
def Bi:=gk2 "check_plate" 327 "check_plate" 328 329 23 2 121 122 123 124 125 332 333
def Bj:=gk3 "check_plate" "check_plate" dk "platecuts.checks" 303 126
def Bk:=gk2 "check_sides" 335 "check_sides" 336 337 26 3 128 129 130 131 132 341 342
def Bl:=gk3 "check_sides" "check_sides" dq "platecuts.checks" 303 133
def Bm:=gk2 "lies_in" 350 "lies_in" 351 352 32 7 135 136 137 138 139 362 363
def Bn:=gk3 "lies_in" "lies_in" hX "platecuts.parts" 344 140
def gk4 (x0:Str)(x1:Nat)(x2:Str)(x3 x4 x5 x6 x7 x8 x9 x10 x11:Nat)(P:Params):Obj:=%[(.type "code"),none,(.fields #[.str x0 x1,.str x2 x3,.str "/claim/cut.py" x4,.int x5 0,.int x6 0,.int 0 0,.int 0 0,.int 3 0,.ref x7,.bool true,.int 181 0,.ref x8,.none,.none,.none,.ref x9,.int x10 0,.int x5 0,.str "/claim/cut.py" x11])|#[]]
def Bo:=gk4 "lyings_in" 365 "lyings_in" 366 367 37 2 142 143 144 368 369
def Bp:=gk3 "lyings_in" "lyings_in" dO "platecuts.parts" 344 145
def Bq:=gk2 "cut_parts" 371 "cut_parts" 372 373 40 4 147 148 149 150 151 380 381
def Br:=gk3 "cut_parts" "cut_parts" fm "platecuts.parts" 344 152
def Bs:=gk4 "cuts_of" 383 "cuts_of" 384 385 45 2 154 155 156 386 387
def Bt:=gk3 "cuts_of" "cuts_of" eh "platecuts.parts" 344 157
def Bu:=gk4 "parts_up_to" 389 "parts_up_to" 390 391 49 2 159 160 161 392 393
def Bv:=gk3 "parts_up_to" "parts_up_to" dh "platecuts.parts" 344 162
def Bw:=gk2 "check_small" 405 "check_small" 406 407 56 3 164 165 166 167 168 411 412
def Bx:=gk3 "check_small" "check_small" du "platecuts.bundles" 399 169
def By:=gk4 "bundle_of_one" 414 "bundle_of_one" 415 416 61 2 171 172 173 417 418
def Bz:=gk3 "bundle_of_one" "bundle_of_one" cw "platecuts.bundles" 399 174
def BA:=gk4 "joined" 420 "joined" 421 422 63 3 176 177 178 423 424
def BB:=gk3 "joined" "joined" ge "platecuts.bundles" 399 179
def BC:=gk4 "is_lesser" 426 "is_lesser" 427 428 65 2 181 182 183 429 430
def BD:=gk3 "is_lesser" "is_lesser" dP "platecuts.bundles" 399 184
def BE:=gk4 "steps_of_part" 432 "steps_of_part" 433 434 67 3 186 187 188 435 436
def BF:=gk3 "steps_of_part" "steps_of_part" cx "platecuts.bundles" 399 189
def BG:=gk4 "greatest_alone" 438 "greatest_alone" 439 440 78 1 191 192 193 441 442
def BH:=gk3 "greatest_alone" "greatest_alone" br "platecuts.bundles" 399 194
def BI:=gk2 "greatest_steps" 444 "greatest_steps" 445 446 81 3 196 197 198 199 200 452 453
def BJ:=gk3 "greatest_steps" "greatest_steps" cz "platecuts.bundles" 399 201
def BK:=gk4 "greatest_bundles" 455 "greatest_bundles" 456 457 86 3 203 204 205 458 459
def BL:=gk3 "greatest_bundles" "greatest_bundles" bt "platecuts.bundles" 399 206
def BM:=gk2 "is_kind" 467 "is_kind" 468 469 93 1 208 209 210 211 212 476 477
def BN:=gk3 "is_kind" "is_kind" hZ "platecuts.shops" 461 213
def BO:=gk2 "can_lie_turned" 479 "can_lie_turned" 480 481 100 1 215 216 217 218 219 483 484
def BP:=gk3 "can_lie_turned" "can_lie_turned" ig "platecuts.shops" 461 220
def BQ:=gk4 "__init__" 498 "Shop.__init__" 499 500 104 3 229 230 231 501 502
def BR:=gk3 "__init__" "Shop.__init__" dQ "platecuts.shops" 461 232
def BS:=gk2 "blade" 504 "Shop.blade" 505 506 115 1 234 235 236 237 238 508 509
def BU:=gk3 "blade" "Shop.blade" er "platecuts.shops" 461 239
def BV:=gk2 "kinds" 511 "Shop.kinds" 512 513 118 1 241 242 243 244 245 515 516
def BW:=gk3 "kinds" "Shop.kinds" ou "platecuts.shops" 461 246
def BX:=gk4 "wanted" 518 "Shop.wanted" 519 520 121 1 248 249 250 521 522
def BY:=gk3 "wanted" "Shop.wanted" cK "platecuts.shops" 461 251
def BZ:=gk2 "lyings" 524 "Shop.lyings" 525 526 124 1 253 254 255 256 257 531 532
def Ca:=gk3 "lyings" "Shop.lyings" dv "platecuts.shops" 461 258
def Cb:=gk2 "is_lying" 534 "Shop.is_lying" 535 536 132 3 260 261 262 263 264 540 541
def Cc:=gk3 "is_lying" "Shop.is_lying" cS "platecuts.shops" 461 265
def Cd:=gk2 "sides" 543 "Shop.sides" 544 545 137 3 267 268 269 270 271 550 551
def Ce:=gk3 "sides" "Shop.sides" et "platecuts.shops" 461 272
def Cf (P:Params):Obj:=%[(.type "dict"),none,(.dict #[kE P "__module__" 493 (.str "platecuts.shops" 461),kE P "__firstlineno__" 497 (.int 102 496),kE P "__init__" 503 (.ref 233),kE P "blade" 510 (.ref 240),kE P "kinds" 517 (.ref 247),kE P "wanted" 523 (.ref 252),kE P "lyings" 533 (.ref 259),kE P "is_lying" 542 (.ref 266),kE P "sides" 552 (.ref 273),kE P "__static_attributes__" 555 (.ref 274),kE P "__dict__" 557 (.ref 277),kE P "__weakref__" 559 (.ref 278),kE P "__doc__" 560 .none] 4)|#[]]
def Cg (P:Params):Obj:=%[(.type "type"),none,(.cls %["Shop",[.type "object"],[.ref 276,.type "object"],275,"Shop",true,[],[],false,none|false])|#[none,none,some (.str "Shop" 486),some (.str "Shop" 494),some (.builtin "object.__new__"),some (.bool true)]]
def Ch:=gk2 "_law_cell" 565 "_law_cell" 566 567 145 2 281 282 283 284 285 570 571
def Ci:=gk3 "_law_cell" "_law_cell" qj "law_platecuts_k71_whole_greatest_bundles" 563 286
def Cj:=gk2 "_law_pot" 573 "_law_pot" 574 575 149 1 288 289 290 291 292 577 578
def Ck:=gk3 "_law_pot" "_law_pot" wX "law_platecuts_k71_whole_greatest_bundles" 563 293
def Cl:=gk2 "_law_draw" 580 "_law_draw" 581 582 151 2 295 296 297 298 299 586 587
def Cm:=gk3 "_law_draw" "_law_draw" ql "law_platecuts_k71_whole_greatest_bundles" 563 300
def Cn:=gk2 "_law_lain" 589 "_law_lain" 590 591 157 1 302 303 304 305 306 598 599
def Co:=gk3 "_law_lain" "_law_lain" qo "law_platecuts_k71_whole_greatest_bundles" 563 307
def Cp:=gk4 "_law_fits" 601 "_law_fits" 602 603 162 3 309 310 311 604 605
def Cq:=gk3 "_law_fits" "_law_fits" mO "law_platecuts_k71_whole_greatest_bundles" 563 312
def Cr:=gk2 "_law_size" 607 "_law_size" 608 609 164 2 314 315 316 317 318 612 613
def Cs:=gk3 "_law_size" "_law_size" qp "law_platecuts_k71_whole_greatest_bundles" 563 319
def Ct:=gk2 "_law_shop_kinds" 615 "_law_shop_kinds" 616 617 168 4 321 322 323 324 325 627 628
def Cu:=gk3 "_law_shop_kinds" "_law_shop_kinds" dw "law_platecuts_k71_whole_greatest_bundles" 563 326
def Cv:=gk4 "_law_alike" 630 "_law_alike" 631 632 177 2 328 329 330 633 634
def Cw:=gk3 "_law_alike" "_law_alike" iZ "law_platecuts_k71_whole_greatest_bundles" 563 331
def Cy:=gk2 "_law_small_blade" 636 "_law_small_blade" 637 638 184 1 333 334 335 336 337 640 641
def Cz:=gk3 "_law_small_blade" "_law_small_blade" dz "law_platecuts_k71_whole_greatest_bundles" 563 338
def CA:=gk4 "_law_less" 643 "_law_less" 644 645 186 2 340 341 342 646 647
def CB:=gk3 "_law_less" "_law_less" mP "law_platecuts_k71_whole_greatest_bundles" 563 343
def CC:=gk4 "_law_is_list" 649 "_law_is_list" 650 651 188 2 345 346 347 652 653
def CD:=gk3 "_law_is_list" "_law_is_list" gf "law_platecuts_k71_whole_greatest_bundles" 563 348
def CF:=gk4 "_law_cuts" 655 "_law_cuts" 656 657 201 3 350 351 352 658 659
def CG:=gk3 "_law_cuts" "_law_cuts" kr "law_platecuts_k71_whole_greatest_bundles" 563 353
def CI:=gk4 "_law_borne" 661 "_law_borne" 662 663 204 5 355 356 357 664 665
def CJ:=gk3 "_law_borne" "_law_borne" fI "law_platecuts_k71_whole_greatest_bundles" 563 358
def CK:=gk4 "_law_walked" 667 "_law_walked" 668 669 214 5 360 361 362 670 671
def CL:=gk3 "_law_walked" "_law_walked" fo "law_platecuts_k71_whole_greatest_bundles" 563 363
def CM:=gk2 "_law_right" 673 "_law_right" 674 675 219 1 365 366 367 368 369 688 689
def CN:=gk3 "_law_right" "_law_right" lF "law_platecuts_k71_whole_greatest_bundles" 563 370
def CO:=gk2 "law" 691 "law" 692 693 242 1 372 373 374 375 376 696 697
def CP:=gk3 "law" "law" mQ "law_platecuts_k71_whole_greatest_bundles" 563 377
def kK:Params->Frag:=λ P=>(nat_lit 3,kO3 P) :: (nat_lit 23,Gq P) :: (nat_lit 24,Gr P) :: (nat_lit 36,Gs P) :: (nat_lit 37,Gu P) :: (nat_lit 48,Gv P) :: (nat_lit 49,Gw P) :: (nat_lit 60,Gx P) :: (nat_lit 61,Gy P) :: (nat_lit 72,Gz P) :: (nat_lit 73,GA P) :: (nat_lit 84,GB P) :: (nat_lit 85,GC P) :: (nat_lit 96,GD P) :: (nat_lit 97,GE P) :: (nat_lit 105,Bc P) :: (nat_lit 106,Bd P) :: (nat_lit 112,Be P) :: (nat_lit 113,Bf P) :: (nat_lit 119,Bg P) :: (nat_lit 120,Bh P) :: (nat_lit 126,Bi P) :: (nat_lit 127,Bj P) :: (nat_lit 133,Bk P) :: (nat_lit 134,Bl P) :: (nat_lit 140,Bm P) :: (nat_lit 141,Bn P) :: (nat_lit 145,Bo P) :: (nat_lit 146,Bp P) :: (nat_lit 152,Bq P) :: (nat_lit 153,Br P) :: (nat_lit 157,Bs P) :: (nat_lit 158,Bt P) :: (nat_lit 162,Bu P) :: (nat_lit 163,Bv P) :: (nat_lit 169,Bw P) :: (nat_lit 170,Bx P) :: (nat_lit 174,By P) :: (nat_lit 175,Bz P) :: (nat_lit 179,BA P) :: (nat_lit 180,BB P) :: (nat_lit 184,BC P) :: (nat_lit 185,BD P) :: (nat_lit 189,BE P) :: (nat_lit 190,BF P) :: (nat_lit 194,BG P) :: (nat_lit 195,BH P) :: (nat_lit 201,BI P) :: (nat_lit 202,BJ P) :: (nat_lit 206,BK P) :: (nat_lit 207,BL P) :: (nat_lit 213,BM P) :: (nat_lit 214,BN P) :: (nat_lit 220,BO P) :: (nat_lit 221,BP P) :: (nat_lit 232,BQ P) :: (nat_lit 233,BR P) :: (nat_lit 239,BS P) :: (nat_lit 240,BU P) :: (nat_lit 246,BV P) :: (nat_lit 247,BW P) :: (nat_lit 251,BX P) :: (nat_lit 252,BY P) :: (nat_lit 258,BZ P) :: (nat_lit 259,Ca P) :: (nat_lit 265,Cb P) :: (nat_lit 266,Cc P) :: (nat_lit 272,Cd P) :: (nat_lit 273,Ce P) :: (nat_lit 275,Cf P) :: (nat_lit 276,Cg P) :: (nat_lit 286,Ch P) :: (nat_lit 287,Ci P) :: (nat_lit 293,Cj P) :: (nat_lit 294,Ck P) :: (nat_lit 300,Cl P) :: (nat_lit 301,Cm P) :: (nat_lit 307,Cn P) :: (nat_lit 308,Co P) :: (nat_lit 312,Cp P) :: (nat_lit 313,Cq P) :: (nat_lit 319,Cr P) :: (nat_lit 320,Cs P) :: (nat_lit 326,Ct P) :: (nat_lit 327,Cu P) :: (nat_lit 331,Cv P) :: (nat_lit 332,Cw P) :: (nat_lit 338,Cy P) :: (nat_lit 339,Cz P) :: (nat_lit 343,CA P) :: (nat_lit 344,CB P) :: (nat_lit 348,CC P) :: (nat_lit 349,CD P) :: (nat_lit 353,CF P) :: (nat_lit 354,CG P) :: (nat_lit 358,CI P) :: (nat_lit 359,CJ P) :: (nat_lit 363,CK P) :: (nat_lit 364,CL P) :: (nat_lit 370,CM P) :: (nat_lit 371,CN P) :: (nat_lit 377,CO P) :: (nat_lit 378,CP P) :: []
end
end Pc
abbrev PySem.W.Fast.tw16117188415968286179:PySem.Program:=PySem.Challenge.pw_platecuts_k71_whole_greatest_bundles
theorem PySem.W.Fast.te16117188415968286179:PySem.Challenge.pw_platecuts_k71_whole_greatest_bundles=PySem.W.Fast.tw16117188415968286179:=rfl
namespace Hd
open PySem PySem.W
def S0:Str:="__name__"
def S2:Str:="__doc__"
def S3:Str:="__package__"
def S4:Str:="__loader__"
def S5:Str:="__spec__"
def GF:Str:="__main__"
def CQ:Str:="__annotations__"
def CS:Str:="__builtins__"
def CT:Str:="__file__"
def ni:Str:=%[|%[|[47,99,108,97,105,109,47,99,117,116,46,112,121]]]
def CU:Str:="__cached__"
def GG:Str:="<module>"
def lQ:Str:="platecuts.bundles"
def lR:Str:="PlateError"
def sG:Str:="NoBlade"
def sH:Str:="NoKinds"
def sI:Str:="NoKind"
def sJ:Str:="NoLying"
def sK:Str:="NoPlate"
def sL:Str:="TooLarge"
def oK:Str:="is_whole"
def oM:Str:="is_truth"
def oN:Str:="is_row"
def oO:Str:="check_plate"
def oP:Str:="check_sides"
def yQ:Str:="DOWN"
def CV:Str:="down"
def yR:Str:="ACROSS"
def CW:Str:="across"
def oQ:Str:="lies_in"
def oR:Str:="lyings_in"
def oS:Str:="cut_parts"
def oT:Str:="cuts_of"
def oU:Str:="parts_up_to"
def yS:Str:="REST"
def CY:Str:="rest"
def yT:Str:="PIECE"
def CZ:Str:="piece"
def yU:Str:="MOST_SIDE"
def yV:Str:="MOST_WANTED"
def oV:Str:="check_small"
def oW:Str:="bundle_of_one"
def oX:Str:="joined"
def oY:Str:="is_lesser"
def oZ:Str:="steps_of_part"
def vK:Str:="__module__"
def jE:Str:="platecuts.errors"
def Da:Str:="__qualname__"
def vL:Str:="__firstlineno__"
def vM:Str:="__static_attributes__"
def yW:Str:="__weakref__"
def xz:Str:="thing"
def GH:Str:="least"
def vN:Str:="platecuts.checks"
def pf:Str:="wide"
def ph:Str:="high"
def GI:Str:="most"
def yX:Str:="shop"
def vO:Str:="kind"
def yY:Str:="turned"
def GJ:Str:="x"
def GK:Str:="y"
def GL:Str:="piece_wide"
def GM:Str:="piece_high"
def vP:Str:="platecuts.parts"
def sM:Str:="blade"
def Db:Str:="part"
def GN:Str:="way"
def GO:Str:="p"
def eT:Str:="law_platecuts_k71_whole_greatest_bundles"
def sN:Str:="greatest_alone"
def sO:Str:="greatest_steps"
def sP:Str:="greatest_bundles"
def Dc:Str:="MOST_KINDS"
def Dd:Str:="THINGS_OF_A_KIND"
def sQ:Str:="is_kind"
def sR:Str:="can_lie_turned"
def nj:Str:="Shop"
def sS:Str:="_law_cell"
def sT:Str:="_law_pot"
def sU:Str:="_law_draw"
def sV:Str:="_law_lain"
def sW:Str:="_law_fits"
def sX:Str:="_law_size"
def sY:Str:="_law_shop_kinds"
def tf:Str:="_law_alike"
def tj:Str:="_law_small_blade"
def tm:Str:="_law_less"
def tq:Str:="_law_is_list"
def tw:Str:="_law_cuts"
def tD:Str:="_law_borne"
def tE:Str:="_law_walked"
def tF:Str:="_law_right"
def vQ:Str:="law"
def GP:Str:="found"
def GQ:Str:="worth"
def tG:Str:="wanted"
def GS:Str:="turns"
def tH:Str:="platecuts.shops"
def vR:Str:="__init__"
def vS:Str:="kinds"
def vT:Str:="lyings"
def vU:Str:="is_lying"
def vV:Str:="sides"
def yZ:Str:="Shop.__init__"
def xA:Str:="self"
def za:Str:="Shop.blade"
def zb:Str:="Shop.kinds"
def zc:Str:="Shop.wanted"
def GT:Str:="told"
def GU:Str:="number"
def zd:Str:="Shop.lyings"
def ze:Str:="Shop.is_lying"
def GV:Str:="row"
def zf:Str:="Shop.sides"
def GW:Str:="blade_width"
def GX:Str:="kind_rows"
def De:Str:="__dict__"
def Df:Str:="_law_script"
def zg:Str:="_law_k"
def GY:Str:="_law_cell_here"
def vW:Str:="_law_pot_here"
def Dg:Str:="_law_many"
def GZ:Str:="_law_digit"
def Hf:Str:="_law_kind"
def zh:Str:="_law_wide"
def zi:Str:="_law_high"
def Dh:Str:="_law_worth"
def Di:Str:="_law_wanted"
def Hg:Str:="_law_turns"
def Hh:Str:="_law_most"
def Hi:Str:="_law_found"
def Hj:Str:="_law_left"
def Hk:Str:="_law_sides"
def Hl:Str:="_law_kinds"
def Hm:Str:="_law_blade"
def Hn:Str:="_law_shop"
def Ho:Str:="_law_told"
def Hq:Str:="_law_a"
def Hr:Str:="_law_b"
def Hs:Str:="_law_kept"
def Ht:Str:="_law_part"
abbrev HK:Hook:=kHook Pc.kK [nat_lit 3,nat_lit 23,nat_lit 24,nat_lit 36,nat_lit 37,nat_lit 48,nat_lit 49,nat_lit 60,nat_lit 61,nat_lit 72,nat_lit 73,nat_lit 84,nat_lit 85,nat_lit 96,nat_lit 97,nat_lit 105,nat_lit 106,nat_lit 112,nat_lit 113,nat_lit 119,nat_lit 120,nat_lit 126,nat_lit 127,nat_lit 133,nat_lit 134,nat_lit 140,nat_lit 141,nat_lit 145,nat_lit 146,nat_lit 152,nat_lit 153,nat_lit 157,nat_lit 158,nat_lit 162,nat_lit 163,nat_lit 169,nat_lit 170,nat_lit 174,nat_lit 175,nat_lit 179,nat_lit 180,nat_lit 184,nat_lit 185,nat_lit 189,nat_lit 190,nat_lit 194,nat_lit 195,nat_lit 201,nat_lit 202,nat_lit 206,nat_lit 207,nat_lit 213,nat_lit 214,nat_lit 220,nat_lit 221,nat_lit 232,nat_lit 233,nat_lit 239,nat_lit 240,nat_lit 246,nat_lit 247,nat_lit 251,nat_lit 252,nat_lit 258,nat_lit 259,nat_lit 265,nat_lit 266,nat_lit 272,nat_lit 273,nat_lit 275,nat_lit 276,nat_lit 286,nat_lit 287,nat_lit 293,nat_lit 294,nat_lit 300,nat_lit 301,nat_lit 307,nat_lit 308,nat_lit 312,nat_lit 313,nat_lit 319,nat_lit 320,nat_lit 326,nat_lit 327,nat_lit 331,nat_lit 332,nat_lit 338,nat_lit 339,nat_lit 343,nat_lit 344,nat_lit 348,nat_lit 349,nat_lit 353,nat_lit 354,nat_lit 358,nat_lit 359,nat_lit 363,nat_lit 364,nat_lit 370,nat_lit 371,nat_lit 377,nat_lit 378] (λ _=>by kernel_rfl)
abbrev pt:IP:=PySem.W.Fast.tw16117188415968286179
theorem pt_eq:PySem.Challenge.pw_platecuts_k71_whole_greatest_bundles=pt:=PySem.W.Fast.te16117188415968286179
def tp (i:Nat):Stmt:=pt.main.body.getD i (.Pass %[0,0,0|0])
abbrev f (o:Params->Obj) (l r:Params->BT):Params->BT:=λ P=>.node (o P) (l P) (r P)
abbrev z:Params->BT:=λ _=>.nil
abbrev e (P:Params) (n:Str) (t:Nat) (v:IS):DictEntry:=%[PyData.keyHash P n,.str n t|v]
abbrev m0:Nat:=nat_lit 11
abbrev an:Kq IS:=(↑6)
abbrev en:Env:={ scope:=pt.main.scope,locals:=mainNs,globals:=mainNs,cells:=[],code:=(.ref 13),frame:=some 14 }
abbrev cE:Code:=.body (behindTheImports pt) en
abbrev qP:Pos:=%[0,0,0|0]
abbrev B:Ks Frame:=[topFrame qP]
abbrev L0:=SL.s14018661285674007319x4
abbrev L1:=SL.s11665532747177232413x24
abbrev L2:=SL.s15183661809925369436x15
abbrev L3:=SL.s13915890719876406383x10
abbrev L4:=SL.s13459172003223722735x3
abbrev L5:=SL.s10557405761357834076x3
abbrev L6:=SL.s4233737765568776869x3
abbrev L7:=SL.s2508922471967985374x5
abbrev L8:=SL.s15574269061696679450x3
abbrev L9:=SL.s6016482663378992977x10
abbrev L10:=SL.s5596568736180474577x8
abbrev L11:=SL.s2839554839881490554x3
abbrev L12:=SL.s725004073602090463x7
abbrev L13:=SL.s9436932552931045734x7
abbrev L14:=SL.s2754603736356183583x3
abbrev L15:=SL.s15185746759980889043x6
abbrev L16:=SL.s8192189862530294059x4
abbrev L17:=SL.s7038307821325472102x4
abbrev L18:=SL.s5662562618415449548x6
abbrev L19:=SL.s15281542589158584767x7
abbrev L20:=SL.s17651547275483570877x7
abbrev L21:=SL.s4036449017235975746x7
abbrev L22:=SL.s8879979712987360175x4
abbrev L23:=SL.s1801250619170735830x3
abbrev L24:=SL.s17659931425627118568x2
abbrev L25:=SL.s6063217899685152688x5
abbrev L26:=SL.s8008927332132565319x10
abbrev L27:=SL.s3544116645089599534x10
abbrev L28:=SL.s13761710972054866084x4
abbrev L29:=SL.s12896375587409280029x5
abbrev L30:=SL.s13014049009108672802x3
abbrev L31:=SL.s13935586738268321596x6
abbrev L32:=SL.s8200498257699607233x3
abbrev L33:=SL.s14114244577727609259x3
abbrev L34:=SL.s1499430450269397089x4
abbrev L35:=SL.s8755793994789770505x5
abbrev L36:=SL.s15725212667919936108x3
abbrev L37:=SL.s15791221867095933363x3
abbrev L38:=SL.s81309575031448614x3
abbrev L39:=SL.s8069831620301644142x5
abbrev L40:=SL.s10061844253413749634x4
abbrev L41:=SL.s9496514870978017513x5
abbrev L42:=SL.s8899691144933366716x7
abbrev L43:=SL.s15201008993051130160x6
abbrev L44:=SL.s741896355592496720x3
abbrev L45:=SL.s17925004256654032244x4
abbrev L46:=SL.s11695548795398191787x4
abbrev L47:=SL.s4156966113859768872x10
abbrev L48:=SL.s9501651726347032510x9
abbrev L49:=SL.s15722918466584999320x5
abbrev L50:=SL.s591115383303110208x11
abbrev L51:=SL.s15721156781594690315x7
abbrev L52:=SL.s14340494229221121180x9
abbrev L53:=SL.s13429844117177748173x6
abbrev L54:=SL.s16463266125957815391x5
abbrev L55:=SL.s4922535414793169389x9
abbrev L56:=SL.s8101838861749082086x8
abbrev L57:=SL.s7066276694103001551x3
abbrev L58:=SL.s9222952809800978799x4
abbrev L59:=SL.s462964344163437139x3
abbrev L60:=SL.s2742458400755230247x6
abbrev L61:=SL.s1438033511350832697x5
abbrev L62:=SL.s14365286008749172514x8
abbrev L63:=SL.s3642769012341782148x3
abbrev L64:=SL.s4674234679698826739x5
abbrev L65:=SL.s16656946322747308186x12
abbrev L66:=SL.s10796804682411823810x3
abbrev L67:=SL.s4290257624100764138x5
abbrev L68:=SL.s2766695959194262286x5
abbrev L69:=SL.s17162191345867700912x4
abbrev L70:=SL.s14339709457334898076x3
abbrev L71:=SL.s4278001404047624695x13
abbrev L72:=SL.s6585700554429387442x18
abbrev L73:=SL.s5946037652744460706x9
abbrev L74:=SL.s7410770068591931388x13
abbrev L75:=SL.s11817881795495490833x17
abbrev L76:=SL.s15679963881808890155x10
abbrev L77:=SL.s3871700062485845797x15
abbrev L78:=SL.s7689518266570723881x14
abbrev L79:=SL.s9001593270443806431x14
abbrev L80:=SL.s6882542574934516792x11
abbrev L81:=SL.s14403400214490484960x8
abbrev L82:=SL.s14457978657717015782x11
abbrev L83:=SL.s1753610191782819921x11
abbrev L84:=SL.s14119380538032626715x11
abbrev L85:=SL.s11437920000406562045x9
abbrev L86:=SL.s10852414792293593619x7
abbrev L87:=SL.s14816307405966870543x14
abbrev L88:=SL.s8682627914449686677x12
abbrev L89:=SL.s4428170145600203450x18
abbrev L90:=SL.s5991306692159431302x13
abbrev L91:=SL.s16067994140765818257x11
abbrev L92:=SL.s2327743974964600596x11
abbrev L93:=SL.s2804747833354056582x9
abbrev L94:=SL.s6070975301684473832x10
abbrev L95:=SL.s14270485950484850486x7
abbrev L96:=SL.s12041534306414923332x18
abbrev L97:=SL.s2531307568338490285x13
abbrev L98:=SL.s631175304937289666x17
abbrev L99:=SL.s5144983644357021410x12
abbrev HM:=SL.s18039099521571816885x18
abbrev HN:=SL.s6011586214260557989x15
abbrev HP:=SL.s5430567037509283100x13
abbrev HQ:=SL.s8117915138073963741x13
abbrev HR:=SL.s3423317712779056401x25
abbrev HS:=SL.s2007317383269046180x15
abbrev HU:=SL.s17481586968713580700x14
abbrev HV:=SL.s2450899226349176912x13
abbrev HW:=SL.s16626165730633575011x14
abbrev HX:=SL.s14288496050688921416x11
abbrev HY:=SL.s5735081916595925998x15
abbrev HZ:=SL.s3865607918536308442x17
abbrev Ia:=SL.s13337502604062700212x15
abbrev Ib:=SL.s13114017843053701147x15
abbrev Ic:=SL.s17467278006356818441x17
abbrev Id:=SL.s17722149559621369488x16
abbrev Ie:=SL.s7855274175708717672x17
abbrev Ig:=SL.s13351283678309829046x18
abbrev Ih:=SL.s6668348653404991179x15
abbrev Ii:=SL.s12913350958174193794x18
abbrev Ij:=SL.s16115879512475548326x12
abbrev Ik:=SL.s15920661018069861047x16
abbrev Il:=SL.s10779130036587390575x21
abbrev Im:=SL.s7801419657504700863x10
abbrev Io:=SL.s1688129525768580628x8
abbrev Ip:=SL.s1031832959479892071x19
abbrev Iq:=SL.s8991790508128307865x19
abbrev Ir:=SL.s14539662485746970245x23
abbrev Is:=SL.s11643622729373238714x14
abbrev Iu:=SL.s3386828779285465597x17
abbrev Iv:=SL.s13042696260734638735x12
abbrev Iw:=SL.s18239426817015966623x15
abbrev Ix:=SL.s1270395311379034370x22
abbrev Iy:=SL.s10696252587037064777x22
abbrev Iz:=SL.s7852717498200857586x20
abbrev IB:=SL.s6377248116197321094x8
abbrev IC:=SL.s3834378056692298002x18
abbrev ID:=SL.s17586630440231065808x18
abbrev IE:=SL.s15234114252648025395x21
abbrev IF:=SL.s8496462677383758984x14
abbrev IG:=SL.s16789243406116112673x4
abbrev IH:=SL.s14400166428656793546x20
abbrev II:=SL.s5857708277339239366x20
abbrev IJ:=SL.s7804999707787243718x20
abbrev Dj:=SL.s7097527257260152453x26
abbrev IK:=SL.s6658869562736209489x6
abbrev zj:=SL.s5856160107412720595x4
abbrev HA:=SL.s658472552662922059x5
abbrev sZ (w:IR) (os:OsState):IN:=%[boot_heap w.params,Array.mk [],boot_drawn,boot_toks|os]
def o11 (P:Params):Obj:=%[(.type L68),none,(.seq #[] 0)|#[]]
def o12 (P:Params):Obj:=%[.none,none,(.fields #[])|#[]]
def g0 (x0:Str)(x1 x2 x3:Nat)(P:Params):Obj:=%[(.type zj),none,(.fields #[.str x0 x1,.str x0 (x1+1),.str ni (x1+2),.int x2 0,.int 0 0,.int 0 0,.int 0 0,.int 0 0,.ref x3,.bool false,.int 181 0,.ref (x3+1),.none,.none,.none,.none,.int (x1+3) 0,.int x2 0,.str ni (x1+4)])|#[]]
def o13:=g0 GG 182 1 11
def g1 (x0 x1:Nat)(x2:Str)(x3:Nat)(P:Params):Obj:=%[(.type HA),none,.plain|#[↑x0,↑3,↑x1,none,some (.str x2 x3),none,↑0]]
def o14:=g1 13 3 GF 164
def hA (P:Params):Heap:=%[%[|[boot_o_0 P,boot_o_1 P,boot_o_2 P,boot_o_3 P,boot_o_4 P,boot_o_5 P,boot_o_6 P,boot_o_7 P,boot_o_8 P,boot_o_9 P,boot_o_10 P,o11 P,o12 P,o13 P,o14 P]]|{ }]
abbrev sA (w:IR) (os:OsState):IN:=%[hA w.params,(Array.mk []),%[0,0,0|0],187|os]
abbrev pA:Pos:=%[0,0,0|0]
theorem pre (w:IR):(λ os=>topGo treeTable pt w m0 an 12 (sZ w os) (topStub pt))=λ os=>some (sA w os,(%[denote treeTable cE,cE,pA|B]:Thread)):=by rw[PySem.W.Fast.te15667345088766844465,PySem.W.Fast.te14364793385576792824,PySem.W.Fast.te11892475500146522536];kernel_rfl
def tB:Params->BT:=(f boot_o_0 (f boot_o_1 (f boot_o_3 (f boot_o_7 z z) (f o11 z z)) (f boot_o_5 (f boot_o_9 z z) (f o13 z z))) (f boot_o_2 (f boot_o_4 (f boot_o_8 z z) (f o12 z z)) (f boot_o_6 (f boot_o_10 z z) (f o14 z z))))
abbrev sB (w:IR) (os:OsState):SharedT:=%[tB w.params,15,{ },(Array.mk []),%[0,0,0|0],187|os]
abbrev pB:Pos:=%[0,0,0|0]
theorem blk (w:IR):(λ os=>segRun treeTable pt w m0 an 1 1 (sA w os) ⟨(blockStart (behindTheImports pt) en).wrap (λ _=>doneF .next) deadEnd id id,cE,pA,B⟩)=λ os=>some (.next,(sB w os).abs,cE,pB):=by rw[PySem.W.Fast.te14374325043358763698,PySem.W.Fast.te14364793385576792824,PySem.W.Fast.te1066825118222455980];kernel_rfl
def HB (P:Params):Obj:=%[(.type L0),none,(.dict #[e P S0 165 (.str lQ 399),e P S2 166 .none,e P S3 167 .none,e P S4 168 (.builtin Dj),e P S5 169 .none,e P CQ 170 (.ref 6),e P CS 171 (.ref 4),e P CT 173 (.str ni 172),e P CU 174 .none,e P lR 206 (.ref 24),e P sG 222 (.ref 37),e P sH 238 (.ref 49),e P sI 254 (.ref 61),e P sJ 270 (.ref 73),e P sK 286 (.ref 85),e P sL 302 (.ref 97),e P oK 312 (.ref 106),e P oM 319 (.ref 113),e P oN 326 (.ref 120),e P oO 334 (.ref 127),e P oP 343 (.ref 134),e P yQ 347 (.str CV 346),e P yR 349 (.str CW 348),e P oQ 364 (.ref 141),e P oR 370 (.ref 146),e P oS 382 (.ref 153),e P oT 388 (.ref 158),e P oU 394 (.ref 163),e P yS 396 (.str CY 395),e P yT 398 (.str CZ 397),e P yU 402 (.int 8 401),e P yV 404 (.int 6 403),e P oV 413 (.ref 170),e P oW 419 (.ref 175),e P oX 425 (.ref 180),e P oY 431 (.ref 185),e P oZ 437 (.ref 190)] 37)|#[]]
def Dk (P:Params):Obj:=%[.none,none,(.fields #[.int 2 0,.int 0 0,.ref 20,.int 4 0,.int 0 0,.ref 33,.int 6 0,.int 0 0,.ref 45,.int 8 0,.int 0 0,.ref 57,.int 10 0,.int 0 0,.ref 69,.int 12 0,.int 0 0,.ref 81,.int 14 0,.int 0 0,.ref 93,.int 17 0,.int 0 0,.ref 105,.int 19 0,.int 0 0,.ref 112,.int 21 0,.int 0 0,.ref 119,.int 23 0,.int 0 0,.ref 126,.int 26 0,.int 0 0,.ref 133,.int 32 0,.int 0 0,.ref 140,.int 37 0,.int 0 0,.ref 145,.int 40 0,.int 0 0,.ref 152,.int 45 0,.int 0 0,.ref 157,.int 49 0,.int 0 0,.ref 162,.int 56 0,.int 0 0,.ref 169,.int 61 0,.int 0 0,.ref 174,.int 63 0,.int 0 0,.ref 179,.int 65 0,.int 0 0,.ref 184,.int 67 0,.int 0 0,.ref 189])|#[]]
def o15 (P:Params):Obj:=%[(.type L68),none,(.seq #[.type L94] 0)|#[]]
abbrev Dl:=SL.s11030030927630378310x26
abbrev HC:=SL.s10062305145149207511x16
def o16 (P:Params):Obj:=%[(.type Dl),none,(.fields #[.builtin HC,.type L69])|#[]]
def g2 (x0:Nat)(x1:Str)(x2 x3:Nat)(P:Params):Obj:=%[(.type L0),none,(.dict #[e P vK x0 (.str jE 187),e P Da (x0+2) (.str x1 (x0+1)),e P vL (x0+4) (.int x2 (x0+3)),e P vM (x0+5) (.ref x3)] 4)|#[]]
def o17:=g2 196 lR 2 22
def o20:=g0 lR 191 2 18
def o21:=g1 20 17 jE 187
def o23 (P:Params):Obj:=%[(.type L0),none,(.dict #[e P vK 196 (.str jE 187),e P vL 200 (.int 2 199),e P vM 201 (.ref 22),e P yW 203 (.ref 25),e P S2 204 .none] 3)|#[]]
abbrev Dm:=SL.s4209523147560561109x18
def o24 (P:Params):Obj:=%[(.type L69),none,(.cls %[lR,[.type L94],[.ref 24,.type L94,.type L73,.type L71,.type L60],23,lR,true,[],[.ref 37,.ref 49,.ref 61,.ref 73,.ref 85,.ref 97],false,none|false])|#[↑15,none,some (.str lR 189),some (.str lR 197),some (.builtin Dm),some (.bool true)]]
abbrev Do:=SL.s14755015743595814543x17
abbrev HD:=SL.s10220274742760427390x26
def g3 (x0 x1:Nat)(P:Params):Obj:=%[(.type Do),none,(.fields #[.str yW x0,.ref x1,.builtin HD,.none])|#[]]
def o25:=g3 202 24
def g4 (x0:Nat)(P:Params):Obj:=%[(.type L67),none,(.fields #[.ref x0,.ref x0,.ref x0])|#[]]
def o26:=g4 24
abbrev HE:=SL.s4860613602091757760x24
def g5 (x0:Nat)(P:Params):Obj:=%[(.type Dl),none,(.fields #[.builtin HE,.ref x0])|#[]]
def o27:=g5 24
def o28 (P:Params):Obj:=%[(.type L68),none,(.seq #[.ref 24] 0)|#[]]
def o30:=g2 214 sG 4 35
def o33:=g0 sG 209 4 31
def o34:=g1 33 30 jE 187
def g6 (x0 x1 x2:Nat)(P:Params):Obj:=%[(.type L0),none,(.dict #[e P vK x0 (.str jE 187),e P vL (x0+4) (.int x1 (x0+3)),e P vM (x0+5) (.ref x2),e P S2 (x0+6) .none] 2)|#[]]
def o36:=g6 214 4 35
def g7 (x0:Str)(x1 x2 x3 x4:Nat)(P:Params):Obj:=%[(.type L69),none,(.cls %[x0,[.ref 24],[.ref x1,.ref 24,.type L94,.type L73,.type L71,.type L60],x2,x0,true,[],[],false,none|false])|#[↑x3,none,some (.str x0 x4),some (.str x0 (x4+8)),some (.builtin Dm),some (.bool true)]]
def o37:=g7 sG 37 36 28 207
def o38:=g4 37
def o39:=g5 37
def o42:=g2 230 sH 6 47
def o45:=g0 sH 225 6 43
def o46:=g1 45 42 jE 187
def o48:=g6 230 6 47
def o49:=g7 sH 49 48 40 223
def o50:=g4 49
def o51:=g5 49
def o54:=g2 246 sI 8 59
def o57:=g0 sI 241 8 55
def o58:=g1 57 54 jE 187
def o60:=g6 246 8 59
def o61:=g7 sI 61 60 52 239
def o62:=g4 61
def o63:=g5 61
def o66:=g2 262 sJ 10 71
def o69:=g0 sJ 257 10 67
def o70:=g1 69 66 jE 187
def o72:=g6 262 10 71
def o73:=g7 sJ 73 72 64 255
def o74:=g4 73
def o75:=g5 73
def o78:=g2 278 sK 12 83
def o81:=g0 sK 273 12 79
def o82:=g1 81 78 jE 187
def o84:=g6 278 12 83
def o85:=g7 sK 85 84 76 271
def o86:=g4 85
def o87:=g5 85
def o90:=g2 294 sL 14 95
def o93:=g0 sL 289 14 91
def o94:=g1 93 90 jE 187
def o96:=g6 294 14 95
def o97:=g7 sL 97 96 88 287
def o98:=g4 97
def o99:=g5 97
def g8 (x0:Str)(x1:Nat)(x2:Str)(P:Params):Obj:=%[(.type L68),none,(.seq #[.str x0 x1,.str x2 (x1+1)] 0)|#[]]
def zk:=g8 xz 308 GH
def g9 (x0:Str)(x1:Nat)(P:Params):Obj:=%[.none,none,(.func %[x0,x0,L2.defArgs (tp x1),(.stmts (L2.defBody (tp x1))),L2.defScope (tp x1),0,[],.none,.none,.none,.none,none,.none,.none|0])|#[]]
def zm:=g9 oK 9
def g10 (x0:Str)(x1:Nat)(x2:Str)(x3 x4 x5 x6:Nat)(P:Params):Obj:=%[(.type zj),none,(.fields #[.str x0 x1,.str x2 (x1+1),.str ni (x1+2),.int x3 0,.int x4 0,.int 0 0,.int 0 0,.int 3 0,.ref x5,.bool true,.int 181 0,.ref (x5+1),.none,.ref (x5+2),.ref (x5+3),.ref (x5+4),.int x6 0,.int x3 0,.str ni (x6+1)])|#[]]
def zn:=g10 oK 305 oK 17 2 100 310
abbrev Dp:=SL.s7174869446012820540x8
def g11 (x0:Str)(x1:Nat)(x2:Str)(x3 x4:Nat)(P:Params):Obj:=%[(.type Dp),none,(.func %[x0,x0,L2.defArgs (tp x1),(.stmts (L2.defBody (tp x1))),L2.defScope (tp x1),3,[],.none,.none,.none,.str x2 x3,none,.ref x4,.none|0])|#[]]
def zp:=g11 oK 9 vN 303 105
def g12 (x0:Str)(x1:Nat)(P:Params):Obj:=%[(.type L68),none,(.seq #[.str x0 x1] 0)|#[]]
def zq:=g12 xz 316
def zr:=g9 oM 10
def zt:=g10 oM 313 oM 19 1 107 317
def zu:=g11 oM 10 vN 303 112
def zv:=g12 xz 323
def zw:=g9 oN 11
def zx:=g10 oN 320 oN 21 1 114 324
def zy:=g11 oN 11 vN 303 119
def zA:=g8 pf 330 ph
def zB:=g9 oO 12
def zC:=g10 oO 327 oO 23 2 121 332
def zD:=g11 oO 12 vN 303 126
def g13 (x0:Str)(x1:Nat)(x2 x3:Str)(P:Params):Obj:=%[(.type L68),none,(.seq #[.str x0 x1,.str x2 (x1+1),.str x3 (x1+2)] 0)|#[]]
def zE:=g13 pf 338 ph GI
def zF:=g9 oP 13
def zG:=g10 oP 335 oP 26 3 128 341
def zH:=g11 oP 13 vN 303 133
def g14 (x0:Str)(x1:Nat)(x2 x3 x4 x5 x6 x7 x8 x9:Str)(P:Params):Obj:=%[(.type L68),none,(.seq #[.str x0 x1,.str x2 (x1+1),.str x3 (x1+2),.str x4 (x1+3),.str x5 (x1+4),.str x6 (x1+5),.str x7 (x1+6),.str x8 (x1+7),.str x9 (x1+8)] 0)|#[]]
def zI:=g14 yX 353 pf ph vO yY GJ GK GL GM
def zJ:=g9 oQ 17
def zK:=g10 oQ 350 oQ 32 7 135 362
def zL:=g11 oQ 17 vP 344 140
def zM:=g9 oR 18
def g15 (x0:Str)(x1:Nat)(x2:Str)(x3 x4 x5:Nat)(P:Params):Obj:=%[(.type zj),none,(.fields #[.str x0 x1,.str x2 (x1+1),.str ni (x1+2),.int x3 0,.int x4 0,.int 0 0,.int 0 0,.int 3 0,.ref x5,.bool true,.int 181 0,.ref (x5+1),.none,.none,.none,.ref (x5+2),.int (x1+3) 0,.int x3 0,.str ni (x1+4)])|#[]]
def zN:=g15 oR 365 oR 37 2 142
def zO:=g11 oR 18 vP 344 145
def g16 (x0:Str)(x1:Nat)(x2 x3 x4 x5 x6:Str)(P:Params):Obj:=%[(.type L68),none,(.seq #[.str x0 x1,.str x2 (x1+1),.str x3 (x1+2),.str x4 (x1+3),.str x5 (x1+4),.str x6 (x1+5)] 0)|#[]]
def zP:=g16 sM 374 Db GN GO pf ph
def zQ:=g9 oS 19
def zR:=g10 oS 371 oS 40 4 147 380
def zS:=g11 oS 19 vP 344 152
def zT:=g9 oT 20
def zU:=g15 oT 383 oT 45 2 154
def zV:=g11 oT 20 vP 344 157
def zW:=g9 oU 21
def zX:=g15 oU 389 oU 49 2 159
def zY:=g11 oU 21 vP 344 162
def zZ:=g13 yX 408 pf ph
def Aa:=g9 oV 27
def Ab:=g10 oV 405 oV 56 3 164 411
def Ac:=g11 oV 27 lQ 399 169
def Ad:=g9 oW 28
def Ae:=g15 oW 414 oW 61 2 171
def Af:=g11 oW 28 lQ 399 174
def Ag:=g9 oX 29
def Ah:=g15 oX 420 oX 63 3 176
def Ai:=g11 oX 29 lQ 399 179
def Aj:=g9 oY 30
def Ak:=g15 oY 426 oY 65 2 181
def Al:=g11 oY 30 lQ 399 184
def Am:=g9 oZ 31
def An:=g15 oZ 432 oZ 67 3 186
def Ao:=g11 oZ 31 lQ 399 189
def t0:Params->BT:=(f boot_o_0 (f boot_o_1 (f HB (f boot_o_7 (f o15 (f o11 (f o63 (f zD z z) z) (f o11 (f o11 z z) z)) (f o11 (f o11 (f o12 z z) z) (f zr (f Af z z) z))) (f o23 (f o39 (f o11 (f o11 z z) z) (f o11 (f o11 z z) z)) (f o11 (f o87 (f zQ z z) z) (f zx (f Aj z z) z)))) (f o11 (f o12 (f o11 (f o11 (f o11 z z) z) (f o99 (f zY z z) z)) (f o51 (f o11 (f o11 z z) z) (f o12 (f Ah z z) z))) (f o27 (f o11 (f o75 (f zJ z z) z) (f o11 (f o11 z z) z)) (f o11 (f o11 (f o12 z z) z) (f zA (f o12 z z) z))))) (f boot_o_5 (f boot_o_9 (f o17 (f o33 (f o16 (f o12 z z) z) (f o97 (f zW z z) z)) (f o49 (f o81 (f zN z z) z) (f zu (f o12 z z) z))) (f o25 (f o16 (f o73 (f zI z z) z) (f zn (f Ab z z) z)) (f o57 (f o16 (f zS z z) z) (f o11 (f Al z z) z)))) (f o13 (f o21 (f o37 (f o69 (f zG z z) z) (f o12 (f o12 z z) z)) (f o16 (f o85 (f zP z z) z) (f o11 (f o11 z z) z))) (f o16 (f o45 (f o16 (f zL z z) z) (f zq (f Ad z z) z)) (f o61 (f o93 (f zU z z) z) (f zB (f An z z) z)))))) (f boot_o_2 (f boot_o_4 (f boot_o_8 (f o16 (f o12 (f o28 (f o11 z z) z) (f o96 (f o12 z z) z)) (f o48 (f o12 (f zM z z) z) (f zt (f o11 z z) z))) (f o24 (f o28 (f o72 (f o12 z z) z) (f zm (f Aa z z) z)) (f o12 (f o28 (f zR z z) z) (f zy (f Ak z z) z)))) (f Dk (f o20 (f o36 (f o12 (f zF z z) z) (f o11 (f o11 z z) z)) (f o28 (f o84 (f o12 z z) z) (f zv (f Ai z z) z))) (f o28 (f o12 (f o28 (f zK z z) z) (f o12 (f o12 z z) z)) (f o60 (f o12 (f zT z z) z) (f o11 (f Am z z) z))))) (f boot_o_6 (f boot_o_10 (f o11 (f o34 (f o66 (f zE z z) z) (f o98 (f zX z z) z)) (f o50 (f o82 (f zO z z) z) (f o11 (f Ag z z) z))) (f o26 (f o42 (f o74 (f o11 z z) z) (f zp (f Ac z z) z)) (f o58 (f o90 (f o11 z z) z) (f o12 (f o11 z z) z)))) (f o14 (f o11 (f o38 (f o70 (f zH z z) z) (f zk (f zZ z z) z)) (f o54 (f o86 (f o11 z z) z) (f zw (f o12 z z) z))) (f o30 (f o46 (f o78 (f o11 z z) z) (f o11 (f Ae z z) z)) (f o62 (f o94 (f zV z z) z) (f zC (f Ao z z) z)))))))
abbrev s0 (w:IR) (os:OsState):SharedT:=%[t0 w.params,191,{ },(Array.mk []),%[0,0,0|0],438|os]
abbrev p0:Pos:=%[67,0,77|16]
abbrev st0:Ks Stmt:=(pt.main.body.drop 0).take 32
theorem q0 (w:IR):(λ os=>segRunT treeTable pt w m0 an 1 1988 (sB w os) %[(execs st0 en).wrap doneF deadEnd id id,cE,pB|B])=λ os=>some (.next,s0 w os,cE,p0):=by rw[PySem.W.Fast.te10110043849684766642,PySem.W.Fast.te14364793385576792824,PySem.W.Fast.te12563942051412417395];kernel_rfl
def Dq (P:Params):Obj:=%[(.type L0),none,(.dict #[e P S0 165 (.str eT 563),e P S2 166 .none,e P S3 167 .none,e P S4 168 (.builtin Dj),e P S5 169 .none,e P CQ 170 (.ref 6),e P CS 171 (.ref 4),e P CT 173 (.str ni 172),e P CU 174 .none,e P lR 206 (.ref 24),e P sG 222 (.ref 37),e P sH 238 (.ref 49),e P sI 254 (.ref 61),e P sJ 270 (.ref 73),e P sK 286 (.ref 85),e P sL 302 (.ref 97),e P oK 312 (.ref 106),e P oM 319 (.ref 113),e P oN 326 (.ref 120),e P oO 334 (.ref 127),e P oP 343 (.ref 134),e P yQ 347 (.str CV 346),e P yR 349 (.str CW 348),e P oQ 364 (.ref 141),e P oR 370 (.ref 146),e P oS 382 (.ref 153),e P oT 388 (.ref 158),e P oU 394 (.ref 163),e P yS 396 (.str CY 395),e P yT 398 (.str CZ 397),e P yU 402 (.int 8 401),e P yV 404 (.int 6 403),e P oV 413 (.ref 170),e P oW 419 (.ref 175),e P oX 425 (.ref 180),e P oY 431 (.ref 185),e P oZ 437 (.ref 190),e P sN 443 (.ref 195),e P sO 454 (.ref 202),e P sP 460 (.ref 207),e P Dc 464 (.int 8 463),e P Dd 466 (.int 5 465),e P sQ 478 (.ref 214),e P sR 485 (.ref 221),e P nj 562 (.ref 276),e P sS 572 (.ref 287),e P sT 579 (.ref 294),e P sU 588 (.ref 301),e P sV 600 (.ref 308),e P sW 606 (.ref 313),e P sX 614 (.ref 320),e P sY 629 (.ref 327),e P tf 635 (.ref 332),e P tj 642 (.ref 339),e P tm 648 (.ref 344),e P tq 654 (.ref 349),e P tw 660 (.ref 354),e P tD 666 (.ref 359),e P tE 672 (.ref 364),e P tF 690 (.ref 371),e P vQ 698 (.ref 378)] 61)|#[]]
def xS (P:Params):Obj:=%[.none,none,(.fields #[.int 2 0,.int 0 0,.ref 20,.int 4 0,.int 0 0,.ref 33,.int 6 0,.int 0 0,.ref 45,.int 8 0,.int 0 0,.ref 57,.int 10 0,.int 0 0,.ref 69,.int 12 0,.int 0 0,.ref 81,.int 14 0,.int 0 0,.ref 93,.int 17 0,.int 0 0,.ref 105,.int 19 0,.int 0 0,.ref 112,.int 21 0,.int 0 0,.ref 119,.int 23 0,.int 0 0,.ref 126,.int 26 0,.int 0 0,.ref 133,.int 32 0,.int 0 0,.ref 140,.int 37 0,.int 0 0,.ref 145,.int 40 0,.int 0 0,.ref 152,.int 45 0,.int 0 0,.ref 157,.int 49 0,.int 0 0,.ref 162,.int 56 0,.int 0 0,.ref 169,.int 61 0,.int 0 0,.ref 174,.int 63 0,.int 0 0,.ref 179,.int 65 0,.int 0 0,.ref 184,.int 67 0,.int 0 0,.ref 189,.int 78 0,.int 0 0,.ref 194,.int 81 0,.int 0 0,.ref 201,.int 86 0,.int 0 0,.ref 206,.int 93 0,.int 0 0,.ref 213,.int 100 0,.int 0 0,.ref 220,.int 102 0,.int 0 0,.ref 227,.int 145 0,.int 0 0,.ref 286,.int 149 0,.int 0 0,.ref 293,.int 151 0,.int 0 0,.ref 300,.int 157 0,.int 0 0,.ref 307,.int 162 0,.int 0 0,.ref 312,.int 164 0,.int 0 0,.ref 319,.int 168 0,.int 0 0,.ref 326,.int 177 0,.int 0 0,.ref 331,.int 184 0,.int 0 0,.ref 338,.int 186 0,.int 0 0,.ref 343,.int 188 0,.int 0 0,.ref 348,.int 201 0,.int 0 0,.ref 353,.int 204 0,.int 0 0,.ref 358,.int 214 0,.int 0 0,.ref 363,.int 219 0,.int 0 0,.ref 370,.int 242 0,.int 0 0,.ref 377])|#[]]
def Dr:=g9 sN 32
def Ds:=g15 sN 438 sN 78 1 191
def Dt:=g11 sN 32 lQ 399 194
def Du (P:Params):Obj:=%[(.type L68),none,(.seq #[.str yX 447,.str pf 448,.str ph 449,.str GP 450,.str Db 451] 0)|#[]]
def Dv:=g9 sO 33
def Dw:=g10 sO 444 sO 81 3 196 452
def Dx:=g11 sO 33 lQ 399 201
def Dy:=g9 sP 34
def Dz:=g15 sP 455 sP 86 3 203
def DA:=g11 sP 34 lQ 399 206
def DB:=g16 xz 470 pf ph GQ tG GS
def DC:=g9 sQ 38
def DF:=g10 sQ 467 sQ 93 1 208 476
def DG:=g11 sQ 38 tH 461 213
def DH:=g12 vO 482
def DL:=g9 sR 39
def DM:=g10 sR 479 sR 100 1 215 483
def DN:=g11 sR 39 tH 461 220
def DO (P:Params):Obj:=%[(.type L0),none,(.dict #[e P vK 493 (.str tH 461),e P Da 495 (.str nj 494),e P vL 497 (.int 102 496),e P vR 503 (.ref 233),e P sM 510 (.ref 240),e P vS 517 (.ref 247),e P tG 523 (.ref 252),e P vT 533 (.ref 259),e P vU 542 (.ref 266),e P vV 552 (.ref 273),e P vM 555 (.ref 274)] 11)|#[]]
def DQ (P:Params):Obj:=%[.none,none,(.fields #[.int 104 0,.int 4 0,.ref 232,.int 115 0,.int 4 0,.ref 239,.int 118 0,.int 4 0,.ref 246,.int 121 0,.int 4 0,.ref 251,.int 124 0,.int 4 0,.ref 258,.int 132 0,.int 4 0,.ref 265,.int 137 0,.int 4 0,.ref 272])|#[]]
def DV:=g0 nj 488 102 225
def DX:=g1 227 224 tH 461
def g17 (x0 x1:Str)(x2:Nat)(P:Params):Obj:=%[.none,none,(.func %[x0,x1,L2.defArgs (L2.inClass (tp 40) x2),(.stmts (L2.defBody (L2.inClass (tp 40) x2))),L2.defScope (L2.inClass (tp 40) x2),0,[],.none,.none,.none,.none,none,.none,.none|0])|#[]]
def DY:=g17 vR yZ 0
def DZ:=g15 vR 498 yZ 104 3 229
def g18 (x0 x1:Str)(x2 x3:Nat)(P:Params):Obj:=%[(.type Dp),none,(.func %[x0,x1,L2.defArgs (L2.inClass (tp 40) x2),(.stmts (L2.defBody (L2.inClass (tp 40) x2))),L2.defScope (L2.inClass (tp 40) x2),3,[],.none,.none,.none,.str tH 461,none,.ref x3,.none|0])|#[]]
def Ea:=g18 vR yZ 0 232
def Eb:=g12 xA 507
def Ec:=g17 sM za 1
def Ed:=g10 sM 504 za 115 1 234 508
def Ee:=g18 sM za 1 239
def Ef:=g12 xA 514
def Eg:=g17 vS zb 2
def Eh:=g10 vS 511 zb 118 1 241 515
def Ei:=g18 vS zb 2 246
def Ej:=g17 tG zc 3
def Ek:=g15 tG 518 zc 121 1 248
def El:=g18 tG zc 3 251
def g19 (x0:Nat)(x1 x2 x3:Str)(P:Params):Obj:=%[(.type L68),none,(.seq #[.str xA x0,.str x1 (x0+1),.str x2 (x0+2),.str x3 (x0+3)] 0)|#[]]
def Em:=g19 527 GT GU vO
def En:=g17 vT zd 4
def Eo:=g10 vT 524 zd 124 1 253 531
def Ep:=g18 vT zd 4 258
def Er:=g13 xA 537 vO yY
def Es:=g17 vU ze 5
def Et:=g10 vU 534 ze 132 3 260 540
def Eu:=g18 vU ze 5 265
def Ev:=g19 546 vO yY GV
def Ew:=g17 vV zf 6
def Ex:=g10 vV 543 zf 137 3 267 550
def Ey:=g18 vV zf 6 272
def Ez:=g8 GW 553 GX
def EA (P:Params):Obj:=%[(.type L0),none,(.dict #[e P vK 493 (.str tH 461),e P vL 497 (.int 102 496),e P vR 503 (.ref 233),e P sM 510 (.ref 240),e P vS 517 (.ref 247),e P tG 523 (.ref 252),e P vT 533 (.ref 259),e P vU 542 (.ref 266),e P vV 552 (.ref 273),e P vM 555 (.ref 274),e P De 557 (.ref 277),e P yW 559 (.ref 278),e P S2 560 .none] 4)|#[]]
abbrev HF:=SL.s11443829558043349243x14
def EB (P:Params):Obj:=%[(.type L69),none,(.cls %[nj,[.type L60],[.ref 276,.type L60],275,nj,true,[],[],false,none|false])|#[none,none,some (.str nj 486),some (.str nj 494),some (.builtin HF),some (.bool true)]]
abbrev HG:=SL.s6511155373996960695x17
abbrev HI:=SL.s12411053484034534018x21
def EC (P:Params):Obj:=%[(.type Do),none,(.fields #[.str De 556,.ref 276,.builtin HG,.builtin HI])|#[]]
def ED:=g3 558 276
def EE:=g4 276
def EF:=g5 276
def EG:=g8 Df 568 zg
def EH:=g9 sS 42
def EI:=g10 sS 565 sS 145 2 281 570
def EJ:=g11 sS 42 eT 563 286
def EK:=g12 GY 576
def EL:=g9 sT 43
def EM:=g10 sT 573 sT 149 1 288 577
def EN:=g11 sT 43 eT 563 293
def EO:=g13 vW 583 Dg GZ
def EQ:=g9 sU 44
def ER:=g10 sU 580 sU 151 2 295 586
def ES:=g11 sU 44 eT 563 300
def ET:=g16 Hf 592 zh zi Dh Di Hg
def EU:=g9 sV 45
def EV:=g10 sV 589 sV 157 1 302 598
def EW:=g11 sV 45 eT 563 307
def EX:=g9 sW 46
def EY:=g15 sW 601 sW 162 3 309
def EZ:=g11 sW 46 eT 563 312
def Fa:=g8 vW 610 Hh
def Fb:=g9 sX 47
def Fc:=g10 sX 607 sX 164 2 314 612
def Fd:=g11 sX 47 eT 563 319
def Fe:=g14 vW 618 zh zi Dg Hi Hj zg Di Dh
def Ff:=g9 sY 48
def Fg:=g10 sY 615 sY 168 4 321 627
def Fh:=g11 sY 48 eT 563 326
def Fi:=g9 tf 49
def Fj:=g15 tf 630 tf 177 2 328
def Fk:=g11 tf 49 eT 563 331
def Fl:=g12 vW 639
def Fm:=g9 tj 50
def Fn:=g10 tj 636 tj 184 1 333 640
def Fo:=g11 tj 50 eT 563 338
def Fp:=g9 tm 51
def Fq:=g15 tm 643 tm 186 2 340
def Fs:=g11 tm 51 eT 563 343
def Ft:=g9 tq 52
def Fu:=g15 tq 649 tq 188 2 345
def Fv:=g11 tq 52 eT 563 348
def Fw:=g9 tw 53
def Fx:=g15 tw 655 tw 201 3 350
def Fy:=g11 tw 53 eT 563 353
def Fz:=g9 tD 54
def FA:=g15 tD 661 tD 204 5 355
def FB:=g11 tD 54 eT 563 358
def FC:=g9 tE 55
def FD:=g15 tE 667 tE 214 5 360
def FE:=g11 tE 55 eT 563 363
def FF (P:Params):Obj:=%[(.type L68),none,(.seq #[.str vW 676,.str Hk 677,.str zh 678,.str zi 679,.str Hl 680,.str Hm 681,.str Hn 682,.str Ho 683,.str Hq 684,.str Hr 685,.str Hs 686,.str Ht 687] 0)|#[]]
def FG:=g9 tF 56
def FH:=g10 tF 673 tF 219 1 365 688
def FJ:=g11 tF 56 eT 563 370
def FK:=g8 Df 694 zg
def FL:=g9 vQ 57
def FM:=g10 vQ 691 vQ 242 1 372 696
def FN:=g11 vQ 57 eT 563 377
def t1:Params->BT:=(f boot_o_0 (f boot_o_1 (f Dq (f boot_o_7 (f o15 (f o11 (f o63 (f zD (f Em z z) z) (f o11 (f Fc z z) z)) (f o11 (f o11 (f EJ z z) z) (f o16 (f o12 z z) z))) (f o11 (f o11 (f o12 (f Ew z z) z) (f DA (f Fl z z) z)) (f zr (f Af (f o12 z z) z) (f Ed (f FF z z) z)))) (f o23 (f o39 (f o11 (f o11 (f o11 z z) z) (f o11 (f Fh z z) z)) (f o11 (f o11 (f o11 z z) z) (f DY (f FB z z) z))) (f o11 (f o87 (f zQ (f EE z z) z) (f o11 (f Fq z z) z)) (f zx (f Aj (f EX z z) z) (f Ei (f o11 z z) z))))) (f o11 (f o12 (f o11 (f o11 (f o11 (f Ep z z) z) (f Dt (f Fe z z) z)) (f o99 (f zY (f o11 z z) z) (f DV (f o11 z z) z))) (f o51 (f o11 (f o11 (f EA z z) z) (f o11 (f Fo z z) z)) (f o12 (f Ah (f EV z z) z) (f Ef (f FJ z z) z)))) (f o27 (f o11 (f o75 (f zJ (f o11 z z) z) (f o11 (f Fj z z) z)) (f o11 (f o11 (f EQ z z) z) (f o12 (f FD z z) z))) (f o11 (f o11 (f o12 (f EG z z) z) (f DL (f Ft z z) z)) (f zA (f o12 (f o12 z z) z) (f Ek z z)))))) (f boot_o_5 (f boot_o_9 (f o17 (f o33 (f o16 (f o12 (f En z z) z) (f Dr (f o11 z z) z)) (f o97 (f zW (f o12 z z) z) (f o11 (f Fx z z) z))) (f o49 (f o81 (f zN (f Ey z z) z) (f o12 (f Fm z z) z)) (f zu (f o12 (f o11 z z) z) (f o11 (f FG z z) z)))) (f o25 (f o16 (f o73 (f zI (f Et z z) z) (f Dw (f o12 z z) z)) (f zn (f Ab (f EO z z) z) (f Ea (f o12 z z) z))) (f o57 (f o16 (f zS (f o11 z z) z) (f DH (f o11 z z) z)) (f o11 (f Al (f EZ z z) z) (f o12 (f FM z z) z))))) (f o13 (f o21 (f o37 (f o69 (f zG (f o12 z z) z) (f o12 (f Ff z z) z)) (f o12 (f o12 (f EM z z) z) (f o11 (f Fz z z) z))) (f o16 (f o85 (f zP (f EC z z) z) (f DF (f o12 z z) z)) (f o11 (f o11 (f o11 z z) z) (f Eg (f o12 z z) z)))) (f o16 (f o45 (f o16 (f zL (f Ev z z) z) (f Dy (f o11 z z) z)) (f zq (f Ad (f ES z z) z) (f o11 (f o11 z z) z))) (f o61 (f o93 (f zU (f EH z z) z) (f DN (f Fv z z) z)) (f zB (f An (f o11 z z) z) (f o11 z z))))))) (f boot_o_2 (f boot_o_4 (f boot_o_8 (f o16 (f o12 (f o28 (f o11 (f o11 z z) z) (f o12 (f Fd z z) z)) (f o96 (f o12 (f o11 z z) z) (f DO (f Fw z z) z))) (f o48 (f o12 (f zM (f Ex z z) z) (f o11 (f o11 z z) z)) (f zt (f o11 (f ET z z) z) (f Ee (f o11 z z) z)))) (f o24 (f o28 (f o72 (f o12 (f Es z z) z) (f Dv (f o11 z z) z)) (f zm (f Aa (f o12 z z) z) (f DZ (f o11 z z) z))) (f o12 (f o28 (f zR (f EF z z) z) (f o12 (f Fs z z) z)) (f zy (f Ak (f EY z z) z) (f o11 (f FL z z) z))))) (f xS (f o20 (f o36 (f o12 (f zF (f o11 z z) z) (f o11 (f o11 z z) z)) (f o11 (f o11 (f EL z z) z) (f DX (f o12 z z) z))) (f o28 (f o84 (f o12 (f EB z z) z) (f DC (f o11 z z) z)) (f zv (f Ai (f EW z z) z) (f o11 (f o11 z z) z)))) (f o28 (f o12 (f o28 (f zK (f o12 z z) z) (f o12 (f Fk z z) z)) (f o12 (f o12 (f ER z z) z) (f Eb (f FE z z) z))) (f o60 (f o12 (f zT (f o11 z z) z) (f DM (f Fu z z) z)) (f o11 (f Am (f Fa z z) z) (f El z z)))))) (f boot_o_6 (f boot_o_10 (f o11 (f o34 (f o66 (f zE (f Eo z z) z) (f Ds (f o12 z z) z)) (f o98 (f zX (f EK z z) z) (f DQ (f Fy z z) z))) (f o50 (f o82 (f zO (f Ez z z) z) (f DB (f Fn z z) z)) (f o11 (f Ag (f EU z z) z) (f o12 (f FH z z) z)))) (f o26 (f o42 (f o74 (f o11 (f Eu z z) z) (f Dx (f Fi z z) z)) (f zp (f Ac (f o11 z z) z) (f o11 (f FC z z) z))) (f o58 (f o90 (f o11 (f o12 z z) z) (f o11 (f o12 z z) z)) (f o12 (f o11 (f o11 z z) z) (f Ej (f FN z z) z))))) (f o14 (f o11 (f o38 (f o70 (f zH (f Er z z) z) (f Du (f Fg z z) z)) (f zk (f zZ (f EN z z) z) (f o12 (f FA z z) z))) (f o54 (f o86 (f o11 (f ED z z) z) (f DG (f Fp z z) z)) (f zw (f o12 (f o12 z z) z) (f Eh (f FK z z) z)))) (f o30 (f o46 (f o78 (f o11 (f o11 z z) z) (f Dz (f o12 z z) z)) (f o11 (f Ae (f o11 z z) z) (f Ec (f o12 z z) z))) (f o62 (f o94 (f zV (f EI z z) z) (f o11 (f o11 z z) z)) (f zC (f Ao (f Fb z z) z) (f o12 z z))))))))
abbrev s1 (w:IR) (os:OsState):SharedT:=%[t1 w.params,379,{ },(Array.mk []),%[0,0,0|0],699|os]
abbrev p1:Pos:=%[242,0,246|15]
abbrev st1:Ks Stmt:=(pt.main.body.drop 32).take 26
theorem q1 (w:IR):(λ os=>segRunT treeTable pt w m0 an 1 1067 (s0 w os) %[(execs st1 en).wrap doneF deadEnd id id,cE,p0|B])=λ os=>some (.next,s1 w os,cE,p1):=by rw[PySem.W.Fast.te10110043849684766642,PySem.W.Fast.te14364793385576792824,PySem.W.Fast.te12563942051412417395];kernel_rfl
def hF (P:Params):Heap:=%[%[|[boot_o_0 P,boot_o_1 P,boot_o_2 P,Dq P,boot_o_4 P,boot_o_5 P,boot_o_6 P,boot_o_7 P,boot_o_8 P,boot_o_9 P,boot_o_10 P,o11 P,xS P,o13 P,o14 P,o15 P,o16 P,o17 P,o11 P,o12 P,o20 P,o21 P,o11 P,o23 P,o24 P,o25 P,o26 P,o27 P,o28 P,o16 P,o30 P,o11 P,o12 P,o33 P,o34 P,o11 P,o36 P,o37 P,o38 P,o39 P,o28 P,o16 P,o42 P,o11 P,o12 P,o45 P,o46 P,o11 P,o48 P,o49 P,o50 P,o51 P,o28 P,o16 P,o54 P,o11 P,o12 P,o57 P,o58 P,o11 P,o60 P,o61 P,o62 P,o63 P,o28 P,o16 P,o66 P,o11 P,o12 P,o69 P,o70 P,o11 P,o72 P,o73 P,o74 P,o75 P,o28 P,o16 P,o78 P,o11 P,o12 P,o81 P,o82 P,o11 P,o84 P,o85 P,o86 P,o87 P,o28 P,o16 P,o90 P,o11 P,o12 P,o93 P,o94 P,o11 P,o96 P,o97 P,o98 P,o99 P,o11 P,o12 P,zk P,o11 P,zm P,zn P,zp P,o11 P,o12 P,zq P,o11 P,zr P,zt P,zu P,o11 P,o12 P,zv P,o11 P,zw P,zx P,zy P,o11 P,o12 P,zA P,o11 P,zB P,zC P,zD P,o11 P,o12 P,zE P,o11 P,zF P,zG P,zH P,o11 P,o12 P,zI P,o11 P,zJ P,zK P,zL P,o11 P,o12 P,zM P,zN P,zO P,o11 P,o12 P,zP P,o11 P,zQ P,zR P,zS P,o11 P,o12 P,zT P,zU P,zV P,o11 P,o12 P,zW P,zX P,zY P,o11 P,o12 P,zZ P,o11 P,Aa P,Ab P,Ac P,o11 P,o12 P,Ad P,Ae P,Af P,o11 P,o12 P,Ag P,Ah P,Ai P,o11 P,o12 P,Aj P,Ak P,Al P,o11 P,o12 P,Am P,An P,Ao P,o11 P,o12 P,Dr P,Ds P,Dt P,o11 P,o12 P,Du P,o11 P,Dv P,Dw P,Dx P,o11 P,o12 P,Dy P,Dz P,DA P,o11 P,o12 P,DB P,o11 P,DC P,DF P,DG P,o11 P,o12 P,DH P,o11 P,DL P,DM P,DN P,o11 P,o16 P,DO P,o11 P,DQ P,DV P,DX P,o11 P,o12 P,DY P,DZ P,Ea P,o11 P,o12 P,Eb P,o11 P,Ec P,Ed P,Ee P,o11 P,o12 P,Ef P,o11 P,Eg P,Eh P,Ei P,o11 P,o12 P,Ej P,Ek P,El P,o11 P,o12 P,Em P,o11 P,En P,Eo P,Ep P,o11 P,o12 P,Er P,o11 P,Es P,Et P,Eu P,o11 P,o12 P,Ev P,o11 P,Ew P,Ex P,Ey P,Ez P,EA P,EB P,EC P,ED P,EE P,EF P,o11 P,o12 P,EG P,o11 P,EH P,EI P,EJ P,o11 P,o12 P,EK P,o11 P,EL P,EM P,EN P,o11 P,o12 P,EO P,o11 P,EQ P,ER P,ES P,o11 P,o12 P,ET P,o11 P,EU P,EV P,EW P,o11 P,o12 P,EX P,EY P,EZ P,o11 P,o12 P,Fa P,o11 P,Fb P,Fc P,Fd P,o11 P,o12 P,Fe P,o11 P,Ff P,Fg P,Fh P,o11 P,o12 P,Fi P,Fj P,Fk P,o11 P,o12 P,Fl P,o11 P,Fm P,Fn P,Fo P,o11 P,o12 P,Fp P,Fq P,Fs P,o11 P,o12 P,Ft P,Fu P,Fv P,o11 P,o12 P,Fw P,Fx P,Fy P,o11 P,o12 P,Fz P,FA P,FB P,o11 P,o12 P,FC P,FD P,FE P,o11 P,o12 P,FF P,o11 P,FG P,FH P,FJ P,o11 P,o12 P,FK P,o11 P,FL P,FM P,FN P]]|{ }]
abbrev sF (w:IR) (os:OsState):IN:=%[hF w.params,(Array.mk []),%[0,0,0|0],699|os]
theorem fin (w:IR):(λ os=>topRun treeTable pt w m0 an 2 (s1 w os).abs ⟨doneF .next,cE,p1,B⟩)=λ os=>some (sF w os):=by rw[PySem.W.Fast.te14082659384304107361,PySem.W.Fast.te14364793385576792824];kernel_rfl
theorem xB:behindTheImports pt=st0 ++ (st1 ++ ([])):=by kernel_rfl
abbrev MM:Nat:=12+(1+(1988+(1067+2)))
theorem Ap (w:IR) (os:OsState):topRun treeTable pt w m0 an MM (sZ w os) (topStub pt)=some (sF w os) :=
 go_top (congrFun (pre w) os) (piece_block (congrFun (blk w) os) (xB ▸ (piece_app (l:=st0) (segRun_of (congrFun (q0 w) os)) (piece_app (l:=st1) (segRun_of (congrFun (q1 w) os)) (piece_nil (congrFun (fin w) os))))))
def loose:Ks Str:=[lR,sG,sH,sI,sJ,sK,sL,oK,oM,oN,oO,oP,yQ,yR,oQ,oR,oS,oT,oU,yS,yT,yU,yV,oV,oW,oX,oY,oZ,sN,sO,sP,Dc,Dd,sQ,sR,nj,sS,sT,sU,sV,sW,sX,sY,tf,tj,tm,tq,tw,tD,tE,tF]
abbrev NN:Nat:=6232
abbrev q:IP:=view pt [57]
abbrev Xt:IN->Bool:=λ s=>xlAt q [] s && recOk [] s
theorem size (w:IR):((boot_heap w.params).isNs Kt && (Array.mk []:Kr GenState).size == 0,(boot_heap w.params).objs.size,(boot_heap w.params).nsMap Kt "__annotations__")=(true,m0,an):=by rw[PySem.W.Fast.te8920871248978507458];kernel_rfl
theorem FO (w:IR):(λ os=>((staticsOk (importedModules pt.main.body) (boot_heap w.params) (hF w.params) && namesBound pt (hF w.params) && gensDone (sF w os) && laidKept (boot_heap w.params) (hF w.params)),openSeen q loose (importedModules pt.main.body) Xt true (sF w os),HK.obs (sF w os)))=λ _=>(true,openGood q loose,HK.val w):=by rw[PySem.W.Fast.te4187177175401517315,PySem.W.Fast.te5923862056798008813];kernel_rfl
theorem left:LeftO pt q loose Xt HK.obs HK.val NN true:=LeftO.of_pieces (boot_open (by kernel_rfl) ∅ (λ s=>rfl)) size Ap ∅ FO
end Hd
open PySem PySem.W PyProof.Rows
set_option maxRecDepth 100000 in
set_option maxHeartbeats 0 in
theorem PySem.Challenge.cw_platecuts_k71_whole_greatest_bundles_holds : PySem.Challenge.rw_platecuts_k71_whole_greatest_bundles.Holds := by
 w_on;o_law
 refine holds_open (q:=view PySem.Challenge.pw_platecuts_k71_whole_greatest_bundles [57]) (loose:=Hd.loose) (Xt:=λ s=>xlAt (view PySem.Challenge.pw_platecuts_k71_whole_greatest_bundles [57]) [] s && recOk [] s) (XP:=XL (view PySem.Challenge.pw_platecuts_k71_whole_greatest_bundles [57]) []) (Yf:=Hook.obs Hd.HK) (Ya:=Hook.val Hd.HK) (YP:=InK Pc.kK) (N:=Hd.NN) ?hl (Hook.of Hd.HK) (Hook.keeps Hd.HK) (λ s e=>xl_of s (E1.mp e).1) XL.keeps (by rfl) (by rfl) (by rfl) (λ s e=>recFacts_of (E1.mp e).2) (by rfl) (by first | assumption | decide +kernel) (by decide +kernel) ⟨rfl,rfl,rfl,rfl,rfl,by decide +kernel⟩ ?hw ?hc
 case hl=>exact Hd.pt_eq ▸ Hd.left
 case hw=>w_witness2
 k_fill
 refine Pc.walk (l:=PySem.Challenge.rw_platecuts_k71_whole_greatest_bundles) rfl rfl (λ w h YY0=>YY0) ?F
 case F=>
  intro w mg fa h KX G hmg;refine' Pc.all_mk KX G hmg ?d0 ?d1 ?d2 ?d3 ?d4 ?d5 ?d6 ?d7 ?d8 ?d9 ?d10 ?d11 ?d12 ?d13 ?d14 ?d15 ?d16 ?d17 ?d18 ?d19 ?d20 ?d21 ?d22 ?d23 ?d24 ?d25 ?d26 ?d27 ?d28 ?d29 ?d30 ?d31 ?d32 ?d33 ?d34 ?d35 ?aC ?dm0 ?dm1 ?dm2 ?dm3 ?dm4 ?dm5 ?pg ?hd ?po ?sa ?mk ?kc ?n0 ?n1 ?z0 ?z1 ?z2 ?z3 ?z4 ?z5 ?z6 ?z7 ?z8 ?z9 ?z10 ?z11 ?z12 ?z13 ?z14 ?z15 ?z16 ?z17 ?z18 ?z19 ?uc0 ?uc1 ?uc2 ?uc3 ?uc4 ?uc5 ?uc6 ?uc7
  (case d0 | d1 | d2 | d3 | d4 | d5 | d6 | d7 | d8 | d9 | d10 | d11 | d12 | d13 | d14 | d15 | d16 | d17 | d18 | d19 | d20 | d21 | d22 | d23 | d24 | d25 | d26 | d27 | d28 | d29 | d30 | d31 | d32 | d33 | d34 | d35=>refine' Pc.diM ?a ?l ?c ?k;(case a=>k_is);(case l=>k_is);(case c=>k_is);(case k=>k_is))
  (case aC=>k_is)
  (case dm0 | dm1 | dm2 | dm3 | dm4 | dm5=>refine' Pc.miM ?a ?i ?l ?c ?k;(case a=>k_is);(case i=>k_is);(case l=>k_is);(case c=>k_is);(case k=>k_is))
  (case pg | hd | po | sa | mk | kc | n0 | n1 | z0 | z1 | z2 | z3 | z4 | z5 | z6 | z7 | z8 | z9 | z10 | z11 | z12 | z13 | z14 | z15 | z16 | z17 | z18 | z19 | uc0 | uc1 | uc2 | uc3 | uc4 | uc5 | uc6 | uc7=>k_is)