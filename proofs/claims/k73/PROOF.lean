import PyProof.Rows.All
import Wide.All
import OpenK.AllK
import Wide.FinOn
import Lean
import PyProof.EqAt
import PyProof.EqKinds
import PyProof.TupleCall
import PyProof.Draws
import PyProof.WalksMore
import PyProof.EnumMake
import PyProof.ReprRoads
import PyProof.Rows.SortWalk
import PyProof.Rows.SumAny
import KE.KSortedM
import PyProof.FitsBits
import KE.KSortTup
import PyProof.LongRange
import PyProof.DictItems
import KE.KDictList
import PyProof.Rows.TupDisplay
import PySem.Challenge.RW_platecuts_k73_whole_drawn_trees_borne
set_option maxRecDepth 100000
set_option maxHeartbeats 0
set_option hygiene false in
local macro_rules|`(tactic|trivial)=>`(tactic|first|(cases h;subst_vars;rfl)|(obtain⟨rfl,_⟩:=h;rfl)|(obtain⟨_,h⟩:=h;trivial))
set_option hygiene false in
local macro_rules|`(tactic|exists $x)=>`(tactic|(refine F.ok $x (fun vs H Q E h=>by trivial) (fun cdv A outer s H vs Q E hr h=>?_);have nd:=FnScope.nd $x))
local macro_rules|`(def $i $s:optDeclSig $v:declVal)=>`(noncomputable def $i $s:optDeclSig $v:declVal)
local macro_rules|`(abbrev $i $s:optDeclSig $v:declVal)=>`(noncomputable abbrev $i $s:optDeclSig $v:declVal)
local macro_rules|`(∅)=>`(by decide +kernel)
local macro_rules|`(⋯)=>`(by lia)
local macro_rules|`(↑$x)=>`(some (.ref $x))
local macro_rules|`(⇑$x)=>`(some (.int $x))
local macro_rules|`(↥$x)=>`(some (.lst $x))
local macro_rules|`(~~~$x)=>`(some (.tup $x))
local macro_rules|`(%[$xs,*|$y])=>if y.raw.getId.hasMacroScopes then Lean.Macro.throwUnsupported else `(⟨$(xs.getElems.push y),*⟩)
local macro_rules|`(tactic|apply $t)=>`(tactic|refine $t)
local macro_rules|`(nofun)=>`(⟨rfl,rfl,rfl,by decide +kernel,rfl,by decide +kernel,by decide +kernel⟩)
local macro_rules|`(!$x)=>match x.raw with|`(⋯)=>`(by dsimp only;lia)|_=>Lean.Macro.throwUnsupported
set_option hygiene false in
local macro_rules|`($n:num∘$x)=>`((nat_lit $n,$x P))
section
open PySem PySem.W PySem.Spec PyProof PyProof.Rows
abbrev RO:List String:=["enumerate","zip","dict_itemiterator","dict_reverseitemiterator","odict_iterator","itertools.zip_longest","itertools.pairwise"]
abbrev RP:List Str:=["thing","least"]
abbrev RQ:List Str:=["thing"]
abbrev RS:List Str:=["self","blade","kinds","kind"]
abbrev RT:List Str:=["self","blade","kinds"]
abbrev RU:List Str:=["kind"]
abbrev RV:List Str:=["self"]
abbrev RW:List Str:=["self","kind","turned"]
abbrev RX:List Str:=["wide","high"]
abbrev RY:List Str:=["wide","high","most"]
abbrev RZ:List Str:=["shop","wide","high","kind","turned","x","y"]
abbrev Ra:List Str:=["shop","part"]
abbrev Rb:List Str:=["kind","turned"]
abbrev Rc:List Str:=["shop","wide","high"]
abbrev Re:List Str:=["blade","part","way","p"]
abbrev Rf:List Str:=["blade","part","down","across"]
abbrev Rg:List Str:=["blade","part"]
abbrev Rh:List Str:=["wanted","kind"]
abbrev Ri:List Str:=["one","other","wanted"]
abbrev Rj:List Str:=["one","other"]
abbrev Rk:List Str:=["few","many"]
abbrev Rl:List Str:=["steps","greatest"]
abbrev Rm:List Str:=["steps"]
abbrev Rn:List Str:=["shop","part","found","wanted","steps","kind","turned","way","p","first","second","one","other"]
abbrev Ro:List Str:=["shop","part","found"]
abbrev Rp:List Str:=["bundle","other"]
abbrev Rq:List Str:=["shop","plate","fitting"]
abbrev Rr:List Str:=["shop","plate"]
abbrev Rs:List Str:=["bundles","wanted","nought","lots","longer","missing","lot","bundle"]
abbrev Rt:List Str:=["bundles","wanted"]
abbrev Ru:List Str:=["found","part","greatest","bundle"]
abbrev Rv:List Str:=["_law_script","_law_k"]
abbrev Rx:List Str:=["_law_cell_here"]
abbrev Ry:List Str:=["_law_pot_here","_law_many"]
abbrev Rz:List Str:=["_law_kind"]
abbrev R3:List Str:=["_law_kind","_law_wide","_law_high"]
abbrev R4:List Str:=["_law_one","_law_other"]
abbrev R5:List Str:=["_law_pot_here","_law_most"]
abbrev R6:List Str:=["_law_pot_here","_law_wide","_law_high","_law_many"]
abbrev R7:List Str:=["blade","weights","loads","side"]
abbrev R8:List Str:=["blade","steps","side"]
abbrev R9:List Str:=["blade","weights","side"]
abbrev SA:List Str:=["wide","high","u","v"]
abbrev SB:List Str:=["shop","wide","high","u","v","told","kind","turned","piece_wide","piece_high","weight"]
abbrev SC:List Str:=["shop","wide","high","u","v"]
abbrev SD:List Str:=["_law_pot_here","_law_blade","_law_side"]
abbrev SE:List Str:=["_law_pot_here","_law_kinds","_law_wide","_law_high","_law_budget","_law_some","_law_counts"]
abbrev SF:List Str:=["_law_pot_here","_law_kinds","_law_wide","_law_high","_law_budget"]
abbrev SG:List Str:=["_law_pot_here","_law_many","_law_way"]
abbrev SH:List Str:=["_law_pot_here","_law_blade","_law_kinds","_law_wide","_law_high","_law_budget","_law_deep","_law_parts"]
abbrev SI:List Str:=["_law_pot_here","_law_shop","_law_sides","_law_wanted","_law_plates"]
abbrev SJ:List Str:=["_law_pot_here","_law_sides","_law_wide","_law_high","_law_kinds","_law_blade","_law_budget","_law_parts","_law_wanted","_law_many","_law_k","_law_counts","_law_shop","_law_told","_law_own_wide","_law_own_high","_law_some","_law_found"]
abbrev SK:List Str:=["_law_pot_here"]
abbrev SM:List Str:=["_law_script"]
abbrev G0:=@Shared
abbrev G1:=@Program
abbrev G2:=@FuncData
abbrev G3:=@World
abbrev G4:=@Value
abbrev A0:=@wpAny_bind
abbrev A3:=@wpAny_pure
abbrev A4:=@wpS_bind
abbrev A5:=@wpS_pure
abbrev A6:=@List.mem_append_right
theorem A7:type_of% @List.getElem?_eq_some_iff:=@List.getElem?_eq_some_iff
abbrev A8:=@Heap.get?_push_of_some
abbrev A9:=@Heap.get?_push_size
abbrev B0:=@Heap.lt_size
abbrev B1:=@decide_eq_true
abbrev B2:=@decide_eq_false
theorem B3:type_of% @Bool.false_ne_true:=@Bool.false_ne_true
theorem B4:type_of% @Nat.le_refl:=@Nat.le_refl
theorem B5:type_of% @List.length_map:=@List.length_map
theorem B6:type_of% @List.mem_cons_of_mem:=@List.mem_cons_of_mem
theorem B7:type_of% @List.mem_of_getElem?:=@List.mem_of_getElem?
abbrev B8:=@List.mem_append_left
theorem B9:type_of% @List.mem_cons_self:=@List.mem_cons_self
abbrev C0:=@Option.some.inj
theorem C1:type_of% @Nat.ne_of_lt:=@Nat.ne_of_lt
abbrev C2:=@of_decide_eq_true
theorem C3:type_of% @Nat.lt_of_lt_of_le:=@Nat.lt_of_lt_of_le
theorem C4:type_of% @List.mem_append:=@List.mem_append
abbrev C5:=@beq_iff_eq
abbrev C6:=@PySem.W.Frag
theorem C7:type_of% @Nat.le_trans:=@Nat.le_trans
abbrev C8:=@Nat.lt_of_le_of_lt
theorem C9:type_of% @Nat.le_of_lt:=@Nat.le_of_lt
abbrev E3:=@Bool.and_eq_true_iff
theorem E4:type_of% @Nat.lt_irrefl:=@Nat.lt_irrefl
abbrev E5:=@List.Perm.trans
theorem E6:type_of% @List.mem_singleton:=@List.mem_singleton
abbrev E7:=@Paired.length
abbrev E8:=@PassesOwn.never
theorem E9:type_of% @Int.le_refl:=@Int.le_refl
abbrev F0:=@PySem.W.fnOf
abbrev F1:=@False.elim
abbrev F2:=@Nat.zero_le
theorem F3:type_of% @Nat.not_lt_zero:=@Nat.not_lt_zero
theorem F4:type_of% @Nat.lt_succ_self:=@Nat.lt_succ_self
theorem F5:type_of% @List.getElem?_eq_getElem:=@List.getElem?_eq_getElem
abbrev F6:=@wpAny_truthy_bool
abbrev F7:=@wpAny_call_entry
abbrev F8:=@wpAny_newObj_type
abbrev F9:=@PySem.F.plainAttrs_list
theorem J3:type_of% @List.getElem?_map:=@List.getElem?_map
theorem J4:type_of% @List.mem_cons:=@List.mem_cons
theorem J5:type_of% @List.map_append:=@List.map_append
theorem J6:type_of% @List.mem_map:=@List.mem_map
theorem J7:type_of% @List.length_append:=@List.length_append
theorem J8:type_of% @List.map_cons:=@List.map_cons
theorem J9:type_of% @Option.map_eq_some_iff:=@Option.map_eq_some_iff
theorem K0:type_of% @List.take_add_one:=@List.take_add_one
theorem K1:type_of% @List.length_cons:=@List.length_cons
theorem K2:type_of% @List.size_toArray:=@List.size_toArray
theorem K3:type_of% @List.getD_eq_getElem?_getD:=@List.getD_eq_getElem?_getD
theorem K4:type_of% @List.length_take:=@List.length_take
theorem K5:type_of% @List.append_assoc:=@List.append_assoc
theorem K6:type_of% @List.take_of_length_le:=@List.take_of_length_le
theorem K7:type_of% @List.length_replicate:=@List.length_replicate
theorem K8:type_of% @Option.toList_some:=@Option.toList_some
theorem K9:type_of% @List.not_mem_nil:=@List.not_mem_nil
theorem M0:type_of% @List.take_length:=@List.take_length
theorem M3:type_of% @List.lookup_cons:=@List.lookup_cons
theorem M4:type_of% @Array.getElem?_toList:=@Array.getElem?_toList
theorem M5:type_of% @Int.toNat_natCast:=@Int.toNat_natCast
theorem M6:type_of% @Bool.false_eq_true:=@Bool.false_eq_true
theorem M7:type_of% @List.sum_cons:=@List.sum_cons
theorem M8:type_of% @Array.perm_iff_toList_perm:=@Array.perm_iff_toList_perm
theorem M9:type_of% @Bool.and_eq_true:=@Bool.and_eq_true
theorem N0:type_of% @List.append_nil:=@List.append_nil
theorem N1:type_of% @Array.getElem?_eq_getElem:=@Array.getElem?_eq_getElem
theorem N2:type_of% @Array.length_toList:=@Array.length_toList
theorem N3:type_of% @List.map_nil:=@List.map_nil
theorem N5:type_of% @Array.getElem?_eq_none:=@Array.getElem?_eq_none
theorem N6:type_of% @List.mem_flatMap:=@List.mem_flatMap
theorem N7:type_of% @List.map_map:=@List.map_map
theorem N8:type_of% @List.mem_iff_getElem?:=@List.mem_iff_getElem?
theorem N9:type_of% @List.mem_range:=@List.mem_range
theorem O0:type_of% @List.getElem?_eq_none:=@List.getElem?_eq_none
theorem O1:type_of% @Nat.ne_of_gt:=@Nat.ne_of_gt
theorem O2:type_of% @Array.toList_append:=@Array.toList_append
theorem O3:type_of% @List.getElem?_append_right:=@List.getElem?_append_right
theorem O4:type_of% @Int.mul_le_mul_of_nonneg_right:=@Int.mul_le_mul_of_nonneg_right
theorem O5:type_of% @List.foldl_cons:=@List.foldl_cons
theorem O6:type_of% @Nat.le_add_right:=@Nat.le_add_right
theorem O7:type_of% @List.any_eq_true:=@List.any_eq_true
theorem O8:type_of% @List.replicate_succ:=@List.replicate_succ
theorem O9:type_of% @List.mem_map_of_mem:=@List.mem_map_of_mem
theorem PB:type_of% @Nat.add_le_add_left:=@Nat.add_le_add_left
theorem PD:type_of% @List.mem_replicate:=@List.mem_replicate
theorem PF:type_of% @Array.toList_push:=@Array.toList_push
theorem PH:type_of% @List.length_range:=@List.length_range
theorem PJ:type_of% @List.mem_filter:=@List.mem_filter
theorem PK:type_of% @List.drop_eq_getElem_cons:=@List.drop_eq_getElem_cons
theorem PL:type_of% @List.Perm.append_left:=@List.Perm.append_left
theorem PM:type_of% @Nat.lt_succ_of_lt:=@Nat.lt_succ_of_lt
theorem PN:type_of% @List.flatMap_cons:=@List.flatMap_cons
theorem PP:type_of% @List.nodup_cons:=@List.nodup_cons
theorem PQ:type_of% @List.Perm.append_right:=@List.Perm.append_right
theorem PR:type_of% @List.filter_cons:=@List.filter_cons
theorem PU:type_of% @List.perm_append_comm:=@List.perm_append_comm
theorem PV:type_of% @List.length_filter_le:=@List.length_filter_le
theorem PX:type_of% @List.getElem?_append_left:=@List.getElem?_append_left
theorem PY:type_of% @List.extract_eq_take_drop:=@List.extract_eq_take_drop
theorem PZ:type_of% @Bool.eq_iff_iff:=@Bool.eq_iff_iff
theorem Pu:type_of% @List.flatten_cons:=@List.flatten_cons
theorem Pw:type_of% @List.flatMap_append:=@List.flatMap_append
theorem Px:type_of% @List.getElem?_range:=@List.getElem?_range
theorem Py:type_of% @List.getElem?_replicate:=@List.getElem?_replicate
theorem Pz:type_of% @List.all_eq_true:=@List.all_eq_true
theorem P0:type_of% @Nat.mul_le_mul:=@Nat.mul_le_mul
theorem P6:type_of% @Int.zero_add:=@Int.zero_add
theorem P7:type_of% @List.filter_append:=@List.filter_append
theorem P8:type_of% @List.find?_cons_of_pos:=@List.find?_cons_of_pos
theorem P9:type_of% @List.find?_cons_of_neg:=@List.find?_cons_of_neg
theorem QA:type_of% @List.find?_cons:=@List.find?_cons
theorem QB:type_of% @List.filter_nil:=@List.filter_nil
theorem QC:type_of% @List.range_succ:=@List.range_succ
theorem QD:type_of% @Bool.true_and:=@Bool.true_and
theorem QE:type_of% @List.getElem?_zipWith:=@List.getElem?_zipWith
theorem QF:type_of% @List.nodup_append:=@List.nodup_append
theorem QG:type_of% @List.ext_getElem?:=@List.ext_getElem?
theorem QH:type_of% @List.foldl_append:=@List.foldl_append
theorem QI:type_of% @List.getElem_mem:=@List.getElem_mem
theorem QJ:type_of% @Nat.sub_self:=@Nat.sub_self
theorem QK:type_of% @Nat.zero_add:=@Nat.zero_add
theorem QL:type_of% @List.length_nil:=@List.length_nil
theorem QM:type_of% @Nat.le_of_eq:=@Nat.le_of_eq
theorem QN:type_of% @Nat.lt_or_ge:=@Nat.lt_or_ge
theorem QO:type_of% @Int.le_trans:=@Int.le_trans
abbrev QP:=@Addr
abbrev QQ:=@Keyed
abbrev QR:=@Option
abbrev QS:=@Array
abbrev QT:=@List
abbrev SW:=QT Int
abbrev SX:=QT SW
abbrev SY:=QT (QP×Obj)
abbrev QU:=@mainGlobals
theorem QZ:type_of% @if_neg:=@if_neg
theorem Qa:type_of% @if_pos:=@if_pos
theorem Qb:type_of% @decide_eq_true:=@decide_eq_true
theorem Qc:type_of% @decide_eq_false:=@decide_eq_false
theorem Qd:type_of% @beq_iff_eq:=@beq_iff_eq
theorem Qe:type_of% @PyProof.Rows.wpS_forRange:=@PyProof.Rows.wpS_forRange
theorem Qg:type_of% @PyProof.Rows.boot_tuple:=@PyProof.Rows.boot_tuple
theorem Qh:type_of% @PySem.wpAny_holding:=@PySem.wpAny_holding
theorem Qi:type_of% @PySem.Heap.size_push:=@PySem.Heap.size_push
theorem Qj:type_of% @PySem.F.slot_list_append:=@PySem.F.slot_list_append
theorem Qk:type_of% @PySem.F.type_list_append:=@PySem.F.type_list_append
theorem Ql:type_of% @PySem.wpAny_mono:=@PySem.wpAny_mono
theorem Qm:type_of% @PyProof.Rows.wpS_mono:=@PyProof.Rows.wpS_mono
theorem Qn:type_of% @PySem.boot_len:=@PySem.boot_len
theorem Qo:type_of% @PySem.Heap.SameBut.update:=@PySem.Heap.SameBut.update
theorem Qp:type_of% @PyProof.Rows.callWith_type1:=@PyProof.Rows.callWith_type1
theorem Qq:type_of% @PySem.wpAny_field:=@PySem.wpAny_field
theorem Qr:type_of% @PySem.wpAny_setField_rec:=@PySem.wpAny_setField_rec
theorem Qs:type_of% @PySem.wpAny_rule:=@PySem.wpAny_rule
theorem Qt:type_of% @PyProof.Rows.KeyOrd.kle_refl:=@PyProof.Rows.KeyOrd.kle_refl
theorem Qu:type_of% @congrArg:=@congrArg
theorem Qv:type_of% @if_false:=@if_false
theorem Qw:type_of% @or_false:=@or_false
theorem Qy:type_of% @PyProof.Rows.wpS_modify:=@PyProof.Rows.wpS_modify
theorem Qz:type_of% @beq_eq_false_iff_ne:=@beq_eq_false_iff_ne
theorem Q0:type_of% @Classical.byContradiction:=@Classical.byContradiction
theorem Q3:type_of% @PySem.wpAny_typeNameOfWhole_itemiter:=@PySem.wpAny_typeNameOfWhole_itemiter
theorem Q4:type_of% @PySem.wpAny_typeNameOfWhole_keyiter:=@PySem.wpAny_typeNameOfWhole_keyiter
theorem Q6:type_of% @PySem.F.slot_dict_itemiterator_next:=@PySem.F.slot_dict_itemiterator_next
theorem Q7:type_of% @decide_eq_true_eq:=@decide_eq_true_eq
theorem Q8:type_of% @PySem.wpAny_dictEntries:=@PySem.wpAny_dictEntries
theorem Q9:type_of% @PySem.F.slot_dict_keyiterator_next:=@PySem.F.slot_dict_keyiterator_next
theorem RA:type_of% @PySem.F.slot_dict_setdefault:=@PySem.F.slot_dict_setdefault
theorem RB:type_of% @PyProof.Rows.boot_isinstance:=@PyProof.Rows.boot_isinstance
theorem RC:type_of% @PySem.wpAny_standAt:=@PySem.wpAny_standAt
theorem RD:type_of% @PySem.wpAny_pyIter_tuple:=@PySem.wpAny_pyIter_tuple
theorem RE:type_of% @PySem.Heap.get?_update_self:=@PySem.Heap.get?_update_self
theorem RF:type_of% @PyProof.Rows.boot_min:=@PyProof.Rows.boot_min
theorem RG:type_of% @PyProof.Rows.boot_all:=@PyProof.Rows.boot_all
theorem RH:type_of% @PySem.wpAny_passesOwn:=@PySem.wpAny_passesOwn
theorem RI:type_of% @PyProof.Rows.wpS_get:=@PyProof.Rows.wpS_get
theorem RJ:type_of% @PySem.wpAny_attempt:=@PySem.wpAny_attempt
theorem RK:type_of% @PySem.mem_of_lookup:=@PySem.mem_of_lookup
theorem RL:type_of% @if_true:=@if_true
theorem RM:type_of% @PySem.wpAny_dictEpoch:=@PySem.wpAny_dictEpoch
theorem RN:type_of% @PySem.sizeLine_eq:=@PySem.sizeLine_eq
end
theorem zS2:2<=PySem.sizeLine:=∅
theorem zS4:4<=PySem.sizeLine:=∅
theorem zS1:1<=PySem.sizeLine:=∅
theorem zS5:5<=PySem.sizeLine:=∅
theorem zS0:0<=PySem.sizeLine:=∅
theorem zS3:3<=PySem.sizeLine:=∅
theorem zS6:6<=PySem.sizeLine:=∅
theorem O{α:Sort _}{a:α}:a=a:=rfl
set_option Elab.async false
set_option linter.all false
namespace L2
open PySem PySem.Spec PyProof.Rows
abbrev Key:=Sum Int Str
def lE:Key->G4->Bool
 | .inl k,v=>Value.isInt k v
 | .inr x,v=>Value.isStrOf x v
def Mg(w:G3):Key->Int
 | .inl k=>hashInt k
 | .inr x=>hashStr w x
theorem bz:∀{k:Key}{v:G4},lE k v=true->(∃i t,k=Sum.inl i/\v=Value.int i t)\/(∃x t,k=Sum.inr x/\v=Value.str x t)
 | .inl i,v,h=>by obtain⟨t,e⟩:=Value.isInt_shape (k:=i) (v:=v) h;exact .inl %[i,t,O|e]
 | .inr x,v,h=>by obtain⟨t,e⟩:=Value.isStrOf_shape (x:=x) (v:=v) h;exact .inr %[x,t,O|e]
theorem tD(i:Int)(t:Tok):lE (.inl i) (.int i t)=true:=by simp[lE,Value.isInt]
theorem tE(x:Str)(t:Tok):lE (.inr x) (.str x t)=true:=by simp[lE,Value.isStrOf]
theorem Bl(a b:Int):decide ((Sum.inl a:Key)=Sum.inl b)=(a == b):=by
 by_cases e:a=b
 ·subst e;simp
 ·have h:¬ (Sum.inl a:Key)=Sum.inl b:=λ q=>e (Sum.inl.inj q);rw[Qc h];exact(Qz.mpr e).symm
theorem Bm(a b:Str):decide ((Sum.inr a:Key)=Sum.inr b)=decide (a=b):=by
 by_cases e:a=b
 ·subst e;simp
 ·have h:¬ (Sum.inr a:Key)=Sum.inr b:=λ q=>e (Sum.inr.inj q);rw[Qc h,Qc e]
theorem Bn(a:Int)(b:Str):decide ((Sum.inl a:Key)=Sum.inr b)=false:=B2 (λ q=>nomatch q)
theorem Bo(a:Str)(b:Int):decide ((Sum.inr a:Key)=Sum.inl b)=false:=B2 (λ q=>nomatch q)
def bq(prog:G1)(w:G3):PySem.KeyKind prog w Key where
 is:=lE
 hash:=Mg w
 inj:=λ v a b ha hb=>by
  rcases bz ha with⟨i,t,rfl,rfl⟩ | ⟨x,t,rfl,rfl⟩
  ·rcases bz hb with⟨j,u,rfl,e⟩ | ⟨y,u,rfl,e⟩
   ·injection e with e1 _;rw[e1]
   ·exact nomatch e
  ·rcases bz hb with⟨j,u,rfl,e⟩ | ⟨y,u,rfl,e⟩
   ·exact nomatch e
   ·injection e with e1 _;rw[e1]
 byValue:=λ k v h=>by rcases bz h with⟨i,t,rfl,rfl⟩ | ⟨x,t,rfl,rfl⟩ <;> rfl
 pyHash:=λ hv h=>by
  rcases bz hv with⟨i,t,rfl,rfl⟩ | ⟨x,t,rfl,rfl⟩
  ·exact wpAny_pyHash_int h
  ·exact wpAny_pyHash_str h
 eqBool:=λ hu hv h=>by
  rcases bz hu with⟨i,t,rfl,rfl⟩ | ⟨x,t,rfl,rfl⟩
  ·rcases bz hv with⟨j,u,rfl,rfl⟩ | ⟨y,u,rfl,rfl⟩
   ·rw[Bl]at h;exact wpAny_eqBool_int h
   ·rw[Bn]at h;exact SeqAt.EqAt.int_str i t y u _ _ _ _ h
  ·rcases bz hv with⟨j,u,rfl,rfl⟩ | ⟨y,u,rfl,rfl⟩
   ·rw[Bo]at h;exact SeqAt.EqAt.str_int x t j u _ _ _ _ h
   ·rw[Bm]at h;exact wpAny_eqBool_str h
 «strs» := λ k x t v h=>by
  rcases bz h with⟨i,u,rfl,e⟩ | ⟨y,u,rfl,e⟩
  ·exact nomatch e
  ·injection e with e1 _
   subst e1;cases v <;> rfl
theorem nP(prog:G1)(w:G3)(i:Int)(t:Tok):(bq prog w).is (.inl i) (.int i t)=true:=tD i t
theorem nQ(prog:G1)(w:G3)(x:Str)(t:Tok):(bq prog w).is (.inr x) (.str x t)=true:=tE x t
inductive V where
 | non | bl (b:Bool) | int (i:Int) | str (x:Str) | byt (b:QS UInt8) | flt (b:UInt64) | ref (a:QP) | ty (n:String)
 deriving DecidableEq
def RelV:V->G4->Prop
 | .non,u=>u=Value.none
 | .bl b,u=>u=Value.bool b
 | .int i,u=>∃t,u=Value.int i t
 | .str x,u=>∃t,u=Value.str x t
 | .byt b,u=>∃t,u=Value.bytes b t
 | .flt b,u=>∃t,u=Value.float b t
 | .ref a,u=>u=Value.ref a
 | .ty n,u=>u=Value.type n
abbrev Vals:QT V->QT G4->Prop:=Paired RelV
theorem Vals.length{xs:QT V}{us:QT G4}(r:Vals xs us):xs.length=us.length:=E7 r
theorem Vals.get:∀{xs:QT V}{us:QT G4}{i:Nat}{x:V},Vals xs us->xs[i]?=some x->∃u,us[i]?=some u/\RelV x u
 | _,_,_,_,.nil,e=>by simp at e
 | _,_,0,_,.cons r _,e=>by simp at e;subst e;exact%[_,O|r]
 | _,_,i+1,x,.cons _ t,e=>by obtain⟨u,h1,h2⟩:=Vals.get (i:=i) (x:=x) t (by simpa using e);exact%[u,by simpa using h1|h2]
theorem Vals.set{x:V}{u:G4}(r:RelV x u):∀{xs:QT V}{us:QT G4}(i:Nat),Vals xs us->Vals (xs.set i x) (us.set i u)
 | _,_,_,.nil=>.nil
 | _,_,0,.cons _ t=>.cons r t
 | _,_,i+1,.cons q t=>.cons q (Vals.set r i t)
theorem Vals.append:∀{xs ys:QT V}{us ws:QT G4},Vals xs us->Vals ys ws->Vals (xs ++ ys) (us ++ ws)
 | _,_,_,_,.nil,s=>s
 | _,_,_,_,.cons r t,s=>.cons r (Vals.append t s)
theorem Vals.take:∀{xs:QT V}{us:QT G4}(n:Nat),Vals xs us->Vals (xs.take n) (us.take n)
 | _,_,0,_=>.nil
 | _,_,_+1,.nil=>.nil
 | _,_,n+1,.cons r t=>.cons r (Vals.take n t)
theorem Vals.drop:∀{xs:QT V}{us:QT G4}(n:Nat),Vals xs us->Vals (xs.drop n) (us.drop n)
 | _,_,0,r=>r
 | _,_,_+1,.nil=>.nil
 | _,_,n+1,.cons _ t=>Vals.drop n t
def RelO:QR V->QR G4->Prop
 | some v,some u=>RelV v u
 | none,none=>True
 | _,_=>False
def KV{κ:Type}:QT (κ×V)->QT (κ×G4)->Prop:=Paired λ (p:κ×V)(q:κ×G4)=>p.1=q.1/\RelV p.2 q.2
def kV:Key->V
 | .inl i=>.int i
 | .inr x=>.str x
inductive HO where
 | lst (xs:QT V)
 | tup (xs:QT V)
 | dK (kvs:QT (Key×V)) | dT (kvs:QT (QT Key×V))
 | set (S:Int->Bool) (n:Nat)
 | ins (C dx:QP) (fs:QT (Str×V))
 | own (x:QP)
 | xd (fs:QT (Str×V))
 | met (f x:QP)
 | rng (lo hi:Int)
 | frz (o:Obj) (u:HO)
 | tbl (ps:QS G4)
 | ext (φ:Heap->Prop)
abbrev Hp:=QP->QR HO
def upd(H:Hp)(a:QP)(o:HO):Hp:=λ b=>if b=a then some o else H b
theorem ah{H:Hp}{a:QP}{o:HO}:upd H a o a=some o:=by unfold upd;rw[Qa rfl]
theorem am{H:Hp}{a b:QP}{o:HO}(h:b≠a):upd H a o b=H b:=by unfold upd;rw[QZ h]
theorem AR{H:Hp}{a b:QP}{o u:HO}(h:H a=some o)(h':H b=some u)(d:o≠u):a≠b:=by intro e;subst e;rw[h]at h';exact d (C0 h')
theorem ak{H:Hp}{a b:QP}{o:HO}(h:H a=some o)(h':H b=none):a≠b:=by intro e;subst e;rw[h]at h';cases h'
section
variable(P:G1)(w:G3)
def ObjOk(H:Hp)(h:Heap)(a:QP):HO->Prop
 | .lst xs=>xs.length<=sizeLine/\∃(its:QT G4)(n:Nat),Vals xs its/\h.get? a=some { cls:=.type "list",data:=.seq its.toArray n }
 | .tup xs=>xs.length<=sizeLine/\∃its:QT G4,Vals xs its/\IsTup h a its.toArray
 | .dK kvs=>kvs.length<=sizeLine/\(a == sysModules)=false/\∃vs,KV kvs vs/\h.DictOf (bq P w) a vs
 | .dT kvs=>kvs.length<=sizeLine/\(a == sysModules)=false/\∃xs:QT (QT Key×QP×G4),
   Paired (λ (p:QT Key×V)(q:QT Key×QP×G4)=>p.1=q.1/\H q.2.1= ~~~(p.1.map kV)/\RelV p.2 q.2.2) kvs xs /\
   ∃o es ep,h.get? a=some o/\o.ExactDict/\o.data=.dict es ep/\es.toList=xs.map (entryOfKey (tupleKind (bq P w)))/\(xs.map (·.1)).Nodup
 | .set S n=>h.SetOf (intKind P w) a S n
 | .ins C dx fs=>H dx=some (.own a)/\fs.length<=1000/\dx≠a/\h.get? a=some (PySem.W.instObj C dx) /\
   ∃mA,h.Ns1 dx mA/\(∀f,RelO (fs.lookup f) (mA f))/\PySem.Within mA (fs.map (·.1))
 | .own _=>∃o,h.get? a=some o
 | .xd fs=>∃mA,h.Ns1 a mA/\∀f,RelO (fs.lookup f) (mA f)
 | .rng lo hi=>∃t u v,h.get? a=some { cls:=.type "range",data:=.fields #[.int lo t,.int hi u,.int 1 v] }
 | .frz o u=>h.get? a=some o/\ObjOk H h a u
 | .tbl ps=>h.get? a=some { cls:=.none,data:=.fields ps }
 | .met f x=>h.get? a=some (PySem.W.methodObj (.ref f) (.ref x))
 | .ext φ=>φ h/\(∃o,h.get? a=some o)/\∀h1 h2:Heap,φ h1->(∀o,h1.get? a=some o->h2.get? a=some o)->φ h2
def HOk(H:Hp)(h:Heap):Prop:=∀a o,H a=some o->ObjOk P w H h a o
end
section
variable{P:G1}{w:G3}{H H':Hp}{h h':Heap}{a:QP}{o:HO}
theorem ObjOk.lt(x:ObjOk P w H h a o):a < h.objs.size:=by
 cases o with
 | lst xs=>obtain⟨_,_,_,_,e⟩:=x;exact B0 e
 | tup xs=>obtain⟨_,_,_,p⟩:=x;exact p.lt
 | dK kvs=>obtain⟨_,_,_,_,o,_,_,e,_⟩:=x;exact B0 e
 | dT kvs=>obtain⟨_,_,_,_,o,_,_,e,_⟩:=x;exact B0 e
 | set S n=>obtain⟨o,_,_,_,e,_⟩:=x;exact B0 e
 | ins C dx fs=>obtain⟨_,_,_,e,_⟩:=x;exact B0 e
 | own y=>obtain⟨_,e⟩:=x;exact B0 e
 | xd fs=>obtain⟨_,⟨_,_,_,e,_⟩,_⟩:=x;exact B0 e
 | rng lo hi=>obtain⟨_,_,_,e⟩:=x;exact B0 e
 | frz ob u=>obtain⟨e,_⟩:=x;exact B0 e
 | tbl ps=>exact B0 (show h.get? a=some _ from x)
 | met f y=>exact B0 (show h.get? a=some _ from x)
 | ext φ=>obtain⟨_,⟨_,e⟩,_⟩:=x;exact B0 e
theorem Paired.mapP{α β:Type}{F G:α->β->Prop}:∀{l₁:QT α}{l₂:QT β},Paired F l₁ l₂->(∀a b,F a b->G a b)->Paired G l₁ l₂
 | _,_,.nil,_=>.nil
 | _,_,.cons r t,f=>.cons (f _ _ r) (Paired.mapP t f)
abbrev G8:=@Paired.mapP
theorem ObjOk.stay(x:ObjOk P w H h a o)(k:∀b u,(b=a\/H b=some (.own a))->h.get? b=some u->h'.get? b=some u)
  (ho:∀b,H b=some (.own a)->H' b=some (.own a)) (ht:∀b xs,H b= ~~~xs->H' b= ~~~xs):ObjOk P w H' h' a o:=by
 induction o with
 | lst xs=>obtain⟨z,its,n,r,e⟩:=x;exact%[z,its,n,r|k _ _ (.inl rfl) e]
 | tup xs=>obtain⟨z,its,r,ob,e,c⟩:=x;exact%[z,its,r,ob,k _ _ (.inl rfl) e|c]
 | dK kvs=>obtain⟨z,y,vs,r,ob,es,ep,e,c⟩:=x;exact%[z,y,vs,r,ob,es,ep,k _ _ (.inl rfl) e|c]
 | dT kvs=>
  obtain⟨z,y,xs,r,ob,es,ep,e,c⟩:=x;exact%[z,y,xs,G8 r λ p q z=>%[z.1,ht _ _ z.2.1|z.2.2],ob,es,ep,k _ _ (.inl rfl) e|c]
 | set S n=>obtain⟨ob,es,ep,t,e,c⟩:=x;exact%[ob,es,ep,t,k _ _ (.inl rfl) e|c]
 | ins C dx fs=>
  obtain⟨d,z,ne,e,mA,⟨od,es,ep,e2,c⟩,r⟩:=x;exact%[ho _ d,z,ne,k _ _ (.inl rfl) e,mA,%[od,es,ep,k _ _ (.inr d) e2|c]|r]
 | own y=>obtain⟨ob,e⟩:=x;exact%[ob|k _ _ (.inl rfl) e]
 | xd fs=>obtain⟨mA,⟨od,es,ep,e,c⟩,r⟩:=x;exact%[mA,%[od,es,ep,k _ _ (.inl rfl) e|c]|r]
 | rng lo hi=>obtain⟨t,u,v,e⟩:=x;exact%[t,u,v|k _ _ (.inl rfl) e]
 | frz ob u ih=>obtain⟨e,q⟩:=x;exact%[k _ _ (.inl rfl) e|ih q]
 | tbl ps=>
  have e:h.get? a=some { cls:=.none,data:=.fields ps }:=x;show h'.get? a=some { cls:=.none,data:=.fields ps };exact k a _ (.inl rfl) e
 | met f y=>
  have e:h.get? a=some (PySem.W.methodObj (.ref f) (.ref y)):=x;show h'.get? a=some (PySem.W.methodObj (.ref f) (.ref y));exact k a _ (.inl rfl) e
 | ext φ=>obtain⟨p,⟨o,e⟩,st⟩:=x;exact%[st _ _ p λ o q=>k _ _ (.inl rfl) q,%[o|k _ _ (.inl rfl) e]|st]
theorem HOk.lt(x:HOk P w H h)(e:H a=some o):a < h.objs.size:=(x a o e).lt
theorem HOk.fresh(x:HOk P w H h)(e:h.objs.size<=a):H a=none:=by
 cases q:H a with
 | none=>rfl
 | some u=>exact absurd (C3 (x.lt q) e) (E4 _)
theorem HOk.kept(x:HOk P w H h)(k:∀b u,h.get? b=some u->h'.get? b=some u):HOk P w H h':=λ a o e=>
 (x a o e).stay (λ b u _ q=>k b u q) (λ _ q=>q) λ _ _ q=>q
theorem HOk.laid(x:HOk P w H h)(k:∀b u,h.get? b=some u->h'.get? b=some u)(hp:h.objs.size<=a)(new:ObjOk P w (upd H a o) h' a o):HOk P w (upd H a o) h':=λ b u e=>by
 have hn:=x.fresh hp
 by_cases hb:b=a
 ·subst hb;rw[ah]at e;cases e;exact new
 ·rw[am hb]at e;exact(x b u e).stay (λ c v _ q=>k c v q) (λ c q=>by rw[am (ak q hn)];exact q) λ c xs q=>by rw[am (ak q hn)];exact q
end
def Rd(H:Hp)(a:QP)(u:HO):Prop:=H a=some u\/∃o,H a=some (.frz o u)
theorem Rd.ok{P:G1}{w:G3}{H:Hp}{h:Heap}{a:QP}{u:HO}(r:Rd H a u)(x:HOk P w H h):ObjOk P w H h a u:=by
 rcases r with r | ⟨o,r⟩
 ·exact x a u r
 ·obtain⟨_,q⟩:=x a _ r;exact q
def Mut:QR HO->Prop
 | ↥_=>True
 | some (.dK _)=>True
 | some (.dT _)=>True
 | some (.set _ _)=>True
 | some (.ins _ _ _)=>True
 | some (.ext _)=>True
 | _=>False
section
variable{P:G1}{w:G3}{H:Hp}{h h':Heap}{x e:QP}{o':HO}
theorem HOk.write(ok:HOk P w H h)(mu:Mut (H x))(he:e=x\/H e=some (.own x))(k:∀b u,b≠e->h.get? b=some u->h'.get? b=some u)(heo:∃u,h'.get? e=some u)
  (new:ObjOk P w (upd H x o') h' x o'):HOk P w (upd H x o') h':=λ b u q=>by
 have nown:∀c y,H c=some (.own y)->c≠x:=λ c y r z=>by subst z;rw[r]at mu;exact mu
 have ntup:∀c xs,H c= ~~~xs->c≠x:=λ c xs r z=>by subst z;rw[r]at mu;exact mu
 by_cases hb:b=x
 ·subst hb;rw[ah]at q;cases q;exact new
 ·rw[am hb]at q
  by_cases hbe:b=e
  ·have q':H b=some (.own x):=by
    rcases he with z | z
    ·exact absurd (hbe.trans z) hb
    ·rw[hbe];exact z
   rw[q]at q';cases q';obtain⟨v,hv⟩:=heo;exact%[v|by rw[hbe];exact hv]
  ·apply(ok b u q).stay (λ c v hc r=>k c v ?_ r) (λ c r=>by rw[am (nown c b r)];exact r) λ c xs r=>by rw[am (ntup c xs r)];exact r
   rcases hc with rfl | hc
   ·exact hbe
   ·rintro rfl;rcases he with z | z
    ·exact nown c b hc z
    ·rw[hc]at z;cases z;exact hb rfl
end
structure Un(fs ex:QT QP)(H H':Hp)(h h':Heap):Prop where
 keep:∀b o,h.get? b=some o->H b=none->b∉fs->b∉ex->h'.get? b=some o
 slot:∀b o,h.get? b=some o->H b=none->b∈fs->b∉ex->∃sl,h'.get? b=some { o with slots:=sl }
 free:∀b o,h.get? b=some o->H b=none->b∉ex->H' b=none
 there:∀b o,h.get? b=some o->b∉ex->∃o',h'.get? b=some o'
 tups:∀b xs,H b= ~~~xs->H' b= ~~~xs
 frzs:∀b o u,H b=some (.frz o u)->H' b=some (.frz o u)
 tbls:∀b ps,H b=some (.tbl ps)->∃more,H' b=some (.tbl (ps ++ more))
section
variable{fs fs' ex ex':QT QP}{H H1 H2:Hp}{h h1 h2 h':Heap}{a x e:QP}{o:HO}
theorem Un.any(u:Un fs ex H H1 h h1){b:QP}{ob:Obj}(q:h.get? b=some ob)(n:H b=none)(hx:b∉ex):∃sl,h1.get? b=some { ob with slots:=sl }:=by
 by_cases hb:b∈fs
 ·exact u.slot b ob q n hb hx
 ·exact%[ob.slots|u.keep b ob q n hb hx]
theorem Un.kept(k:∀b u,h.get? b=some u->h'.get? b=some u):Un fs ex H H h h' :=
 %[λ b ob q _ _ _=>k b ob q,λ b ob q _ _ _=>%[ob.slots|k b ob q],λ _ _ _ n _=>n,λ b ob q _=>%[ob|k b ob q],λ _ _ q=>q,λ _ _ _ q=>q|λ _ ps q=>%[#[]|by rw[q];simp]]
theorem Un.refl:Un fs ex H H h h:=Un.kept λ _ _ q=>q
theorem Un.laid(k:∀b u,h.get? b=some u->h'.get? b=some u)(hp:h.objs.size<=a)(hn:H a=none):Un fs ex H (upd H a o) h h' where
 keep:=λ b u q _ _ _=>k b u q
 slot:=λ b u q _ _ _=>%[u.slots|k b u q]
 free:=λ b u q n _=>by rw[am (C1 (C3 (Heap.lt_size q) hp))];exact n
 there:=λ b u q _=>%[u|k b u q]
 tups:=λ b xs q=>by rw[am (ak q hn)];exact q
 frzs:=λ b u xs q=>by rw[am (ak q hn)];exact q
 tbls:=λ b ps q=>%[#[]|by rw[am (ak q hn),q];simp]
theorem Un.write(mu:Mut (H x))(he:e=x\/H e=some (.own x))(k:∀b u,b≠e->h.get? b=some u->h'.get? b=some u)(heo:∃u,h'.get? e=some u):Un fs ex H (upd H x o) h h':=by
 have hx:∀b,H b=none->b≠x:=λ b n z=>by subst z;rw[n]at mu;exact mu
 have hb:∀b,H b=none->b≠e:=λ b n z=>by
  subst z;rcases he with r | r
  ·exact hx b n r
  ·rw[n]at r;cases r
 have hm:∀b u,H b=some u->¬ Mut (some u)->b≠x:=λ b u q nm z=>by subst z;rw[q]at mu;exact nm mu
 apply⟨λ b u q n _ _=>k b u (hb b n) q,λ b u q n _ _=>%[u.slots|k b u (hb b n) q],λ b u q n _=>by rw[am (hx b n)];exact n,λ b u q _=>?_,
  λ b xs q=>by rw[am (hm b _ q λ z=>z)];exact q,λ b u xs q=>by rw[am (hm b _ q λ z=>z)];exact q,λ b ps q=>%[#[]|by rw[am (hm b _ q λ z=>z),q];simp]⟩
 by_cases hbe:b=e
 ·subst hbe;exact heo
 ·exact%[u|k b u hbe q]
end
def trk(h:Heap)(H:Hp):QT QP:=(List.range h.objs.size).filter λ a=>(H a).isSome
def mH(h:Heap)(H:Hp):Heap:=PySem.W.hideAll h (trk h H)
theorem tF(h:Heap)(H:Hp):(mH h H).objs.size=h.objs.size:=PySem.W.hideAll_size _ _
theorem wz{h:Heap}{H:Hp}{b:QP}{o:Obj}(e:h.get? b=some o)(n:H b=none):(mH h H).get? b=some o :=
 PySem.W.hideAll_get _ e λ hm=>by have q:(H b).isSome=true:=(PJ.mp hm).2;rw[n]at q;simp at q
theorem zw{h:Heap}{H:Hp}{b:QP}{o:Obj}(e:(mH h H).get? b=some o):h.get? b=some o/\H b=none:=by
 have e':h.get? b=some o:=PySem.W.of_hideAll (trk h H) e;apply%[e'|?_];cases q:H b with
 | none=>rfl
 | some x=>
  have hm:b∈trk h H:=PJ.mpr %[N9.mpr (B0 e')|by simp[q]];have z:(mH h H).get? b=none:=PySem.W.hideAll_none (trk h H) hm;rw[z]at e;cases e
def zx(g h:Heap)(L:QP):SY:=(List.range h.objs.size).filterMap λ a=>if a=L\/(g.get? a).isSome=true then none else(h.get? a).map λ o=>(a,o)
def rest(g h:Heap)(L d:QP):SY:=(zx g h L).filter λ p=>decide (p.1≠d)
structure Mod(K:C6)(mg:Str->QR Value)(base:Heap):Prop where
 kin:K.In base
 glob:base.Ns QU mg
 blt:∃mb,base.Ns builtinsNs mb/\∀x:Str,x ≠ "__name__" -> mb x=bootBuiltins x
 nolimit:base.NoLimit
/-- the context: a def's body (or a comprehension's block) running. base: fixed through the whole law;s₀,H₀: the entry;outer: the frames whose slots others may change (a def's callers);stack: all frames that run;
   ex: iterators that were made ahead of the entry and are walked here (a comprehension's);fn: the names whose cells were made at the entry (a def: all;a comprehension's block: its own);calm: not within an except suite;pn: QV that every state bears;xe: what is wanted of an exception that leaves the code -/
structure Cx where
 prog:Program
 w:World
 K:C6
 mg:Str->QR Value
 base:Heap
 A:Around
 N:QT Str
 s₀:Shared
 H₀:Hp
 env:Env
 outer:QT Env
 stack:QT Env
 ex:QT QP
 fn:Str->Bool
 calm:Bool
 pn:SY
 xe:G4->G0->Prop
def frs(l:QT Env):QT QP:=l.filterMap (·.frame)
abbrev Cx.fs(X:Cx):QT QP:=frs X.outer
def Vis(sc:Scope)(x:Str):Prop:=sc.names.lookup x=some .local\/sc.names.lookup x=some .cell\/sc.names.lookup x=some .free
def Loc(sc:Scope)(x:Str):Prop:=sc.names.lookup x=some .local\/sc.names.lookup x=some .cell
def Mh(env:Env)(h:Heap)(m:Str->QR G4)(x:Str)(u:G4):Prop :=
 (env.kindOf x=some .local/\m x=some u)\/((env.kindOf x=some .cell\/env.kindOf x=some .free)/\∃c,env.cells.lookup x=some c/\h.IsCell c (some u))
structure Cx.Ok(X:Cx):Prop where
 mod:Mod X.K X.mg X.base
 kind:X.env.scope.kind=.function
 glob:X.env.globals=QU
 blt:X.env.builtins=builtinsNs
 above:X.s₀.heap.objs.size<=X.env.locals
 inj:∀x y c,X.env.cells.lookup x=some c->X.env.cells.lookup y=some c->x=y
 has:∀x,(X.env.kindOf x=some .cell\/X.env.kindOf x=some .free)->∃c,X.env.cells.lookup x=some c
 cab:∀x c,X.fn x=true->X.env.cells.lookup x=some c->X.s₀.heap.objs.size<=c
 hd:X.calm=true->X.A.handled=none
 frames:X.A.frames=some X.stack
 stk:X.stack=X.outer\/(X.stack=X.env :: X.outer/\X.env.frame=some X.env.locals)
 exf:∀b∈X.ex,b≠X.env.locals/\∀x c,X.env.cells.lookup x=some c->c≠b
 bs:∀b o,X.base.get? b=some o->X.s₀.heap.get? b=some o/\X.H₀ b=none
 bsz:X.base.objs.size<=X.s₀.heap.objs.size
 noex:∀b o,X.base.get? b=some o->b∉X.ex
 exfs:∀b∈X.ex,b∉X.fs
 funs:X.s₀.heap.FunFrames X.base X.outer
 frf:∀b∈X.fs,X.H₀ b=none
structure Inv(X:Cx)(QV:SY)(σ:QT (QR V))(H:Hp)(s:Shared):Prop where
 ok:X.Ok
 os:s.os=X.s₀.os
 bare:AllBare s.gens
 base:Un X.fs X.ex X.H₀ H X.s₀.heap s.heap
 loc:∃m,s.heap.Ns X.env.locals m/\∀(i:Nat)(x:Str)(v:V),X.N[i]?=some x->σ[i]?=some (some v)->Vis X.env.scope x->∃u,RelV v u/\Mh X.env s.heap m x u
 cell:∀x c,X.env.cells.lookup x=some c->∃v,s.heap.IsCell c v
 free:H X.env.locals=none
 freeC:∀x c,X.env.cells.lookup x=some c->H c=none
 pin:∀p∈X.pn ++ QV,s.heap.get? p.1=some p.2/\H p.1=none/\p.1≠X.env.locals/\p.1∉X.fs/\∀v,p.2.data≠.cell v
 hok:HOk X.prog X.w H s.heap
 len:σ.length=X.N.length
section
variable{X:Cx}{QV:SY}{σ:QT (QR V)}{H H':Hp}{s:G0}{h':Heap}
theorem Cx.Ok.nofr(ok:X.Ok){b:QP}{o:Obj}(e:X.base.get? b=some o):b∉X.fs:=λ hb=>by have:=(ok.funs.mem hb).1;rw[e]at this;cases this
theorem Inv.bs(I:Inv X QV σ H s):∀b o,X.base.get? b=some o->s.heap.get? b=some o/\H b=none:=λ b o e=>
 %[I.base.keep b o (I.ok.bs b o e).1 (I.ok.bs b o e).2 (I.ok.nofr e) (I.ok.noex b o e)|I.base.free b o (I.ok.bs b o e).1 (I.ok.bs b o e).2 (I.ok.noex b o e)]
theorem Inv.bk(I:Inv X QV σ H s):∀b o,X.base.get? b=some o->s.heap.get? b=some o:=λ b o e=>(I.bs b o e).1
theorem Inv.mod(I:Inv X QV σ H s):Mod X.K X.mg X.base:=I.ok.mod
theorem Inv.kIn(I:Inv X QV σ H s):X.K.In s.heap:=I.ok.mod.kin.keeps I.bk
theorem Inv.fr(I:Inv X QV σ H s):∃m,Fr X.base X.env.locals s.heap m :=
 let ⟨m,hn,_⟩:=I.loc
 %[m,hn,I.bk|C7 I.ok.bsz I.ok.above]
theorem Inv.lt(I:Inv X QV σ H s):X.env.locals < s.heap.objs.size:=let ⟨_,hn,_⟩:=I.loc;hn.lt
theorem Inv.sz(I:Inv X QV σ H s):X.s₀.heap.objs.size<=s.heap.objs.size:=C7 I.ok.above (C9 I.lt)
theorem Inv.nofs(I:Inv X QV σ H s){a:QP}(h:s.heap.objs.size<=a):a∉X.fs:=λ hb=>by obtain⟨_,o,ho,_⟩:=I.ok.funs.mem hb;exact absurd (C3 (B0 ho) (C7 I.sz h)) (E4 _)
theorem Inv.cne(I:Inv X QV σ H s):∀x c,X.env.cells.lookup x=some c->c≠X.env.locals:=λ x c e z=>by obtain⟨v,o,ho,hd⟩:=I.cell x c e;obtain⟨m,⟨o',es,ep,ho',hd',_⟩,_⟩:=I.loc;rw[z,ho']at ho;cases ho;rw[hd']at hd;cases hd
theorem Inv.funs(I:Inv X QV σ H s):s.heap.FunFrames X.base X.outer:=by
 have all:∀(l:QT Env),(∀b∈frs l,b∈X.fs)->X.s₀.heap.FunFrames X.base l->s.heap.FunFrames X.base l:=by
  intro l
  induction l with
  | nil=>intro _ _;trivial
  | cons env r ih=>
   intro hs hl;obtain⟨hk,⟨L,o,hf,hn,ho,hd⟩,hr⟩:=hl;have hL:L∈X.fs:=hs L (by unfold frs;rw[List.filterMap_cons,hf];exact B9);obtain⟨sl,e⟩:=I.base.slot L o ho (I.ok.frf L hL) hL λ z=>I.ok.exfs L z hL;exact%[hk,%[L,_,hf,hn,e|hd]|ih (λ b hb=>hs b (by unfold frs;rw[List.filterMap_cons,hf];exact B6 _ hb)) hr]
 exact all X.outer (λ _ hb=>hb) I.ok.funs
theorem Inv.stack(I:Inv X QV σ H s):s.heap.FunFrames X.base X.stack:=by
 rcases I.ok.stk with e | ⟨e,hf⟩
 ·rw[e];exact I.funs
 ·rw[e];obtain⟨m,hn,_⟩:=I.loc;apply .cons (by rw[I.ok.kind];decide) hf hn ?_ I.funs;exact Heap.get?_none_of_le (C7 I.ok.bsz I.ok.above)
theorem Inv.stkSub(I:Inv X QV σ H s):∀b∈frs X.stack,b∈X.env.locals :: X.fs:=λ b hb=>by
 rcases I.ok.stk with e | ⟨e,hf⟩
 ·rw[e]at hb;exact B6 _ hb
 ·rw[e]at hb;unfold frs at hb;rw[List.filterMap_cons,hf]at hb;exact hb
theorem Inv.stkFree(I:Inv X QV σ H s):∀b∈frs X.stack,H b=none:=λ b hb=>by
 rcases J4.mp (I.stkSub b hb)with e | hb
 ·rw[e];exact I.free
 ·obtain⟨_,o,ho,_⟩:=I.ok.funs.mem hb;exact I.base.free b o ho (I.ok.frf b hb) λ z=>I.ok.exfs b z hb
theorem Inv.step{g':QS GenState}{t':Nat}{d':Drawn}{ch:QT QP}(I:Inv X QV σ H s)
  (hch:∀b∈ch,(b∈X.ex\/X.s₀.heap.objs.size<=b)/\b≠X.env.locals/\(∀x c,X.env.cells.lookup x=some c->c≠b)/\∀p∈X.pn ++ QV,p.1≠b)
  (keep:∀b o,b≠X.env.locals->b∉X.fs->b∉ch->s.heap.get? b=some o->H b=none->h'.get? b=some o)
  (slot:∀b o,b≠X.env.locals->b∈X.fs->b∉ch->s.heap.get? b=some o->H b=none->∃sl,h'.get? b=some { o with slots:=sl }) (free:∀b o,b∉ch->s.heap.get? b=some o->H b=none->H' b=none)
  (there:∀b o,b∉ch->s.heap.get? b=some o->∃o',h'.get? b=some o')
  (tups:∀b xs,H b= ~~~xs->H' b= ~~~xs) (frzs:∀b o u,H b=some (.frz o u)->H' b=some (.frz o u)) (tbls:∀b ps,H b=some (.tbl ps)->∃more,H' b=some (.tbl (ps ++ more)))
  (ns:∀m,s.heap.Ns X.env.locals m->h'.Ns X.env.locals m) (hok:HOk X.prog X.w H' h') (hg:AllBare g') :
  Inv X QV σ H' { s with heap:=h',gens:=g',drawn:=d',toks:=t' }:=by
 have neL:∀b o,X.s₀.heap.get? b=some o->b≠X.env.locals:=λ b o e=>C1 (C3 (B0 e) I.ok.above);have neC:∀b o,X.s₀.heap.get? b=some o->b∉X.ex->b∉ch:=λ b o e hx hb=>by
  rcases(hch b hb).1 with z | z
  ·exact hx z
  ·exact absurd (C3 (B0 e) z) (E4 _)
 have cellK:∀x c,X.env.cells.lookup x=some c->∀v,s.heap.IsCell c v->h'.IsCell c v:=λ x c e v ⟨o,ho,hd⟩=>by
  have nch:c∉ch:=λ z=>(hch c z).2.2.1 x c e rfl
  by_cases hc:c∈X.fs
  ·obtain⟨sl,q⟩:=slot c o (I.cne x c e) hc nch ho (I.freeC x c e);exact%[_,q|hd]
  ·exact%[o,keep c o (I.cne x c e) hc nch ho (I.freeC x c e)|hd]
 apply%[I.ok,I.os,hg,%[λ b o e n hb hx=>?_,λ b o e n hb hx=>?_,λ b o e n hx=>?_,λ b o e hx=>?_,λ b xs e=>tups b xs (I.base.tups b xs e),λ b o xs e=>frzs b o xs (I.base.frzs b o xs e)|λ b ps e=>?_],?_,λ x c e=>?_,?_,λ x c e=>?_,λ p hp=>?_,hok|I.len]
 ·exact keep b o (neL b o e) hb (neC b o e hx) (I.base.keep b o e n hb hx) (I.base.free b o e n hx)
 ·obtain⟨sl,e1⟩:=I.base.slot b o e n hb hx;obtain⟨sl',e2⟩:=slot b _ (neL b o e) hb (neC b o e hx) e1 (I.base.free b o e n hx);exact%[sl'|e2]
 ·obtain⟨o',e1⟩:=I.base.there b o e hx;exact free b o' (neC b o e hx) e1 (I.base.free b o e n hx)
 ·obtain⟨o',e1⟩:=I.base.there b o e hx;exact there b o' (neC b o e hx) e1
 ·obtain⟨m1,e1⟩:=I.base.tbls b ps e;obtain⟨m2,e2⟩:=tbls b _ e1;exact%[m1 ++ m2|by rw[e2,Array.append_assoc]]
 ·obtain⟨m,hn,hl⟩:=I.loc;apply%[m,ns m hn|λ i x v e1 e2 e3=>?_];obtain⟨u,r,l⟩:=hl i x v e1 e2 e3;apply%[u,r|?_];rcases l with l | ⟨k,c,e,z⟩
  ·exact .inl l
  ·exact .inr %[k,c,e|cellK x c e _ z]
 ·obtain⟨v,z⟩:=I.cell x c e;exact%[v|cellK x c e v z]
 ·obtain⟨m,⟨o,_,_,ho,_⟩,_⟩:=I.loc;exact free _ o (λ z=>(hch _ z).2.1 rfl) ho I.free
 ·obtain⟨v,o,ho,hd⟩:=I.cell x c e;exact free c o (λ z=>(hch c z).2.2.1 x c e rfl) ho (I.freeC x c e)
 ·obtain⟨e,n,ne,nf,d⟩:=I.pin p hp;have nch:p.1∉ch:=λ z=>(hch p.1 z).2.2.2 p hp rfl;exact%[keep p.1 p.2 ne nf nch e n,free p.1 p.2 nch e n,ne,nf|d]
theorem Inv.un{t':Nat}(I:Inv X QV σ H s)(u:Un X.fs [] H H' s.heap h')(hok:HOk X.prog X.w H' h'):Inv X QV σ H' { s with heap:=h',toks:=t' }:=by
 obtain⟨m,⟨o,es,ep,ho,r⟩,_⟩:=id I.loc;obtain⟨sl,hL⟩:=u.any ho I.free (by simp);exact I.step (g':=s.gens) (d':=s.drawn) (ch:=[]) (λ _ z=>nomatch z) (λ b o _ hb _ e n=>u.keep b o e n hb (by simp)) (λ b o _ hb _ e n=>u.slot b o e n hb (by simp)) (λ b o _ e n=>u.free b o e n (by simp)) (λ b o _ e=>u.there b o e (by simp)) u.tups u.frzs u.tbls (λ m' hm=>by
  obtain⟨o',es',ep',ho',r'⟩:=hm;rw[ho]at ho';cases ho';exact%[_,es',ep',hL|r']) hok I.bare
theorem Inv.call{g':QS GenState}{t':Nat}{d':Drawn}{ch:QT QP}(I:Inv X QV σ H s)(u:Un (frs X.stack) ch H H' s.heap h')(hok:HOk X.prog X.w H' h')(hg:AllBare g')
  (hch:∀b∈ch,(b∈X.ex\/X.s₀.heap.objs.size<=b)/\b≠X.env.locals/\(∀x c,X.env.cells.lookup x=some c->c≠b)/\∀p∈X.pn ++ QV,p.1≠b) :
  Inv X QV σ H' { s with heap:=h',gens:=g',drawn:=d',toks:=t' }:=by
 obtain⟨m,⟨o,es,ep,ho,r⟩,_⟩:=id I.loc;obtain⟨sl,hL⟩:=u.any ho I.free λ z=>(hch _ z).2.1 rfl;exact I.step (ch:=ch) hch (λ b o hL hb hc e n=>u.keep b o e n (λ z=>(J4.mp (I.stkSub b z)).elim hL hb) hc) (λ b o _ _ hc e n=>u.any e n hc) (λ b o hc e n=>u.free b o e n hc) (λ b o hc e=>u.there b o e hc) u.tups u.frzs u.tbls (λ m' hm=>by
  obtain⟨o',es',ep',ho',r'⟩:=hm;rw[ho]at ho';cases ho';exact%[_,es',ep',hL|r']) hok hg
theorem Inv.turned{t':Nat}{it:QP}(I:Inv X QV σ H s)(k:∀b o,b≠it->s.heap.get? b=some o->h'.get? b=some o)(hn:H it=none)(hL:it≠X.env.locals)
  (h1:it∈X.ex\/X.s₀.heap.objs.size<=it) (h2:∀x c,X.env.cells.lookup x=some c->c≠it) (h3:∀p∈X.pn ++ QV,p.1≠it):Inv X QV σ H { s with heap:=h',toks:=t' }:=by
 have nit:∀b u,H b=some u->b≠it:=λ b u e z=>by rw[z,hn]at e;cases e
 apply I.step (g':=s.gens) (d':=s.drawn) (ch:=[it]) (λ b hb=>?_) (λ b o _ _ hc e _=>k b o (λ z=>hc (by simp[z])) e) (λ b o _ _ hc e _=>%[o.slots|k b o (λ z=>hc (by simp[z])) e]) (λ _ _ _ _ n=>n)
  (λ b o hc e=>%[o|k b o (λ z=>hc (by simp[z])) e]) (λ _ _ e=>e) (λ _ _ _ e=>e) (λ b ps e=>%[#[]|by rw[e];simp]) (λ m hm=>?_) (λ b u e=>?_) I.bare
 ·have e:b=it:=by simpa using hb
  subst e;exact%[h1,hL,h2|h3]
 ·obtain⟨o,es,ep,ho,r⟩:=hm;exact%[o,es,ep,k _ o (Ne.symm hL) ho|r]
 ·apply(I.hok b u e).stay (λ c v hc q=>k c v ?_ q) (λ _ q=>q) λ _ _ q=>q;rcases hc with z | z
  ·rw[z];exact nit b u e
  ·exact nit c _ z
theorem Inv.tok(I:Inv X QV σ H s)(t:Nat):Inv X QV σ H { s with toks:=t }:=I.un (h':=s.heap) (t':=t) Un.refl I.hok
theorem Inv.kept{t':Nat}(I:Inv X QV σ H s)(k:∀b u,s.heap.get? b=some u->h'.get? b=some u):Inv X QV σ H { s with heap:=h',toks:=t' }:=I.un (Un.kept k) (I.hok.kept k)
theorem Inv.laid{a:QP}{o:HO}{t':Nat}(I:Inv X QV σ H s)(k:∀b u,s.heap.get? b=some u->h'.get? b=some u)(hp:s.heap.objs.size<=a)(new:ObjOk X.prog X.w (upd H a o) h' a o) :
  Inv X QV σ (upd H a o) { s with heap:=h',toks:=t' }:=I.un (Un.laid k hp (I.hok.fresh hp)) (I.hok.laid k hp new)
theorem Inv.write{x e:QP}{o:HO}{t':Nat}(I:Inv X QV σ H s)(mu:Mut (H x))(he:e=x\/H e=some (.own x))(k:∀b u,b≠e->s.heap.get? b=some u->h'.get? b=some u)(heo:∃u,h'.get? e=some u)
  (new:ObjOk X.prog X.w (upd H x o) h' x o):Inv X QV σ (upd H x o) { s with heap:=h',toks:=t' }:=I.un (Un.write mu he k heo) (I.hok.write mu he k heo new)
theorem Inv.weak{σ':QT (QR V)}(I:Inv X QV σ H s)(hl:σ'.length=σ.length)(w:∀ (i:Nat) v,σ'[i]?=some (some v)->σ[i]?=some (some v)):Inv X QV σ' H s :=
 %[I.ok,I.os,I.bare,I.base,let ⟨m,hn,hl'⟩:=I.loc;%[m,hn|λ i x v e1 e2 e3=>hl' i x v e1 (w i v e2) e3],I.cell,I.free,I.freeC,I.pin,I.hok|hl.trans I.len]
theorem Inv.pins_of{pins':SY}(I:Inv X QV σ H s)(h:∀p∈pins',s.heap.get? p.1=some p.2/\H p.1=none/\p.1≠X.env.locals/\p.1∉X.fs/\∀v,p.2.data≠.cell v):Inv X pins' σ H s :=
 %[I.ok,I.os,I.bare,I.base,I.loc,I.cell,I.free,I.freeC,λ p hp=>(C4.mp hp).elim (λ z=>I.pin p (B8 _ z)) (h p),I.hok|I.len]
theorem nR{N:QT Str}(hN:N.Nodup){i j:Nat}{x:Str}(a:N[i]?=some x)(b:N[j]?=some x):i=j:=by obtain⟨h1,e1⟩:=A7.mp a;obtain⟨h2,e2⟩:=A7.mp b;exact(List.getElem_inj hN).mp (e1.trans e2.symm)
theorem lF{M:Model}{A:Around}{E:G4->G0->Prop}{i:Nat}{x:Str}{v:V}{u:G4}{Q:Unit->G0->Prop}(I:Inv X QV σ H s)(hN:X.N.Nodup)(hi:X.N[i]?=some x)(hx:Loc X.env.scope x)(r:RelV v u)
  (h:∀s',Inv X QV (σ.set i (some v)) H s'->(∃a,Heap.SameBut a s.heap s'.heap/\(a=X.env.locals\/X.env.cells.lookup x=some a))->Q () s') (hf:X.fn x=true\/X.env.scope.names.lookup x=some .local:=by first | exact .inl rfl | exact .inr rfl | assumption):wpAny M A (storeName X.env x u) Q E s:=by
 obtain⟨m,hn,hl⟩:=id I.loc;have hcls:(X.env.scope.kind == .class || (X.env.scope.kind == .module && X.env.locals != X.env.globals))=false:=by rw[I.ok.kind];rfl
 have hiσ:i < σ.length:=by rw[I.len];exact(A7.mp hi).1
 have cne:=I.cne;have tracked:∀{a:QP}{h':Heap},(∃o,s.heap.get? a=some o/\H a=none)->Heap.SameBut a s.heap h'->HOk X.prog X.w H h':=λ {a h'} ha hs b ob e=>by
  obtain⟨_,_,hfree⟩:=ha;apply(I.hok b ob e).stay (λ c w' hc q=>(hs.2 c ?_).trans q) (λ _ q=>q) λ _ _ q=>q;rintro rfl;rcases hc with rfl | hc
  ·rw[hfree]at e;cases e
  ·rw[hfree]at hc;cases hc
 rcases hx with hk | hk
 ·apply wpAny_storeName_local hk hn (λ h' hn' hs=>?_) hcls;obtain⟨oL,_,_,hoL,_⟩:=id hn;apply h _ %[I.ok,I.os,I.bare,%[λ b o e n hb hx=>?_,λ b o e n hb hx=>?_,I.base.free,λ b o e hx=>?_,I.base.tups,I.base.frzs|I.base.tbls],%[_,hn'|λ j y v' e1 e2 e3=>?_],λ y c e=>?_,I.free,I.freeC,λ p hp=>?_,tracked %[oL,hoL|I.free] hs|by simpa using I.len] %[_,hs|.inl rfl]
  ·exact(hs.2 b (C1 (C3 (B0 e) I.ok.above))).trans (I.base.keep b o e n hb hx)
  ·obtain⟨sl,e1⟩:=I.base.slot b o e n hb hx;exact%[sl|(hs.2 b (C1 (C3 (B0 e) I.ok.above))).trans e1]
  ·obtain⟨o',e1⟩:=I.base.there b o e hx;exact%[o'|(hs.2 b (C1 (C3 (B0 e) I.ok.above))).trans e1]
  ·by_cases hj:j=i
   ·subst hj;rw[hi]at e1;cases e1;rw[List.getElem?_set_self hiσ]at e2;cases e2;exact%[u,r|.inl %[hk|by simp]]
   ·rw[List.getElem?_set_ne (Ne.symm hj)]at e2;obtain⟨u',r',q⟩:=hl j y v' e1 e2 e3;apply%[u',r'|?_];rcases q with⟨k,e⟩ | ⟨k,c,e,z⟩
    ·apply .inl %[k|?_];have:y≠x:=λ e=>hj (nR hN e1 (e ▸ hi));simp[this,e]
    ·exact .inr %[k,c,e|z.sameBut hs (cne y c e)]
  ·obtain⟨w',z⟩:=I.cell y c e;exact%[w'|z.sameBut hs (cne y c e)]
  ·obtain⟨e,n,ne,nf,d⟩:=I.pin p hp;exact%[(hs.2 p.1 ne).trans e,n,ne,nf|d]
 ·have hfn:X.fn x=true:=by
   rcases hf with z | z
   ·exact z
   ·rw[z]at hk;cases hk
  obtain⟨c,hc⟩:=I.ok.has x (.inl hk);obtain⟨w',z⟩:=I.cell x c hc;apply wpAny_storeName_cell I.ok.kind hk hc z (λ h' hc' hs=>?_);obtain⟨oc,hoc,hocd⟩:=id z;apply h { s with heap:=h' } %[I.ok,I.os,I.bare,%[λ b o e n hb hx=>?_,λ b o e n hb hx=>?_,I.base.free,λ b o e hx=>?_,I.base.tups,I.base.frzs|I.base.tbls],%[m,hn.sameBut hs (Ne.symm (cne x c hc))|λ j y v' e1 e2 e3=>?_],λ y c' e=>?_,I.free,I.freeC,λ p hp=>?_,tracked %[oc,hoc|I.freeC x c hc] hs|by simpa using I.len] %[c,hs|.inr hc]
  ·exact(hs.2 b (C1 (C3 (B0 e) (I.ok.cab x c hfn hc)))).trans (I.base.keep b o e n hb hx)
  ·obtain⟨sl,e1⟩:=I.base.slot b o e n hb hx;exact%[sl|(hs.2 b (C1 (C3 (B0 e) (I.ok.cab x c hfn hc)))).trans e1]
  ·obtain⟨o',e1⟩:=I.base.there b o e hx;exact%[o'|(hs.2 b (C1 (C3 (B0 e) (I.ok.cab x c hfn hc)))).trans e1]
  ·by_cases hj:j=i
   ·subst hj;rw[hi]at e1;cases e1;rw[List.getElem?_set_self hiσ]at e2;cases e2;exact%[u,r|.inr %[.inl hk,c,hc|hc']]
   ·rw[List.getElem?_set_ne (Ne.symm hj)]at e2;obtain⟨u',r',q⟩:=hl j y v' e1 e2 e3;apply%[u',r'|?_];rcases q with q | ⟨k,c',e,z'⟩
    ·exact .inl q
    ·apply .inr %[k,c',e|z'.sameBut hs ?_];rintro rfl;exact hj (nR hN e1 (I.ok.inj _ _ _ e hc ▸ hi))
  ·by_cases hcc:c'=c
   ·subst hcc;exact%[_|hc']
   ·obtain⟨w2,z2⟩:=I.cell y c' e;exact%[w2|z2.sameBut hs hcc]
  ·obtain⟨e,n,ne,nf,d⟩:=I.pin p hp;apply%[(hs.2 p.1 ?_).trans e,n,ne,nf|d];intro q;rw[q,hoc]at e;have q':oc=p.2:=C0 e;exact d w' (by rw[<- q'];exact hocd)
theorem fK{M:Model}{A:Around}{E:G4->G0->Prop}{i:Nat}{x:Str}{v:V}{u:G4}{Q:Unit->G0->Prop}(I:Inv X QV σ H s)(hN:X.N.Nodup)(hi:X.N[i]?=some x)(hx:Loc X.env.scope x)(r:RelV v u)
  (h:∀s',Inv X QV (σ.set i (some v)) H s'->Q () s') (hf:X.fn x=true\/X.env.scope.names.lookup x=some .local:=by first | exact .inl rfl | exact .inr rfl | assumption):wpAny M A (storeName X.env x u) Q E s :=
 lF I hN hi hx r (λ s' I' _=>h s' I') hf
theorem Inv.call'{s':G0}{ch:QT QP}(I:Inv X QV σ H s)(ho:s'.os=s.os)(u:Un (frs X.stack) ch H H' s.heap s'.heap)(hok:HOk X.prog X.w H' s'.heap)(hg:AllBare s'.gens)
  (hch:∀b∈ch,(b∈X.ex\/X.s₀.heap.objs.size<=b)/\b≠X.env.locals/\(∀x c,X.env.cells.lookup x=some c->c≠b)/\∀p∈X.pn ++ QV,p.1≠b):Inv X QV σ H' s':=by
 obtain⟨h',g',d',t',o'⟩:=s';have e:o'=s.os:=ho;subst e;exact I.call (g':=g') (t':=t') (d':=d') u hok hg hch
end
abbrev XK:=Value->QR QP->Hp->Prop
abbrev St:=QT (QR V)
abbrev VK:=V->Hp->Prop
abbrev TE:=St->Hp->VK->Prop
abbrev TT:=St->Hp->(Bool->Hp->Prop)->Prop
abbrev TA:=St->Hp->(QT V->Hp->Prop)->Prop
structure Ends where
 nx:St->Hp->Prop
 rt:VK
 bk:St->Hp->Prop:=λ _ _=>False
 ct:St->Hp->Prop:=λ _ _=>False
abbrev TS:=Ends->St->Hp->Prop
def EP(X:Cx)(QV:SY)(σ:St)(Q:VK)(u:G4)(s':G0):Prop:=∃v H',Inv X QV σ H' s'/\RelV v u/\Q v H'
def TP(X:Cx)(QV:SY)(σ:St)(Q:Bool->Hp->Prop)(b:Bool)(s':G0):Prop:=∃H',Inv X QV σ H' s'/\Q b H'
def AP(X:Cx)(QV:SY)(σ:St)(Q:QT V->Hp->Prop)(us:QT G4)(s':G0):Prop:=∃vs H',Inv X QV σ H' s'/\Vals vs us/\Q vs H'
def SP(X:Cx)(QV:SY)(D:Ends)(f:Flow)(s':G0):Prop :=
 match f with
 | .next=>∃σ' H',Inv X QV σ' H' s'/\D.nx σ' H'
 | .brk=>∃σ' H',Inv X QV σ' H' s'/\D.bk σ' H'
 | .cont=>∃σ' H',Inv X QV σ' H' s'/\D.ct σ' H'
 | .ret u=>∃v σ' H',Inv X QV σ' H' s'/\RelV v u/\D.rt v H'
def PE(X:Cx)(e:Expr)(t:TE):Prop :=
 ∀(QV:SY)(s:G0)(σ:St)(H:Hp)(Q:VK),Inv X QV σ H s->t σ H Q->wpAny (model X.prog X.w) X.A (eval e X.env) (EP X QV σ Q) X.xe s
def PT(X:Cx)(e:Expr)(t:TT):Prop :=
 ∀(QV:SY)(s:G0)(σ:St)(H:Hp)(Q:Bool->Hp->Prop),Inv X QV σ H s->t σ H Q->wpAny (model X.prog X.w) X.A (isTrue e X.env (eval e X.env)) (TP X QV σ Q) X.xe s
def PW(X:Cx)(e:Expr)(t:TT):Prop :=
 ∀(whole:Sem G4)(QV:SY)(s:G0)(σ:St)(H:Hp)(Q:Bool->Hp->Prop),Inv X QV σ H s->t σ H Q->wpAny (model X.prog X.w) X.A (isTrue e X.env whole) (TP X QV σ Q) X.xe s
theorem PW.pt{X:Cx}{e:Expr}{t:TT}(h:PW X e t):PT X e t:=h _
def PA(X:Cx)(es:QT Expr)(t:TA):Prop :=
 ∀(pos:Pos)(QV:SY)(s:G0)(σ:St)(H:Hp)(Q:QT V->Hp->Prop),Inv X QV σ H s->t σ H Q->wpAny (model X.prog X.w) X.A (spliced (backTo pos (starEach es X.env))) (AP X QV σ Q) X.xe s
def PS(X:Cx)(st:Stmt)(t:TS):Prop :=
 ∀(QV:SY)(s:G0)(σ:St)(H:Hp)(D:Ends),Inv X QV σ H s->t D σ H->wpAny (model X.prog X.w) X.A (exec st X.env) (SP X QV D) X.xe s
def PSs(X:Cx)(st:QT Stmt)(t:TS):Prop :=
 ∀(QV:SY)(s:G0)(σ:St)(H:Hp)(D:Ends),Inv X QV σ H s->t D σ H->wpAny (model X.prog X.w) X.A (execs st X.env) (SP X QV D) X.xe s
theorem thn{α:Type}{t:Sem α}{Q Q':α->G0->Prop}{M:Model}{A:Around}{E:G4->G0->Prop}{s:G0}(h:wpAny M A t Q E s)(hQ:∀a s,Q a s->Q' a s):wpAny M A t Q' E s:=Ql h hQ λ _ _ x=>x
section
variable{X:Cx}
theorem bin{a b:Expr}{ta tb:TE}(ha:PE X a ta)(hb:PE X b tb){QV:SY}{s:G0}{σ:St}{H:Hp}{R:V->V->Hp->Prop}(I:Inv X QV σ H s)(h:ta σ H λ x H1=>tb σ H1 λ y H2=>R x y H2)
  {α:Type} {Q:α->G0->Prop} {f:G4->G4->Sem α}
  (hf:∀v u s2 x y H2,Inv X QV σ H2 s2->RelV x v->RelV y u->R x y H2->wpAny (model X.prog X.w) X.A (f v u) Q X.xe s2) :
  wpAny (model X.prog X.w) X.A (eval a X.env) (λ v s₁=>wpAny (model X.prog X.w) X.A (eval b X.env) (λ u s₂=>wpAny (model X.prog X.w) X.A (f v u) Q X.xe s₂) X.xe s₁) X.xe s:=by
 apply thn (ha QV s σ H _ I h) ?_;rintro v s1 ⟨x,H1,I1,r1,q1⟩;apply thn (hb QV s1 σ H1 _ I1 q1) ?_;rintro u s2 ⟨y,H2,I2,r2,q2⟩;exact hf v u s2 x y H2 I2 r1 r2 q2
inductive tVar(i:Nat)(σ:St)(H:Hp)(Q:VK):Prop
|mk(v:V)(_:σ[i]?=some (some v))(_:Q v H)
def tC(v:V):TE:=λ _ H Q=>Q v H
theorem Bp{i:Nat}{x:Str}{pos:Pos}(hN:X.N[i]?=some x)(hv:Vis X.env.scope x)(hd:(x == ("__debug__" : Str))=false:=by decide)(hcd:(x == ("__classdict__" : Str))=false:=by decide):PE X (.Name x pos) (tVar i):=by
 intro QV s σ H Q I h;obtain⟨v,e,h⟩:=h;obtain⟨m,hn,hl⟩:=I.loc;obtain⟨u,r,l⟩:=hl i x v hN e hv;have fin:EP X QV σ Q u s:=%[v,H,I,r|h]
 rcases l with⟨hk,hm⟩ | ⟨hk,c,hc,hcell⟩
 ·exact wpAny_Name (wpAny_loadName_local I.ok.kind hk hn hm fin) hd
 ·rcases hk with hk | hk
  ·exact wpAny_Name (wpAny_loadName_cell I.ok.kind hk hc hcell fin) hd
  ·exact wpAny_Name (wpAny_loadName_free I.ok.kind hk hc hcell fin hcd) hd
theorem ag{i j pos}:PE X (.Constant (.int i) j pos) (tC (.int i)):=λ _ _ _ H _ I h=>wpAny_Constant_int %[.int i,H,I.tok _,%[_|rfl]|h]
theorem eC{b j pos}:PE X (.Constant (.bool b) j pos) (tC (.bl b)):=λ _ _ _ H _ I h=>Constant_bool %[.bl b,H,I,rfl|h]
theorem fL{j pos}:PE X (.Constant .none j pos) (tC .non):=λ _ _ _ H _ I h=>Constant_none %[.non,H,I,rfl|h]
def Gl(X:Cx)(x:Str):Prop:=X.env.kindOf x=some .globalImplicit
theorem mI{E:G4->G0->Prop}{QV:SY}{s:G0}{σ:St}{H:Hp}{x:Str}{u:G4}{pos:Pos}{Q:G4->G0->Prop}(I:Inv X QV σ H s)(hg:Gl X x)(hm:X.mg x=some u)(h:Q u s)
  (hd:(x == ("__debug__" : Str))=false:=by decide):wpAny (model X.prog X.w) X.A (eval (.Name x pos) X.env) Q E s :=
 Calls.Name_function_global I.ok.kind hg (Calls.loadGlobal_global (by rw[I.ok.glob];exact I.mod.glob.keeps I.bk) hm h) hd
theorem fM{E:G4->G0->Prop}{QV:SY}{s:G0}{σ:St}{H:Hp}{x:Str}{u:G4}{pos:Pos}{Q:G4->G0->Prop}(I:Inv X QV σ H s)(hg:Gl X x)(hm:X.mg x=none)(hv:bootBuiltins x=some u)(h:Q u s)
  (hn:x ≠ "__name__" := by decide) (hd:(x == ("__debug__" : Str))=false:=by decide):wpAny (model X.prog X.w) X.A (eval (.Name x pos) X.env) Q E s:=by
 obtain⟨mb,h1,h2⟩:=I.mod.blt;exact Calls.Name_function_global I.ok.kind hg (Calls.loadGlobal_builtin (by rw[I.ok.glob];exact I.mod.glob.keeps I.bk) hm (by rw[I.ok.blt];exact h1.keeps I.bk) ((h2 x hn).trans hv) h) hd
theorem bU{x:Str}{v:V}{u:G4}{pos:Pos}(hg:Gl X x)(hm:X.mg x=some u)(r:RelV v u)(hd:(x == ("__debug__" : Str))=false:=by decide):PE X (.Name x pos) (tC v) :=
 λ _ _ _ H _ I h=>mI I hg hm %[v,H,I,r|h] hd
theorem ij{x:Str}{v:V}{u:G4}{pos:Pos}(hg:Gl X x)(hm:X.mg x=none)(hv:bootBuiltins x=some u)(r:RelV v u)(hn:x ≠ "__name__" := by decide)(hd:(x == ("__debug__" : Str))=false:=by decide):PE X (.Name x pos) (tC v) :=
 λ _ _ _ H _ I h=>fM I hg hm hv %[v,H,I,r|h] hn hd
variable{a b:Expr}{ta tb:TE}{pos:Pos}
def PC(X:Cx)(op:CmpOp)(a b:Expr)(t:TE):Prop :=
 ∀(QV:SY)(s:G0)(σ:St)(H:Hp)(Q:VK),Inv X QV σ H s->t σ H Q ->
  wpAny (model X.prog X.w) X.A (eval a X.env) (λ v s₁=>wpAny (model X.prog X.w) X.A (eval b X.env) (λ u s₂=>wpAny (model X.prog X.w) X.A (compareOp op v u) (EP X QV σ Q) X.xe s₂) X.xe s₁) X.xe s
inductive IsB(x:V)(Q:Bool->Prop):Prop
|mk(c:Bool)(e:x=.bl c)(q:Q c)
def tB(t:TE):TT:=λ σ H Q=>t σ H λ x H1=>IsB x λ c=>Q c H1
theorem Bq{op:CmpOp}{t:TE}(h:PC X op a b t)(h1:behindInMarks op b=false:=by first | exact nobehind _ ∅ ∅ | rfl):PT X (.Compare a [op] [b] pos) (tB t):=by intro QV s σ H Q I hw;apply wpAny_isTrue_Compare1 (thn (h QV s σ H _ I hw) λ v s1 h1=>thn h1 λ u s2 h2=>thn h2 ?_) h1;rintro c s3 ⟨x,H1,I1,r1,q1⟩;obtain⟨d,rfl,q⟩:=q1;cases r1;exact F6 %[H1,I1|q]
theorem aW{e:Expr}{t:TE}(h:PE X e t)(he:∀whole,isTrue e X.env whole=(do let v<-whole;standAt e.pos;holding [v] (truthy v)):=by intro _;rfl):PT X e (tB t):=by intro QV s σ H Q I hw;apply isTrue_plain (thn (h QV s σ H _ I hw) ?_) (he _);rintro v s1 ⟨x,H1,I1,r1,q1⟩;obtain⟨d,rfl,q⟩:=q1;cases r1;exact F6 %[H1,I1|q]
variable{tA tB':TT}{rest:QT Expr}
def Mi(t u:TT):TT:=λ σ H Q=>t σ H λ c H1=>if c=true then u σ H1 Q else Q false H1
def tOr(t u:TT):TT:=λ σ H Q=>t σ H λ c H1=>if c=true then Q true H1 else u σ H1 Q
def Mj(t:TT):TT:=λ σ H Q=>t σ H λ c H1=>Q (!c) H1
theorem jE(ha:PT X a tA):PW X (.BoolOp .And [a] pos) tA:=by
 intro wh QV s σ H Q I h;apply isTrue_and (thn (ha QV s σ H Q I h) λ c s1 e=>?_);cases c with
 | true=>exact isTrue_and_nil e
 | false=>exact e
theorem cC(ha:PT X a tA):PW X (.BoolOp .Or [a] pos) tA:=by
 intro wh QV s σ H Q I h;apply isTrue_or (thn (ha QV s σ H Q I h) λ c s1 e=>?_);cases c with
 | false=>exact isTrue_or_nil e
 | true=>exact e
theorem jP(ha:PT X a tA)(hb:PW X (.BoolOp .And (b :: rest) pos) tB'):PW X (.BoolOp .And (a :: b :: rest) pos) (Mi tA tB'):=by
 intro wh QV s σ H Q I h;apply isTrue_and (thn (ha QV s σ H _ I h) ?_);rintro c s1 ⟨H1,I1,q1⟩;cases c with
 | true=>exact hb wh QV s1 σ H1 Q I1 q1
 | false=>exact%[H1,I1|q1]
theorem cP(ha:PT X a tA)(hb:PW X (.BoolOp .Or (b :: rest) pos) tB'):PW X (.BoolOp .Or (a :: b :: rest) pos) (tOr tA tB'):=by
 intro wh QV s σ H Q I h;apply isTrue_or (thn (ha QV s σ H _ I h) ?_);rintro c s1 ⟨H1,I1,q1⟩;cases c with
 | true=>exact%[H1,I1|q1]
 | false=>exact hb wh QV s1 σ H1 Q I1 q1
theorem bf(ha:PT X a tA):PT X (.UnaryOp .Not a pos) (Mj tA):=by intro QV s σ H Q I h;exact isTrue_not (ha QV s σ H (λ c H1=>Q (!c) H1) I h)
def Db(ta tb:TE):TE:=λ σ H Q=>ta σ H λ x H1=>IsB x λ c=>if c=true then tb σ H1 Q else Q (.bl false) H1
def Ml(ta tb:TE):TE:=λ σ H Q=>ta σ H λ x H1=>IsB x λ c=>if c=true then Q (.bl true) H1 else tb σ H1 Q
def Dc(ta:TE):TE:=λ σ H Q=>ta σ H λ x H1=>IsB x λ c=>Q (.bl (!c)) H1
theorem fN{op}{t:TE}(h:PE X a t):PE X (.BoolOp op [a] pos) t:=λ QV s σ H Q I hw=>BoolOp_one (h QV s σ H Q I hw)
theorem fO(ha:PE X a ta)(hb:PE X (.BoolOp .And (b :: rest) pos) tb):PE X (.BoolOp .And (a :: b :: rest) pos) (Db ta tb):=by
 intro QV s σ H Q I h;apply BoolOp_and (thn (ha QV s σ H _ I h) ?_);rintro v s1 ⟨x,H1,I1,r1,q1⟩;obtain⟨c,rfl,q1⟩:=q1;cases r1;apply F6 ?_;cases c with
 | true=>exact hb QV s1 σ H1 Q I1 q1
 | false=>exact%[.bl false,H1,I1,O|q1]
theorem AS(ha:PE X a ta)(hb:PE X (.BoolOp .Or (b :: rest) pos) tb):PE X (.BoolOp .Or (a :: b :: rest) pos) (Ml ta tb):=by
 intro QV s σ H Q I h;apply BoolOp_or (thn (ha QV s σ H _ I h) ?_);rintro v s1 ⟨x,H1,I1,r1,q1⟩;obtain⟨c,rfl,q1⟩:=q1;cases r1;apply F6 ?_;cases c with
 | false=>exact hb QV s1 σ H1 Q I1 q1
 | true=>exact%[.bl true,H1,I1,O|q1]
theorem wA(ha:PE X a ta):PE X (.UnaryOp .Not a pos) (Dc ta):=by intro QV s σ H Q I h;apply UnaryOp_ (thn (ha QV s σ H _ I h) ?_);rintro v s1 ⟨x,H1,I1,r1,q1⟩;obtain⟨c,rfl,q1⟩:=q1;cases r1;exact not_of (F6 %[.bl (!c),H1,I1,rfl|q1])
def tIf(t:TT)(ta tb:TE):TE:=λ σ H Q=>t σ H λ c H1=>if c=true then ta σ H1 Q else tb σ H1 Q
theorem wB{c:Expr}(hc:PT X c tA)(ha:PE X a ta)(hb:PE X b tb):PE X (.IfExp c a b pos) (tIf tA ta tb):=by
 intro QV s σ H Q I h;apply wpAny_IfExp (thn (hc QV s σ H _ I h) ?_);rintro d s1 ⟨H1,I1,q1⟩;cases d with
 | true=>exact ha QV s1 σ H1 Q I1 q1
 | false=>exact hb QV s1 σ H1 Q I1 q1
end
def SqL(K:C6)(H:Hp)(a:QP)(xs:QT V):Prop :=
 Rd H a (.lst xs) \/
  ∃(o:Obj)(its:QS G4)(n:Nat),K.lookup a=some o/\o.cls=.type "list" /\ o.dict=none/\o.data=.seq its n/\its.size<=sizeLine/\Vals xs its.toList
def SqT(K:C6)(H:Hp)(a:QP)(xs:QT V):Prop :=
 Rd H a (.tup xs) \/
  ∃(o:Obj)(its:QS G4)(n:Nat),K.lookup a=some o/\o.cls=.type "tuple" /\ o.data=.seq its n/\its.size<=sizeLine/\Vals xs its.toList
def Mm:G4->QR V
 | .none=>some .non
 | .bool b=>some (.bl b)
 | .int i _=>⇑i
 | .str x _=>some (.str x)
 | .bytes b _=>some (.byt b)
 | .float b _=>some (.flt b)
 | .ref a=>↑a
 | .type n=>some (.ty n)
 | _=>none
theorem RelV.abs{x:V}{u:G4}(r:RelV x u):Mm u=some x:=by
 cases x with
 | non=>cases r;rfl
 | bl _=>cases r;rfl
 | int _=>obtain⟨t,rfl⟩:=r;rfl
 | str _=>obtain⟨t,rfl⟩:=r;rfl
 | byt _=>obtain⟨t,rfl⟩:=r;rfl
 | flt _=>obtain⟨t,rfl⟩:=r;rfl
 | ref _=>cases r;rfl
 | ty _=>cases r;rfl
theorem RelV.inj{x y:V}{u:G4}(r:RelV x u)(q:RelV y u):x=y:=C0 (r.abs.symm.trans q.abs)
theorem Vals.inj:∀{xs ys:QT V}{us:QT G4},Vals xs us->Vals ys us->xs=ys
 | _,_,_,.nil,.nil=>rfl
 | _,_,_,.cons r t,.cons r' t'=>by rw[r.inj r',Vals.inj t t']
section
variable{X:Cx}{QV:SY}{σ:St}{H:Hp}{s:G0}{a:QP}{xs ys:QT V}
theorem SqL.of{K:C6}(h:H a=↥xs):SqL K H a xs:=.inl (.inl h)
abbrev G7:=@SqL.of
theorem SqT.of{K:C6}(h:H a= ~~~xs):SqT K H a xs:=.inl (.inl h)
abbrev G6:=@SqT.of
theorem Inv.list(I:Inv X QV σ H s)(h:SqL X.K H a xs):∃its:QT G4,Vals xs its/\PlainL s.heap a its.toArray/\xs.length<=sizeLine:=by
 rcases h with h | ⟨o,its,n,hk,hc,hd,hs,hz,r⟩
 ·obtain⟨z,its,n,r,e⟩:=h.ok I.hok;exact%[its,r,%[_,n,e,O,O|O]|z]
 ·apply%[its.toList,r,%[o,n,I.kIn a o hk,hc,hd|by simpa using hs]|?_];have e:=r.length;simp only[N2]at e;lia
theorem Inv.tuple(I:Inv X QV σ H s)(h:SqT X.K H a xs):∃its:QT G4,Vals xs its/\IsTup s.heap a its.toArray/\xs.length<=sizeLine:=by
 rcases h with h | ⟨o,its,n,hk,hc,hs,hz,r⟩
 ·obtain⟨z,its,r,p⟩:=h.ok I.hok;exact%[its,r,p|z]
 ·apply%[its.toList,r,%[o,I.kIn a o hk,hc,n|by simpa using hs]|?_];have e:=r.length;simp only[N2]at e;lia
theorem Inv.list_inj(I:Inv X QV σ H s)(h:SqL X.K H a xs)(h':SqL X.K H a ys):xs=ys:=by
 obtain⟨its,r,⟨o,n,e,_,_,d⟩,_⟩:=I.list h;obtain⟨its',r',⟨o',n',e',_,_,d'⟩,_⟩:=I.list h';rw[e]at e';cases e';rw[d]at d';injection d' with d1 _
 have:its=its':=by simpa using Qu Array.toList d1
 subst this;exact r.inj r'
theorem Inv.tuple_inj(I:Inv X QV σ H s)(h:SqT X.K H a xs)(h':SqT X.K H a ys):xs=ys:=by
 obtain⟨its,r,⟨o,e,_,n,d⟩,_⟩:=I.tuple h;obtain⟨its',r',⟨o',e',_,n',d'⟩,_⟩:=I.tuple h';rw[e]at e';cases e';rw[d]at d';injection d' with d1 _
 have:its=its':=by simpa using Qu Array.toList d1
 subst this;exact r.inj r'
end
abbrev Cx.wish(X:Cx)(E:G4->G0->Prop):Cx:={ X with xe:=E }
abbrev Cx.nox(X:Cx):Cx:=X.wish λ _ _=>False
theorem Cx.Ok.wish{X:Cx}(ok:X.Ok)(E:G4->G0->Prop):(X.wish E).Ok :=
 %[ok.mod,ok.kind,ok.glob,ok.blt,ok.above,ok.inj,ok.has,ok.cab,ok.hd,ok.frames,ok.stk,ok.exf,ok.bs,ok.bsz,ok.noex,ok.exfs,ok.funs|ok.frf]
theorem Cx.Ok.unwish{X:Cx}{E:G4->G0->Prop}(ok:(X.wish E).Ok):X.Ok :=
 %[ok.mod,ok.kind,ok.glob,ok.blt,ok.above,ok.inj,ok.has,ok.cab,ok.hd,ok.frames,ok.stk,ok.exf,ok.bs,ok.bsz,ok.noex,ok.exfs,ok.funs|ok.frf]
section
variable{X:Cx}{QV:SY}{σ:St}{H:Hp}{s:G0}{E:G4->G0->Prop}
theorem Inv.wish(I:Inv X QV σ H s)(E:G4->G0->Prop):Inv (X.wish E) QV σ H s:=%[I.ok.wish E,I.os,I.bare,I.base,I.loc,I.cell,I.free,I.freeC,I.pin,I.hok|I.len]
theorem Inv.unwish(I:Inv (X.wish E) QV σ H s):Inv X QV σ H s:=%[I.ok.unwish,I.os,I.bare,I.base,I.loc,I.cell,I.free,I.freeC,I.pin,I.hok|I.len]
theorem SP.unwish{D:Ends}{f:Flow}{s':G0}(h:SP (X.wish E) QV D f s'):SP X QV D f s':=by
 cases f with
 | next=>obtain⟨σ',H',I,q⟩:=h;exact%[σ',H',I.unwish|q]
 | brk=>obtain⟨σ',H',I,q⟩:=h;exact%[σ',H',I.unwish|q]
 | cont=>obtain⟨σ',H',I,q⟩:=h;exact%[σ',H',I.unwish|q]
 | ret u=>obtain⟨v,σ',H',I,r,q⟩:=h;exact%[v,σ',H',I.unwish,r|q]
theorem PSs.nox{st:QT Stmt}{t:TS}(h:PSs X.nox st t):PSs X st t:=λ QV s σ H D I hw=>
 Ql (h QV s σ H D (I.wish _) hw) (λ _ _ q=>q.unwish) λ _ _ z=>F1 z
end
section
variable{X:Cx}{st:Stmt}{rest:QT Stmt}{t u:TS}{e:Expr}{te:TE}{pos:Pos}
def AT:TS:=λ D σ H=>D.nx σ H
def zy(t u:TS):TS:=λ D σ H=>t { D with nx:=u D } σ H
theorem aE:PSs X [] AT:=λ _ _ σ H _ I h=>wpAny_execs_nil %[σ,H,I|h]
theorem af(h1:PS X st t)(h2:PSs X rest u):PSs X (st :: rest) (zy t u):=by
 intro QV s σ H D I h;apply wpAny_execs_cons (thn (h1 QV s σ H { D with nx:=u D } I h) λ f s1 q=>?_);cases f with
 | next=>
  obtain⟨σ',H',I',q⟩:=q;exact h2 QV s1 σ' H' D I' q
 | ret v=>exact q
 | brk=>exact q
 | cont=>exact q
theorem ai(h1:PS X st t):PSs X [st] t:=by
 intro QV s σ H D I h;apply wpAny_execs_cons (thn (h1 QV s σ H D I h) λ f s1 q=>?_);cases f with
 | next=>exact wpAny_execs_nil q
 | ret v=>exact q
 | brk=>exact q
 | cont=>exact q
theorem Inv.quiet{QV:SY}{σ:St}{H:Hp}{s:G0}(I:Inv X QV σ H s):interactive X.env=false:=by simp[interactive,I.ok.kind]
def De(te:TE):TS:=λ D σ H=>te σ H λ _ H1=>D.nx σ H1
theorem bj(he:PE X e te)(hs:swapsWith e none pos.line X.env=pure false:=by rfl):PS X (.Expr e pos) (De te):=by intro QV s σ H D I h;exact wpAny_Expr_any (thn (he QV s σ H _ I h) λ v s1 %[x,H1,I1,r1|q1]=>%[σ,H1,I1|q1]) I.quiet hs
def zA(te:TE):TS:=λ D σ H=>te σ H D.rt
theorem au(he:PE X e te):PS X (.Return (some e) pos) (zA te):=by intro QV s σ H D I h;exact wpAny_Return_some (thn (he QV s σ H _ I h) λ v s1 %[x,H1,I1,r1|q1]=>%[x,σ,H1,I1,r1|q1])
def Mo(c:TT)(t u:TS):TS:=λ D σ H=>c σ H λ b H1=>if b=true then t D σ H1 else u D σ H1
theorem aO{c:Expr}{a b:QT Stmt}{tc:TT}(hc:PT X c tc)(ha:PSs X a t)(hb:PSs X b u):PS X (.If c a b pos) (Mo tc t u):=by
 intro QV s σ H D I h;apply wpAny_If (thn (hc QV s σ H _ I h) ?_);rintro d s1 ⟨H1,I1,q1⟩;cases d with
 | true=>exact ha QV s1 σ H1 D I1 q1
 | false=>exact hb QV s1 σ H1 D I1 q1
def wC:TS:=λ _ _ _=>False
theorem cT:PS X st wC:=λ _ _ _ _ _ _ h=>h.elim
theorem iR{sts:QT Stmt}:PSs X sts wC:=λ _ _ _ _ _ _ h=>h.elim
end
abbrev TG:=V->St->Hp->(St->Hp->Prop)->Prop
abbrev TGs:=QT V->St->Hp->(St->Hp->Prop)->Prop
def PG(X:Cx)(target:Expr)(t:TG):Prop :=
 ∀(QV:SY)(s:G0)(σ:St)(H:Hp)(v:V)(u:G4)(Q:St->Hp->Prop),Inv X QV σ H s->RelV v u->t v σ H Q ->
  wpAny (model X.prog X.w) X.A (assign target X.env u) (λ _ s'=>∃σ' H',Inv X QV σ' H' s'/\Q σ' H') X.xe s
def PGs(X:Cx)(ts:QT Expr)(t:TGs):Prop :=
 ∀(QV:SY)(s:G0)(σ:St)(H:Hp)(vs:QT V)(us:QT G4)(Q:St->Hp->Prop),Inv X QV σ H s->Vals vs us->t vs σ H Q ->
  wpAny (model X.prog X.w) X.A (assignInOrder ((assignEach ts X.env).map (·.2)) us) (λ _ s'=>∃σ' H',Inv X QV σ' H' s'/\Q σ' H') X.xe s
abbrev Br:=V->V->V->Hp->(Hp->Prop)->Prop
def Df(X:Cx)(t:Br):Prop :=
 ∀(QV:SY)(s:G0)(σ:St)(H:Hp)(o i v:V)(ov iv u:G4)(Q:Hp->Prop),Inv X QV σ H s->RelV o ov->RelV i iv->RelV v u->t o i v H Q ->
  wpAny (model X.prog X.w) X.A (setItem ov iv u) (λ _ s'=>∃H',Inv X QV σ H' s'/\Q H') X.xe s
abbrev TIp:=V->V->Hp->VK->Prop
def PIp(X:Cx)(op:Operator)(t:TIp):Prop :=
 ∀(QV:SY)(s:G0)(σ:St)(H:Hp)(x y:V)(v u:G4)(Q:VK),Inv X QV σ H s->RelV x v->RelV y u->t x y H Q ->
  wpAny (model X.prog X.w) X.A (inplaceOp op v u) (EP X QV σ Q) X.xe s
section
variable{X:Cx}{pos:Pos}
def fB(i:Nat):TG:=λ v σ H Q=>Q (σ.set i (some v)) H
theorem aj{i:Nat}{x:Str}(hN:X.N.Nodup)(hi:X.N[i]?=some x)(hx:Loc X.env.scope x)(hf:X.fn x=true\/X.env.scope.names.lookup x=some .local:=by first | exact .inl rfl | exact .inr rfl | assumption):PG X (.Name x pos) (fB i):=by intro QV s σ H v u Q I r h;exact wpAny_assign_Name (fK I hN hi hx r (λ s' I'=>%[_,H,I'|h]) hf)
def wD:TGs:=λ vs σ H Q=>vs=[]/\Q σ H
inductive gCons(t:TG)(u:TGs)(vs:QT V)(σ:St)(H:Hp)(Q:St->Hp->Prop):Prop
|mk(v:V)(r:QT V)(_:vs=v :: r)(_:t v σ H λ σ' H'=>u r σ' H' Q)
theorem aR:PGs X [] wD:=by intro QV s σ H vs us Q I r h;obtain⟨e,h⟩:=h;subst e;cases r;exact assignInOrder_nil %[σ,H,I|h]
theorem ao{e:Expr}{es:QT Expr}{t:TG}{u:TGs}(h1:PG X e t)(h2:PGs X es u)
  (hs:(assignEach (e :: es) X.env).map (·.2)=assign e X.env :: (assignEach es X.env).map (·.2):=by rfl):PGs X (e :: es) (gCons t u):=by
 intro QV s σ H vs us Q I r h;obtain⟨v,vr,e1,h⟩:=h;subst e1;cases r with
 | cons r rr=>
  rw[hs];apply assignInOrder_cons (thn (h1 QV s σ H _ _ _ I r h) ?_);rintro _ s1 ⟨σ1,H1,I1,q1⟩;exact h2 QV s1 σ1 H1 _ _ Q I1 rr q1
inductive gTup(K:C6)(n:Nat)(t:TGs)(v:V)(σ:St)(H:Hp)(Q:St->Hp->Prop):Prop
|mk(a:QP)(xs:QT V)(_:v=.ref a)(_:SqT K H a xs)(_:xs.length=n)(_:t xs σ H Q)
theorem bn{es:QT Expr}{k:Nat}{t:TGs}{n:Nat}(hc:X.calm=true)(h:PGs X es t)
  (hn:(assignEach es X.env).length=n:=by rfl) (hst:(assignEach es X.env).findIdx? (·.1)=none:=by rfl):PG X (.Tuple es k pos) (gTup X.K n t):=by
 intro QV s σ H v u Q I r hw;obtain⟨a,xs,e1,hq,hl,hw⟩:=hw;subst e1;cases r;obtain⟨its,rv,ht,hz⟩:=I.tuple hq;apply assign_Tuple_tuple (I.ok.hd hc) ht (by simp[hn,<- hl,rv.length]) hst λ h' hx=>?_;have I1:Inv X QV σ H { s with heap:=h' }:=I.kept (t':=s.toks) λ b o e=>hx b o (C1 (B0 e)) e;exact h QV _ σ H xs _ Q I1 (by simpa using rv) hw
def Mp(to ti:TE)(t:Br):TG:=λ v σ H Q=>to σ H λ o H1=>ti σ H1 λ i H2=>t o i v H2 λ H3=>Q σ H3
theorem jQ{o i:Expr}{to ti:TE}{t:Br}(ho:PE X o to)(hi:PE X i ti)(hs:Df X t)
  (ha:∀v,assign (.Subscript o i pos) X.env v=(do
   let ov<-holding [v] (eval o X.env)
   let iv<-holding [v,ov] (eval i X.env)
   standAt pos
   holding [v,ov,iv] (setItem ov iv v)
   release [v,ov,iv] []):=by intro _;rfl):PG X (.Subscript o i pos) (Mp to ti t):=by
 intro QV s σ H v u Q I r h;rw[ha];apply A0 (Qh (thn (ho QV s σ H _ I h) ?_));rintro ov s1 ⟨x,H1,I1,r1,q1⟩;apply A0 (Qh (thn (hi QV s1 σ H1 _ I1 q1) ?_));rintro iv s2 ⟨y,H2,I2,r2,q2⟩;apply A0 (RC (A0 (Qh (thn (hs QV s2 σ H2 x y v ov iv u _ I2 r1 r2 r q2) ?_))));rintro _ s3 ⟨H3,I3,q3⟩;exact wpAny_release %[σ,H3,I3|q3]
def Bs(te:TE)(g:TG):TS:=λ D σ H=>te σ H λ x H1=>g x σ H1 D.nx
theorem cr{tg e:Expr}{te:TE}{g:TG}(he:PE X e te)(hg:PG X tg g)(hs:swapsWithSole [tg] e pos.line X.env=pure false:=by rfl)(hw:swappedStores [tg] e X.env=pure none:=by rfl)
  (h1:(assignEach [tg] X.env).map (·.2)=[assign tg X.env]:=by rfl):PS X (.Assign [tg] e pos) (Bs te g):=by
 intro QV s σ H D I h;apply wpAny_Assign_stores (thn (he QV s σ H _ I h) ?_) hs hw;rintro v s1 ⟨x,H1,I1,r1,q1⟩;rw[h1];exact thn (hg QV s1 σ H1 x v _ I1 r1 q1) λ _ s2 q=>q
theorem ax{i:Nat}{x:Str}{e:Expr}{te:TE}{pos':Pos}(hN:X.N.Nodup)(hi:X.N[i]?=some x)(hx:Loc X.env.scope x)(he:PE X e te)(hs:swapsWith e (some (.Name x pos')) pos.line X.env=pure false:=by rfl)(hf:X.fn x=true\/X.env.scope.names.lookup x=some .local:=by first | exact .inl rfl | exact .inr rfl | assumption) :
  PS X (.Assign [.Name x pos'] e pos) (Bs te (fB i)):=by
 intro QV s σ H D I h;apply wpAny_Assign_Name (thn (he QV s σ H _ I h) ?_) hs;rintro v s1 ⟨y,H1,I1,r1,q1⟩;exact fK I1 hN hi hx r1 (λ s2 I2=>%[_,H1,I2|q1]) hf
def Mq(i j:Nat)(ta:TA):TS:=λ D σ H=>ta σ H λ vs H1=>∃v w,vs=[v,w]/\D.nx ((σ.set i (some v)).set j (some w)) H1
theorem wE{i j:Nat}{x y:Str}{a b:Expr}{ta:TA}{px py pt:Pos}{kt k2 pt2}(hc:X.calm=true)(hN:X.N.Nodup)(hi:X.N[i]?=some x)(hj:X.N[j]?=some y)(hij:i≠j)
  (hx:X.env.scope.names.lookup x=some .local) (hy:X.env.scope.names.lookup y=some .local) (ha:PA X [a,b] ta)
  (hw:swappedStores [.Tuple [.Name x px,.Name y py] kt pt] (.Tuple [a,b] k2 pt2) X.env=pure (some [x,y]))
  (hs:swapsWithSole [.Tuple [.Name x px,.Name y py] kt pt] (.Tuple [a,b] k2 pt2) pos.line X.env=pure false:=by rfl) :
  PS X (.Assign [.Tuple [.Name x px,.Name y py] kt pt] (.Tuple [a,b] k2 pt2) pos) (Mq i j ta):=by
 intro QV s σ H D I h;rw[exec_Assign_arm];apply A0 (RC ?_);rw[hs];apply A0 (A3 ?_);rw[QZ ∅];apply A0 (Tuple_ (thn (ha _ QV s σ H _ I h) ?_));rintro us s1 ⟨vs,H1,I1,r1,q1⟩;obtain⟨v,w,e1,q1⟩:=q1;subst e1;obtain⟨u1,u2,rfl,rv,rw'⟩:∃u1 u2,us=[u1,u2]/\RelV v u1/\RelV w u2:=by
  cases r1 with
  | cons p q=>
   cases q with
   | cons p' q'=>
    cases q';exact%[_,_,O,p|p']
 apply F8 ?_ zS2;have I2:Inv X QV σ H1 { s1 with heap:=s1.heap.push { cls:=.type "tuple",data:=.seq [u1,u2].toArray } }:=I1.kept (t':=s1.toks) λ b o e=>A8 _ e;rw[hw];apply A0 (A3 ?_);show wpAny (model X.prog X.w) X.A (do rule "assign.swapped-stores";let items<-unpackItems (.ref s1.heap.objs.size) 2 none;assignInOrder [λ v=>bindName X.env y v,λ v=>bindName X.env x v] items.reverse;pure Flow.next) _ _ _;apply A0 (Qs (A0 (unpackItems_tuple (items:=#[u1,u2]) (I.ok.hd hc) (IsTup.new s1.heap _) λ h' hx'=>?_)));have I3:=I2.kept (h':=h') (t':=s1.toks) λ b o e=>hx' b o (C1 (B0 e)) e;show wpAny _ _ (assignInOrder [λ v=>bindName X.env y v,λ v=>bindName X.env x v] [u2,u1] >>= λ _=>pure Flow.next) _ _ _;apply A0 (assignInOrder_cons (wpAny_bindName (fK I3 hN hj (.inl hy) rw' (λ s2 I4=>?_) (.inr hy))));apply assignInOrder_cons (wpAny_bindName (fK I4 hN hi (.inl hx) rv (λ s3 I5=>assignInOrder_nil (A3 ?_)) (.inr hx)));rw[List.set_comm _ _ (Ne.symm hij)]at I5;exact%[_,H1,I5|q1]
def Mr(i:Nat)(te:TE)(ti:TIp):TS:=λ D σ H=>∃x,σ[i]?=some (some x)/\te σ H λ y H1=>ti x y H1 λ z H2=>D.nx (σ.set i (some z)) H2
theorem wF{i:Nat}{x:Str}{e:Expr}{te:TE}{op:Operator}{ti:TIp}{pos':Pos}(hN:X.N.Nodup)(hi:X.N[i]?=some x)(hx:Loc X.env.scope x)(he:PE X e te)(ho:PIp X op ti)(hf:X.fn x=true\/X.env.scope.names.lookup x=some .local:=by first | exact .inl rfl | exact .inr rfl | assumption) :
  PS X (.AugAssign (.Name x pos') op e pos) (Mr i te ti):=by
 intro QV s σ H D I h;obtain⟨v,e1,h⟩:=h;obtain⟨m,hn,hl⟩:=I.loc;have vis:Vis X.env.scope x:=by rcases hx with k | k;exact .inl k;exact .inr (.inl k)
 obtain⟨u,r,l⟩:=hl i x v hi e1 vis;apply wpAny_AugAssign_Name ?_;have go:wpAny (model X.prog X.w) X.A (eval e X.env) (λ w s₂=>wpAny (model X.prog X.w) X.A (inplaceOp op u w) (λ r s₃=>wpAny (model X.prog X.w) X.A (storeName X.env x r) (λ _=>SP X QV D .next) X.xe s₃) X.xe s₂) X.xe s:=by apply thn (he QV s σ H _ I h) ?_;rintro w s1 ⟨y,H1,I1,r1,q1⟩;apply thn (ho QV s1 σ H1 v y u w _ I1 r r1 q1) ?_;rintro z s2 ⟨zv,H2,I2,r2,q2⟩;exact fK I2 hN hi hx r2 (λ s3 I3=>%[_,H2,I3|q2]) hf
 rcases l with⟨hk,hm⟩ | ⟨hk,c,hc,hcell⟩
 ·exact wpAny_loadName_local I.ok.kind hk hn hm go
 ·rcases hk with hk | hk
  ·exact wpAny_loadName_cell I.ok.kind hk hc hcell go
  ·rcases hx with k | k
   ·have:X.env.scope.names.lookup x=some .free:=hk;rw[k]at this;cases this
   ·have:X.env.scope.names.lookup x=some .free:=hk;rw[k]at this;cases this
def ipI(f:Int->Int->Int):TIp:=λ x y H Q=>∃i j,x=.int i/\y=.int j/\Q (.int (f i j)) H
theorem Bt:PIp X .Add (ipI λ i j=>i+j):=by intro QV s σ H x y v u Q I r1 r2 h;obtain⟨i,j,e1,e2,q⟩:=h;subst e1;subst e2;obtain⟨t,rfl⟩:=r1;obtain⟨t',rfl⟩:=r2;exact iadd_int %[.int _,H,I.tok _,%[_|rfl]|q]
theorem Bu:PIp X .Sub (ipI λ i j=>i - j):=by intro QV s σ H x y v u Q I r1 r2 h;obtain⟨i,j,e1,e2,q⟩:=h;subst e1;subst e2;obtain⟨t,rfl⟩:=r1;obtain⟨t',rfl⟩:=r2;exact isub_int %[.int _,H,I.tok _,%[_|rfl]|q]
def wG(c:TT)(tb:TS):TS:=λ D σ H=>∃W:Nat->St->Hp->Prop,(∃m,W m σ H)/\∀m σ H,W m σ H ->
 c σ H λ b H1=>if b=true then∃N:St->Hp->Prop,(∀σ' H',N σ' H'->∃m',m' < m/\W m' σ' H')/\tb { D with nx:=N,ct:=N,bk:=D.nx } σ H1 else D.nx σ H1
theorem nS{c:Expr}{body:QT Stmt}{tc:TT}{tb:TS}(hp:PassesOwn (model X.prog X.w) X.A X.env X.xe)(hc:PT X c tc)(hb:PSs X body tb):PS X (.While c body [] pos) (wG tc tb):=by
 intro QV s σ H D I h;obtain⟨W,⟨m0,w0⟩,turn⟩:=h;apply wpAny_While (codeAny_whileLoop (λ n s'=>∃σ' H',Inv X QV σ' H' s'/\W n σ' H') ?_ m0 %[σ,H,I|w0]);rintro n s1 ⟨σ1,H1,I1,w1⟩;apply RH hp (thn (hc QV s1 σ1 H1 _ I1 (turn n σ1 H1 w1)) ?_);rintro b s2 ⟨H2,I2,q2⟩;cases b with
 | true=>
  obtain⟨N,hN,q2⟩:=q2;rw[Qa rfl];apply RH hp (thn (hb QV s2 σ1 H2 _ I2 q2) λ f s3 q3=>?_);cases f with
  | next=>
   obtain⟨σ3,H3,I3,n3⟩:=q3;obtain⟨m',hm,w3⟩:=hN σ3 H3 n3;exact%[m',hm,σ3,H3,I3|w3]
  | cont=>
   obtain⟨σ3,H3,I3,n3⟩:=q3;obtain⟨m',hm,w3⟩:=hN σ3 H3 n3;exact%[m',hm,σ3,H3,I3|w3]
  | brk=>exact q3
  | ret v=>exact q3
 | false=>
  rw[QZ B3];exact wpAny_execs_nil %[σ1,H2,I2|q2]
end
structure It where
 go:Nat->Hp->Prop
 yld:Nat->Hp->V->Hp->Prop
 stop:Nat->Hp->Prop
def FpOk(X:Cx)(QV:SY)(H:Hp)(b:QP):Prop :=
 H b=none/\b≠X.env.locals/\b∉X.fs/\(b∈X.ex\/X.s₀.heap.objs.size<=b)/\(∀x c,X.env.cells.lookup x=some c->c≠b)/\∀p∈X.pn ++ QV,p.1≠b
theorem Inv.fpOk{X:Cx}{QV:SY}{σ:St}{H H':Hp}{s:G0}{b:QP}(I:Inv X QV σ H s)(hb:s.heap.objs.size<=b)(hn:H' b=none):FpOk X QV H' b:=by
 apply%[hn,O1 (C3 I.lt hb),I.nofs hb,.inr (C7 I.sz hb),λ x c e z=>?_|λ p hp z=>?_]
 ·obtain⟨v,q⟩:=I.cell x c e;exact absurd (C3 q.lt (by rw[z];exact hb)) (E4 _)
 ·exact absurd (C3 (B0 (I.pin p hp).1) (by rw[z];exact hb)) (E4 _)
structure Turn(P:Program)(w:World)(K:C6)(tg:Expr)(J:It)(fp:QT QP)(it:QP)(tn:Nat->Heap->Prop):Prop where
 mem:it∈fp
 obj:∀i h,tn i h->∀b∈fp,∃o,h.get? b=some o/\∀v,o.data≠.cell v
 keep:∀i h h',tn i h->(∀b∈fp,∀o,h.get? b=some o->h'.get? b=some o)->tn i h'
 item:∀(X:Cx),X.prog=P->X.w=w->X.K=K->X.calm=true->∀(i:Nat)(QV:SY)(s:G0)(σ:St)(H:Hp)(E:G4->G0->Prop),Inv X QV σ H s->(∀b∈fp,FpOk X QV H b)->tn i s.heap->J.go i H ->
  wpAny (model P w) X.A (pyNext (.ref it)) (λ r s1=>∃u,r=some u /\
   wpAny (model P w) X.A (letOwnedTupleGo tg (.ref it) u) (λ _ s2=>∃x H',Inv X QV σ H' s2/\RelV x u/\J.yld i H x H'/\tn (i+1) s2.heap/\∀b∈fp,H' b=none) E s1) E s
 done:∀(X:Cx),X.prog=P->X.w=w->X.K=K->X.calm=true->∀(i:Nat)(QV:SY)(s:G0)(σ:St)(H:Hp)(E:G4->G0->Prop),Inv X QV σ H s->(∀b∈fp,FpOk X QV H b)->tn i s.heap->J.stop i H ->
  wpAny (model P w) X.A (pyNext (.ref it)) (λ r s1=>r=none/\Inv X QV σ H s1) E s
 self:∀(A:Around)(i:Nat)(s:G0)(Q E:G4->G0->Prop),tn i s.heap->Q (.ref it) s->wpAny (model P w) A (pyIter (.ref it)) Q E s
abbrev TI:=St->Hp->(It->Hp->Prop)->Prop
def PIE(X:Cx)(QV:SY)(σ:St)(tg:Expr)(R:It->Hp->Prop)(itv:G4)(s2:G0):Prop :=
 ∃(it:QP)(fp:QT QP)(tn:Nat->Heap->Prop)(J:It)(H':Hp),itv=.ref it/\Inv X QV σ H' s2/\Turn X.prog X.w X.K tg J fp it tn/\tn 0 s2.heap/\(∀b∈fp,FpOk X QV H' b)/\R J H'
def PI(X:Cx)(tg iter:Expr)(wi:TI):Prop :=
 ∀(QV:SY)(s:G0)(σ:St)(H:Hp)(R:It->Hp->Prop),Inv X QV σ H s->wi σ H R ->
  wpAny (model X.prog X.w) X.A (eval iter X.env) (λ v s1=>wpAny (model X.prog X.w) X.A (pyIter v) (PIE X QV σ tg R) X.xe s1) X.xe s
theorem rn{M:Model}{A:Around}{E:G4->G0->Prop}{s:G0}{tg:Expr}{it:QP}{u:G4}{o:Obj}{n:String}{vs:QS G4}{Q:Unit->G0->Prop}(ho:s.heap.get? it=some o)(hc:o.cls=.type n)(hd:o.data=.fields vs)
    (hn:RO.contains n=false) (hQ:Q () s):wpAny M A (letOwnedTupleGo tg (.ref it) u) Q E s:=by
  unfold letOwnedTupleGo;cases tg <;> first
    | exact A3 hQ
    | (cases u <;> first
        | exact A3 hQ
        | (apply A0 (wpAny_load ho ?_)
           rw[hc,hd];show wpAny M A (if (RO.contains n && vs[0]? == some (rawInt _))=true then _ else _) Q E s;rw[QZ (by intro h;rw[hn,Bool.false_and]at h;cases h)];exact A3 hQ))
def Itl(K:C6)(a:QP):It :=
 %[λ i H=>∃xs x,SqL K H a xs/\xs[i]?=some x,λ i H x H'=>H'=H/\∀xs,SqL K H a xs->xs[i]?=some x|λ i H=>∃xs,SqL K H a xs/\xs.length<=i]
def Itt(K:C6)(a:QP):It :=
 %[λ i H=>∃xs x,SqT K H a xs/\xs[i]?=some x,λ i H x H'=>H'=H/\∀xs,SqT K H a xs->xs[i]?=some x|λ i H=>∃xs,SqT K H a xs/\xs.length<=i]
def Itr(lo:Int)(n:Nat):It:=%[λ i _=>i < n,λ i H x H'=>H'=H/\x=.int (lo+i)|λ i _=>n<=i]
theorem tG{P:G1}{w:G3}{K:C6}{tg:Expr}(a it:QP):Turn P w K tg (Itl K a) [it] it (λ i h=>h.IsListIter it a i) where
 mem:=by simp
 obj:=λ i h st b hb=>by
  have e:b=it:=by simpa using hb
  subst e;obtain⟨o,e,c,d⟩:=st;exact%[o,e|λ v z=>by rw[d]at z;cases z]
 keep:=λ i h h' st k=>st.at λ o e=>k it (by simp) o e
 item:=by intro X hP hw hK hc i QV s σ H E I hf st hg;subst hP hw hK;obtain⟨xs,x,hq,hx⟩:=hg;obtain⟨its,rv,p,hz⟩:=I.list hq;obtain⟨u,hu,ru⟩:=rv.get hx;obtain⟨f0,f1,f2,f3,f4,f5⟩:=hf it (by simp);apply wpAny_pyNext_list_item st p.isList (x:=u) (by simpa using hu) λ h' st' sb=>?_;have I1:Inv X QV σ H { s with heap:=h' }:=I.turned (t':=s.toks) (λ b o hb e=>(sb.2 b hb).trans e) f0 f1 f3 f4 f5;obtain⟨o,e,c,d⟩:=id st';exact%[u,O|rn (s:={ s with heap:=h' }) e c d ∅ %[x,H,I1,ru,%[O|λ ys hy=>by rw[I.list_inj hy hq];exact hx],st'|λ b hb=>(hf b hb).1]]
 done:=by intro X hP hw hK hc i QV s σ H E I hf st hg;subst hP hw hK;obtain⟨xs,hq,hx⟩:=hg;obtain⟨its,rv,p,hz⟩:=I.list hq;obtain⟨f0,f1,f2,f3,f4,f5⟩:=hf it (by simp);have hl:=rv.length;exact wpAny_pyNext_list_end (I.ok.hd hc) st p.isList (by simp;lia) λ h' eb=>%[O|I.turned (t':=s.toks) (λ b o hb e=>eb b o hb e) f0 f1 f3 f4 f5]
 self:=λ _ _ _ _ _ st h=>wpAny_pyIter_listiter st h
theorem qc{P:G1}{w:G3}{K:C6}{tg:Expr}(a it:QP):Turn P w K tg (Itt K a) [it] it (λ i h=>h.IsTupleIter it a i) where
 mem:=by simp
 obj:=λ i h st b hb=>by
  have e:b=it:=by simpa using hb
  subst e;obtain⟨o,e,c,d⟩:=st;exact%[o,e|λ v z=>by rw[d]at z;cases z]
 keep:=λ i h h' st k=>st.at λ o e=>k it (by simp) o e
 item:=by intro X hP hw hK hc i QV s σ H E I hf st hg;subst hP hw hK;obtain⟨xs,x,hq,hx⟩:=hg;obtain⟨its,rv,p,hz⟩:=I.tuple hq;obtain⟨u,hu,ru⟩:=rv.get hx;obtain⟨f0,f1,f2,f3,f4,f5⟩:=hf it (by simp);apply wpAny_pyNext_tuple_item st (show s.heap.IsTuple a its.toArray from p) (x:=u) (by simpa using hu) λ h' st' sb=>?_;have I1:Inv X QV σ H { s with heap:=h' }:=I.turned (t':=s.toks) (λ b o hb e=>(sb.2 b hb).trans e) f0 f1 f3 f4 f5;obtain⟨o,e,c,d⟩:=id st';exact%[u,O|rn (s:={ s with heap:=h' }) e c d ∅ %[x,H,I1,ru,%[O|λ ys hy=>by rw[I.tuple_inj hy hq];exact hx],st'|λ b hb=>(hf b hb).1]]
 done:=by intro X hP hw hK hc i QV s σ H E I hf st hg;subst hP hw hK;obtain⟨xs,hq,hx⟩:=hg;obtain⟨its,rv,p,hz⟩:=I.tuple hq;obtain⟨f0,f1,f2,f3,f4,f5⟩:=hf it (by simp);have hl:=rv.length;exact wpAny_pyNext_tuple_end (I.ok.hd hc) st (show s.heap.IsTuple a its.toArray from p) (by simp;lia) λ h' eb=>%[O|I.turned (t':=s.toks) (λ b o hb e=>eb b o hb e) f0 f1 f3 f4 f5]
 self:=λ _ _ _ _ _ st h=>wpAny_pyIter_tupleiter st h
theorem jR{P:G1}{w:G3}{K:C6}{tg:Expr}(it:QP)(lo:Int)(n:Nat):Turn P w K tg (Itr lo n) [it] it (λ i h=>IsRangeIter h it (lo+(i:Nat) * 1) ((n:Int) - (i:Nat)) 1) where
 mem:=by simp
 obj:=λ i h st b hb=>by
  have e:b=it:=by simpa using hb
  subst e;exact⟨_,st,λ v z=>by
   have z':Data.fields _=Data.cell v:=z;cases z'⟩
 keep:=λ i h h' st k=>k it (by simp) _ st
 item:=by intro X hP hw hK hc i QV s σ H E I hf st hg;subst hP hw hK;obtain⟨f0,f1,f2,f3,f4,f5⟩:=hf it (by simp);have W:=Walks.range (prog:=X.prog) (w:=X.w) (I.ok.hd hc) it lo 1 n;apply W.item i s _ _ hg st λ v h' tk hv st' kk=>?_;obtain⟨t,rfl⟩:=hv;have I1:Inv X QV σ H { s with heap:=h',toks:=tk }:=I.turned (λ b o hb e=>kk b o (by simpa using hb) e) f0 f1 f3 f4 f5;apply%[_,O|rn (s:={ s with heap:=h',toks:=tk }) (n := "range_iterator") st' rfl rfl ∅ %[.int (lo+i),H,I1,%[t|?_],%[O|O],st'|λ b hb=>(hf b hb).1]];rw[Int.mul_one]
 done:=by intro X hP hw hK hc i QV s σ H E I hf st hg;subst hP hw hK;obtain⟨f0,f1,f2,f3,f4,f5⟩:=hf it (by simp);exact wpAny_pyNext_range_end (I.ok.hd hc) st (by have:n<=i:=hg;lia) λ h' eb=>%[O|I.turned (t':=s.toks) (λ b o hb e=>eb b o hb e) f0 f1 f3 f4 f5]
 self:=λ _ _ _ _ _ st h=>wpAny_pyIter_rangeiter st h
section
variable{X:Cx}{tg:Expr}
inductive iListA(K:C6)(R:It->Hp->Prop)(x:V)(H1:Hp):Prop
|mk(a:QP)(_:x=.ref a)(_:(∃xs,SqL K H1 a xs))(_:R (Itl K a) H1)
def AU(K:C6)(tl:TE):TI:=λ σ H R=>tl σ H λ x H1=>iListA K R x H1
inductive iTupA(K:C6)(R:It->Hp->Prop)(x:V)(H1:Hp):Prop
|mk(a:QP)(_:x=.ref a)(_:(∃xs,SqT K H1 a xs))(_:R (Itt K a) H1)
def Dg(K:C6)(tl:TE):TI:=λ σ H R=>tl σ H λ x H1=>iTupA K R x H1
theorem bC{l:Expr}{tl:TE}(hl:PE X l tl):PI X tg l (AU X.K tl):=by
 intro QV s σ H R I h;apply thn (hl QV s σ H _ I h) ?_;rintro v s1 ⟨x,H1,I1,r1,q1⟩;obtain⟨a,e,⟨xs,hq⟩,q⟩:=q1;subst e;cases r1;obtain⟨its,rv,p,hz⟩:=I1.list hq;apply wpAny_pyIter_list p.isList ?_;apply%[s1.heap.objs.size,[s1.heap.objs.size],_,_,H1,O,I1.kept (t':=s1.toks) λ b o e=>A8 _ e,tG a _,%[_,A9 _ rfl,O|O],λ b hb=>?_|q];have e:b=s1.heap.objs.size:=by simpa using hb
 subst e;exact I1.fpOk (B4 _) (I1.hok.fresh (B4 _))
theorem jS{l:Expr}{tl:TE}(hl:PE X l tl):PI X tg l (Dg X.K tl):=by
 intro QV s σ H R I h;apply thn (hl QV s σ H _ I h) ?_;rintro v s1 ⟨x,H1,I1,r1,q1⟩;obtain⟨a,e,⟨xs,hq⟩,q⟩:=q1;subst e;cases r1;obtain⟨its,rv,p,hz⟩:=I1.tuple hq;apply RD (show s1.heap.IsTuple a its.toArray from p) ?_;apply%[s1.heap.objs.size,[s1.heap.objs.size],_,_,H1,O,I1.kept (t':=s1.toks) λ b o e=>A8 _ e,qc a _,%[_,A9 _ rfl,O|O],λ b hb=>?_|q];have e:b=s1.heap.objs.size:=by simpa using hb
 subst e;exact I1.fpOk (B4 _) (I1.hok.fresh (B4 _))
theorem jT{QV:SY}{σ:St}{H:Hp}{s:G0}{R:It->Hp->Prop}{E:G4->G0->Prop}{lo hi:Int}{t u v:Tok}{tk:Nat}(I:Inv X QV σ H s)(h1:-(2 ^ 62)<=lo)(h2:lo < 2 ^ 62)(h3:-(2 ^ 62)<=hi)(h4:hi < 2 ^ 62)
  (q:R (Itr lo (hi - lo).toNat) H):wpAny (model X.prog X.w) X.A (pyIter (.ref s.heap.objs.size)) (PIE X QV σ tg R) E { s with heap:=s.heap.push { cls:=.type "range",data:=.fields #[.int lo t,.int hi u,.int 1 v] },toks:=tk }:=by
 apply wpAny_pyIter_range (IsRange.new ..) (small_one h1 h2 h3 h4) ?_;have I1:Inv X QV σ H { s with heap:=s.heap.push { cls:=.type "range",data:=.fields #[.int lo t,.int hi u,.int 1 v] },toks:=tk }:=I.kept λ b o e=>A8 _ e;apply⟨(s.heap.push { cls:=.type "range",data:=.fields #[.int lo t,.int hi u,.int 1 v] }).objs.size,[(s.heap.push { cls:=.type "range",data:=.fields #[.int lo t,.int hi u,.int 1 v] }).objs.size],_,_,H,O,
  I1.kept (t':=tk) λ b o e=>A8 _ e,jR _ lo (hi - lo).toNat,?_,λ b hb=>?_,q⟩
 ·have e1:lo+((0:Nat):Int) * 1=lo:=by simp
  have e2:(((hi - lo).toNat:Nat):Int) - ((0:Nat):Int)=Builtin.Range.rangeSize lo hi 1:=by rw[rangeSize_one];split <;> lia
  show IsRangeIter _ _ (lo+((0:Nat):Int) * 1) ((((hi - lo).toNat:Nat):Int) - ((0:Nat):Int)) 1;rw[e1,e2];exact A9 _ rfl
 ·have e:b=(s.heap.push { cls:=.type "range",data:=.fields #[.int lo t,.int hi u,.int 1 v] }).objs.size:=by simpa using hb
  subst e;exact I1.fpOk (B4 _) (I1.hok.fresh (B4 _))
def Dh(ta:TA):TI:=λ σ H R=>ta σ H λ vs H1=>∃j:Int,vs=[.int j]/\-(2 ^ 62)<=j/\j < 2 ^ 62/\R (Itr 0 j.toNat) H1
def Di(ta:TA):TI:=λ σ H R=>ta σ H λ vs H1=>∃i j:Int,vs=[.int i,.int j]/\(-(2 ^ 62)<=i/\i < 2 ^ 62/\-(2 ^ 62)<=j/\j < 2 ^ 62)/\R (Itr i (j - i).toNat) H1
theorem dv{a:Expr}{ta:TA}{p pos:Pos}(hg:Gl X "range")(hm:X.mg "range" = none)(ha:PA X [a] ta)(hs:starEach [a] X.env=[(false,eval a X.env)]:=by rfl):PI X tg (.Call (.Name "range" p) [a] [] pos) (Dh ta):=by
 intro QV s σ H R I h;apply Call_ (fM I hg hm boot_range (Qp (thn (ha pos QV s σ H _ I h) ?_) hs rfl));rintro us s1 ⟨vs,H1,I1,r1,q1⟩;obtain⟨j,e,q1,q2,q⟩:=q1;subst e;cases r1 with
 | cons r rr=>
  cases rr;obtain⟨t,rfl⟩:=r;exact call_range_1 (jT I1 ⋯ ⋯ q1 q2 (by simpa using q))
theorem gp{a b:Expr}{ta:TA}{p pos:Pos}(hg:Gl X "range")(hm:X.mg "range" = none)(ha:PA X [a,b] ta)(hs:starEach [a,b] X.env=[(false,eval a X.env),(false,eval b X.env)]:=by rfl)(hs2:starEach [b] X.env=[(false,eval b X.env)]:=by rfl) :
  PI X tg (.Call (.Name "range" p) [a,b] [] pos) (Di ta):=by
 intro QV s σ H R I h;apply Call_ (fM I hg hm boot_range (Qp (thn (ha pos QV s σ H _ I h) ?_) (by rw[hs,hs2]) (by rw[hs2];rfl)));rintro us s1 ⟨vs,H1,I1,r1,q1⟩;obtain⟨i,j,e,⟨q1,q2,q3,q4⟩,q⟩:=q1;subst e;cases r1 with
 | cons r rr=>
  cases rr with
  | cons r' rr=>
   cases rr;obtain⟨t,rfl⟩:=r;obtain⟨t',rfl⟩:=r';exact call_range_2 (jT I1 q1 q2 q3 q4 q)
def Dj(wi:TI)(g:TG)(tb:TS):TS:=λ D σ H=>wi σ H λ J H1=>∃W:Nat->Nat->St->Hp->Prop,(∃m,W 0 m σ H1)/\∀i m σ H,W i m σ H ->
 (J.stop i H/\D.nx σ H)\/(J.go i H/\∃N:St->Hp->Prop,(∀σ' H',N σ' H'->∃m',m' < m/\W (i+1) m' σ' H')/\∀x H',J.yld i H x H'->g x σ H' λ σ2 H2=>tb { D with nx:=N,ct:=N,bk:=D.nx } σ2 H2)
def gN(fp:QT QP)(h:Heap):SY:=fp.filterMap λ b=>(h.get? b).map λ o=>(b,o)
theorem gO{fp:QT QP}{h:Heap}{b:QP}{o:Obj}(hb:b∈fp)(e:h.get? b=some o):(b,o)∈gN fp h:=List.mem_filterMap.mpr %[b,hb|by rw[e];rfl]
theorem lG{fp:QT QP}{h:Heap}{p:QP×Obj}(hp:p∈gN fp h):p.1∈fp/\h.get? p.1=some p.2:=by
 obtain⟨b,hb,e⟩:=List.mem_filterMap.mp hp;cases q:h.get? b with
 | none=>rw[q]at e;cases e
 | some o=>
  rw[q]at e;have e':(b,o)=p:=C0 e;subst e';exact%[hb|q]
theorem Inv.pinned{QV:SY}{σ:St}{H:Hp}{s:G0}{fp:QT QP}(I:Inv X QV σ H s)(hf:∀b∈fp,FpOk X QV H b)(ho:∀b∈fp,∃o,s.heap.get? b=some o/\∀v,o.data≠.cell v):Inv X (QV ++ gN fp s.heap) σ H s :=
 I.pins_of λ p hp=>(C4.mp hp).elim (λ z=>I.pin p (A6 _ z)) λ z=>by obtain⟨hb,e⟩:=lG z;obtain⟨f0,f1,f2,_⟩:=hf p.1 hb;obtain⟨o,e',d⟩:=ho p.1 hb;rw[e]at e';cases e';exact%[e,f0,f1,f2|d]
theorem Inv.unpinned{QV pl:SY}{σ:St}{H:Hp}{s:G0}(I:Inv X (QV ++ pl) σ H s):Inv X QV σ H s:=I.pins_of λ p hp=>I.pin p (A6 _ (B8 _ hp))
theorem bE{iter:Expr}{body:QT Stmt}{wi:TI}{g:TG}{tb:TS}{pos:Pos}(hp:PassesOwn (model X.prog X.w) X.A X.env X.xe)(hc:X.calm=true)(hi:PI X tg iter wi)(hg:PG X tg g)(hb:PSs X body tb)
  (hs:∀x,foldedSetIterable iter X.env x=pure x:=by intro _;rfl):PS X (.For tg iter body [] pos) (Dj wi g tb):=by
 intro QV s σ H D I h;apply wpAny_For (thn (hi QV s σ H _ I h) λ v s1 h1=>thn h1 λ itv s2 h2=>?_) hs;obtain⟨it,fp,tn,J,H2,e,I2,T,st2,f2,W,⟨m0,w0⟩,turn⟩:=h2;subst e;have stat:∀{H':Hp},(∀b∈fp,H' b=none)->∀b∈fp,FpOk X QV H' b:=λ hn b hb=>%[hn b hb|(f2 b hb).2]
 apply codeAny_forLoop_any (λ n s'=>∃i σ' H',Inv X QV σ' H' s'/\tn i s'.heap/\(∀b∈fp,H' b=none)/\W i n σ' H') ?_ m0 %[0,σ,H2,I2,st2,λ b hb=>(f2 b hb).1|w0];rintro n s3 ⟨i,σ3,H3,I3,st3,fr3,w3⟩;rcases turn i n σ3 H3 w3 with⟨stop,qn⟩ | ⟨go,N,hN,step⟩
 ·apply RH hp (thn (T.done X rfl rfl rfl hc i QV s3 σ3 H3 X.xe I3 (stat fr3) st3 stop) ?_);rintro r s4 ⟨hr,I4⟩;subst hr;exact wpAny_execs_nil %[σ3,H3,I4|qn]
 ·apply RH hp (thn (T.item X rfl rfl rfl hc i QV s3 σ3 H3 X.xe I3 (stat fr3) st3 go) ?_);rintro r s4 ⟨u,hr,h4⟩;subst hr;apply RH hp (thn h4 ?_);rintro _ s5 ⟨x,H5,I5,r5,y5,st5,fr5⟩;have I5':=I5.pinned (stat fr5) (T.obj _ _ st5);apply RH hp (thn (hg _ s5 σ3 H5 x u _ I5' r5 (step x H5 y5)) ?_);rintro _ s6 ⟨σ6,H6,I6,q6⟩;apply RH hp (thn (hb _ s6 σ6 H6 _ I6 q6) λ f s7 q7=>?_);have again:∀{σ7:St}{H7:Hp},Inv X (QV ++ gN fp s5.heap) σ7 H7 s7->N σ7 H7->∃m,m < n/\∃i σ' H',Inv X QV σ' H' s7/\tn i s7.heap/\(∀b∈fp,H' b=none)/\W i m σ' H':=λ {σ7 H7} I7 n7=>by obtain⟨m',hm,w7⟩:=hN σ7 H7 n7;apply%[m',hm,i+1,σ7,H7,I7.unpinned,T.keep _ _ _ st5 λ b hb o e=>(I7.pin (b,o) (A6 _ (A6 _ (gO hb e)))).1,λ b hb=>?_|w7];obtain⟨o,e,d⟩:=T.obj _ _ st5 b hb;exact(I7.pin (b,o) (A6 _ (A6 _ (gO hb e)))).2.1
  cases f with
  | next=>obtain⟨σ7,H7,I7,n7⟩:=q7;exact again I7 n7
  | cont=>obtain⟨σ7,H7,I7,n7⟩:=q7;exact again I7 n7
  | brk=>obtain⟨σ7,H7,I7,q7⟩:=q7;exact%[σ7,H7,I7.unpinned|q7]
  | ret v=>obtain⟨x7,σ7,H7,I7,r7,q7⟩:=q7;exact%[x7,σ7,H7,I7.unpinned,r7|q7]
end
theorem cU{K:C6}{a:QP}{xs:QT V}{g:TG}{tb:TS}{D:Ends}{σ:St}{H:Hp}(Pv:Nat->St->Hp->Prop)(h0:Pv 0 σ H)(hl:∀i σ H,i<=xs.length->Pv i σ H->SqL K H a xs)
  (hs:∀i x σ H,xs[i]?=some x->Pv i σ H->g x σ H λ σ2 H2=>tb { D with nx:=Pv (i+1),ct:=Pv (i+1),bk:=D.nx } σ2 H2) (hd:∀σ H,Pv xs.length σ H->D.nx σ H) :
  ∃W:Nat->Nat->St->Hp->Prop,(∃m,W 0 m σ H)/\∀i m σ H,W i m σ H ->
   ((Itl K a).stop i H/\D.nx σ H)\/((Itl K a).go i H/\∃N:St->Hp->Prop,(∀σ' H',N σ' H'->∃m',m' < m/\W (i+1) m' σ' H')/\∀x H',(Itl K a).yld i H x H'->g x σ H' λ σ2 H2=>tb { D with nx:=N,ct:=N,bk:=D.nx } σ2 H2):=by
 apply%[λ i m σ H=>m=xs.length - i/\i<=xs.length/\Pv i σ H,%[xs.length,by simp,F2 _|h0]|?_];rintro i m σ H ⟨rfl,hi,p⟩;have q:=hl i σ H hi p
 by_cases hlt:i < xs.length
 ·apply .inr %[%[xs,xs[i],q|by simp[hlt]],Pv (i+1),λ σ' H' p'=>%[xs.length - (i+1),⋯,O,hlt|p']|λ x H' y=>?_];obtain⟨e,y⟩:=y;subst e;exact hs i x σ _ (y xs q) p
 ·have e:i=xs.length:=⋯
  subst e;exact .inl %[%[xs,q|B4 _]|hd σ H p]
theorem rp{K:C6}{a:QP}{xs:QT V}{g:TG}{tb:TS}{D:Ends}{σ:St}{H:Hp}(Pv:Nat->St->Hp->Prop)(h0:Pv 0 σ H)(hl:∀i σ H,i<=xs.length->Pv i σ H->SqT K H a xs)
  (hs:∀i x σ H,xs[i]?=some x->Pv i σ H->g x σ H λ σ2 H2=>tb { D with nx:=Pv (i+1),ct:=Pv (i+1),bk:=D.nx } σ2 H2) (hd:∀σ H,Pv xs.length σ H->D.nx σ H) :
  ∃W:Nat->Nat->St->Hp->Prop,(∃m,W 0 m σ H)/\∀i m σ H,W i m σ H ->
   ((Itt K a).stop i H/\D.nx σ H)\/((Itt K a).go i H/\∃N:St->Hp->Prop,(∀σ' H',N σ' H'->∃m',m' < m/\W (i+1) m' σ' H')/\∀x H',(Itt K a).yld i H x H'->g x σ H' λ σ2 H2=>tb { D with nx:=N,ct:=N,bk:=D.nx } σ2 H2):=by
 apply%[λ i m σ H=>m=xs.length - i/\i<=xs.length/\Pv i σ H,%[xs.length,by simp,F2 _|h0]|?_];rintro i m σ H ⟨rfl,hi,p⟩;have q:=hl i σ H hi p
 by_cases hlt:i < xs.length
 ·apply .inr %[%[xs,xs[i],q|by simp[hlt]],Pv (i+1),λ σ' H' p'=>%[xs.length - (i+1),⋯,O,hlt|p']|λ x H' y=>?_];obtain⟨e,y⟩:=y;subst e;exact hs i x σ _ (y xs q) p
 ·have e:i=xs.length:=⋯
  subst e;exact .inl %[%[xs,q|B4 _]|hd σ H p]
theorem eD{lo:Int}{n:Nat}{g:TG}{tb:TS}{D:Ends}{σ:St}{H:Hp}(Pv:Nat->St->Hp->Prop)(h0:Pv 0 σ H)
  (hs:∀i σ H,i < n->Pv i σ H->g (.int (lo+i)) σ H λ σ2 H2=>tb { D with nx:=Pv (i+1),ct:=Pv (i+1),bk:=D.nx } σ2 H2) (hd:∀σ H,Pv n σ H->D.nx σ H) :
  ∃W:Nat->Nat->St->Hp->Prop,(∃m,W 0 m σ H)/\∀i m σ H,W i m σ H ->
   ((Itr lo n).stop i H/\D.nx σ H)\/((Itr lo n).go i H/\∃N:St->Hp->Prop,(∀σ' H',N σ' H'->∃m',m' < m/\W (i+1) m' σ' H')/\∀x H',(Itr lo n).yld i H x H'->g x σ H' λ σ2 H2=>tb { D with nx:=N,ct:=N,bk:=D.nx } σ2 H2):=by
 apply%[λ i m σ H=>m=n - i/\i<=n/\Pv i σ H,%[n,by simp,F2 _|h0]|?_];rintro i m σ H ⟨rfl,hi,p⟩
 by_cases hlt:i < n
 ·apply .inr %[hlt,Pv (i+1),λ σ' H' p'=>%[n - (i+1),⋯,O,hlt|p']|λ x H' y=>?_];obtain⟨e,y⟩:=y;subst e y;exact hs i σ _ hlt p
 ·have e:i=n:=⋯
  subst e;exact .inl %[B4 _|hd σ H p]
theorem wH{c:TT}{tb:TS}{D:Ends}{σ:St}{H:Hp}(Pv:St->Hp->Prop)(μ:St->Hp->Nat)(h0:Pv σ H)
  (hs:∀σ H,Pv σ H->c σ H λ b H1=>if b=true then tb { D with nx:=λ σ' H'=>Pv σ' H'/\μ σ' H' < μ σ H,ct:=λ σ' H'=>Pv σ' H'/\μ σ' H' < μ σ H,bk:=D.nx } σ H1 else D.nx σ H1)
  (mono:∀σ H Q Q',(∀b H1,Q b H1->Q' b H1)->c σ H Q->c σ H Q'):wG c tb D σ H:=by
 apply%[λ m σ H=>m=μ σ H/\Pv σ H,%[_,O|h0]|?_];rintro m σ H ⟨rfl,p⟩;apply mono σ H _ _ (λ b H1 q=>?_) (hs σ H p);cases b with
 | true=>exact%[_,λ σ' H' ⟨p',l⟩=>%[_,l,O|p']|q]
 | false=>exact q
abbrev R2:=V->V->Hp->VK->Prop
def OpR(X:Cx)(f:G4->G4->Sem G4)(r:R2):Prop :=
 ∀(QV:SY)(s:G0)(σ:St)(H:Hp)(x y:V)(v u:G4)(Q:VK),Inv X QV σ H s->RelV x v->RelV y u->r x y H Q ->
  wpAny (model X.prog X.w) X.A (f v u) (EP X QV σ Q) X.xe s
def cD(X:Cx)(f:G4)(r:QT V->Hp->VK->Prop):Prop :=
 ∀(QV:SY)(s:G0)(σ:St)(H:Hp)(xs:QT V)(us:QT G4)(Q:VK),Inv X QV σ H s->Vals xs us->r xs H Q ->
  wpAny (model X.prog X.w) X.A (call f us) (EP X QV σ Q) X.xe s
def tOp(r:R2)(ta tb:TE):TE:=λ σ H Q=>ta σ H λ x H1=>tb σ H1 λ y H2=>r x y H2 Q
inductive rI(C:Int->Int->Prop)(g:Int->Int->V)(x:V)(y:V)(H:Hp)(Q:VK):Prop
|mk(i j:Int)(_:x=.int i)(_:y=.int j)(_:C i j)(_:Q (g i j) H)
inductive rI0(g:Int->Int->V)(x:V)(y:V)(H:Hp)(Q:VK):Prop
|mk(i j:Int)(_:x=.int i)(_:y=.int j)(_:Q (g i j) H)
section
variable{X:Cx}{a b c:Expr}{ta tb tc:TE}{pos:Pos}
theorem Bv(ha:PE X a ta)(hb:PE X b tb){QV:SY}{s:G0}{σ:St}{H:Hp}{R:V->V->Hp->Prop}(I:Inv X QV σ H s)
  (h:ta σ H λ x H1=>tb σ H1 λ y H2=>R x y H2) {Q:G4->G0->Prop} {f:G4->G4->Sem G4}
  (hf:∀v u s2 x y H2,Inv X QV σ H2 s2->RelV x v->RelV y u->R x y H2->wpAny (model X.prog X.w) X.A (f v u) Q X.xe s2) :
  wpAny (model X.prog X.w) X.A (eval a X.env) (λ v s₁=>wpAny (model X.prog X.w) X.A (eval b X.env) (λ u s₂=>wpAny (model X.prog X.w) X.A (f v u) Q X.xe s₂) X.xe s₁) X.xe s:=by
 apply thn (ha QV s σ H _ I h) ?_;rintro v s1 ⟨x,H1,I1,r1,q1⟩;apply thn (hb QV s1 σ H1 _ I1 q1) ?_;rintro u s2 ⟨y,H2,I2,r2,q2⟩;exact hf v u s2 x y H2 I2 r1 r2 q2
theorem az{op:Operator}{r:R2}(ho:OpR X (binaryOp op) r)(ha:PE X a ta)(hb:PE X b tb):PE X (.BinOp a op b pos) (tOp r ta tb):=by intro QV s σ H Q I h;exact wpAny_BinOp (Bv ha hb I h λ v u s2 x y H2 I2 rx ry q=>ho QV s2 σ H2 x y v u Q I2 rx ry q)
theorem opI{f:G4->G4->Sem G4}{C:Int->Int->Prop}{g:Int->Int->Int}
  (rule:∀(i j:Int)(t u:Tok)(s:G0)(Q E:G4->G0->Prop),C i j->Q (.int (g i j) s.toks) { s with toks:=s.toks+1 }->wpAny (model X.prog X.w) X.A (f (.int i t) (.int j u)) Q E s) :
  OpR X f (rI C λ i j=>.int (g i j)):=by
 intro QV s σ H x y v u Q I rx ry h;obtain⟨i,j,rfl,rfl,hc,q⟩:=h;obtain⟨t,rfl⟩:=rx;obtain⟨t',rfl⟩:=ry;exact rule i j t t' s _ _ hc %[.int (g i j),H,I.tok _,%[_|rfl]|q]
theorem Dk{f:G4->G4->Sem G4}{g:Int->Int->Int}
  (rule:∀(i j:Int)(t u:Tok)(s:G0)(Q E:G4->G0->Prop),Q (.int (g i j) s.toks) { s with toks:=s.toks+1 }->wpAny (model X.prog X.w) X.A (f (.int i t) (.int j u)) Q E s) :
  OpR X f (rI0 λ i j=>.int (g i j)):=by
 intro QV s σ H x y v u Q I rx ry h;obtain⟨i,j,rfl,rfl,q⟩:=h;obtain⟨t,rfl⟩:=rx;obtain⟨t',rfl⟩:=ry;exact rule i j t t' s _ _ %[.int (g i j),H,I.tok _,%[_|rfl]|q]
theorem zB{f:G4->G4->Sem G4}{g:Int->Int->Bool}
  (rule:∀(i j:Int)(t u:Tok)(s:G0)(Q E:G4->G0->Prop),Q (.bool (g i j)) s->wpAny (model X.prog X.w) X.A (f (.int i t) (.int j u)) Q E s) :
  OpR X f (rI0 λ i j=>.bl (g i j)):=by
 intro QV s σ H x y v u Q I rx ry h;obtain⟨i,j,rfl,rfl,q⟩:=h;obtain⟨t,rfl⟩:=rx;obtain⟨t',rfl⟩:=ry;exact rule i j t t' s _ _ %[.bl (g i j),H,I,rfl|q]
def Ms(i j:Int):Prop:=0 < j/\j < 1073741824
def Mt(i j:Int):Prop:=0<=j/\j<=1000000/\i.natAbs < 2 ^ 64
def CMul(i j:Int):Prop:=(-(2 ^ 64) < i/\i < 2 ^ 64)\/(-(2 ^ 64) < j/\j < 2 ^ 64)
theorem CMul.ok{i j:Int}(h:CMul i j):IntMulOk i j:=by
 rcases h with⟨h1,h2⟩ | ⟨h1,h2⟩
 ·exact .of_left (intBits_le_64 h1 h2)
 ·exact .of_right (intBits_le_64 h1 h2)
theorem aX:OpR X (binaryOp .Add) (rI0 λ i j=>.int (i+j)):=Dk λ _ _ _ _ _ _ _ q=>add_int q
theorem bg:OpR X (binaryOp .Sub) (rI0 λ i j=>.int (i - j)):=Dk λ _ _ _ _ _ _ _ q=>sub_int q
theorem wI:OpR X (binaryOp .Mult) (rI CMul λ i j=>.int (i * j)):=opI λ _ _ _ _ _ _ _ hc q=>mul_int q hc.ok
theorem mJ:OpR X (binaryOp .Mod) (rI (λ _ j=>0 < j) λ i j=>.int (i % j)):=opI λ i j _ _ _ _ _ hc q=>by have h1:(0:Int) < j:=hc;exact mod_int' ⋯ (by rw[Int.fmod_eq_emod_of_nonneg i ⋯];exact q)
theorem qd:OpR X (binaryOp .Pow) (rI Mt λ i j=>.int (i ^ j.toNat)):=opI λ _ _ _ _ _ _ _ hc q=>pow_int_small hc.1 hc.2.1 hc.2.2 q
inductive rz_op_add_ib(x:V)(y:V)(H:Hp)(Q:VK):Prop
|mk(i k:_)(_:x=.int i)(_:y=.bl k)(_:Q (.int (i+b2i k)) H)
end
def Dl:V->V->Bool
 | .non,.non=>true | .non,.int _=>true | .int _,.non=>true | .non,.bl _=>true | .bl _,.non=>true | .non,.str _=>true | .str _,.non=>true
 | .int _,.int _=>true | .bl _,.bl _=>true | .str _,.str _=>true | .byt _,.byt _=>true
 | .int _,.str _=>true | .str _,.int _=>true | .bl _,.str _=>true | .str _,.bl _=>true
 | _,_=>false
def rEq:R2:=λ x y H Q=>Dl x y=true/\Q (.bl (decide (x=y))) H
def rNe:R2:=λ x y H Q=>Dl x y=true/\Q (.bl (!decide (x=y))) H
theorem mK{i j:Int}:decide (V.int i=V.int j)=(i == j):=by rw[PZ];simp
theorem wJ{i j:Bool}:decide (V.bl i=V.bl j)=(i == j):=by rw[PZ];simp
theorem rq{i j:Str}:decide (V.str i=V.str j)=(i == j):=by rw[PZ];simp
theorem rz{i j:QS UInt8}:decide (V.byt i=V.byt j)=(i.toList == j.toList):=by rw[PZ];cases i;cases j;simp
section
variable{X:Cx}{a b c:Expr}{ta tb tc:TE}{pos:Pos}
theorem aP{QV:SY}{σ:St}{H:Hp}{s:G0}{Q:VK}{k k':Bool}(I:Inv X QV σ H s)(q:Q (.bl k) H)(e:k=k'):EP X QV σ Q (.bool k') s:=by subst e;exact%[.bl k,H,I,O|q]
theorem dB:OpR X (compareOp .Eq) rEq:=by
 intro QV s σ H x y v u Q I rx ry h;obtain⟨hs,q⟩:=h;cases x with
 | non=>
  cases rx;cases y with
  | non=>cases ry;exact PySem.EqNone.eq_none_none (aP I q (by simp))
  | bl j=>cases ry;exact PySem.EqNone.eq_none_bool (aP I q (by simp))
  | int j=>obtain⟨t',rfl⟩:=ry;exact PySem.EqNone.eq_none_int (aP I q (by simp))
  | str j=>obtain⟨t',rfl⟩:=ry;exact PySem.EqNone.eq_none_str (aP I q (by simp))
  | _=>exact absurd (show false=true from hs) B3
 | bl i=>
  cases rx;cases y with
  | non=>cases ry;exact PySem.EqNone.eq_bool_none (aP I q (by simp))
  | bl j=>cases ry;exact eq_bool (aP I q wJ)
  | str j=>obtain⟨t',rfl⟩:=ry;exact PySem.EqMixed.eq_bool_str (aP I q (by simp))
  | _=>exact absurd (show false=true from hs) B3
 | int i=>
  obtain⟨t,rfl⟩:=rx;cases y with
  | non=>cases ry;exact PySem.EqNone.eq_int_none (aP I q (by simp))
  | int j=>obtain⟨t',rfl⟩:=ry;exact eq_int (aP I q mK)
  | str j=>obtain⟨t',rfl⟩:=ry;exact PySem.EqMixed.eq_int_str (aP I q (by simp))
  | _=>exact absurd (show false=true from hs) B3
 | str i=>
  obtain⟨t,rfl⟩:=rx;cases y with
  | non=>cases ry;exact PySem.EqNone.eq_str_none (aP I q (by simp))
  | bl j=>cases ry;exact PySem.EqMixed.eq_str_bool (aP I q (by simp))
  | int j=>obtain⟨t',rfl⟩:=ry;exact PySem.EqMixed.eq_str_int (aP I q (by simp))
  | str j=>obtain⟨t',rfl⟩:=ry;exact eq_str (aP I q rq)
  | _=>exact absurd (show false=true from hs) B3
 | byt i=>
  obtain⟨t,rfl⟩:=rx;cases y with
  | byt j=>obtain⟨t',rfl⟩:=ry;exact PySem.W.eq_bytes (aP I q rz)
  | _=>exact absurd (show false=true from hs) B3
 | _=>cases y <;> exact absurd (show false=true from hs) B3
theorem nT:OpR X (compareOp .NotEq) rNe:=by
 intro QV s σ H x y v u Q I rx ry h;obtain⟨hs,q⟩:=h;cases x with
 | non=>
  cases rx;cases y with
  | non=>cases ry;exact PySem.EqNone.ne_none_none (aP I q (by simp))
  | bl j=>cases ry;exact PySem.EqNone.ne_none_bool (aP I q (by simp))
  | int j=>obtain⟨t',rfl⟩:=ry;exact PySem.EqNone.ne_none_int (aP I q (by simp))
  | str j=>obtain⟨t',rfl⟩:=ry;exact PySem.EqNone.ne_none_str (aP I q (by simp))
  | _=>exact absurd (show false=true from hs) B3
 | bl i=>
  cases rx;cases y with
  | non=>cases ry;exact PySem.EqNone.ne_bool_none (aP I q (by simp))
  | bl j=>cases ry;exact ne_bool (aP I q (Qu not wJ))
  | str j=>obtain⟨t',rfl⟩:=ry;exact PySem.EqMixed.ne_bool_str (aP I q (by simp))
  | _=>exact absurd (show false=true from hs) B3
 | int i=>
  obtain⟨t,rfl⟩:=rx;cases y with
  | non=>cases ry;exact PySem.EqNone.ne_int_none (aP I q (by simp))
  | int j=>obtain⟨t',rfl⟩:=ry;exact ne_int (aP I q (Qu not mK))
  | str j=>obtain⟨t',rfl⟩:=ry;exact PySem.EqMixed.ne_int_str (aP I q (by simp))
  | _=>exact absurd (show false=true from hs) B3
 | str i=>
  obtain⟨t,rfl⟩:=rx;cases y with
  | non=>cases ry;exact PySem.EqNone.ne_str_none (aP I q (by simp))
  | bl j=>cases ry;exact PySem.EqMixed.ne_str_bool (aP I q (by simp))
  | int j=>obtain⟨t',rfl⟩:=ry;exact PySem.EqMixed.ne_str_int (aP I q (by simp))
  | str j=>obtain⟨t',rfl⟩:=ry;exact ne_str (aP I q (Qu not rq))
  | _=>exact absurd (show false=true from hs) B3
 | byt i=>
  obtain⟨t,rfl⟩:=rx;cases y with
  | byt j=>obtain⟨t',rfl⟩:=ry;exact PySem.W.ne_bytes (aP I q (Qu not rz))
  | _=>exact absurd (show false=true from hs) B3
 | _=>cases y <;> exact absurd (show false=true from hs) B3
theorem wK:OpR X (compareOp .Lt) (rI0 λ i j=>.bl (decide (i < j))):=zB λ _ _ _ _ _ _ _ q=>lt_int q
theorem fP:OpR X (compareOp .LtE) (rI0 λ i j=>.bl (decide (i<=j))):=zB λ _ _ _ _ _ _ _ q=>le_int q
theorem cV:OpR X (compareOp .Gt) (rI0 λ i j=>.bl (decide (j < i))):=zB λ _ _ _ _ _ _ _ q=>gt_int q
theorem AV:OpR X (compareOp .GtE) (rI0 λ i j=>.bl (decide (j<=i))):=zB λ _ _ _ _ _ _ _ q=>ge_int q
inductive rz_op_lt_str(x:V)(y:V)(H:Hp)(Q:VK):Prop
|mk(i j:_)(_:x=.str i)(_:y=.str j)(_:Q (.bl (decide (i.cps.toList < j.cps.toList))) H)
inductive rz_op_in_str(x:V)(y:V)(H:Hp)(Q:VK):Prop
|mk(i j:_)(_:x=.str i)(_:y=.str j)(_:Q (.bl (!(Builtin.Str.occurrences j i 0 j.length 1).isEmpty)) H)
theorem jU:OpR X (compareOp .Is) (λ x y H Q=>y=.non/\Q (.bl (decide (x=.non))) H):=by
 intro QV s σ H x y v u Q I rx ry h;obtain⟨rfl,q⟩:=h;cases ry;apply is_none_gen (aP I q ?_);cases x <;> first
  | (cases rx;rfl)
  | (obtain⟨t,rfl⟩:=rx;rfl)
inductive rz_op_notin_str(x:V)(y:V)(H:Hp)(Q:VK):Prop
|mk(i j:_)(_:x=.str i)(_:y=.str j)(_:Q (.bl (!(!(Builtin.Str.occurrences j i 0 j.length 1).isEmpty))) H)
def rA:HO->Bool
 | .lst _=>true
 | .ins _ _ _=>true
 | _=>false
inductive rz_op_is_ref(x:V)(y:V)(H:Hp)(Q:VK):Prop
|mk(a b oa ob:_)(_:x=.ref a)(_:y=.ref b)(_:H a=some oa)(_:rA oa=true)(_:H b=some ob)(_:rA ob=true)(_:Q (.bl (decide (a=b))) H)
inductive rz_op_isnot_ref(x:V)(y:V)(H:Hp)(Q:VK):Prop
|mk(a b oa ob:_)(_:x=.ref a)(_:y=.ref b)(_:H a=some oa)(_:rA oa=true)(_:H b=some ob)(_:rA ob=true)(_:Q (.bl (!decide (a=b))) H)
theorem aA(b:Expr){op:CmpOp}(h:op≠.In:=by decide)(h2:op≠.NotIn:=by decide):behindInMarks op b=false:=by
 have e1:(op == CmpOp.In)=false:=by cases op <;> first | rfl | exact absurd rfl h
 have e2:(op == CmpOp.NotIn)=false:=by cases op <;> first | rfl | exact absurd rfl h2
 cases b <;> simp[behindInMarks,e1,e2]
theorem bD{op:CmpOp}{r:R2}(ho:OpR X (compareOp op) r)(ha:PE X a ta)(hb:PE X b tb)(hm:behindInMarks op b=false):PE X (.Compare a [op] [b] pos) (tOp r ta tb):=by intro QV s σ H Q I h;exact wpAny_Compare1 (Bv ha hb I h λ v u s2 x y H2 I2 rx ry q=>ho QV s2 σ H2 x y v u Q I2 rx ry q) hm
def AW(t:TE):TT:=λ σ H Q=>t σ H λ x H'=>IsB x λ k=>Q k H'
theorem aF{op:CmpOp}{r:R2}(ho:OpR X (compareOp op) r)(ha:PE X a ta)(hb:PE X b tb)(hm:behindInMarks op b=false):PT X (.Compare a [op] [b] pos) (AW (tOp r ta tb)):=by
 intro QV s σ H Q I h;apply wpAny_isTrue_Compare1 (thn (ha QV s σ H _ I h) λ v s1 %[x,H1,I1,r1|q1]=>thn (hb QV s1 σ H1 _ I1 q1) λ u s2 %[y,H2,I2,r2|q2]=>
  thn (ho QV s2 σ H2 x y v u _ I2 r1 r2 q2) λ c s3 %[z,H3,I3,r3,k,e|q3]=>?_) hm
 subst e;cases r3;exact F6 %[H3,I3|q3]
def Bw(r r':R2)(ta tb tc:TE):TE:=λ σ H Q=>ta σ H λ x H1=>tb σ H1 λ y H2=>r x y H2 λ z H3=>∃k,z=.bl k /\
 (if k=true then tc σ H3 λ w' H4=>r' y w' H4 Q else Q (.bl false) H3)
theorem nU{op op':CmpOp}{r r':R2}(ho:OpR X (compareOp op) r)(ho':OpR X (compareOp op') r')(ha:PE X a ta)(hb:PE X b tb)(hc:PE X c tc)
  (hm:lastMarks [op,op'] [b,c]=false:=by with_unfolding_all rfl):PT X (.Compare a [op,op'] [b,c] pos) (AW (Bw r r' ta tb tc)):=by
 intro QV s σ H Q I h;apply isTrue_chain (thn (ha QV s σ H _ I h) λ v s1 %[x,H1,I1,r1|q1]=>test_link (thn (hb QV s1 σ H1 _ I1 q1) λ u s2 %[y,H2,I2,r2|q2]=>
  thn (ho QV s2 σ H2 x y v u _ I2 r1 r2 q2) λ d s3 %[z,H3,I3,r3,k,e|q3]=>?_)) hm
 subst e;cases r3;apply F6 ?_;cases k with
 | false=>
  obtain⟨k',e',q'⟩:=q3;cases e';exact ite_ff %[H3,I3|q']
 | true=>
  apply ite_tt (test_last (thn (hc QV s3 σ H3 _ I3 q3) ?_));rintro w' s4 ⟨z',H4,I4,r4,q4⟩;apply thn (ho' QV s4 σ H4 y z' u w' _ I4 r2 r4 q4) ?_;rintro d' s5 ⟨z2,H5,I5,r5,k2,e2,q5⟩;subst e2;cases r5;exact F6 %[H5,I5|q5]
theorem jV:(sizeLine:Nat) < 2 ^ 63:=by rw[RN];decide
inductive rz_op_add_str(x:V)(y:V)(H:Hp)(Q:VK):Prop
|mk(i j:_)(_:x=.str i)(_:y=.str j)(_:i.length+j.length<=sizeLine)(_:Q (.str (i ++ j)) H)
inductive rz_iop_add_str(x:V)(y:V)(H:Hp)(Q:VK):Prop
|mk(i j:_)(_:x=.str i)(_:y=.str j)(_:i.length+j.length<=sizeLine)(_:Q (.str (i ++ j)) H)
inductive rz_op_add_byt(x:V)(y:V)(H:Hp)(Q:VK):Prop
|mk(i j:_)(_:x=.byt i)(_:y=.byt j)(_:i.size+j.size<=16777216)(_:Q (.byt (i ++ j)) H)
theorem fC{x:V}{us:QT G4}(r:Vals [x] us):∃u,us=[u]/\RelV x u:=by
 cases r with
 | cons r1 r2=>cases r2;exact%[_,O|r1]
theorem wL{x y:V}{us:QT G4}(r:Vals [x,y] us):∃u w',us=[u,w']/\RelV x u/\RelV y w':=by
 cases r with
 | cons r1 r2=>
  cases r2 with
  | cons r3 r4=>cases r4;exact%[_,_,O,r1|r3]
inductive rz_call_abs(xs:QT V)(H:Hp)(Q:VK):Prop
|mk(i:_)(_:xs=[.int i])(_:Q (.int (if i < 0 then -i else i)) H)
theorem nV:cD X (.builtin "abs") (rz_call_abs):=by intro QV s σ H xs us Q I r h;obtain⟨i,rfl,q⟩:=h;obtain⟨u,rfl,t,rfl⟩:=fC r;exact call_abs_int λ u tk=>%[.int (if i < 0 then -i else i),H,I.tok _,%[_|O]|q]
inductive rz_call_max2(xs:QT V)(H:Hp)(Q:VK):Prop
|mk(i j:_)(_:xs=[.int i,.int j])(_:Q (.int (if j > i then j else i)) H)
theorem iS(hc:X.calm=true):cD X (.builtin "max") (rz_call_max2):=by
 intro QV s σ H xs us Q I r h;obtain⟨i,j,rfl,q⟩:=h;obtain⟨u,w',rfl,⟨t,rfl⟩,⟨t',rfl⟩⟩:=wL r;apply max_two_ints (I.ok.hd hc) λ h' tk k=>%[_,H,I.kept k,?_|q]
 by_cases hj:j > i
 ·rw[Qa hj,Qa hj];exact%[_|O]
 ·rw[QZ hj,QZ hj];exact%[_|O]
inductive rz_call_min2(xs:QT V)(H:Hp)(Q:VK):Prop
|mk(i j:_)(_:xs=[.int i,.int j])(_:Q (.int (if j < i then j else i)) H)
theorem eE(hc:X.calm=true):cD X (.builtin "min") (rz_call_min2):=by
 intro QV s σ H xs us Q I r h;obtain⟨i,j,rfl,q⟩:=h;obtain⟨u,w',rfl,⟨t,rfl⟩,⟨t',rfl⟩⟩:=wL r;apply min_two_ints (I.ok.hd hc) λ h' tk k=>%[_,H,I.kept k,?_|q]
 by_cases hj:j < i
 ·rw[Qa hj,Qa hj];exact%[_|O]
 ·rw[QZ hj,QZ hj];exact%[_|O]
theorem tH:cD X (.type "int") (λ xs H Q=>(∃i,xs=[.int i]/\Q (.int i) H)\/∃k,xs=[.bl k]/\Q (.int (if k then 1 else 0)) H):=by
 intro QV s σ H xs us Q I r h;rcases h with⟨i,rfl,q⟩ | ⟨k,rfl,q⟩
 ·obtain⟨u,rfl,t,rfl⟩:=fC r;exact call_int_int %[.int i,H,I,%[_|rfl]|q]
 ·obtain⟨u,rfl,r1⟩:=fC r;cases r1;exact call_int_bool %[.int (if k then 1 else 0),H,I.tok _,%[_|rfl]|q]
inductive rz_call_str_int(xs:QT V)(H:Hp)(Q:VK):Prop
|mk(i:_)(_:xs=[.int i])(_:i.natAbs.log2 < 1920)(_:Q (.str (toString i)) H)
inductive rz_call_ord(xs:QT V)(H:Hp)(Q:VK):Prop
|mk(x:_)(_:xs=[.str x])(_:x.length=1)(_:Q (.int (x.cps.getD 0 0:Nat)) H)
inductive rz_call_chr(xs:QT V)(H:Hp)(Q:VK):Prop
|mk(i:_)(_:xs=[.int i])(_:0<=i)(_:i<=1114111)(_:Q (.str ⟨#[i.toNat]⟩) H)
def Mu(K:C6)(x:V)(H:Hp)(n:Nat):Prop :=
 match x with
 | .str y=>y.length<=sizeLine/\n=y.length
 | .byt y=>y.size<=sizeLine/\n=y.size
 | .ref p=>(∃xs,SqL K H p xs/\n=xs.length)\/∃xs,SqT K H p xs/\n=xs.length
 | _=>False
inductive rz_call_len(K:C6)(xs:QT V)(H:Hp)(Q:VK):Prop
|mk(x n:_)(_:xs=[x])(_:Mu K x H n)(_:Q (.int n) H)
inductive rz_call_divmod(xs:QT V)(H:Hp)(Q:VK):Prop
|mk(i j:_)(_:xs=[.int i,.int j])(_:Ms i j)(_:∀p,H p=none->Q (.ref p) (upd H p (.tup [.int (i / j),.int (i % j)])))
end
structure ObjM(h:Heap)(x dx C:QP)(mA:Str->QR Value):Prop where
 obj:h.get? x=some (PySem.W.instObj C dx)
 ns:h.Ns1 dx mA
 ne:dx≠x
theorem tI{h:Heap}{dx:QP}{mA:Str->QR G4}(n:h.Ns1 dx mA):∃od,h.get? dx=some od/\∀name,PySem.W.lookIn name od=some (mA name):=by
 obtain⟨o,es,ep,ho,hd,hk,_,hm⟩:=n;apply%[o,ho|λ name=>?_];have e:=hm name;unfold nsFind findBy at e;rw[<- Array.find?_toList]at e;unfold PySem.W.lookIn;rw[hd];dsimp only
 split
 ·rename_i y q
  rw[q]at e;exact Qu some e
 ·rename_i q
  rw[q]at e;have a:es.toList.any (·.refKey)=false:=by rw[List.any_eq_false];intro y hy;obtain⟨z,t,hkey⟩:=hk y (Array.mem_toList_iff.mp hy);simp[DictEntry.refKey,hkey]
  have a':¬ es.toList.any (·.refKey)=true:=by rw[a];exact B3
  rw[QZ a'];exact Qu some e
theorem ObjM.look{h:Heap}{x dx C:QP}{mA:Str->QR G4}(I:ObjM h x dx C mA):∃od,PySem.W.InstAt h x (PySem.W.instObj C dx) C (some od)/\∀name,PySem.W.lookIn name od=some (mA name) :=
 let ⟨od,ho,hl⟩:=tI I.ns
 %[od,%[I.obj,rfl,rfl|ho]|hl]
section
variable{prog:G1}{w:G3}{A:Around}{E:G4->G0->Prop}{s:G0}{K:C6}{x dx C f:QP}{mA:Str->QR G4}{name:Str}{v:G4}
theorem zC{expr:Bool}{Q:G4->G0->Prop}(X:K.In s.heap)(I:ObjM s.heap x dx C mA)(hg:PySem.W.plainGet K C name=true)(hh:PySem.W.hasDictIn K C=true)
  (ha:PySem.W.findIn K (.ref C) name=some none) (hv:mA name=some v) (hv':PySem.W.handedIn v=true) (h:Q v { s with toks:=s.toks+1 }) :
  wpAny (model prog w) A (getAttr (.ref x) name expr) Q E s:=by
 obtain⟨od,J,hl⟩:=I.look;exact PySem.W.get_value X J (PySem.W.plainGet_of hg).1 (PySem.W.findObj_own hh ha rfl (by rw[hl,hv])) hv' h
theorem wM{pl:Sem Bool}{Q:G4×QT G4->G0->Prop}(X:K.In s.heap)(I:ObjM s.heap x dx C mA)(hg:PySem.W.plainGet K C name=true)
  (hf:PySem.W.findIn K (.ref C) name=some (↑f)) (ht:PySem.W.isFn K (.ref f)=true) (hv:mA name=none) (h:Q (.ref f,[.ref x]) s) :
  wpAny (model prog w) A (getMethod (.ref x) name pl) Q E s:=by
 obtain⟨od,J,hl⟩:=I.look;exact PySem.W.method_fn X J (PySem.W.plainGet_of hg).1 (PySem.W.plainGet_of hg).2 hf (C5.mp ht) (by show(PySem.W.lookIn name od).map (·.isSome)=some false;rw[hl,hv];rfl) h
theorem zD{ns:QT Str}{Q:Unit->G0->Prop}(X:K.In s.heap)(I:ObjM s.heap x dx C mA)
  (hs:PySem.W.findIn K (.ref C) "__setattr__" = some (some (.builtin "object.__setattr__"))) (hp:PySem.W.plainOver K C=true) (ht:PySem.W.takerIn K C name=some none) (hh:PySem.W.hasDictIn K C=true)
  (hw:PySem.Within mA ns) (hsz:ns.length<=sizeLine)
  (h:∀h',ObjM h' x dx C (λ y=>if y=name then some v else mA y)->Heap.SameBut dx s.heap h'->Q () { s with heap:=h',toks:=s.toks+2 }) :
  wpAny (model prog w) A (setAttr (.ref x) name v) Q E s:=by
 obtain⟨od,J,hl⟩:=I.look;apply PySem.W.set_plain X J hs (PySem.W.osa_open (s:={ s with toks:=s.toks+1 }) (r:=none) X J hp ht λ b=>?_);obtain⟨cd,hc,hd'⟩:=PySem.W.any_some hh;have hx:s.heap.get? x=some %[.ref C,some dx,.plain|#[]]:=I.obj;apply A0 (A3 (A0 (A0 (wpAny_loadPart hx (A0 (PySem.W.Looks.here (s:={ s with toks:=s.toks+1 }) (PySem.W.looks_clsIn X hc) ?_))))));rw[hd'];apply A3 (a:=some dx) (A0 (A3 (A0 ?_)));apply wpAny_nsSet1 (s:={ s with toks:=s.toks+1 }) I.ns λ h' hn2 hs2=>?_;obtain⟨oD,esD,epD,hoD,hdD,hcD⟩:=hn2.count (PySem.Within.cons name v hw);apply A0 (wpAny_lookBehind hoD (by rw[hdD];exact pastItsLine_dict (C7 hcD (by rw[List.length_cons];lia))) ?_);exact A3 (h _ %[(hs2.2 _ (Ne.symm I.ne)).trans I.obj,hn2|I.ne] hs2)
theorem wN{R:Result->G0->Prop}{vs:QT G4}{kw:QT (Str×G4)}(X:K.In s.heap)(hm:PySem.W.makesIn K C=true)
  (hi:PySem.W.findIn K (.ref C) "__init__" = some (↑f)) (hf:PySem.W.typeIn K (.ref f)=some (.type "function"))
  (h:codeAny (model prog w) (A.under (.builtin "type.__call__" %[.ref C :: vs|kw])) (.call (.ref f) %[.ref (s.heap.objs.size+1) :: vs|kw]) (PySem.W.InitBack (s.heap.objs.size+1) R)
   { s with heap:=(s.heap.push PySem.W.emptyDict).push (PySem.W.instObj C s.heap.objs.size) }) :
  codeAny (model prog w) A (.call (.ref C) %[vs|kw]) R s:=by
 obtain⟨hh,g,d,t,os⟩:=s;exact PySem.W.make_core (PySem.W.makes_of X hm) (PySem.W.looks_findIn X hi) (λ self=>PySem.W.bind_fn X self hf) (.inl rfl) h
end
def dP(f:Str)(v:V):QT (Str×V)->QT (Str×V)
 | []=>[(f,v)]
 | (g,x) :: r=>if g=f then(g,v) :: r else(g,x) :: dP f v r
theorem bR(f g:Str)(v:V):∀fs:QT (Str×V),(dP f v fs).lookup g=if g=f then some v else fs.lookup g
 | []=>by
  show List.lookup g [(f,v)]=_
  by_cases h:g=f
  ·have hb:(g == f)=true:=C5.mpr h;simp only[List.lookup,hb,Qa h]
  ·have hb:(g == f)=false:=Qz.mpr h;simp only[List.lookup,hb,QZ h]
 | (k,x) :: r=>by
  have ih:=bR f g v r;rw[show dP f v ((k,x) :: r)=(if k=f then(k,v) :: r else(k,x) :: dP f v r)from rfl]
  by_cases hk:k=f
  ·rw[Qa hk]
   by_cases h:g=k
   ·have hb:(g == k)=true:=C5.mpr h;simp only[List.lookup,hb,Qa (h.trans hk)]
   ·have hb:(g == k)=false:=Qz.mpr h;simp only[List.lookup,hb,QZ (λ e:g=f=>h (e.trans hk.symm))]
  ·rw[QZ hk]
   by_cases h:g=k
   ·have hb:(g == k)=true:=C5.mpr h;simp only[List.lookup,hb,QZ (λ e:g=f=>hk (h.symm.trans e))]
   ·have hb:(g == k)=false:=Qz.mpr h;simp only[List.lookup,hb];exact ih
theorem iU(f:Str)(v:V):∀fs:QT (Str×V),f∈(dP f v fs).map (·.1)/\∀g,g∈fs.map (·.1)->g∈(dP f v fs).map (·.1)
 | []=>%[by simp[dP]|λ g h=>by simp at h]
 | (k,x) :: r=>by
  obtain⟨i1,i2⟩:=iU f v r;rw[show dP f v ((k,x) :: r)=(if k=f then(k,v) :: r else(k,x) :: dP f v r)from rfl]
  by_cases hk:k=f
  ·rw[Qa hk];subst hk;exact%[by simp|λ g h=>by simpa using h]
  ·rw[QZ hk];apply%[?_|λ g h=>?_]
   ·rw[J8];exact B6 _ i1
   ·rw[J8]at h ⊢;rcases J4.mp h with e | e
    ·exact J4.mpr (.inl e)
    ·exact B6 _ (i2 g e)
theorem fQ(f:Str)(v:V):∀fs:QT (Str×V),(dP f v fs).length<=fs.length+1
 | []=>by simp[dP]
 | (k,x) :: r=>by
  have ih:=fQ f v r;rw[show dP f v ((k,x) :: r)=(if k=f then(k,v) :: r else(k,x) :: dP f v r)from rfl]
  by_cases hk:k=f
  ·rw[Qa hk,K1,K1];lia
  ·rw[QZ hk,K1,K1];lia
theorem RelO.some_of{v:V}{o:QR G4}(r:RelO (some v) o):∃u,o=some u/\RelV v u:=by
 cases o with
 | none=>exact(show False from r).elim
 | some u=>exact%[u,O|r]
theorem RelO.none_of{o:QR G4}(r:RelO none o):o=none:=by
 cases o with
 | none=>rfl
 | some u=>exact(show False from r).elim
theorem tJ{v:V}{u:G4}(r:RelV v u):PySem.W.handedIn u=true:=by
 cases v with
 | non=>cases(show u=Value.none from r);rfl
 | bl b=>cases(show u=Value.bool b from r);rfl
 | int i=>obtain⟨t,e⟩:=(show∃t,u=Value.int i t from r);cases e;rfl
 | str x=>obtain⟨t,e⟩:=(show∃t,u=Value.str x t from r);cases e;rfl
 | byt b=>obtain⟨t,e⟩:=(show∃t,u=Value.bytes b t from r);cases e;rfl
 | flt b=>obtain⟨t,e⟩:=(show∃t,u=Value.float b t from r);cases e;rfl
 | ref a=>cases(show u=Value.ref a from r);rfl
 | ty n=>cases(show u=Value.type n from r);rfl
section
variable{P:G1}{w:G3}{H H':Hp}{h h':Heap}{a C dx:QP}{fs fs':QT (Str×V)}
theorem ik(hok:HOk P w H h)(e:H a=some (.ins C dx fs)):∃mA,ObjM h a dx C mA/\(∀f,RelO (fs.lookup f) (mA f))/\PySem.Within mA (fs.map (·.1))/\fs.length<=1000/\H dx=some (.own a):=by
 obtain⟨d,z,ne,ob,mA,n,r,q⟩:=(show ObjOk P w H h a (.ins C dx fs)from hok a _ e)
 exact%[mA,%[ob,n|ne],r,q,z|d]
end
structure Cls(K:C6)(C:QP):Prop where
 pg:PySem.W.plainGet K C Str.empty=true
 hd:PySem.W.hasDictIn K C=true
 po:PySem.W.plainOver K C=true
 sa:PySem.W.findIn K (.ref C) "__setattr__" = some (some (.builtin "object.__setattr__"))
theorem Cls.get{K:C6}{C:QP}(c:Cls K C)(f:Str):PySem.W.plainGet K C f=true:=c.pg
def NoAttr(K:C6)(C:QP)(f:Str):Prop:=PySem.W.findIn K (.ref C) f=some none
theorem NoAttr.taker{K:C6}{C:QP}{f:Str}(n:NoAttr K C f):PySem.W.takerIn K C f=some none:=by
 unfold PySem.W.takerIn;rw[show PySem.W.findIn K (.ref C) f=some none from n]
 rfl
structure Con(K:C6)(C:QP)(f:Str)(v:V)(u:Value):Prop where
 at_:PySem.W.findIn K (.ref C) f=some (some u)
 rel:RelV v u
 get:PySem.W.specialIn K u "__get__" = some none
 cp:PySem.W.copiedNames.contains f=false
structure Meth(K:C6)(C:QP)(m:Str)(f:QP):Prop where
 at_:PySem.W.findIn K (.ref C) m=some (↑f)
 fn:PySem.W.isFn K (.ref f)=true
 kp:PySem.W.keepIn K (.ref f)=true
section
variable{X:Cx}{QV:SY}{σ:St}{H:Hp}{s:G0}{a C dx:QP}{fs:QT (Str×V)}{f:Str}{v:V}{A:Around}{E:G4->G0->Prop}
theorem qe{b:Bool}{Q:G4->G0->Prop}(I:Inv X QV σ H s)(e:H a=some (.ins C dx fs))(c:Cls X.K C)(n:NoAttr X.K C f)(l:fs.lookup f=some v)
  (h:∀u s',Inv X QV σ H s'->RelV v u->Q u s'):wpAny (model X.prog X.w) A (getAttr (.ref a) f b) Q E s:=by
 obtain⟨mA,OO0,r,_,_,_⟩:=ik I.hok e;obtain⟨u,hu,ru⟩:=RelO.some_of (v:=v) (o:=mA f) (by rw[<- l];exact r f);exact zC I.kIn OO0 (c.get f) c.hd n hu (tJ ru) (h u _ (I.tok _) ru)
theorem gP{m:Str}{g:QP}{pl:Sem Bool}{Q:G4×QT G4->G0->Prop}(I:Inv X QV σ H s)(e:H a=some (.ins C dx fs))(c:Cls X.K C)(k:Meth X.K C m g)(l:fs.lookup m=none)
  (h:Q (.ref g,[.ref a]) s):wpAny (model X.prog X.w) A (getMethod (.ref a) m pl) Q E s:=by
 obtain⟨mA,OO0,r,_,_,_⟩:=ik I.hok e;have hn:mA m=none:=RelO.none_of (by rw[<- l];exact r m);exact wM I.kIn OO0 (c.get m) k.at_ k.fn hn h
theorem qg{y:V}{u:G4}{Q:Unit->G0->Prop}(I:Inv X QV σ H s)(e:H a=some (.ins C dx fs))(c:Cls X.K C)(n:NoAttr X.K C f)(hl:fs.length < 1000)(ry:RelV y u)
  (h:∀s',Inv X QV σ (upd H a (.ins C dx (dP f y fs))) s'->Q () s'):wpAny (model X.prog X.w) A (setAttr (.ref a) f u) Q E s:=by
 obtain⟨mA,OO0,r,wi,_,ho⟩:=ik I.hok e;have hz:(fs.map (·.1)).length<=sizeLine:=by rw[B5,RN];lia
 apply zD I.kIn OO0 c.sa c.po n.taker c.hd wi hz λ h' O' sb=>h _ ?_;have hd:∃o,h'.get? dx=some o:=let ⟨o,_,_,e',_⟩:=O'.ns;%[o|e']
 apply I.write (x:=a) (e:=dx) (by rw[e];exact True.intro) (.inr ho) (λ b q hb z=>(sb.2 b hb).trans z) hd ?_;apply%[by rw[am OO0.ne];exact ho,?_,OO0.ne,O'.obj,_,O'.ns,λ g=>?_|λ g hg=>?_]
 ·have:=fQ f y fs;lia
 ·show RelO ((dP f y fs).lookup g) (if g=f then some u else mA g);rw[bR]
  by_cases q:g=f
  ·rw[Qa q,Qa q];exact ry
  ·rw[QZ q,QZ q];exact r g
 ·by_cases q:g=f
  ·rw[q];exact(iU f y fs).1
  ·apply(iU f y fs).2 g (wi g λ z=>hg ?_);show(if g=f then some u else mA g)=none;rw[QZ q];exact z
theorem Inv.made(I:Inv X QV σ H s):Inv X QV σ (upd (upd H s.heap.objs.size (.own (s.heap.objs.size+1))) (s.heap.objs.size+1) (.ins C s.heap.objs.size []))
  { s with heap:=(s.heap.push PySem.W.emptyDict).push (PySem.W.instObj C s.heap.objs.size) }:=by
 have e1:(s.heap.push PySem.W.emptyDict).get? s.heap.objs.size=some PySem.W.emptyDict:=A9 s.heap rfl;have e2:((s.heap.push PySem.W.emptyDict).push (PySem.W.instObj C s.heap.objs.size)).get? (s.heap.objs.size+1)=some (PySem.W.instObj C s.heap.objs.size):=by have:=A9 (s.heap.push PySem.W.emptyDict) (o:=PySem.W.instObj C s.heap.objs.size) rfl;rwa [Qi]at this
 have e3:(s.heap.push PySem.W.emptyDict).Ns s.heap.objs.size (λ _=>none):=%[PySem.W.emptyDict,#[],_,e1,O,(λ e he=>absurd he (by simp))|λ _=>rfl]
 have I1:=I.laid (a:=s.heap.objs.size) (o:=.own (s.heap.objs.size+1)) (h':=s.heap.push PySem.W.emptyDict) (t':=s.toks) (λ b u q=>A8 _ q) (B4 _) %[_|e1];apply I1.laid (a:=s.heap.objs.size+1) (o:=.ins C s.heap.objs.size []) (t':=s.toks) (λ b u q=>A8 _ q) (QM (Qi _ _)) ?_;have ne:s.heap.objs.size≠s.heap.objs.size+1:=C1 (F4 _);apply%[by rw[am ne,ah],F2 _,ne,e2,λ _=>none,(Heap.Ns1.of_empty e3).at λ o q=>A8 _ q,λ _=>True.intro|λ y hy=>absurd rfl hy]
theorem zE{prog:G1}{w:G3}{env:Env}{e:Expr}{f:Str}{pos:Pos}{s:G0}{Q:G4->G0->Prop}(hb:attributeBase e f env (eval e env)=eval e env)
  (h:wpAny (model prog w) A (eval e env) (λ o s₁=>wpAny (model prog w) A (getAttr o f true) Q E s₁) E s):wpAny (model prog w) A (eval (.Attribute e f pos) env) Q E s :=
 Attribute_any_ h (by rw[arm_eval_Attribute,hb])
end
def Mv(K:C6)(ta:TE)(f:Str):TE:=λ σ H Q=>ta σ H λ x H1=>∃a C dx fs v,x=.ref a/\H1 a=some (.ins C dx fs)/\Cls K C/\NoAttr K C f/\fs.lookup f=some v/\Q v H1
def Dm(K:C6)(ta tv:TE)(f:Str):TS:=λ D σ H=>tv σ H λ y H1=>ta σ H1 λ x H2=>∃a C dx fs,x=.ref a/\H2 a=some (.ins C dx fs)/\Cls K C/\NoAttr K C f/\fs.length < 1000 /\
 D.nx σ (upd H2 a (.ins C dx (dP f y fs)))
section
variable{X:Cx}{o e value:Expr}{f:Str}{pos pos' tpos:Pos}{ta tv:TE}
theorem gQ(he:PE X e ta)(hb:attributeBase e f X.env (eval e X.env)=eval e X.env):PE X (.Attribute e f pos) (Mv X.K ta f):=by intro QV s σ H Q I h;apply zE hb (thn (he QV s σ H _ I h) ?_);rintro u s1 ⟨x,H1,I1,rx,a,C,dx,fs,v,ex,ea,c,n,l,q⟩;subst ex;obtain rfl:u=Value.ref a:=rx;exact qe I1 ea c n l λ u' s2 I2 ru=>%[v,H1,I2,ru|q]
theorem wO(ha:PE X o ta)(hv:PE X value tv)(hs:swapsWith value (some (.Attribute o f pos')) pos.line X.env=pure false):PS X (.Assign [.Attribute o f pos'] value pos) (Dm X.K ta tv f):=by intro QV s σ H D I h;apply plainObj_wpAny_Assign_Attribute (thn (hv QV s σ H _ I h) ?_) hs;rintro u s1 ⟨y,H1,I1,ry,q⟩;apply thn (ha QV s1 σ H1 _ I1 q) ?_;rintro ov s2 ⟨x,H2,I2,rx,a,C,dx,fs,ex,ea,c,n,l,q2⟩;subst ex;obtain rfl:ov=Value.ref a:=rx;exact qg I2 ea c n l ry λ s3 I3=>%[σ,_,I3|q2]
theorem AX{pl:Sem Bool}{m:Str}{apos:Pos}{args:QT Expr}{QV:SY}{s:G0}{σ:St}{H:Hp}{Q:G4->G0->Prop}{te:TE}(he:PE X e te)(I:Inv X QV σ H s)
  (h:te σ H λ x H1=>∃a C dx fs g,x=.ref a/\H1 a=some (.ins C dx fs)/\Cls X.K C/\Meth X.K C m g/\fs.lookup m=none /\
   ∀s1,Inv X QV σ H1 s1->wpAny (model X.prog X.w) X.A (callWith pos (.ref g) [.ref a] (backTo pos (starEach args X.env)) (backToKw pos (keywordEach [] X.env))) Q X.xe s1)
  (ht:eval (.Call (.Attribute e m apos) args [] pos) X.env=(do
   let ov<-eval e X.env
   standAt apos.atName
   let (f,first)<-holding [ov] (getMethod ov m pl)
   callWith pos f first (backTo pos (starEach args X.env)) (backToKw pos (keywordEach [] X.env)))) :
  wpAny (model X.prog X.w) X.A (eval (.Call (.Attribute e m apos) args [] pos) X.env) Q X.xe s:=by
 apply PySem.W.methodCall_KW (pl:=pl) (thn (he QV s σ H _ I h) ?_) ht;rintro u s1 ⟨x,H1,I1,rx,a,C,dx,fs,g,ex,ea,c,k,l,q⟩;subst ex;obtain rfl:u=Value.ref a:=rx;exact gP I1 ea c k l (q s1 I1)
end
section
variable{X:Cx}{QV:SY}{σ:St}{H:Hp}{s:G0}{A:Around}{E Q:G4->G0->Prop}{c:G4}{b:Bool}
inductive TyOf(K:C6)(H:Hp):V->Value->Prop where
 | non:TyOf K H .non (.type "NoneType")
 | bl (x:Bool):TyOf K H (.bl x) (.type "bool")
 | int (i:Int):TyOf K H (.int i) (.type "int")
 | str (x:Str):TyOf K H (.str x) (.type "str")
 | flt (x:UInt64):TyOf K H (.flt x) (.type "float")
 | lst {a:QP} {xs:QT V} (e:H a=↥xs):TyOf K H (.ref a) (.type "list")
 | frz {a:QP} {o:Obj} {xs:QT V} (e:H a=some (.frz o (.lst xs))):TyOf K H (.ref a) (.type "list")
 | tup {a:QP} {xs:QT V} (e:H a= ~~~xs):TyOf K H (.ref a) (.type "tuple")
 | dK {a:QP} {kvs:QT (Key×V)} (e:H a=some (.dK kvs)):TyOf K H (.ref a) (.type "dict")
 | dT {a:QP} {kvs:QT (QT Key×V)} (e:H a=some (.dT kvs)):TyOf K H (.ref a) (.type "dict")
 | ext {a:QP} {φ:Heap->Prop} (e:H a=some (.ext φ)) (c:∀h,φ h->∃o,h.get? a=some o/\o.cls=.type "dict"):TyOf K H (.ref a) (.type "dict")
 | ins {a C dx:QP} {fs:QT (Str×V)} (e:H a=some (.ins C dx fs)) (cl:Cls K C) (ha:PySem.W.findIn K (.ref C) "__class__" = some (some (.builtin "object.__class__")))
   (hn:PySem.W.specialIn K (.builtin "object.__class__") "__get__" = some (some (.builtin "getset_descriptor.__get__"))) (htk:PySem.W.takesIn K (.builtin "object.__class__")=some true)
   (hm:PySem.W.mroIn K C (.type "object")=some true):TyOf K H (.ref a) (.ref C)
theorem tK{x:V}{u t:G4}(I:Inv X QV σ H s)(rx:RelV x u)(ty:TyOf X.K H x t)(e:PySem.W.kitOne X.K t c=some b)(h:∀tk,Q (.bool b) { s with toks:=tk }) :
  wpAny (model X.prog X.w) A (call (.builtin "isinstance") [u,c]) Q E s:=by
 cases ty with
 | non=>cases(show u=Value.none from rx);exact PySem.W.kia_one PySem.W.kitx_none I.kIn True.intro e (λ z=>nomatch z) h
 | bl y=>cases(show u=Value.bool y from rx);exact PySem.W.kia_one PySem.W.kitx_bool I.kIn True.intro e (λ z=>nomatch z) h
 | int i=>obtain⟨t,q⟩:=(show∃t,u=Value.int i t from rx);cases q;exact PySem.W.kia_one PySem.W.kitx_int I.kIn True.intro e (λ z=>nomatch z) h
 | str y=>obtain⟨t,q⟩:=(show∃t,u=Value.str y t from rx);cases q;exact PySem.W.kia_one PySem.W.kitx_str I.kIn True.intro e (λ z=>nomatch z) h
 | flt y=>obtain⟨t,q⟩:=(show∃t,u=Value.float y t from rx);cases q;exact PySem.W.kia_one PySem.W.kitx_float I.kIn True.intro e (λ z=>nomatch z) h
 | @lst a xs ea=>
  cases(show u=Value.ref a from rx);obtain⟨_,_,n,_,h1⟩:=(show ObjOk X.prog X.w H s.heap a (.lst xs)from I.hok a _ ea)
  exact PySem.W.kia_one PySem.W.kitx_list I.kIn %[_,h1|O] e (λ z=>nomatch z) h
 | @frz a ob xs ea=>
  cases(show u=Value.ref a from rx);obtain⟨_,_,_,n,_,h1⟩:=(show ObjOk X.prog X.w H s.heap a (.frz ob (.lst xs))from I.hok a _ ea)
  exact PySem.W.kia_one PySem.W.kitx_list I.kIn %[_,h1|O] e (λ z=>nomatch z) h
 | @tup a xs ea=>
  cases(show u=Value.ref a from rx);obtain⟨_,_,_,p⟩:=(show ObjOk X.prog X.w H s.heap a (.tup xs)from I.hok a _ ea)
  obtain⟨o,h1,h2,_⟩:=p;exact PySem.W.kia_one PySem.W.kitx_tuple I.kIn %[o,h1|h2] e (λ z=>nomatch z) h
 | @dK a kvs ea=>
  cases(show u=Value.ref a from rx);obtain⟨_,_,vs,_,p⟩:=(show ObjOk X.prog X.w H s.heap a (.dK kvs)from I.hok a _ ea)
  obtain⟨o,es,ep,h1,h2,_⟩:=p;exact PySem.W.kia_one PySem.W.kitx_dict I.kIn %[o,h1|h2.1] e (λ z=>nomatch z) h
 | @dT a kvs ea=>
  cases(show u=Value.ref a from rx);obtain⟨_,_,xs,_,o,es,ep,h1,h2,_⟩:=(show ObjOk X.prog X.w H s.heap a (.dT kvs)from I.hok a _ ea)
  exact PySem.W.kia_one PySem.W.kitx_dict I.kIn %[o,h1|h2.1] e (λ z=>nomatch z) h
 | @ext a φ ea c=>
  cases(show u=Value.ref a from rx);obtain⟨p,_,_⟩:=(show ObjOk X.prog X.w H s.heap a (.ext φ)from I.hok a _ ea)
  obtain⟨o,h1,h2⟩:=c _ p;exact PySem.W.kia_one PySem.W.kitx_dict I.kIn %[o,h1|h2] e (λ z=>nomatch z) h
 | @ins a C dx fs ea cl ha hn htk hm=>
  cases(show u=Value.ref a from rx);obtain⟨mA,OO0,_⟩:=ik I.hok ea;obtain⟨od,J,_⟩:=OO0.look;exact PySem.W.kia_one (PySem.W.kitx_own (cl.get _) cl.hd ha hn htk hm) I.kIn J e (λ z=>nomatch z) h
end
structure Room(k:Nat)(A:Around):Prop where
 hd:A.handled=none
 dp:A.depth+3 * k+5 < recursionLimit
 un:A.units+16 * k+200 < cLine
 gd:A.guards=some []
theorem Room.mono{j k:Nat}{A:Around}(r:Room k A)(h:j<=k):Room j A:=%[r.hd,by have:=r.dp;lia,by have:=r.un;lia|r.gd]
theorem Room.deeper{k:Nat}{A:Around}(r:Room (k+1) A)(env:Env):Room k (A.deeper env) :=
 %[r.hd,by have:=r.dp;show A.depth+1+3 * k+5 < _;lia,by have:=r.un;show A.units+3+16 * k+200 < _;lia|r.gd]
theorem qj{A:Around}{C:QP}{us:QT G4}{kw:QT (Str×G4)}:(A.under (.builtin "type.__call__" %[.ref C :: us|kw])).depth=A.depth+1:=by first | rfl | simp[Around.under,Code.weight,Code.isCreation,Code.isGuard,Code.isCaller,Code.frames,Code.isFrame,guardIds]
theorem qo{A:Around}{C:QP}{us:QT G4}{kw:QT (Str×G4)}:(A.under (.builtin "type.__call__" %[.ref C :: us|kw])).units=A.units+1:=by first | rfl | simp[Around.under,Code.cUnits,Code.frames,Code.isFrame]
theorem nW{A:Around}{C:QP}{us:QT G4}{kw:QT (Str×G4)}:(A.under (.builtin "type.__call__" %[.ref C :: us|kw])).guards=A.guards:=by
 have e:Code.guards (.builtin "type.__call__" %[.ref C :: us|kw])=[]:=by
  have:(Code.builtin "type.__call__" %[.ref C :: us|kw]).isGuard=false:=by show guardIds.contains "type.__call__" = false;decide +kernel
  simp[Code.guards,this]
 unfold Around.under;dsimp only;rw[e]
 rfl
theorem Room.make{k:Nat}{A:Around}(r:Room (k+1) A)(C:QP)(us:QT G4)(kw:QT (Str×G4)):Room k (A.under (.builtin "type.__call__" %[.ref C :: us|kw])) :=
 %[r.hd,by have:=r.dp;rw[qj];lia,by have:=r.un;rw[qo];lia|by rw[nW];exact r.gd]
theorem Room.depth{k:Nat}{A:Around}(r:Room k A):A.depth < recursionLimit:=by have:=r.dp;lia
theorem Room.units{k:Nat}{A:Around}(r:Room k A):A.units+64 < cLine:=by have:=r.un;lia
def tL:TA:=λ _ H Q=>Q [] H
def rB(ta:TE)(tr:TA):TA:=λ σ H Q=>ta σ H λ x H1=>tr σ H1 λ xs H2=>Q (x :: xs) H2
section
variable{X:Cx}{e:Expr}{es:QT Expr}{te:TE}{t:TA}{pos:Pos}
theorem ae:PA X [] tL:=λ _ _ _ _ H Q I h=>Calls.spliced_nil %[[],H,I,.nil|h]
theorem ab(ha:PE X e te)(hr:PA X es t)(hs:starEach (e :: es) X.env=(false,eval e X.env) :: starEach es X.env:=by rfl):PA X (e :: es) (rB te t):=by intro pos QV s σ H Q I h;rw[hs];show wpAny _ _ (spliced ((false,eval e X.env) :: backTo pos (starEach es X.env))) _ _ s;apply Calls.spliced_cons (thn (ha QV s σ H _ I h) ?_);rintro u s1 ⟨x,H1,I1,r1,q1⟩;exact thn (hr pos QV s1 σ H1 _ I1 q1) λ us s2 %[xs,H2,I2,r2|q2]=>%[x :: xs,H2,I2,.cons r1 r2|q2]
def Mw(t:TA):TE:=λ σ H Q=>t σ H λ xs H1=>xs.length<=sizeLine/\∀p,H1 p=none->Q (.ref p) (upd H1 p (.tup xs))
def Mx(t:TA):TE:=λ σ H Q=>t σ H λ xs H1=>xs.length<=sizeLine/\∀p,H1 p=none->Q (.ref p) (upd H1 p (.lst xs))
theorem aJ{x1}(h:PA X es t):PE X (.Tuple es x1 pos) (Mw t):=by intro QV s σ H Q I hq;apply wpAny_Tuple_spliced (thn (h pos QV s σ H _ I hq) λ us s1 %[xs,H1,I1,r,z|q]=>%[by rw[<- r.length];exact z|?_]);have hf:H1 s1.heap.objs.size=none:=I1.hok.fresh (B4 _);apply%[.ref s1.heap.objs.size,upd H1 s1.heap.objs.size (.tup xs),I1.laid (t':=s1.toks) (λ b u e=>A8 _ e) (B4 _) ?_,O|q _ hf];exact%[z,us,r|%[_,A9 _ rfl,O,_|O]]
theorem bh(h:PA X es t):PE X (.List es pos) (Mx t):=by intro QV s σ H Q I hq;apply wpAny_List_spliced (thn (h pos QV s σ H _ I hq) λ us s1 %[xs,H1,I1,r,z|q]=>%[by rw[<- r.length];exact z|?_]);have hf:H1 s1.heap.objs.size=none:=I1.hok.fresh (B4 _);apply%[.ref s1.heap.objs.size,upd H1 s1.heap.objs.size (.lst xs),I1.laid (t':=s1.toks) (λ b u e=>A8 _ e) (B4 _) ?_,O|q _ hf];exact%[z,us,0,r|A9 _ rfl]
end
abbrev Sp:=QT V->Hp->VK->XK->Prop
abbrev CXT:=QT Env->Hp->G0->XK->G4->G0->Prop
structure Env0(P:Program)(w:World)(K:C6)(mg:Str->QR Value)(base:Heap)(A:Around)(outer:QT Env)(s:Shared)(H:Hp):Prop where
 frames:A.frames=some outer
 mod:Mod K mg base
 bs:∀b o,base.get? b=some o->s.heap.get? b=some o/\H b=none
 bsz:base.objs.size<=s.heap.objs.size
 funs:s.heap.FunFrames base outer
 frf:∀b∈frs outer,H b=none
 hok:HOk P w H s.heap
 bare:AllBare s.gens
def CE(outer:QT Env)(P:G1)(w:G3)(H:Hp)(s:G0)(Q:VK)(u:G4)(s':G0):Prop :=
 ∃v H',s'.os=s.os/\AllBare s'.gens/\Un (frs outer) [] H H' s.heap s'.heap/\HOk P w H' s'.heap/\RelV v u/\Q v H'
def CR(CX:CXT)(outer:QT Env)(P:G1)(w:G3)(H:Hp)(s:G0)(Q:VK)(E:XK)(r:Result)(s':G0):Prop :=
 match r with
 | .ok (.ret u)=>CE outer P w H s Q u s'
 | .ok _=>False
 | .error e=>CX outer H s E e s'
structure FnOk(P:Program)(w:World)(K:C6)(mg:Str->QR Value)(base:Heap)(CX:CXT)(k:Nat)(f:QP)(fd:FuncData)(ps:QT Str)(sp:Sp):Prop where
 len:∀vs H Q E,sp vs H Q E->vs.length=ps.length
 run:∀(A:Around)(outer:QT Env)(s:G0)(H:Hp)(args:Args)(us:QT G4)(vs:QT V)(Q:VK)(E:XK),Room k A->Env0 P w K mg base A outer s H->BindsTo s fd args (ps.zip us)->Vals vs us->sp vs H Q E ->
  codeAny (model P w) A (.call (.ref f) args) (CR CX outer P w H s Q E) s
theorem Env0.make{P:G1}{w:G3}{K:C6}{mg:Str->QR G4}{base:Heap}{A:Around}{outer:QT Env}{s:G0}{H:Hp}(e:Env0 P w K mg base A outer s H)(C:QP)(us:QT G4)(kw:QT (Str×G4)) :
  Env0 P w K mg base (A.under (.builtin "type.__call__" %[.ref C :: us|kw])) outer s H:=⟨by first | exact e.frames | (simpa[Around.under,Code.envs,Code.isFrame,pushEnvs]using e.frames),e.mod,e.bs,e.bsz,e.funs,e.frf,e.hok,e.bare⟩
section
variable{X:Cx}{QV:SY}{σ:St}{H:Hp}{s s':G0}
theorem Inv.env0(I:Inv X QV σ H s):Env0 X.prog X.w X.K X.mg X.base X.A X.stack s H :=
 %[I.ok.frames,I.ok.mod,I.bs,C7 I.ok.bsz I.sz,I.stack,I.stkFree,I.hok|I.bare]
theorem Inv.after{Q:VK}{u:G4}(I:Inv X QV σ H s)(h:CE X.stack X.prog X.w H s Q u s'):EP X QV σ Q u s':=by obtain⟨v,H',os,bare,un,hok,r,q⟩:=h;obtain⟨hh,g,d,t,os'⟩:=s';obtain rfl:os'=s.os:=os;exact%[v,H',I.call (h':=hh) (g':=g) (d':=d) (t':=t) (ch:=[]) un hok bare (λ b z=>absurd z (by simp)),r|q]
end
def AY(sp:Sp)(dvs:QT V)(E:XK)(t:TA):TE:=λ σ H Q=>t σ H λ vs H1=>sp (vs ++ dvs) H1 Q E
def rC(C:QP)(m:Str)(sp:Sp)(dvs:QT V)(E:XK)(ta:TE)(t:TA):TE:=λ σ H Q=>ta σ H λ x H1=>∃a dx fs,x=.ref a/\H1 a=some (.ins C dx fs)/\fs.lookup m=none /\
 t σ H1 λ vs H2=>sp (x :: (vs ++ dvs)) H2 Q E
def AZ(C:QP)(sp:Sp)(dvs:QT V)(E:XK)(t:TA):TE:=λ σ H Q=>t σ H λ vs H1=>∀x dx,H1 x=none->H1 dx=none->dx≠x ->
 sp (.ref x :: (vs ++ dvs)) (upd (upd H1 dx (.own x)) x (.ins C dx [])) (λ v H2=>v=.non/\Q (.ref x) H2) E
def Binds(K:C6)(fd:G2)(ps:QT Str)(ds:QT G4):Prop :=
 ∀(s:G0)(us:QT G4),K.In s.heap->(us ++ ds).length=ps.length->BindsTo s fd %[us|[]] (ps.zip (us ++ ds))
theorem Binds.all{K:C6}{fd:G2}{ps:QT Str}(h:∀us:QT G4,us.length=ps.length->bindArgs fd %[us|[]]=pure (ps.zip us)):Binds K fd ps []:=λ s us _ hl=>by rw[N0]at hl ⊢;exact .of_eq (h us hl)
def gR(CX:CXT)(X:Cx)(E:XK):Prop:=∀(QV:SY)(σ:St)(H:Hp)(s:G0)(e:G4)(s':G0),Inv X QV σ H s->CX X.stack H s E e s'->X.xe e s'
section
variable{X:Cx}{CX:CXT}{k:Nat}{f C:QP}{fd:G2}{ps:QT Str}{sp:Sp}{dvs:QT V}{ds:QT G4}{E:XK}{x m:Str}{p pos apos:Pos}{e o:Expr}{es:QT Expr}{ta:TE}{t:TA}
theorem qp{QV:SY}{σ:St}{H:Hp}{s:G0}{Q:VK}{us:QT G4}{vs:QT V}(F:FnOk X.prog X.w X.K X.mg X.base CX k f fd ps sp)(hr:Room k X.A)(hb:Binds X.K fd ps ds)(hd:Vals dvs ds)(hx:gR CX X E)
  (I:Inv X QV σ H s) (r:Vals vs us) (h:sp (vs ++ dvs) H Q E):wpAny (model X.prog X.w) X.A (call (.ref f) us) (EP X QV σ Q) X.xe s:=by
 have r2:Vals (vs ++ dvs) (us ++ ds):=r.append hd;have hl:(us ++ ds).length=ps.length:=by rw[<- r2.length];exact F.len _ _ _ _ h
 apply wpAny_call (codeAny_mono (F.run X.A X.stack s H %[us|[]] (us ++ ds) (vs ++ dvs) Q E hr I.env0 (hb s us I.kIn hl) r2 h) λ r s' hq=>?_);cases r with
 | error e=>exact hx QV σ H s e s' I hq
 | ok fl=>
  cases fl with
  | ret u=>exact I.after hq
  | next=>exact F1 hq
  | brk=>exact F1 hq
  | cont=>exact F1 hq
theorem zF(F:FnOk X.prog X.w X.K X.mg X.base CX k f fd ps sp)(hr:Room k X.A)(hg:Gl X x)(hm:X.mg x=↑f)(hk:PySem.W.keepIn X.K (.ref f)=true)(hb:Binds X.K fd ps ds)(hd:Vals dvs ds)(hx:gR CX X E)
  (ha:PA X (e :: es) t) (hdb:(x == ("__debug__" : Str))=false:=by decide) (he:starEach (e :: es) X.env=(false,eval e X.env) :: starEach es X.env:=by rfl) (hpl:(backTo pos (starEach es X.env)).any (·.1)=false:=by rfl) :
  PE X (.Call (.Name x p) (e :: es) [] pos) (AY sp dvs E t):=by
 intro QV s σ H Q I h;apply wpAny_Call_Name_kw (mI I hg hm ?_ hdb);apply PySem.W.callWith_K (h₀:=X.base) I.ok.mod.kin hk (thn (ha pos QV s σ H _ I h) λ us s1 %[vs,H1,I1,r|q]=>%[I1.kIn|?_]) he hpl;exact qp F hr hb hd hx I1 r q
theorem zG{pl:Sem Bool}(he:PE X o ta)(c:Cls X.K C)(hm:Meth X.K C m f)(F:FnOk X.prog X.w X.K X.mg X.base CX k f fd ps sp)(hr:Room k X.A)(hb:Binds X.K fd ps ds)(hd:Vals dvs ds)(hx:gR CX X E)(ha:PA X (e :: es) t)
  (hst:starEach (e :: es) X.env=(false,eval e X.env) :: starEach es X.env:=by rfl) (hpl:(backTo pos (starEach es X.env)).any (·.1)=false:=by rfl)
  (ht:eval (.Call (.Attribute o m apos) (e :: es) [] pos) X.env=(do
   let ov<-eval o X.env
   standAt apos.atName
   let (f,first)<-holding [ov] (getMethod ov m pl)
   callWith pos f first (backTo pos (starEach (e :: es) X.env)) (backToKw pos (keywordEach [] X.env))):=by rfl) :
  PE X (.Call (.Attribute o m apos) (e :: es) [] pos) (rC C m sp dvs E ta t):=by
 intro QV s σ H Q I h;apply PySem.W.methodCall_KW (pl:=pl) (thn (he QV s σ H _ I h) ?_) ht;rintro u s1 ⟨x,H1,I1,rx,a,dx,fs,ex,ea,l,q⟩;subst ex;obtain rfl:u=Value.ref a:=rx;apply gP I1 ea c hm l ?_;apply PySem.W.callWith_K (first:=[.ref a]) (h₀:=X.base) I.ok.mod.kin hm.kp (thn (ha pos QV s1 σ H1 _ I1 q) λ us s2 %[vs,H2,I2,r|q2]=>%[I2.kIn|?_]) hst hpl;exact qp (us:=.ref a :: us) (vs:=.ref a :: vs) F hr hb hd hx I2 (.cons rfl r) q2
theorem wP{pl:Sem Bool}(he:PE X o ta)(c:Cls X.K C)(hm:Meth X.K C m f)(F:FnOk X.prog X.w X.K X.mg X.base CX k f fd ps sp)(hr:Room k X.A)(hb:Binds X.K fd ps ds)(hd:Vals dvs ds)(hx:gR CX X E)
  (ht:eval (.Call (.Attribute o m apos) [] [] pos) X.env=(do
   let ov<-eval o X.env
   standAt apos.atName
   let (f,first)<-holding [ov] (getMethod ov m pl)
   callWith pos f first (backTo pos (starEach [] X.env)) (backToKw pos (keywordEach [] X.env))):=by rfl) :
  PE X (.Call (.Attribute o m apos) [] [] pos) (rC C m sp dvs E ta tL):=by
 intro QV s σ H Q I h;apply PySem.W.methodCall_KW (pl:=pl) (thn (he QV s σ H _ I h) ?_) ht;rintro u s1 ⟨x,H1,I1,rx,a,dx,fs,ex,ea,l,q⟩;subst ex;obtain rfl:u=Value.ref a:=rx;apply gP I1 ea c hm l ?_;exact PySem.W.callWith_K0 (first:=[.ref a]) I1.kIn hm.kp (qp (us:=[.ref a]) (vs:=[.ref a]) F hr hb hd hx I1 (.cons rfl .nil) q)
structure Mk(K:C6)(C f:QP):Prop where
 makes:PySem.W.makesIn K C=true
 init:PySem.W.findIn K (.ref C) "__init__" = some (↑f)
 fn:PySem.W.isFn K (.ref f)=true
 kp:PySem.W.keepIn K (.ref C)=true
theorem wQ{QV:SY}{σ:St}{H:Hp}{s:G0}{Q:VK}{us:QT G4}{vs:QT V}(M:Mk X.K C f)(F:FnOk X.prog X.w X.K X.mg X.base CX k f fd ps sp)(hr:Room (k+1) X.A)(hb:Binds X.K fd ps ds)(hd:Vals dvs ds)
  (hx:gR CX X E) (I:Inv X QV σ H s) (r:Vals vs us)
  (h:∀x dx,H x=none->H dx=none->dx≠x->sp (.ref x :: (vs ++ dvs)) (upd (upd H dx (.own x)) x (.ins C dx [])) (λ v H2=>v=.non/\Q (.ref x) H2) E) :
  wpAny (model X.prog X.w) X.A (call (.ref C) us) (EP X QV σ Q) X.xe s:=by
 have hq:=h (s.heap.objs.size+1) s.heap.objs.size (I.hok.fresh (Nat.le_succ _)) (I.hok.fresh (B4 _)) (C1 (F4 _));have I2:=Inv.made (C:=C) I;have r2:Vals (V.ref (s.heap.objs.size+1) :: (vs ++ dvs)) (Value.ref (s.heap.objs.size+1) :: (us ++ ds)):=.cons rfl (r.append hd);have hl:(Value.ref (s.heap.objs.size+1) :: us ++ ds).length=ps.length:=by have e:=r2.length;rw[F.len _ _ _ _ hq]at e;exact e.symm
 apply wpAny_call (wN (f:=f) I.kIn M.makes M.init (C5.mp M.fn) (codeAny_mono (F.run _ X.stack _ _ %[Value.ref (s.heap.objs.size+1) :: us|[]] (Value.ref (s.heap.objs.size+1) :: (us ++ ds)) _ _ E (hr.make C us [])
  (I2.env0.make C us []) (hb _ (Value.ref (s.heap.objs.size+1) :: us) I2.kIn hl) r2 hq) λ r s' hq'=>?_))
 cases r with
 | error e=>exact hx QV σ _ _ e s' I2 hq'
 | ok fl=>
  cases fl with
  | ret u=>
   obtain⟨v,H',I3,rv,ev,q3⟩:=I2.after hq';subst ev;exact%[rv|%[V.ref (s.heap.objs.size+1),H',I3,O|q3]]
  | next=>exact F1 hq'
  | brk=>exact F1 hq'
  | cont=>exact F1 hq'
theorem zH(M:Mk X.K C f)(F:FnOk X.prog X.w X.K X.mg X.base CX k f fd ps sp)(hr:Room (k+1) X.A)(hg:Gl X x)(hm:X.mg x=↑C)(hb:Binds X.K fd ps ds)(hd:Vals dvs ds)(hx:gR CX X E)
  (ha:PA X (e :: es) t) (hdb:(x == ("__debug__" : Str))=false:=by decide) (he:starEach (e :: es) X.env=(false,eval e X.env) :: starEach es X.env:=by rfl) (hpl:(backTo pos (starEach es X.env)).any (·.1)=false:=by rfl) :
  PE X (.Call (.Name x p) (e :: es) [] pos) (AZ C sp dvs E t):=by
 intro QV s σ H Q I h;apply wpAny_Call_Name_kw (mI I hg hm ?_ hdb);apply PySem.W.callWith_K (h₀:=X.base) I.ok.mod.kin M.kp (thn (ha pos QV s σ H _ I h) λ us s1 %[vs,H1,I1,r|q]=>%[I1.kIn|?_]) he hpl;exact wQ M F hr hb hd hx I1 r q
end
section
variable{X:Cx}{CX:CXT}{k:Nat}{f C:QP}{fd:G2}{ps ks:QT Str}{sp:Sp}{E:XK}{x m:Str}{p pos apos kpos:Pos}{e o:Expr}{es:QT Expr}{kws:QT Keyword}{te ta:TE}{t tk:TA}{nm:QR Str}
structure KBinds(K:C6)(fd:FuncData)(ps ks:QT Str)(g:QT Value->QT Value->QT Value)(gV:QT V->QT V->QT V):Prop where
 to:∀(s:G0)(us ws:QT G4),K.In s.heap->(g us ws).length=ps.length->BindsTo s fd %[us|ks.zip ws] (ps.zip (g us ws))
 rel:∀{vs:QT V}{us:QT G4}{zs:QT V}{ws:QT G4},Vals vs us->Vals zs ws->Vals (gV vs zs) (g us ws)
variable{g:QT G4->QT G4->QT G4}{gV:QT V->QT V->QT V}
end
structure FnScope(N P:QT Str)(sc:Scope):Prop where
 kind:sc.kind=.function
 co:sc.isCoroutine=false
 gen:sc.isGenerator=false
 nd:N.Nodup
 pre:N.take P.length=P
 par:∀x∈P,sc.names.lookup x=some .local\/sc.names.lookup x=some .cell
 nofree:∀y∈sc.names,y.2≠.free
theorem lH{kindOf:Str->QR NameKind}{x:Str}:∀{binds:QT (Str×G4)}{m:Str->QR G4},(∀v,(x,v)∉binds)->bindL kindOf binds m x=m x
 | [],_,_=>rfl
 | (n,v) :: r,m,h=>by
  unfold bindL;rw[lH λ w hw=>h w (B6 _ hw)]
  split
  ·have:x≠n:=by rintro rfl;exact h v B9
   simp[this]
  ·rfl
theorem lI{kindOf:Str->QR NameKind}{x:Str}:∀{binds:QT (Str×G4)}{m:Str->QR G4},(∀v,(x,v)∉binds)->bindC kindOf binds m x=m x
 | [],_,_=>rfl
 | (n,v) :: r,m,h=>by
  unfold bindC;rw[lI λ w hw=>h w (B6 _ hw)]
  split
  ·rfl
  ·have:x≠n:=by rintro rfl;exact h v B9
   simp[this]
theorem lJ{kindOf:Str->QR NameKind}{x:Str}{v:G4}:∀{P:QT Str}{vs:QT G4}{i:Nat}{m:Str->QR G4},P.Nodup->P[i]?=some x->vs[i]?=some v->kindOf x=some .local ->
  bindL kindOf (P.zip vs) m x=some v
 | [],_,_,_,_,h,_,_=>by simp at h
 | _ :: _,[],_,_,_,_,h,_=>by simp at h
 | p :: P,w :: vs,0,m,nd,h1,h2,hk=>by simp at h1 h2;subst h1;subst h2;show bindL kindOf ((p,w) :: P.zip vs) m p=_;unfold bindL;rw[lH λ v hv=>(PP.mp nd).1 (List.of_mem_zip hv).1,Qa hk];simp
 | p :: P,w :: vs,i+1,m,nd,h1,h2,hk=>by show bindL kindOf ((p,w) :: P.zip vs) m x=_;unfold bindL;exact lJ (i:=i) (PP.mp nd).2 (by simpa using h1) (by simpa using h2) hk
theorem lK{kindOf:Str->QR NameKind}{x:Str}{v:G4}:∀{P:QT Str}{vs:QT G4}{i:Nat}{m:Str->QR G4},P.Nodup->P[i]?=some x->vs[i]?=some v->kindOf x≠some .local ->
  bindC kindOf (P.zip vs) m x=some v
 | [],_,_,_,_,h,_,_=>by simp at h
 | _ :: _,[],_,_,_,_,h,_=>by simp at h
 | p :: P,w :: vs,0,m,nd,h1,h2,hk=>by simp at h1 h2;subst h1;subst h2;show bindC kindOf ((p,w) :: P.zip vs) m p=_;unfold bindC;rw[lI λ v hv=>(PP.mp nd).1 (List.of_mem_zip hv).1,QZ hk];simp
 | p :: P,w :: vs,i+1,m,nd,h1,h2,hk=>by show bindC kindOf ((p,w) :: P.zip vs) m x=_;unfold bindC;exact lK (i:=i) (PP.mp nd).2 (by simpa using h1) (by simpa using h2) hk
def jn(N:QT Str)(vs:QT V):St:=vs.map some ++ List.replicate (N.length - vs.length) none
def qr(CX:CXT)(P:G1)(w:G3)(K:C6)(mg:Str->QR G4)(base:Heap)(N:QT Str)(qual:Str)(scope:Scope)(f:QP)(cd:G4)(A:Around)(outer:QT Env)(s:G0)(H:Hp)(E:XK):Cx where
 prog:=P
 w:=w
 K:=K
 mg:=mg
 base:=base
 A:=A.deeper (envOfC qual scope s.heap.objs.size f cd)
 N:=N
 s₀:=s
 H₀:=H
 env:=envOfC qual scope s.heap.objs.size f cd
 outer:=outer
 stack:=envOfC qual scope s.heap.objs.size f cd :: outer
 ex:=[]
 calm:=true
 fn:=λ _=>true
 pn:=[]
 xe:=λ e s'=>wpAny (model P w) (A.deeper (envOfC qual scope s.heap.objs.size f cd)) (leaving (envOfC qual scope s.heap.objs.size f cd) e) (λ _ s''=>CX outer H s E e s'') (λ e' s''=>CX outer H s E e' s'') s'
theorem nX{sc:Scope}{n:Nat}{x:Str}(h:sc.names.lookup x=some .cell):∃c,(cellsFrom n sc.names []).lookup x=some c:=by have q:=PySem.W.cellsFrom_some sc.names n [] (.inl h);exact Option.isSome_iff_exists.mp q
theorem tM{CX:CXT}{P:G1}{w:G3}{K:C6}{mg:Str->QR G4}{base:Heap}{N ps:QT Str}{qual:Str}{scope:Scope}{f:QP}{cd:G4}{A:Around}{outer:QT Env}{s s1:G0}{H:Hp}{E:XK}{us:QT G4}{vs:QT V}
  (S:FnScope N ps scope) (hd:A.handled=none) (e0:Env0 P w K mg base A outer s H) (hl:vs.length=ps.length) (r:Vals vs us)
  (x:InCallC s s.heap.objs.size (bindL (envOfC qual scope s.heap.objs.size f cd).kindOf (ps.zip us) λ _=>none) (cellsFrom (s.heap.objs.size+1) scope.names []) (bindC (envOfC qual scope s.heap.objs.size f cd).kindOf (ps.zip us) λ _=>none) s1) :
  Inv (qr CX P w K mg base N qual scope f cd A outer s H E) [] (jn N vs) H s1:=by
 have hpl:ps.length<=N.length:=by have:=Qu List.length S.pre;rw[K4]at this;lia
 obtain⟨h1,tk,rfl,hk⟩:=x.done;have noA:∀b:QP,b∉(qr CX P w K mg base N qual scope f cd A outer s H E).ex:=λ b z=>absurd (show b∈([]:QT QP)from z) (by simp);apply⟨%[e0.mod,S.kind,O,O,B4 _,λ y z c h1 h2=>?_,λ y hy=>?_,λ y c _ h=>?_,λ _=>hd,Around.frames_deeper e0.frames,.inr %[O|O],λ b z=>absurd z (noA b),e0.bs,e0.bsz,λ b _ _=>noA b,λ b z=>absurd z (noA b),e0.funs|e0.frf],
  rfl,e0.bare,Un.kept hk,%[_,x.toInCall.ns|λ i y v h1 h2 h3=>?_],λ y c h=>%[_|x.cell y c h],e0.hok.fresh (B4 _),λ y c h=>?_,λ p hp=>absurd (show p∈([]:SY)from hp) (by simp),e0.hok.kept hk,?_⟩
 ·exact name_of_addr x.apart (RK h1) (RK h2)
 ·have hy:scope.names.lookup y=some .cell\/scope.names.lookup y=some .free:=hy;rcases hy with hy | hy
  ·exact nX hy
  ·exact absurd rfl (S.nofree _ (RK hy))
 ·exact C9 (x.above y c (RK h))
 ·have hi:i < vs.length:=by
   unfold jn at h2
   by_cases hi:i < vs.length
   ·exact hi
   ·rw[O3 (by simpa using hi)]at h2;rw[Py]at h2
    split at h2 <;> cases h2
  have ha:vs[i]?=some v:=by
   unfold jn at h2;rw[PX (by simpa using hi),J3]at h2;cases e:vs[i]? with
   | none=>rw[e]at h2;cases h2
   | some a=>rw[e]at h2;cases h2;rfl
  obtain⟨u,hu,rv⟩:=r.get ha;have hp:ps[i]?=some y:=by rw[<- S.pre,List.getElem?_take_of_lt ⋯];exact h1
  have ndP:ps.Nodup:=by rw[<- S.pre];exact S.nd.sublist (List.take_sublist _ _)
  apply%[u,rv|?_];rcases S.par y (B7 hp)with k | k
  ·exact .inl %[k|lJ ndP hp hu k]
  ·obtain⟨c,e⟩:=nX (n:=s.heap.objs.size+1) k;apply .inr %[.inl k,c,e|?_];have q:=x.cell y c e;rw[lK ndP hp hu (by show scope.names.lookup y≠_;rw[k];decide)]at q;exact q
 ·exact e0.hok.fresh (C9 (x.above y c (RK h)))
 ·unfold jn;show _=N.length;rw[J7,B5,K7];lia
theorem Do{CX:CXT}{P:G1}{w:G3}{K:C6}{mg:Str->QR G4}{base:Heap}{k:Nat}{f:QP}{name qual:Str}{params:Arguments}{body:QT Stmt}{scope:Scope}{dV kV doc pm cdv ct oc:G4}{an od:QR QP}
  {osl:QS (QR G4)} {N ps:QT Str} {sp:Sp} (lk:K.lookup f=some %[oc,od,.func (F0 name qual params body scope dV kV doc pm an cdv ct)|osl]) (hcd:PySem.W.codeIn K cdv qual=true) (S:FnScope N ps scope)
  (len:∀vs H Q E,sp vs H Q E->vs.length=ps.length)
  (hbody:∀(A:Around)(outer:QT Env)(s:G0)(H:Hp)(vs:QT V)(Q:VK)(E:XK),Room k (A.deeper (envOfC qual scope s.heap.objs.size f cdv))->sp vs H Q E ->
   ∃t,PSs (qr CX P w K mg base N qual scope f cdv A outer s H E) body t/\t { nx:=λ _ H'=>Q .non H',rt:=Q } (jn N vs) H) :
  FnOk P w K mg base CX (k+1) f (F0 name qual params body scope dV kV doc pm an cdv ct) ps sp:=by
 apply%[len|λ A outer s H args us vs Q E hr e0 hb r hsp=>?_];have hl:=len _ _ _ _ hsp;have KX:K.In s.heap:=e0.mod.kin.keeps λ b o e=>(e0.bs b o e).1;have lim:s.heap.NoLimit:=e0.mod.nolimit.keeps λ b o e=>(e0.bs b o e).1;have hkind:∀y∈ps.zip us,scope.names.lookup y.1=some .local\/(scope.names.lookup y.1=some .cell/\((cellsFrom (s.heap.objs.size+1) scope.names []).lookup y.1).isSome=true):=λ⟨n,v⟩ hy=>by
  rcases S.par n (List.of_mem_zip hy).1 with q | q
  ·exact .inl q
  ·exact .inr %[q|PySem.W.cellsFrom_some _ _ _ (.inl q)]
 apply codeAny_call_function hr.depth (KX _ _ lk) rfl S.co S.gen rfl (PySem.W.codeRec_of KX hcd) (hb _ _ _ _ ?_);apply wpAny_newFunctionEnv_cells S.kind hkind λ env he s1 x=>?_;subst he;apply%[lim.keeps x.toInCall.keep|codeAny_func ?_];obtain⟨t,ht,hq⟩:=hbody A outer s H vs Q E (hr.deeper _) hsp;have I:Inv (qr CX P w K mg base N qual scope f cdv A outer s H E) [] (jn N vs) H s1:=tM S hr.hd e0 hl r x;apply Ql (ht [] s1 (jn N vs) H _ I hq) (λ fl s' hs=>?_) λ e s' hs=>hs;have fin:∀{σ':St}{H':Hp}{v:V}{u:G4},Inv (qr CX P w K mg base N qual scope f cdv A outer s H E) [] σ' H' s'->RelV v u->Q v H'->CE outer P w H s Q u s' :=
  λ {σ' H' v u} J rv q=>%[v,H',J.os,J.bare,J.base,J.hok,rv|q]
 cases fl with
 | ret u=>
  obtain⟨v,σ',H',J,rv,q⟩:=hs;exact fin J rv q
 | next=>
  obtain⟨σ',H',J,q⟩:=hs;exact fin (v:=V.non) (u:=Value.none) J rfl q
 | brk=>
  obtain⟨_,_,_,q⟩:=hs;exact F1 q
 | cont=>
  obtain⟨_,_,_,q⟩:=hs;exact F1 q
section
variable{X:Cx}{x:Str}{p pos:Pos}{e:Expr}{es:QT Expr}{t:TA}{id T:String}{r:QT V->Hp->VK->Prop}
def tCB(r:QT V->Hp->VK->Prop)(t:TA):TE:=λ σ H Q=>t σ H λ vs H1=>r vs H1 Q
theorem ay(hc:cD X (.builtin id) r)(hg:Gl X x)(hm:X.mg x=none)(hv:bootBuiltins x=some (.builtin id))(ha:PA X (e :: es) t)(hn:x ≠ "__name__" := by decide)(hdb:(x == ("__debug__" : Str))=false:=by decide)
  (he:starEach (e :: es) X.env=(false,eval e X.env) :: starEach es X.env:=by rfl) (hpl:(backTo pos (starEach es X.env)).any (·.1)=false:=by rfl):PE X (.Call (.Name x p) (e :: es) [] pos) (tCB r t):=by
 intro QV s σ H Q I h;apply wpAny_Call_Name_kw (fM I hg hm hv ?_ hn hdb);exact PyProof.Rows.callWith_builtin1 (thn (ha pos QV s σ H _ I h) λ us s1 %[vs,H1,I1,r1|q1]=>hc QV s1 σ H1 vs us Q I1 r1 q1) he hpl
theorem aU(hc:cD X (.type T) r)(hg:Gl X x)(hm:X.mg x=none)(hv:bootBuiltins x=some (.type T))(ha:PA X (e :: es) t)(hn:x ≠ "__name__" := by decide)(hdb:(x == ("__debug__" : Str))=false:=by decide)
  (he:starEach (e :: es) X.env=(false,eval e X.env) :: starEach es X.env:=by rfl) (hpl:(backTo pos (starEach es X.env)).any (·.1)=false:=by rfl):PE X (.Call (.Name x p) (e :: es) [] pos) (tCB r t):=by
 intro QV s σ H Q I h;apply wpAny_Call_Name_kw (fM I hg hm hv ?_ hn hdb);exact Qp (thn (ha pos QV s σ H _ I h) λ us s1 %[vs,H1,I1,r1|q1]=>hc QV s1 σ H1 vs us Q I1 r1 q1) he hpl
end
end L2
namespace HT
open PySem PyProof.Rows
section
variable{prog:G1}{w:G3}{A:Around}{E:G4->G0->Prop}{s:G0}
theorem cat_tup{t b:QP}{vs ws:QT G4}{Q:G4->G0->Prop}(ht:IsTup s.heap t vs.toArray)(hb:IsTup s.heap b ws.toArray)(hv:vs≠[])
  (h1:ws=[]->Q (.ref t) s) (h2:ws≠[]->Q (.ref s.heap.objs.size) { s with heap:=s.heap.push { cls:=.type "tuple",data:=.seq (vs ++ ws).toArray } })
  (hsz:vs.length+ws.length<=sizeLine):wpAny (model prog w) A (binaryOp .Add (.ref t) (.ref b)) Q E s:=by
 obtain⟨⟨cls,dd,data,sl⟩,ho,hc,n,hd⟩:=id ht;obtain⟨⟨cls2,dd2,data2,sl2⟩,ho2,hc2,n2,hd2⟩:=id hb;simp only at hc hd hc2 hd2;subst hc hd hc2 hd2;have e:vs.toArray ++ ws.toArray=(vs ++ ws).toArray:=by simp
 by_cases hw:ws=[]
 ·exact concat_meets %[_,ho|rfl] %[_,ho2|rfl] noFill_tuple_add seq_tuple_add PySem.F.slot_tuple_add PySem.F.entry_tuple_add (PySem.F.args_tuple_add_2 _ _)
   (tuple_addW1 t b vs.toArray ws.toArray n n2 dd dd2 sl sl2 (by simpa using hv) (by simp[hw])) %[ho,ho2|h1 hw]
 ·apply concat_meets %[_,ho|rfl] %[_,ho2|rfl] noFill_tuple_add seq_tuple_add PySem.F.slot_tuple_add PySem.F.entry_tuple_add (PySem.F.args_tuple_add_2 _ _)
   (tuple_addW2 t b vs.toArray ws.toArray n n2 dd dd2 sl sl2 (by simpa using hv) (by simpa using hw) (by rw[K2,K2];exact hsz)) %[ho,ho2|?_]
  rw[e];exact h2 hw
def sIx(n d:Nat):QR Int->Nat
 | none=>d
 | some v=>if v < 0 then(v+(n:Int)).toNat else min v.toNat n
theorem Bx(n d:Nat)(hd:d<=n)(o:QR Int):sIx n d o<=n:=by
 cases o with
 | none=>exact hd
 | some v=>
  show(if v < 0 then(v+(n:Int)).toNat else min v.toNat n)<=n
  by_cases hv:v < 0
  ·rw[Qa hv];lia
  ·rw[QZ hv];exact Nat.min_le_right _ _
theorem rD(v:Int)(n d:Nat):(if v < 0 then max (v+(n:Int)) 0 else min v (n:Int))=((sIx n d (some v):Nat):Int):=by
 show(if v < 0 then max (v+(n:Int)) 0 else min v (n:Int))=(((if v < 0 then(v+(n:Int)).toNat else min v.toNat n):Nat):Int)
 by_cases hv:v < 0
 ·simp only[Qa hv];lia
 ·simp only[QZ hv];lia
theorem qu(lo hi:QR Int)(n:Nat):Builtin.Slice.sliceAdjust lo hi 1 (n:Int)=(((sIx n 0 lo:Nat):Int),((sIx n n hi:Nat):Int)):=by
 have h1:¬ ((1:Int) < 0):=⋯
 unfold Builtin.Slice.sliceAdjust;simp only[h1,Qv];apply Prod.ext ?_ ?_
 ·cases lo with
  | none=>rfl
  | some v=>exact rD v n 0
 ·cases hi with
  | none=>rfl
  | some v=>exact rD v n n
theorem qv(i j:Nat):Builtin.Slice.slicePlaces (i:Int) (j:Int) 1=j - i:=by
 unfold Builtin.Slice.slicePlaces;have h1:(1:Int) > 0:=⋯
 simp only[h1,RL,Int.ediv_one]
 split <;> lia
theorem jW{v:G4}{o:QR Int}{Q:QR Int->G0->Prop}(p:IsPart v o)(h:Q o s):wpAny (model prog w) A (Builtin.Slice.slicePartIndex v) Q E s:=by
 cases p with
 | none=>exact slicePart_none h
 | int i t=>exact slicePart_int h
theorem iV{sl:QP}{vl vu:G4}{lo hi:QR Int}{n:Nat}{Q:Int×Int×Nat->G0->Prop}(hs:s.heap.IsSliceOf sl vl vu .none)(pl:IsPart vl lo)(pu:IsPart vu hi)
  (h:Q (((sIx n 0 lo:Nat):Int),1,sIx n n hi - sIx n 0 lo) s):wpAny (model prog w) A (Builtin.Slice.sliceApplied (.ref sl) (pure (n:Int))) Q E s:=by
 obtain⟨os,hos,hcs,hds⟩:=id hs;unfold Builtin.Slice.sliceApplied Builtin.Slice.sliceFields;apply A0 (A0 (Qq hos hds (x:=vl) rfl (A0 (Qq hos hds (x:=vu) rfl (A0 (Qq hos hds (x:=.none) rfl (A3 ?_)))))));apply A0 (slicePart_none ?_);show wpAny _ _ (if ((1:Int) == 0)=true then _ else _) _ _ s;rw[QZ ∅];apply A0 (jW pl (A0 (jW pu (A0 (A3 ?_)))));show wpAny _ _ (match Builtin.Slice.sliceAdjust lo hi 1 (n:Int)with | (lo,hi)=>pure (lo,(1:Int),Builtin.Slice.slicePlaces lo hi 1)) _ _ s;rw[qu lo hi n];show wpAny _ _ (pure (((sIx n 0 lo:Nat):Int),(1:Int),Builtin.Slice.slicePlaces ((sIx n 0 lo:Nat):Int) ((sIx n n hi:Nat):Int) 1)) _ _ s;rw[qv];exact A3 h
theorem wR(xs:QS G4)(i k:Nat):((List.range k).filterMap λ (m:Nat)=>xs[((i:Int)+(m:Int) * 1).toNat]?).toArray=((xs.toList.drop i).take k).toArray:=by
 have e:(λ (m:Nat)=>xs[((i:Int)+(m:Int) * 1).toNat]?)=λ m=>xs[i+m]? := by
  funext m
  have:((i:Int)+(m:Int) * 1).toNat=i+m:=⋯
  rw[this]
 rw[e];have:=pick_run xs i k;rw[List.filterMap_map]at this;have e2:((λ x=>xs[x]?)∘λ x=>i+x)=λ m=>xs[i+m]? := rfl;rw[e2]at this;rw[this]
theorem getItem_tuple_cut{t sl:QP}{items:QS G4}{vl vu:G4}{lo hi:QR Int}{Q:G4->G0->Prop}(ht:IsTup s.heap t items)(hs:s.heap.IsSliceOf sl vl vu .none)(pl:IsPart vl lo)(pu:IsPart vu hi)
  (hw:¬ (sIx items.size 0 lo=0/\sIx items.size items.size hi=items.size))
  (h:Q (.ref s.heap.objs.size) { s with heap:=s.heap.push { cls:=.type "tuple",data:=.seq ((items.toList.drop (sIx items.size 0 lo)).take (sIx items.size items.size hi - sIx items.size 0 lo)).toArray } })
  (hsz:items.size<=sizeLine):wpAny (model prog w) A (getItem (.ref t) (.ref sl)) Q E s:=by
 have htake:sizeOk (.seq ((items.toList.drop (sIx items.size 0 lo)).take (sIx items.size items.size hi - sIx items.size 0 lo)).toArray):=by show((items.toList.drop (sIx items.size 0 lo)).take (sIx items.size items.size hi - sIx items.size 0 lo)).toArray.size<=sizeLine;rw[K2,K4,List.length_drop,N2];lia
 have hj:sIx items.size items.size hi<=items.size:=Bx _ _ (B4 _) hi;obtain⟨os,hos,hcs,hds⟩:=id hs;have hTs:s.TypeIs (.ref sl) "slice" := %[os,hos|hcs]
 unfold getItem
 try with_reducible apply Qh ?_
 first | apply A0 (A3 ?_) | skip
 apply A0 (wpAny_sequenceKey ht.typeIs ∅ ?_);apply A0 (wpAny_callSpecial?_slot (name:=Str.ofString "__getitem__") ht.typeIs PyProof.Rows.slot_tuple_getitem
  (F7 PyProof.Rows.slot_tuple_getitem ht.typeIs entry_tuple_getitem ?_ (args_tuple_getitem _ _)))
 show wpAny _ _ (Builtin.Tuple.tupleItemsOf (.ref t) >>= _) _ _ s;apply A0 (tupleItemsOf_ ht ?_);apply A0 (wpAny_typeOf hTs ?_);rw[Qa ∅];apply A0 (iV hs pl pu ?_);have hno:¬ ((((sIx items.size 0 lo:Nat):Int) == 0 && (1:Int) == 1 && (sIx items.size items.size hi - sIx items.size 0 lo) == items.size)=true):=by intro q;rw[M9,M9]at q;have q1:((sIx items.size 0 lo:Nat):Int)=0:=eq_of_beq q.1.1;have q2:sIx items.size items.size hi - sIx items.size 0 lo=items.size:=eq_of_beq q.2;exact hw %[⋯|⋯]
 show wpAny _ _ (if (((sIx items.size 0 lo:Nat):Int) == 0 && (1:Int) == 1 && (sIx items.size items.size hi - sIx items.size 0 lo) == items.size)=true then _ else _) _ _ s;rw[QZ hno,wR]
 first
  | exact A0 (m:=Builtin.Tuple.tupleExact _) (F8 (A3 ⟨_,rfl,A3 h⟩) htake)
  | exact A0 (m:=Builtin.Tuple.tupleExact _) (F8 (A0 (A3 (A3 ⟨_,rfl,A3 h⟩))) htake)
  | exact A0 (A0 (m:=Builtin.Tuple.tupleExact _) (F8 (A3 (A3 ⟨_,rfl,A3 h⟩)) htake))
  | exact A0 (A0 (m:=Builtin.Tuple.tupleExact _) (F8 (A3 ⟨_,rfl,A3 h⟩) htake))
end
end HT
namespace L2
open PySem PySem.Spec PyProof.Rows
abbrev TO:=St->Hp->(QR Int->Hp->Prop)->Prop
def PO(X:Cx)(e:QR Expr)(t:TO):Prop :=
 ∀(QV:SY)(s:G0)(σ:St)(H:Hp)(Q:QR Int->Hp->Prop),Inv X QV σ H s->t σ H Q ->
  wpAny (model X.prog X.w) X.A (evalPart e X.env) (λ u s'=>∃o H',Inv X QV σ H' s'/\IsPart u o/\Q o H') X.xe s
def zI:TO:=λ _ H Q=>Q none H
def Dp(t:TE):TO:=λ σ H Q=>t σ H λ x H1=>∃i,x=.int i/\Q (some i) H1
section
variable{X:Cx}{e:Expr}{te:TE}{lo hi:QR Expr}{tl th:TO}{pos p2:Pos}
theorem rE:PO X none zI:=by intro QV s σ H Q I h;rw[evalPart_none];exact A3 %[none,H,I,.none|h]
theorem rF(h:PE X e te):PO X (some e) (Dp te):=by intro QV s σ H Q I hw;rw[evalPart_some];apply thn (h QV s σ H _ I hw) ?_;rintro u s1 ⟨x,H1,I1,r1,q1⟩;obtain⟨i,rfl,q⟩:=q1;obtain⟨t,rfl⟩:=r1;exact%[some i,H1,I1,.int i t|q]
def SlR(X:Cx)(r:V->QR Int->QR Int->Hp->VK->Prop):Prop :=
 ∀(QV:SY)(s:G0)(σ:St)(H:Hp)(x:V)(v vl vu:G4)(lo hi:QR Int)(sl:QP)(Q:VK),Inv X QV σ H s->RelV x v->s.heap.IsSliceOf sl vl vu .none->IsPart vl lo->IsPart vu hi->r x lo hi H Q ->
  ∃T id,typeLookup (.type T) "__getitem__" = pure (some (.builtin id))/\s.TypeIs v T/\wpAny (model X.prog X.w) X.A (getItem v (.ref sl)) (EP X QV σ Q) X.xe s
def tSl(r:V->QR Int->QR Int->Hp->VK->Prop)(te:TE)(tl th:TO):TE:=λ σ H Q=>te σ H λ x H1=>tl σ H1 λ l H2=>th σ H2 λ u H3=>r x l u H3 Q
theorem nY{r:V->QR Int->QR Int->Hp->VK->Prop}(hr:SlR X r)(he:PE X e te)(hl:PO X lo tl)(hu:PO X hi th):PE X (.Subscript e (.Slice lo hi none p2) pos) (tSl r te tl th):=by intro QV s σ H Q I h;apply Subscript_ (thn (he QV s σ H _ I h) ?_);rintro v s1 ⟨x,H1,I1,r1,q1⟩;apply wpAny_Slice (thn (hl QV s1 σ H1 _ I1 q1) ?_);rintro vl s2 ⟨l,H2,I2,pl,q2⟩;apply thn (hu QV s2 σ H2 _ I2 q2) ?_;rintro vu s3 ⟨u,H3,I3,pu,q3⟩;rw[evalPart_none];apply A3 ?_;have I4:Inv X QV σ H3 { s3 with heap:=s3.heap.push { cls:=.type "slice",data:=.fields #[vl,vu,.none] } }:=I3.kept (t':=s3.toks) λ b ob q=>A8 _ q;obtain⟨T,id,hT,ht,hg⟩:=hr QV { s3 with heap:=s3.heap.push { cls:=.type "slice",data:=.fields #[vl,vu,.none] } } σ H3 x v vl vu l u s3.heap.objs.size Q I4 r1 (Heap.IsSliceOf.new ..) pl pu q3;show wpAny (model X.prog X.w) X.A (subscriptTail e (.Slice lo hi none p2) v (.ref s3.heap.objs.size)) (EP X QV σ Q) X.xe { s3 with heap:=s3.heap.push { cls:=.type "slice",data:=.fields #[vl,vu,.none] } };exact tail_any (ops:=[.ref s3.heap.objs.size,v]) ht hT hg (by with_unfolding_all rfl)
def nZ(xs:QT V)(lo hi:QR Int):QT V:=(xs.drop (HT.sIx xs.length 0 lo)).take (HT.sIx xs.length xs.length hi - HT.sIx xs.length 0 lo)
theorem jo(xs:QT V)(lo hi:QR Int):(nZ xs lo hi).length<=xs.length:=by unfold nZ;rw[K4,List.length_drop];lia
def By(K:C6):V->QR Int->QR Int->Hp->VK->Prop:=λ x lo hi H Q=>∃a xs,x=.ref a/\SqT K H a xs /\
 ¬ (HT.sIx xs.length 0 lo=0/\HT.sIx xs.length xs.length hi=xs.length)/\∀p,H p=none->Q (.ref p) (upd H p (.tup (nZ xs lo hi)))
theorem wS:SlR X (By X.K):=by
 intro QV s σ H x v vl vu lo hi sl Q I rx hs pl pu h;obtain⟨a,xs,rfl,hx,hw,q⟩:=h;cases rx;obtain⟨its,r,ht,hz⟩:=I.tuple hx;have QX:its.toArray.size=xs.length:=by rw[K2];exact r.length.symm
 apply%["tuple",_,PyProof.Rows.slot_tuple_getitem.lookup,ht.typeIs|?_];apply HT.getItem_tuple_cut ht hs pl pu (by rw[QX];exact hw) ?_ (by rw[QX];exact hz);rw[QX];apply%[.ref s.heap.objs.size,_,I.laid (t':=s.toks) (o:=.tup (nZ xs lo hi)) (λ b ob q=>A8 _ q) (B4 _) ?_,O|q _ (I.hok.fresh (B4 _))];exact%[C7 (jo xs lo hi) hz,_,(r.drop (HT.sIx xs.length 0 lo)).take (HT.sIx xs.length xs.length hi - HT.sIx xs.length 0 lo)|IsTup.new _ _]
def Ba(K:C6):R2:=λ x y H Q=>∃a b xs ys,x=.ref a/\y=.ref b/\SqT K H a xs/\SqT K H b ys/\xs≠[]/\xs.length+ys.length<=sizeLine /\
 (ys=[]->Q (.ref a) H)/\(ys≠[]->∀p,H p=none->Q (.ref p) (upd H p (.tup (xs ++ ys))))
theorem Vals.nil_iff{xs:QT V}{us:QT G4}(r:Vals xs us):us=[]↔xs=[]:=by
 cases r with
 | nil=>simp
 | cons _ _=>simp
theorem rG:OpR X (binaryOp .Add) (Ba X.K):=by intro QV s σ H x y v u Q I rx ry h;obtain⟨a,b,xs,ys,rfl,rfl,ha,hb,hx,hz,q1,q2⟩:=h;cases rx;cases ry;obtain⟨its,r1,p1,_⟩:=I.tuple ha;obtain⟨its2,r2,p2,_⟩:=I.tuple hb;apply HT.cat_tup p1 p2 (λ z=>hx (r1.nil_iff.mp z)) (λ z=>%[.ref a,H,I,O|q1 (r2.nil_iff.mp z)]) (λ z=>?_) (by rw[<- r1.length,<- r2.length];exact hz);apply%[.ref s.heap.objs.size,_,I.laid (t':=s.toks) (o:=.tup (xs ++ ys)) (λ b ob q=>A8 _ q) (B4 _) ?_,O|q2 (λ w=>z (r2.nil_iff.mpr w)) _ (I.hok.fresh (B4 _))];exact%[by rw[J7];exact hz,_,r1.append r2|IsTup.new _ _]
inductive rz_call_tupleT(K:C6)(xs:QT V)(H:Hp)(Q:VK):Prop
|mk(a ys:_)(_:xs=[.ref a])(_:SqT K H a ys)(_:Q (.ref a) H)
end
def ixN(n:Nat)(i:Int):QR Nat:=if 0<=i then(if i < n then some i.toNat else none)else if -(n:Int)<=i then some (i+n).toNat else none
def atI{α:Type}(xs:QT α)(i:Int):QR α:=(ixN xs.length i).bind λ j=>xs[j]?
theorem rH{n:Nat}{i:Int}{j:Nat}(h:ixN n i=some j):seqIndex? i n=some j/\j < n/\-(n:Int)<=i/\i < n:=by
 unfold ixN at h
 by_cases h0:0<=i
 ·rw[Qa h0]at h
  by_cases h1:i < n
  ·rw[Qa h1]at h;have e:i.toNat=j:=C0 h;exact%[by rw[seqIndex_of h0 h1,e],⋯,⋯|h1]
  ·rw[QZ h1]at h;cases h
 ·rw[QZ h0]at h
  by_cases h1:-(n:Int)<=i
  ·rw[Qa h1]at h;have e:(i+n).toNat=j:=C0 h;exact%[by rw[seqIndex_neg ⋯ h1,e],⋯,h1|⋯]
  ·rw[QZ h1]at h;cases h
theorem mL{α:Type}{xs:QT α}{i:Int}{v:α}(h:atI xs i=some v):∃j,seqIndex? i xs.length=some j/\xs[j]?=some v/\j < xs.length/\-(xs.length:Int)<=i/\i < xs.length:=by
 unfold atI at h;cases e:ixN xs.length i with
 | none=>rw[e]at h;cases h
 | some j=>
  rw[e]at h;obtain⟨h1,h2,h3,h4⟩:=rH e;exact%[j,h1,h,h2,h3|h4]
theorem mM{α:Type}{xs:QT α}{j:Nat}{v:α}(h:xs[j]?=some v):atI xs (j:Int)=some v:=by
 have hj:j < xs.length:=(A7.mp h).1;have e:ixN xs.length (j:Int)=some j:=by unfold ixN;rw[Qa ⋯,Qa ⋯];simp
 unfold atI;rw[e];exact h
def zJ(b:Expr):Prop:=∀o i,subscripted b false o i=operate [o,i] (getItem o i)
def IxR(X:Cx)(r:R2):Prop :=
 ∀(value slice:Expr)(QV:SY)(s:G0)(σ:St)(H:Hp)(x y:V)(v u:G4)(Q:VK),Inv X QV σ H s->RelV x v->RelV y u->r x y H Q ->
  subscripted slice false v u=operate [v,u] (getItem v u)->wpAny (model X.prog X.w) X.A (subscriptTail value slice v u) (EP X QV σ Q) X.xe s
def MtR(X:Cx)(id:String)(r:V->QT V->Hp->VK->Prop):Prop :=
 ∀(QV:SY)(s:G0)(σ:St)(H:Hp)(x:V)(xs:QT V)(v:G4)(us:QT G4)(Q:VK),Inv X QV σ H s->RelV x v->Vals xs us->r x xs H Q ->
  wpAny (model X.prog X.w) X.A (call (.builtin id) (v :: us)) (EP X QV σ Q) X.xe s
section
variable{X:Cx}{a b:Expr}{ta tb:TE}{pos:Pos}
theorem IxR.or{r r':R2}(h:IxR X r)(h':IxR X r'):IxR X (λ x y H Q=>r x y H Q\/r' x y H Q):=by
 intro value slice QV s σ H x y v u Q I rx ry q hs;rcases q with q | q
 ·exact h value slice QV s σ H x y v u Q I rx ry q hs
 ·exact h' value slice QV s σ H x y v u Q I rx ry q hs
theorem aG{r:R2}(hr:IxR X r)(ha:PE X a ta)(hb:PE X b tb)(hs:zJ b):PE X (.Subscript a b pos) (tOp r ta tb):=by intro QV s σ H Q I h;exact Subscript_ (Bv ha hb I h λ v u s2 x y H2 I2 rx ry q=>hr a b QV s2 σ H2 x y v u Q I2 rx ry q (hs _ _))
inductive rIxL(K:C6)(x:V)(y:V)(H:Hp)(Q:VK):Prop
|mk(p:QP)(xs:QT V)(i:Int)(v:V)(_:x=.ref p)(_:y=.int i)(_:SqL K H p xs)(_:atI xs i=some v)(_:Q v H)
inductive rIxT(K:C6)(x:V)(y:V)(H:Hp)(Q:VK):Prop
|mk(p:QP)(xs:QT V)(i:Int)(v:V)(_:x=.ref p)(_:y=.int i)(_:SqT K H p xs)(_:atI xs i=some v)(_:Q v H)
def Dq:R2:=λ x y H Q=>∃z i c,x=.str z/\y=.int i/\z.length<=sizeLine/\atI z.cps.toList i=some c/\Q (.str %[|#[c]]) H
theorem ix_list:IxR X (rIxL X.K):=by
 intro value slice QV s σ H x y v u Q I rx ry h hs;obtain⟨p,xs,i,z,rfl,rfl,hq,he,q⟩:=h;cases rx;obtain⟨t,rfl⟩:=ry;obtain⟨its,r,pl,hz⟩:=I.list hq;obtain⟨j,h1,h2,h3,h4,h5⟩:=mL he;obtain⟨w,ew,rw'⟩:=r.get h2;have hl:=r.length;have hn:=jV;have fin:EP X QV σ Q w s:=%[z,H,I,rw'|q]
 by_cases h0:0<=i
 ·have hj:i.toNat=j:=by rw[seqIndex_of h0 h5]at h1;exact C0 h1
  exact item_listR pl.isList h0 ⋯ (by rw[hj];simpa using ew) fin hs
 ·have hj:(i+(its.toArray.size:Int)).toNat=j:=by rw[seqIndex_neg ⋯ h4]at h1;rw[K2,<- hl];exact C0 h1
  exact subscriptTail_builtinR (x:=w) pl.isList.typeIs slot_list_getitem.lookup
   (wpAny_getItem_list_neg (Q:=λ r s'=>r=w/\EP X QV σ Q r s') pl.isList ⋯ (by rw[K2] <;> lia) ⋯ (by rw[hj];simpa using ew) %[rfl|fin]) hs
theorem ix_tup:IxR X (rIxT X.K):=by
 intro value slice QV s σ H x y v u Q I rx ry h hs;obtain⟨p,xs,i,z,rfl,rfl,hq,he,q⟩:=h;cases rx;obtain⟨t,rfl⟩:=ry;obtain⟨its,r,pl,hz⟩:=I.tuple hq;obtain⟨j,h1,h2,h3,h4,h5⟩:=mL he;obtain⟨w,ew,rw'⟩:=r.get h2;have hl:=r.length;have hn:=jV;have fin:EP X QV σ Q w s:=%[z,H,I,rw'|q]
 exact subscriptTail_builtinR (x:=w) pl.typeIs slot_tuple_getitem.lookup
  (getItem_tuple (j:=j) (Q:=λ r s'=>r=w/\EP X QV σ Q r s') pl ⋯ ⋯ (by rw[K2,<- hl];exact h1) (by simpa using ew) %[rfl|fin]) hs
theorem Bz:IxR X Dq:=by
 intro value slice QV s σ H x y v u Q I rx ry h hs;obtain⟨z,i,c,rfl,rfl,hz,he,q⟩:=h;obtain⟨t,rfl⟩:=rx;obtain⟨t',rfl⟩:=ry;obtain⟨j,h1,h2,h3,h4,h5⟩:=mL he;have hl:z.cps.toList.length=z.length:=by simp[Str.length]
 rw[hl]at h1 h4 h5;have hn:=jV;exact tail_any (typeIs_str s z t) slot_str_getitem.lookup (getItem_str (c:=c) (by
  have e1:decide (i < -(2 ^ 63:Int))=false:=B2 ⋯;have e2:decide (i≥2 ^ 63)=false:=B2 ⋯;rw[e1,e2,Bool.or_false]) (by rw[h1];simpa using h2) %[.str %[|#[c]],H,I.tok _,%[_|rfl]|q]) hs
def rIx(K:C6):R2:=λ x y H Q=>rIxL K x y H Q\/rIxT K x y H Q\/Dq x y H Q
theorem qw:IxR X (rIx X.K):=ix_list.or (ix_tup.or Bz)
theorem qx(its:QT G4)(n j:Nat)(u:G4):Obj.mapSeq (·.setIfInBounds j u) { cls:=.type "list",data:=.seq its.toArray n }={ cls:=.type "list",data:=.seq (its.set j u).toArray n }:=by simp[Obj.mapSeq]
theorem Inv.lst{QV:SY}{σ:St}{H:Hp}{s:G0}{p:QP}{xs:QT V}(I:Inv X QV σ H s)(h:H p=↥xs) :
  ∃(its:QT G4)(n:Nat),Vals xs its/\s.heap.get? p=some { cls:=.type "list",data:=.seq its.toArray n }/\xs.length<=sizeLine:=by
 obtain⟨z,its,n,r,e⟩:=I.hok p _ h;exact%[its,n,r,e|z]
theorem Inv.lstUpd{QV:SY}{σ:St}{H:Hp}{s:G0}{p:QP}{xs ys:QT V}{its its':QT G4}{n n':Nat}{f:Obj->Obj}(I:Inv X QV σ H s)(h:H p=↥xs)
  (ho:s.heap.get? p=some { cls:=.type "list",data:=.seq its.toArray n }) (hf:f { cls:=.type "list",data:=.seq its.toArray n }={ cls:=.type "list",data:=.seq its'.toArray n' }) (r:Vals ys its') (hz:ys.length<=sizeLine) (t:Nat) :
  Inv X QV σ (upd H p (.lst ys)) { s with heap:=s.heap.update p f,toks:=t }:=by
 have e:(s.heap.update p f).get? p=some { cls:=.type "list",data:=.seq its'.toArray n' }:=by rw[RE f ho (by rw[hf] <;> rfl),hf]
 apply I.write (x:=p) (e:=p) (by rw[h];trivial) (.inl rfl) (λ b u hb q=>(Heap.get?_update_other _ _ (Ne.symm hb)).trans q) %[_|e] ?_;exact%[hz,its',n',r|e]
inductive rSetL(o:V)(i:V)(v:V)(H:Hp)(Q:Hp->Prop):Prop
|mk(p:QP)(xs:QT V)(k:Int)(j:Nat)(_:o=.ref p)(_:i=.int k)(_:H p=↥xs)(_:ixN xs.length k=some j)(_:Q (upd H p (.lst (xs.set j v))))
theorem fR:Df X rSetL:=by
 intro QV s σ H o i v ov iv u Q I ro ri rv h;obtain⟨p,xs,k,j,rfl,rfl,hp,hj,q⟩:=h;cases ro;obtain⟨t,rfl⟩:=ri;obtain⟨its,n,r,ho,hz⟩:=I.lst hp;obtain⟨h1,h2,h3,h4⟩:=rH hj;have hl:=r.length;have hn:=jV;have I':Inv X QV σ (upd H p (.lst (xs.set j v))) { s with heap:=s.heap.update p (Obj.mapSeq (·.setIfInBounds j u)) } :=
  I.lstUpd hp ho (qx its n j u) (r.set rv j) (by rw[List.length_set];exact hz) s.toks
 by_cases h0:0<=k
 ·have hk:k.toNat=j:=by rw[seqIndex_of h0 h4]at h1;exact C0 h1
  exact PySem.W.ki_setAt ho h0 ⋯ (by rw[K2,<- hl];exact h4) (by rw[hk];exact%[_,I'|q])
 ·have hk:(k+(its.toArray.size:Int)).toNat=j:=by rw[seqIndex_neg ⋯ h3]at h1;rw[K2,<- hl];exact C0 h1
  exact PySem.W.ki_setBack ho ⋯ (by rw[K2,<- hl];exact h3) ⋯ (by rw[hk];exact%[_,I'|q])
theorem mN(lo hi:QR Int)(n:Nat):(sliceBounds lo hi none n).1=((HT.sIx n 0 lo:Nat):Int)/\(sliceBounds lo hi none n).2.1=((HT.sIx n n hi:Nat):Int)/\(sliceBounds lo hi none n).2.2=1:=by
 apply%[?_,?_|O]
 ·cases lo with
  | none=>simp[sliceBounds,HT.sIx]
  | some i=>
   simp only[sliceBounds,HT.sIx,Option.getD_none,show(1:Int) > 0 by decide,RL]
   by_cases h:i < 0
   ·simp only[h,RL] <;> lia
   ·simp only[h,Qv] <;> lia
 ·cases hi with
  | none=>simp[sliceBounds,HT.sIx]
  | some i=>
   simp only[sliceBounds,HT.sIx,Option.getD_none,show(1:Int) > 0 by decide,RL]
   by_cases h:i < 0
   ·simp only[h,RL] <;> lia
   ·simp only[h,Qv] <;> lia
theorem lu(its:QT G4)(lo hi:QR Int):slicePick its.toArray lo hi none=((its.drop (HT.sIx its.length 0 lo)).take (HT.sIx its.length its.length hi - HT.sIx its.length 0 lo)).toArray:=by obtain⟨h1,h2,h3⟩:=mN lo hi its.toArray.size;unfold slicePick;rw[h1,h2,h3];simp only[sliceRange_one,pick_run,K2] <;> rfl
inductive rSlL(K:C6)(x:V)(lo:QR Int)(hi:QR Int)(H:Hp)(Q:VK):Prop
|mk(a:QP)(xs:QT V)(_:x=.ref a)(_:SqL K H a xs)(_:∀p,H p=none->Q (.ref p) (upd H p (.lst (nZ xs lo hi))))
theorem Md:SlR X (rSlL X.K):=by intro QV s σ H x v vl vu lo hi sl Q I rx hs pl pu h;obtain⟨a,xs,rfl,hx,q⟩:=h;cases rx;obtain⟨its,r,ht,hz⟩:=I.list hx;have QX:=r.length;apply%["list",_,slot_list_getitem.lookup,ht.isList.typeIs|?_];apply wpAny_getItem_list_slice ht.isList hs pl pu .none (by simp) ?_ (by rw[K2] <;> lia);rw[lu,<- QX];apply%[.ref s.heap.objs.size,_,I.laid (t':=s.toks) (o:=.lst (nZ xs lo hi)) (λ b ob q=>A8 _ q) (B4 _) ?_,O|q _ (I.hok.fresh (B4 _))];exact%[C7 (jo xs lo hi) hz,_,0,(r.drop (HT.sIx xs.length 0 lo)).take (HT.sIx xs.length xs.length hi - HT.sIx xs.length 0 lo)|A9 _ rfl]
def jq:V->Bool
 | .non=>true
 | .bl _=>true
 | .int _=>true
 | .str _=>true
 | _=>false
def eqV:V->V->Bool
 | .non,.non=>true
 | .bl a,.bl b=>a == b
 | .bl a,.int b=>(if a then 1 else 0) == b
 | .int a,.bl b=>a == (if b then 1 else 0)
 | .int a,.int b=>a == b
 | .str a,.str b=>a == b
 | _,_=>false
theorem BA{A:Around}{s:G0}{y x:V}{u v:G4}(ry:RelV y u)(rx:RelV x v)(fy:jq y=true)(fx:jq x=true):SeqAt.EqAt A s u v (eqV y x):=by
 cases y with
 | non=>
  cases ry;cases x with
  | non=>cases rx;exact SeqAt.EqAt.same _
  | bl b=>cases rx;exact SeqAt.EqAt.none_bool b
  | int b=>obtain⟨t,rfl⟩:=rx;exact SeqAt.EqAt.none_int b t
  | str b=>obtain⟨t,rfl⟩:=rx;exact SeqAt.EqAt.none_str b t
  | _=>exact absurd (show false=true from fx) B3
 | bl a=>
  cases ry;cases x with
  | non=>cases rx;exact SeqAt.EqAt.bool_none a
  | bl b=>cases rx;exact SeqAt.EqAt.bool_bool a b
  | int b=>obtain⟨t,rfl⟩:=rx;exact SeqAt.EqAt.bool_int a b t
  | str b=>obtain⟨t,rfl⟩:=rx;exact SeqAt.EqAt.bool_str a b t
  | _=>exact absurd (show false=true from fx) B3
 | int a=>
  obtain⟨t',rfl⟩:=ry;cases x with
  | non=>cases rx;exact SeqAt.EqAt.int_none a t'
  | bl b=>cases rx;exact SeqAt.EqAt.int_bool a t' b
  | int b=>obtain⟨t,rfl⟩:=rx;exact SeqAt.EqAt.int_int a t' b t
  | str b=>obtain⟨t,rfl⟩:=rx;exact SeqAt.EqAt.int_str a t' b t
  | _=>exact absurd (show false=true from fx) B3
 | str a=>
  obtain⟨t',rfl⟩:=ry;cases x with
  | non=>cases rx;exact SeqAt.EqAt.str_none a t'
  | bl b=>cases rx;exact SeqAt.EqAt.str_bool a t' b
  | int b=>obtain⟨t,rfl⟩:=rx;exact SeqAt.EqAt.str_int a t' b t
  | str b=>obtain⟨t,rfl⟩:=rx;exact SeqAt.EqAt.str_str a t' b t
  | _=>exact absurd (show false=true from fx) B3
 | _=>exact absurd (show false=true from fy) B3
def eqU(x:V)(u:G4):Bool:=match u with
 | .none=>eqV .non x
 | .bool b=>eqV (.bl b) x
 | .int i _=>eqV (.int i) x
 | .str z _=>eqV (.str z) x
 | _=>false
theorem wT{x y:V}{u:G4}(r:RelV y u)(f:jq y=true):eqU x u=eqV y x:=by
 cases y with
 | non=>cases r;rfl
 | bl b=>cases r;rfl
 | int i=>obtain⟨t,rfl⟩:=r;rfl
 | str z=>obtain⟨t,rfl⟩:=r;rfl
 | _=>exact absurd (show false=true from f) B3
theorem mO{x:V}:∀{xs:QT V}{us:QT G4},Vals xs us->xs.all jq=true->us.any (eqU x)=xs.any λ y=>eqV y x
 | _,_,.nil,_=>rfl
 | y :: xs,u :: us,.cons r t,f=>by rw[List.all_cons,M9]at f;rw[List.any_cons,List.any_cons,wT r f.1,mO t f.2]
theorem jX{A:Around}{s:G0}{x:V}{v:G4}(rx:RelV x v)(fx:jq x=true):∀{xs:QT V}{us:QT G4},Vals xs us->xs.all jq=true->∀u∈us,SeqAt.EqAt A s u v (eqU x u)
 | _,_,.nil,_=>λ u hu=>by cases hu
 | y :: xs,u :: us,.cons r t,f=>λ u' hu=>by
  rw[List.all_cons,M9]at f;rcases J4.mp hu with rfl | hu
  ·rw[wT r f.1];exact BA r rx f.1 fx
  ·exact jX rx fx t f.2 u' hu
def inV(x:V)(xs:QT V):Bool:=xs.any λ y=>eqV y x
def rIn(K:C6)(neg:Bool):R2:=λ x y H Q=>∃p xs,y=.ref p/\(SqL K H p xs\/SqT K H p xs)/\jq x=true/\xs.all jq=true/\Q (.bl (if neg then !inV x xs else inV x xs)) H
theorem tN:OpR X (compareOp .In) (rIn X.K false):=by
 intro QV s σ H x y v u Q I rx ry h;obtain⟨p,xs,rfl,hq,fx,fs,q⟩:=h;cases ry;rcases hq with hq | hq
 ·obtain⟨its,r,pl,hz⟩:=I.list hq;apply SeqAt.in_listAt (eqU x) pl.isList (λ w hw=>jX rx fx r fs w (by simpa using hw)) %[.bl _,H,I,rfl|?_];rw[show its.toArray.any (eqU x)=its.any (eqU x)by simp,mO r fs];exact q
 ·obtain⟨its,r,pl,hz⟩:=I.tuple hq;apply SeqAt.in_tupleAt (eqU x) pl (λ w hw=>jX rx fx r fs w (by simpa using hw)) %[.bl _,H,I,rfl|?_];rw[show its.toArray.any (eqU x)=its.any (eqU x)by simp,mO r fs];exact q
inductive rz_op_notIn_str(x:V)(y:V)(H:Hp)(Q:VK):Prop
|mk(i j:_)(_:x=.str i)(_:y=.str j)(_:Q (.bl (!(!(Builtin.Str.occurrences j i 0 j.length 1).isEmpty))) H)
inductive rz_call_len_seq(K:C6)(xs:QT V)(H:Hp)(Q:VK):Prop
|mk(p ys:_)(_:xs=[.ref p])(_:(SqL K H p ys\/SqT K H p ys))(_:Q (.int ys.length) H)
theorem aN:cD X (.builtin "len") (rz_call_len_seq X.K):=by
 intro QV s σ H xs us Q I r h;obtain⟨p,ys,rfl,hq,q⟩:=h;obtain⟨u,rfl,rx⟩:=fC r;cases rx;have hn:=jV;rcases hq with hq | hq
 ·obtain⟨its,r',pl,hz⟩:=I.list hq;have QX:=r'.length;exact Calls.call_len_list pl.isList (by simp only[K2] <;> lia) %[.int ys.length,H,I.tok _,%[s.toks+1|by rw[K2,QX]]|q]
 ·obtain⟨its,r',pl,hz⟩:=I.tuple hq;have QX:=r'.length;exact len_tuple pl (by simp only[K2] <;> lia) %[.int ys.length,H,I.tok _,%[s.toks+1|by rw[K2,QX]]|q]
inductive rz_call_len_str(xs:QT V)(H:Hp)(Q:VK):Prop
|mk(z:_)(_:xs=[.str z])(_:z.length<=sizeLine)(_:Q (.int z.length) H)
inductive rz_call_list_of(K:C6)(xs:QT V)(H:Hp)(Q:VK):Prop
|mk(p ys:_)(_:xs=[.ref p])(_:(SqL K H p ys\/SqT K H p ys))(_:∀l,H l=none->Q (.ref l) (upd H l (.lst ys)))
theorem mP:cD X (.type "list") (rz_call_list_of X.K):=by
 intro QV s σ H xs us Q I r h;obtain⟨p,ys,rfl,hq,q⟩:=h;obtain⟨u,rfl,rx⟩:=fC r;cases rx;have fin:∀(its:QT G4),Vals ys its->ys.length<=sizeLine->∀(h':Heap)(c':Nat),(∀b o',s.heap.get? b=some o'->h'.get? b=some o') ->
   h'.get? s.heap.objs.size=some { cls:=.type "list",dict:=none,data:=.seq its.toArray c',slots:=#[] }->EP X QV σ Q (.ref s.heap.objs.size) { s with heap:=h' }:=λ its r' hz h' c' kp e=>
  %[.ref s.heap.objs.size,_,I.laid (t':=s.toks) kp (B4 _) (show ObjOk X.prog X.w _ h' _ (.lst ys)from%[hz,its,c',r'|e]),rfl|q _ (I.hok.fresh (B4 _))]
 rcases hq with hq | hq
 ·obtain⟨its,r',pl,hz⟩:=I.list hq;have QX:=r'.length;obtain⟨o,ho,hc,n,hd⟩:=pl.isList;exact call_list_seq p (.inl rfl) ho hc hd (λ h' c' kp e=>fin its r' hz h' c' kp e) (by simp only[K2] <;> lia)
 ·obtain⟨its,r',pl,hz⟩:=I.tuple hq;have QX:=r'.length;obtain⟨o,ho,hc,n,hd⟩:=pl;exact call_list_seq p (.inr rfl) ho hc hd (λ h' c' kp e=>fin its r' hz h' c' kp e) (by simp only[K2] <;> lia)
inductive rz_call_tuple_of(K:C6)(xs:QT V)(H:Hp)(Q:VK):Prop
|mk(p ys:_)(_:xs=[.ref p])(_:((SqL K H p ys/\∀l,H l=none->Q (.ref l) (upd H l (.tup ys)))\/(SqT K H p ys/\Q (.ref p) H)))
theorem aL:cD X (.type "tuple") (rz_call_tuple_of X.K):=by
 intro QV s σ H xs us Q I r h;obtain⟨p,ys,rfl,h⟩:=h;obtain⟨u,rfl,rx⟩:=fC r;cases rx;rcases h with⟨hq,q⟩ | ⟨hq,q⟩
 ·obtain⟨its,r',pl,hz⟩:=I.list hq;have QX:=r'.length;apply call_tuple_list pl.isList (λ h' kp=>?_) (by simp only[K2] <;> lia);have I1:Inv X QV σ H { s with heap:=h' }:=I.kept (t':=s.toks) kp;have I2:Inv X QV σ (upd H h'.objs.size (.tup ys)) { s with heap:=h'.push { cls:=.type "tuple",data:=.seq its.toArray } } :=
   I1.laid (t':=s.toks) (λ b o e=>A8 _ e) (B4 _) (show ObjOk X.prog X.w _ _ _ (.tup ys)from%[hz,its,r'|IsTup.new _ _])
  exact%[.ref h'.objs.size,_,I2,O|q _ (I1.hok.fresh (B4 _))]
 ·obtain⟨its,r',pl,hz⟩:=I.tuple hq;exact call_tuple_same pl %[.ref p,H,I,rfl|q]
def tyV(K:C6)(T:String)(x:V)(H:Hp):Prop:=match x with
 | .str _=>T = "str"
 | .int _=>T = "int"
 | .ref p=>(T = "list" /\ ∃xs,SqL K H p xs)\/(T = "tuple" /\ ∃o,K.lookup p=some o/\o.cls=.type "tuple" /\ o.dict=none) \/
   (T = "dict" /\ ((∃kvs,H p=some (.dK kvs))\/∃kvs,H p=some (.dT kvs)))\/(T = "set" /\ ∃S n,H p=some (.set S n))
 | _=>False
theorem BB{QV:SY}{σ:St}{H:Hp}{s:G0}{T:String}{x:V}{v:G4}(I:Inv X QV σ H s)(r:RelV x v)(ty:tyV X.K T x H) :
  s.TypeIs v T/\∀a,v=.ref a->∃ob,s.heap.get? a=some ob/\ob.dict=none:=by
 cases x with
 | str z=>
  obtain⟨t,rfl⟩:=r;cases(show T = "str" from ty);exact%[typeIs_str s z t|λ _ e=>nomatch e]
 | int i=>
  obtain⟨t,rfl⟩:=r;cases(show T = "int" from ty);exact%[typeIs_int s i t|λ _ e=>nomatch e]
 | ref p=>
  cases r;rcases ty with⟨rfl,xs,hq⟩ | ⟨rfl,o,hk,hc,hd⟩ | ⟨rfl,hk⟩ | ⟨rfl,S,n,hk⟩
  ·obtain⟨its,_,pl,_⟩:=I.list hq;apply%[pl.isList.typeIs|λ a e=>?_];cases e;obtain⟨o,n,e,c,hd,_⟩:=pl;exact%[o,e|hd]
  ·apply%[%[o,I.kIn p o hk|hc]|λ a e=>?_];cases e;exact%[o,I.kIn _ o hk|hd]
  ·have z:∃o,s.heap.get? p=some o/\o.ExactDict:=by
    rcases hk with⟨kvs,hk⟩ | ⟨kvs,hk⟩
    ·obtain⟨_,_,_,_,o,_,_,e,ex,_⟩:=I.hok p _ hk;exact%[o,e|ex]
    ·obtain⟨_,_,_,_,o,_,_,e,ex,_⟩:=I.hok p _ hk;exact%[o,e|ex]
   obtain⟨o,e,ex⟩:=z;apply%[%[o,e|ex.1]|λ a e2=>?_];cases e2;exact%[o,e|ex.2.1]
  ·obtain⟨o,_,_,_,e,ex,_⟩:=I.hok p _ hk;apply%[%[o,e|ex.1]|λ a e2=>?_];cases e2;exact%[o,e|ex.2.1]
 | _=>exact F1 ty
def tBM(K:C6)(T:String)(r:V->QT V->Hp->VK->Prop)(to:TE)(t:TA):TE:=λ σ H Q=>to σ H λ x H1=>tyV K T x H1/\t σ H1 λ xs H2=>r x xs H2 Q
variable{o e:Expr}{es:QT Expr}{to:TE}{t:TA}{name:Str}{apos cpos:Pos}{T id:String}{r:V->QT V->Hp->VK->Prop}
theorem fS(pa:PlainAttrs T)(slot:Slot T name id)(hty:typeOf (.builtin id)=pure (.type "method_descriptor"))(hm:MtR X id r)(ho:PE X o to)(ha:PA X (e :: es) t)
  (hbase:attributeBase o name X.env (eval o X.env)=eval o X.env:=by rfl)
  (hfew:((backTo cpos (starEach (e :: es) X.env)).all (λ x=>!x.1) && (backToKw cpos (keywordEach [] X.env)).all (λ x=>x.1.isSome)
   && decide ((e :: es).length+([]:QT Keyword).length+(if ([]:QT Keyword).isEmpty then 0 else 1) < 30))=true:=by rfl)
  (hline:(apos.endLine == cpos.line)=true:=by rfl) (hs:starEach (e :: es) X.env=(false,eval e X.env) :: starEach es X.env:=by rfl) (hplain:(backTo cpos (starEach es X.env)).any (·.1)=false:=by rfl) :
  PE X (.Call (.Attribute o name apos) (e :: es) [] cpos) (tBM X.K T r to t):=by
 intro QV s σ H Q I h;apply wpAny_Call_method_late hbase hfew hline rfl (thn (ho QV s σ H _ I h) ?_);rintro v s1 ⟨x,H1,I1,r1,ty,q1⟩;obtain⟨h1,h2⟩:=BB I1 r1 ty;apply%[T,id,pa,slot,hty,h1,h2|?_];have hA:=ha cpos QV s1 σ H1 _ I1 q1;rw[hs]at hA ⊢;apply Calls.callWith_builtin (by show(false || (backTo cpos (starEach es X.env)).any (·.1))=false;rw[hplain] <;> rfl) (Calls.evalArgs_plain ?_);exact thn hA λ us s2 %[vs,H2,I2,r2|q2]=>hm QV s2 σ H2 x vs v us Q I2 r1 r2 q2
/- xs.append(e),list.index on a module's tuple .. are MtR facts of 06m -/
end
def MtM(X:Cx)(id:String)(r:V->QT V->Hp->VK->Prop):Prop :=
 ∀(QV:SY)(s:G0)(σ:St)(H:Hp)(x:V)(xs:QT V)(v:G4)(us:QT G4)(Q:VK),Inv X QV σ H s->RelV x v->Vals xs us->r x xs H Q ->
  wpAny (model X.prog X.w) X.A (call (.builtin id) (v :: us)) (EP X QV σ Q) X.xe s
theorem Vals.one:∀{x:V}{us:QT G4},Vals [x] us->∃u,us=[u]/\RelV x u
 | _,_,.cons r .nil=>%[_,O|r]
theorem Vals.dropLast{xs:QT V}{us:QT G4}(h:Vals xs us):Vals xs.dropLast us.dropLast:=by
 induction h with
 | nil=>exact .nil
 | cons r t ih=>
  cases t with
  | nil=>exact .nil
  | cons q t'=>exact .cons r ih
theorem Vals.rep{xs:QT V}{us:QT G4}(h:Vals xs us):∀k:Nat,Vals (List.replicate k xs).flatten (List.replicate k us).flatten
 | 0=>.nil
 | k+1=>by rw[O8,O8,Pu,Pu];exact Vals.append h (Vals.rep h k)
theorem BC{α:Type}(l:QT α):l.eraseIdx (l.length - 1)=l.dropLast:=by
 induction l with
 | nil=>rfl
 | cons a r ih=>
  cases r with
  | nil=>rfl
  | cons b r=>
   have e:(a :: b :: r).length - 1=((b :: r).length - 1)+1:=by have h1:(a :: b :: r).length=r.length+2:=rfl;have h2:(b :: r).length=r.length+1:=rfl;lia
   rw[e,List.eraseIdx_cons_succ,ih]
   all_goals rfl
theorem lL(its:QT G4):∀(k:Nat)(acc:QT G4),
  List.foldl (λ x1 x2=>x1 ++ x2) acc.toArray (List.replicate k its.toArray)=(acc ++ (List.replicate k its).flatten).toArray
 | 0,acc=>by simp
 | k+1,acc=>by
  have e:acc.toArray ++ its.toArray=(acc ++ its).toArray:=by simp
  have e2:(acc ++ its) ++ (List.replicate k its).flatten=acc ++ (List.replicate (k+1) its).flatten:=by rw[O8,Pu,K5]
  rw[<- e2,<- lL its k (acc ++ its),<- e,O8,O5]
section
variable{X:Cx}{QV:SY}{σ:St}{H:Hp}{s:G0}{l b:QP}{xs ys zs:QT V}
theorem Inv.lset{its its':QT G4}{n:Nat}{f:QS G4->QS G4}{t':Nat}(I:Inv X QV σ H s)(hH:H l=↥xs)
  (e:s.heap.get? l=some { cls:=.type "list",data:=.seq its.toArray n }) (hf:f its.toArray=its'.toArray) (hv:Vals ys its') (hz:ys.length<=sizeLine) :
  Inv X QV σ (upd H l (.lst ys)) { s with heap:=s.heap.update l (Obj.mapSeq f),toks:=t' }:=by
 have q:=PySem.IsL.update e f;rw[hf]at q;apply I.write (x:=l) (e:=l) (by rw[hH];exact trivial) (.inl rfl) (λ b' u hb hu=>(Heap.get?_update_other s.heap (Obj.mapSeq f) (Ne.symm hb)).trans hu) %[_|q] ?_;exact%[hz,its',_,hv|q]
theorem Inv.lnew{its:QT G4}{t':Nat}(I:Inv X QV σ H s)(hv:Vals ys its)(hz:ys.length<=sizeLine) :
  Inv X QV σ (upd H s.heap.objs.size (.lst ys)) { s with heap:=s.heap.push { cls:=.type "list",data:=.seq its.toArray },toks:=t' } :=
 I.laid (λ _ _ q=>A8 _ q) (B4 _) %[hz,its,0,hv|A9 _ rfl]
theorem Inv.fresh(I:Inv X QV σ H s):H s.heap.objs.size=none:=I.hok.fresh (B4 _)
theorem Inv.lstM(I:Inv X QV σ H s)(hH:H l=↥xs):xs.length<=sizeLine/\∃(its:QT G4)(n:Nat),Vals xs its/\xs.length=its.length/\s.heap.get? l=some { cls:=.type "list",data:=.seq its.toArray n }:=by obtain⟨z,its,n,r,e⟩:=I.hok l _ hH;exact%[z,its,n,r,r.length|e]
theorem og{n:Nat}(h:n<=sizeLine):Builtin.List.listTooLong n=false:=by unfold Builtin.List.listTooLong;exact B2 ⋯
end
section
variable{X:Cx}
inductive rAppend(x:V)(vs:QT V)(H:Hp)(Q:VK):Prop
|mk(l:QP)(xs:QT V)(y:V)(_:x=.ref l)(_:vs=[y])(_:H l=↥xs)(_:xs.length < sizeLine)(_:Q .non (upd H l (.lst (xs ++ [y]))))
theorem cx:MtM X "list.append" rAppend:=by intro QV s σ H x vs v us Q I rx rv h;obtain⟨l,xs,y,rfl,rfl,hH,hz,q⟩:=h;cases rx;obtain⟨u,rfl,ru⟩:=rv.one;obtain⟨z,its,n,r,hl,e⟩:=I.lstM hH;apply call_meets F.slot_list_append %[_,e|O] F.entry_list_append (F.args_list_append_2 _ _) (PySem.list_append l its.toArray n u (by rw[K2];lia)) %[e|?_];apply%[.non,_,I.lset (its':=its ++ [u]) hH e (by simp) (r.append (.cons ru .nil)) ?_,O|q];rw[J7,List.length_singleton];lia
def zK:V->QT V->Hp->VK->Prop:=λ x vs H Q=>∃l b xs zs,x=.ref l/\vs=[.ref b]/\H l=↥xs/\H b=↥zs/\xs.length+zs.length<=sizeLine/\Q .non (upd H l (.lst (xs ++ zs)))
theorem Da:MtM X "list.extend" zK:=by
 intro QV s σ H x vs v us Q I rx rv h;obtain⟨l,b,xs,zs,rfl,rfl,hH,hB,hz,q⟩:=h;cases rx;obtain⟨u,rfl,ru⟩:=rv.one;cases ru;obtain⟨z,its,n,r,hl,e⟩:=I.lstM hH;obtain⟨z2,its2,n2,r2,hl2,e2⟩:=I.lstM hB;have hsz:its.toArray.size+its2.toArray.size<=sizeLine:=by rw[K2,K2];lia
 have hlong:¬ (!its.toArray.isEmpty && Builtin.List.listTooLong (its.toArray.size+its2.toArray.size))=true:=by rw[og hsz,Bool.and_false];exact B3
 apply call_meets F.slot_list_extend %[_,e|O] F.entry_list_extend (F.args_list_extend_2 _ _)
  (AutoSeq1.list_extend_list_list_0 l its.toArray n b its2.toArray n2 hlong (by rw[K2];lia) ⋯) %[e,e2|?_]
 apply%[.non,_,I.lset (its':=its ++ its2) hH e (by simp) (r.append r2) ?_,O|q];rw[J7];lia
inductive rCat(x:V)(y:V)(H:Hp)(Q:VK):Prop
|mk(l b:QP)(xs zs:QT V)(_:x=.ref l)(_:y=.ref b)(_:H l=↥xs)(_:H b=↥zs)(_:xs.length+zs.length<=sizeLine)(_:∀p,H p=none->Q (.ref p) (upd H p (.lst (xs ++ zs))))
theorem wU:OpR X (binaryOp .Add) rCat:=by
 intro QV s σ H x y v u Q I rx ry h;obtain⟨l,b,xs,zs,rfl,rfl,hH,hB,hz,q⟩:=h;cases rx;cases ry;obtain⟨z,its,n,r,hl,e⟩:=I.lstM hH;obtain⟨z2,its2,n2,r2,hl2,e2⟩:=I.lstM hB;apply PySem.P.add_list e e2 ?_ (by rw[K2,K2];lia);have ea:its.toArray ++ its2.toArray=(its ++ its2).toArray:=by simp
 rw[ea];exact%[.ref _,_,I.lnew (t':=s.toks) (r.append r2) (by rw[J7];lia),O|q _ I.fresh]
def Mz:R2:=λ x y H Q=>∃l k xs,x=.ref l/\y=.int k/\H l=↥xs/\-(2 ^ 63)<=k/\k < 2 ^ 63/\xs.length * k.toNat<=sizeLine /\
 ∀p,H p=none->Q (.ref p) (upd H p (.lst (List.replicate k.toNat xs).flatten))
theorem zL{α:Type}(xs:QT α)(k:Nat):(List.replicate k xs).flatten.length=k * xs.length:=by
 induction k with
 | zero=>simp
 | succ k ih=>rw[O8,Pu,J7,ih,Nat.succ_mul,Nat.add_comm]
theorem wV:OpR X (binaryOp .Mult) Mz:=by
 intro QV s σ H x y v u Q I rx ry h;obtain⟨l,k,xs,rfl,rfl,hH,h1,h2,hz,q⟩:=h;cases rx;obtain⟨t,rfl⟩:=ry;obtain⟨z,its,n,r,hl,e⟩:=I.lstM hH;have QX:its.toArray.size * k.toNat<=sizeLine:=by rw[K2,<- hl];exact hz
 have hcap:¬ its.toArray.size * k.toNat > (2 ^ 63 - 1) / 8:=by
  have:(sizeLine:Nat)<=(2 ^ 63 - 1) / 8:=∅
  lia
 have hfit:¬ (!Builtin.List.listFitsIndex k)=true:=by rw[fitsIndex_both h1 h2];exact B3
 have hlong:¬ Builtin.List.listTooLong (its.toArray.size * k.toNat)=true:=by rw[og QX];exact B3
 have hnew:List.foldl (λ x1 x2=>x1 ++ x2) #[] (List.replicate (if its.toArray.isEmpty=true then 0 else k.toNat) its.toArray)=(List.replicate k.toNat its).flatten.toArray:=by
  have f0:∀m:Nat,List.foldl (λ x1 x2=>x1 ++ x2) #[] (List.replicate m its.toArray)=(List.replicate m its).flatten.toArray:=λ m=>by have:=lL its m [];rw[List.nil_append]at this;exact this
  rw[f0];cases its with
  | nil=>simp
  | cons a r'=>rw[QZ (by simp)]
 apply wpAny_binaryOp_repeat_ref (T := "list") (U := "int") ∅ %[_,e|rfl] (λ s'=>typeIs_int s' k t) noFill_list_mul F.fills_int_mul F.slot_int_rmul repeat_list F.slot_int_index.lookup
  (call_meets F.slot_int_rmul (typeIs_int s k t) F.entry_int_rmul (F.args_int_rmul_2 _ _) (int___rmul___int_list k t l its.toArray n)
   %[e,rfl,%[_,e|rfl]|call_meets F.slot_list_mul %[_,e|rfl] F.entry_list_mul (F.args_list_mul_2 _ _) (AutoListH.list___mul___list_int_3 l its.toArray n k t hfit hcap hlong) %[e|?_]])
 rw[hnew];exact%[.ref _,_,I.lnew (t':=s.toks) (r.rep k.toNat) (by rw[zL,Nat.mul_comm];exact hz),O|q _ I.fresh]
end
end L2
namespace Att
open PySem PySem.W PySem.Calls PyProof.Rows
theorem jx{P:Params}{h:Heap}:∀(ns:SW)(vs:QT G4),WellAll P h vs (ns.map WData.int)->IntsAre vs ns:=by
 intro ns
 induction ns with
 | nil=>
  intro vs w;rw[N3]at w;cases w;exact .nil
 | cons n ns ih=>
  intro vs w;rw[J8]at w;cases w with
  | cons a b=>
   cases a;exact .cons _ _ (ih _ b)
theorem tO{l:OpenLaw}{n:Nat}(hn:l.most=some n){P:Params}{h:Heap}{args:QT WData}{vals:QT G4}
  (hpre:l.row.toRowW.claim.pre args=true) (hwl:WellAll P h vals args) :
  ∃a vs ns,vals=[Value.ref a]/\args=[WData.list (ns.map WData.int)]/\h.get? a=some { cls:=.type "list",data:=.seq vs.toArray }/\IntsAre vs ns/\ns.length<=n:=by
 have hsh:WShape.hasAll [] args [.list .int]=true:=(pre_splitW hpre).1;have hc:l.pre.holds [] { args:=args }=true:=(pre_splitW hpre).2;obtain⟨d,r,rfl,h1,h2⟩:=hasAllW_cons hsh;obtain rfl:=hasAllW_nil h2;obtain⟨xs,rfl,h3⟩:=hasW_list h1;obtain⟨ns,rfl⟩:=items_int h3;have QX:ns.length<=n:=by
  unfold OpenLaw.pre at hc;have h4:(WTm.not (.lt (.lit (.int (n:Int))) (.len (.arg 0)))).holds [] { args:=[.list (ns.map .int)] }=true:=by have h4:=(holds_andW hc).1;rw[hn]at h4;exact h4
  have h5:=condW_of h4 (w_not (w_lt w_lit (w_len_list (w_arg rfl))));rw[B5]at h5;apply Nat.le_of_not_lt λ q=>?_;have q':(n:Int) < ((ns.length:Nat):Int):=⋯
  first
   | (rw[Qb q']at h5;exact absurd h5 ∅)
   | (simp at h5;lia)
 cases hwl with
 | cons w1 w2=>
  cases w2;cases w1 with
  | list ho hall=>exact%[_,_,ns,O,O,ho,jx ns _ hall|QX]
theorem tP(l:OpenLaw)(args:QT WData):l.row.toRowW.claim.post args (.bool true) args=true :=
 postW_of (r:=l.row.toRowW) (X:=(true == true))
  (show WShape.has [] (.bool true) .bool=true by first | rfl | decide | simp[WShape.has,WShape.arms,WShape.armsAll])
  (show(WTm.eq .res (.lit (.bool true))).value [] { args:=args,res:=some (.bool true),after:=args }=some (.bool (true == true))from w_eq_bool (w_res rfl) w_lit) rfl
theorem attach_call{l:OpenLaw}{n:Nat}{q:G1}{loose:QT Str}{XP:(Str->QR G4)->Heap->Prop}{YP:G3->Heap->Prop}{d:DefRec}
  (hn:l.most=some n) (hdf:d.params.defaults=[])
  (call:∀(w:G3)(s₀ s₁:G0)(mg mb:Str->QR G4)(fa:QP)(o:Obj)(pm cd doc:G4)(a:QP)(vs:QT G4)(ns:SW),
   Ground q loose [] XP w s₀ mg mb s₁.heap->YP w s₁.heap ->
   s₁.heap.get? fa=some o->o.data=.func (docDef d.name d.params d.body d.scope pm cd doc)->s₁.heap.CodeRec cd d.name->mg d.name=↑fa ->
   s₁.heap.get? a=some { cls:=.type "list",data:=.seq vs.toArray }->IntsAre vs ns->ns.length<=n->s₁.gens=#[] ->
   codeAny (model l.prog w) callerA (.call (.ref fa) %[[.ref a]|[]]) (λ r s'=>r=.ok (.ret (.bool true))/\OldK s₁.heap s'.heap/\s'.os=s₁.os/\AllBare s'.gens) s₁) :
  WalkO q loose XP YP l.row.toRowW d [] (λ f vs=>PySem.call f vs):=by
 intro w s₀ s₁ mg mb G Y fa o pm cd doc dV kV ho hd hcd hD hmg hg args vals as hpre hlay hrd hwl hlo;obtain rfl:dV=.none:=Dflts.none hD hdf;obtain rfl:kV=.none:=Dflts.noKw hD;obtain⟨a,vs,ns,rfl,rfl,hobj,hints,QX⟩:=tO hn hpre hwl;apply enter_call (codeAny_mono (call w s₀ s₁ mg mb fa o pm cd doc a vs ns G Y ho (fd_plain hd) hcd hmg hobj hints QX hg) λ r s' hq=>?_);obtain⟨rfl,h2,h3,h4⟩:=hq;exact%[.inl %[.bool true,.bool true,[],O,λ _=>rfl,.bool true,tP l _|λ _=>%[List.Pairwise.nil|λ _ hm=>(nomatch hm)]],h2,h3|h4]
section
variable{prog:G1}{w:G3}{A:Around}{E:G4->G0->Prop}{s:G0}{K:Frag}
def MA(h:Heap)(L d:QP):SY:=(List.range h.objs.size).filterMap λ a=>if a=L\/a=d then none else(h.get? a).map λ o=>(a,o)
end
end Att
namespace L2
open PySem PySem.Spec PyProof.Rows
theorem iW:∀{vs:QT G4}{ns:SW},IntsAre vs ns->Vals (ns.map V.int) vs
 | _,_,.nil=>.nil
 | _,_,.cons n t h=>.cons %[t|O] (iW h)
def BD(H:Hp):Prop:=∀b,H b=none\/∃o xs,H b=some (.frz o (.lst xs))
theorem wW{P:G1}{w:G3}{K:C6}{mg mb:Str->QR G4}{CX:CXT}{k:Nat}{fa a:QP}{fd:G2}{x:Str}{sp:Sp}{s₁:G0}{vs:QT G4}{ns:SW}
  (KX:K.In s₁.heap) (hns:s₁.heap.Ns QU mg) (hb:s₁.heap.Ns builtinsNs mb) (hbb:∀x:Str,x ≠ "__name__" -> mb x=bootBuiltins x) (hlim:s₁.heap.NoLimit) (hg:s₁.gens=#[])
  (ha:s₁.heap.get? a=some { cls:=.type "list",data:=.seq vs.toArray }) (hi:IntsAre vs ns) (hl:ns.length<=sizeLine) (hr:Room k callerA)
  (F:∀base:Heap,K.In base->base.Ns QU mg->FnOk P w K mg base CX k fa fd [x] sp) (hbind:∀(s:G0)(u:G4),BindsTo s fd %[[u]|[]] [(x,u)])
  (hsp:∀H:Hp,BD H->SqL K H a (ns.map V.int)->sp [.ref a] H (λ v _=>v=.bl true) λ _ _ _=>False)
  (hCX:∀H e s',CX [] H s₁ (λ _ _ _=>False) e s'->False) :
  codeAny (model P w) callerA (.call (.ref fa) %[[.ref a]|[]]) (λ r s'=>r=.ok (.ret (.bool true))/\OldK s₁.heap s'.heap/\s'.os=s₁.os/\AllBare s'.gens) s₁:=by
 have rv:=iW hi;have lenV:=hi.length;have core:∀H:Hp,BD H->SqL K H a (ns.map V.int)->HOk P w H s₁.heap->(∀b,H b≠none->b=a)->(H a≠none->K.lookup a=none) ->
   codeAny (model P w) callerA (.call (.ref fa) %[[.ref a]|[]]) (λ r s'=>r=.ok (.ret (.bool true))/\OldK s₁.heap s'.heap/\s'.os=s₁.os/\AllBare s'.gens) s₁:=by
  intro H hO hS hok hA hK;have base_of:∀{b:QP}{o:Obj},s₁.heap.get? b=some o->H b=none->(mH s₁.heap H).get? b=some o:=λ e n=>wz e n;have noA:∀{b:QP}{o:Obj}{es:QS DictEntry}{ep:Nat},s₁.heap.get? b=some o->o.data=.dict es ep->H b=none:=λ {b o es ep} e d=>by
   cases q:H b with
   | none=>rfl
   | some u=>
    have e':b=a:=hA b (by rw[q];simp);subst e';rw[ha]at e;cases e;have d':Data.seq vs.toArray _=Data.dict es ep:=d;cases d'
  have nsK:∀{b:QP}{m:Str->QR G4},s₁.heap.Ns b m->(mH s₁.heap H).Ns b m:=λ {b m} ⟨o,es,ep,e,d,r⟩=>%[o,es,ep,base_of e (noA e d),d|r]
  have hKb:K.In (mH s₁.heap H):=λ b o e=>base_of (KX b o e) (by
   cases q:H b with
   | none=>rfl
   | some u=>
    have e':b=a:=hA b (by rw[q];simp);subst e';rw[hK (by rw[q];simp)]at e;cases e)
  have hM:Mod K mg (mH s₁.heap H):=%[hKb,nsK hns,%[mb,nsK hb|hbb]|let ⟨mc,h1,h2⟩:=hlim;%[mc,nsK h1|h2]]
  have e0:Env0 P w K mg (mH s₁.heap H) callerA [] s₁ H:=%[O,hM,λ b o e=>zw e,QM (tF _ _),trivial,λ b hb=>absurd (show b∈([]:QT QP)from hb) (by simp),hok|.of_eq hg]
  apply codeAny_mono ((F _ hKb (nsK hns)).run callerA [] s₁ H %[[.ref a]|[]] [.ref a] [.ref a] _ _ hr e0 (hbind s₁ (.ref a)) (.cons rfl .nil) (hsp H hO hS)) λ r s' h=>?_;cases r with
  | error e=>exact(hCX H e s' h).elim
  | ok fl=>
   cases fl with
   | next=>exact F1 h
   | brk=>exact F1 h
   | cont=>exact F1 h
   | ret u=>
    obtain⟨v,H',os,bare,un,hok',r',q⟩:=h;have q':v=.bl true:=q;subst q';obtain rfl:u=Value.bool true:=r';apply%[O,OldK.of_keep λ b o e=>?_,os|bare];cases q:H b with
    | none=>exact un.keep b o e q (by intro z;exact absurd (show b∈([]:QT QP)from z) (by simp)) (by simp)
    | some u=>
     rcases hO b with z | ⟨ob,xs,z⟩
     ·rw[q]at z;cases z
     ·have z2:=un.frzs b ob _ z;obtain⟨e1,_⟩:=hok b _ z;obtain⟨e2,_⟩:=hok' b _ z2;rw[e]at e1;cases e1;exact e2
 cases hk:K.lookup a with
 | some o=>
  have e:=KX a o hk;rw[ha]at e;cases e;apply core (λ _=>none) (λ _=>.inl rfl) (.inr %[_,vs.toArray,_,hk,O,O,O,by rw[K2,lenV];exact hl|by simpa using rv]) (λ b u z=>by have z':(none:QR HO)=some u:=z;cases z') (λ b z=>absurd rfl z) λ z=>absurd rfl z
 | none=>
  apply core (λ b=>if b=a then some (.frz { cls:=.type "list",data:=.seq vs.toArray } (.lst (ns.map V.int)))else none) (λ b=>?_) (.inl (.inr %[{ cls:=.type "list",data:=.seq vs.toArray }|Qa rfl])) (λ b u z=>?_) (λ b z=>?_) λ _=>hk
  ·by_cases hb:b=a
   ·exact .inr %[_,_|Qa hb]
   ·exact .inl (QZ hb)
  ·by_cases hb:b=a
   ·have z':=(Qa hb).symm.trans z;cases z';subst hb;exact%[ha,by rw[B5];exact hl,vs,_,rv|ha]
   ·have z':=(QZ hb).symm.trans z;cases z'
  ·by_cases hb:b=a
   ·exact hb
   ·exact absurd (QZ hb) z
theorem walk_of{l:PySem.W.OpenLaw}{n k:Nat}{q:G1}{loose:QT Str}{XP:(Str->QR G4)->Heap->Prop}{YP:G3->Heap->Prop}{d:DefRec}{K:Params->C6}{CX:G3->CXT}{sp:G3->Sp}{x:Str}
  (hn:l.most=some n) (hn2:n<=sizeLine) (hdf:d.params.defaults=[]) (hr:Room k callerA)
  (hY:∀(w:G3)(h:Heap),YP w h->(K w.params).In h)
  (F:∀(w:G3)(mg:Str->QR G4)(fa:QP)(h:Heap),(K w.params).In h->h.Ns QU mg->mg d.name=↑fa ->
   ∃fd:G2,(∀(s:G0)(u:G4),BindsTo s fd %[[u]|[]] [(x,u)]) /\
    ∀base:Heap,(K w.params).In base->base.Ns QU mg->FnOk l.prog w (K w.params) mg base (CX w) k fa fd [x] (sp w))
  (hsp:∀(w:G3)(H:Hp)(a:QP)(ns:SW),ns.length<=n->BD H->SqL (K w.params) H a (ns.map V.int)->sp w [.ref a] H (λ v _=>v=.bl true) λ _ _ _=>False)
  (hCX:∀(w:G3)(H:Hp)(s:G0)(e:G4)(s':G0),CX w [] H s (λ _ _ _=>False) e s'->False) :
  PySem.W.WalkO q loose XP YP l.row.toRowW d [] (λ f vs=>PySem.call f vs):=by
 apply Att.attach_call hn hdf λ w s₀ s₁ mg mb fa o pm cd doc a vs ns G Y ho hd hcd hmg hobj hints QX hg=>?_;have KX:=hY w _ Y;obtain⟨fd,hb,hF⟩:=F w mg fa _ KX G.T.g hmg;exact wW KX G.T.g G.T.b G.T.builtins G.T.nolimit hg hobj hints (C7 QX hn2) hr hF hb (λ H hO hS=>hsp w H a ns QX hO hS) λ H e s'=>hCX w H s₁ e s'
def inClass(s:Stmt)(j:Nat):Stmt:=match s with
 | .ClassDef _ _ _ body _ _ _ _ _ _ _=>body.getD j (.Pass %[0,0,0|0])
 | _=>.Pass %[0,0,0|0]
def defArgs(s:Stmt):Arguments:=match s with
 | .FunctionDef _ a _ _ _ _ _ _ _ _=>a
 | _=>{ posonlyargs:=[],args:=[],vararg:=none,kwonlyargs:=[],kw_defaults:=[],kwarg:=none,defaults:=[] }
def defBody(s:Stmt):QT Stmt:=match s with
 | .FunctionDef _ _ b _ _ _ _ _ _ _=>b
 | _=>[]
def defScope(s:Stmt):Scope:=match s with
 | .FunctionDef _ _ _ _ _ _ sc _ _ _=>sc
 | _=>{ kind:=.function,names:=[],isGenerator:=false,isCoroutine:=false }
abbrev CX0:CXT:=λ _ _ _ _ _ _=>False
abbrev E0:XK:=λ _ _ _=>False
theorem rJ{X:Cx}:gR CX0 X E0:=λ _ _ _ _ _ _ _ h=>h.elim
structure Fun(K:C6)(x qual:Str)(st:Stmt)(f:QP)(fd:FuncData):Prop where
 ex:∃(oc:G4)(od:QR QP)(kV doc pm:G4)(an:QR QP)(cdv ct:G4)(osl:QS (QR G4)),
  fd=F0 x qual (defArgs st) (defBody st) (defScope st) .none kV doc pm an cdv ct/\K.lookup f=some %[oc,od,.func fd|osl]/\PySem.W.codeIn K cdv qual=true
 kp:PySem.W.keepIn K (.ref f)=true
section
variable{P:G1}{w:G3}{K:C6}{mg:Str->QR G4}{base:Heap}
theorem Fun.ok{x qual:Str}{st:Stmt}{f:QP}{fd:G2}{N ps:QT Str}{k:Nat}{sp:Sp}(F:Fun K x qual st f fd)(S:FnScope N ps (defScope st))(len:∀vs H Q E,sp vs H Q E->vs.length=ps.length)
  (hbody:∀(cdv:G4)(A:Around)(outer:QT Env)(s:G0)(H:Hp)(vs:QT V)(Q:VK)(E:XK),Room k (A.deeper (envOfC qual (defScope st) s.heap.objs.size f cdv))->sp vs H Q E ->
   ∃t,PSs (qr CX0 P w K mg base N qual (defScope st) f cdv A outer s H E).nox (defBody st) t/\t { nx:=λ _ H'=>Q .non H',rt:=Q } (jn N vs) H):FnOk P w K mg base CX0 (k+1) f fd ps sp:=by
 obtain⟨oc,od,kV,doc,pm,an,cdv,ct,osl,rfl,lk,hcd⟩:=F.ex;apply Do lk hcd S len λ A outer s H vs Q E hr hsp=>?_;obtain⟨t,h,q⟩:=hbody cdv A outer s H vs Q E hr hsp;exact%[t,h.nox|q]
theorem Fun.binds{x qual:Str}{st:Stmt}{f:QP}{fd:G2}{ps:QT Str}(F:Fun K x qual st f fd)
  (h:∀(kV doc pm:G4)(an:QR QP)(cdv ct:G4)(us:QT G4),us.length=ps.length->bindArgs (F0 x qual (defArgs st) (defBody st) (defScope st) .none kV doc pm an cdv ct) %[us|[]]=pure (ps.zip us)):Binds K fd ps []:=by
 obtain⟨oc,od,kV,doc,pm,an,cdv,ct,osl,rfl,lk,hcd⟩:=F.ex;exact .all (h kV doc pm an cdv ct)
theorem qy{x qual:Str}{st:Stmt}{f:QP}{oc:G4}{od an:QR QP}{osl:QS (QR G4)}{kV doc pm cdv ct:G4}(l:K.lookup f=some %[oc,od,.func (F0 x qual (defArgs st) (defBody st) (defScope st) .none kV doc pm an cdv ct)|osl])
  (c:PySem.W.codeIn K cdv qual=true) (k:PySem.W.keepIn K (.ref f)=true):Fun K x qual st f (F0 x qual (defArgs st) (defBody st) (defScope st) .none kV doc pm an cdv ct):=%[%[oc,od,kV,doc,pm,an,cdv,ct,osl,O,l|c]|k]
end
section
variable{X:Cx}
theorem pv(i:Nat){x:Str}{pos:Pos}(hN:X.N[i]?=some x:=by rfl)(hv:Vis X.env.scope x:=by first | exact Or.inl rfl | exact Or.inr (Or.inl rfl) | exact Or.inr (Or.inr rfl))(hd:(x == ("__debug__" : Str))=false:=by decide)
  (hcd:(x == ("__classdict__" : Str))=false:=by decide):PE X (.Name x pos) (tVar i):=Bp hN hv hd hcd
end
theorem be{A B:Prop}(h:B):if false=true then A else B:=by rw[QZ B3];exact h
theorem ce{A B:Prop}(h:A):if true=true then A else B:=by rw[Qa rfl];exact h
theorem bW{c A B:Prop}[Decidable c](h1:c->A)(h2:¬ c->B):if c then A else B:=by
 by_cases h:c
 ·rw[Qa h];exact h1 h
 ·rw[QZ h];exact h2 h
def Same(H H':Hp):Prop:=∀b o,H b=some o->H' b=some o
theorem Same.refl(H:Hp):Same H H:=λ _ _ h=>h
theorem Same.trans{H H1 H2:Hp}(a:Same H H1)(b:Same H1 H2):Same H H2:=λ c o h=>b c o (a c o h)
theorem Same.free{H H':Hp}(e:Same H H'){l:QP}(h:H' l=Option.none):H l=Option.none:=by
 cases q:H l with
 | none=>rfl
 | some o=>
  rw[e l o q]at h;cases h
theorem Same.seq{K:C6}{H H':Hp}{a:QP}{xs:QT V}(e:Same H H')(h:SqL K H a xs):SqL K H' a xs:=by
 rcases h with(h | ⟨o,h⟩) | h
 ·exact .inl (.inl (e _ _ h))
 ·exact .inl (.inr %[o|e _ _ h])
 ·exact .inr h
def bJ(env:Env):QT (Str×NameKind)->QT (Str×QP)->QT (Str×QP)
 | [],acc=>acc
 | (n,k) :: r,acc=>bJ env r (if (k == NameKind.free)=true then(n,(env.cells.lookup n).getD 0) :: acc else acc)
theorem eZ(env:Env):∀(names:QT (Str×NameKind))(acc:QT (Str×QP))(x:Str)(c:QP),(∀y∈names,y.2=.free->∃c,env.cells.lookup y.1=some c) ->
  (∀x c,acc.lookup x=some c->env.cells.lookup x=some c)->(bJ env names acc).lookup x=some c->env.cells.lookup x=some c
 | [],acc,x,c,_,h,e=>h x c e
 | (n,k) :: r,acc,x,c,hf,h,e=>by
  apply eZ env r _ x c (λ y hy=>hf y (B6 _ hy)) (λ x c e'=>?_) e
  by_cases hk:(k == NameKind.free)=true
  ·rw[Qa hk]at e';obtain⟨c0,hc0⟩:=hf (n,k) B9 (by simpa using hk);have hc0':env.cells.lookup n=some c0:=hc0;rw[M3]at e';cases hx:x == n with
   | true=>
    rw[hx]at e';have:x=n:=by simpa using hx
    subst this;rw[hc0']at e' ⊢;simpa using e'
   | false=>rw[hx]at e';exact h x c e'
  ·rw[QZ hk]at e';exact h x c e'
theorem jY(env:Env):∀(names:QT (Str×NameKind))(acc:QT (Str×QP))(x:Str),(∃c,acc.lookup x=some c)->∃c,(bJ env names acc).lookup x=some c
 | [],acc,x,h=>h
 | (n,k) :: r,acc,x,h=>by
  apply jY env r _ x ?_
  by_cases hk:(k == NameKind.free)=true
  ·rw[Qa hk,M3];cases hx:x == n with
   | true=>exact%[_|O]
   | false=>exact h
  ·rw[QZ hk];exact h
theorem iX(env:Env):∀(names:QT (Str×NameKind))(acc:QT (Str×QP))(x:Str),(x,NameKind.free)∈names->∃c,(bJ env names acc).lookup x=some c
 | [],acc,x,h=>by simp at h
 | (n,k) :: r,acc,x,h=>by
  rcases J4.mp h with e | e
  ·have e1:x=n:=Qu Prod.fst e;have e2:NameKind.free=k:=Qu Prod.snd e;subst e1;subst e2;apply jY env r _ x ?_;rw[Qa (by simp),M3];simp
  ·exact iX env r _ x e
theorem fb{env:Env}{scope:Scope}(hf:∀y∈scope.names,y.2=.free->∃c,env.cells.lookup y.1=some c):closureFor scope env=pure (bJ env scope.names []):=by
 have key:∀(names:QT (Str×NameKind))(acc:QT (Str×QP)),(∀y∈names,y.2=.free->∃c,env.cells.lookup y.1=some c) ->
   (forIn names acc (λ (x:Str×NameKind)(r:QT (Str×QP))=>(if (x.2 == NameKind.free)=true then do
    let a<-cellOf env x.1
    pure (ForInStep.yield ((x.1,a) :: r))else pure (ForInStep.yield r)) ):Sem (QT (Str×QP)))=pure (bJ env names acc):=by
  intro names
  induction names with
  | nil=>intro acc _;rfl
  | cons y r ih=>
   intro acc h;obtain⟨n,k⟩:=y;have ih':=λ acc=>ih acc λ z hz=>h z (B6 _ hz);rw[List.forIn_cons]
   by_cases hk:(k == NameKind.free)=true
   ·obtain⟨c,hc⟩:=h (n,k) B9 (by simpa using hk);have hc':env.cells.lookup n=some c:=hc;have e1:cellOf env n=pure c:=by unfold cellOf;rw[hc']
    have e2:bJ env ((n,k) :: r) acc=bJ env r ((n,c) :: acc):=by show bJ env r _=_;rw[Qa hk,hc'];rfl
    rw[Qa hk,e2,<- ih'];show((cellOf env n >>= λ a=>pure (ForInStep.yield ((n,a) :: acc))) >>= _)=_;rw[e1]
    rfl
   ·have e2:bJ env ((n,k) :: r) acc=bJ env r acc:=by show bJ env r _=_;rw[QZ hk]
    rw[QZ hk,e2,<- ih']
    rfl
 have:=key scope.names [] hf;simp only[closureFor];exact(Qu (λ m=>m >>= λ r=>(pure r:Sem _)) this).trans rfl
section
variable{M:Model}{A:Around}{E:G4->G0->Prop}{s:G0}
theorem zM{scope:Scope}{globals:QP}{closure:QT (Str×QP)}{qual:Str}{func:QR QP}{code:G4}{env:Env}{builtins:QP}{Q:Env->G0->Prop}
  (hQ:Q (newEnv scope s.heap.objs.size globals (cellsFrom (s.heap.objs.size+1) scope.names closure) qual func code (some env) builtins) { s with heap:=pushCells (s.heap.push { cls:=.type "dict",data:=.dict #[] }) scope.names }) :
  wpAny M A (newFunctionEnv scope globals closure [] qual func code (some env) builtins) Q E s:=by
 simp only[newFunctionEnv,Option.isSome_some,RL];apply A0 (wpAny_alloc ?_);apply A0 (wpAny_layCells _ (λ name kind cells=>by cases hkc:kind == NameKind.cell <;> simp[hkc]) _ _ _ _ ?_);rw[show({ s with heap:=s.heap.push { cls:=.type "dict",data:=.dict #[] } }:G0).heap.objs.size=s.heap.objs.size+1 from Qi ..];exact A0 (A3 (A3 hQ))
end
theorem lM:∀(names:QT (Str×NameKind))(n:Nat)(acc:QT (Str×QP))(x:Str)(c:QP),(cellsFrom n names acc).lookup x=some c->acc.lookup x=some c\/n<=c
 | [],n,acc,x,c,e=>.inl e
 | (y,k) :: r,n,acc,x,c,e=>by
  unfold cellsFrom at e
  split at e
  ·rcases lM r _ _ x c e with z | z
   ·rw[M3]at z;cases hx:x == y with
    | true=>rw[hx]at z;cases z;exact .inr (B4 _)
    | false=>rw[hx]at z;exact .inl z
   ·exact .inr ⋯
  ·exact lM r _ _ x c e
theorem qz:∀(names:QT (Str×NameKind))(n:Nat)(acc:QT (Str×QP)),(∀x c,acc.lookup x=some c->c < n)->(∀x y c,acc.lookup x=some c->acc.lookup y=some c->x=y) ->
  ∀x y c,(cellsFrom n names acc).lookup x=some c->(cellsFrom n names acc).lookup y=some c->x=y
 | [],_,_,_,h=>h
 | (z,k) :: r,n,acc,hl,h=>by
  unfold cellsFrom
  split
  ·apply qz r _ _ (λ x c e=>?_) (λ x y c e1 e2=>?_)
   ·rw[M3]at e;cases hx:x == z with
    | true=>rw[hx]at e;cases e;exact F4 _
    | false=>rw[hx]at e;exact PM (hl x c e)
   ·rw[M3]at e1 e2;cases hx:x == z with
    | true=>
     rw[hx]at e1;cases e1;cases hy:y == z with
     | true=>rw[Qd.mp hx,Qd.mp hy]
     | false=>rw[hy]at e2;exact absurd (hl y _ e2) (E4 _)
    | false=>
     rw[hx]at e1;cases hy:y == z with
     | true=>rw[hy]at e2;cases e2;exact absurd (hl x _ e1) (E4 _)
     | false=>rw[hy]at e2;exact h x y c e1 e2
  ·exact qz r n acc hl h
theorem mQ:∀(names:QT (Str×NameKind))(h:Heap)(acc:QT (Str×QP)),(∀x c,acc.lookup x=some c->∃v,h.IsCell c v)->∀x c,(cellsFrom h.objs.size names acc).lookup x=some c->∃v,(pushCells h names).IsCell c v
 | [],_,_,ha=>ha
 | (z,k) :: r,h,acc,ha=>by
  unfold cellsFrom pushCells
  split
  ·have:=mQ r (h.push { cls:=.type "cell",data:=.cell none }) ((z,h.objs.size) :: acc) λ x c e=>by
    rw[M3]at e;cases hx:x == z with
    | true=>rw[hx]at e;cases e;exact%[none,_,A9 _ rfl|O]
    | false=>
     rw[hx]at e;obtain⟨v,z⟩:=ha x c e;exact%[v|z.keeps λ b o e=>A8 _ e]
   rw[Qi]at this;exact this
  ·exact mQ r h acc ha
theorem mR:∀(names:QT (Str×NameKind))(n:Nat)(acc:QT (Str×QP))(x:Str),(x,NameKind.cell)∉names->(cellsFrom n names acc).lookup x=acc.lookup x
 | [],_,_,_,_=>rfl
 | (z,k) :: r,n,acc,x,h=>by
  unfold cellsFrom
  split
  ·rename_i hk
   rw[mR r _ _ x λ q=>h (B6 _ q),M3];cases hx:x == z with
   | true=>
    have e1:x=z:=C5.mp hx;have e2:k=.cell:=C5.mp hk;exact absurd (by rw[e1,e2];exact B9) h
   | false=>rfl
  ·exact mR r n acc x λ q=>h (B6 _ q)
theorem qA:∀(names:QT (Str×NameKind))(n:Nat)(acc:QT (Str×QP))(x:Str),((x,NameKind.cell)∈names\/∃c,acc.lookup x=some c)->∃c,(cellsFrom n names acc).lookup x=some c
 | [],_,_,x,h=>h.elim (λ z=>by simp at z) id
 | (z,k) :: r,n,acc,x,h=>by
  unfold cellsFrom
  split
  ·rename_i hk
   apply qA r _ _ x ?_;cases hx:x == z with
   | true=>exact .inr %[n|by rw[M3,hx]]
   | false=>
    rcases h with h | ⟨c,h⟩
    ·rcases J4.mp h with q | q
     ·have:x=z:=Qu Prod.fst q;rw[this]at hx;simp at hx
     ·exact .inl q
    ·exact .inr %[c|by rw[M3,hx];exact h]
  ·rename_i hk
   apply qA r _ _ x ?_;rcases h with h | h
   ·rcases J4.mp h with q | q
    ·have:k=.cell:=(Qu Prod.snd q).symm;rw[this]at hk;exact absurd rfl hk
    ·exact .inl q
   ·exact .inr h
theorem lN(env:Env):∀(names:QT (Str×NameKind))(acc:QT (Str×QP))(x:Str)(c:QP),(bJ env names acc).lookup x=some c->acc.lookup x=some c\/(x,NameKind.free)∈names
 | [],acc,x,c,e=>.inl e
 | (n,k) :: r,acc,x,c,e=>by
  rcases lN env r _ x c e with z | z
  ·by_cases hk:(k == NameKind.free)=true
   ·rw[Qa hk,M3]at z;cases hx:x == n with
    | true=>exact .inr (by rw[Qd.mp hx,show k=.free from Qd.mp hk];exact B9)
    | false=>rw[hx]at z;exact .inl z
   ·rw[QZ hk]at z;exact .inl z
  ·exact .inr (B6 _ z)
theorem mS{env:Env}{scope:Scope}{x:Str}:((relabel scope env).names.lookup x=some .cell\/(relabel scope env).names.lookup x=some .free)->(x,NameKind.free)∈scope.names\/(x,NameKind.cell)∈scope.names:=by
  have key:∀names:QT (Str×NameKind),∀k,(names.map λ(n,k)=>if (k == NameKind.free && env.scope.kind == .function && env.kindOf n == some .cell)then(n,NameKind.cell)else(n,k)).lookup x=some k ->
      (k=.cell\/k=.free)->(x,NameKind.free)∈names\/(x,NameKind.cell)∈names:=by
    intro names
    induction names with
    | nil=>intro k h _;simp at h
    | cons y r ih=>
      obtain⟨n,k'⟩:=y;intro k h hk;have up:((x,NameKind.free)∈r\/(x,NameKind.cell)∈r)->((x,NameKind.free)∈(n,k') :: r\/(x,NameKind.cell)∈(n,k') :: r):=λ z=>z.imp (B6 _) (B6 _);rw[J8]at h
      by_cases hb:(k' == NameKind.free && env.scope.kind == .function && env.kindOf n == some .cell)=true
      . have hb':k'=.free:=by simp at hb;exact hb.1.1
        dsimp only at h;rw[Qa hb,M3]at h;cases hx:x == n with
        | true=>have:x=n:=(by simpa using hx);subst this;subst hb';exact .inl B9
        | false=>rw[hx]at h;exact up (ih k h hk)
      . dsimp only at h
        rw[QZ hb,M3]at h;cases hx:x == n with
        | true=>
          rw[hx]at h;have:x=n:=by simpa using hx
          subst this;have e:k'=k:=by simpa using h
          rcases hk with q | q
          . rw[e,q];exact .inr B9
          . rw[e,q];exact .inl B9
        | false=>rw[hx]at h;exact up (ih k h hk)
  rintro(h | h)
  . exact key _ _ h (.inl rfl)
  . exact key _ _ h (.inr rfl)
def aM(X:Cx)(QV:SY)(s2:G0)(H2:Hp)(scope:Scope)(C:QP)(N':QT Str)(fp:QT QP):Cx where
 prog:=X.prog
 w:=X.w
 K:=X.K
 mg:=X.mg
 base:=X.base
 A:=X.A
 N:=N'
 s₀:=s2
 H₀:=H2
 env:=compEnvC scope (cellsFrom (C+1) scope.names (bJ X.env scope.names [])) C X.env
 outer:=X.stack
 stack:=X.stack
 ex:=fp
 fn:=λ x=>scope.names.lookup x == some .cell
 calm:=X.calm
 pn:=X.pn ++ QV
 xe:=λ _ _=>False
def aV(σ:St)(cap:QT Nat)(k:Nat):St:=List.replicate k none ++ cap.map λ j=>(σ[j]?).join
def leS(σ σ':St):Prop:=σ'.length=σ.length/\∀ (i:Nat) v,σ[i]?=some (some v)->σ'[i]?=some (some v)
theorem leS.set{σ:St}{i:Nat}{v:V}(h:σ[i]?=some none):leS σ (σ.set i (some v)):=by
 apply%[by simp|λ j w e=>?_]
 by_cases hj:j=i
 ·subst hj;rw[h]at e;cases e
 ·rw[List.getElem?_set_ne (Ne.symm hj)];exact e
structure CompOk(X:Cx)(scope:Scope)(own:QT Str)(cs:QT Str)(cap:QT Nat):Prop where
 kind:scope.kind=.function
 names:∀y∈scope.names,y.2=.local->scope.names.lookup y.1=some .local
 free:∀y∈scope.names,y.2=.free->X.env.kindOf y.1=some .cell\/X.env.kindOf y.1=some .free
 caps:∀ (i:Nat) y,cs[i]?=some y->∃j,cap[i]?=some j/\X.N[j]?=some y/\(y,NameKind.free)∈scope.names
 len:cs.length=cap.length
 free2:∀y,(y,NameKind.free)∈scope.names->scope.names.lookup y=some .local->False
 free3:∀y,(y,NameKind.free)∈scope.names->scope.names.lookup y=some .cell->False
 free4:∀y,(y,NameKind.free)∈scope.names->(y,NameKind.cell)∉scope.names
def iY(X:Cx)(ifs:QT Expr)(tt:TT):Prop :=
 ∀(QV:SY)(s:G0)(σ:St)(H:Hp)(Q:Bool->Hp->Prop),Inv X QV σ H s->tt σ H Q ->
  wpAny (model X.prog X.w) X.A (forIn ifs true λ c r=>if r=true then do let ok<-isTrue c X.env (eval c X.env);pure (ForInStep.yield ok)else pure (ForInStep.yield r)) (TP X QV σ Q) X.xe s
def BE:TT:=λ _ H Q=>Q true H
theorem aH{X:Cx}:iY X [] BE:=λ _ _ _ H _ I h=>wpAny_tests_nil %[H,I|h]
theorem jZ{X:Cx}{c:Expr}{tt:TT}(h:PT X c tt):iY X [c] tt:=λ QV s σ H Q I q=>wpAny_tests_one (h QV s σ H Q I q)
def eF(σ:St)(cap:QT Nat)(k:Nat)(J:It)(g:TG)(tt:TT)(te:TE)(Q:QT V->Hp->Prop)(W:Nat->Nat->QT V->Hp->Prop):Prop :=
 ∀i m ys H,W i m ys H->(J.stop i H/\ys.length<=sizeLine/\Q ys H) \/
  (J.go i H/\ys.length < sizeLine/\∀x H',J.yld i H x H'->g x (aV σ cap k) H' λ σ2 H2=>leS (aV σ cap k) σ2/\tt σ2 H2 λ ok H3=>
   if ok=true then te σ2 H3 (λ v H4=>∃m',m' < m/\W (i+1) m' (ys ++ [v]) H4)else∃m',m' < m/\W (i+1) m' ys H3)
theorem HOk.add{P:G1}{w:G3}{H:Hp}{h:Heap}{a:QP}{o:HO}(x:HOk P w H h)(n:H a=none)(new:ObjOk P w (upd H a o) h a o):HOk P w (upd H a o) h:=λ b u e=>by
 by_cases hb:b=a
 ·subst hb;rw[ah]at e;cases e;exact new
 ·rw[am hb]at e;exact(x b u e).stay (λ c v _ q=>q) (λ c q=>by rw[am (ak q n)];exact q) λ c xs q=>by rw[am (ak q n)];exact q
section
variable{X:Cx}{QV:SY}{σ:St}{H2:Hp}{s2:G0}{scope:Scope}{own cs:QT Str}{cap:QT Nat}{fp:QT QP}
theorem tQ{h1:Heap}{C:QP}{tk:Nat}(I:Inv X QV σ H2 s2)(ok:CompOk X scope own cs cap)(hf:∀b∈fp,FpOk X QV H2 b)(hfl:∀b∈fp,b < s2.heap.objs.size)
  (hC:s2.heap.objs.size<=C) (hns:h1.Ns C (λ _=>none)) (hcl:∀x c,(cellsFrom (C+1) scope.names (bJ X.env scope.names [])).lookup x=some c->∃v,h1.IsCell c v) (old:∀b o,s2.heap.get? b=some o->h1.get? b=some o) :
  Inv (aM X QV s2 H2 scope C (own ++ cs) fp) [] (aV σ cap own.length) H2 { s2 with heap:=h1,toks:=tk }:=by
 have hfr:∀y∈scope.names,y.2=.free->∃c,X.env.cells.lookup y.1=some c:=λ y hy e=>I.ok.has y.1 (ok.free y hy e);have sub:∀x c,(bJ X.env scope.names []).lookup x=some c->X.env.cells.lookup x=some c:=λ x c e=>eZ X.env scope.names [] x c hfr (λ _ _ z=>by simp at z) e;have clt:∀x c,(bJ X.env scope.names []).lookup x=some c->c < s2.heap.objs.size:=λ x c e=>by obtain⟨v,o,ho,_⟩:=I.cell x c (sub x c e);exact B0 ho
 apply⟨%[I.ok.mod,ok.kind,I.ok.glob,I.ok.blt,hC,λ y z c h1 h2=>qz _ _ _ (λ x c e=>PM (C3 (clt x c e) hC)) (λ x y c h1 h2=>I.ok.inj x y c (sub x c h1) (sub y c h2)) y z c h1 h2,λ y hy=>?_,λ y c z e=>?_,I.ok.hd,I.ok.frames,.inl rfl,λ b hb=>?_,I.bs,C7 I.ok.bsz I.sz,λ b o e hb=>?_,λ b hb z=>?_,I.stack|I.stkFree],
  rfl,I.bare,Un.kept old,%[_,hns|λ i y v e1 e2 e3=>?_],hcl,I.hok.fresh hC,λ y c e=>?_,λ p hp=>?_,I.hok.kept old,?_⟩
 ·apply qA _ _ _ y ?_;rcases mS hy with hm | hm
  ·exact .inr (iX X.env scope.names [] y hm)
  ·exact .inl hm
 ·have z:(scope.names.lookup y == some .cell)=true:=z;rcases lM _ _ _ _ _ e with q | q
  ·rcases lN X.env scope.names [] y c q with q | q
   ·simp at q
   ·exact(ok.free3 y q (C5.mp z)).elim
  ·show s2.heap.objs.size<=c;lia
 ·apply%[C1 (C3 (hfl b hb) hC)|λ x c e=>?_];rcases lM _ _ _ _ _ e with q | q
  ·exact(hf b hb).2.2.2.2.1 x c (sub x c q)
  ·exact Ne.symm (C1 (C3 (hfl b hb) (C7 hC (Nat.le_of_succ_le q))))
 ·rcases(hf b hb).2.2.2.1 with z | z
  ·exact I.ok.noex b o e z
  ·exact absurd (C3 (B0 (I.ok.bs b o e).1) z) (E4 _)
 ·rcases J4.mp (I.stkSub b z)with q | q
  ·exact(hf b hb).2.1 q
  ·exact(hf b hb).2.2.1 q
 ·have hi:own.length<=i:=by
   apply Nat.le_of_not_lt λ q=>?_;unfold aV at e2;rw[PX (by simpa using q),Py]at e2
   split at e2 <;> cases e2
  have e1':cs[i - own.length]?=some y:=by have e1:(own ++ cs)[i]?=some y:=e1;rwa [O3 hi]at e1
  obtain⟨j,hj,hN,hm⟩:=ok.caps _ y e1';have hk:=ok.free _ hm rfl;have e2':σ[j]?=some (some v):=by
   unfold aV at e2;rw[O3 (by simpa using hi),K7,J3,hj]at e2;have e2:(σ[j]?).join=some v:=by simpa using e2
   cases q:σ[j]? with
   | none=>rw[q]at e2;cases e2
   | some w=>rw[q]at e2;have:w=some v:=e2;rw[this]
  obtain⟨m,hn,hl⟩:=I.loc;obtain⟨u,ru,l⟩:=hl j y v hN e2' (by rcases hk with q | q;exact .inr (.inl q);exact .inr (.inr q));apply%[u,ru|.inr ?_];obtain⟨c,hc0⟩:=iX X.env scope.names [] y hm;have hc':=sub y c hc0;have hc:(cellsFrom (C+1) scope.names (bJ X.env scope.names [])).lookup y=some c:=by rw[mR _ _ _ y (ok.free4 y hm)];exact hc0
  have cellu:h1.IsCell c (some u):=by
   rcases l with⟨k,_⟩ | ⟨k,c',e,o,ho,hd⟩
   ·rcases hk with q | q <;> (have z:X.env.kindOf y=_:=q;rw[k]at z;cases z)
   ·rw[hc']at e;cases e;exact%[o,old _ _ ho|hd]
  apply%[?_,c,hc|cellu];rcases e3 with z | z | z
  ·exfalso;have key:∀names:QT (Str×NameKind),True:=λ _=>trivial;have z:(relabel scope X.env).names.lookup y=some .local:=z;have zz:scope.names.lookup y=some .local:=by
    unfold relabel at z;dsimp only at z;revert z;generalize scope.names=names
    induction names with
    | nil=>intro z;simp at z
    | cons q r ih=>
     obtain⟨n,k⟩:=q;intro z;rw[J8]at z
     by_cases hb:(k == NameKind.free && X.env.scope.kind == .function && X.env.kindOf n == some .cell)=true
     ·dsimp only at z;rw[Qa hb,M3]at z;rw[M3];cases hx:y == n with
      | true=>rw[hx]at z;cases z
      | false=>rw[hx]at z;exact ih z
     ·dsimp only at z;rw[QZ hb,M3]at z;rw[M3];cases hx:y == n with
      | true=>rw[hx]at z;exact z
      | false=>rw[hx]at z;exact ih z
   have:=ok.free2 y hm zz;exact this
  ·exact .inl z
  ·exact .inr z
 ·rcases lM _ _ _ _ _ e with q | q
  ·exact I.freeC y c (sub y c q)
  ·exact I.hok.fresh ⋯
 ·have hp':p∈X.pn ++ QV:=by have:p∈(X.pn ++ QV) ++ []:=hp;simpa using this
  obtain⟨e,n,ne,nf,d⟩:=I.pin p hp';apply%[old _ _ e,n,C1 (C3 (B0 e) hC),λ z=>?_|d];rcases J4.mp (I.stkSub p.1 z)with q | q
  ·exact ne q
  ·exact nf q
 ·show(aV σ cap own.length).length=(own ++ cs).length;unfold aV;rw[J7,K7,B5,J7,ok.len]
end
structure TurnY(Y:Cx)(tg:Expr)(J:It)(fp:QT QP)(it:QP)(tn:Nat->Heap->Prop)(qh:Hp->Prop):Prop where
 obj:∀i h,tn i h->∀b∈fp,∃o,h.get? b=some o/\∀v,o.data≠.cell v
 keep:∀i h h',tn i h->(∀b∈fp,∀o,h.get? b=some o->h'.get? b=some o)->tn i h'
 item:∀(i:Nat)(QV:SY)(s:G0)(σ:St)(H:Hp)(E:G4->G0->Prop),qh H->Inv Y QV σ H s->(∀b∈fp,FpOk Y QV H b)->tn i s.heap->J.go i H ->
  wpAny (model Y.prog Y.w) Y.A (pyNext (.ref it)) (λ r s1=>∃u,r=some u /\
   wpAny (model Y.prog Y.w) Y.A (letOwnedTupleGo tg (.ref it) u) (λ _ s2=>∃x H',Inv Y QV σ H' s2/\RelV x u/\J.yld i H x H'/\tn (i+1) s2.heap/\∀b∈fp,H' b=none) E s1) E s
 done:∀(i:Nat)(QV:SY)(s:G0)(σ:St)(H:Hp)(E:G4->G0->Prop),qh H->Inv Y QV σ H s->(∀b∈fp,FpOk Y QV H b)->tn i s.heap->J.stop i H ->
  wpAny (model Y.prog Y.w) Y.A (pyNext (.ref it)) (λ r s1=>r=none/\Inv Y QV σ H s1) E s
 self:∀(s:G0)(Q E:G4->G0->Prop),tn 0 s.heap->Q (.ref it) s->wpAny (model Y.prog Y.w) Y.A (pyIter (.ref it)) Q E s
theorem Turn.y{Y:Cx}{tg:Expr}{J:It}{fp:QT QP}{it:QP}{tn:Nat->Heap->Prop}(T:Turn Y.prog Y.w Y.K tg J fp it tn)(hc:Y.calm=true):TurnY Y tg J fp it tn (λ _=>True) :=
 %[T.obj,T.keep,λ i QV s σ H E _=>T.item Y rfl rfl rfl hc i QV s σ H E,λ i QV s σ H E _=>T.done Y rfl rfl rfl hc i QV s σ H E|T.self _ 0]
theorem Inv.sub{Y:Cx}{P Q:SY}{σ:St}{H:Hp}{s:G0}(I:Inv Y P σ H s)(h:∀p∈Q,p∈P):Inv Y Q σ H s:=I.pins_of λ p hp=>I.pin p (A6 _ (h p hp))
theorem FpOk.sub{Y:Cx}{P Q:SY}{H H':Hp}{b:QP}(f:FpOk Y P H b)(n:H' b=none)(h:∀p∈Q,p∈P\/p.1≠b):FpOk Y Q H' b :=
 %[n,f.2.1,f.2.2.1,f.2.2.2.1,f.2.2.2.2.1|λ p hp=>(C4.mp hp).elim (λ z=>f.2.2.2.2.2 p (B8 _ z)) λ z=>(h p z).elim (λ z=>f.2.2.2.2.2 p (A6 _ z)) id]
section
variable{ρ:Type}{Y:Cx}{P5:SY}{σ:St}{H0:Hp}{s0:G0}{D it:QP}{o0:Obj}{fp:QT QP}{tn:Nat->Heap->Prop}{J:It}{g:TG}{tt:TT}{qh:Hp->Prop}{node tg:Expr}{ifs:QT Expr}{lvl:Nat}{ipos:Pos}{body:Sem Unit}
 {Acc:QT ρ->Obj->Prop} {W:Nat->Nat->QT ρ->Hp->Prop} {B:Nat->Nat->QT ρ->St->Hp->Prop} {Fin:QT ρ->Hp->Prop} {Z:QT ρ->Prop} {R:Result->G0->Prop} {ys0:QT ρ}
def wX(node:Expr)(lvl:Nat)(ipos:Pos)(tg:Expr)(ifs:QT Expr)(it acc:G4)(env:Env)(body:Sem Unit):Sem PySem.Fin:=do
 standAt ipos
 match<-pyNext it with
 | none=>pure (.done .next)
 | some v=>
  letOwnedTupleGo tg it v
  assign tg env v
  let mut ok:=true
  for c in ifs do
   if ok then ok<-isTrue c env (eval c env)
  if ok then body
  again (.compLoop node lvl it acc env)
def Dr(σ:St)(J:It)(g:TG)(tt:TT)(qh:Hp->Prop)(Z:QT ρ->Prop)(B:Nat->Nat->QT ρ->St->Hp->Prop)(Fin:QT ρ->Hp->Prop)(W:Nat->Nat->QT ρ->Hp->Prop):Prop :=
 ∀i m ys H,W i m ys H->qh H/\((J.stop i H/\Fin ys H)\/(J.go i H/\Z ys/\∀x H',J.yld i H x H'->g x σ H' λ σ3 H2=>leS σ σ3/\tt σ3 H2 λ ok H3=>if ok=true then B i m ys σ3 H3 else∃m',m' < m/\W (i+1) m' ys H3))
def rK(Y:Cx)(P5:SY)(σ:St)(D:QP)(body:Sem Unit)(Acc:QT ρ->Obj->Prop)(Z:QT ρ->Prop)(B:Nat->Nat->QT ρ->St->Hp->Prop)(W:Nat->Nat->QT ρ->Hp->Prop):Prop :=
 ∀i m ys o σ3 H3 s3 Q5,Z ys->B i m ys σ3 H3->leS σ σ3->Acc ys o->FpOk Y (P5 ++ Q5) H3 D->Inv Y (P5 ++ Q5) σ3 H3 s3->s3.heap.get? D=some o ->
  wpAny (model Y.prog Y.w) Y.A body (λ _ s4=>∃H4 ys' o',Inv Y (P5 ++ Q5) σ3 H4 s4/\s4.heap.get? D=some o'/\Acc ys' o'/\H4 D=none/\∃m',m' < m/\W (i+1) m' ys' H4) (λ _ _=>False) s3
theorem gq(hx:Y.xe=λ _ _=>False)(T:TurnY Y tg J fp it tn qh)(hg:PG Y tg g)(hi:iY Y ifs tt)
  (hturn:(model Y.prog Y.w).den (.compLoop node lvl (.ref it) (.ref D) Y.env)=(wX node lvl ipos tg ifs (.ref it) (.ref D) Y.env body).onRaise (λ x=>do noteFrame x Y.env;theTreesLotGoes x)) (hund:Y.A.under (.compLoop node lvl (.ref it) (.ref D) Y.env)=Y.A) (nc:∀ys o,Acc ys o->∀v,o.data≠.cell v)
  (turn:Dr σ J g tt qh Z B Fin W) (hb:rK Y P5 σ D body Acc Z B W)
  (I0:Inv Y P5 σ H0 s0) (hD:FpOk Y P5 H0 D) (hf:∀b∈fp,FpOk Y P5 H0 b) (df:∀b∈fp,D≠b) (st:tn 0 s0.heap) (e0:s0.heap.get? D=some o0) (a0:Acc ys0 o0) (w0:∃m,W 0 m ys0 H0)
  (hR:∀s' H' ys o,Inv Y P5 σ H' s'->s'.heap.get? D=some o->Acc ys o->H' D=none->Fin ys H'->R (.ok .next) s') :
  codeAny (model Y.prog Y.w) Y.A (.compLoop node lvl (.ref it) (.ref D) Y.env) R s0:=by
 obtain⟨m0,w0⟩:=w0;apply codeAny_loop rfl (λ n s'=>∃i H' ys o,Inv Y P5 σ H' s'/\tn i s'.heap/\(∀b∈fp,H' b=none)/\s'.heap.get? D=some o/\Acc ys o/\H' D=none/\W i n ys H') ?_ m0 %[0,H0,ys0,o0,I0,st,λ b hb=>(hf b hb).1,e0,a0,hD.1|w0];rintro n s3 ⟨i,H3,ys,o,I3,st3,fr3,pl3,ac,hD3,w3⟩;rw[hturn,hund];apply wpAny_noted ?_;unfold wX;apply A0 (RC (A0 ?_));have one:∀{p:QP×Obj},p∈[(D,o)]->p=(D,o):=λ hp=>by simpa using hp
 have I3':Inv Y (P5 ++ [(D,o)]) σ H3 s3:=I3.pins_of λ p hp=>(C4.mp hp).elim (λ z=>I3.pin p (A6 _ z)) λ z=>by rw[one z];exact%[pl3,hD3,hD.2.1,hD.2.2.1|nc _ _ ac]
 have stat:∀{H':Hp},(∀b∈fp,H' b=none)->∀b∈fp,FpOk Y (P5 ++ [(D,o)]) H' b:=λ {H'} hn b hb=>(hf b hb).sub (hn b hb) λ p hp=>(C4.mp hp).imp id λ z=>by rw[one z];exact df b hb
 obtain⟨hq,tu⟩:=turn i n ys H3 w3;rcases tu with⟨stop,qf⟩ | ⟨go,hz,step⟩
 ·apply thn (T.done i _ s3 _ H3 _ hq I3' (stat fr3) st3 stop) ?_;rintro r s4 ⟨hr,I4⟩;subst hr;have p4:=I4.pin (D,o) (A6 _ (A6 _ (E6.mpr rfl)));exact A3 (hR _ _ _ _ (I4.sub λ p hp=>B8 _ hp) p4.1 ac p4.2.1 qf)
 ·apply thn (T.item i _ s3 _ H3 _ hq I3' (stat fr3) st3 go) ?_;rintro r s4 ⟨u,hr,h4⟩;subst hr;apply A0 (thn h4 ?_);rintro _ s5 ⟨x,H5,I5,r5,y5,st5,fr5⟩;have I5':=I5.pinned (stat fr5) (T.obj _ _ st5);have ms:=λ b hb=>T.obj _ _ st5 b hb;have mp:∀b∈fp,∀o,s5.heap.get? b=some o->(b,o)∈gN fp s5.heap:=λ b hb o e=>gO hb e;have mf:∀p∈gN fp s5.heap,p.1∈fp:=λ p hp=>(lG hp).1;generalize gN fp s5.heap=Q5 at I5' mp mf;have hx':∀{v:G4}{s':G0}{Z:Prop},Y.xe v s'->Z:=λ z=>by rw[hx]at z;exact z.elim
  apply A0 (Ql (hg _ s5 _ H5 x u _ I5' r5 (step x H5 y5)) (?_) λ _ _ z=>hx' z);rintro _ s6 ⟨σ6,H6,I6,le6,q6⟩;apply A0 (Ql (hi _ s6 σ6 H6 _ I6 q6) (?_) λ _ _ z=>hx' z);rintro b s7 ⟨H7,I7,q7⟩;have p7:=I7.pin (D,o) (A6 _ (B8 _ (A6 _ (E6.mpr rfl))));have I7':Inv Y (P5 ++ Q5) σ6 H7 s7:=I7.sub λ p hp=>(C4.mp hp).elim (λ z=>B8 _ (B8 _ z)) λ z=>A6 _ z;have fin:∀{s8:G0}{H8:Hp}{o8:Obj}{ys8:QT ρ}{m':Nat},Inv Y (P5 ++ Q5) σ6 H8 s8->s8.heap.get? D=some o8->Acc ys8 o8->H8 D=none->m' < n->W (i+1) m' ys8 H8 ->
    wpAny (model Y.prog Y.w) Y.A (again (.compLoop node lvl (.ref it) (.ref D) Y.env)) (λ fin s'=>match fin with
     | .done f=>R (.ok f) s'
     | .again c'=>c'=.compLoop node lvl (.ref it) (.ref D) Y.env/\∃m,m < n/\∃i H' ys o,Inv Y P5 σ H' s'/\tn i s'.heap/\(∀b∈fp,H' b=none)/\s'.heap.get? D=some o/\Acc ys o/\H' D=none/\W i m ys H')
     (notedBy (model Y.prog Y.w) Y.A Y.env λ e s'=>R (.error e) s') s8:=λ {s8 H8 o8 ys8 m'} I8 e8 a8 d8 hm w8=>
   A3 ⟨rfl,m',hm,i+1,H8,ys8,o8,(I8.sub λ p hp=>B8 _ hp).weak le6.1.symm λ i v e=>le6.2 i v e,
    T.keep _ _ _ st5 λ b hb o e=>(I8.pin (b,o) (A6 _ (A6 _ (mp b hb o e)))).1,
    λ b hb=>by obtain⟨o,e,d⟩:=ms b hb;exact(I8.pin (b,o) (A6 _ (A6 _ (mp b hb o e)))).2.1,e8,a8,d8,w8⟩
  cases b with
  | false=>
   rw[QZ B3]at q7;obtain⟨m',hm,w7⟩:=q7;exact fin I7' p7.1 ac p7.2.1 hm w7
  | true=>
   rw[Qa rfl]at q7;apply A0 (Ql (hb i n ys o σ6 H7 s7 Q5 hz q7 le6 ac (hD.sub p7.2.1 λ p hp=>(C4.mp hp).imp id λ z=>λ e=>df _ (mf p z) e.symm) I7' p7.1) (λ _ s8 h9=>by obtain⟨H8,ys8,o8,I8,e8,a8,d8,m',hm,w8⟩:=h9;exact fin I8 e8 a8 d8 hm w8) λ _ _ z=>z.elim)
end
section
variable{ρ:Type}{X:Cx}{QV:SY}{σ:St}{H2:Hp}{s2:G0}{scope:Scope}{own cs:QT Str}{cap:QT Nat}{fp:QT QP}{it:QP}{tn:Nat->Heap->Prop}
 {node tg:Expr} {J:It} {qh:Hp->Prop} {E:G4->G0->Prop} {mk:Sem G4} {o0:Obj} {ho:QT ρ->HO} {Acc:QT ρ->Obj->Prop} {Fin:QT ρ->Hp->Prop}
theorem gS{RR:G4->QP->Result->G0->Prop}(I:Inv X QV σ H2 s2)(ok:CompOk X scope own cs cap)(T:∀C,TurnY (aM X QV s2 H2 scope C (own ++ cs) fp) tg J fp it tn qh)(st:tn 0 s2.heap)(hf:∀b∈fp,FpOk X QV H2 b)
  (fr:o0.isFreed=false) (hmk:∀{Q E:G4->G0->Prop},Q (.ref s2.heap.objs.size) { s2 with heap:=s2.heap.push o0 }->wpAny (model X.prog X.w) X.A mk Q E s2)
  (hstart:∀{D:QP}{env:Env}{R:Result->G0->Prop}{s:G0},codeAny (model X.prog X.w) X.A (.compLoop node 0 (.ref it) (.ref D) env) R s->wpAny (model X.prog X.w) X.A (pyIter (.ref it)) (λ it' s'=>codeAny (model X.prog X.w) X.A (.compLoop node 0 it' (.ref D) env) R s') (notedBy (model X.prog X.w) X.A env λ x s'=>R (.error x) s') s ->
   codeAny (model X.prog X.w) X.A (.compStart node 0 (.ref it) (.ref D) env) R s)
  (loop:∀(Y:Cx)(D C:QP)(s':G0)(R:Result->G0->Prop),Y=aM X QV s2 H2 scope C (own ++ cs) fp->Inv Y [] (aV σ cap own.length) H2 s'->FpOk Y [] H2 D->(∀b∈fp,FpOk Y [] H2 b)->(∀b∈fp,D≠b)->tn 0 s'.heap->s'.heap.get? D=some o0 ->
   (∀s' H' ys o,Inv Y [] (aV σ cap own.length) H' s'->s'.heap.get? D=some o->Acc ys o->H' D=none->Fin ys H'->R (.ok .next) s')->codeAny (model Y.prog Y.w) Y.A (.compLoop node 0 (.ref it) (.ref D) Y.env) R s')
  (hok:∀{D:QP}{ys:QT ρ}{o:Obj}{H':Hp}{s':G0},(D == sysModules)=false->Acc ys o->Fin ys H'->H' D=none->s'.heap.get? D=some o->ObjOk X.prog X.w (upd H' D (ho ys)) s'.heap D (ho ys))
  (hRR:∀D C s' ys H',H' D=none->Fin ys H'->Inv X QV σ (upd H' D (ho ys)) s'->FpOk X QV (upd H' D (ho ys)) C->(∃m,s'.heap.Ns C m)->RR (.ref D) C (.ok .next) s') :
  wpAny (model X.prog X.w) X.A mk (λ acc s₃=>wpAny (model X.prog X.w) X.A (newFunctionEnv scope X.env.globals (bJ X.env scope.names []) [] X.env.qual none .none (some X.env)) (λ cenv s₄=>
   codeAny (model X.prog X.w) X.A (.compStart node 0 (.ref it) acc { cenv with scope:=relabel scope X.env }) (RR acc cenv.locals) s₄) E s₃) E s2:=by
 apply hmk (zM ?_);dsimp only;generalize hHH:s2.heap.push o0=HH;have hCs:HH.objs.size=s2.heap.objs.size+1:=by rw[<- hHH,Qi]
 have hDC:s2.heap.objs.size≠HH.objs.size:=by rw[hCs];exact C1 (F4 _)
 have hCle:s2.heap.objs.size<=HH.objs.size:=by rw[hCs];exact Nat.le_succ _
 have hsys:(s2.heap.objs.size == sysModules)=false:=Qz.mpr (O1 (Nat.lt_trans ∅ (I.mod.glob.keeps I.bk).lt));have hfl:∀b∈fp,b < s2.heap.objs.size:=λ b hb=>by obtain⟨o,e,_⟩:=(T 0).obj 0 _ st b hb;exact B0 e
 have hpk:∀b o,HH.get? b=some o->(pushCells (HH.push { cls:=.type "dict",data:=.dict #[] }) scope.names).get? b=some o:=λ b o e=>pushCells_keeps _ _ b o (A8 _ e);have hns₁:(pushCells (HH.push { cls:=.type "dict",data:=.dict #[] }) scope.names).Ns HH.objs.size (λ _=>none):=(Heap.Ns.new HH (.type "dict")).keeps (pushCells_keeps _ _);have old:∀b o,s2.heap.get? b=some o->(pushCells (HH.push { cls:=.type "dict",data:=.dict #[] }) scope.names).get? b=some o:=λ b o e=>hpk b o (hHH ▸ A8 _ e);have hacc:(pushCells (HH.push { cls:=.type "dict",data:=.dict #[] }) scope.names).get? s2.heap.objs.size=some o0:=hpk _ _ (hHH ▸ A9 _ fr);have sub:∀x c,(bJ X.env scope.names []).lookup x=some c->X.env.cells.lookup x=some c:=λ x c e=>eZ X.env scope.names [] x c (λ y hy e=>I.ok.has y.1 (ok.free y hy e)) (λ _ _ z=>by simp at z) e;have hcl₁:∀x c,(cellsFrom (HH.objs.size+1) scope.names (bJ X.env scope.names [])).lookup x=some c->∃v,(pushCells (HH.push { cls:=.type "dict",data:=.dict #[] }) scope.names).IsCell c v:=by
  have:=mQ scope.names (HH.push { cls:=.type "dict",data:=.dict #[] }) (bJ X.env scope.names []) λ x c e=>by obtain⟨v,o,ho,hd⟩:=I.cell x c (sub x c e);exact%[v,o,A8 _ (hHH ▸ A8 _ ho)|hd]
  rw[Qi]at this;exact this
 generalize pushCells (HH.push { cls:=.type "dict",data:=.dict #[] }) scope.names=h₁ at *;generalize hD:s2.heap.objs.size=D at *;generalize hCC:HH.objs.size=C at *;have I0:Inv (aM X QV s2 H2 scope C (own ++ cs) fp) [] (aV σ cap own.length) H2 { s2 with heap:=h₁ } :=
  tQ I ok hf (λ b hb=>by rw[hD];exact hfl b hb) (by rw[hD];exact hCle) hns₁ hcl₁ old
 have Dn:H2 D=none:=I.hok.fresh (by rw[hD];exact B4 _);have FD:FpOk (aM X QV s2 H2 scope C (own ++ cs) fp) [] H2 D:=by
  apply%[Dn,hDC,λ hb=>?_,.inr (by show s2.heap.objs.size<=D;rw[hD];exact B4 _),λ x c e=>?_|λ p hp=>?_]
  ·obtain⟨_,o,ho,_⟩:=I.stack.mem hb;exact absurd (B0 ho) (by rw[hD];exact E4 _)
  ·rcases lM _ _ _ _ _ e with q | q
   ·obtain⟨v,o,ho,_⟩:=I.cell x c (sub x c q);exact C1 (hD ▸ B0 ho)
   ·exact Ne.symm (C1 (C8 hCle (Nat.lt_of_succ_le q)))
  ·have hp':p∈X.pn ++ QV:=by have:p∈(X.pn ++ QV) ++ []:=hp;simpa using this
   exact C1 (hD ▸ B0 (I.pin p hp').1)
 have st1:tn 0 h₁:=(T 0).keep 0 _ _ st λ b _ o e=>old b o e;have main:=loop _ D C { s2 with heap:=h₁ } (RR (.ref D) C) rfl I0 FD (λ b hb=>by
   have q:=I0.ok.exf b hb;apply%[(hf b hb).1,q.1,I0.ok.exfs b hb,.inl hb,q.2|λ p hp=>?_];have:p∈(X.pn ++ QV) ++ []:=hp;exact(hf b hb).2.2.2.2.2 p (by simpa using this)) (λ b hb z=>absurd (hfl b hb) (by rw[<- z];exact E4 _)) st1 hacc λ s4 H3 ys o I4 pl4 ac hD3 qf=>by
  have u4:=I4.base;have Ds2:s2.heap.get? D=none:=Heap.get?_none_of_le (by rw[hD];exact B4 _);have CH:(upd H3 D (ho ys)) C=none:=by rw[am (Ne.symm hDC)];exact I4.free
  apply hRR D C s4 ys H3 hD3 qf ?_ (I.fpOk (H':=upd H3 D (ho ys)) (by rw[hD];exact hCle) CH) (let ⟨m,hn,_⟩:=I4.loc;%[m|hn]);apply I.call' (s':=s4) (ch:=fp) I4.os %[u4.keep,u4.slot,λ b o e n hx=>?_,u4.there,λ b xs e=>?_,λ b o u e=>?_|λ b ps e=>?_] ?_ I4.bare λ b hb=>%[(hf b hb).2.2.2.1,(hf b hb).2.1,(hf b hb).2.2.2.2.1|(hf b hb).2.2.2.2.2]
  ·rw[am (λ z=>by rw[z,Ds2]at e;cases e)];exact u4.free b o e n hx
  ·have:=u4.tups b xs e;rw[am (ak this hD3)];exact this
  ·have:=u4.frzs b o u e;rw[am (ak this hD3)];exact this
  ·obtain⟨more,e'⟩:=u4.tbls b ps e;exact%[more|by rw[am (ak e' hD3)];exact e']
  ·exact I4.hok.add hD3 (hok hsys ac qf hD3 pl4)
 exact hstart main ((T C).self _ _ _ st1 main)
end
def AccL(ys:QT V)(o:Obj):Prop:=∃its nn,o={ cls:=.type "list",data:=.seq (its:QT G4).toArray nn }/\Vals ys its
theorem AccL.nc:∀ys o,AccL ys o->∀v,o.data≠.cell v:=by rintro _ _ ⟨its,nn,rfl,_⟩ v z;cases z
def BL(te:TE)(W:Nat->Nat->QT V->Hp->Prop):Nat->Nat->QT V->St->Hp->Prop:=λ i m ys σ3 H3=>te σ3 H3 (λ v H4=>∃m',m' < m/\W (i+1) m' (ys ++ [v]) H4)
theorem lO{Y:Cx}{P5:SY}{σ:St}{D:QP}{elt:Expr}{te:TE}{W:Nat->Nat->QT V->Hp->Prop}(hx:Y.xe=λ _ _=>False)(he:PE Y elt te) :
  rK Y P5 σ D (do let _<-call (.builtin "list.append") [.ref D,<- eval elt Y.env]) AccL (λ ys=>ys.length < sizeLine) (BL te W) W:=by
 rintro i m ys o σ3 H3 s3 Q5 hz hq le ⟨its,nn,rfl,rv⟩ fD I3 e3;have I3':Inv Y ((P5 ++ Q5) ++ [(D,{ cls:=.type "list",data:=.seq its.toArray nn })]) σ3 H3 s3:=I3.pins_of λ p hp=>(C4.mp hp).elim (λ z=>I3.pin p (A6 _ z)) λ z=>by
  obtain rfl:p=_:=by simpa using z
  exact%[e3,fD.1,fD.2.1,fD.2.2.1|λ v z=>by cases z]
 apply A0 (Ql (he _ s3 σ3 H3 _ I3' hq) (?_) λ _ _ z=>by rw[hx]at z;exact z.elim);rintro y s8 ⟨v,H8,I8,r8,m',hm,w8⟩;have pD:=I8.pin (D,{ cls:=.type "list",data:=.seq its.toArray nn }) (A6 _ (A6 _ (E6.mpr rfl)));have QX:=rv.length;apply A0 (wpAny_list_append_plain (hsz:=by rw[K2];lia) %[nn|pD.1] λ h9 %[n9|pl9] sb9=>A3 ?_);apply%[H8,ys ++ [v],_,(I8.sub λ p hp=>B8 _ hp).turned (t':=s8.toks) (λ b o hb e=>sb9.extBut b o hb e) pD.2.1 fD.2.1 fD.2.2.2.1 fD.2.2.2.2.1 fD.2.2.2.2.2,pl9,%[its ++ [y],n9,by simp|rv.append (.cons r8 .nil)],pD.2.1,m',hm|w8]
section
variable{X:Cx}{QV:SY}{σ:St}{H2:Hp}{s2:G0}{scope:Scope}{own cs:QT Str}{cap:QT Nat}{fp:QT QP}{it:QP}{tn:Nat->Heap->Prop}
 {elt tg iter:Expr} {ifs:QT Expr} {pos:Pos} {J:It} {g:TG} {tt:TT} {te:TE} {qh:Hp->Prop} {E:G4->G0->Prop} {W:Nat->Nat->QT V->Hp->Prop} {Qf:QT V->Hp->Prop}
theorem oh{RR:G4->QP->Result->G0->Prop}(I:Inv X QV σ H2 s2)(ok:CompOk X scope own cs cap)(T:∀C,TurnY (aM X QV s2 H2 scope C (own ++ cs) fp) tg J fp it tn qh)(st:tn 0 s2.heap)(hf:∀b∈fp,FpOk X QV H2 b)
  (hg:∀C,PG (aM X QV s2 H2 scope C (own ++ cs) fp) tg g) (hi:∀C,iY (aM X QV s2 H2 scope C (own ++ cs) fp) ifs tt) (he:∀C,PE (aM X QV s2 H2 scope C (own ++ cs) fp) elt te)
  (w0:∃m,W 0 m [] H2) (hq:∀i m ys H,W i m ys H->qh H) (turn:eF σ cap own.length J g tt te Qf W)
  (hRR:∀D C s' ys H',H' D=none->(ys.length<=sizeLine/\Qf ys H')->Inv X QV σ (upd H' D (.lst ys)) s'->FpOk X QV (upd H' D (.lst ys)) C->(∃m,s'.heap.Ns C m)->RR (.ref D) C (.ok .next) s') :
  wpAny (model X.prog X.w) X.A (newList []) (λ acc s₃=>wpAny (model X.prog X.w) X.A (newFunctionEnv scope X.env.globals (bJ X.env scope.names []) [] X.env.qual none .none (some X.env)) (λ cenv s₄=>
   codeAny (model X.prog X.w) X.A (.compStart (.ListComp elt [%[tg,iter,ifs|0]] scope pos) 0 (.ref it) acc { cenv with scope:=relabel scope X.env }) (RR acc cenv.locals) s₄) E s₃) E s2:=by
 apply gS (Acc:=AccL) (Fin:=λ ys H=>ys.length<=sizeLine/\Qf ys H) (ho:=.lst) I ok T st hf rfl (λ h=>F8 h) codeAny_compStart_list (λ Y D C s' R hY I0 hD hf' df st0 e0 hR=>?_) (λ _ ⟨its,nn,e,rv⟩ q _ p=>%[q.1,its,nn,rv|e ▸ p]) hRR;subst hY;exact gq (ipos:=iter.pos) (body:=do let _<-call (.builtin "list.append") [.ref D,<-eval elt (aM X QV s2 H2 scope C (own ++ cs) fp).env]) rfl (T C) (hg C) (hi C) rfl rfl AccL.nc (λ i m ys H w=>%[hq _ _ _ _ w|turn i m ys H w]) (lO rfl (he C)) I0 hD hf' df st0 e0 %[[],_,rfl|.nil] w0 hR
def wY(wi:TI)(cap:QT Nat)(k:Nat)(g:TG)(tt:TT)(te:TE):TE:=λ σ H Q=>wi σ H λ J H1=>
 ∃W:Nat->Nat->QT V->Hp->Prop,(∃m,W 0 m [] H1)/\eF σ cap k J g tt te (λ ys H'=>∀p,H' p=none->Q (.ref p) (upd H' p (.lst ys))) W
theorem aY{wi:TI}(hc:X.calm=true)(hit:PI X tg iter wi)(ok:CompOk X scope own cs cap)
  (hg:∀QV s2 H2 C fp,PG (aM X QV s2 H2 scope C (own ++ cs) fp) tg g) (hi:∀QV s2 H2 C fp,iY (aM X QV s2 H2 scope C (own ++ cs) fp) ifs tt) (he:∀QV s2 H2 C fp,PE (aM X QV s2 H2 scope C (own ++ cs) fp) elt te)
  (hs:∀x,foldedSetIterable iter X.env x=pure x:=by intro _;rfl):PE X (.ListComp elt [%[tg,iter,ifs|0]] scope pos) (wY wi cap own.length g tt te):=by
 intro QV s σ H Q I h;rw[eval_ListComp];apply wpAny_comprehension_free (use:=none) rfl hs (fb λ y hy e=>I.ok.has y.1 (ok.free y hy e)) ok.kind ok.names (thn (hit QV s σ H _ I h) λ v s1 h1=>thn h1 λ itv s2 h2=>?_);obtain⟨it,fp,tn,J,H2,e,I2,T,st2,f2,W,w0,turn⟩:=h2;subst e;apply oh (RR:=λ acc C=>compPost (model X.prog X.w) X.A X.xe none (EP X QV σ Q) acc C) I2 ok (λ C=>Turn.y (Y:=aM X QV s2 H2 scope C (own ++ cs) fp) T hc) st2 f2 (λ C=>hg _ _ _ _ _) (λ C=>hi _ _ _ _ _) (λ C=>he _ _ _ _ _) w0 (λ _ _ _ _ _=>trivial) turn λ D C s' ys H' hD %[_|q] I' fp' %[m|hn]=>?_;obtain⟨f0,f1,f2',f3,f4,f5⟩:=fp';exact%[m,hn|λ h' sb=>%[.ref D,_,I'.turned (t':=s'.toks) (λ b o hb e=>sb.extBut b o hb e) f0 f1 f3 f4 f5,O|q D hD]]
theorem gr{wi:TI}{i:Nat}{y:Str}{py spos:Pos}(hc:X.calm=true)(hN:X.N.Nodup)(hiy:X.N[i]?=some y)(hy:X.env.scope.names.lookup y=some .local)
  (hsw:swapsWith (.ListComp elt [%[tg,iter,ifs|0]] scope pos) (some (.Name y py)) spos.line X.env=pure true) (hit:PI X tg iter wi) (ok:CompOk X scope own cs cap)
  (hg:∀QV s2 H2 C fp,PG (aM X QV s2 H2 scope C (own ++ cs) fp) tg g) (hi:∀QV s2 H2 C fp,iY (aM X QV s2 H2 scope C (own ++ cs) fp) ifs tt) (he:∀QV s2 H2 C fp,PE (aM X QV s2 H2 scope C (own ++ cs) fp) elt te)
  (hs:∀x,foldedSetIterable iter X.env x=pure x:=by intro _;rfl):PS X (.Assign [.Name y py] (.ListComp elt [%[tg,iter,ifs|0]] scope pos) spos) (Bs (wY wi cap own.length g tt te) (fB i)):=by
 intro QV s σ H D0 I h;rw[exec_Assign_Name_used _ _ _ _ hsw];apply A0 (RC (A0 ?_));show wpAny _ X.A (do let _<-comprehension (.ListComp elt [%[tg,iter,ifs|0]] scope pos) scope X.env _ (newList []) false (eval iter X.env) (some (assign (.Name y py) X.env))) _ _ s;apply A0 (Ql (wpAny_comprehension_free (use:=some (assign (.Name y py) X.env)) (Q:=λ _ s'=>SP X QV D0 .next s') rfl hs (fb λ y hy e=>I.ok.has y.1 (ok.free y hy e)) ok.kind ok.names
  (thn (hit QV s σ H _ I h) λ v s1 h1=>thn h1 λ itv s2 h2=>?_)) (λ _ s' hq=>A3 (A3 hq)) λ _ _ e=>e)
 obtain⟨it,fp,tn,J,H2,e,I2,T,st2,f2,W,w0,turn⟩:=h2;subst e;apply oh (RR:=λ acc C=>compPost (model X.prog X.w) X.A X.xe (some (assign (.Name y py) X.env)) (λ _ s'=>SP X QV D0 .next s') acc C) I2 ok (λ C=>Turn.y (Y:=aM X QV s2 H2 scope C (own ++ cs) fp) T hc) st2 f2 (λ C=>hg _ _ _ _ _) (λ C=>hi _ _ _ _ _) (λ C=>he _ _ _ _ _) w0 (λ _ _ _ _ _=>trivial) turn λ D C s' ys H' hD %[_|q] I' fp' %[m|hn]=>?_;obtain⟨f0,f1,f2',f3,f4,f5⟩:=fp';show wpAny _ X.A (assign (.Name y py) X.env (.ref D)) _ _ _;apply wpAny_assign_Name (lF I' hN hiy (.inl hy) (v:=.ref D) rfl (?_) (.inr hy));rintro s3 I3 ⟨a,sb,ha⟩;have hCa:C≠a:=by
  rcases ha with z | z
  ·rw[z];exact f1
  ·exactλ q=>f4 y a z q.symm
 apply%[m,hn.sameBut sb hCa|λ h' sb'=>%[_,_,I3.turned (t':=s3.toks) (λ b o hb e=>sb'.extBut b o hb e) f0 f1 f3 f4 f5|q D hD]]
end
def CDivB(i j:Int):Prop:=0 < j/\j<=10 ^ 60
theorem CDivB.np{i j:Int}(h:CDivB i j):Builtin.divisionGoesByPylong i j=false:=by
 apply PyProof.noPylong_of_log2 ?_;have h1:j.natAbs < 2 ^ 200:=by obtain⟨a,b⟩:=h;lia
 have h2:j.natAbs.log2 < 200:=(Nat.log2_lt (by have:=h.1;lia)).mpr h1;lia
section
variable{X:Cx}
theorem wZ:OpR X (binaryOp .FloorDiv) (rI CDivB λ i j=>.int (i / j)):=opI λ i j _ _ _ _ _ hc q=>by apply floordiv_int (by have:=hc.1;lia) ?_ (.inl hc.np);rw[Int.fdiv_eq_ediv_of_nonneg _ (by have:=hc.1;lia)];exact q
theorem Inv.kitx{QV:SY}{σ:St}{H:Hp}{s:G0}{x:V}{u t:G4}(I:Inv X QV σ H s)(rx:RelV x u)(ty:TyOf X.K H x t) :
  ∃P:Heap->Prop,PySem.W.KitX X.K u t P/\P s.heap/\u≠.builtin "__main__.__loader__#opaque" := by
 cases ty with
 | non=>cases(show u=Value.none from rx);exact%[_,PySem.W.kitx_none,True.intro|λ z=>nomatch z]
 | bl y=>cases(show u=Value.bool y from rx);exact%[_,PySem.W.kitx_bool,True.intro|λ z=>nomatch z]
 | int i=>obtain⟨t,q⟩:=(show∃t,u=Value.int i t from rx);cases q;exact%[_,PySem.W.kitx_int,True.intro|λ z=>nomatch z]
 | str y=>obtain⟨t,q⟩:=(show∃t,u=Value.str y t from rx);cases q;exact%[_,PySem.W.kitx_str,True.intro|λ z=>nomatch z]
 | flt y=>obtain⟨t,q⟩:=(show∃t,u=Value.float y t from rx);cases q;exact%[_,PySem.W.kitx_float,True.intro|λ z=>nomatch z]
 | @lst a xs ea=>
  cases(show u=Value.ref a from rx);obtain⟨_,_,n,_,h1⟩:=(show ObjOk X.prog X.w H s.heap a (.lst xs)from I.hok a _ ea)
  exact%[_,PySem.W.kitx_list,%[_,h1|O]|λ z=>nomatch z]
 | @frz a ob xs ea=>
  cases(show u=Value.ref a from rx);obtain⟨_,_,_,n,_,h1⟩:=(show ObjOk X.prog X.w H s.heap a (.frz ob (.lst xs))from I.hok a _ ea)
  exact%[_,PySem.W.kitx_list,%[_,h1|O]|λ z=>nomatch z]
 | @tup a xs ea=>
  cases(show u=Value.ref a from rx);obtain⟨_,_,_,p⟩:=(show ObjOk X.prog X.w H s.heap a (.tup xs)from I.hok a _ ea)
  obtain⟨o,h1,h2,_⟩:=p;exact%[_,PySem.W.kitx_tuple,%[o,h1|h2]|λ z=>nomatch z]
 | @dK a kvs ea=>
  cases(show u=Value.ref a from rx);obtain⟨_,_,vs,_,p⟩:=(show ObjOk X.prog X.w H s.heap a (.dK kvs)from I.hok a _ ea)
  obtain⟨o,es,ep,h1,h2,_⟩:=p;exact%[_,PySem.W.kitx_dict,%[o,h1|h2.1]|λ z=>nomatch z]
 | @dT a kvs ea=>
  cases(show u=Value.ref a from rx);obtain⟨_,_,xs,_,o,es,ep,h1,h2,_⟩:=(show ObjOk X.prog X.w H s.heap a (.dT kvs)from I.hok a _ ea)
  exact%[_,PySem.W.kitx_dict,%[o,h1|h2.1]|λ z=>nomatch z]
 | @ext a φ ea c=>
  cases(show u=Value.ref a from rx);obtain⟨p,_,_⟩:=(show ObjOk X.prog X.w H s.heap a (.ext φ)from I.hok a _ ea)
  obtain⟨o,h1,h2⟩:=c _ p;exact%[_,PySem.W.kitx_dict,%[o,h1|h2]|λ z=>nomatch z]
 | @ins a C dx fs ea cl ha hn htk hm=>
  cases(show u=Value.ref a from rx);obtain⟨mA,OO0,_⟩:=ik I.hok ea;obtain⟨od,J,_⟩:=OO0.look;exact%[_,PySem.W.kitx_own (cl.get _) cl.hd ha hn htk hm,J|λ z=>nomatch z]
def clV:V->QR Value
 | .ty T=>some (.type T)
 | .ref C=>↑C
 | _=>none
theorem clV.rel{v:V}{u c:G4}(e:clV v=some c)(r:RelV v u):u=c:=by
 cases v with
 | ty T=>have e':Value.type T=c:=C0 e;rw[<- e'];exact r
 | ref C=>have e':Value.ref C=c:=C0 e;rw[<- e'];exact r
 | _=>cases e
def clVs:QT V->QR (QT G4)
 | []=>some []
 | v :: r=>match clV v,clVs r with
  | some c,some cs=>some (c :: cs)
  | _,_=>none
theorem clVs.rel:∀{vs:QT V}{us cs:QT G4},clVs vs=some cs->Vals vs us->us=cs
 | [],_,_,e,.nil=>C0 e
 | v :: r,_,_,e,.cons r1 r2=>by
  unfold clVs at e
  split at e
  ·rename_i c cs' e1 e2
   cases e;rw[clV.rel e1 r1,clVs.rel e2 r2]
  ·cases e
inductive rz_call_isinst(K:C6)(xs:QT V)(H:Hp)(Q:VK):Prop
|mk(x cv t c b:_)(_:xs=[x,cv])(_:TyOf K H x t)(_:clV cv=some c)(_:PySem.W.kitOne K t c=some b)(_:Q (.bl b) H)
theorem fT:cD X (.builtin "isinstance") (rz_call_isinst X.K):=by
 intro QV s σ H xs us Q I rv h;obtain⟨x,cv,t,c,b,rfl,ty,e1,e2,q⟩:=h;cases rv with
 | cons r1 rr=>
  cases rr with
  | cons r2 rr=>
   cases rr;rw[clV.rel e1 r2];exact tK I r1 ty e2 λ tk=>%[.bl b,H,I.tok tk,O|q]
inductive rz_call_isinstT(K:C6)(xs:QT V)(H:Hp)(Q:VK):Prop
|mk(x p t cvs cs b:_)(_:xs=[x,.ref p])(_:TyOf K H x t)(_:H p= ~~~cvs)(_:clVs cvs=some cs)(_:PySem.W.kitAny K t cs=some b)(_:Q (.bl b) H)
theorem mT:cD X (.builtin "isinstance") (rz_call_isinstT X.K):=by
 intro QV s σ H xs us Q I rv h;obtain⟨x,p,t,cvs,cs,b,rfl,ty,hp,e1,e2,q⟩:=h;cases rv with
 | cons r1 rr=>
  cases rr with
  | cons r2 rr=>
   cases rr;cases r2;obtain⟨_,its,rits,o,ho,hc,n,hd⟩:=I.hok p _ hp;obtain⟨P,Z,p1,p2⟩:=I.kitx r1 ty;obtain⟨oc,od,dt,osl⟩:=o
   replace hc:oc=.type "tuple" := hc
   replace hd:dt=.seq its.toArray n:=hd
   subst hc hd;have e3:=clVs.rel e1 rits;subst e3;exact PySem.W.kia_tup Z I.kIn p1 ho e2 p2 λ tk=>%[.bl b,H,I.tok tk,O|q]
end
mutual
inductive DatV(K:C6)(H:Hp):V->PyData->Prop
 | non:DatV K H .non .none
 | bl (b:Bool):DatV K H (.bl b) (.bool b)
 | int (i:Int):DatV K H (.int i) (.int i)
 | str (x:Str):DatV K H (.str x) (.str x)
 | lst {a:QP} {xs:QT V} {ds:QT PyData}:SqL K H a xs->DatVs K H xs ds->DatV K H (.ref a) (.list ds)
 | tup {a:QP} {xs:QT V} {ds:QT PyData}:SqT K H a xs->DatVs K H xs ds->DatV K H (.ref a) (.tuple ds)
inductive DatVs(K:C6)(H:Hp):QT V->QT PyData->Prop
 | nil:DatVs K H [] []
 | cons {x:V} {d:PyData} {xs:QT V} {ds:QT PyData}:DatV K H x d->DatVs K H xs ds->DatVs K H (x :: xs) (d :: ds)
end
section
variable{X:Cx}{QV:SY}{σ:St}{H:Hp}{s:G0}
mutual
theorem Inv.reads(I:Inv X QV σ H s):∀{v:V}{d:PyData},DatV X.K H v d->∀{u:G4},RelV v u->∃as,Reads s.heap u d as
 | _,_,.non,u,r=>by cases(show u=Value.none from r);exact%[_|.none]
 | _,_,.bl b,u,r=>by cases(show u=Value.bool b from r);exact%[_|.bool b]
 | _,_,.int i,u,r=>by obtain⟨t,e⟩:=(show∃t,u=Value.int i t from r);subst e;exact%[_|.int i t]
 | _,_,.str x,u,r=>by obtain⟨t,e⟩:=(show∃t,u=Value.str x t from r);subst e;exact%[_|.str x t]
 | _,_,.lst (a:=a) h hs,u,r=>by cases(show u=Value.ref a from r);obtain⟨its,rv,⟨o,n,e,c,_,d⟩,_⟩:=I.list h;obtain⟨as,ra⟩:=I.readsAll hs rv;exact%[_|.list e c d (by simpa using ra)]
 | _,_,.tup (a:=a) h hs,u,r=>by cases(show u=Value.ref a from r);obtain⟨its,rv,⟨o,e,c,n,d⟩,_⟩:=I.tuple h;obtain⟨as,ra⟩:=I.readsAll hs rv;exact%[_|.tuple e c d (by simpa using ra)]
theorem Inv.readsAll(I:Inv X QV σ H s):∀{vs:QT V}{ds:QT PyData},DatVs X.K H vs ds->∀{us:QT G4},Vals vs us->∃as,ReadsAll s.heap us ds as
 | _,_,.nil,_,.nil=>%[_|.nil]
 | _,_,.cons h hs,_,.cons r rs=>by obtain⟨as,ra⟩:=I.reads h r;obtain⟨bs,rb⟩:=I.readsAll hs rs;exact%[_|.cons ra rb]
end
end
section
variable{X:Cx}
inductive rz_op_neD(K:C6)(x:V)(y:V)(H:Hp)(Q:VK):Prop
|mk(da db:_)(_:DatV K H x da)(_:DatV K H y db)(_:SeqAt.shaped da=true)(_:SeqAt.shaped db=true)(_:Q (.bl (!PyData.eqv da db)) H)
theorem xb(hu:X.A.units+64 < cLine):OpR X (compareOp .NotEq) (rz_op_neD X.K):=by intro QV s σ H x y v u Q I rx ry h;obtain⟨da,db,hx,hy,s1,s2,q⟩:=h;obtain⟨as,ra⟩:=I.reads hx rx;obtain⟨bs,rb⟩:=I.reads hy ry;exact ne_dataH ra rb s1 s2 hu %[.bl _,H,I,rfl|q]
inductive rz_op_eqD(K:C6)(x:V)(y:V)(H:Hp)(Q:VK):Prop
|mk(da db:_)(_:DatV K H x da)(_:DatV K H y db)(_:SeqAt.shaped da=true)(_:SeqAt.shaped db=true)(_:Q (.bl (PyData.eqv da db)) H)
end
section
variable{prog:G1}{w:G3}{A:Around}{E:G4->G0->Prop}
theorem ke{it l:QP}{items:QS G4}(hne:l≠it):∀(n i:Nat)(s:G0)(Q:QT G4->G0->Prop),s.heap.IsListIter it l i->s.heap.IsList l items->i+n<=items.size ->
  (∀h',h'.IsListIter it l (i+n)->Heap.SameBut it s.heap h'->Q ((items.toList.drop i).take n) { s with heap:=h' })->wpAny (model prog w) A (draw (.ref it) n) Q E s
 | 0,i,s,Q,hit,_,_,hQ=>by show wpAny _ _ (pure []) Q E s;exact A3 (by simpa using hQ s.heap hit (Heap.SameBut.refl ..))
 | n+1,i,s,Q,hit,ht,hle,hQ=>by
  have hlt:i < items.size:=⋯
  show wpAny _ _ (pyNext (.ref it) >>= _) Q E s;apply A0 (wpAny_pyNext_list_item hit ht (x:=items[i]) (by simp[hlt]) λ h₁ hit₁ hs₁=>?_);apply A0 (Qh (ke hne n (i+1) _ _ hit₁ (ht.extBut hs₁.extBut hne) ⋯ λ h₂ hit₂ hs₂=>A3 ?_));have hd:items.toList.drop i=items[i] :: items.toList.drop (i+1):=by simp[PK,hlt]
  have q:=hQ h₂ (by rw[show i+(n+1)=i+1+n by lia];exact hit₂) (hs₁.trans hs₂);rw[hd,List.take_succ_cons]at q;exact q
theorem im{s:G0}{l:QP}{items:QS G4}{Q:QT G4->G0->Prop}(hh:A.handled=none)(ht:s.heap.IsList l items)
  (hQ:∀h',Heap.ExtBut s.heap.objs.size s.heap h'->Q items.toList { s with heap:=h' }):wpAny (model prog w) A (unpackItems (.ref l) items.size none) Q E s:=by
 have hlt:l≠s.heap.objs.size:=by obtain⟨o,ho,_⟩:=ht;exact C1 (B0 ho)
 have hp:(s.heap.push { cls:=.type "list_iterator",data:=.fields #[.ref l,.int 0 0] }).IsList l items:=by obtain⟨o,ho,r⟩:=ht;exact%[o,A8 _ ho|r]
 unfold unpackItems;apply A0 ?_
 ·unfold notIterableAtAll;apply A0 (wpAny_specialOf ht.typeIs PySem.slot_list_iter.lookup ?_);apply A3 ?_;simp only[M6,Qv];apply A0 (Qh (wpAny_pyIter_list ht ?_));apply A0 (Qh (ke hlt items.size 0 _ _ %[_,A9 _ rfl,rfl|rfl] hp ⋯ λ h₁ hit₁ hs₁=>?_));have hall:List.take items.size (List.drop 0 items.toList)=items.toList:=by rw[List.drop_zero];exact K6 (by simp)
  rw[hall];rw[QZ (by simp)];have ht₁:h₁.IsList l items:=hp.extBut hs₁.extBut hlt;apply A0 (Qh (wpAny_pyNext_list_end hh hit₁ ht₁ (by simp) λ h₂ he₂=>?_));simp only[Option.isSome_none,M6,if_false];apply A3 (hQ h₂ λ b o hb e=>he₂ b o hb (hs₁.extBut b o hb (A8 _ e)))
theorem gT{s:G0}{env:Env}{elts:QT Expr}{x1}{pos:Pos}{l:QP}{items:QS G4}{Q:Unit->G0->Prop}(hh:A.handled=none)(ht:s.heap.IsList l items)
  (hn:(assignEach elts env).length=items.size) (hstar:(assignEach elts env).findIdx? (·.1)=none)
  (h:∀h',Heap.ExtBut s.heap.objs.size s.heap h'->wpAny (model prog w) A (assignInOrder ((assignEach elts env).map (·.2)) items.toList) Q E { s with heap:=h' }) :
  wpAny (model prog w) A (assign (.Tuple elts x1 pos) env (.ref l)) Q E s:=by
 rw[assign_Tuple];apply A0 (RC ?_);unfold unpack;rw[hn,hstar];exact A0 (Qh (im hh ht h))
end
section
variable{X:Cx}{pos:Pos}
def MC(K:C6)(n:Nat)(t:TGs):TG:=λ v σ H Q=>∃a xs,v=.ref a/\(SqL K H a xs\/SqT K H a xs)/\xs.length=n/\t xs σ H Q
theorem xc{es:QT Expr}{k:Nat}{t:TGs}{n:Nat}(hc:X.calm=true)(h:PGs X es t)
  (hn:(assignEach es X.env).length=n:=by rfl) (hst:(assignEach es X.env).findIdx? (·.1)=none:=by rfl):PG X (.Tuple es k pos) (MC X.K n t):=by
 intro QV s σ H v u Q I r hw;obtain⟨a,xs,e1,hq,hl,hw⟩:=hw;rcases hq with hq | hq
 ·subst e1;cases r;obtain⟨its,rv,ht,hz⟩:=I.list hq;apply gT (I.ok.hd hc) ht.isList (by simp[hn,<- hl,rv.length]) hst λ h' hx=>?_;have I1:Inv X QV σ H { s with heap:=h' }:=I.kept (t':=s.toks) λ b o e=>hx b o (C1 (B0 e)) e;exact h QV _ σ H xs _ Q I1 (by simpa using rv) hw
 ·exact bn hc h hn hst QV s σ H v u Q I r %[a,xs,e1,hq,hl|hw]
end
section
variable{X:Cx}
theorem Inv.turnedN{QV:SY}{σ:St}{H:Hp}{s:G0}{h':Heap}{t':Nat}{ch:QT QP}(I:Inv X QV σ H s)(hf:∀b∈ch,FpOk X QV H b)(k:∀b o,b∉ch->s.heap.get? b=some o->h'.get? b=some o):Inv X QV σ H { s with heap:=h',toks:=t' }:=by
 have hLc:X.env.locals∉ch:=λ z=>(hf _ z).2.1 rfl;have nt:∀b u,H b=some u->b∉ch:=λ b u e z=>by rw[(hf b z).1]at e;cases e
 apply I.step (g':=s.gens) (d':=s.drawn) (ch:=ch) (λ b hb=>%[(hf b hb).2.2.2.1,(hf b hb).2.1,(hf b hb).2.2.2.2.1|(hf b hb).2.2.2.2.2]) (λ b o _ _ hc e _=>k b o hc e) (λ b o _ _ hc e _=>%[o.slots|k b o hc e]) (λ _ _ _ _ n=>n)
  (λ b o hc e=>%[o|k b o hc e]) (λ _ _ e=>e) (λ _ _ _ e=>e) (λ b ps e=>%[#[]|by rw[e];simp]) (λ m hm=>?_) (λ b u e=>?_) I.bare
 ·obtain⟨o,es,ep,ho,r⟩:=hm;exact%[o,es,ep,k _ o hLc ho|r]
 ·apply(I.hok b u e).stay (λ c v hc q=>k c v ?_ q) (λ _ q=>q) λ _ _ q=>q;rcases hc with z | z
  ·rw[z];exact nt b u e
  ·exact nt c _ z
theorem Inv.track{QV:SY}{σ:St}{H:Hp}{s:G0}{a:QP}{o:HO}(I:Inv X QV σ H s)(hf:FpOk X QV H a)(fa:X.s₀.heap.objs.size<=a)(new:ObjOk X.prog X.w (upd H a o) s.heap a o):Inv X QV σ (upd H a o) s:=by
 obtain⟨f0,f1,f2,f3,f4,f5⟩:=hf;have s0:∀b o,X.s₀.heap.get? b=some o->b≠a:=λ b o e=>C1 (C3 (B0 e) fa);apply%[I.ok,I.os,I.bare,%[I.base.keep,I.base.slot,λ b o e n hx=>?_,I.base.there,λ b xs e=>?_,λ b o u e=>?_|λ b ps e=>?_],I.loc,I.cell,?_,λ x c e=>?_,λ p hp=>?_,I.hok.add f0 new|I.len]
 ·rw[am (s0 b o e)];exact I.base.free b o e n hx
 ·have q:=I.base.tups b xs e;rw[am (ak q f0)];exact q
 ·have q:=I.base.frzs b o u e;rw[am (ak q f0)];exact q
 ·obtain⟨more,q⟩:=I.base.tbls b ps e;exact%[more|by rw[am (ak q f0)];exact q]
 ·rw[am (Ne.symm f1)];exact I.free
 ·rw[am (f4 x c e)];exact I.freeC x c e
 ·obtain⟨e,n,r⟩:=I.pin p hp;exact%[e,by rw[am (f5 p hp)];exact n|r]
end
structure ZipAp(z TI TO i1 i2:QP):Prop where
 nd:[z,TI,TO,i1,i2].Nodup
end L2
namespace L2
open PySem PySem.Spec PyProof.Rows
def Dn(P:G1)(w:G3)(K:C6)(mg:Str->QR G4)(base:Heap)(x:Str)(ps:QT Str)(k:Nat)(sp:Sp):Prop :=
 ∃(f:QP)(fd:G2),FnOk P w K mg base CX0 k f fd ps sp/\Binds K fd ps []/\PySem.W.keepIn K (.ref f)=true/\mg x=↑f
theorem ap{X:Cx}{k:Nat}{ps:QT Str}{sp:Sp}{x:Str}{p pos:Pos}{e:Expr}{es:QT Expr}{t:TA}(D:Dn X.prog X.w X.K X.mg X.base x ps k sp)(hr:Room k X.A)(hg:Gl X x)(ha:PA X (e :: es) t)
  (hdb:(x == ("__debug__" : Str))=false:=by decide) (he:starEach (e :: es) X.env=(false,eval e X.env) :: starEach es X.env:=by rfl) (hpl:(backTo pos (starEach es X.env)).any (·.1)=false:=by rfl) :
  PE X (.Call (.Name x p) (e :: es) [] pos) (AY sp [] E0 t):=by
 obtain⟨f,fd,F,hb,hk,hm⟩:=D;exact zF F hr hg hm hk hb .nil rJ ha hdb he hpl
def mU(sc:Scope)(N:QT Str)(scope:Scope)(own cs:QT Str)(cap:QT Nat):Bool :=
 decide (scope.kind=.function) && scope.names.all (λ y=>decide (y.2=.local->scope.names.lookup y.1=some .local)) &&
 scope.names.all (λ y=>decide (y.2=.free->sc.names.lookup y.1=some .cell\/sc.names.lookup y.1=some .free)) &&
 decide (cs.length=cap.length) && (cs.zip cap).all (λ y=>decide (N[y.2]?=some y.1) && decide ((y.1,NameKind.free)∈scope.names)) && scope.names.all (λ y=>decide (y.2=.free->scope.names.lookup y.1≠some .local)) && scope.names.all (λ y=>decide (y.2=.free->scope.names.lookup y.1≠some .cell)) && scope.names.all (λ y=>decide (y.2=.free->(y.1,NameKind.cell)∉scope.names))
theorem aD{X:Cx}{sc:Scope}{N:QT Str}{scope:Scope}{own cs:QT Str}{cap:QT Nat}(h1:X.env.scope=sc)(h2:X.N=N)(h:mU sc N scope own cs cap=true):CompOk X scope own cs cap:=by
 subst h1 h2;unfold mU at h;simp only[M9,Pz,Q7]at h;obtain⟨⟨⟨⟨⟨⟨⟨a1,a3⟩,a4⟩,a6⟩,a7⟩,a8⟩,a9⟩,a10⟩:=h;apply%[a1,a3,a4,λ i y e=>?_,a6,λ y hy e=>a8 _ hy rfl e,λ y hy e=>a9 _ hy rfl e|λ y hy=>a10 _ hy rfl];have hi:i < cs.length:=(A7.mp e).1;have hj:i < cap.length:=by rw[<- a6];exact hi
 apply%[cap[i],F5 hj|?_];have hm:(y,cap[i])∈cs.zip cap:=by
  have:(cs.zip cap)[i]?=some (y,cap[i]):=by rw[List.getElem?_zip_eq_some];exact%[e|F5 hj]
  exact B7 this
 exact a7 _ hm
theorem aI{σ:St}{H:Hp}{A B:Hp->Prop}(h:A H):BE σ H (λ ok H3=>if ok=true then A H3 else B H3):=by show(if (true:Bool)=true then A H else B H);rw[Qa rfl];exact h
section
variable{X:Cx}{tg:Expr}
def BF(K:C6)(tl:TE):TI:=λ σ H R=>AU K tl σ H R\/Dg K tl σ H R
theorem qB{l:Expr}{tl:TE}(hl:PE X l tl):PI X tg l (BF X.K tl):=by
 intro QV s σ H R I h;rcases h with h | h
 ·exact bC hl QV s σ H R I h
 ·exact jS hl QV s σ H R I h
end
def bI:QT String:=["NoneType","bool","int","str","list","tuple","dict"]
theorem zN{K:C6}:∀T∈bI,PySem.W.kitOne K (.type T) (.type "int")=some (T == "int" || T == "bool"):=by intro T h;simp only[bI,J4,K9,Qw]at h;rcases h with rfl | rfl | rfl | rfl | rfl | rfl | rfl <;> kernel_rfl
theorem oj{K:C6}:∀T∈bI,PySem.W.kitOne K (.type T) (.type "bool")=some (T == "bool"):=by intro T h;simp only[bI,J4,K9,Qw]at h;rcases h with rfl | rfl | rfl | rfl | rfl | rfl | rfl <;> kernel_rfl
theorem xf{K:C6}:∀T∈bI,PySem.W.kitOne K (.type T) (.type "list")=some (T == "list"):=by intro T h;simp only[bI,J4,K9,Qw]at h;rcases h with rfl | rfl | rfl | rfl | rfl | rfl | rfl <;> kernel_rfl
theorem tR{K:C6}:∀T∈bI,PySem.W.kitOne K (.type T) (.type "tuple")=some (T == "tuple"):=by intro T h;simp only[bI,J4,K9,Qw]at h;rcases h with rfl | rfl | rfl | rfl | rfl | rfl | rfl <;> kernel_rfl
theorem zO{K:C6}:∀T∈bI,PySem.W.kitAny K (.type T) [.type "list",.type "tuple"]=some (T == "list" || T == "tuple"):=by
 intro T h;have h1:=xf (K:=K) T h;have h2:=tR (K:=K) T h;unfold PySem.W.kitAny;rw[h1];cases e:(T == "list")with
 | true=>rfl
 | false=>
  show PySem.W.kitAny K (.type T) [.type "tuple"]=_;unfold PySem.W.kitAny;rw[h2];cases e2:(T == "tuple") <;> rfl
def Ty(K:C6)(H:Hp)(x:V)(T:String):Prop:=T∈bI/\TyOf K H x (.type T)
theorem Ty.int{K:C6}{H:Hp}{i:Int}:Ty K H (.int i) "int" := %[by simp[bI]|.int i]
theorem Ty.bl{K:C6}{H:Hp}{b:Bool}:Ty K H (.bl b) "bool" := %[by simp[bI]|.bl b]
theorem Ty.lst{K:C6}{H:Hp}{a:QP}{xs:QT V}(e:H a=↥xs):Ty K H (.ref a) "list" := %[by simp[bI]|.lst e]
theorem Ty.tup{K:C6}{H:Hp}{a:QP}{xs:QT V}(e:H a= ~~~xs):Ty K H (.ref a) "tuple" := %[by simp[bI]|.tup e]
def whole:V->Int->Bool
 | .int i,l=>decide (l<=i)
 | _,_=>false
def tS:V->Bool
 | .bl _=>true
 | _=>false
theorem BG{K:C6}{H:Hp}{x:V}{T:String}(t:TyOf K H x (.type T))(h:T∈bI):(T == "int")=true->∃i,x=.int i:=by
 intro e;have e':T = "int" := by simpa using e
 subst e';generalize hv:Value.type "int" = tv at t;cases t with
 | int i=>exact%[i|O]
 | _=>exact absurd hv (by simp)
theorem rL{K:C6}{H:Hp}{x:V}{T:String}(t:TyOf K H x (.type T)):(T == "bool")=tS x:=by
 generalize hv:Value.type T=tv at t;cases t with
 | bl b=>cases hv;rfl
 | non=>cases hv;rfl
 | int i=>cases hv;rfl
 | str i=>cases hv;rfl
 | flt i=>cases hv;rfl
 | lst i=>cases hv;rfl
 | frz i=>cases hv;rfl
 | tup i=>cases hv;rfl
 | dK i=>cases hv;rfl
 | dT i=>cases hv;rfl
 | ext i _=>cases hv;rfl
 | ins=>cases hv
end L2
local macro_rules|`($a ^^^ $b)=>`(@L2.ab _ _ _ _ _ $a $b rfl)
local macro_rules|`($c:char)=>if c.getChar.toNat<66 then `(L2.pv $(Lean.quote (c.getChar.toNat-48))) else Lean.Macro.throwUnsupported
local macro_rules|`($a<<<$b)=>`(@L2.af _ _ _ _ _ $a $b)
local macro_rules|`($a>>>$b)=>`(@L2.af _ _ _ _ _ $a (@L2.ai _ _ _ $b))
local macro_rules|`($a⁻¹)=>`(@L2.ai _ _ _ (@L2.au _ _ _ _ $a))
local macro_rules|`($a∩$b)=>`(@L2.ap _ _ _ _ _ _ _ _ _ _ $a (($(Lean.mkIdent `hr)).mono ∅) rfl $b ∅ rfl rfl)
local macro_rules|`($a∪$b)=>`(@L2.ap _ _ _ _ _ _ _ _ _ _ $a $(Lean.mkIdent `hr) rfl $b ∅ rfl rfl)
local macro_rules|`($a∣$b)=>`(@L2.ax _ _ $a _ _ _ _ $(Lean.mkIdent `nd) rfl (Or.inl rfl) $b rfl (Or.inl rfl))
local macro_rules|`($a&&&$o&&&$b)=>`(@L2.aG _ _ _ _ _ _ _ $o $a $b (fun _ _=>rfl))
local macro_rules|`($a|||$o|||$b)=>`(@L2.az _ _ _ _ _ _ _ _ $o $a $b)
local macro_rules|`($a•$b)=>`(L2.ao (L2.aj (i:=$a) $(Lean.mkIdent `nd) rfl (Or.inl rfl)) $b)
local macro_rules|`($a<*>$o<*>$b)=>`(@L2.aF _ _ _ _ _ _ _ _ $o $a $b (L2.aA _))
local macro_rules|`($a<|>$b<|>$c)=>`(@L2.aO _ _ _ _ _ _ _ _ $a $b $c)
namespace Pc
open PySem L2
structure Pot(a b:Int):Prop where
 a0:0<=a
 b0:0<=b
 b1:b < 2147483629
def But(p:QP)(H H':Hp):Prop:=∀b o,b≠p->H b=some o->H' b=some o
theorem But.refl{p:QP}{H:Hp}:But p H H:=λ _ _ _ e=>e
theorem But.trans{p:QP}{H H1 H2:Hp}(a:But p H H1)(b:But p H1 H2):But p H H2:=λ c o n e=>b c o n (a c o n e)
theorem But.upd{p:QP}{H:Hp}{o:HO}:But p H (upd H p o):=λ b u n e=>by rw[am n];exact e
theorem But.new{p q:QP}{H:Hp}{o:HO}(h:H q=none):But p H (L2.upd H q o):=λ b u n e=>by rw[am (ak e h)];exact e
structure Kd where
 w:Int
 h:Int
 wo:Int
 wa:Int
 tu:Bool
def kdV(k:Kd):QT V:=[.int k.w,.int k.h,.int k.wo,.int k.wa,.bl k.tu]
structure Good(k:Kd):Prop where
 w:1<=k.w
 h:1<=k.h
 wo:0<=k.wo
 wa:0<=k.wa
 w':k.w < 10 ^ 60
 h':k.h < 10 ^ 60
 wo':k.wo < 10 ^ 60
 wa':k.wa < 10 ^ 60
def Bb(H:Hp)(v:V)(k:Kd):Prop:=∃a,v=.ref a/\H a= ~~~(kdV k)
def Ds(H:Hp)(v:V)(k:Kd):Prop:=∃a,v=.ref a/\H a=↥(kdV k)
def RowAt(H:Hp)(v:V)(k:Kd):Prop:=Bb H v k\/Ds H v k
abbrev Tups(H:Hp):QT V->QT Kd->Prop:=Paired (Bb H)
theorem Tups.keep{H H':Hp}(k:∀b xs,H b= ~~~xs->H' b= ~~~xs):∀{xs:QT V}{ks:QT Kd},Tups H xs ks->Tups H' xs ks:=λ r=>
 G8 r λ v kd %[a,e|h]=>%[a,e|k a _ h]
structure ToldAt(H:Hp)(t l:QP)(bl:Int)(xs:QT V)(ks:QT Kd):Prop where
 t:H t= ~~~[.int bl,.ref l]
 l:H l=↥xs
 r:Tups H xs ks
 b0:0<=bl
 b1:bl < 10 ^ 60
 g:∀k∈ks,Good k
 n0:1<=xs.length
 n1:xs.length<=8
def dR(K:C6):Sp:=λ vs H Q _=>∃(x:V)(T:String)(l:Int),vs=[x,.int l]/\Ty K H x T/\Q (.bl (whole x l)) H
def mV(K:C6):Sp:=λ vs H Q _=>∃(x:V)(T:String),vs=[x]/\Ty K H x T/\Q (.bl (tS x)) H
def rM(K:C6):Sp:=λ vs H Q _=>∃(x:V)(T:String),vs=[x]/\Ty K H x T/\∀H',Same H H'->Q (.bl (T == "list" || T == "tuple")) H'
def lP:QT V->Bool
 | [w,h,wo,wa,tu]=>whole w 1 && whole h 1 && whole wo 0 && whole wa 0 && tS tu
 | _=>false
def kf(K:C6):Sp:=λ vs H Q _=>∃(x:V)(T:String),vs=[x]/\Ty K H x T /\ 
 ((T ≠ "list" /\ T ≠ "tuple" /\ ∀H',Same H H'->Q (.bl false) H')\/∃(a:QP)(xs:QT V),x=.ref a/\(H a=↥xs\/H a= ~~~xs)/\(∀y∈xs,∃U,Ty K H y U)/\∀H',Same H H'->Q (.bl (lP xs)) H')
theorem kg{k:Kd}(g:Good k):lP (kdV k)=true:=by
 show(decide (1<=k.w) && decide (1<=k.h) && decide (0<=k.wo) && decide (0<=k.wa) && true)=true;rw[Qb g.w,Qb g.h,Qb g.wo,Qb g.wa]
 rfl
theorem Ty.same{K:C6}{H H':Hp}{x:V}{T:String}(s:Same H H')(t:Ty K H x T):Ty K H' x T:=by
 apply%[t.1|?_];have t2:=t.2;generalize hv:Value.type T=tv at t2 ⊢;cases t2 with
 | non=>exact .non
 | bl b=>exact .bl b
 | int b=>exact .int b
 | str b=>exact .str b
 | flt b=>exact .flt b
 | lst e=>exact .lst (s _ _ e)
 | frz e=>exact .frz (s _ _ e)
 | tup e=>exact .tup (s _ _ e)
 | dK e=>exact .dK (s _ _ e)
 | dT e=>exact .dT (s _ _ e)
 | ext e c=>exact .ext (s _ _ e) c
 | ins=>cases hv
end Pc
namespace L2
open PySem PySem.Spec PyProof.Rows
abbrev xg(K:C6):QT V->Hp->VK->Prop:=rz_call_tuple_of K
theorem xh{K:C6}{j:Nat}{a:QP}{xs:QT V}{g:TG}{tb:TS}{D:Ends}{σ:St}{H:Hp}(hσ:σ[j]?=some (↑a))(hs:H a=↥xs\/H a= ~~~xs)(Pv:Nat->St->Hp->Prop)(h0:Pv 0 σ H)
  (hk:∀i σ H',i<=xs.length->Pv i σ H'->∀o,H a=some o->H' a=some o)
  (ht:∀i x σ H,xs[i]?=some x->Pv i σ H->g x σ H λ σ2 H2=>tb { D with nx:=Pv (i+1),ct:=Pv (i+1),bk:=D.nx } σ2 H2) (hd:∀σ H,Pv xs.length σ H->D.nx σ H):Dj (BF K (tVar j)) g tb D σ H:=by
 rcases hs with z | z
 ·exact .inl %[_,hσ,a,O,%[xs|G7 z]|cU (xs:=xs) Pv h0 (λ i σ H' hi p=>G7 (hk i σ H' hi p _ z)) ht hd]
 ·exact .inr %[_,hσ,a,O,%[xs|G6 z]|rp (xs:=xs) Pv h0 (λ i σ H' hi p=>G6 (hk i σ H' hi p _ z)) ht hd]
def Nx(n:Nat)(Pv:Nat->QT V->Hp->Prop)(i:Nat)(ys:QT V)(H:Hp):Prop:=∃m',m' < n - i/\m'=n - (i+1)/\i+1<=n/\Pv (i+1) ys H
theorem Nx.of{n:Nat}{Pv:Nat->QT V->Hp->Prop}{i:Nat}{ys:QT V}{H:Hp}(h:i < n)(p:Pv (i+1) ys H):Nx n Pv i ys H:=%[n - (i+1),⋯,O,h|p]
theorem bS{K:C6}{a:QP}{xs:QT V}{σ:St}{cap:QT Nat}{k:Nat}{g:TG}{tt:TT}{te:TE}{Q:QT V->Hp->Prop}{H:Hp}(hs:H a=↥xs\/H a= ~~~xs)(Pv:Nat->QT V->Hp->Prop)
  (hk:∀i ys H',i<=xs.length->Pv i ys H'->∀o,H a=some o->H' a=some o) (h0:Pv 0 [] H)
  (ht:∀i x ys H',xs[i]?=some x->Pv i ys H'->ys.length < sizeLine/\g x (aV σ cap k) H' λ σ2 H2=>leS (aV σ cap k) σ2/\tt σ2 H2 λ ok H3=>if ok=true then te σ2 H3 (λ v H4=>Nx xs.length Pv i (ys ++ [v]) H4)else Nx xs.length Pv i ys H3)
  (hd:∀ys H',Pv xs.length ys H'->ys.length<=sizeLine/\Q ys H') :
  (H a=↥xs->∃W,(∃m,W 0 m [] H)/\eF σ cap k (Itl K a) g tt te Q W)/\(H a= ~~~xs->∃W,(∃m,W 0 m [] H)/\eF σ cap k (Itt K a) g tt te Q W):=by
 apply%[λ z=>%[λ i m ys H'=>m=xs.length - i/\i<=xs.length/\Pv i ys H',%[_,O,F2 _|h0]|?_]|λ z=>%[λ i m ys H'=>m=xs.length - i/\i<=xs.length/\Pv i ys H',%[_,O,F2 _|h0]|?_]]
 ·rintro i m ys H' ⟨rfl,hi,p⟩;have z':=hk i ys H' hi p _ z
  by_cases hin:i < xs.length
  ·obtain⟨e,hg⟩:=ht i xs[i] ys H' (by simp[hin]) p;apply .inr %[%[xs,xs[i],G7 z'|by simp[hin]],e|λ x H2 yl=>?_];obtain⟨e1,e2⟩:=yl;have e3:=e2 xs (G7 z');have e4:x=xs[i]:=by simpa[hin]using e3.symm
   subst e1 e4;exact hg
  ·have e:i=xs.length:=⋯
   subst e;obtain⟨a1,a2⟩:=hd ys H' p;exact .inl %[%[xs,G7 z'|B4 _],a1|a2]
 ·rintro i m ys H' ⟨rfl,hi,p⟩;have z':=hk i ys H' hi p _ z
  by_cases hin:i < xs.length
  ·obtain⟨e,hg⟩:=ht i xs[i] ys H' (by simp[hin]) p;apply .inr %[%[xs,xs[i],G6 z'|by simp[hin]],e|λ x H2 yl=>?_];obtain⟨e1,e2⟩:=yl;have e3:=e2 xs (G6 z');have e4:x=xs[i]:=by simpa[hin]using e3.symm
   subst e1 e4;exact hg
  ·have e:i=xs.length:=⋯
   subst e;obtain⟨a1,a2⟩:=hd ys H' p;exact .inl %[%[xs,G6 z'|B4 _],a1|a2]
theorem lQ{K:C6}{j:Nat}{a:QP}{xs:QT V}{σ:St}{cap:QT Nat}{k:Nat}{g:TG}{tt:TT}{te:TE}{Q:VK}{H:Hp}(hσ:σ[j]?=some (↑a))(hs:H a=↥xs\/H a= ~~~xs)(Pv:Nat->QT V->Hp->Prop)
  (hk:∀i ys H',i<=xs.length->Pv i ys H'->∀o,H a=some o->H' a=some o) (h0:Pv 0 [] H)
  (ht:∀i x ys H',xs[i]?=some x->Pv i ys H'->ys.length < sizeLine/\g x (aV σ cap k) H' λ σ2 H2=>leS (aV σ cap k) σ2/\tt σ2 H2 λ ok H3=>if ok=true then te σ2 H3 (λ v H4=>Nx xs.length Pv i (ys ++ [v]) H4)else Nx xs.length Pv i ys H3)
  (hd:∀ys H',Pv xs.length ys H'->ys.length<=sizeLine/\∀p,H' p=none->Q (.ref p) (upd H' p (.lst ys))):wY (BF K (tVar j)) cap k g tt te σ H Q:=by
 obtain⟨c1,c2⟩:=bS (K:=K) (σ:=σ) (cap:=cap) (k:=k) (g:=g) (tt:=tt) (te:=te) hs Pv hk h0 ht hd;rcases hs with z | z
 ·exact .inl %[_,hσ,a,O,%[xs|G7 z]|c1 z]
 ·exact .inr %[_,hσ,a,O,%[xs|G6 z]|c2 z]
end L2
namespace Pc
open PySem L2
def qD(b:Int)(r:QP):QT (Str×V):=dP "kind_rows" (.ref r) (dP "blade_width" (.int b) [])
theorem kbw:¬ (("blade_width" : Str) = "kind_rows"):=∅
theorem qE(b:Int)(r:QP):(qD b r).lookup ("blade_width" : Str)=⇑b:=by unfold qD;rw[bR,QZ kbw,bR,Qa rfl]
theorem dw(b:Int)(r:QP):(qD b r).lookup ("kind_rows" : Str)=↑r:=by unfold qD;rw[bR,Qa rfl]
theorem bP(b:Int)(r:QP){m:Str}(h1:¬ m = "kind_rows")(h2:¬ m = "blade_width"):(qD b r).lookup m=none:=by
 unfold qD;rw[bR,QZ h1,bR,QZ h2]
 all_goals rfl
def ShopAt(C:QP)(H:Hp)(x:QP)(b:Int)(ks:QT Kd):Prop:=∃dx r rs,H x=some (.ins C dx (qD b r))/\H r= ~~~rs/\Tups H rs ks
theorem ShopAt.keep{C:QP}{H H':Hp}{x:QP}{b:Int}{ks:QT Kd}(s:ShopAt C H x b ks)(k1:∀b xs,H b= ~~~xs->H' b= ~~~xs)(k2:∀b C dx fs,H b=some (.ins C dx fs)->H' b=some (.ins C dx fs)):ShopAt C H' x b ks:=by obtain⟨dx,r,rs,h1,h2,h3⟩:=s;exact%[dx,r,rs,k2 _ _ _ _ h1,k1 _ _ h2|Tups.keep k1 h3]
def qF(C:QP):Sp:=λ vs H Q _=>∃(x dx ks:QP)(b:Int)(rs:QT V)(kds:QT Kd),vs=[.ref x,.int b,.ref ks]/\H x=some (.ins C dx [])/\0<=b/\(H ks=↥rs\/H ks= ~~~rs)/\Paired (RowAt H) rs kds/\(∀k∈kds,Good k)/\1<=rs.length/\rs.length<=8 /\
 ∀H':Hp,ShopAt C H' x b kds->(∀c o,c≠x->H c=some o->H' c=some o)->Q .non H'
def jF(C:QP):Sp:=λ vs H Q _=>∃(x:QP)(b:Int)(ks:QT Kd),vs=[.ref x]/\ShopAt C H x b ks/\Q (.int b) H
def mW(C:QP):Sp:=λ vs H Q _=>∃(x:QP)(b:Int)(ks:QT Kd),vs=[.ref x]/\ShopAt C H x b ks/\∀(l:QP)(rs:QT V),H l=none->Tups H rs ks->Q (.ref l) (upd H l (.lst rs))
theorem rN{K:C6}{H:Hp}{k:Kd}:∀y∈kdV k,∃U,Ty K H y U:=by
 intro y hy;simp only[kdV,J4,K9,Qw]at hy;rcases hy with rfl | rfl | rfl | rfl | rfl
 ·exact%[_|.int]
 ·exact%[_|.int]
 ·exact%[_|.int]
 ·exact%[_|.int]
 ·exact%[_|.bl]
theorem Paired.getR{α β:Type}{F:α->β->Prop}:∀{l₁:QT α}{l₂:QT β}{i:Nat}{x:α},Paired F l₁ l₂->l₁[i]?=some x->∃y,l₂[i]?=some y/\F x y
 | _,_,_,_,.nil,e=>by simp at e
 | _,_,0,_,.cons h _,e=>by simp at e;subst e;exact%[_,O|h]
 | _,_,i+1,x,.cons _ t,e=>by obtain⟨y,h1,h2⟩:=Paired.getR (i:=i) (x:=x) t (by simpa using e);exact%[y,by simpa using h1|h2]
abbrev J0:=@Paired.getR
theorem RowAt.same{H H':Hp}{v:V}{k:Kd}(s:Same H H')(r:RowAt H v k):RowAt H' v k:=by
 rcases r with⟨a,e,h⟩ | ⟨a,e,h⟩
 ·exact .inl %[a,e|s _ _ h]
 ·exact .inr %[a,e|s _ _ h]
theorem tT{K:C6}{H:Hp}{v:V}{k:Kd}{Q:VK}{E:XK}(r:RowAt H v k)(g:Good k)(q:∀H',Same H H'->Q (.bl true) H'):kf K [v] H Q E:=by
 rcases r with⟨a,rfl,h⟩ | ⟨a,rfl,h⟩
 ·exact%[_,_,O,.tup h|.inr %[a,_,O,.inr h,rN|λ H' s=>by rw[kg g];exact q H' s]]
 ·exact%[_,_,O,.lst h|.inr %[a,_,O,.inl h,rN|λ H' s=>by rw[kg g];exact q H' s]]
structure ShopTxt(K:C6)(C:QP):Prop where
 cl:Cls K C
 nB:NoAttr K C "blade_width"
 nK:NoAttr K C "kind_rows"
end Pc
namespace L2
open PySem PySem.Spec PyProof.Rows
def Mn(P:G1)(w:G3)(K:C6)(mg:Str->QR G4)(base:Heap)(C:QP)(m:Str)(ps:QT Str)(k:Nat)(sp:Sp):Prop :=
 ∃(f:QP)(fd:G2),FnOk P w K mg base CX0 k f fd ps sp/\Binds K fd ps []/\Meth K C m f
theorem eA{X:Cx}{k:Nat}{C:QP}{ps:QT Str}{sp:Sp}{m:Str}{o:Expr}{ta:TE}{apos pos:Pos}{pl:Sem Bool}(he:PE X o ta)(c:Cls X.K C)(D:Mn X.prog X.w X.K X.mg X.base C m ps k sp)(hr:Room k X.A)
  (ht:eval (.Call (.Attribute o m apos) [] [] pos) X.env=(do
   let ov<-eval o X.env
   standAt apos.atName
   let (f,first)<-holding [ov] (getMethod ov m pl)
   callWith pos f first (backTo pos (starEach [] X.env)) (backToKw pos (keywordEach [] X.env))):=by rfl):PE X (.Call (.Attribute o m apos) [] [] pos) (rC C m sp [] E0 ta tL):=by
 obtain⟨f,fd,F,hb,hm⟩:=D;exact wP he c hm F hr hb .nil rJ ht
def Kn(P:G1)(w:G3)(K:C6)(mg:Str->QR G4)(base:Heap)(x:Str)(C:QP)(ps:QT Str)(k:Nat)(sp:Sp):Prop :=
 ∃(f:QP)(fd:G2),Mk K C f/\FnOk P w K mg base CX0 k f fd ps sp/\Binds K fd ps []/\mg x=↑C
theorem Dt{X:Cx}{k:Nat}{C:QP}{ps:QT Str}{sp:Sp}{x:Str}{p pos:Pos}{e:Expr}{es:QT Expr}{t:TA}(D:Kn X.prog X.w X.K X.mg X.base x C ps k sp)(hr:Room (k+1) X.A)(hg:Gl X x)(ha:PA X (e :: es) t)
  (hdb:(x == ("__debug__" : Str))=false:=by decide) (he:starEach (e :: es) X.env=(false,eval e X.env) :: starEach es X.env:=by rfl) (hpl:(backTo pos (starEach es X.env)).any (·.1)=false:=by rfl) :
  PE X (.Call (.Name x p) (e :: es) [] pos) (AZ C sp [] E0 t):=by
 obtain⟨f,fd,M,F,hb,hm⟩:=D;exact zH M F hr hg hm hb .nil rJ ha hdb he hpl
end L2
namespace Pc
open PySem L2
theorem Paired.app{α β:Type}{F:α->β->Prop}:∀{l₁ m₁:QT α}{l₂ m₂:QT β},Paired F l₁ l₂->Paired F m₁ m₂->Paired F (l₁ ++ m₁) (l₂ ++ m₂)
 | _,_,_,_,.nil,s=>s
 | _,_,_,_,.cons r t,s=>.cons r (Paired.app t s)
theorem Same.but{p:QP}{H H':Hp}(s:Same H H'):But p H H':=λ b o _ e=>s b o e
theorem Same.new{q:QP}{H:Hp}{o:HO}(h:H q=none):Same H (upd H q o):=λ b u e=>by rw[am (ak e h)];exact e
abbrev G5:=@Same.new
end Pc
namespace PySem
open Sem (wp)
open AutoSeq1 (wpAny_loadPart')
section
variable{prog:G1}{w:G3}{A:Around}{E:G4->G0->Prop}{s:G0}
theorem fE{it t:QP}{i:Nat}{items}{x:G4}{Q:G4->G0->Prop}(hit:s.heap.IsTupleIter it t i)
  (ht:s.heap.IsTuple t items) (hx:items[i]?=some x)
  (hQ:∀h',h'.IsTupleIter it t (i+1)->Heap.SameBut it s.heap h'->Q x { s with heap:=h' }) :
  wpAny (model prog w) A (Builtin.SmallTypes.nextOf (.ref it)) Q E s:=by
 obtain⟨o,ho,hc,hd⟩:=id hit;obtain⟨ol,hol,_,nl,hdl⟩:=ht;unfold Builtin.SmallTypes.nextOf;apply A0 (wpAny_callSpecial?_slot (name:=Str.ofString "__next__") hit.typeIs F.slot_tuple_iterator_next
  (F7 F.slot_tuple_iterator_next hit.typeIs F.entry_tuple_iterator_next ?_ (F.args_tuple_iterator_next_1 _)))
 show wpAny _ _ (field (.ref it) 0 >>= _) _ _ s;apply A0 (Qq ho hd (x:=.ref t) rfl ?_);show wpAny _ _ (if (Value.ref t == Value.none)=true then _ else _) _ _ s;rw[QZ (show¬ ((Value.ref t == Value.none)=true)from B3)];show wpAny _ _ (field (.ref it) 1 >>= _) _ _ s;apply A0 (Qq ho hd (x:=.int i 0) rfl ?_);show wpAny _ _ (seqItems? (.ref t) >>= _) _ _ s;apply A0 (wpAny_seqItems hol hdl ?_);simp only[M5,hx];apply A0 (wpAny_setField ho hd (by simp) (A3 %[x,rfl|A3 (hQ _ ?_ (Qo ..))]));exact⟨_,RE _ ho (Obj.isFreed_of_fields (Obj.data_mapFields hd _)),(Obj.cls_mapFields ..).trans hc,by
  rw[Obj.data_mapFields hd];simp[rawInt]⟩
theorem dC{it t:QP}{i:Nat}{items}{Q:G4->G0->Prop}(hh:A.handled=none)
  (hit:s.heap.IsTupleIter it t i) (ht:s.heap.IsTuple t items) (hx:items[i]?=none)
  (hE:∀h' e,Heap.ExtBut it s.heap h'->(∃o,h'.get? e=some o/\o.cls=.type "StopIteration")->E (.ref e) { s with heap:=h' }) :
  wpAny (model prog w) A (Builtin.SmallTypes.nextOf (.ref it)) Q E s:=by
 obtain⟨o,ho,hc,hd⟩:=id hit;obtain⟨ol,hol,_,nl,hdl⟩:=ht;unfold Builtin.SmallTypes.nextOf;apply A0 (wpAny_callSpecial?_slot (name:=Str.ofString "__next__") hit.typeIs F.slot_tuple_iterator_next
  (F7 F.slot_tuple_iterator_next hit.typeIs F.entry_tuple_iterator_next ?_ (F.args_tuple_iterator_next_1 _)))
 show wpAny _ _ (field (.ref it) 0 >>= _) _ _ s;apply A0 (Qq ho hd (x:=.ref t) rfl ?_);show wpAny _ _ (if (Value.ref t == Value.none)=true then _ else _) _ _ s;rw[QZ (show¬ ((Value.ref t == Value.none)=true)from B3)];show wpAny _ _ (field (.ref it) 1 >>= _) _ _ s;apply A0 (Qq ho hd (x:=.int i 0) rfl ?_);show wpAny _ _ (seqItems? (.ref t) >>= _) _ _ s;apply A0 (wpAny_seqItems hol hdl ?_);simp only[M5,hx];apply A0 (Qs (A0 (wpAny_setField ho hd (by simp) ?_)));show wpAny _ _ (newExc (.type "StopIteration") [] >>= _) _ _ _;apply A0 ?_;simp only[newExc,newTuple];apply A0 (F8 ?_ (by size_fits));apply A0 (m:=firstArgMember _ _) (wpAny_of_eq (a:=Value.none) (by first | rfl | (simp only[firstArgMember];rfl)) ?_);apply F8 ?_ (by size_fits);simp only[raiseNew];apply A0 (wpAny_handled ?_)
 first | rw[show A.in1.handled=none from hh] | rw[hh]
 apply A0 (A3 (wpAny_throw ?_));exact hE _ _ (((Qo ..).extBut.push _).push _) %[_,A9 _ rfl|rfl]
end
theorem xi{prog:G1}{w:G3}{A:Around}(hh:A.handled=none)(it l:QP)(hne:l≠it)(items:QS G4) :
  Draws prog w A it [it,l] items.size (λ i v=>items[i]?=some v) (λ i h=>h.IsTupleIter it l i/\h.IsTuple l items) where
 live:=λ _ _ st=>let ⟨o,ho,_⟩:=st.1;%[o|ho]
 frame:=λ _ _ _ st hk=>%[st.1.at λ o e=>hk it (by simp) o e|let ⟨o,ho,r⟩:=st.2;%[o,hk l (by simp) o ho|r]]
 item:=λ i s Q E hi st hQ=>by apply fE st.1 st.2 (x:=items[i]) (by simp[hi]) λ h' hit' hs'=>?_;exact hQ _ h' s.toks (by simp[hi]) %[hit'|st.2.extBut hs'.extBut hne] hs'
 done:=λ s Q E st hE=>dC hh st.1 st.2 (by simp) hE
theorem kh(l:QP)(items:QS G4)(n:Nat)(dct:QR QP)(sl:QS (QR G4)) :
  Meets (Builtin.«enumerate.__new__» %[[.type "enumerate",.ref l]|[]]) (λ _ R s=>s.heap.get? l=some { cls:=.type "tuple",dict:=dct,data:=.seq items n,slots:=sl } /\
   R (.ok (.ret (.ref (s.heap.push { cls:=.type "tuple_iterator",data:=.fields #[.ref l,.int 0 0] }).objs.size)))
    { s with heap:=(s.heap.push { cls:=.type "tuple_iterator",data:=.fields #[.ref l,.int 0 0] }).push { cls:=.type "enumerate",data:=.fields #[.none,.bool false,.ref s.heap.objs.size,rawInt 0,.none,.none] } }) :=
 .of_wp λ prog w A R s h=>by
  obtain⟨hp,g,d,tk,os⟩:=s;obtain⟨hl,h⟩:=h;have hsub:=sub_enumerate;have hL:Heap.IsTuple (Shared.heap %[hp,g,d,tk|os]) l items:=%[_,hl,O,n|O]
  wp_walk using wpAny_loadPart' hl
  apply wpAny_stack_any λ st=>A3 ?_
  split
  ·rename_i c _ _ _ _ _
   cases(c == Value.type "enumerate")
   ·wp_walk using wpAny_loadPart' hl,RD hL
    exact%[_,O|h]
   ·wp_walk using wpAny_loadPart' hl,RD hL
    exact%[_,O|h]
  ·wp_walk using wpAny_loadPart' hl,RD hL
   exact%[_,O|h]
section
variable{prog:G1}{w:G3}{A:Around}{E:G4->G0->Prop}{s:G0}
theorem gU{l:QP}{items:QS G4}{Q:G4->G0->Prop}(hL:s.heap.IsTuple l items)
  (h:∀h',IsEnum h' (s.heap.objs.size+1) s.heap.objs.size 0 .none->h'.IsTupleIter s.heap.objs.size l 0->h'.objs.size=s.heap.objs.size+2 ->
   (∀b o,s.heap.get? b=some o->h'.get? b=some o)->Q (.ref (s.heap.objs.size+1)) { s with heap:=h' }) :
  wpAny (model prog w) A (call (.type "enumerate") [.ref l]) Q E s:=by
 obtain⟨⟨c,dct,dt,sl⟩,hl,hc,n,hd⟩:=hL
 replace hc:c=.type "tuple" := hc
 replace hd:dt=.seq items n:=hd
 subst hc hd;apply callType_new F.called_enumerate ∅ (F.typeCall_enumerate_1 _) (F.newCall_enumerate_1 _) (λ obj=>F.args_object_init_2 obj _) F.entry_enumerate_new
  (kh l items n dct sl) %[hl|?_]
 have hz:(s.heap.push { cls:=.type "tuple_iterator",data:=.fields #[.ref l,.int 0 0] }).objs.size=s.heap.objs.size+1:=Qi ..;show _/\_;rw[hz];have he:IsEnum ((s.heap.push { cls:=.type "tuple_iterator",data:=.fields #[.ref l,.int 0 0] }).push
   { cls:=.type "enumerate",data:=.fields #[.none,.bool false,.ref s.heap.objs.size,rawInt 0,.none,.none] }) (s.heap.objs.size+1) s.heap.objs.size 0 .none:=by
  have:=A9 (s.heap.push { cls:=.type "tuple_iterator",data:=.fields #[.ref l,.int 0 0] })
   (o:={ cls:=.type "enumerate",data:=.fields #[.none,.bool false,.ref s.heap.objs.size,rawInt 0,.none,.none] }) rfl
  rw[hz]at this;exact this
 apply%[%[_,he|O]|h _ he %[_,A8 _ (A9 _ rfl),O|O] (by rw[Qi,hz]) λ b o x=>A8 _ (A8 _ x)]
end
end PySem
namespace L2
open PySem PySem.Spec PyProof.Rows
def Ite(f:QT V->HO)(l:QP):It :=
  ⟨λ i H=>∃xs x,H l=some (f xs)/\xs[i]?=some x,
   λ i H v H'=>∃p xs x,H p=none/\v=.ref p/\H'=upd H p (.tup [.int i,x])/\H l=some (f xs)/\xs[i]?=some x,
   λ i H=>∃xs,H l=some (f xs)/\xs.length<=i⟩
section
variable{X:Cx}{QV:SY}{σ:St}{H:Hp}{s:G0}
theorem lR{f:QT V->HO}{tn:Nat->Heap->Prop}{es:QT Expr}{kk:Nat}{tp:Pos}{e it l:QP}{i:Nat}{xs:QT V}{x:V}{u:G4}{tk:Nat}{h':Heap}{E:G4->G0->Prop}(hne:e≠it)(I:Inv X QV σ H s)(hf:∀b∈[e,it],FpOk X QV H b)(hl:H l=some (f xs))(hx:xs[i]?=some x)
  (ho:∀b∈[e,it],b < s.heap.objs.size) (r:RelV x u) (b1:IsEnumOut h' e it ((i:Int)+1) u s.heap.objs.size) (b3:h'.get? s.heap.objs.size=some { cls:=.type "tuple",data:=.seq #[.int i tk,u] })
  (bk:∀b o,b≠e->b≠it->s.heap.get? b=some o->h'.get? b=some o) (hn:∀h'',IsEnum h'' e it ((i+1:Nat):Int) u->Heap.SameBut e h' h''->tn (i+1) h'') :
  wpAny (model X.prog X.w) X.A (letOwnedTupleGo (.Tuple es kk tp) (.ref e) (.ref s.heap.objs.size)) (λ _ s2=>∃x H',Inv X QV σ H' s2/\RelV x (.ref s.heap.objs.size)/\(Ite f l).yld i H x H'/\tn (i+1) s2.heap/\∀b∈[e,it],H' b=none) E { s with heap:=h',toks:=tk+1 }:=by
 apply wpAny_letOwnedTupleGo_enum b1 λ h'' c1 cs=>?_;have es':e < s.heap.objs.size:=ho e (by simp);have k2:∀b o,b∉[e,it]->s.heap.get? b=some o->h''.get? b=some o:=λ b o hb q=>by simp only[J4,K9,Qw,not_or]at hb;exact cs.extBut b o hb.1 (bk b o hb.1 hb.2 q)
 have I1:Inv X QV σ H { s with heap:=h'',toks:=tk+1 }:=I.turnedN (t':=tk+1) hf k2;have hp:h''.get? s.heap.objs.size=some { cls:=.type "tuple",data:=.seq #[.int i tk,u] }:=cs.extBut _ _ (O1 es') b3;have hn0:H s.heap.objs.size=none:=I.hok.fresh (B4 _);have fpk:=I.fpOk (H':=H) (B4 _) hn0;have I2:Inv X QV σ (upd H s.heap.objs.size (.tup [.int i,x])) { s with heap:=h'',toks:=tk+1 }:=I1.track fpk I.sz %[by show 2<=sizeLine;decide,[.int i tk,u],.cons %[tk|O] (.cons r .nil),_,hp,O,_|O];apply%[.ref s.heap.objs.size,_,I2,O,%[_,xs,x,hn0,O,O,hl|hx],hn h'' c1 cs|λ b hb=>?_];rw[am (C1 (ho b hb))];exact(hf b hb).1
end
theorem qG{P:G1}{w:G3}{K:C6}{es:QT Expr}{kk:Nat}{tp:Pos}(l e it:QP)(hne:e≠it) :
  Turn P w K (.Tuple es kk tp) (Ite .lst l) [e,it] e (λ i h=>(∃old,IsEnum h e it i old)/\h.IsListIter it l i) where
 mem:=by simp
 obj:=λ i h st b hb=>by
  obtain⟨⟨old,a1⟩,⟨o2,a2,_,d2⟩⟩:=st;simp only[J4,K9,Qw]at hb;rcases hb with rfl | rfl
  ·exact%[_,a1|λ v q=>by cases q]
  ·exact%[_,a2|λ v q=>by rw[d2]at q;cases q]
 keep:=λ i h h' st k=>by obtain⟨⟨old,a1⟩,a2⟩:=st;exact%[%[old|k e (by simp) _ a1]|a2.at λ o q=>k it (by simp) o q]
 item:=by
  intro X hP hw hK hc i QV s σ H E I hf st hg;subst hP hw hK;obtain⟨⟨old,a1⟩,a2⟩:=st;obtain⟨xs,x,e1,ex⟩:=hg;obtain⟨its,rv,p1,_⟩:=I.list (G7 e1);obtain⟨u,hu,r⟩:=rv.get ex;have ho:∀b∈[e,it],b < s.heap.objs.size:=λ b hb=>by
   obtain⟨o2,a2',_⟩:=a2;simp only[J4,K9,Qw]at hb;rcases hb with rfl | rfl
   ·exact B0 a1
   ·exact B0 a2'
  apply wpAny_pyNext_enum_item a1 a2 p1.isList (x:=u) (by simpa using hu) hne λ h' b1 b2 b3 b4 bk=>%[_,O|?_]
  exact lR (tn:=λ i h=>(∃old,IsEnum h e it i old)/\h.IsListIter it l i) hne I hf e1 ex ho r b1 b3 bk λ h'' c1 cs=>%[%[u|c1]|b2.extBut cs.extBut (Ne.symm hne)]
 done:=by
  intro X hP hw hK hc i QV s σ H E I hf st hg;subst hP hw hK;obtain⟨⟨old,a1⟩,a2⟩:=st;obtain⟨xs,e1,ex⟩:=hg;obtain⟨its,rv,p1,_⟩:=I.list (G7 e1);have lv:=rv.length;apply wpAny_pyNext_enum_end (I.ok.hd hc) a1 a2 p1.isList (by simp;lia) λ h' bk=>%[O|?_]
  exact I.turnedN (t':=s.toks) hf λ b o hb q=>by simp only[J4,K9,Qw,not_or]at hb;exact bk b o hb.2 q
 self:=λ _ _ _ _ _ st h=>by obtain⟨⟨old,a1⟩,_⟩:=st;exact wpAny_pyIter_enum a1 h
theorem qH{P:G1}{w:G3}{K:C6}{es:QT Expr}{kk:Nat}{tp:Pos}(l e it:QP)(hne:e≠it) :
  Turn P w K (.Tuple es kk tp) (Ite .tup l) [e,it] e (λ i h=>(∃old,IsEnum h e it i old)/\h.IsTupleIter it l i) where
 mem:=by simp
 obj:=λ i h st b hb=>by
  obtain⟨⟨old,a1⟩,⟨o2,a2,_,d2⟩⟩:=st;simp only[J4,K9,Qw]at hb;rcases hb with rfl | rfl
  ·exact%[_,a1|λ v q=>by cases q]
  ·exact%[_,a2|λ v q=>by rw[d2]at q;cases q]
 keep:=λ i h h' st k=>by obtain⟨⟨old,a1⟩,a2⟩:=st;exact%[%[old|k e (by simp) _ a1]|a2.at λ o q=>k it (by simp) o q]
 item:=by
  intro X hP hw hK hc i QV s σ H E I hf st hg;subst hP hw hK;obtain⟨⟨old,a1⟩,a2⟩:=st;obtain⟨xs,x,e1,ex⟩:=hg;obtain⟨its,rv,p1,_⟩:=I.tuple (G6 e1);obtain⟨u,hu,r⟩:=rv.get ex;have lt:i < its.toArray.size:=by simp;exact(A7.mp hu).1
  have ho:∀b∈[e,it],b < s.heap.objs.size:=λ b hb=>by
   obtain⟨o2,a2',_⟩:=a2;simp only[J4,K9,Qw]at hb;rcases hb with rfl | rfl
   ·exact B0 a1
   ·exact B0 a2'
  have nl:∀b∈[e,it],l≠b:=λ b hb q=>by rw[q,(hf b hb).1]at e1;cases e1
  have p1':s.heap.IsTuple l its.toArray:=p1;have DD:Draws X.prog X.w X.A.in1 it [it,l] its.toArray.size (λ i v=>its.toArray[i]?=some v) (λ i h=>h.IsTupleIter it l i/\h.IsTuple l its.toArray):=xi (show X.A.in1.handled=none from I.ok.hd hc) it l (nl it (by simp)) its.toArray;apply wpAny_pyNext_enum_itemD DD a1 %[a2|p1'] lt hne (by simp only[J4,K9,Qw,not_or];exact%[hne|Ne.symm (nl e (by simp))]) λ x' h' tk px b1 b2 b3 b4 bk=>%[_,O|?_]
  have hu':its.toArray[i]?=some u:=by simpa using hu
  have eu:u=x':=C0 (hu'.symm.trans px);subst eu;exact lR (tn:=λ i h=>(∃old,IsEnum h e it i old)/\h.IsTupleIter it l i) hne I hf e1 ex ho r b1 b3 bk λ h'' c1 cs=>%[%[u|c1]|b2.1.extBut cs.extBut (Ne.symm hne)]
 done:=by
  intro X hP hw hK hc i QV s σ H E I hf st hg;subst hP hw hK;obtain⟨⟨old,a1⟩,a2⟩:=st;obtain⟨xs,e1,ex⟩:=hg;obtain⟨its,rv,p1,_⟩:=I.tuple (G6 e1);have lv:=rv.length;have p1':s.heap.IsTuple l its.toArray:=p1;have hT:s.TypeIs (.ref e) "enumerate" := %[_,a1|O]
  unfold pyNext;apply A0 (RJ (wpAny_callSpecial?_slot (name:=Str.ofString "__next__") hT F.slot_enumerate_next
   (F7 F.slot_enumerate_next hT F.entry_enumerate_next ?_ (F.args_enumerate_next_1 _))))
  show wpAny _ _ (field (.ref e) 2 >>= _) _ _ _;apply A0 (Qq a1 rfl (x:=.ref it) rfl ?_);apply A0 (dC (I.ok.hd hc) a2 p1' (by simp;lia) λ h' x he' hx'=>?_);obtain⟨o,ho,hc⟩:=hx';apply A0 (wpAny_isInstance (T := "StopIteration") (b:=true) %[o,ho|hc] isSubtype_stop ?_);apply A3 %[rfl|?_];exact I.turnedN (t':=s.toks) hf λ b o hb q=>by simp only[J4,K9,Qw,not_or]at hb;exact he' b o hb.2 q
 self:=λ _ _ _ _ _ st h=>by obtain⟨⟨old,a1⟩,_⟩:=st;exact wpAny_pyIter_enum a1 h
def Du(ta:TA):TI:=λ σ H R=>ta σ H λ vs H1=>∃l xs,vs=[.ref l]/\((H1 l=↥xs/\R (Ite .lst l) H1)\/(H1 l= ~~~xs/\R (Ite .tup l) H1))
theorem mX{X:Cx}{a:Expr}{ta:TA}{p pos tp:Pos}{es:QT Expr}{kk:Nat}(hg:Gl X "enumerate")(hm:X.mg "enumerate" = none)(ha:PA X [a] ta)
  (hs:starEach [a] X.env=[(false,eval a X.env)]:=by rfl) :
  PI X (.Tuple es kk tp) (.Call (.Name "enumerate" p) [a] [] pos) (Du ta):=by
 intro QV s σ H R I h;apply Call_ (fM I hg hm PyProof.Rows.boot_enumerate (Qp (thn (ha pos QV s σ H _ I h) ?_) (by rw[hs];rfl) (by rfl)));rintro us s1 ⟨vs,H1,I1,r1,q1⟩;obtain⟨l,xs,rfl,q⟩:=q1;cases r1 with
 | cons r rr=>
  cases rr;cases r;rcases q with⟨e1,q⟩ | ⟨e1,q⟩
  ·obtain⟨its1,rv1,p1,_⟩:=I1.list (G7 e1);apply call_enumerate_list p1.isList λ h' z1 z2 sz keep=>?_;have I2:Inv X QV σ H1 { s1 with heap:=h' }:=I1.kept (t':=s1.toks) keep;apply wpAny_pyIter_enum z1 %[s1.heap.objs.size+1,[s1.heap.objs.size+1,s1.heap.objs.size],_,_,H1,rfl,I2,qG l _ _ (Nat.succ_ne_self _),%[%[_|z1]|z2],λ b hb=>?_|q];have hb':s1.heap.objs.size<=b:=by simp only[J4,K9,Qw]at hb;rcases hb with rfl | rfl <;> lia
   exact I1.fpOk hb' (I1.hok.fresh hb')
  ·obtain⟨its1,rv1,p1,_⟩:=I1.tuple (G6 e1);have p1':s1.heap.IsTuple l its1.toArray:=p1;apply gU p1' λ h' z1 z2 sz keep=>?_;have I2:Inv X QV σ H1 { s1 with heap:=h' }:=I1.kept (t':=s1.toks) keep;apply wpAny_pyIter_enum z1 %[s1.heap.objs.size+1,[s1.heap.objs.size+1,s1.heap.objs.size],_,_,H1,rfl,I2,qH l _ _ (Nat.succ_ne_self _),%[%[_|z1]|z2],λ b hb=>?_|q];have hb':s1.heap.objs.size<=b:=by simp only[J4,K9,Qw]at hb;rcases hb with rfl | rfl <;> lia
   exact I1.fpOk hb' (I1.hok.fresh hb')
theorem xj{f:QT V->HO}(hf:∀xs ys,f xs=f ys->xs=ys){l:QP}{xs:QT V}{g:TG}{tb:TS}{D:Ends}{σ:St}{H:Hp}(Pv:Nat->St->Hp->Prop)(h0:Pv 0 σ H)(hk:∀i σ H',Pv i σ H'->H' l=some (f xs))
  (ht:∀i x p σ H,xs[i]?=some x->H p=none->Pv i σ H->g (.ref p) σ (upd H p (.tup [.int i,x])) λ σ2 H2=>tb { D with nx:=Pv (i+1),ct:=Pv (i+1),bk:=D.nx } σ2 H2) (hd:∀σ H,Pv xs.length σ H->D.nx σ H) :
  ∃W:Nat->Nat->St->Hp->Prop,(∃m,W 0 m σ H)/\∀i m σ H,W i m σ H ->
   ((Ite f l).stop i H/\D.nx σ H)\/((Ite f l).go i H/\∃N:St->Hp->Prop,(∀σ' H',N σ' H'->∃m',m' < m/\W (i+1) m' σ' H')/\∀x H',(Ite f l).yld i H x H'->g x σ H' λ σ2 H2=>tb { D with nx:=N,ct:=N,bk:=D.nx } σ2 H2):=by
 apply%[λ i m σ H=>m=xs.length - i/\i<=xs.length/\Pv i σ H,%[xs.length,by simp,F2 _|h0]|?_];rintro i m σ H ⟨rfl,hi,p⟩;have e1:=hk i σ H p
 by_cases hlt:i < xs.length
 ·apply .inr %[%[xs,xs[i],e1|by simp[hlt]],Pv (i+1),λ σ' H' p'=>%[xs.length - (i+1),⋯,O,hlt|p']|λ v H' y=>?_];obtain⟨q,xs',x,hq,rfl,rfl,e1',ex⟩:=y;rw[e1]at e1';cases hf _ _ (C0 e1');exact ht i x q σ H ex hq p
 ·have e:i=xs.length:=⋯
  subst e;exact .inl %[%[xs,e1|B4 _]|hd σ H p]
end L2
namespace Pc
open PySem L2
def bi(k:Kd):Bool:=k.tu && !decide (k.w=k.h)
def lyT(i:Nat)(k:Kd):QT (Nat×Bool):=(i,false) :: if bi k=true then[(i,true)]else[]
def lyK:QT Kd->Nat->QT (Nat×Bool)
 | [],_=>[]
 | k :: r,i=>lyT i k ++ lyK r (i+1)
theorem oo(k:Kd):∀(ks:QT Kd)(i:Nat),lyK (ks ++ [k]) i=lyK ks i ++ lyT (i+ks.length) k
 | [],i=>by simp[lyK]
 | c :: r,i=>by show lyT i c ++ lyK (r ++ [k]) (i+1)=(lyT i c ++ lyK r (i+1)) ++ _;rw[oo k r (i+1),K5];congr 2;simp only[K1];congr 1;lia
theorem zP(i:Nat)(k:Kd):(lyT i k).length<=2:=by unfold lyT;split <;> simp
theorem mY:∀(ks:QT Kd)(i:Nat),(lyK ks i).length<=2 * ks.length
 | [],i=>by simp[lyK]
 | c :: r,i=>by have:=mY r (i+1);have:=zP i c;simp only[lyK,J7,K1];lia
def MD(H:Hp)(v:V)(p:Nat×Bool):Prop:=∃a,v=.ref a/\H a= ~~~[.int p.1,.bl p.2]
abbrev Lys(H:Hp):QT V->QT (Nat×Bool)->Prop:=Paired (MD H)
theorem Lys.keep{H H':Hp}(k:∀b xs,H b= ~~~xs->H' b= ~~~xs){xs:QT V}{ps:QT (Nat×Bool)}(r:Lys H xs ps):Lys H' xs ps :=
 G8 r λ v kd %[a,e|h]=>%[a,e|k a _ h]
theorem xk{H H3:Hp}{l t:QP}{ys:QT V}{ps:QT (Nat×Bool)}{i:Nat}{b:Bool}(hl:H l=none)(s3:Same H H3)(l3:H3 l=↥ys)(y3:Lys H3 ys ps)(ht:H3 t=none) :
  Same H (upd (upd H3 t (.tup [.int (i:Int),.bl b])) l (.lst (ys ++ [.ref t])))/\(upd (upd H3 t (.tup [.int (i:Int),.bl b])) l (.lst (ys ++ [.ref t]))) l=↥(ys ++ [.ref t]) /\
   Lys (upd (upd H3 t (.tup [.int (i:Int),.bl b])) l (.lst (ys ++ [.ref t]))) (ys ++ [.ref t]) (ps ++ [(i,b)]):=by
 have lt:l≠t:=ak l3 ht;apply%[λ c o e=>?_,ah|Paired.snoc (Lys.keep (λ c xs e=>?_) y3) %[t,O|by rw[am (Ne.symm lt),ah]]]
 ·have e3:=s3 c o e;rw[am (ak e hl),am (ak e3 ht)];exact e3
 ·have cl:c≠l:=λ z=>by rw[z,l3]at e;cases e
  rw[am cl,am (ak e ht)];exact e
def ki(K:C6):Sp:=λ vs H Q _=>∃(a:QP)(k:Kd),vs=[.ref a]/\H a= ~~~(kdV k)/\Q (.bl (bi k)) H
def kn(C:QP):Sp:=λ vs H Q _=>∃(x:QP)(b:Int)(ks:QT Kd),vs=[.ref x]/\ShopAt C H x b ks/\ks.length<=8 /\
 ∀(l:QP)(ys:QT V)(H':Hp),H l=none->H' l=↥ys->Lys H' ys (lyK ks 0)->Same H H'->Q (.ref l) H'
def iZ(ks:QT Kd)(x t:V):Bool:=match x,t with
 | .int i,.bl b=>decide (0<=i) && match ks[i.toNat]? with
  | some k=>!b || bi k
  | none=>false
 | _,_=>false
def gx(K:C6)(C:QP):Sp:=λ vs H Q _=>∃(s:QP)(b:Int)(ks:QT Kd)(x t:V)(T U:String),vs=[.ref s,x,t]/\ShopAt C H s b ks/\Ty K H x T/\Ty K H t U/\Q (.bl (iZ ks x t)) H
end Pc
namespace L2
open PySem PySem.Spec PyProof.Rows
section
variable{X:Cx}
inductive rz_op_inD(K:C6)(x:V)(y:V)(H:Hp)(Q:VK):Prop
|mk(d xs:_)(_:DatV K H x d)(_:DatV K H y (.list xs))(_:SeqAt.shaped (.list xs)=true)(_:SeqAt.shaped d=true)(_:(∀y∈xs,SeqAt.noMix y d=true))(_:Q (.bl (decide (countIn d xs≠0))) H)
theorem rO{k:Nat}{C:QP}{ps:QT Str}{sp:Sp}{m:Str}{o:Expr}{e:Expr}{es:QT Expr}{ta:TE}{t:TA}{apos pos:Pos}{pl:Sem Bool}(he:PE X o ta)(c:Cls X.K C)(D:Mn X.prog X.w X.K X.mg X.base C m ps k sp)(hr:Room k X.A)(ha:PA X (e :: es) t)
  (hst:starEach (e :: es) X.env=(false,eval e X.env) :: starEach es X.env:=by rfl) (hpl:(backTo pos (starEach es X.env)).any (·.1)=false:=by rfl)
  (ht:eval (.Call (.Attribute o m apos) (e :: es) [] pos) X.env=(do
   let ov<-eval o X.env
   standAt apos.atName
   let (f,first)<-holding [ov] (getMethod ov m pl)
   callWith pos f first (backTo pos (starEach (e :: es) X.env)) (backToKw pos (keywordEach [] X.env))):=by rfl):PE X (.Call (.Attribute o m apos) (e :: es) [] pos) (rC C m sp [] E0 ta t):=by
 obtain⟨f,fd,F,hb,hm⟩:=D;exact zG he c hm F hr hb .nil rJ ha hst hpl ht
inductive rz_op_catT0(K:C6)(x:V)(y:V)(H:Hp)(Q:VK):Prop
|mk(a b ys:_)(_:x=.ref a)(_:y=.ref b)(_:SqT K H a [])(_:SqT K H b ys)(_:Q (.ref b) H)
theorem xl:OpR X (binaryOp .Add) (rz_op_catT0 X.K):=by
 intro QV s σ H x y v u Q I rx ry h;obtain⟨a,b,ys,rfl,rfl,ha,hb,q⟩:=h;cases rx;cases ry;obtain⟨its,r1,p1,_⟩:=I.tuple ha;obtain⟨its2,r2,p2,_⟩:=I.tuple hb;cases r1;obtain⟨⟨cls,dd,data,sl⟩,ho,hc,n,hd⟩:=p1;obtain⟨⟨cls2,dd2,data2,sl2⟩,ho2,hc2,n2,hd2⟩:=p2;simp only at hc hd hc2 hd2;subst hc hd hc2 hd2;exact concat_meets %[_,ho|rfl] %[_,ho2|rfl] noFill_tuple_add seq_tuple_add PySem.F.slot_tuple_add PySem.F.entry_tuple_add (PySem.F.args_tuple_add_2 _ _)
   (tuple_addW0 a b _ _ n n2 dd dd2 sl sl2 rfl) %[ho,ho2|%[.ref b,H,I,rfl|q]]
def Dv:R2:=λ x y H Q=>∃a b xs ys,x=.ref a/\y=.ref b/\H a= ~~~xs/\H b= ~~~ys/\xs.length+ys.length<=sizeLine /\
 ∀m H',(H'=H/\(m=a\/m=b))\/(H m=none/\H'=upd H m (.tup (xs ++ ys)))->H' m= ~~~(xs ++ ys)->Q (.ref m) H'
theorem rP:OpR X (binaryOp .Add) Dv:=by
 intro QV s σ H x y v u Q I rx ry h;obtain⟨a,b,xs,ys,rfl,rfl,ha,hb,hz,q⟩:=h
 by_cases hx:xs=[]
 ·subst hx;exact xl QV s σ H _ _ v u Q I rx ry %[a,b,ys,rfl,rfl,G6 ha,G6 hb|q b H (.inl %[rfl|.inr rfl]) hb]
 ·apply rG QV s σ H _ _ v u Q I rx ry %[a,b,xs,ys,rfl,rfl,G6 ha,G6 hb,hx,hz,λ e=>?_|λ e p hp=>q p _ (.inr %[hp|rfl]) ah];subst e;exact q a H (.inl %[O|.inl rfl]) (by rw[N0];exact ha)
end
theorem mZ:∀{ns:SW}{its:QT G4},Vals (ns.map V.int) its->IntsAre its ns
 | [],_,r=>by cases r;exact .nil
 | n :: ns,_,r=>by
  cases r with
  | cons r1 r2=>
   obtain⟨t,e⟩:=r1;subst e;exact .cons n t (mZ r2)
section
variable{X:Cx}
inductive rz_call_divmodB(xs:QT V)(H:Hp)(Q:VK):Prop
|mk(i j:_)(_:xs=[.int i,.int j])(_:CDivB i j)(_:∀p,H p=none->Q (.ref p) (upd H p (.tup [.int (i / j),.int (i % j)])))
theorem nh:cD X (.builtin "divmod") (rz_call_divmodB):=by intro QV s σ H xs us Q I r h;obtain⟨i,j,rfl,hc,q⟩:=h;have h1:=hc.1;obtain⟨u,w',rfl,⟨t,rfl⟩,⟨t',rfl⟩⟩:=wL r;apply divmod_int ⋯ ?_ (.inl hc.np);rw[Int.fdiv_eq_ediv_of_nonneg i ⋯,Int.fmod_eq_emod_of_nonneg i ⋯];have hn:H s.heap.objs.size=none:=I.hok.fresh (B4 _);apply%[.ref s.heap.objs.size,_,?_,O|q _ hn];apply I.laid (λ b o e=>A8 _ e) (B4 _) %[by simp only[K1,QL];rw[RN];decide,[.int (i / j) s.toks,.int (i % j) (s.toks+1)],.cons %[_|rfl] (.cons %[_|rfl] .nil)|?_];exact%[_,A9 s.heap rfl,O,0|O]
inductive rz_call_sortedI(K:C6)(xs:QT V)(H:Hp)(Q:VK):Prop
|mk(p:QP)(ns:SW)(_:xs=[.ref p])(_:SqL K H p (ns.map V.int))(_:ns.length < 64)(_:∀(l:QP)(ns':SW),H l=none->ns'.Perm ns->ns'.Pairwise (·<=·)->Q (.ref l) (upd H l (.lst (ns'.map V.int))))
theorem ni:cD X (.builtin "sorted") (rz_call_sortedI X.K):=by
 intro QV s σ H xs us Q I r h;obtain⟨p,ns,rfl,hs,h64,q⟩:=h;obtain⟨u,rfl,rfl⟩:=fC r;obtain⟨its,rv,pl,_⟩:=I.list hs;have hi:=mZ rv;have hl:=hi.length;apply sorted_ints pl.isList hi ⋯ λ out ns' a1 a2 a3=>?_;obtain⟨e,he⟩:=sortedAll_at s.heap its out;have hn:H (s.heap.objs.size+1)=none:=I.hok.fresh (Nat.le_succ _);apply%[.ref (s.heap.objs.size+1),upd H (s.heap.objs.size+1) (.lst (ns'.map V.int)),I.laid (o:=.lst (ns'.map V.int)) (t':=s.toks) (λ _ _=>sortedAll_old) (Nat.le_succ _) (show ObjOk _ _ _ _ _ (.lst _)from%[?_,out.toList,e,iW a1|?_]),O|q _ ns' hn a2 a3]
 ·rw[B5,a2.length_eq];have:(64:Nat)<=sizeLine:=∅
  lia
 ·rw[he]
inductive rz_call_sumI(K:C6)(xs:QT V)(H:Hp)(Q:VK):Prop
|mk(p:QP)(ns:SW)(_:xs=[.ref p])(_:SqL K H p (ns.map V.int))(_:Q (.int ns.sum) H)
theorem ko:∀{bs:QT Bool}{its:QT G4},Vals (bs.map V.bl) its->its=bs.map Value.bool
 | [],_,r=>by cases r;rfl
 | b :: bs,_,r=>by
  cases r with
  | cons r1 r2=>
   have e:_=Value.bool b:=r1;subst e;rw[J8,ko r2]
theorem tU(bs:QT Bool):(List.range bs.length).all (λ i=>bs.getD i false)=bs.all id:=by
 rw[PZ,Pz,Pz];constructor
 ·intro h b hb;obtain⟨i,hi,e⟩:=List.getElem_of_mem hb;have:=h i (N9.mpr hi);rw[K3,F5 hi]at this;simpa[e]using this
 ·intro h i hi;have hi':=N9.mp hi;rw[K3,F5 hi'];exact h _ (QI hi')
inductive rz_call_allB(K:C6)(xs:QT V)(H:Hp)(Q:VK):Prop
|mk(p:QP)(bs:QT Bool)(_:xs=[.ref p])(_:SqL K H p (bs.map V.bl))(_:Q (.bl (bs.all id)) H)
theorem eG(hc:X.calm=true):cD X (.builtin "all") (rz_call_allB X.K):=by
 intro QV s σ H xs us Q I r h;obtain⟨p,bs,rfl,hs,q⟩:=h;obtain⟨u,rfl,rfl⟩:=fC r;obtain⟨its,rv,pl,_⟩:=I.list hs;have e:=ko rv;subst e;have hlt:p < s.heap.objs.size:=by obtain⟨_,_,e,_⟩:=pl;exact B0 e
 apply call_all_walk (wpAny_pyIter_list pl.isList ?_);apply%[_,_,_,_,_,_,λ i=>bs.getD i false,O,Walks.list (A:=X.A.in1) (I.ok.hd hc) _ p (C1 hlt) _,%[%[_,A9 _ rfl,O|O]|pl.isList.push _],λ i v s' Q' E' hP hQ'=>?_|λ h' tk hk=>?_]
 ·have hP':(bs.map Value.bool)[i]?=some v:=by simpa using hP
  rw[J3]at hP';cases hb:bs[i]? with
  | none=>rw[hb]at hP';cases hP'
  | some b=>
   rw[hb]at hP';cases hP';have hQ2:Q' (bs.getD i false) s':=hQ';rw[K3,hb]at hQ2;exact F6 hQ2
 ·have e2:((bs.map Value.bool).toArray.size)=bs.length:=by simp
  rw[e2,tU];apply%[.bl (bs.all id),H,I.kept (h':=h') (t':=tk) (λ b o e=>hk b o ?_ (A8 _ e)),O|q];intro z;rw[E6.mp z]at e;exact absurd (B0 e) (E4 _)
inductive rz_call_repr(K:C6)(xs:QT V)(H:Hp)(Q:VK):Prop
|mk(a d:_)(_:xs=[.ref a])(_:DatV K H (.ref a) d)(_:d.showable=true)(_:d.hasDict=false)(_:d.depth<=64)(_:d.shown.length<=sizeLine)(_:Q (.str d.shown) H)
end
end L2
namespace Pc
open PySem L2
def m0(x:Int):Int:=if x > 0 then x else 0
theorem Dw(x:Int):0<=m0 x:=by unfold m0;split <;> lia
def gI(l:SW)(i:Int):Int:=l.getD i.toNat 0
def bst(b:Int)(ws ls:SW)(s:Int):Nat->Int×Int
 | 0=>(0,0)
 | k+1=>if (bst b ws ls s k).1 < gI ws k+gI ls (m0 (s - (k+1) - b))then(gI ws k+gI ls (m0 (s - (k+1) - b)),(k:Int)+1)else bst b ws ls s k
def tab(b:Int)(ws:SW):Nat->SW×SW
 | 0=>([0],[0])
 | n+1=>((tab b ws n).1 ++ [(bst b ws (tab b ws n).1 (n+1) (n+1)).1],(tab b ws n).2 ++ [(bst b ws (tab b ws n).1 (n+1) (n+1)).2])
def Ld(b:Int)(ws:SW)(n:Nat):Int:=(tab b ws n).1.getD n 0
def Sst(b:Int)(ws:SW)(n:Nat):Int:=(tab b ws n).2.getD n 0
theorem gy(b:Int)(ws:SW):∀n,(tab b ws n).1.length=n+1/\(tab b ws n).2.length=n+1
 | 0=>%[O|O]
 | n+1=>by obtain⟨h1,h2⟩:=gy b ws n;simp only[tab,J7,K1,QL,h1,h2];exact%[trivial|trivial]
theorem qI(b:Int)(ws:SW):∀(n i:Nat),i<=n->(tab b ws n).1.getD i 0=Ld b ws i/\(tab b ws n).2.getD i 0=Sst b ws i
 | 0,i,h=>by
  have e:i=0:=⋯
  subst e;exact%[O|O]
 | n+1,i,h=>by
  by_cases e:i=n+1
  ·subst e;exact%[O|O]
  ·have hi:i<=n:=⋯
   obtain⟨q1,q2⟩:=qI b ws n i hi;obtain⟨l1,l2⟩:=gy b ws n;rw[<- q1,<- q2];simp only[tab,K3];rw[PX ⋯,PX ⋯];exact%[O|O]
theorem nj(b:Int)(ws:SW):Ld b ws 0=0:=rfl
theorem nk(b:Int)(ws:SW)(n:Nat):Ld b ws (n+1)=(bst b ws (tab b ws n).1 (n+1) (n+1)).1:=by
 have l1:=(gy b ws n).1;unfold Ld;simp only[tab,K3];rw[O3 ⋯,l1,QJ]
 rfl
theorem xm(b:Int)(ws:SW)(n:Nat):Sst b ws (n+1)=(bst b ws (tab b ws n).1 (n+1) (n+1)).2:=by
 have l1:=(gy b ws n).2;unfold Sst;simp only[tab,K3];rw[O3 ⋯,l1,QJ]
 rfl
theorem xn(b:Int)(ws ls:SW)(s:Int):∀(k j:Nat),j < k->gI ws j+gI ls (m0 (s - (j+1) - b))<=(bst b ws ls s k).1
 | 0,_,h=>absurd h (F3 _)
 | k+1,j,h=>by
  simp only[bst]
  by_cases e:j=k
  ·subst e
   split
   ·exact E9 _
   ·lia
  ·have:=xn b ws ls s k j ⋯
   split
   ·lia
   ·exact this
theorem qJ(b:Int)(ws ls:SW)(s:Int):∀k:Nat,bst b ws ls s k=(0,0)\/∃j:Nat,j < k/\(bst b ws ls s k).2=(j:Int)+1/\(bst b ws ls s k).1=gI ws j+gI ls (m0 (s - (j+1) - b))/\0 < (bst b ws ls s k).1
 | 0=>.inl rfl
 | k+1=>by
  have ih:=qJ b ws ls s k;have nn:0<=(bst b ws ls s k).1:=by
   rcases ih with e | ⟨_,_,_,_,e⟩
   ·rw[e];exact E9 _
   ·lia
  simp only[bst]
  split
  ·rename_i c
   exact .inr %[k,F4 _,O,O|!⋯]
  ·rcases ih with e | ⟨j,h1,h2⟩
   ·exact .inl e
   ·exact .inr %[j,⋯|h2]
theorem xo{n j:Nat}{b:Int}(hb:0<=b):(m0 (((n:Int)+1) - (j+1) - b)).toNat<=n:=by unfold m0;split <;> lia
theorem rQ{b:Int}{ws:SW}(hb:0<=b)(n j:Nat)(h:j<=n):gI ws j+Ld b ws (m0 (((n:Int)+1) - (j+1) - b)).toNat<=Ld b ws (n+1):=by have h1:=xn b ws (tab b ws n).1 ((n:Int)+1) (n+1) j ⋯;rw[nk,<- (qI b ws n _ (xo (n:=n) (j:=j) hb)).1];exact h1
theorem xq{b:Int}{ws:SW}(hb:0<=b)(n:Nat):(Ld b ws (n+1)=0/\Sst b ws (n+1)=0)\/∃j:Nat,j<=n/\Sst b ws (n+1)=(j:Int)+1/\Ld b ws (n+1)=gI ws j+Ld b ws (m0 (((n:Int)+1) - (j+1) - b)).toNat:=by
 rw[nk,xm];rcases qJ b ws (tab b ws n).1 ((n:Int)+1) (n+1)with e | ⟨j,h1,h2,h3,_⟩
 ·rw[e];exact .inl %[O|O]
 ·apply .inr %[j,⋯,h2|?_];rw[h3,<- (qI b ws n _ (xo (n:=n) (j:=j) hb)).1]
  rfl
def lx(b:Int)(st:SW):Nat->Int->SW
 | 0,_=>[]
 | f+1,s=>if 0 < s/\0 < gI st s then gI st s :: lx b st f (s - (gI st s+b))else[]
theorem dz{b:Int}{st:SW}{f:Nat}{s:Int}(h:¬ (0 < s/\0 < gI st s)):lx b st f s=[]:=by
 cases f with
 | zero=>rfl
 | succ f=>simp only[lx];rw[QZ h]
theorem jG{b:Int}{st:SW}{f:Nat}{s:Int}(h:0 < s/\0 < gI st s):lx b st (f+1) s=gI st s :: lx b st f (s - (gI st s+b)):=by simp only[lx];rw[Qa h]
theorem lS{b:Int}{st:SW}(hb:0<=b):∀(f:Nat)(s:Int),s<=f->∀g:Nat,s<=g->lx b st f s=lx b st g s
 | 0,s,h,g,hg=>by
  have c:¬ (0 < s/\0 < gI st s):=⋯
  rw[dz c,dz c]
 | f+1,s,h,g,hg=>by
  by_cases c:0 < s/\0 < gI st s
  ·obtain⟨g',rfl⟩:∃g',g=g'+1:=%[g - 1|⋯]
   rw[jG c,jG c,lS hb f _ ⋯ g' ⋯]
  ·rw[dz c,dz c]
theorem fF{b:Int}{ws:SW}(n:Nat):0<=Ld b ws n:=by
 cases n with
 | zero=>exact E9 _
 | succ n=>
  rw[nk];rcases qJ b ws (tab b ws n).1 ((n:Int)+1) (n+1)with e | ⟨j,h1,h2,h3,h4⟩
  ·rw[e];exact E9 _
  ·lia
theorem Dx{b:Int}{ws:SW}(hb:0<=b){M:Int}(hM:∀i,gI ws i<=M)(hM0:0<=M):∀n:Nat,Ld b ws n<=n * M:=by
 intro n
 induction n using Nat.strongRecOn with
 | ind n ih=>
  cases n with
  | zero=>rw[nj];simp
  | succ n=>
   rcases xq (ws:=ws) hb n with⟨e1,_⟩ | ⟨j,hj,_,e2⟩
   ·rw[e1];exact Int.mul_nonneg ⋯ hM0
   ·rw[e2];have h1:=hM j;have h2:=xo (n:=n) (j:=j) hb;have h3:=ih _ (Nat.lt_succ_of_le h2);have h4:((m0 (((n:Int)+1) - (j+1) - b)).toNat:Int) * M<=(n:Int) * M:=O4 ⋯ hM0;have h5:((n+1:Nat):Int) * M=n * M+M:=by rw[Int.natCast_add,Int.add_mul];simp
    lia
end Pc
namespace L2
open PySem PySem.Spec PyProof.Rows
section
variable{X:Cx}
def CMulB(i j:Int):Prop:=i.natAbs < 2 ^ 4096/\j.natAbs < 2 ^ 4096
theorem rR{k:Int}(h:k.natAbs < 2 ^ 4096):Builtin.Int.intBits k<=2 ^ 20:=by
 have e:(2:Nat) ^ 20=1048576:=∅
 unfold Builtin.Int.intBits
 split
 ·exact F2 _
 ·have:k.natAbs.log2 < 4096:=by
   rcases Nat.eq_zero_or_pos k.natAbs with h0 | hp
   ·rw[h0];decide
   ·exact(Nat.log2_lt (O1 hp)).mpr h
  lia
theorem CMulB.ok{i j:Int}(h:CMulB i j):IntMulOk i j:=.of_bits (rR h.1) (rR h.2)
theorem ip:OpR X (binaryOp .Mult) (rI CMulB λ i j=>.int (i * j)):=opI λ _ _ _ _ _ _ _ hc q=>mul_int q hc.ok
end
theorem di{α:Type}{xs:QT α}{i:Int}{v:α}(h0:0<=i)(h:xs[i.toNat]?=some v):atI xs i=some v:=by
 have e:i=((i.toNat:Nat):Int):=⋯
 have z:atI xs ((i.toNat:Nat):Int)=some v:=mM h;rw[<- e]at z;exact z
end L2
namespace Pc
open PySem L2
def PotB(H:Hp)(p:QP):Prop:=∃a b:Int,0<=a/\0<=b/\b < 2147483648/\H p=↥[.int a,.int b]
theorem PotB.same{H H':Hp}{p:QP}(x:PotB H p)(s:Same H H'):PotB H' p:=by obtain⟨a,b,h1,h2,h3,e⟩:=x;exact%[a,b,h1,h2,h3|s _ _ e]
def xt(K:C6):Sp:=λ vs H Q _=>∃(a:QP)(ns:SW)(n:Int),vs=[.ref a,.int n]/\SqL K H a (ns.map V.int)/\0<=n/\∀c:Int,Q (.int c) H
def xu:Sp:=λ vs H Q _=>∃(c:Int),vs=[.int c]/\∀(p:QP)(H':Hp),H p=none->PotB H' p->Same H H'->Q (.ref p) H'
def dj:Sp:=λ vs H Q _=>∃(p:QP)(m:Int),vs=[.ref p,.int m]/\PotB H p/\0 < m/\m<=10 ^ 60/\∀(r:Int)(H':Hp),0<=r->r < m->PotB H' p->But p H H'->Q (.int r) H'
def dI(ns:SW):PyData:=.list (ns.map PyData.int)
theorem zQ{K:C6}{H:Hp}:∀ns:SW,DatVs K H (ns.map V.int) (ns.map PyData.int)
 | []=>.nil
 | n :: r=>.cons (.int n) (zQ r)
theorem Dy:∀ns:SW,PyData.canLayAll0 (ns.map PyData.int)=true
 | []=>rfl
 | n :: r=>by simp[PyData.canLayAll0,PyData.canLay0,Dy r]
theorem Dz:∀ns:SW,PyData.depthAll (ns.map PyData.int)=0
 | []=>rfl
 | n :: r=>by simp[PyData.depthAll,PyData.depth,Dz r]
theorem rS(ns:SW):SeqAt.shaped (dI ns)=true:=by unfold dI;simp[SeqAt.shaped,PyData.canLay0,PyData.depth,Dy ns,Dz ns]
def rT(i:Int):Prop:=i.natAbs < 10 ^ 62
end Pc
namespace L2
open PySem PySem.Spec PyProof.Rows
section
variable{κ:Type}[DecidableEq κ]
def de(kvs:QT (κ×V))(k:κ):QR V:=(kvs.find? λ kv=>decide (kv.1=k)).map (·.2)
def eI(kvs:QT (κ×V))(k:κ)(v:V):QT (κ×V) :=
 if (kvs.any λ kv=>decide (kv.1=k))=true then kvs.map (λ kv=>if kv.1=k then(kv.1,v)else kv)else kvs ++ [(k,v)]
theorem eJ{p:κ×V}{r:QT (κ×V)}{k:κ}(e:p.1=k):de (p :: r) k=some p.2:=by simp[de,QA,e]
theorem cW{p:κ×V}{r:QT (κ×V)}{k:κ}(e:¬ p.1=k):de (p :: r) k=de r k:=by simp[de,QA,e]
theorem kq(k:κ):∀kvs:QT (κ×V),(kvs.any λ kv=>decide (kv.1=k))=(de kvs k).isSome
 | []=>rfl
 | p :: r=>by
  rw[List.any_cons]
  by_cases e:p.1=k
  ·simp only[eJ e,Qb e,Bool.true_or,Option.isSome_some]
  ·rw[cW e,Qc e,Bool.false_or];exact kq k r
theorem fU(kvs:QT (κ×V))(k:κ)(v:V):(eI kvs k v).length<=kvs.length+1:=by
 unfold eI
 split
 ·rw[B5];lia
 ·rw[J7,K1,QL];lia
theorem oq{kvs:QT (κ×V)}{k:κ}(v:V)(h:de kvs k=none):eI kvs k v=kvs ++ [(k,v)]:=by unfold eI;rw[kq,h];exact QZ ∅
theorem RelO.isSome_eq{o:QR V}{u:QR G4}(r:RelO o u):o.isSome=u.isSome:=by
 cases o with
 | none=>cases u with
  | none=>rfl
  | some _=>exact(show False from r).elim
 | some _=>cases u with
  | none=>exact(show False from r).elim
  | some _=>rfl
theorem KV.val{kvs:QT (κ×V)}{vs:QT (κ×G4)}(r:KV kvs vs)(k:κ):RelO (de kvs k) (valueAt vs k):=by
 unfold KV at r
 induction r with
 | nil=>exact True.intro
 | @cons p q ps qs h t ih=>
  obtain⟨h1,h2⟩:=h
  by_cases e:p.1=k
  ·have e':q.1=k:=h1.symm.trans e;have b:valueAt (q :: qs) k=some q.2:=by simp[valueAt,QA,e']
   rw[eJ e,b];exact h2
  ·have e':¬ q.1=k:=λ z=>e (h1.trans z);have b:valueAt (q :: qs) k=valueAt qs k:=by simp[valueAt,QA,e']
   rw[cW e,b];exact ih
theorem KV.any{kvs:QT (κ×V)}{vs:QT (κ×G4)}(r:KV kvs vs)(k:κ):(kvs.any λ kv=>decide (kv.1=k))=vs.any λ kv=>decide (kv.1=k):=by
 unfold KV at r
 induction r with
 | nil=>rfl
 | cons h t ih=>rw[List.any_cons,List.any_cons,ih,h.1]
theorem KV.repl{kvs:QT (κ×V)}{vs:QT (κ×G4)}(r:KV kvs vs)(k:κ){y:V}{u:G4}(ry:RelV y u) :
  KV (kvs.map λ kv=>if kv.1=k then(kv.1,y)else kv) (vs.map λ kv=>if kv.1=k then(kv.1,u)else kv):=by
 unfold KV at r ⊢
 induction r with
 | nil=>exact .nil
 | @cons p q ps qs h t ih=>
  rw[J8,J8];apply .cons ?_ ih;obtain⟨h1,h2⟩:=h
  by_cases e:p.1=k
  ·rw[Qa e,Qa (h1.symm.trans e)];exact%[h1|ry]
  ·rw[QZ e,QZ (λ z=>e (h1.trans z))];exact%[h1|h2]
theorem KV.put{kvs:QT (κ×V)}{vs:QT (κ×G4)}(r:KV kvs vs)(k:κ){y:V}{u:G4}(ry:RelV y u):KV (eI kvs k y) (stored vs k u):=by
 unfold eI stored;rw[r.any k]
 by_cases e:(vs.any λ kv=>decide (kv.1=k))=true
 ·rw[Qa e,Qa e];exact r.repl k ry
 ·rw[QZ e,QZ e];exact Paired.snoc r %[rfl|ry]
theorem KV.length{kvs:QT (κ×V)}{vs:QT (κ×G4)}(r:KV kvs vs):kvs.length=vs.length:=E7 r
end
theorem rU{P:G1}{w:G3}{k:Key}{u:G4}(r:RelV (kV k) u):(bq P w).is k u=true:=by
 cases k with
 | inl i=>obtain⟨t,e⟩:=(show∃t,u=Value.int i t from r);subst e;exact nP P w i t
 | inr x=>obtain⟨t,e⟩:=(show∃t,u=Value.str x t from r);subst e;exact nQ P w x t
theorem lT{P:G1}{w:G3}:∀{ks:QT Key}{us:QT G4},Vals (ks.map kV) us->ItemsAre (bq P w) ks us
 | [],_,r=>by rw[N3]at r;cases r;exact .nil
 | k :: ks,_,r=>by
  rw[J8]at r;cases r with
  | cons h t=>exact .cons (rU h) (lT t)
abbrev KT(H:Hp):QT (QT Key×V)->QT (QT Key×QP×G4)->Prop:=Paired λ p q=>p.1=q.1/\H q.2.1= ~~~(p.1.map kV)/\RelV p.2 q.2.2
theorem KT.val{H:Hp}{kvs:QT (QT Key×V)}{xs:QT (QT Key×QP×G4)}(r:KT H kvs xs)(k:QT Key):RelO (de kvs k) ((atKey xs k).map (·.2)):=by
 induction r with
 | nil=>exact True.intro
 | @cons p q ps qs h t ih=>
  obtain⟨h1,_,h2⟩:=h
  by_cases e:p.1=k
  ·have e':q.1=k:=h1.symm.trans e;have b:atKey (q :: qs) k=some q.2:=by simp[atKey,QA,e']
   rw[eJ e,b];exact h2
  ·have e':¬ q.1=k:=λ z=>e (h1.trans z);have b:atKey (q :: qs) k=atKey qs k:=by simp[atKey,QA,e']
   rw[cW e,b];exact ih
theorem KT.repl{H:Hp}{kvs:QT (QT Key×V)}{xs:QT (QT Key×QP×G4)}(r:KT H kvs xs)(k:QT Key){y:V}{u:G4}(ry:RelV y u) :
  KT H (kvs.map λ kv=>if kv.1=k then(kv.1,y)else kv) (xs.map (putAt k u)):=by
 induction r with
 | nil=>exact .nil
 | @cons p q ps qs h t ih=>
  rw[J8,J8];apply .cons ?_ ih;obtain⟨h1,h2,h3⟩:=h;unfold putAt
  by_cases e:p.1=k
  ·rw[Qa e,Qa (h1.symm.trans e)];exact%[h1,h2|ry]
  ·rw[QZ e,QZ (λ z=>e (h1.trans z))];exact%[h1,h2|h3]
theorem KT.put{H:Hp}{kvs:QT (QT Key×V)}{xs:QT (QT Key×QP×G4)}(r:KT H kvs xs)(k:QT Key){b:QP}{y:V}{u:G4}(hb:H b= ~~~(k.map kV))(ry:RelV y u) :
  KT H (eI kvs k y) (storedH xs k b u):=by
 have e:(kvs.any λ kv=>decide (kv.1=k))=(atKey xs k).isSome:=by rw[kq,(r.val k).isSome_eq,Option.isSome_map]
 unfold eI storedH;rw[e]
 by_cases q:(atKey xs k).isSome=true
 ·rw[Qa q,Qa q];exact r.repl k ry
 ·rw[QZ q,QZ q];exact Paired.snoc r %[rfl,hb|ry]
theorem KT.keeps{H H':Hp}{kvs:QT (QT Key×V)}{xs:QT (QT Key×QP×G4)}(r:KT H kvs xs)(ht:∀b ys,H b= ~~~ys->H' b= ~~~ys):KT H' kvs xs :=
 G8 r λ _ _ z=>%[z.1,ht _ _ z.2.1|z.2.2]
section
variable{P:G1}{w:G3}{H:Hp}{h:Heap}{a:QP}
theorem Bc{u:HO}(ok:HOk P w H h)(e:Rd H a u):ObjOk P w H h a u:=e.ok ok
theorem rV{kvs:QT (Key×V)}(ok:HOk P w H h)(e:Rd H a (.dK kvs)):kvs.length<=sizeLine/\(a == sysModules)=false/\∃vs,KV kvs vs/\h.DictOf (bq P w) a vs :=
 show ObjOk P w H h a (.dK kvs)from Bc ok e
theorem DA{kvs:QT (Key×V)}(ok:HOk P w H h)(e:H a=some (.dK kvs)):kvs.length<=sizeLine/\(a == sysModules)=false/\∃vs,KV kvs vs/\h.DictOf (bq P w) a vs:=rV ok (.inl e)
theorem fV{ks:QT Key}(ok:HOk P w H h)(e:H a= ~~~(ks.map kV)):(tupleKind (bq P w)).is h ks a:=by
 obtain⟨_,its,r,o,h1,h2,n,h3⟩:=(show ObjOk P w H h a (.tup (ks.map kV))from ok a _ e)
 exact%[o,its.toArray,n,h1,h2,h3|by simpa using lT r]
theorem rW{kvs:QT (QT Key×V)}(ok:HOk P w H h)(e:Rd H a (.dT kvs)):kvs.length<=sizeLine/\(a == sysModules)=false /\
  ∃xs,KT H kvs xs/\h.DictOfH (tupleKind (bq P w)) a xs:=by
 obtain⟨z,y,xs,r,o,es,ep,h1,h2,h3,h4,h5⟩:=(show ObjOk P w H h a (.dT kvs)from Bc ok e)
 apply%[z,y,xs,r,o,es,ep,h1,h2,h3,h4,λ x hx=>?_|h5];have all:∀{l:QT (QT Key×V)}{m:QT (QT Key×QP×G4)},KT H l m->∀x∈m,(tupleKind (bq P w)).is h x.1 x.2.1:=by
  intro l m q
  induction q with
  | nil=>intro x hx;exact nomatch hx
  | @cons p q ps qs hq t ih=>
   intro x hx;rcases J4.mp hx with e | hx
   ·subst e;exact fV ok (by rw[<- hq.1];exact hq.2.1)
   ·exact ih x hx
 exact all r x hx
theorem xw{kvs:QT (QT Key×V)}(ok:HOk P w H h)(e:H a=some (.dT kvs)):kvs.length<=sizeLine/\(a == sysModules)=false /\
  ∃xs,KT H kvs xs/\h.DictOfH (tupleKind (bq P w)) a xs:=rW ok (.inl e)
end
def DGet(H:Hp)(a:QP)(y:V)(r:QR V):Prop :=
 (∃kvs k,Rd H a (.dK kvs)/\y=kV k/\r=de kvs k)\/∃kvs k b,Rd H a (.dT kvs)/\y=.ref b/\H b= ~~~(k.map kV)/\r=de kvs k
def DPut(H:Hp)(a:QP)(y v:V)(H':Hp):Prop :=
 (∃kvs k,H a=some (.dK kvs)/\y=kV k/\kvs.length < sizeLine/\H'=upd H a (.dK (eI kvs k v))) \/
 ∃kvs k b,H a=some (.dT kvs)/\y=.ref b/\H b= ~~~(k.map kV)/\kvs.length < sizeLine/\H'=upd H a (.dT (eI kvs k v))
theorem DGet.t{H:Hp}{a b:QP}{kvs:QT (QT Key×V)}{k:QT Key}(e:H a=some (.dT kvs))(eb:H b= ~~~(k.map kV)):DGet H a (.ref b) (de kvs k):=.inr %[kvs,k,b,.inl e,O,eb|O]
theorem DPut.t{H:Hp}{a b:QP}{kvs:QT (QT Key×V)}{k:QT Key}{v:V}(e:H a=some (.dT kvs))(eb:H b= ~~~(k.map kV))(hl:kvs.length < sizeLine) :
  DPut H a (.ref b) v (upd H a (.dT (eI kvs k v))):=.inr %[kvs,k,b,e,O,eb,hl|O]
section
variable{X:Cx}{QV:SY}{σ:St}{H:Hp}{s:G0}{a:QP}{y v:V}{u r:G4}{o:QR V}{A:Around}{E:G4->G0->Prop}
theorem Inv.big(I:Inv X QV σ H s):sysModules < s.heap.objs.size:=by have h:QU < s.heap.objs.size:=(I.mod.glob.keeps I.bk).lt;exact Nat.lt_trans ∅ h
theorem tV{Q:G4->G0->Prop}(hu:A.units+1 < cLine)(I:Inv X QV σ H s)(g:DGet H a y (some v))(ry:RelV y u)(h:∀w' s',Inv X QV σ H s'->RelV v w'->Q w' s') :
  wpAny (model X.prog X.w) A (getItem (.ref a) u) Q E s:=by
 rcases g with⟨kvs,k,e,ey,l⟩ | ⟨kvs,k,b,e,ey,eb,l⟩
 ·subst ey;obtain⟨z,hd,vs,rel,dd⟩:=rV I.hok e;obtain⟨w',hw,rw'⟩:=RelO.some_of (v:=v) (o:=valueAt vs k) (by rw[l];exact rel.val k);exact wpAny_getItem_of (rU ry) dd.mapOf hw (h w' _ (I.tok _) rw')
 ·subst ey;cases(show u=Value.ref b from ry);obtain⟨z,hd,xs,rel,dd⟩:=rW I.hok e;obtain⟨w',hw,rw'⟩:=RelO.some_of (v:=v) (o:=(atKey xs k).map (·.2)) (by rw[l];exact rel.val k);obtain⟨p,hp,hp2⟩:=J9.mp hw;apply wpAny_getItem_heap (tupleKind_room_in1 hu) (fV I.hok eb) dd hp ?_;rw[hp2];exact h w' _ (I.tok _) rw'
theorem zR{Q:G4->G0->Prop}(hu:A.units+1 < cLine)(I:Inv X QV σ H s)(g:DGet H a y o)(ry:RelV y u)(h:∀s',Inv X QV σ H s'->Q (.bool (!o.isSome)) s') :
  wpAny (model X.prog X.w) A (compareOp .NotIn u (.ref a)) Q E s:=by
 rcases g with⟨kvs,k,e,ey,l⟩ | ⟨kvs,k,b,e,ey,eb,l⟩
 ·subst ey;obtain⟨z,hd,vs,rel,dd⟩:=rV I.hok e;apply wpAny_notIn_of (rU ry) hd dd.mapOf ?_;rw[<- (rel.val k).isSome_eq,<- l];exact h _ (I.tok _)
 ·subst ey;cases(show u=Value.ref b from ry);obtain⟨z,hd,xs,rel,dd⟩:=rW I.hok e;apply wpAny_notIn_heap (tupleKind_room_in1 hu) (fV I.hok eb) hd dd ?_;have q:=(rel.val k).isSome_eq;rw[Option.isSome_map]at q;rw[<- q,<- l];exact h _ (I.tok _)
theorem nr{h':Heap}{t':Nat}{ob:HO}(I:Inv X QV σ H s)(mu:Mut (H a))(hs:Heap.SameBut a s.heap h')(he:∃q,h'.get? a=some q)(new:ObjOk X.prog X.w (upd H a ob) h' a ob) :
  Inv X QV σ (upd H a ob) { s with heap:=h',toks:=t' } :=
 I.write (x:=a) (e:=a) mu (.inl rfl) (λ b q hb z=>(hs.2 b hb).trans z) he new
theorem BH{P:G1}{w:G3}{H':Hp}{h':Heap}{kvs:QT (Key×V)}{vs:QT (Key×G4)}(z:kvs.length<=sizeLine)(hd:(a == sysModules)=false)(rel:KV kvs vs)(dd:h'.DictOf (bq P w) a vs) :
  ObjOk P w H' h' a (.dK kvs):=%[z,hd,vs,rel|dd]
theorem tW{H':Hp}{Q:Unit->G0->Prop}(hu:A.units+1 < cLine)(I:Inv X QV σ H s)(g:DPut H a y v H')(ry:RelV y u)(rv:RelV v r)(h:∀s',Inv X QV σ H' s'->Q () s') :
  wpAny (model X.prog X.w) A (setItem (.ref a) u r) Q E s:=by
 rcases g with⟨kvs,k,e,ey,l,eH⟩ | ⟨kvs,k,b,e,ey,eb,l,eH⟩
 ·subst ey eH;obtain⟨z,hd,vs,rel,dd⟩:=DA I.hok e;have hz:vs.length<=sizeLine:=by rw[<- rel.length];exact z
  have hl:(eI kvs k v).length<=sizeLine:=by have:=fU kvs k v;lia
  apply wpAny_setItem_pairs (hsz:=hz) (rU ry) dd λ h' dd' hs=>h _ ?_;have he:∃q,h'.get? a=some q:=let ⟨q,_,_,hq,_⟩:=dd';%[q|hq]
  exact nr I (by rw[e];exact True.intro) hs he (BH hl hd (rel.put k rv) dd')
 ·subst ey eH;cases(show u=Value.ref b from ry);obtain⟨z,hd,xs,rel,dd⟩:=xw I.hok e;have hz:xs.length<=sizeLine:=by rw[<- Paired.length rel];exact z
  have hl:(eI kvs k v).length<=sizeLine:=by have:=fU kvs k v;lia
  apply wpAny_setItem_heap (hsz:=hz) (tupleKind_room_in1 hu) (fV I.hok eb) dd λ h' dd' hs=>h _ ?_;obtain⟨q,es,ep,hq,h2,h3,h4,_,h5⟩:=dd';apply nr I (by rw[e];exact True.intro) hs %[q|hq] %[hl,hd,_,(rel.put k eb rv).keeps λ c ys ec=>?_,q,es,ep,hq,h2,h3,h4|h5];rw[am (AR ec e (λ z=>nomatch z))];exact ec
end
def DC(i:Expr):Prop:=∀ov iv,subscripted i false ov iv=operate [ov,iv] (getItem ov iv)
theorem zS{prog:G1}{w:G3}{A:Around}{E:G4->G0->Prop}{s:G0}{env:Env}{value slice:Expr}{pos:Pos}{T id:String}{Q:G4->G0->Prop}
  (hl:typeLookup (.type T) "__getitem__" = pure (some (.builtin id))) (hs:DC slice)
  (h:wpAny (model prog w) A (eval value env) (λ o s₁=>wpAny (model prog w) A (eval slice env) (λ i s₂=>s₂.TypeIs o T/\wpAny (model prog w) A (getItem o i) Q E s₂) E s₁) E s) :
  wpAny (model prog w) A (eval (.Subscript value slice pos) env) Q E s:=by
 apply Subscript_ (Ql h (λ o s₁ h₁=>Ql h₁ (λ i s₂ h₂=>?_) λ _ _ x=>x) λ _ _ x=>x);obtain⟨hT,h₂⟩:=h₂;unfold subscriptTail;apply A0 ?_;rw[getitemInPython_of_ne hT.not_modules];apply A0 (wpAny_specialOf hT hl ?_);have fin:wpAny (model prog w) A (subscripted slice false o i) (λ r s₃=>wpAny (model prog w) A (letTemporaryGo value o r >>= λ _=>pure r) Q E s₃) E s₂:=by rw[hs o i];exact wpAny_operating (Ql h₂ (λ r s₃ h₃=>A0 (wpAny_letTemporaryGo (A3 h₃))) λ _ _ x=>x)
 first
  | exact A3 (A0 fin)
  | exact A0 (A3 (A0 fin))
  | exact A0 fin
theorem ou{X:Cx}{QV:SY}{σ:St}{H:Hp}{s:G0}{a:QP}{y:V}{o:QR V}(I:Inv X QV σ H s)(g:DGet H a y o):s.TypeIs (.ref a) "dict" := by
 rcases g with⟨kvs,k,e,_,_⟩ | ⟨kvs,k,b,e,_,_,_⟩
 ·obtain⟨_,_,vs,_,dd⟩:=rV I.hok e;exact dd.typeIs
 ·obtain⟨_,_,xs,_,dd⟩:=rW I.hok e;exact dd.typeIs
def DF(td ty:TE):TE:=λ σ H Q=>td σ H λ x H1=>ty σ H1 λ y H2=>∃a v,x=.ref a/\DGet H2 a y (some v)/\Q v H2
def zT(ty td:TE):TE:=λ σ H Q=>ty σ H λ y H1=>td σ H1 λ x H2=>∃a o,x=.ref a/\DGet H2 a y o/\Q (.bl (!o.isSome)) H2
def DG(td ty tv:TE):TS:=λ D σ H=>tv σ H λ v H1=>td σ H1 λ x H2=>ty σ H2 λ y H3=>∃a H4,x=.ref a/\DPut H3 a y v H4/\D.nx σ H4
section
variable{X:Cx}{o i e value:Expr}{pos pos' tpos:Pos}{td ty tv:TE}
theorem dS(hu:X.A.units+1 < cLine)(ho:PE X o td)(hi:PE X i ty)(hs:DC i):PE X (.Subscript o i pos) (DF td ty):=by intro QV s σ H Q I h;apply zS PySem.F.slot_dict_getitem.lookup hs (thn (ho QV s σ H _ I h) ?_);rintro u s1 ⟨x,H1,I1,rx,q1⟩;apply thn (hi QV s1 σ H1 _ I1 q1) ?_;rintro iv s2 ⟨y,H2,I2,ry,a,v,ex,g,q2⟩;subst ex;obtain rfl:u=Value.ref a:=rx;exact%[ou I2 g|tV hu I2 g ry λ w' s3 I3 rw'=>%[v,H2,I3,rw'|q2]]
theorem tX(hu:X.A.units+1 < cLine)(hi:PE X i ty)(ho:PE X o td):PC X .NotIn i o (zT ty td):=by intro QV s σ H Q I h;apply thn (hi QV s σ H _ I h) ?_;rintro iv s1 ⟨y,H1,I1,ry,q1⟩;apply thn (ho QV s1 σ H1 _ I1 q1) ?_;rintro u s2 ⟨x,H2,I2,rx,a,ov,ex,g,q2⟩;subst ex;obtain rfl:u=Value.ref a:=rx;exact zR hu I2 g ry λ s3 I3=>%[.bl (!ov.isSome),H2,I3,O|q2]
theorem zU(hu:X.A.units+1 < cLine)(ho:PE X o td)(hi:PE X i ty)(hv:PE X value tv)(hs:swapsWith value (some (.Subscript o i pos')) pos.line X.env=pure false) :
  PS X (.Assign [.Subscript o i pos'] value pos) (DG td ty tv):=by
 intro QV s σ H D I h;apply wpAny_Assign_Subscript (thn (hv QV s σ H _ I h) ?_) hs;rintro r s1 ⟨v,H1,I1,rv,q1⟩;apply thn (ho QV s1 σ H1 _ I1 q1) ?_;rintro u s2 ⟨x,H2,I2,rx,q2⟩;apply thn (hi QV s2 σ H2 _ I2 q2) ?_;rintro iv s3 ⟨y,H3,I3,ry,a,H4,ex,g,q3⟩;subst ex;obtain rfl:u=Value.ref a:=rx;exact tW hu I3 g ry rv λ s4 I4=>%[σ,H4,I4|q3]
end
theorem ow{P:G1}{w:G3}{H:Hp}(h:Heap)(hb:sysModules < h.objs.size):ObjOk P w H (h.push { cls:=.type "dict",data:=.dict #[] }) h.objs.size (.dT []) :=
 %[F2 _,Qz.mpr (Ne.symm (C1 hb)),[],.nil,_,#[],0,A9 _ rfl,%[rfl,rfl|rfl],rfl,rfl|List.nodup_nil]
def BI:TE:=λ _ H Q=>∀p,H p=none->Q (.ref p) (upd H p (.dT []))
section
variable{X:Cx}{pos:Pos}
theorem oz:PE X (.Dict [] [] pos) BI:=λ QV s σ H Q I h=>
 wpAny_Dict_empty %[.ref s.heap.objs.size,_,I.laid (a:=s.heap.objs.size) (o:=.dT []) (t':=s.toks) (λ _ _ q=>A8 _ q) (B4 _) (ow s.heap I.big),rfl|h _ (I.hok.fresh (B4 _))]
end
structure M1(X:Cx)(o:Expr)(m:Str)(apos:Pos)(e:Expr)(cpos:Pos):Prop where
 base:attributeBase o m X.env (eval o X.env)=eval o X.env
 few:((backTo cpos (starEach [e] X.env)).all (λ x=>!x.1) && (backToKw cpos (keywordEach [] X.env)).all (λ x=>x.1.isSome)
  && decide (([e]:QT Expr).length+([]:QT Keyword).length+(if ([]:QT Keyword).isEmpty then 0 else 1) < 30))=true
 line:(apos.endLine == cpos.line)=true
 trees:backTo cpos (starEach [e] X.env)=[(false,eval e X.env)]
structure M2(X:Cx)(o:Expr)(m:Str)(apos:Pos)(e f:Expr)(cpos:Pos):Prop where
 base:attributeBase o m X.env (eval o X.env)=eval o X.env
 few:((backTo cpos (starEach [e,f] X.env)).all (λ x=>!x.1) && (backToKw cpos (keywordEach [] X.env)).all (λ x=>x.1.isSome)
  && decide (([e,f]:QT Expr).length+([]:QT Keyword).length+(if ([]:QT Keyword).isEmpty then 0 else 1) < 30))=true
 line:(apos.endLine == cpos.line)=true
 trees:backTo cpos (starEach [e,f] X.env)=[(false,eval e X.env),(false,eval f X.env)]
end L2
/- THE LAST THEOREM (shape;LID,My.* are yours):
   My.Adr: a structure of the addresses that your layer names (classes,functions);My.Txt K t: a structure (Prop) of the equations over K;
   My.txt_mk : {K} {implicit addresses ..} (e1 : nsIn K QU "law" = some (↑f)) (e2 : K.lookup f=some %[oc,od,.func (fnOf "law" "law" params body scope dV kV doc pm an cdv ct)|sl]) (e3 : codeIn K cdv "law" = true) .. : ∃ t,My.Txt K t
(the tactic k_is has no namespace: write k_is) -/
namespace L2
open PySem PySem.Spec PyProof.Rows
section
variable{X:Cx}
inductive rz_call_lenD(xs:QT V)(H:Hp)(Q:VK):Prop
|mk(a kvs:_)(_:xs=[V.ref a])(_:H a=some (.dK kvs))(_:Q (.int kvs.length) H)
end
theorem cQ{X:Cx}(K:C6){x y:Str}{px py pos:Pos}{k:Nat}(hK:X.K=K)(hc:X.calm=true)(hN:X.N.Nodup)(h0:X.N[0]?=some x)(h1:X.N[1]?=some y)(l0:X.env.scope.names.lookup x=some .local)(l1:X.env.scope.names.lookup y=some .local) :
  PG X (.Tuple [.Name x px,.Name y py] k pos) (gTup K 2 (gCons (fB 0) (gCons (fB 1) wD))) :=
 hK ▸ bn hc (ao (aj hN h0 (.inl l0) (.inr l0)) (ao (aj hN h1 (.inl l1) (.inr l1)) aR))
theorem xx{X:Cx}(K:C6){x y z:Str}{px py pz pos:Pos}{k:Nat}(hK:X.K=K)(hc:X.calm=true)(hN:X.N.Nodup)(h0:X.N[0]?=some x)(h1:X.N[1]?=some y)(h2:X.N[2]?=some z)(l0:X.env.scope.names.lookup x=some .local)(l1:X.env.scope.names.lookup y=some .local)(l2:X.env.scope.names.lookup z=some .local) :
  PG X (.Tuple [.Name x px,.Name y py,.Name z pz] k pos) (gTup K 3 (gCons (fB 0) (gCons (fB 1) (gCons (fB 2) wD)))) :=
 hK ▸ bn hc (ao (aj hN h0 (.inl l0) (.inr l0)) (ao (aj hN h1 (.inl l1) (.inr l1)) (ao (aj hN h2 (.inl l2) (.inr l2)) aR)))
section
variable{X:Cx}
inductive rz_call_maxI(K:C6)(xs:QT V)(H:Hp)(Q:VK):Prop
|mk(p:QP)(ns:SW)(_:xs=[.ref p])(_:SqL K H p (ns.map V.int))(_:ns≠[])(_:∀m,m∈ns->(∀x∈ns,x<=m)->Q (.int m) H)
end
end L2
namespace PySem
def SqA:Bool->Heap->QP->QS G4->Prop
 | true,h,l,xs=>h.IsTuple l xs
 | false,h,l,xs=>h.IsList l xs
def ItA:Bool->Heap->QP->QP->Nat->Prop
 | true,h,a,l,k=>h.IsTupleIter a l k
 | false,h,a,l,k=>h.IsListIter a l k
abbrev oA(h:Heap)(T:QP)(vs:QT G4):Prop:=h.get? T=some { cls:=.type "tuple",data:=.seq vs.toArray }
theorem SqA.at{b:Bool}{h h':Heap}{l:QP}{xs:QS G4}(x:SqA b h l xs)(e:∀o,h.get? l=some o->h'.get? l=some o):SqA b h' l xs:=by cases b <;> (obtain⟨o,ho,r⟩:=x;exact%[o,e _ ho|r])
theorem ItA.at{b:Bool}{h h':Heap}{a l:QP}{k:Nat}(x:ItA b h a l k)(e:∀o,h.get? a=some o->h'.get? a=some o):ItA b h' a l k:=by cases b <;> (obtain⟨o,ho,r⟩:=x;exact%[o,e _ ho|r])
theorem ItA.obj{b:Bool}{h:Heap}{a l:QP}{k:Nat}(x:ItA b h a l k):∃o,h.get? a=some o/\∀v,o.data≠.cell v:=by cases b <;> (obtain⟨o,ho,_,d⟩:=x;exact%[o,ho|λ v q=>by rw[d]at q;cases q])
abbrev fpZ(z TI TO:QP)(its:QT (Bool×QP×QP)):QT QP:=z :: TI :: TO :: its.map (·.2.1)
def StZ(f:G4)(z TI TO:QP)(its:QT (Bool×QP×QP))(i:Nat)(h:Heap):Prop :=
 IsZip h z TI TO f/\oA h TI (its.map λ p=>.ref p.2.1)/\(∃os,os.length=its.length/\oA h TO os)/\∀p∈its,ItA p.1 h p.2.1 p.2.2 i
section
variable{prog:G1}{w:G3}{A:Around}{E:G4->G0->Prop}{s:G0}
theorem xy{α:Type}{vs os:QT α}{n:Nat}{y:α}(hy:vs[n]?=some y)(ho:n < os.length):(vs.take n ++ os.drop n).set n y=vs.take (n+1) ++ os.drop (n+1):=by
 have h:=(A7.mp hy).1;have hl:(vs.take n).length=n:=by simp;lia
 rw[PK ho,List.set_append_right _ _ ⋯,hl,QJ,List.set_cons_zero,List.take_succ,hy];simp
theorem tY{b:Bool}{it l:QP}{i:Nat}{items}{Q:G4->G0->Prop}(hh:A.handled=none)(hit:ItA b s.heap it l i)(hl:SqA b s.heap l items)
  (hQ:∀x,items[i]?=some x->∀h',ItA b h' it l (i+1)->Heap.SameBut it s.heap h'->Q x { s with heap:=h' }) (hE:items[i]?=none->∀h' e,Heap.ExtBut it s.heap h'->(∃o,h'.get? e=some o/\o.cls=.type "StopIteration")->E (.ref e) { s with heap:=h' }) :
  wpAny (model prog w) A (Builtin.SmallTypes.nextOf (.ref it)) Q E s:=by
 cases hx:items[i]? with
 | none=>cases b;exact wpAny_nextOf_list_end hh hit hl hx (hE hx);exact dC hh hit hl hx (hE hx)
 | some x=>cases b;exact wpAny_nextOf_list_item hit hl hx (hQ x hx);exact fE hit hl hx (hQ x hx)
theorem jr{z TI TO:QP}{its:QT (Bool×QP×QP)}{k:Nat}{vs:QT G4}{Q:QR G4->G0->Prop}(hh:A.handled=none)(nd:(fpZ z TI TO its).Nodup)(n0:its≠[])(hl:its.length<=9)(st:StZ .none z TI TO its k s.heap)(ha:∀p∈its,p.2.2∉fpZ z TI TO its)(hvl:vs.length<=its.length)
  (hv:∀ (j:Nat) p,its[j]?=some p->∃xs,SqA p.1 s.heap p.2.2 xs/\(j<=vs.length->xs[k]?=vs[j]?))
  (hQ:vs.length=its.length->∀h',StZ (rawInt s.heap.objs.size) z TI TO its (k+1) h'->oA h' s.heap.objs.size vs->(∀c o,c∉fpZ z TI TO its->s.heap.get? c=some o->h'.get? c=some o)->Q (↑s.heap.objs.size) { s with heap:=h' })
  (hE:vs.length < its.length->∀h',(∀c o,c∉fpZ z TI TO its->s.heap.get? c=some o->h'.get? c=some o)->Q none { s with heap:=h' }):wpAny (model prog w) A (pyNext (.ref z)) Q E s:=by
 obtain⟨hz,hTI,⟨os,ho,hTO⟩,hi⟩:=st;have hT:s.TypeIs (.ref z) "zip" := %[_,hz|O]
 unfold pyNext;apply A0 (RJ (wpAny_callSpecial?_slot (name:=Str.ofString "__next__") hT F.slot_zip_next
  (F7 F.slot_zip_next hT F.entry_zip_next ?_ (F.args_zip_next_1 _))))
 show wpAny _ _ (field (.ref z) 2 >>= _) _ _ _;apply A0 (Qq hz rfl (x:=.bool false) rfl ?_);show wpAny _ _ (field (.ref z) 3 >>= _) _ _ _;apply A0 (Qq hz rfl (x:=.ref TI) rfl ?_);apply A0 (wpAny_seqItems hTI rfl ?_);have em:(its.map λ p=>Value.ref p.2.1).toArray.isEmpty=false:=by cases its with | nil=>exact absurd rfl n0 | cons a t=>simp
 dsimp only;rw[em];show wpAny _ _ (Builtin.SmallTypes.ownedTupleIsFree (.ref z) >>= _) _ _ _;apply A0 ?_;unfold Builtin.SmallTypes.ownedTupleIsFree;apply A0 (Qq hz rfl (x:=.none) rfl (A3 ?_));simp only[RL];apply A0 (Qs ?_);apply A0 (Qq hz rfl (x:=.ref TO) rfl ?_);apply A0 (Qr hz (by simp) λ h₁ hz₁ hs₁=>?_)
 replace hz₁:IsZip h₁ z TI TO .ellipsis:=hz₁
 simp only[PP,J4,not_or]at nd;obtain⟨⟨n1,n2,n3⟩,⟨n4,n5⟩,n6,n7⟩:=nd;apply A0 (wpAny_forIn_list _ (λ rest b s'=>b.1=none/\∃n h',rest=((its.map λ p=>Value.ref p.2.1).zipIdx).drop n/\n<=vs.length/\s'={ s with heap:=h' }/\IsZip h' z TI TO .ellipsis/\oA h' TO (vs.take n ++ os.drop n)/\(∀ (j:Nat) p,its[j]?=some p->ItA p.1 h' p.2.1 p.2.2 (if j < n then k+1 else k))/\h'.objs.size=s.heap.objs.size/\∀c o,c≠z->c≠TO->c∉its.map (·.2.1)->s.heap.get? c=some o->h'.get? c=some o) _ ?_ ?_ _ _ ?_)
 ·rintro x rest b s' ⟨hb,n,h',hr,hn,rfl,hz',hTO',hi',hsz,hk⟩;obtain⟨b1,b2⟩:=b;cases(show b1=none from hb);have hnl:n < its.length:=by
   rcases QN n its.length with h | h
   ·exact h
   ·rw[List.drop_of_length_le (by simpa using h)]at hr;cases hr
  have hp:its[n]?=some its[n]:=by simp[hnl]
  generalize its[n]=p at hp;have hm:p∈its:=B7 hp;have hx:x=(Value.ref p.2.1,n)/\rest=((its.map λ p=>Value.ref p.2.1).zipIdx).drop (n+1):=by
   have e:((its.map λ p=>Value.ref p.2.1).zipIdx)[n]?=some (Value.ref p.2.1,n):=by simp[hp]
   rw[PK (by simpa using hnl)]at hr;cases hr;exact%[by simpa[F5 (show n < ((its.map λ p=>Value.ref p.2.1).zipIdx).length by simpa using hnl)]using e|O]
  obtain⟨rfl,rfl⟩:=hx;obtain⟨xs,sq,ex⟩:=hv n p hp;have A1:=ha p hm;simp only[J4,not_or]at A1;have sq':SqA p.1 h' p.2.2 xs:=sq.at λ o e=>hk _ o A1.1 A1.2.2.1 A1.2.2.2 e;have it':=hi' n p hp;rw[QZ (E4 n)]at it';have mi:p.2.1∈its.map (·.2.1):=O9 hm;have iz:p.2.1≠z:=λ e=>n3 (e ▸ mi);have iT:p.2.1≠TO:=λ e=>n6 (e ▸ mi);have ne:∀ (j:Nat) q,its[j]?=some q->j≠n->q.2.1≠p.2.1:=λ j q hj h e=>h ((List.getElem?_inj (by have:=(A7.mp hj).1;simpa using this) n7).mp (by simp[hj,hp,e]));dsimp only;apply A0 (wpAny_onRaise ?_);show wpAny _ _ (Builtin.SmallTypes.nextOf (.ref p.2.1) >>= _) _ _ _;apply A0 (tY hh it' sq' (λ y hy h₂ i₂ hs₂=>A3 ?_) λ hy h₂ e hs₂ he=>?_)
  ·have hnv:n < vs.length:=by
    rcases QN n vs.length with h | h
    ·exact h
    ·rw[ex hn,O0 h]at hy;cases hy
   rw[ex hn]at hy;have hTO₂:=hs₂.extBut _ _ (Ne.symm iT) hTO';apply A0 (wpAny_seqItems hTO₂ rfl ?_);apply A0 (wpAny_updateSeq hTO₂ rfl ?_ ?_ ?_)
   ·apply A0 (wpAny_letGo (A3 ?_));have hs₃:=Qo h₂ TO (Obj.mapSeq λ x=>x.setIfInBounds n y);apply%[O,n+1,_,O,hnv,O,hs₃.extBut _ _ n2 (hs₂.extBut _ _ (Ne.symm iz) hz'),?_,λ j q hj=>?_,by rw[hs₃.1,hs₂.1,hsz]|λ c o c1 c2 c3 e=>hs₃.extBut _ _ c2 (hs₂.extBut _ _ (λ e'=>c3 (e' ▸ mi)) (hk c o c1 c2 c3 e))]
    ·show Heap.get? _ _=_;rw[RE _ hTO₂ rfl,<- xy hy ⋯];simp[Obj.mapSeq]
    ·have qT:q.2.1≠TO:=λ e=>n6 (e ▸ O9 (B7 hj));rcases Nat.lt_trichotomy j n with h | h | h
     ·have:=hi' j q hj;rw[Qa h]at this;rw[Qa ⋯];exact this.at λ o e=>hs₃.extBut _ _ qT (hs₂.extBut _ _ (ne j q hj ⋯) e)
     ·subst h;rw[hp]at hj;cases hj;rw[Qa (F4 _)];exact i₂.at λ o e=>hs₃.extBut _ _ qT e
     ·have:=hi' j q hj;rw[QZ ⋯]at this;rw[QZ ⋯];exact this.at λ o e=>hs₃.extBut _ _ qT (hs₂.extBut _ _ (ne j q hj ⋯) e)
   ·exact C7 (by simp;lia) (show 9<=sizeLine by decide)
   ·exact C7 (by simp;lia) (show 9<=sizeLine+1 by decide)
  ·have hnv:vs.length<=n:=by rw[ex hn]at hy;exact List.getElem?_eq_none_iff.mp hy
   obtain⟨oe,hoe,hce⟩:=he;have hz₂:=hs₂ _ _ (Ne.symm iz) hz';have hez:e≠z:=λ x=>by subst x;rw[hz₂]at hoe;cases hoe;simp at hce
   apply Qr hz₂ (by simp) λ h₃ _ hs₃=>A0 (wpAny_isInstance (T := "StopIteration") (b:=true) %[oe,hs₃.extBut _ _ hez hoe|hce] isSubtype_stop (A3 (hE ⋯ h₃ λ c o hc q=>?_)));simp only[J4,not_or]at hc;exact hs₃.extBut _ _ hc.1 (hs₂ _ _ (λ e'=>hc.2.2.2 (e' ▸ mi)) (hk c o hc.1 hc.2.2.1 hc.2.2.2 q))
 ·rintro⟨b1,b2⟩ s' ⟨hb,n,h',hr,hn,rfl,hz',hTO',hi',hsz,hk⟩;cases(show b1=none from hb);have hnl:its.length<=n:=by
   rcases QN n its.length with h | h
   ·have:=Qu List.length hr;simp at this;lia
   ·exact h
  have e1:vs.take n ++ os.drop n=vs:=by rw[List.drop_of_length_le ⋯,K6 ⋯,N0]
  rw[e1]at hTO';apply A0 (wpAny_seqItems hTO' rfl ?_);apply A0 (wpAny_newTuple ?_ (C7 (by simp;lia) (show 9<=sizeLine by decide)));have hzl:z < h'.objs.size:=B0 hz';show wpAny _ _ (Builtin.SmallTypes.ownedTupleHandOut (.ref z) (.ref h'.objs.size) >>= _) _ _ _;apply A0 ?_;unfold Builtin.SmallTypes.ownedTupleHandOut;apply A0 (Qr (A8 _ hz') (by simp) λ h₇ hz₇ hs₇=>?_);apply Qr hz₇ (by simp) λ h₈ hz₈ hs₈=>?_
  replace hz₈:IsZip h₈ z TI TO (rawInt h'.objs.size):=hz₈
  have up:∀c o,c≠z->h'.get? c=some o->h₈.get? c=some o:=λ c o c1 e=>hs₈.extBut _ _ c1 (hs₇.extBut _ _ c1 (A8 _ e));have hT₈:oA h₈ h'.objs.size vs:=hs₈.extBut _ _ (O1 hzl) (hs₇.extBut _ _ (O1 hzl) (A9 _ rfl));apply A3 %[_,rfl|?_];apply A3 ?_;rw[hsz]at hz₈ hT₈ ⊢;apply hQ ⋯ h₈ %[hz₈,up _ _ (Ne.symm n1) (hk _ _ (Ne.symm n1) n4 n5 hTI),%[vs,⋯|up _ _ (Ne.symm n2) hTO']|λ p hp=>?_] hT₈ λ c o hc e=>?_
  ·obtain⟨j,hj⟩:=List.getElem?_of_mem hp;have:=hi' j p hj;rw[Qa (by have:=(A7.mp hj).1;lia)]at this;exact this.at λ o e=>up _ o (λ e'=>n3 (e' ▸ O9 hp)) e
  ·simp only[J4,not_or]at hc;exact up c o hc.1 (hk c o hc.1 hc.2.2.1 hc.2.2.2 e)
 ·exact%[O,0,h₁,O,F2 _,O,hz₁,hs₁.extBut _ _ (Ne.symm n2) hTO,λ j p e=>by rw[QZ (F3 _)];exact(hi p (B7 e)).at λ o q=>hs₁.extBut _ _ (λ e'=>n3 (e' ▸ O9 (B7 e))) q,hs₁.1|λ c o c1 _ _ e=>hs₁.extBut _ _ c1 e]
structure ZIts(h h':Heap)(its:QT (Bool×QP×QP)):Prop where
 nd:(its.map (·.2.1)).Nodup
 it:∀p∈its,h.objs.size<=p.2.1/\p.2.1 < h'.objs.size/\ItA p.1 h' p.2.1 p.2.2 0
 keep:∀c o,h.get? c=some o->h'.get? c=some o
 le:h.objs.size<=h'.objs.size
theorem ZIts.push{h h':Heap}{its:QT (Bool×QP×QP)}(Z:ZIts h h' its)(o:Obj):ZIts h (h'.push o) its :=
 %[Z.nd,λ p hp=>let ⟨a1,a2,a3⟩:=Z.it p hp;%[a1,by rw[Qi];exact PM a2|a3.at λ o e=>A8 _ e],λ c o e=>A8 _ (Z.keep c o e)|by rw[Qi];have:=Z.le;lia]
theorem ZIts.add{h h':Heap}{its:QT (Bool×QP×QP)}(Z:ZIts h h' its){o:Obj}{b:Bool}{l:QP}(i:ItA b (h'.push o) h'.objs.size l 0):ZIts h (h'.push o) (its ++ [(b,h'.objs.size,l)]):=by
 have P:=Z.push o;apply%[?_,λ p hp=>?_,P.keep|P.le]
 ·rw[J5,QF];apply%[P.nd,by simp|λ a ha c hc e=>?_];obtain⟨p,hp,rfl⟩:=J6.mp ha;simp at hc;exact C1 (Z.it p hp).2.1 (e.trans hc)
 ·rcases C4.mp hp with hp | hp
  ·exact P.it p hp
  ·cases E6.mp hp;exact%[Z.le,by rw[Qi];exact F4 _|i]
theorem qK{ls:QT (Bool×QP)}{Q:QT G4->G0->Prop}(hs:∀p∈ls,∃xs,SqA p.1 s.heap p.2 xs)
  (hQ:∀(h':Heap)(its:QT (Bool×QP×QP)),its.map (λ p=>(p.1,p.2.2))=ls->ZIts s.heap h' its->Q (its.map λ p=>.ref p.2.1) { s with heap:=h' }) :
  wpAny (model prog w) A (Builtin.SmallTypes.iterAll (ls.map λ p=>.ref p.2)) Q E s:=by
 unfold Builtin.SmallTypes.iterAll;apply A0 (wpAny_forIn_list _ (λ rest b s'=>∃(its:QT (Bool×QP×QP))(ls':QT (Bool×QP))(h':Heap),b=(its.map λ p=>Value.ref p.2.1).toArray/\rest=(ls'.map λ p=>Value.ref p.2)/\its.map (λ p=>(p.1,p.2.2)) ++ ls'=ls/\s'={ s with heap:=h' }/\ZIts s.heap h' its) _ ?_ ?_ _ _ %[[],ls,s.heap,rfl,rfl,rfl,rfl,.nil,by simp,λ _ _ e=>e|B4 _])
 ·rintro x rest b s' ⟨its,ls',h',rfl,hr,he,rfl,Z⟩;cases ls' with
  | nil=>cases hr
  | cons p t=>
   obtain⟨b,l⟩:=p;cases hr;obtain⟨xs,sq⟩:=hs (b,l) (by rw[<- he];simp);have sq':SqA b h' l xs:=sq.at λ o e=>Z.keep _ o e;apply A0 (Qh ?_);cases b
   ·exact wpAny_pyIter_list sq' (A3 %[its ++ [(false,h'.objs.size,l)],t,_,by simp,rfl,by rw[<- he];simp,rfl|Z.add %[_,A9 _ rfl,rfl|rfl]])
   ·exact RD sq' (A3 %[its ++ [(true,h'.objs.size,l)],t,_,by simp,rfl,by rw[<- he];simp,rfl|Z.add %[_,A9 _ rfl,rfl|rfl]])
 ·rintro b s' ⟨its,ls',h',rfl,hr,he,rfl,Z⟩;cases ls' with
  | cons p t=>cases hr
  | nil=>exact A3 (by simpa using hQ h' its (by simpa using he) Z)
structure ZipNew(h h':Heap)(ls:QT (Bool×QP))(z TI TO:QP)(its:QT (Bool×QP×QP)):Prop where
 src:its.map (λ p=>(p.1,p.2.2))=ls
 nd:(fpZ z TI TO its).Nodup
 old:∀a∈fpZ z TI TO its,h.objs.size<=a
 st:StZ .none z TI TO its 0 h'
 keep:∀c o,h.get? c=some o->h'.get? c=some o
theorem xz(ls:QT (Bool×QP))(hl:ls.length<=9) :
  Meets (Builtin.«zip.__new__» %[.type "zip" :: ls.map λ p=>.ref p.2|[]]) (λ _ R s=>(∀p∈ls,∃xs,SqA p.1 s.heap p.2 xs) /\
   ∀h' z TI TO its,ZipNew s.heap h' ls z TI TO its->R (.ok (.ret (.ref z))) { s with heap:=h' }) :=
 .of_wp λ prog w A R s h=>by
  obtain⟨hs,h⟩:=h;have nine:9<=sizeLine:=∅
  unfold Builtin.«zip.__new__» Builtin.SmallTypes.newClass;simp only[isType,sub_zip,pure_bind];show wpAny _ _ (Builtin.SmallTypes.iterAll (ls.map λ p=>.ref p.2) >>= _) _ _ _;apply A0 (qK hs λ h' its e Z=>?_);have len:its.length<=sizeLine:=by rw[<- e,B5]at hl;lia
  apply A0 (wpAny_newTuple ?_ (by simpa using len));apply A0 (wpAny_newTuple ?_ (by simpa using len));generalize h1:h'.push _=g;have e1:g.objs.size=h'.objs.size+1:=by rw[<- h1,Qi]
  generalize h2:g.push _=g2;have e2:g2.objs.size=h'.objs.size+2:=by rw[<- h2,Qi,e1]
  show wpAny _ _ (newObj (.type "zip") (.fields #[.none,.bool false,.bool false,.ref h'.objs.size,.ref g.objs.size]) >>= _) _ _ _;apply A0 (F8 ?_);have Z2:ZIts s.heap g2 its:=h2 ▸ (h1 ▸ Z.push _:ZIts s.heap g its).push _;have g1:oA g h'.objs.size (its.map λ p=>.ref p.2.1):=h1 ▸ A9 _ rfl;have gi:oA g2 h'.objs.size (its.map λ p=>.ref p.2.1):=h2 ▸ A8 _ g1;have go:oA g2 g.objs.size ((its.map λ p=>Value.ref p.2.1).map λ _=>.none):=h2 ▸ A9 _ rfl;rw[N7]at go;have Z3:=Z2.push { cls:=.type "zip",data:=.fields #[.none,.bool false,.bool false,.ref h'.objs.size,.ref g.objs.size] };have lt:∀a∈its.map (·.2.1),s.heap.objs.size<=a/\a < h'.objs.size:=λ a ha=>by obtain⟨p,hp,rfl⟩:=J6.mp ha;exact%[(Z.it p hp).1|(Z.it p hp).2.1]
  apply A3 %[_,rfl|h _ g2.objs.size h'.objs.size g.objs.size its %[e,?_,λ a ha=>?_,%[A9 _ rfl,A8 _ gi,%[_,by simp|A8 _ go]|λ p hp=>(Z3.it p hp).2.2]|Z3.keep]]
  ·simp only[PP,J4,not_or];exact%[%[O1 ⋯,O1 ⋯|λ x=>by have:=(lt _ x).2;lia],%[C1 ⋯|λ x=>by have:=(lt _ x).2;lia],λ x=>by have:=(lt _ x).2;lia|Z.nd]
  ·have le:=Z.le;simp only[J4]at ha;rcases ha with rfl | rfl | rfl | ha
   ·lia
   ·lia
   ·lia
   ·exact(lt _ ha).1
theorem tZ{ls:QT (Bool×QP)}{Q:G4->G0->Prop}(hl:ls.length<=9)(hct:checkTypeCall "zip" %[ls.map λ p=>.ref p.2|[]]=pure ())(hcn:checkBuiltinCall "zip.__new__" %[.type "zip" :: ls.map λ p=>.ref p.2|[]]=pure ())
  (hok:∀obj,argsOk "object.__init__" %[obj :: ls.map λ p=>.ref p.2|[]]) (hs:∀p∈ls,∃xs,SqA p.1 s.heap p.2 xs) (h:∀h' z TI TO its,ZipNew s.heap h' ls z TI TO its->Q (.ref z) { s with heap:=h' }) :
  wpAny (model prog w) A (call (.type "zip") (ls.map λ p=>.ref p.2)) Q E s :=
 callType_new F.called_zip ∅ hct hcn hok F.entry_zip_new (xz ls hl) %[hs|λ h' z TI TO its Z=>show _/\_ from%[%[_,Z.st.1|rfl]|h h' z TI TO its Z]]
end
end PySem
namespace L2
open PySem PySem.Spec PyProof.Rows
def sqO:Bool->QT V->HO
 | true,xs=>.tup xs
 | false,xs=>.lst xs
theorem Inv.sq{X:Cx}{QV:SY}{σ:St}{H:Hp}{s:G0}(I:Inv X QV σ H s){b:Bool}{l:QP}{xs:QT V}(e:H l=some (sqO b xs)):∃its:QT G4,Vals xs its/\SqA b s.heap l its.toArray:=by
 cases b
 ·obtain⟨its,r,p,_⟩:=I.list (G7 e);exact%[its,r|p.isList]
 ·obtain⟨its,r,p,_⟩:=I.tuple (G6 e);exact%[its,r|p]
def RowN(H:Hp)(i:Nat):QT (Bool×QP)->QT V->Prop
 | [],vs=>vs=[]
 | p :: ls,[]=>(∃xs,H p.2=some (sqO p.1 xs)/\xs.length<=i)/\∀q∈ls,∃xs,H q.2=some (sqO q.1 xs)
 | p :: ls,v :: vs=>(∃xs,H p.2=some (sqO p.1 xs)/\xs[i]?=some v)/\RowN H i ls vs
def zV(ls:QT (Bool×QP)):It :=
 %[λ i H=>∃vs,RowN H i ls vs/\vs.length=ls.length,λ i H v H'=>∃p vs,H p=none/\v=.ref p/\H'=upd H p (.tup vs)/\RowN H i ls vs/\vs.length=ls.length|λ i H=>∃vs,RowN H i ls vs/\vs.length < ls.length]
section
variable{X:Cx}{QV:SY}{σ:St}{H:Hp}{s:G0}
theorem RowN.src{i:Nat}:∀{ls:QT (Bool×QP)}{vs:QT V},RowN H i ls vs->∀p∈ls,∃xs,H p.2=some (sqO p.1 xs)
 | [],_,_,p,hp=>by cases hp
 | q :: ls,[],h,p,hp=>by
  rcases J4.mp hp with rfl | hp
  ·obtain⟨xs,e,_⟩:=h.1;exact%[xs|e]
  ·exact h.2 p hp
 | q :: ls,v :: vs,h,p,hp=>by
  rcases J4.mp hp with rfl | hp
  ·obtain⟨xs,e,_⟩:=h.1;exact%[xs|e]
  ·exact RowN.src h.2 p hp
theorem RowN.vals(I:Inv X QV σ H s){i:Nat}:∀{ls:QT (Bool×QP)}{vs:QT V},RowN H i ls vs->∃us,Vals vs us/\∀ (j:Nat) p,ls[j]?=some p->∃xs,SqA p.1 s.heap p.2 xs/\(j<=us.length->xs[i]?=us[j]?)
 | [],vs,h=>by cases h;exact%[[],.nil|λ j p e=>by simp at e]
 | q :: ls,[],h=>by
  apply%[[],.nil|λ j p e=>?_];cases j with
  | zero=>
   cases e;obtain⟨xs,e,l⟩:=h.1;obtain⟨its,rv,p⟩:=I.sq e;exact%[_,p|λ _=>by simpa using by rw[<- rv.length];exact l]
  | succ j=>
   obtain⟨xs,e⟩:=h.2 p (B7 (by simpa using e));obtain⟨its,rv,p⟩:=I.sq e;exact%[_,p|λ h=>absurd h (by simp)]
 | q :: ls,v :: vs,h=>by
  obtain⟨xs,e,ev⟩:=h.1;obtain⟨us,r1,r3⟩:=RowN.vals I h.2;obtain⟨its,rv,p⟩:=I.sq e;obtain⟨u,hu,ru⟩:=rv.get ev;apply%[u :: us,.cons ru r1|λ j p' e'=>?_];cases j with
  | zero=>cases e';exact%[_,p|λ _=>by simpa using hu]
  | succ j=>
   obtain⟨ys,y1,y2⟩:=r3 j p' (by simpa using e');exact%[ys,y1|λ h=>by simpa using y2 (by simpa using h)]
end
theorem uh{P:G1}{w:G3}{K:C6}{es:QT Expr}{kk:Nat}{tp:Pos}{ls:QT (Bool×QP)}{z TI TO:QP}{its:QT (Bool×QP×QP)}(src:its.map (λ p=>(p.1,p.2.2))=ls)(nd:(fpZ z TI TO its).Nodup)(n0:its≠[])(hl:its.length<=9) :
  Turn P w K (.Tuple es kk tp) (zV ls) (fpZ z TI TO its) z (StZ .none z TI TO its) where
 mem:=by simp
 obj:=λ i h st b hb=>by
  obtain⟨a1,a2,⟨os,_,a3⟩,a4⟩:=st;simp only[J4]at hb;rcases hb with rfl | rfl | rfl | hb
  ·exact%[_,a1|λ v q=>by cases q]
  ·exact%[_,a2|λ v q=>by cases q]
  ·exact%[_,a3|λ v q=>by cases q]
  ·obtain⟨p,hp,rfl⟩:=J6.mp hb;exact(a4 p hp).obj
 keep:=λ i h h' st k=>by obtain⟨a1,a2,⟨os,l,a3⟩,a4⟩:=st;exact%[k z (by simp) _ a1,k TI (by simp) _ a2,%[os,l|k TO (by simp) _ a3]|λ p hp=>(a4 p hp).at λ o e=>k _ (by simp only[J4];exact .inr (.inr (.inr (O9 hp)))) o e]
 item:=by
  intro X hP hw hK hc i QV s σ H E I hf st ⟨vs,row,hvl⟩;subst hP hw hK src;obtain⟨a1,a2,⟨os,ol,a3⟩,a4⟩:=id st;obtain⟨us,rv,hu⟩:=row.vals I;have ul:=rv.length;rw[B5]at hvl;apply jr (I.ok.hd hc) nd n0 hl st (λ p hp hb=>?_) (vs:=us) ⋯ (λ j p e=>hu j (p.1,p.2.2) (by simp[e])) (λ _ h' ⟨b1,b2,⟨ot,ol',b3⟩,b4⟩ b5 bk=>%[_,O|?_]) λ h=>⋯
  ·obtain⟨xs,e⟩:=row.src (p.1,p.2.2) (O9 (f:=λ p=>(p.1,p.2.2)) hp);rw[(hf _ hb).1]at e;cases e
  ·apply wpAny_letOwnedTupleGo_zip b1 λ h'' c1 cs=>?_;have zs:z < s.heap.objs.size:=B0 a1;have ne:∀b∈TI :: TO :: its.map (·.2.1),b≠z:=λ b hb e=>(PP.mp nd).1 (e ▸ hb);have I1:Inv X QV σ H { s with heap:=h'' }:=I.turnedN (t':=s.toks) hf λ b o hb e=>cs.extBut b o (λ e'=>hb (by simp[e'])) (bk b o hb e);have hn:H s.heap.objs.size=none:=I.hok.fresh (B4 _);have I2:Inv X QV σ (upd H s.heap.objs.size (.tup vs)) { s with heap:=h'' }:=I1.track (I.fpOk (H':=H) (B4 _) hn) I.sz %[C7 ⋯ (show 9<=sizeLine by decide),us,rv,_,cs.extBut _ _ (O1 zs) b5,O,_|O];have tn:StZ .none z TI TO its (i+1) h'':=%[c1,cs.extBut _ _ (ne TI (by simp)) b2,%[ot,ol'|cs.extBut _ _ (ne TO (by simp)) b3]|λ p hp=>(b4 p hp).at λ o e=>cs.extBut _ _ (ne _ (by simp only[J4];exact .inr (.inr (O9 hp)))) e]
   apply%[.ref s.heap.objs.size,_,I2,O,%[_,vs,hn,O,O,row|by simpa using hvl],tn|λ b hb=>?_];have hbl:b < s.heap.objs.size:=by
    simp only[J4]at hb;rcases hb with rfl | rfl | rfl | hb
    ·exact zs
    ·exact B0 a2
    ·exact B0 a3
    ·obtain⟨p,hp,rfl⟩:=J6.mp hb;obtain⟨o,ho,_⟩:=(a4 p hp).obj;exact B0 ho
   rw[am (C1 hbl)];exact(hf b hb).1
 done:=by
  intro X hP hw hK hc i QV s σ H E I hf st ⟨vs,row,hvl⟩;subst hP hw hK src;obtain⟨us,rv,hu⟩:=row.vals I;have ul:=rv.length;rw[B5]at hvl;apply jr (I.ok.hd hc) nd n0 hl st (λ p hp hb=>?_) (vs:=us) ⋯ (λ j p e=>hu j (p.1,p.2.2) (by simp[e])) (λ h=>⋯) λ _ h' bk=>%[O|I.turnedN (t':=s.toks) hf bk]
  obtain⟨xs,e⟩:=row.src (p.1,p.2.2) (O9 (f:=λ p=>(p.1,p.2.2)) hp);rw[(hf _ hb).1]at e;cases e
 self:=λ _ _ _ _ _ st h=>wpAny_pyIter_zip st.1 h
theorem Turn.conv{P:G1}{w:G3}{K:C6}{tg:Expr}{J J':It}{fp:QT QP}{it:QP}{tn:Nat->Heap->Prop}(T:Turn P w K tg J fp it tn)(h1:∀i H,J'.go i H->J.go i H)(h2:∀i H v H',J.yld i H v H'->J'.yld i H v H')(h3:∀i H,J'.stop i H->J.stop i H):Turn P w K tg J' fp it tn :=
 ⟨T.mem,T.obj,T.keep,λ X a b c d i QV s σ H E I hf t g=>Ql (T.item X a b c d i QV s σ H E I hf t (h1 _ _ g)) (λ r s1 ⟨u,e,z⟩=>%[u,e|Ql z (λ _ s2 h9=>by obtain⟨x,H',q1,q2,q3,q4⟩:=h9;exact%[x,H',q1,q2,h2 _ _ _ _ q3|q4]) λ _ _ z=>z]) λ _ _ z=>z,λ X a b c d i QV s σ H E I hf t g=>T.done X a b c d i QV s σ H E I hf t (h3 _ _ g),T.self⟩
theorem rX:∀{ls:QT (Bool×QP)}{us:QT G4},Vals (ls.map λ p=>V.ref p.2) us->us=ls.map λ p=>Value.ref p.2
 | [],_,.nil=>rfl
 | _ :: _,_,.cons r rr=>by cases r;exact Qu _ (rX rr)
theorem nu{X:Cx}{a:Expr}{as:QT Expr}{ta:TA}{p pos tp:Pos}{es:QT Expr}{kk:Nat}{C:QT V->Hp->(It->Hp->Prop)->Prop}(hg:Gl X "zip")(hm:X.mg "zip" = none)(ha:PA X (a :: as) ta)
  (hs:starEach (a :: as) X.env=(false,eval a X.env) :: starEach as X.env) (hp:(backTo pos (starEach as X.env)).any (·.1)=false) (n:Nat) (hn:n < 9) (hct:∀vs:QT G4,vs.length=n+1->checkTypeCall "zip" %[vs|[]]=pure ()/\checkBuiltinCall "zip.__new__" %[.type "zip" :: vs|[]]=pure ()/\∀obj,argsOk "object.__init__" %[obj :: vs|[]])
  (hw:∀vs H1 R,C vs H1 R->∃(ls:QT (Bool×QP))(J:It),ls.length=n+1/\vs=ls.map (λ p=>.ref p.2)/\(∀p∈ls,∃xs,H1 p.2=some (sqO p.1 xs))/\R J H1/\(∀i H,J.go i H->(zV ls).go i H)/\(∀i H v H',(zV ls).yld i H v H'->J.yld i H v H')/\∀i H,J.stop i H->(zV ls).stop i H) :
  PI X (.Tuple es kk tp) (.Call (.Name "zip" p) (a :: as) [] pos) (λ σ H R=>ta σ H λ vs H1=>C vs H1 R):=by
 intro QV s σ H R I h;apply Call_ (fM I hg hm PyProof.Rows.boot_zip (Qp (thn (ha pos QV s σ H _ I h) ?_) hs hp));rintro us s1 ⟨vs,H1,I1,r1,q1⟩;obtain⟨ls,J,ln,rfl,sq,q,c1,c2,c3⟩:=hw _ _ _ q1;have e:=rX r1;subst e;obtain⟨d1,d2,d3⟩:=hct (ls.map λ p=>Value.ref p.2) (by simpa using ln);apply tZ ⋯ d1 d2 d3 (λ p hp=>?_) λ h' z TI TO its Z=>?_
 ·obtain⟨xs,e⟩:=sq p hp;obtain⟨_,_,q⟩:=I1.sq e;exact%[_|q]
 ·have il:its.length=n+1:=by rw[<- ln,<- Z.src,B5]
  exact wpAny_pyIter_zip Z.st.1 ⟨z,_,_,J,H1,O,I1.kept (t':=s1.toks) Z.keep,(uh Z.src Z.nd (λ e=>by rw[e]at il;cases il) ⋯).conv c1 c2 c3,Z.st,λ b hb=>I1.fpOk (Z.old b hb) (I1.hok.fresh (Z.old b hb)),q⟩
theorem gW(a b c d:G4):argsOk "object.__init__" %[[a,b,c,d]|[]]:=by unfold argsOk;rw[signature?_of (id := "object.__init__") (n:=['_','_','t','i','n','i','_','_']) (o:=['t','c','e','j','b','o']) (by kernel_rfl) F.owner_object];kernel_rfl
def sqE(b c:Bool)(l1 l2:QP):It :=
  ⟨λ i H=>∃xs ys x y,H l1=some (sqO b xs)/\H l2=some (sqO c ys)/\xs[i]?=some x/\ys[i]?=some y,
   λ i H v H'=>∃p xs ys x y,H p=none/\v=.ref p/\H'=upd H p (.tup [x,y])/\H l1=some (sqO b xs)/\H l2=some (sqO c ys)/\xs[i]?=some x/\ys[i]?=some y,
   λ i H=>∃xs ys,H l1=some (sqO b xs)/\H l2=some (sqO c ys)/\(xs.length<=i\/ys.length<=i)⟩
theorem rY{X:Cx}(bb cc:Bool){a b:Expr}{ta:TA}{p pos tp:Pos}{es:QT Expr}{kk:Nat}(hg:Gl X "zip")(hm:X.mg "zip" = none)(ha:PA X [a,b] ta)
  (hs:starEach [a,b] X.env=[(false,eval a X.env),(false,eval b X.env)]:=by rfl) (hs2:starEach [b] X.env=[(false,eval b X.env)]:=by rfl) :
  PI X (.Tuple es kk tp) (.Call (.Name "zip" p) [a,b] [] pos) (λ σ H R=>ta σ H λ vs H1=>∃l1 l2 xs ys,vs=[.ref l1,.ref l2]/\H1 l1=some (sqO bb xs)/\H1 l2=some (sqO cc ys)/\R (sqE bb cc l1 l2) H1):=by
 apply nu hg hm ha (by rw[hs,hs2]) (by rw[hs2];rfl) 1 ⋯ (λ vs hv=>?_) λ vs H1 R %[l1,l2,xs,ys,e,e1,e2|q]=>%[[(bb,l1),(cc,l2)],_,O,e,?_,q,?_,?_|?_]
 ·match vs,hv with
  | [x,y],_=>exact%[F.typeCall_zip_2 _ _,F.newCall_zip_2 _ _|λ obj=>F.args_object_init_3 obj _ _]
 ·simp only[J4,K9,Qw];rintro p (rfl | rfl)
  ·exact%[_|e1]
  ·exact%[_|e2]
 ·rintro i H ⟨xs,ys,x,y,a1,a2,a3,a4⟩;exact%[[x,y],%[%[_,a1|a3],%[_,a2|a4]|O]|O]
 ·rintro i H v H' ⟨p,vs,a0,rfl,rfl,r,hl⟩
  match vs,r,hl with
  | [x,y],⟨⟨xs,a1,a3⟩,⟨ys,a2,a4⟩,_⟩,_=>exact%[p,xs,ys,x,y,a0,O,O,a1,a2,a3|a4]
 ·rintro i H ⟨xs,ys,a1,a2,a3⟩
  by_cases h:xs.length<=i
  ·apply%[[],%[%[_,a1|h]|?_]|by simp];rintro q hq;cases E6.mp hq;exact%[_|a2]
  ·exact⟨[xs[i]'⋯],⟨%[_,a1|by simp],%[_,a2|by rcases a3 with a | a;lia;exact a],by simp⟩,by simp⟩
def zW(l1 l2:QP):It :=
  ⟨λ i H=>∃xs ys x y,H l1= ~~~xs/\H l2=↥ys/\xs[i]?=some x/\ys[i]?=some y,
   λ i H v H'=>∃p xs ys x y,H p=none/\v=.ref p/\H'=upd H p (.tup [x,y])/\H l1= ~~~xs/\H l2=↥ys/\xs[i]?=some x/\ys[i]?=some y,
   λ i H=>∃xs ys,H l1= ~~~xs/\H l2=↥ys/\(xs.length<=i\/ys.length<=i)⟩
def DH(ta:TA):TI:=λ σ H R=>ta σ H λ vs H1=>∃l1 l2 xs ys,vs=[.ref l1,.ref l2]/\H1 l1= ~~~xs/\H1 l2=↥ys/\R (zW l1 l2) H1
theorem rZ{X:Cx}{a b:Expr}{ta:TA}{p pos tp:Pos}{es:QT Expr}{kk:Nat}(hg:Gl X "zip")(hm:X.mg "zip" = none)(ha:PA X [a,b] ta)
  (hs:starEach [a,b] X.env=[(false,eval a X.env),(false,eval b X.env)]:=by rfl) (hs2:starEach [b] X.env=[(false,eval b X.env)]:=by rfl) :
  PI X (.Tuple es kk tp) (.Call (.Name "zip" p) [a,b] [] pos) (DH ta):=rY true false hg hm ha hs hs2
end L2
namespace PyProof.Rows
set_option autoImplicit false
open PySem
structure SBaseT(κ0:SortKind)(a₀:QS QQ)(st:SortSt):Prop where
 perm:(arrOf st).Perm a₀
 kind:kindOf st=κ0
 failed:failedOf st=none
 pend:pendingOf st=#[]
theorem SBaseT.size{κ0:SortKind}{a₀:QS QQ}{st:SortSt}(h:SBaseT κ0 a₀ st):(arrOf st).size=a₀.size:=h.perm.size_eq
theorem SBaseT.setArr{κ0:SortKind}{a₀:QS QQ}{st:SortSt}(h:SBaseT κ0 a₀ st){xs:QS QQ}(hp:xs.Perm (arrOf st)):SBaseT κ0 a₀ (setArr st xs) :=
 %[hp.trans h.perm,h.kind,h.failed|h.pend]
theorem SBaseT.atK{κ:KeyKind}{κ0:SortKind}{a₀:QS QQ}{st:SortSt}(h:SBaseT κ0 a₀ st)(h0:KeysOf κ a₀){i:Nat}(hi:i < a₀.size) :
  ∃x p a,(arrOf st)[i]?=some (x,p)/\κ.keyOf x=some a/\KK κ (arrOf st) i=a:=by
 have hi':i < (arrOf st).size:=by rw[h.size];exact hi
 have hm:(arrOf st)[i]∈a₀.toList:=(M8.mp h.perm).mem_iff.mp (by simp);obtain⟨a,ha⟩:=h0 _ hm;have e:(arrOf st)[i]?=some (arrOf st)[i]:=getElem?_pos _ i hi';apply%[(arrOf st)[i].1,(arrOf st)[i].2,a,by rw[e],ha|?_];unfold KK;rw[e];simp[ha]
def bo(prog:G1)(w:G3)(A:Around)(s:G0)(κ0:SortKind)(κ:KeyKind):Prop :=
 ∀(E:G4->G0->Prop)(x y:G4)(a b:κ.α)(Q:Bool->G0->Prop),κ.keyOf x=some a->κ.keyOf y=some b->Q (κ.blt a b) s->wpAny (model prog w) A (keyLt' κ0 x y) Q E s
section
variable{prog:G1}{w:G3}{A:Around}{E:G4->G0->Prop}{s:G0}{a₀:QS QQ}{κ:KeyKind}{κ0:SortKind}
theorem qL(hO:bo prog w A s κ0 κ){st:SortSt}{i j:Nat}{x y:G4}{a b:κ.α}{p q:G4}{Q:QR Bool->SortSt->Prop}(hk:kindOf st=κ0)
  (hi:(arrOf st)[i]?=some (x,p)) (hj:(arrOf st)[j]?=some (y,q)) (ha:κ.keyOf x=some a) (hb:κ.keyOf y=some b) (h:Q (some (κ.blt a b)) st) :
  wpS (model prog w) A E s (ltAt' i j) Q st:=by
 rw[ltAt'_eq];apply A4 (RI ?_);show wpS _ _ _ _ (do let x<-elem' (arrOf st) i;let y<-elem' (arrOf st) j;lt' x y) Q st;rw[elem'_eq,elem'_eq,hi,hj];apply A4 (A5 (A4 (A5 ?_)));rw[lt'_eq];apply A4 (RI ?_);rw[hk];apply A4 (wpS_lift (RJ (hO _ x y a b _ ha hb %[rfl|?_])));exact A5 h
theorem eL{st:SortSt}{i j:Nat}{Q:QR Bool->SortSt->Prop}(hO:bo prog w A s κ0 κ)(hB:SBaseT κ0 a₀ st)(h0:KeysOf κ a₀)(hi:i < a₀.size)(hj:j < a₀.size)
  (h:Q (some (κ.blt (KK κ (arrOf st) i) (KK κ (arrOf st) j))) st):wpS (model prog w) A E s (ltAt' i j) Q st:=by
 obtain⟨x,p,a,e1,ha,ka⟩:=hB.atK h0 hi;obtain⟨y,q,b,e2,hb,kb⟩:=hB.atK h0 hj;rw[ka,kb]at h;exact qL hO hB.kind e1 e2 ha hb h
theorem ja{st:SortSt}{n ok:Nat}{Q:Bool->SortSt->Prop}(hO:bo prog w A s κ0 κ)(h0:KeysOf κ a₀)(hn:n<=a₀.size)(hok:ok<=n)(hB:SBaseT κ0 a₀ st)(hs:SortedToK κ (arrOf st) ok)
  (h:∀st',SBaseT κ0 a₀ st'->SortedToK κ (arrOf st') n->Q true st'):wpS (model prog w) A E s (binarySort' 0 n ok) Q st:=by
 rw[binarySort'_eq];simp only[QK];apply A4 (Qm (Qe (I:=λ k c st'=>c=(none,())/\SBaseT κ0 a₀ st'/\SortedToK κ (arrOf st') (min k n))
  (Q:=λ c st'=>c=(none,())/\SBaseT κ0 a₀ st'/\SortedToK κ (arrOf st') n) ?step ?fin ?init) ?post)
 case post=>
  rintro c st' ⟨rfl,hB',hs'⟩;exact A5 (h st' hB' hs')
 case init=>
  apply%[O,hB|λ i j hij hj=>?_]
  by_cases h1:ok=0
  ·have:i=j:=⋯
   subst this;exact Qt _
  ·exact hs i j hij ⋯
 case fin=>
  rintro c st' ⟨hc,hB',hs'⟩;apply%[hc,hB'|?_];rwa [show min (max (max ok 1) n) n=n by lia]at hs'
 case step=>
  rintro k c st' hak hkn ⟨rfl,hB',hs'⟩;rw[show min k n=k by lia]at hs';have hk:k < a₀.size:=⋯
  apply A4 (Qm (Qe (I:=λ x c st''=>st''=st'/\∃l r,c=(none,l,r)/\l<=r/\r<=k/\r - l<=k - x /\
    (∀i,i < l->κ.kle (KK κ (arrOf st') i) (KK κ (arrOf st') k))/\(∀i,r<=i->i < k->κ.klt (KK κ (arrOf st') k) (KK κ (arrOf st') i)))
   (Q:=λ c st''=>st''=st'/\∃l r,c=(none,l,r)/\l<=k /\
    (∀i,i < l->κ.kle (KK κ (arrOf st') i) (KK κ (arrOf st') k))/\(∀i,l<=i->i < k->κ.klt (KK κ (arrOf st') k) (KK κ (arrOf st') i))) ?istep ?ifin ?iinit) ?ipost)
  case iinit=>exact%[O,0,k,O,⋯,⋯,⋯,λ i hi=>⋯|λ i h1 h2=>⋯]
  case ifin=>
   rintro c st'' ⟨rfl,l,r,rfl,hlr,hrk,hm,hlo,hhi⟩;have:l=r:=⋯
   subst this;exact%[O,l,l,O,hrk,hlo|hhi]
  case istep=>
   rintro x c st'' _ hxk ⟨rfl,l,r,rfl,hlr,hrk,hm,hlo,hhi⟩;dsimp only
   by_cases hge:l≥r
   ·rw[Qa hge];have:l=r:=⋯
    subst this;exact A5 %[rfl,l,l,rfl,hrk,hlo|hhi]
   ·rw[QZ hge];apply A4 (eL hO hB' h0 hk ⋯ ?_);cases hless:κ.blt (KK κ (arrOf st'') k) (KK κ (arrOf st'') ((l+r) / 2))
    case true=>
     simp only[RL];apply A5 %[rfl,l,(l+r) / 2,rfl,⋯,⋯,⋯,hlo|λ i h1 h2=>?_];exact KeyOrd.klt_of_klt_of_kle hless (hs' _ _ h1 h2)
    case false=>
     simp only[M6,Qv];apply A5 %[rfl,(l+r) / 2+1,r,rfl,⋯,⋯,⋯,λ i h1=>?_|hhi];exact KeyOrd.kle_trans (hs' i ((l+r) / 2) ⋯ ⋯) (show κ.kle _ _ from hless)
  case ipost=>
   rintro c st'' ⟨rfl,l,r,rfl,hlk,hlo,hhi⟩;show wpS _ _ _ _ (do moveDown' k l;pure (ForInStep.yield (none,()))) _ _;rw[moveDown'_eq];apply A4 (Qy (A5 %[rfl,hB'.setArr (bubble_perm _ _ _)|?_]));rw[show min (k+1) n=k+1 by lia];have hks:k < (arrOf st'').size:=by rw[hB'.size];exact hk
   intro i j hij hj;show κ.kle (KK κ (bubble (arrOf st'') k (k - l)) i) (KK κ (bubble (arrOf st'') k (k - l)) j);rw[KK_bubble hks ⋯,KK_bubble hks ⋯,show k - (k - l)=l by lia]
   repeat' split
   all_goals first
    | (exfalso;lia)
    | exact Qt _
    | exact hlo _ ⋯
    | exact KeyOrd.kle_of_klt (hhi _ ⋯ ⋯)
    | exact hs' _ _ ⋯ ⋯
theorem gL{st:SortSt}{a nrem:Nat}{Q:AscSt->SortSt->Prop}(hO:bo prog w A s κ0 κ)(h0:KeysOf κ a₀)(hn:nrem<=a₀.size)(ha:1<=a)(han:a<=nrem)(hB:SBaseT κ0 a₀ st)
  (hs:SortedToK κ (arrOf st) a)
  (h:∀n,a<=n->n<=nrem->SortedToK κ (arrOf st) n->(n=nrem\/κ.klt (KK κ (arrOf st) n) (KK κ (arrOf st) (n - 1)))->Q (none,n) st) :
  wpS (model prog w) A E s (ascLoop a nrem) Q st:=by
 unfold ascLoop;apply Qe (I:=λ x c st'=>st'=st/\c=(none,x)/\SortedToK κ (arrOf st) x) ?step ?fin %[rfl,rfl|hs]
 case fin=>
  rintro c st' ⟨rfl,rfl,hs'⟩;rw[show max a nrem=nrem by lia]at hs' ⊢;exact h nrem han (B4 _) hs' (.inl rfl)
 case step=>
  rintro x c st' hax hxn ⟨rfl,rfl,hs'⟩;dsimp only;apply A4 (eL hO hB h0 ⋯ ⋯ ?_);cases hless:κ.blt (KK κ (arrOf st') x) (KK κ (arrOf st') (x - 1))
  case true=>
   simp only[RL];exact A5 (h x hax ⋯ hs' (.inr hless))
  case false=>
   simp only[M6,Qv];apply A5 %[rfl,rfl|λ i j hij hj=>?_]
   by_cases hjx:j < x
   ·exact hs' i j hij hjx
   ·have hj':j=x:=⋯
    subst hj'
    by_cases hi':i=j
    ·subst hi';exact Qt _
    ·exact KeyOrd.kle_trans (hs' i (j - 1) ⋯ ⋯) hless
theorem js{st:SortSt}{n nrem:Nat}{Q:QR Nat->SortSt->Prop}(hO:bo prog w A s κ0 κ)(h0:KeysOf κ a₀)(hn:nrem<=a₀.size)(h1:1<=n)(hnn:n<=nrem)(hB:SBaseT κ0 a₀ st)
  (hs:NonIncK κ (arrOf st) n) (h:∀m st',SBaseT κ0 a₀ st'->1<=m->m<=nrem->SortedToK κ (arrOf st') m->Q (some m) st') :
  wpS (model prog w) A E s (tail3 n nrem) Q st:=by
 unfold tail3;have hsz:n<=(arrOf st).size:=by rw[hB.size];lia
 apply A4 (wpS_reverse ?_);have hB':SBaseT κ0 a₀ (setArr st (mirror (arrOf st) 0 n ((n - 0) / 2))):=hB.setArr (mirror_perm _ _ _ _);apply A4 (gL hO h0 hn h1 hnn hB' ?_ λ m hm1 hm2 hsm _=>A5 (h m _ hB' ⋯ hm2 hsm));intro i j hij hj;show κ.kle (KK κ (mirror (arrOf st) 0 n ((n - 0) / 2)) i) (KK κ (mirror (arrOf st) 0 n ((n - 0) / 2)) j);rw[KK_mirror hsz,KK_mirror hsz,Qa ⋯,Qa ⋯];exact hs _ _ ⋯ ⋯
theorem kr{st:SortSt}{n nrem:Nat}{Q:DescSt->SortSt->Prop}(hO:bo prog w A s κ0 κ)(h0:KeysOf κ a₀)(hn:nrem<=a₀.size)(h1:1<=n)(hnn:n<=nrem)(hB:SBaseT κ0 a₀ st)
  (hs:NonIncK κ (arrOf st) n)
  (h:∀m neq st',SBaseT κ0 a₀ st'->n<=m->m<=nrem->NonIncK κ (arrOf st') m->neq+1<=m->(∀i,m - (neq+1)<=i->i < m->KK κ (arrOf st') i=KK κ (arrOf st') (m - 1))->Q (none,m,neq) st') :
  wpS (model prog w) A E s (descLoop n nrem) Q st:=by
 unfold descLoop;apply Qe (I:=λ x c st'=>∃neq,c=(none,x,neq)/\SBaseT κ0 a₀ st'/\NonIncK κ (arrOf st') x/\neq+1<=x /\
   (∀i,x - (neq+1)<=i->i < x->KK κ (arrOf st') i=KK κ (arrOf st') (x - 1))) ?step ?fin %[0,rfl,hB,hs,⋯|λ i h1 h2=>by congr 1;lia]
 case fin=>
  rintro c st' ⟨neq,rfl,hB',hs',hq,he⟩;rw[show max n nrem=nrem by lia]at hs' hq he ⊢;exact h nrem neq st' hB' hnn (B4 _) hs' hq he
 case step=>
  rintro x c st' hax hxn ⟨neq,rfl,hB',hs',hq,he⟩;dsimp only;have hsz:x<=(arrOf st').size:=by rw[hB'.size];lia
  apply A4 (eL hO hB' h0 ⋯ ⋯ ?_);cases hless:κ.blt (KK κ (arrOf st') x) (KK κ (arrOf st') (x - 1))
  case true=>
   simp only[RL];have step1:∀xs:QS QQ,(∀k,KK κ xs k=KK κ (arrOf st') k)->NonIncK κ xs (x+1):=by
    intro xs hk i j hij hj;rw[hk,hk]
    by_cases hjx:j < x
    ·exact hs' i j hij hjx
    ·have hj':j=x:=⋯
     subst hj'
     by_cases hi':i=j
     ·subst hi';exact Qt _
     ·exact KeyOrd.kle_trans (KeyOrd.kle_of_klt hless) (hs' i (j - 1) ⋯ ⋯)
   by_cases hneq:neq > 0
   ·rw[Qa hneq];apply A4 (wpS_reverse (A5 %[0,rfl,hB'.setArr (mirror_perm _ _ _ _),step1 _ (KK_mirror_equal hsz he),⋯|λ i h1 h2=>by congr 1;lia]))
   ·rw[QZ hneq];exact A5 %[0,rfl,hB',step1 _ (λ _=>rfl),⋯|λ i h1 h2=>by congr 1;lia]
  case false=>
   simp only[M6,Qv];apply A4 (eL hO hB' h0 ⋯ ⋯ ?_);cases hlarger:κ.blt (KK κ (arrOf st') (x - 1)) (KK κ (arrOf st') x)
   case true=>
    simp only[RL];exact A5 (h x neq st' hB' hax ⋯ hs' hq he)
   case false=>
    simp only[M6,Qv];have heqx:KK κ (arrOf st') x=KK κ (arrOf st') (x - 1):=KeyOrd.kle_antisymm hlarger hless;apply A5 %[neq+1,rfl,hB',λ i j hij hj=>?_,⋯|λ i h1 h2=>?_]
    ·by_cases hjx:j < x
     ·exact hs' i j hij hjx
     ·have hj':j=x:=⋯
      subst hj'
      by_cases hi':i=j
      ·subst hi';exact Qt _
      ·rw[heqx];exact hs' i (j - 1) ⋯ ⋯
    ·rw[show x+1 - 1=x by lia]
     by_cases hix:i=x
     ·subst hix;rfl
     ·rw[heqx];exact he i ⋯ ⋯
theorem fW{st:SortSt}{n nrem:Nat}{Q:QR Nat->SortSt->Prop}(hO:bo prog w A s κ0 κ)(h0:KeysOf κ a₀)(hn:nrem<=a₀.size)(hnn:n+1<=nrem)(hB:SBaseT κ0 a₀ st)
  (hs:NonIncK κ (arrOf st) (n+1)) (h:∀m st',SBaseT κ0 a₀ st'->1<=m->m<=nrem->SortedToK κ (arrOf st') m->Q (some m) st') :
  wpS (model prog w) A E s (descPart n nrem) Q st:=by
 unfold descPart;apply A4 (wpS_lift (Qs %[rfl|?_]));apply A4 (kr hO h0 hn ⋯ hnn hB hs λ m neq st' hB' hm1 hm2 hs' hq he=>?_);dsimp only;have hsz:m<=(arrOf st').size:=by rw[hB'.size];lia
 by_cases hneq:neq > 0
 ·rw[Qa hneq];apply A4 (wpS_reverse (js hO h0 hn ⋯ hm2 (hB'.setArr (mirror_perm _ _ _ _)) ?_ h));intro i j hij hj;show κ.kle (KK κ (mirror (arrOf st') _ _ _) j) (KK κ (mirror (arrOf st') _ _ _) i);rw[KK_mirror_equal hsz he,KK_mirror_equal hsz he];exact hs' i j hij hj
 ·rw[QZ hneq];exact js hO h0 hn ⋯ hm2 hB' hs' h
theorem ky{st:SortSt}{nrem:Nat}{Q:QR Nat->SortSt->Prop}(hO:bo prog w A s κ0 κ)(h0:KeysOf κ a₀)(hn:nrem<=a₀.size)(h1:1<=nrem)(hB:SBaseT κ0 a₀ st)
  (h:∀m st',SBaseT κ0 a₀ st'->1<=m->m<=nrem->SortedToK κ (arrOf st') m->Q (some m) st') :
  wpS (model prog w) A E s (countRun' 0 nrem) Q st:=by
 rw[countRun0_eq];apply A4 (gL hO h0 hn (B4 1) h1 hB (λ i j hij hj=>by have:i=j:=⋯;subst this;exact Qt _) λ n hn1 hn2 hsn hor=>?_);dsimp only
 by_cases hnn:n=nrem
 ·rw[Qa (by simpa using hnn)];exact A5 (h n st hB hn1 hn2 hsn)
 ·rw[QZ (by simpa using hnn)];have hlt:κ.klt (KK κ (arrOf st) n) (KK κ (arrOf st) (n - 1)):=hor.resolve_left hnn
  by_cases hgt:n > 1
  ·rw[Qa hgt];apply A4 (eL hO hB h0 ⋯ ⋯ ?_);cases hrose:κ.blt (KK κ (arrOf st) 0) (KK κ (arrOf st) (n - 1))
   case true=>
    simp only[RL];exact A5 (h n st hB hn1 hn2 hsn)
   case false=>
    simp only[M6,Qv];have hsz:n<=(arrOf st).size:=by rw[hB.size];lia
    have hall:∀k,0<=k->k < n->KK κ (arrOf st) k=KK κ (arrOf st) (n - 1):=by intro k _ hk;have a1:=hsn 0 k ⋯ hk;have a2:=hsn k (n - 1) ⋯ ⋯;exact KeyOrd.kle_antisymm a2 (KeyOrd.kle_trans hrose a1)
    apply A4 (wpS_reverse (fW hO h0 hn ⋯ (hB.setArr (mirror_perm _ _ _ _)) ?_ h));intro i j hij hj;show κ.kle (KK κ (mirror (arrOf st) _ _ _) j) (KK κ (mirror (arrOf st) _ _ _) i);rw[KK_mirror_equal hsz hall,KK_mirror_equal hsz hall]
    by_cases hjn:j < n
    ·rw[hall i ⋯ ⋯,hall j ⋯ hjn];exact Qt _
    ·have hj':j=n:=⋯
     subst hj'
     by_cases hi':i=j
     ·subst hi';exact Qt _
     ·rw[hall i ⋯ ⋯];exact KeyOrd.kle_of_klt hlt
  ·rw[QZ hgt];have hn1':n=1:=⋯
   subst hn1';apply fW hO h0 hn ⋯ hB ?_ h;intro i j hij hj
   by_cases hi':i=j
   ·subst hi';exact Qt _
   ·have hi0:i=0:=⋯
    have hj1:j=1:=⋯
    subst hi0;subst hj1;exact KeyOrd.kle_of_klt hlt
theorem SBaseT.doneK{st:SortSt}(hB:SBaseT κ0 a₀ st)(hs:SortedToK κ (arrOf st) a₀.size):SDoneK κ a₀ (setPending st ((pendingOf st).push (0,a₀.size,0))) :=
 %[hB.perm,hB.failed,by show(pendingOf st).push _=_;rw[hB.pend];rfl|hs]
theorem kA{st:SortSt}{Q:Unit->SortSt->Prop}(hO:bo prog w A s κ0 κ)(h0:KeysOf κ a₀)(hB:SBaseT κ0 a₀ st)(h2:2<=a₀.size)(h64:a₀.size < 64)
  (h:∀st',(arrOf st').Perm a₀->failedOf st'=none->SortedToK κ (arrOf st') a₀.size->Q () st'):wpS (model prog w) A E s sortRuns' Q st:=by
 rw[sortRuns'_eq];apply A4 (RI ?_);dsimp only;have hmr:minRun' a₀.size a₀.size 0=a₀.size:=by
  obtain⟨f,hf⟩:∃f,a₀.size=f+1:=%[a₀.size - 1|⋯]
  have:minRun' (f+1) a₀.size 0=a₀.size:=by rw[minRun'_succ,Qa h64];rfl
  rwa [<- hf]at this
 simp only[hB.size,hmr];apply A4 (Qm (Qe
  (I:=λ x c st'=>(x=0/\c=(none,0)/\SBaseT κ0 a₀ st')\/(1<=x/\c=(none,a₀.size)/\SDoneK κ a₀ st'))
  (Q:=λ c st'=>c=(none,a₀.size)/\SDoneK κ a₀ st') ?step ?fin (.inl %[O,O|hB])) ?post)
 case fin=>
  rintro c st' (⟨hx,_,_⟩ | ⟨_,hc,hD⟩)
  ·lia
  ·exact%[hc|hD]
 case step=>
  rintro x c st' _ hx (⟨rfl,rfl,hB'⟩ | ⟨hx1,rfl,hD⟩)
  ·dsimp only;rw[QZ ⋯];simp only[Nat.sub_zero,Nat.min_self,QK];apply A4 (ky hO h0 (B4 _) ⋯ hB' λ m st2 hB2 hm1 hm2 hs2=>?_);dsimp only
   by_cases hlt:m < a₀.size
   ·rw[Qa hlt];apply A4 (wpS_lift (Qs %[rfl|?_]));apply A4 (ja hO h0 (B4 _) hm2 hB2 hs2 λ st3 hB3 hs3=>?_);simp only[Bool.not_true,M6,Qv];apply A4 (RI ?_);have hb:(pendingOf st3).back?=none:=by rw[hB3.pend];rfl
    rw[hb];dsimp only;exact A4 (Qy (A5 (.inr %[⋯,O|hB3.doneK hs3])))
   ·rw[QZ hlt];have hm:m=a₀.size:=⋯
    subst hm;apply A4 (RI ?_);have hb:(pendingOf st2).back?=none:=by rw[hB2.pend];rfl
    rw[hb];dsimp only;exact A4 (Qy (A5 (.inr %[⋯,O|hB2.doneK hs2])))
  ·dsimp only;rw[Qa (B4 _)];exact A5 %[rfl|hD]
 case post=>
  rintro c st' ⟨rfl,hD⟩;dsimp only;apply A4 (Qm (Qe (I:=λ _ c st''=>st''=st'/\c=(none,())) (Q:=λ c st''=>st''=st'/\c=(none,())) ?_ (λ _ _ hh=>hh) %[rfl|rfl]) ?_)
  ·rintro x c st'' _ _ ⟨rfl,rfl⟩;apply A4 (RI ?_);rw[Qa (by rw[hD.2.2.1];exact B4 1)];exact A5 %[rfl|rfl]
  ·rintro c st'' ⟨rfl,rfl⟩;exact A5 (h _ hD.1 hD.2.1 hD.2.2.2)
end
section
variable{prog:G1}{w:G3}{A:Around}{E:G4->G0->Prop}{s:G0}
theorem jy{κ:KeyKind}{κ0:SortKind}{a:QP}{vs:QT G4}{n:Nat}{P:Fin->G0->Prop}(ho:s.heap.get? a=some (seqObj "list" vs.toArray n))
  (h0:KeysOf κ (pairsOf vs)) (hkk:∀s':G0,(∀b o,b≠a->s.heap.get? b=some o->s'.heap.get? b=some o)->bo prog w A s' κ0 κ/\∀v₁ v₂ rest,vs=v₁ :: v₂ :: rest->∀(Q:SortKind->G0->Prop),Q κ0 s'->wpAny (model prog w) A (keyKind' (v₁ :: v₂ :: rest).toArray) Q E s') (h64:vs.length < 64)
  (h:∀st':SortSt,(arrOf st').Perm (pairsOf vs)->SortedToK κ (arrOf st') (pairsOf vs).size->P (.done (.ret .none)) { s with heap:=sortedHeap s.heap a vs ((arrOf st').map (·.2)) }) :
  wpAny (model prog w) A (Builtin.«list.sort» %[[.ref a]|[]]) P E s:=by
 rw[list_sort_plain];have ha:a < s.heap.objs.size:=B0 ho;apply A0 (listItems_at ho rfl ?_);apply A0 (listUpdate_at ho rfl ?_);obtain⟨e1,ho1⟩:∃e1,(s.heap.update a (Obj.mapSeq λ _=>#[])).get? a=some (seqObj "list" #[] e1):=%[_|get?_update_seq ho (λ _=>#[])]
 apply A0 (seqEpoch_at ho1 rfl ?_);apply A0 (wpAny_newTuple ?_);apply A0 (wpAny_newList ?_);apply Qh ?_;have ho6:(((s.heap.update a (Obj.mapSeq λ _=>#[])).push (seqObj "tuple" vs.toArray 0)).push (seqObj "list" #[] 0)).get? a=some (seqObj "list" #[] e1):=by rw[Heap.get?_push_ne _ _ _ (by rw[size_push',Heap.size_update];exact C1 (PM ha)),Heap.get?_push_ne _ _ _ (by rw[Heap.size_update];exact C1 ha)];exact ho1
 show wpAny (model prog w) A _ P E { s with heap:=((s.heap.update a (Obj.mapSeq λ _=>#[])).push (seqObj "tuple" vs.toArray 0)).push (seqObj "list" #[] 0) };dsimp only;have hsz:vs.toArray.size=vs.length:=by simp
 have fin:=h
 by_cases h2:vs.toArray.size < 2
 ·rw[Qa h2,Qa h2];apply A0 (A3 ?_);rw[StateT.run_pure];apply A0 (A3 ?_);dsimp only;apply A0 (seqEpoch_at ho6 rfl ?_);apply A0 (listUpdate_at ho6 rfl ?_ (hsz2:=by rw[Array.size_map];show(pairsOf vs).size<=_;rw[pairsOf_size,RN];lia));simp only[bne_self_eq_false,M6,Qv];apply A3 (fin (SortSt.mk' general' (vs.toArray.zip vs.toArray) #[] 7 none) (Array.Perm.refl _) ?_);intro i j hij hj;have:i=j:=by rw[pairsOf_size]at hj;lia
  subst this;exact Qt _
 ·rw[QZ h2,QZ h2];obtain⟨v₁,v₂,rest,rfl⟩:∃v₁ v₂ rest,vs=v₁ :: v₂ :: rest:=by
   match vs,hsz,h2 with
   | [],_,h2=>simp at h2
   | [_],_,h2=>simp at h2
   | v₁ :: v₂ :: rest,_,_=>exact%[v₁,v₂,rest|O]
  have kp:∀b o,b≠a->s.heap.get? b=some o->(((s.heap.update a (Obj.mapSeq λ _=>#[])).push (seqObj "tuple" (v₁ :: v₂ :: rest).toArray 0)).push (seqObj "list" #[] 0)).get? b=some o:=λ b o nb e=>
   A8 _ (A8 _ (by rw[Heap.get?_update_ne _ _ _ _ nb];exact e))
  obtain⟨hO,hK⟩:=hkk { s with heap:=((s.heap.update a (Obj.mapSeq λ _=>#[])).push (seqObj "tuple" (v₁ :: v₂ :: rest).toArray 0)).push (seqObj "list" #[] 0) } kp;apply A0 (hK _ _ _ rfl _ ?_);apply A0 (Ql (kA (κ:=κ) (κ0:=κ0) hO (a₀:=pairsOf (v₁ :: v₂ :: rest)) (st:=SortSt.mk' κ0 ((v₁ :: v₂ :: rest).toArray.zip (v₁ :: v₂ :: rest).toArray) #[] 7 none)
   (Q:=λ _ st'=>(arrOf st').Perm (pairsOf (v₁ :: v₂ :: rest))/\failedOf st'=none/\SortedToK κ (arrOf st') (pairsOf (v₁ :: v₂ :: rest)).size)
   h0 %[Array.Perm.refl _,rfl,rfl|rfl] (by rw[pairsOf_size];simp) (by rw[pairsOf_size];exact h64) λ st' a1 a2 a3=>%[a1,a2|a3]) ?_ λ _ _ e=>e)
  rintro⟨⟨⟩,st'⟩ s' ⟨rfl,hp,hf,hs⟩;dsimp only;apply A0 (seqEpoch_at ho6 rfl ?_);apply A0 (listUpdate_at ho6 rfl ?_ (hsz2:=by apply C7 (QM ((Array.size_map ..).trans (hp.size_eq.trans (pairsOf_size _)))) ?_;rw[RN];lia));rw[hf];simp only[bne_self_eq_false,M6,Qv];exact A3 (fin st' hp hs)
end
end PyProof.Rows
namespace L2
open PySem PySem.Spec PyProof.Rows
def cF:QT Bool->QT G4->QR SW
 | [],[]=>some []
 | false :: r,.int i _ :: vs=>(cF r vs).map (i :: ·)
 | true :: r,.bool b :: vs=>(cF r vs).map ((if b=true then 1 else 0) :: ·)
 | _,_=>none
def iq:QT Bool->QT V->QR SW
 | [],[]=>some []
 | false :: r,.int i :: vs=>(iq r vs).map (i :: ·)
 | true :: r,.bl b :: vs=>(iq r vs).map ((if b=true then 1 else 0) :: ·)
 | _,_=>none
theorem qM:∀{sh:QT Bool}{vs:QT V}{us:QT G4}{k:SW},Vals vs us->iq sh vs=some k->cF sh us=some k
 | [],[],_,_,r,h=>by cases r;exact h
 | [],_ :: _,_,_,_,h=>by cases h
 | false :: r,v :: vs,us,k,rv,h=>by
  cases rv with
  | cons r1 r2=>
   cases v with
   | int i=>
    obtain⟨t,rfl⟩:=r1;have h:(iq r vs).map (i :: ·)=some k:=h;show(cF r _).map (i :: ·)=some k;cases e:iq r vs with
    | none=>rw[e]at h;cases h
    | some k'=>rw[e]at h;rw[qM r2 e];exact h
   | _=>cases h
 | true :: r,v :: vs,us,k,rv,h=>by
  cases rv with
  | cons r1 r2=>
   cases v with
   | bl b=>
    cases(show _=Value.bool b from r1);have h:(iq r vs).map ((if b=true then 1 else 0) :: ·)=some k:=h;show(cF r _).map ((if b=true then 1 else 0) :: ·)=some k;cases e:iq r vs with
    | none=>rw[e]at h;cases h
    | some k'=>rw[e]at h;rw[qM r2 e];exact h
   | _=>cases h
 | false :: _,[],_,_,_,h=>by cases h
 | true :: _,[],_,_,_,h=>by cases h
def cG:SW->SW->Bool
 | [],[]=>false
 | [],_ :: _=>true
 | _ :: _,[]=>false
 | a :: r,b :: t=>if a=b then cG r t else decide (a < b)
theorem gX:∀a,cG a a=false
 | []=>rfl
 | a :: r=>by rw[cG,Qa rfl];exact gX r
theorem jb:∀a b c,cG a b=true->cG b c=true->cG a c=true
 | [],[],_,h,_=>by cases h
 | [],_ :: _,[],_,h=>by cases h
 | [],_ :: _,_ :: _,_,_=>rfl
 | _ :: _,[],_,h,_=>by cases h
 | _ :: _,_ :: _,[],_,h=>by cases h
 | a :: r,b :: t,c :: u,h1,h2=>by
  rw[cG]at h1 h2 ⊢
  by_cases e1:a=b
  ·rw[Qa e1]at h1
   by_cases e2:b=c
   ·rw[Qa e2]at h2;rw[Qa (e1.trans e2)];exact jb r t u h1 h2
   ·rw[QZ e2]at h2;rw[QZ (by rw[e1];exact e2),e1];exact h2
  ·rw[QZ e1]at h1;have h1:=C2 h1
   by_cases e2:b=c
   ·rw[QZ ⋯];exact B1 ⋯
   ·rw[QZ e2]at h2;have h2:=C2 h2;rw[QZ ⋯];exact B1 ⋯
theorem nv:∀a b c,cG a c=true->cG a b=true\/cG b c=true
 | [],[],_,h=>.inr h
 | [],_ :: _,_,_=>.inl rfl
 | _ :: _,_,[],h=>by cases h
 | _ :: _,[],_ :: _,_=>.inr rfl
 | a :: r,b :: t,c :: u,h=>by
  rw[cG]at h;rw[cG,cG]
  by_cases e1:a=b
  ·rw[Qa e1]
   by_cases e2:b=c
   ·rw[Qa (e1.trans e2)]at h;rw[Qa e2];exact nv r t u h
   ·rw[QZ (by rw[e1];exact e2)]at h;rw[QZ e2];exact .inr (by rw[<- e1];exact h)
  ·rw[QZ e1]
   by_cases e3:a=c
   ·rw[QZ ⋯]
    by_cases z:a < b
    ·exact .inl (B1 z)
    ·exact .inr (B1 ⋯)
   ·rw[QZ e3]at h;have h:=C2 h
    by_cases z:a < b
    ·exact .inl (B1 z)
    ·rw[QZ ⋯];exact .inr (B1 ⋯)
theorem jc:∀a b,cG a b=false->cG b a=false->a=b
 | [],[],_,_=>rfl
 | [],_ :: _,h,_=>by cases h
 | _ :: _,[],_,h=>by cases h
 | a :: r,b :: t,h1,h2=>by
  rw[cG]at h1 h2
  by_cases e:a=b
  ·rw[Qa e]at h1;rw[Qa e.symm]at h2;rw[e,jc r t h1 h2]
  ·rw[QZ e]at h1;rw[QZ (Ne.symm e)]at h2;have:=of_decide_eq_false h1;have:=of_decide_eq_false h2;exact absurd (show a=b by lia) e
def uj(h:Heap)(sh:QT Bool):KeyKind where
 α:=SW
 blt:=cG
 irrefl:=gX
 trans:=jb
 negTrans:=nv
 total:=jc
 keyOf:=λ v=>match v with
  | .ref a=>match h.get? a with
   | some o=>match o.data with
    | .seq xs _=>cF sh xs.toList
    | _=>none
   | none=>none
  | _=>none
 dflt:=[]
theorem sd{h:Heap}{sh:QT Bool}{v:G4}{k:SW}(e:(uj h sh).keyOf v=some k):∃a o xs n,v=.ref a/\h.get? a=some o/\o.data=.seq xs n/\cF sh xs.toList=some k:=by
 cases v with
 | ref a=>
  have e:(match h.get? a with
   | some o=>match o.data with
    | .seq xs _=>cF sh xs.toList
    | _=>none
   | none=>none)=some k:=e
  cases h1:h.get? a with
  | none=>rw[h1]at e;cases e
  | some o=>
   rw[h1]at e;cases h2:o.data with
   | seq xs n=>
    have e:(match o.data with
     | .seq xs _=>cF sh xs.toList
     | _=>none)=some k:=e
    rw[h2]at e;exact%[a,o,xs,n,O,h1,h2|e]
   | _=>
    have e:(match o.data with
     | .seq xs _=>cF sh xs.toList
     | _=>none)=some k:=e
    rw[h2]at e;cases e
 | _=>cases e
theorem ix:∀{sh:QT Bool}{us:QT G4}{k:SW},cF sh us=some k->us.length=sh.length
 | [],[],_,_=>rfl
 | [],_ :: _,_,h=>by cases h
 | false :: r,[],_,h=>by cases h
 | true :: r,[],_,h=>by cases h
 | false :: r,v :: vs,k,h=>by
  cases v with
  | int i t=>
   have h:(cF r vs).map (i :: ·)=some k:=h;cases e:cF r vs with
   | none=>rw[e]at h;cases h
   | some k'=>rw[K1,K1,ix e]
  | _=>cases h
 | true :: r,v :: vs,k,h=>by
  cases v with
  | bool b=>
   have h:(cF r vs).map ((if b=true then 1 else 0) :: ·)=some k:=h;cases e:cF r vs with
   | none=>rw[e]at h;cases h
   | some k'=>rw[K1,K1,ix e]
  | _=>cases h
section
variable{prog:G1}{w:G3}{A:Around}{E:G4->G0->Prop}{s:G0}
theorem oB{a b:Bool}{Q:Bool->G0->Prop}(h:Q (a == b) s):wpAny (model prog w) A (eqBool (.bool a) (.bool b)) Q E s:=by
 unfold eqBool;show wpAny _ _ (if (Value.bool a == Value.bool b)=true then _ else _) Q E s
 by_cases hab:(Value.bool a == Value.bool b)=true
 ·rw[Qa hab];have e:a=b:=by have:=eq_of_beq hab;injection this
  subst e;exact A0 (Qs (A3 (by simpa using h)))
 ·rw[QZ hab];exact A0 (eq_bool (F6 h))
theorem nw{bb:Bool}{Q:Bool->G0->Prop}:∀(sh:QT Bool)(xs ys:QT G4)(a c:SW)(i:Nat),cF sh xs=some a->cF sh ys=some c->((bb && i == 0)=true->sh.head?=some false\/sh=[])->Q (cG a c) s->PySem.W.KatLex prog w A bb false Q (xs.zip ys) i s
 | [],[],[],a,c,i,h1,h2,_,q=>by cases h1;cases h2;exact PySem.W.kat_nil q
 | [],_ :: _,_,_,_,_,h,_,_,_=>by cases h
 | [],[],_ :: _,_,_,_,_,h,_,_=>by cases h
 | false :: r,[],_,_,_,_,h,_,_,_=>by cases h
 | true :: r,[],_,_,_,_,h,_,_,_=>by cases h
 | false :: r,_ :: _,[],_,_,_,_,h,_,_=>by cases h
 | true :: r,_ :: _,[],_,_,_,_,h,_,_=>by cases h
 | false :: r,v :: vs,u :: us,a,c,i,h1,h2,hb,q=>by
  cases v with
  | int p t=>cases u with
   | int p' t'=>
    have h1:(cF r vs).map (p :: ·)=some a:=h1;have h2:(cF r us).map (p' :: ·)=some c:=h2;cases e1:cF r vs with
    | none=>rw[e1]at h1;cases h1
    | some a'=>
     cases e2:cF r us with
     | none=>rw[e2]at h2;cases h2
     | some c'=>
      rw[e1]at h1;rw[e2]at h2;cases h1;cases h2;rw[cG]at q;apply PySem.W.kat_cons (wpAny_eqBool_int (PySem.W.kat_go (λ e=>PySem.W.kat_yes ?_) (λ e=>PySem.W.kat_no ?_)))
      ·rw[Qa (by simpa using e)]at q;exact nw r vs us a' c' (i+1) e1 e2 (λ z=>by simp at z) q
      ·rw[QZ (by simpa using e)]at q;cases z:(bb && i == 0)with
       | true=>exact oneLt_int q
       | false=>exact PySem.W.kat_one _ _ (PyProof.Rows.lt_int q)
   | _=>cases h2
  | _=>cases h1
 | true :: r,v :: vs,u :: us,a,c,i,h1,h2,hb,q=>by
  cases v with
  | bool p=>cases u with
   | bool p'=>
    have h1:(cF r vs).map ((if p=true then 1 else 0) :: ·)=some a:=h1;have h2:(cF r us).map ((if p'=true then 1 else 0) :: ·)=some c:=h2;cases e1:cF r vs with
    | none=>rw[e1]at h1;cases h1
    | some a'=>
     cases e2:cF r us with
     | none=>rw[e2]at h2;cases h2
     | some c'=>
      rw[e1]at h1;rw[e2]at h2;cases h1;cases h2;rw[cG]at q;apply PySem.W.kat_cons (oB (PySem.W.kat_go (λ e=>PySem.W.kat_yes ?_) (λ e=>PySem.W.kat_no ?_)))
      ·have e:p=p':=by simpa using e
       rw[Qa (by rw[e])]at q;exact nw r vs us a' c' (i+1) e1 e2 (λ z=>by simp at z) q
      ·have e:p≠p':=by simpa using e
       rw[QZ (by cases p <;> cases p' <;> simp_all)]at q;cases z:(bb && i == 0)with
       | true=>rcases hb z with z | z <;> cases z
       | false=>
        apply PySem.W.kat_one _ _ (PyProof.Rows.lt_bool ?_);show Q (decide (b2i p < b2i p')) s;rw[show decide (b2i p < b2i p')=decide ((if p=true then(1:Int)else 0) < (if p'=true then 1 else 0))by cases p <;> cases p' <;> rfl];exact q
   | _=>cases h2
  | _=>cases h1
theorem uk{h:Heap}{sh:QT Bool}(h0:sh.head?=some false)(k:∀b o,h.get? b=some o->s.heap.get? b=some o):bo prog w A s (tuples' true) (uj h sh):=by intro E x y a b Q ha hb q;obtain⟨x',ox,xs,n,rfl,hx,dx,fx⟩:=sd ha;obtain⟨y',oy,ys,m,rfl,hy,dy,fy⟩:=sd hb;have l1:=ix fx;have l2:=ix fy;apply PySem.W.kat_lt (k _ _ hx) dx (k _ _ hy) dy ?_;rw[show decide (xs.size < ys.size)=false from Qc (by rw[<- N2,<- N2];lia)];exact nw sh _ _ a b 0 fx fy (λ _=>.inl h0) q
end
theorem jd:∀as:QT QP,Vals (as.map V.ref) (as.map Value.ref)
 | []=>.nil
 | a :: as=>.cons rfl (jd as)
theorem xA{α β:Type}{f:α->β}(g:β->QR α)(hg:∀a,g (f a)=some a){l:QT β}{as:QT α}(h:l.Perm (as.map f)):∃as':QT α,l=as'.map f/\as'.Perm as:=by
 apply%[l.filterMap g,?_|?_]
 ·have all:∀x∈l,∃a,f a=x:=λ x hx=>by obtain⟨a,_,e⟩:=J6.mp (h.mem_iff.mp hx);exact%[a|e]
  clear h
  induction l with
  | nil=>rfl
  | cons x r ih=>
   obtain⟨a,rfl⟩:=all x B9;rw[List.filterMap_cons,hg a,J8,<- ih λ y hy=>all y (B6 _ hy)]
 ·have:=h.filterMap g;rw[List.filterMap_map,show(g∘f)=some from funext hg,List.filterMap_some]at this;exact this
theorem jt{h:Heap}{sh:QT Bool}{key:QP->SW}(h0:sh.head?=some false):∀(as:QT QP),(∀a∈as,∃o us n,h.get? a=some o/\o.cls=.type "tuple" /\ o.data=.seq (List.toArray us) n/\cF sh us=some (key a))->∃fs,PySem.W.KatTups h (as.map Value.ref) fs/\fs.length=as.length/\∀v∈fs,∃i t,v=Value.int i t
 | [],_=>%[[],trivial,O|λ v hv=>by cases hv]
 | a :: as,H=>by
  obtain⟨fs,h1,h2,h3⟩:=jt h0 as λ b hb=>H b (B6 _ hb);obtain⟨o,us,n,e,c,d,f⟩:=H a B9;obtain⟨r,hr⟩:∃r,sh=false :: r:=by
   cases sh with
   | nil=>cases h0
   | cons x r=>cases h0;exact%[r|O]
  subst hr;cases us with
  | nil=>cases f
  | cons u us=>
   cases u with
   | int i t=>exact%[.int i t :: fs,PySem.W.KatTups.cons e c d (by simp) h1,by rw[K1,K1,h2]|λ v hv=>(J4.mp hv).elim (λ z=>%[i,t|z]) (h3 v)]
   | _=>cases f
end L2
namespace PySem
open Spec
section
variable{prog:G1}{w:G3}{A:Around}{E:G4->G0->Prop}{s:G0}{l:QP}{xs:QS (Int×Tok)}
theorem oC{Q:G4->G0->Prop}(hh:A.handled=none)(hl:s.heap.IsTuple l (intItems xs))
  (h:∀h' tk t',(∀b o,s.heap.get? b=some o->h'.get? b=some o)->Q (.int (preSum (numAt xs) xs.size) t') { s with heap:=h',toks:=tk }) :
  wpAny (model prog w) A (call (.builtin "sum") [.ref l]) Q E s:=by
 have hlt:l < s.heap.objs.size:=by obtain⟨_,e,_⟩:=hl;exact B0 e
 apply call_sum_walkG (RD hl %[_,_,_,_,_,_,numAt xs,rfl,Walks.tuple (A:=A.in1) hh _ l (C1 hlt) (intItems xs),%[%[_,A9 _ rfl,rfl|rfl]|?_],λ b hb=>?_,(λ _ _=>intItems_at)|λ h' tk t' hk=>?_])
 ·obtain⟨o,e,r⟩:=hl;exact%[o,A8 _ e|r]
 ·show b < (s.heap.push _).objs.size;rw[Qi];rcases J4.mp hb with rfl | hb
  ·exact F4 _
  ·rcases J4.mp hb with rfl | hb
   ·exact PM hlt
   ·cases hb
 ·have:=h h' tk t' λ b o e=>hk b o (λ hm=>by
   have:b=s.heap.objs.size:=by simpa using hm
   subst this;exact absurd (B0 e) (E4 _)) (A8 _ e)
  simpa[intItems]using this
end
end PySem
namespace L2
open PySem PySem.Spec PyProof.Rows
section
variable{X:Cx}
inductive rz_call_sumT(K:C6)(xs:QT V)(H:Hp)(Q:VK):Prop
|mk(p:QP)(ns:SW)(_:xs=[.ref p])(_:SqT K H p (ns.map V.int))(_:Q (.int ns.sum) H)
theorem je(hc:X.calm=true):cD X (.builtin "sum") (rz_call_sumT X.K):=by
 intro QV s σ H xs us Q I r h;obtain⟨p,ns,rfl,hs,q⟩:=h;obtain⟨u,rfl,rfl⟩:=fC r;obtain⟨its,rv,pl,_⟩:=I.tuple hs;have hi:=mZ rv;obtain⟨xs,e⟩:=hi.allInts.items;rw[e]at pl;apply oC (I.ok.hd hc) pl λ h' tk t' hk=>?_;have e2:preSum (numAt xs) xs.size=ns.sum:=by rw[preSum_eq,K6 (by simp),<- nums_intItems,<- e,show its.toArray.toList=its from rfl,hi.numsOf]
 rw[e2];exact%[.int ns.sum,H,I.kept hk,%[_|O]|q]
inductive rz_mt_extendT(K:C6)(x:V)(vs:QT V)(H:Hp)(Q:VK):Prop
|mk(l b xs zs:_)(_:x=.ref l)(_:vs=[.ref b])(_:H l=↥xs)(_:SqT K H b zs)(_:xs.length+zs.length<=sizeLine)(_:Q .non (upd H l (.lst (xs ++ zs))))
theorem fX{lo:Int}{n:Nat}{σ:St}{cap:QT Nat}{k:Nat}{g:TG}{tt:TT}{te:TE}{Q:QT V->Hp->Prop}{H:Hp}(Pv:Nat->QT V->Hp->Prop)(h0:Pv 0 [] H)
  (ht:∀i ys H',i < n->Pv i ys H'->ys.length < sizeLine/\g (.int (lo+i)) (aV σ cap k) H' λ σ2 H2=>leS (aV σ cap k) σ2/\tt σ2 H2 λ ok H3=>if ok=true then te σ2 H3 (λ v H4=>Nx n Pv i (ys ++ [v]) H4)else Nx n Pv i ys H3)
  (hd:∀ys H',Pv n ys H'->ys.length<=sizeLine/\Q ys H'):∃W,(∃m,W 0 m [] H)/\eF σ cap k (Itr lo n) g tt te Q W:=by
 apply%[λ i m ys H'=>m=n - i/\i<=n/\Pv i ys H',%[_,O,F2 _|h0]|?_];rintro i m ys H' ⟨rfl,hi,p⟩
 by_cases hin:i < n
 ·obtain⟨e,hg⟩:=ht i ys H' hin p;apply .inr %[hin,e|λ x H2 yl=>?_];obtain⟨e1,e2⟩:=yl;subst e1 e2;exact hg
 ·have e:i=n:=⋯
  subst e;obtain⟨a1,a2⟩:=hd ys H' p;exact .inl %[B4 _,a1|a2]
end
theorem xB:type_of% @gr:=@gr
theorem qN{X:Cx}{sc:Scope}{N:QT Str}{scope:Scope}{own cs:QT Str}{cap:QT Nat}(h1:X.env.scope=sc)(h2:X.N=N)(h:mU sc N scope own cs cap=true):CompOk X scope own cs cap:=aD h1 h2 h
theorem ny(elt tg iter:Expr)(ifs:QT Expr)(tg2 QY:Expr)(ifs2:QT Expr)(scope:Scope)(pos:Pos)(it acc:G4)(env:Env) :
  compTurn (.ListComp elt [%[tg,iter,ifs|0],%[tg2,QY,ifs2|0]] scope pos) 0 it acc env=(do
   standAt iter.pos
   match<-pyNext it with
   | none=>pure (.done .next)
   | some v=>
    letOwnedTupleGo tg it v
    assign tg env v
    let mut ok:=true
    for c in ifs do
     if ok then ok<-isTrue c env (eval c env)
    if ok then
     let x<-eval QY env
     standAt QY.pos
     let x<-foldedSetIterable QY env x
     let i2<-holding [x] (pyIter x)
     let _<-runOwn (.compStart (.ListComp elt [%[tg,iter,ifs|0],%[tg2,QY,ifs2|0]] scope pos) 1 i2 acc env) env
    again (.compLoop (.ListComp elt [%[tg,iter,ifs|0],%[tg2,QY,ifs2|0]] scope pos) 0 it acc env)):=by rfl
theorem fI{prog:G1}{w:G3}{A:Around}{R:Result->G0->Prop}{s:G0}{elt tg iter tg2 QY:Expr}{ifs ifs2:QT Expr}{scope:Scope}{pos:Pos}{it acc:G4}{env:Env}
  (h0:codeAny (model prog w) A (.compLoop (.ListComp elt [%[tg,iter,ifs|0],%[tg2,QY,ifs2|0]] scope pos) 1 it acc env) R s)
  (h:wpAny (model prog w) A (pyIter it) (λ it' s'=>codeAny (model prog w) A (.compLoop (.ListComp elt [%[tg,iter,ifs|0],%[tg2,QY,ifs2|0]] scope pos) 1 it' acc env) R s')
   (notedBy (model prog w) A env λ x s'=>R (.error x) s') s) :
  codeAny (model prog w) A (.compStart (.ListComp elt [%[tg,iter,ifs|0],%[tg2,QY,ifs2|0]] scope pos) 1 it acc env) R s:=by
 apply codeAny_of_tree ?_;show wpAny _ _ ((compStart (.ListComp elt [%[tg,iter,ifs|0],%[tg2,QY,ifs2|0]] scope pos) 1 it acc env).onRaise (λ x=>do noteFrame x env;standAt theWindowsPlace)) _ _ s;apply wpAny_notedAt ?_;unfold compStart;show wpAny _ _ (ask >>= _) _ _ s;apply A0 (wpAny_askSetting (wpAny_ite ?_))
 split
 ·first
   | exact A0 (A3 (A3 (And.intro rfl h0)))
   | exact A3 (And.intro rfl h0)
 ·first
   | exact A0 (Qs (A0 (RC (A0 (Ql h (λ it' s' h'=>A3 (And.intro rfl h')) λ _ _ x=>x)))))
   | (apply A0 (Qs ?_);show wpAny _ _ (standAt QY.pos >>= _) _ _ s;exact A0 (RC (A0 (Ql h (λ it' s' h'=>A3 (And.intro rfl h')) λ _ _ x=>x))))
def kB(σ2:St)(J:It)(g:TG)(tt:TT)(te:TE)(N:QT V->Hp->Prop)(W:Nat->Nat->QT V->Hp->Prop):Prop :=
 ∀i m ys H,W i m ys H->(J.stop i H/\N ys H) \/
  (J.go i H/\ys.length < sizeLine/\∀x H',J.yld i H x H'->g x σ2 H' λ σ3 H2=>leS σ2 σ3/\tt σ3 H2 λ ok H3=>
   if ok=true then te σ3 H3 (λ v H4=>∃m',m' < m/\W (i+1) m' (ys ++ [v]) H4)else∃m',m' < m/\W (i+1) m' ys H3)
def nz(σ:St)(cap:QT Nat)(k:Nat)(J:It)(g:TG)(tt:TT)(wi2:TI)(g2:TG)(tt2:TT)(te:TE)(Q:QT V->Hp->Prop)(W:Nat->Nat->QT V->Hp->Prop):Prop :=
 ∀i m ys H,W i m ys H->(J.stop i H/\ys.length<=sizeLine/\Q ys H) \/
  (J.go i H/\∀x H',J.yld i H x H'->g x (aV σ cap k) H' λ σ2 H2=>leS (aV σ cap k) σ2/\tt σ2 H2 λ ok H3=>
   if ok=true then wi2 σ2 H3 (λ J2 H4=>∃W2:Nat->Nat->QT V->Hp->Prop,(∃m2,W2 0 m2 ys H4)/\kB σ2 J2 g2 tt2 te (λ zs H5=>∃m',m' < m/\W (i+1) m' zs H5) W2)else∃m',m' < m/\W (i+1) m' ys H3)
section
variable{X:Cx}{QV:SY}{σ:St}{H2:Hp}{s2:G0}{scope:Scope}{own cs:QT Str}{cap:QT Nat}{fp:QT QP}{it:QP}{tn:Nat->Heap->Prop}
 {elt tg iter tg2 QY:Expr} {ifs ifs2:QT Expr} {pos:Pos} {J:It} {g g2:TG} {tt tt2:TT} {te:TE} {wi2:TI} {E:G4->G0->Prop} {W:Nat->Nat->QT V->Hp->Prop} {Qf:QT V->Hp->Prop}
theorem xC{Y:Cx}{P5:SY}{σ:St}{D:QP}(hx:Y.xe=λ _ _=>False)(hc:Y.calm=true)
  (hit2:PI Y tg2 QY wi2) (hs2:∀x,foldedSetIterable QY Y.env x=pure x) (hg2:PG Y tg2 g2) (hi2:iY Y ifs2 tt2) (he:PE Y elt te)
  (hu:∀it2,Y.A.under (.compLoop (.ListComp elt [%[tg,iter,ifs|0],%[tg2,QY,ifs2|0]] scope pos) 1 (.ref it2) (.ref D) Y.env)=Y.A) :
  rK Y P5 σ D (do
   let x<-eval QY Y.env
   standAt QY.pos
   let x<-foldedSetIterable QY Y.env x
   let i2<-holding [x] (pyIter x)
   let _<-runOwn (.compStart (.ListComp elt [%[tg,iter,ifs|0],%[tg2,QY,ifs2|0]] scope pos) 1 i2 (.ref D) Y.env) Y.env) AccL (λ _=>True)
   (λ i m ys σ2 H3=>wi2 σ2 H3 (λ J2 H4=>∃W2:Nat->Nat->QT V->Hp->Prop,(∃m2,W2 0 m2 ys H4)/\kB σ2 J2 g2 tt2 te (λ zs H5=>∃m',m' < m/\W (i+1) m' zs H5) W2)) W:=by
 rintro i m ys o σ3 H3 s3 Q5 hz hq le ac fD I3 e3;have hx':∀{v:G4}{s':G0}{Z:Prop},Y.xe v s'->Z:=λ z=>by rw[hx]at z;exact z.elim
 have one:∀{p:QP×Obj},p∈[(D,o)]->p=(D,o):=λ hp=>by simpa using hp
 have I3':Inv Y ((P5 ++ Q5) ++ [(D,o)]) σ3 H3 s3:=I3.pins_of λ p hp=>(C4.mp hp).elim (λ z=>I3.pin p (A6 _ z)) λ z=>by rw[one z];exact%[e3,fD.1,fD.2.1,fD.2.2.1|AccL.nc _ _ ac]
 apply A0 (Ql (hit2 _ s3 σ3 H3 _ I3' hq) (λ xv s8 h8=>?_) λ _ _ z=>hx' z);apply A0 (RC (A0 (wpAny_of_eq (hs2 xv) ?_)));apply A0 (Qh (Ql h8 (λ itv s9 h9=>?_) λ _ _ z=>hx' z));obtain⟨it2,fp2,tn2,J2,H9,rfl,I9,T2,st9,f9,W2,w20,turn2⟩:=h9;have pD:=I9.pin (D,o) (A6 _ (A6 _ (E6.mpr rfl)));have inner:=λ(R:Result->G0->Prop) hR=>gq (R:=R) (Fin:=λ zs H5=>∃m',m' < m/\W (i+1) m' zs H5) (ipos:=QY.pos) (node:=.ListComp elt [%[tg,iter,ifs|0],%[tg2,QY,ifs2|0]] scope pos) (lvl:=1) (body:=do let _<-call (.builtin "list.append") [.ref D,<-eval elt Y.env]) hx (T2.y hc) hg2 hi2 rfl (hu it2) AccL.nc
  (λ i m ys H w=>%[trivial|turn2 i m ys H w]) (lO hx he) (I9.sub λ p hp=>B8 _ hp) (fD.sub pD.2.1 λ _ h=>.inl h) (λ b hb=>(f9 b hb).sub (f9 b hb).1 λ p hp=>.inl (B8 _ hp))
  (λ b hb=>(f9 b hb).2.2.2.2.2 (D,o) (A6 _ (A6 _ (E6.mpr rfl)))) st9 pD.1 ac w20 hR
 apply A0 (wpAny_runOwn ((λ h=>fI h (T2.self _ 0 _ _ _ st9 h)) (inner _ ?_)));exactλ s' H' ys o a b c d e=>A3 %[H',ys,o,a,b,c,d|e]
theorem uo{RR:G4->QP->Result->G0->Prop}(I:Inv X QV σ H2 s2)(ok:CompOk X scope own cs cap)(hc:X.calm=true)(T:Turn X.prog X.w X.K tg J fp it tn)(st:tn 0 s2.heap)(hf:∀b∈fp,FpOk X QV H2 b)
  (hg:∀C,PG (aM X QV s2 H2 scope C (own ++ cs) fp) tg g) (hi:∀C,iY (aM X QV s2 H2 scope C (own ++ cs) fp) ifs tt) (hit2:∀C,PI (aM X QV s2 H2 scope C (own ++ cs) fp) tg2 QY wi2) (hs2:∀C x,foldedSetIterable QY (aM X QV s2 H2 scope C (own ++ cs) fp).env x=pure x) (hg2:∀C,PG (aM X QV s2 H2 scope C (own ++ cs) fp) tg2 g2) (hi2:∀C,iY (aM X QV s2 H2 scope C (own ++ cs) fp) ifs2 tt2) (he:∀C,PE (aM X QV s2 H2 scope C (own ++ cs) fp) elt te)
  (w0:∃m,W 0 m [] H2) (turn:nz σ cap own.length J g tt wi2 g2 tt2 te Qf W)
  (hRR:∀D C s' ys H',H' D=none->(ys.length<=sizeLine/\Qf ys H')->Inv X QV σ (upd H' D (.lst ys)) s'->FpOk X QV (upd H' D (.lst ys)) C->(∃m,s'.heap.Ns C m)->RR (.ref D) C (.ok .next) s') :
  wpAny (model X.prog X.w) X.A (newList []) (λ acc s₃=>wpAny (model X.prog X.w) X.A (newFunctionEnv scope X.env.globals (bJ X.env scope.names []) [] X.env.qual none .none (some X.env)) (λ cenv s₄=>
   codeAny (model X.prog X.w) X.A (.compStart (.ListComp elt [%[tg,iter,ifs|0],%[tg2,QY,ifs2|0]] scope pos) 0 (.ref it) acc { cenv with scope:=relabel scope X.env }) (RR acc cenv.locals) s₄) E s₃) E s2:=by
 apply gS (Acc:=AccL) (Fin:=λ ys H=>ys.length<=sizeLine/\Qf ys H) (ho:=.lst) I ok (λ C=>Turn.y (Y:=aM X QV s2 H2 scope C (own ++ cs) fp) T hc) st hf rfl (λ h=>F8 h) codeAny_compStart_list (λ Y D C s' R hY I0 hD hf' df st0 e0 hR=>?_) (λ _ ⟨its,nn,e,rv⟩ q _ p=>%[q.1,its,nn,rv|e ▸ p]) hRR;subst hY;have hb:=xC (Y:=aM X QV s2 H2 scope C (own ++ cs) fp) (tg:=tg) (iter:=iter) (ifs:=ifs) (scope:=scope) (pos:=pos) (P5:=[]) (σ:=aV σ cap own.length) (W:=W) (D:=D) rfl hc (hit2 C) (hs2 C) (hg2 C) (hi2 C) (he C) λ _=>rfl;exact gq (ipos:=iter.pos) rfl (Turn.y (Y:=aM X QV s2 H2 scope C (own ++ cs) fp) T hc) (hg C) (hi C) (by
   show Sem.onRaise (compTurn _ _ _ _ _) _=_;rw[ny];unfold wX;simp only[bind_assoc,pure_bind] <;> rfl) rfl AccL.nc
  (λ i m ys H w=>%[trivial|(turn i m ys H w).imp id λ h=>%[h.1,trivial|h.2]]) hb I0 hD hf' df st0 e0 %[[],_,rfl|.nil] w0 hR
def BJ(wi:TI)(cap:QT Nat)(k:Nat)(g:TG)(tt:TT)(wi2:TI)(g2:TG)(tt2:TT)(te:TE):TE:=λ σ H Q=>wi σ H λ J H1=>
 ∃W:Nat->Nat->QT V->Hp->Prop,(∃m,W 0 m [] H1)/\nz σ cap k J g tt wi2 g2 tt2 te (λ ys H'=>∀p,H' p=none->Q (.ref p) (upd H' p (.lst ys))) W
theorem xD{wi:TI}(hc:X.calm=true)(hit:PI X tg iter wi)(ok:CompOk X scope own cs cap)
  (hg:∀QV s2 H2 C fp,PG (aM X QV s2 H2 scope C (own ++ cs) fp) tg g) (hi:∀QV s2 H2 C fp,iY (aM X QV s2 H2 scope C (own ++ cs) fp) ifs tt)
  (hit2:∀QV s2 H2 C fp,PI (aM X QV s2 H2 scope C (own ++ cs) fp) tg2 QY wi2) (hg2:∀QV s2 H2 C fp,PG (aM X QV s2 H2 scope C (own ++ cs) fp) tg2 g2) (hi2:∀QV s2 H2 C fp,iY (aM X QV s2 H2 scope C (own ++ cs) fp) ifs2 tt2)
  (he:∀QV s2 H2 C fp,PE (aM X QV s2 H2 scope C (own ++ cs) fp) elt te)
  (hs:∀x,foldedSetIterable iter X.env x=pure x:=by intro _;rfl) (hs2:∀QV s2 H2 C fp x,foldedSetIterable QY (aM X QV s2 H2 scope C (own ++ cs) fp).env x=pure x:=by intro _ _ _ _ _ _;rfl):PE X (.ListComp elt [%[tg,iter,ifs|0],%[tg2,QY,ifs2|0]] scope pos) (BJ wi cap own.length g tt wi2 g2 tt2 te):=by
 intro QV s σ H Q I h;rw[eval_ListComp];apply wpAny_comprehension_free (use:=none) rfl hs (fb λ y hy e=>I.ok.has y.1 (ok.free y hy e)) ok.kind ok.names (thn (hit QV s σ H _ I h) λ v s1 h1=>thn h1 λ itv s2 h2=>?_);obtain⟨it,fp,tn,J,H2,e,I2,T,st2,f2,W,w0,turn⟩:=h2;subst e;apply uo (RR:=λ acc C=>compPost (model X.prog X.w) X.A X.xe none (EP X QV σ Q) acc C) I2 ok hc T st2 f2 (λ C=>hg _ _ _ _ _) (λ C=>hi _ _ _ _ _) (λ C=>hit2 _ _ _ _ _) (λ C=>hs2 _ _ _ _ _) (λ C=>hg2 _ _ _ _ _) (λ C=>hi2 _ _ _ _ _) (λ C=>he _ _ _ _ _) w0 turn λ D C s' ys H' hD %[_|q] I' fp' %[m|hn]=>?_;obtain⟨f0,f1,f2',f3,f4,f5⟩:=fp';exact%[m,hn|λ h' sb=>%[.ref D,_,I'.turned (t':=s'.toks) (λ b o hb e=>sb.extBut b o hb e) f0 f1 f3 f4 f5,O|q D hD]]
end
end L2
namespace PySem
open Sem (wp)
section
variable{prog:G1}{w:G3}{A:Around}{E:G4->G0->Prop}{s:G0}
theorem cu{d:QP}{es:QS DictEntry}{ep:Nat}{Q:G4->G0->Prop}(hd:(d == sysModules)=false)(hm:(∃o,s.heap.get? d=some o/\o.ExactDict/\o.data=.dict es ep))
  (hQ:Q (.ref s.heap.objs.size) { s with heap:=s.heap.push { cls:=.type "dict_keyiterator",data:=.fields #[.ref d,.int 0 0,.int es.size 0,.int ep 0] } }) :
  wpAny (model prog w) A (pyIter (.ref d)) Q E s:=by
 obtain⟨o,ho,hc,hdat⟩:=id hm;have hT:s.TypeIs (.ref d) "dict" := %[_,ho|hc.1]
 apply wpAny_pyIter_slot hT F.slot_dict_iter (F7 F.slot_dict_iter hT F.entry_dict_iter ?_ (F.args_dict_iter_1 _));unfold Builtin.«dict.__iter__»;apply A0 ?_;unfold Builtin.Dict.dictSlotNone;apply A0 (wpAny_notOrdered_dict hT ?_);show wpAny _ _ (pure (Value.ref d)) _ _ s;apply A3 ?_;show wpAny _ _ (Builtin.Dict.showsAll d >>= _) _ _ s;unfold Builtin.Dict.showsAll;rw[QZ (by rw[hd];exact B3)];apply A0 (A3 ?_);apply A0 (Q8 ho hdat ?_);apply A0 (RM ho hdat ?_);have hsz:es.size=es.size:=rfl;apply A0 (F8 (A3 %[_,rfl,"dict_keyiterator",_,%[_,A9 _ rfl|rfl],F.slot_dict_keyiterator_next.lookup|?_]));simpa[rawInt,hsz]using hQ
theorem cA{it d:QP}{i ep:Nat}{es:QS DictEntry}{en:DictEntry}{Q:QR G4->G0->Prop}(hit:s.heap.IsKeyIter it d i es.size ep)
  (hm:(∃o,s.heap.get? d=some o/\o.ExactDict/\o.data=.dict es ep)) (hx:es[i]?=some en)
  (hQ:∀h',h'.IsKeyIter it d (i+1) es.size ep->Heap.SameBut it s.heap h'->Q (some en.key) { s with heap:=h' }) :
  wpAny (model prog w) A (pyNext (.ref it)) Q E s:=by
 obtain⟨o,ho,hc,hd⟩:=id hit;obtain⟨od,hod,hcd,hdd⟩:=id hm;unfold pyNext;apply A0 (RJ (wpAny_callSpecial?_slot (name:=Str.ofString "__next__") hit.typeIs Q9
  (F7 Q9 hit.typeIs F.entry_dict_keyiterator_next ?_ (F.args_dict_keyiterator_next_1 _))))
 apply A0 (A3 ?_);apply A0 ?_;apply A0 ?_
 first | apply A0 (Q4 hit.typeIs (A3 ?_)) | apply A0 (wpAny_typeNameOf_keyiter hit.typeIs (A3 ?_))
 apply A0 (wpAny_fieldsOf ho hd ?_);have hown:Builtin.Dict_items.ownsTuple "dict_keyiterator" = false:=∅
 simp only[hown,M6,Qv];show wpAny _ _ (if (Value.ref d == Value.none)=true then _ else _) _ _ s;rw[QZ (show¬ ((Value.ref d == Value.none)=true)from B3)];apply A0 (A3 ?_);apply A0 (Q8 hod hdd ?_);have hsz:es.size=es.size:=rfl;rw[QZ (by simp)];apply A0 (A3 ?_);apply A0 (RM hod hdd ?_);rw[QZ (by simp)];apply A3 ?_;have hlt:i < es.size:=by
  rcases QN i es.size with h | h
  ·exact h
  ·rw[N5 h]at hx;cases hx
 have hlt':i < es.size:=by rw[hsz];exact hlt
 have hkey:es[i]=en:=by rw[N1 hlt']at hx;exact C0 hx
 simp only[show¬ ((i:Int) < 0)from by lia,Qv,M5,N1 hlt'];apply A0 ?_
 first | apply A0 (Q4 hit.typeIs (A3 ?_)) | apply A0 (wpAny_typeNameOf_keyiter hit.typeIs (A3 ?_))
 apply A0 (wpAny_isOneOf_keyiter hit.typeIs ?_);show wpAny _ _ (setField (.ref it) 1 (rawInt ((i:Int)+1)) >>= _) _ _ s;apply A0 (wpAny_setField ho hd (by simp) ?_);have hit':(s.heap.update it (Obj.mapFields (·.setIfInBounds 1 (rawInt ((i:Int)+1))))).IsKeyIter it d (i+1) es.size ep :=
  %[_,RE _ ho (Obj.isFreed_of_fields (Obj.data_mapFields hd _)),(Obj.cls_mapFields ..).trans hc|by rw[Obj.data_mapFields hd];simp[rawInt]]
 apply A0 (Qh ?_);apply A0 (wpAny_isOneOf_keyiter (s:={ s with heap:=s.heap.update it (Obj.mapFields (·.setIfInBounds 1 (rawInt ((i:Int)+1)))) }) hit'.typeIs ?_);show wpAny _ _ (pure es[i].key) _ _ _;exact A3 (A3 %[_,rfl|A3 (by rw[hkey];exact hQ _ hit' (Qo ..))])
theorem cH{it d:QP}{i ep:Nat}{es:QS DictEntry}{Q:QR G4->G0->Prop}(hh:A.handled=none)(hit:s.heap.IsKeyIter it d i es.size ep)
  (hm:(∃o,s.heap.get? d=some o/\o.ExactDict/\o.data=.dict es ep)) (hx:es[i]?=none)
  (hQ:∀h',Heap.ExtBut it s.heap h'->Q none { s with heap:=h' }):wpAny (model prog w) A (pyNext (.ref it)) Q E s:=by
 obtain⟨o,ho,hc,hd⟩:=id hit;obtain⟨od,hod,hcd,hdd⟩:=id hm;unfold pyNext;apply A0 (RJ (wpAny_callSpecial?_slot (name:=Str.ofString "__next__") hit.typeIs Q9
  (F7 Q9 hit.typeIs F.entry_dict_keyiterator_next ?_ (F.args_dict_keyiterator_next_1 _))))
 apply A0 (A3 ?_);apply A0 ?_;apply A0 ?_
 first | apply A0 (Q4 hit.typeIs (A3 ?_)) | apply A0 (wpAny_typeNameOf_keyiter hit.typeIs (A3 ?_))
 apply A0 (wpAny_fieldsOf ho hd ?_);have hown:Builtin.Dict_items.ownsTuple "dict_keyiterator" = false:=∅
 simp only[hown,M6,Qv];show wpAny _ _ (if (Value.ref d == Value.none)=true then _ else _) _ _ s;rw[QZ (show¬ ((Value.ref d == Value.none)=true)from B3)];apply A0 (A3 ?_);apply A0 (Q8 hod hdd ?_);have hsz:es.size=es.size:=rfl;rw[QZ (by simp)];apply A0 (A3 ?_);apply A0 (RM hod hdd ?_);rw[QZ (by simp)];apply A3 ?_;have hge:es.size<=i:=by simpa using hx
 simp only[show¬ ((i:Int) < 0)from by lia,Qv,M5,N5 hge];apply A0 ?_
 first | apply A0 (Q4 hit.typeIs (A3 ?_)) | apply A0 (wpAny_typeNameOf_keyiter hit.typeIs (A3 ?_))
 show wpAny _ _ (setField (.ref it) 0 .none >>= _) _ _ s;apply A0 (wpAny_setField ho hd (by simp) ?_);show wpAny _ _ (newExc (.type "StopIteration") [] >>= _) _ _ _;apply A0 ?_;simp only[newExc,newTuple];apply A0 (F8 ?_ (by size_fits));apply A0 (m:=firstArgMember _ _) (wpAny_of_eq (a:=Value.none) (by first | rfl | (simp only[firstArgMember];rfl)) ?_);apply F8 ?_ (by size_fits);simp only[raiseNew];apply A0 (wpAny_handled ?_);rw[show A.in1.handled=none from hh];apply A0 (A3 (wpAny_throw ?_));apply A0 (wpAny_isInstance (T := "StopIteration") (b:=true) %[_,A9 _ rfl|rfl] isSubtype_stop ?_);exact A3 (hQ _ (((Qo ..).extBut.push _).push _))
end
end PySem
namespace L2
open PySem PySem.Spec PyProof.Rows
def Itd(a:QP)(ob:Obj)(kvs:QT (QT Key×V)):It :=
 %[λ i H=>i < kvs.length/\H a=some (.frz ob (.dT kvs)),λ i H x H'=>H'=H/\∃q k v,kvs[i]?=some (k,v)/\x=.ref q/\H q= ~~~(k.map kV)|λ i H=>i=kvs.length/\H a=some (.frz ob (.dT kvs))]
theorem oE{α β:Type}{F:α->β->Prop}:∀{l₁:QT α}{l₂:QT β}{i:Nat}{x:α},Paired F l₁ l₂->l₁[i]?=some x->∃y,l₂[i]?=some y/\F x y
 | _,_,0,_,.cons h _,e=>%[_,O|by cases e;exact h]
 | _,_,i+1,_,.cons _ r,e=>oE (i:=i) r (by simpa using e)
 | _,_,_,_,.nil,e=>by simp at e
theorem xE{α β:Type}{F G:α->β->Prop}:∀{l₁:QT α}{l₂:QT β},Paired F l₁ l₂->(∀x y,F x y->G x y)->Paired G l₁ l₂
 | _,_,.nil,_=>.nil
 | _,_,.cons h r,f=>.cons (f _ _ h) (xE r f)
theorem lU{α β:Type}{F:α->β->Prop}:∀{l₁:QT α}{l₂:QT β},Paired F l₁ l₂->l₁.length=l₂.length
 | _,_,.nil=>rfl
 | _,_,.cons _ r=>by rw[K1,K1,lU r]
theorem kC{P:G1}{w:G3}{K:C6}{tg:Expr}(a it:QP)(ob:Obj)(kvs:QT (QT Key×V))(es:QS DictEntry)(ep:Nat)(hx:ob.ExactDict)(hd:ob.data=.dict es ep)(hn:es.size=kvs.length) :
  Turn P w K tg (Itd a ob kvs) [it] it (λ i h=>h.IsKeyIter it a i es.size ep) where
 mem:=by simp
 obj:=λ i h st b hb=>by
  have e:b=it:=by simpa using hb
  subst e;obtain⟨o,e,c,d⟩:=st;exact%[o,e|λ v z=>by rw[d]at z;cases z]
 keep:=λ i h h' st k=>st.at λ o e=>k it (by simp) o e
 item:=by
  intro X hP hw hK hc i QV s σ H E I hf st hg;subst hP hw hK;obtain⟨hi,hH⟩:=hg;obtain⟨h1,_,_,xs,pr,o,es',ep',h2,_,h3,h4,_⟩:=(show ObjOk X.prog X.w H s.heap a (.frz ob (.dT kvs))from I.hok a _ hH)
  rw[h1]at h2;cases h2;rw[hd]at h3;cases h3;have hk:kvs[i]?=some kvs[i]:=F5 hi;obtain⟨⟨k',q,v'⟩,hy,e1,e2,e3⟩:=oE pr hk;have hen:es[i]?=some (entryOfKey (tupleKind (bq X.prog X.w)) (k',q,v')):=by rw[<- M4,h4,J3,hy];rfl
  obtain⟨f0,f1,f2,f3,f4,f5⟩:=hf it (by simp);apply cA st %[ob,h1,hx|hd] hen λ h' st' sb=>?_;have I1:Inv X QV σ H { s with heap:=h' }:=I.turned (t':=s.toks) (λ b o hb e=>(sb.2 b hb).trans e) f0 f1 f3 f4 f5;obtain⟨o,e,c,d⟩:=id st';exact%[_,O|rn (s:={ s with heap:=h' }) e c d ∅ %[.ref q,H,I1,O,%[O,q,kvs[i].1,kvs[i].2,hk,O|e2],st'|λ b hb=>(hf b hb).1]]
 done:=by
  intro X hP hw hK hc i QV s σ H E I hf st hg;subst hP hw hK;obtain⟨hi,hH⟩:=hg;obtain⟨h1,_⟩:=(show ObjOk X.prog X.w H s.heap a (.frz ob (.dT kvs))from I.hok a _ hH)
  obtain⟨f0,f1,f2,f3,f4,f5⟩:=hf it (by simp);exact cH (I.ok.hd hc) st %[ob,h1,hx|hd] (by rw[N5];lia) λ h' eb=>%[O|I.turned (t':=s.toks) (λ b o hb e=>eb b o hb e) f0 f1 f3 f4 f5]
 self:=λ _ _ _ _ _ st h=>wpAny_pyIter_keyiter st h
theorem oF{a:QP}{ob:Obj}{kvs:QT (QT Key×V)}{g:TG}{tb:TS}{D:Ends}{σ:St}{H:Hp}(Pv:Nat->St->Hp->Prop)(h0:Pv 0 σ H)(hl:∀i σ H,i<=kvs.length->Pv i σ H->H a=some (.frz ob (.dT kvs)))
  (hs:∀i k v q σ H,kvs[i]?=some (k,v)->H q= ~~~(k.map kV)->Pv i σ H->g (.ref q) σ H λ σ2 H2=>tb { D with nx:=Pv (i+1),ct:=Pv (i+1),bk:=D.nx } σ2 H2) (hd:∀σ H,Pv kvs.length σ H->D.nx σ H) :
  ∃W:Nat->Nat->St->Hp->Prop,(∃m,W 0 m σ H)/\∀i m σ H,W i m σ H ->
   ((Itd a ob kvs).stop i H/\D.nx σ H)\/((Itd a ob kvs).go i H/\∃N:St->Hp->Prop,(∀σ' H',N σ' H'->∃m',m' < m/\W (i+1) m' σ' H')/\∀x H',(Itd a ob kvs).yld i H x H'->g x σ H' λ σ2 H2=>tb { D with nx:=N,ct:=N,bk:=D.nx } σ2 H2):=by
 apply%[λ i m σ H=>m=kvs.length - i/\i<=kvs.length/\Pv i σ H,%[kvs.length,by simp,F2 _|h0]|?_];rintro i m σ H ⟨rfl,hi,p⟩;have q:=hl i σ H hi p
 by_cases hlt:i < kvs.length
 ·apply .inr %[%[hlt|q],Pv (i+1),λ σ' H' p'=>%[_,⋯,O,hlt|p']|λ x H' y=>?_];obtain⟨e,qa,k,v,e1,e2,e3⟩:=y;subst e e2;exact hs i k v qa σ _ e1 e3 p
 ·have e:i=kvs.length:=⋯
  subst e;exact .inl %[%[O|q]|hd σ H p]
theorem uq{lo:Int}{n:Nat}{σ:St}{cap:QT Nat}{k:Nat}{g g2:TG}{tt tt2:TT}{te:TE}{wi2:TI}{Q:QT V->Hp->Prop}{H:Hp}(Pv:Nat->QT V->Hp->Prop)(h0:Pv 0 [] H)
  (ht:∀i ys H',i < n->Pv i ys H'->g (.int (lo+i)) (aV σ cap k) H' λ σ2 H2=>leS (aV σ cap k) σ2/\tt σ2 H2 λ ok H3=>if ok=true then wi2 σ2 H3 (λ J2 H4=>∃W2:Nat->Nat->QT V->Hp->Prop,(∃m2,W2 0 m2 ys H4)/\kB σ2 J2 g2 tt2 te (λ zs H5=>Nx n Pv i zs H5) W2)else Nx n Pv i ys H3)
  (hd:∀ys H',Pv n ys H'->ys.length<=sizeLine/\Q ys H'):∃W,(∃m,W 0 m [] H)/\nz σ cap k (Itr lo n) g tt wi2 g2 tt2 te Q W:=by
 apply%[λ i m ys H'=>m=n - i/\i<=n/\Pv i ys H',%[_,O,F2 _|h0]|?_];rintro i m ys H' ⟨rfl,hi,p⟩
 by_cases hin:i < n
 ·apply .inr %[hin|λ x H2 yl=>?_];obtain⟨e1,e2⟩:=yl;subst e1 e2;exact ht i ys _ hin p
 ·have e:i=n:=⋯
  subst e;obtain⟨a1,a2⟩:=hd ys H' p;exact .inl %[B4 _,a1|a2]
theorem BK{lo:Int}{n:Nat}{σ2:St}{g2:TG}{tt2:TT}{te:TE}{N:QT V->Hp->Prop}{H:Hp}{ys:QT V}(Pv:Nat->QT V->Hp->Prop)(h0:Pv 0 ys H)
  (ht:∀i zs H',i < n->Pv i zs H'->zs.length < sizeLine/\g2 (.int (lo+i)) σ2 H' λ σ3 H2=>leS σ2 σ3/\tt2 σ3 H2 λ ok H3=>if ok=true then te σ3 H3 (λ v H4=>Nx n Pv i (zs ++ [v]) H4)else Nx n Pv i zs H3)
  (hd:∀zs H',Pv n zs H'->N zs H'):∃W2:Nat->Nat->QT V->Hp->Prop,(∃m2,W2 0 m2 ys H)/\kB σ2 (Itr lo n) g2 tt2 te N W2:=by
 apply%[λ i m zs H'=>m=n - i/\i<=n/\Pv i zs H',%[_,O,F2 _|h0]|?_];rintro i m zs H' ⟨rfl,hi,p⟩
 by_cases hin:i < n
 ·obtain⟨e,hg⟩:=ht i zs H' hin p;apply .inr %[hin,e|λ x H2 yl=>?_];obtain⟨e1,e2⟩:=yl;subst e1 e2;exact hg
 ·have e:i=n:=⋯
  subst e;exact .inl %[B4 _|hd zs H' p]
theorem qO{P:G1}{w:G3}{K:C6}{tg:Expr}(it:QP)(lo left:Int)(h0:left<=0):Turn P w K tg (Itr lo 0) [it] it (λ i h=>IsLongIter h it lo left 1) where
 mem:=by simp
 obj:=λ i h st b hb=>by
  have e:b=it:=by simpa using hb
  subst e;exact⟨_,st,λ v z=>by
   have z':Data.fields _=Data.cell v:=z;cases z'⟩
 keep:=λ i h h' st k=>k it (by simp) _ st
 item:=by intro X hP hw hK hc i QV s σ H E I hf st hg;exact absurd hg (F3 _)
 done:=by intro X hP hw hK hc i QV s σ H E I hf st hg;subst hP hw hK;obtain⟨f0,f1,f2,f3,f4,f5⟩:=hf it (by simp);exact wpAny_pyNext_long_end (I.ok.hd hc) st h0 λ h' eb=>%[O|I.turned (t':=s.toks) (λ b o hb e=>eb b o hb e) f0 f1 f3 f4 f5]
 self:=λ _ _ _ _ _ st h=>wpAny_pyIter_longiter st h
section
variable{X:Cx}{tg:Expr}
def BM(ta:TA):TI:=λ σ H R=>ta σ H λ vs H1=>∃i j:Int,vs=[.int i,.int j]/\(-(2 ^ 62)<=i/\i < 2 ^ 62/\j < 2 ^ 62)/\R (Itr i (j - i).toNat) H1
theorem kD{a b:Expr}{ta:TA}{p pos:Pos}(hg:Gl X "range")(hm:X.mg "range" = none)(ha:PA X [a,b] ta)(hs:starEach [a,b] X.env=[(false,eval a X.env),(false,eval b X.env)]:=by rfl)(hs2:starEach [b] X.env=[(false,eval b X.env)]:=by rfl) :
  PI X tg (.Call (.Name "range" p) [a,b] [] pos) (BM ta):=by
 intro QV s σ H R I h;apply Call_ (fM I hg hm boot_range (Qp (thn (ha pos QV s σ H _ I h) ?_) (by rw[hs,hs2]) (by rw[hs2];rfl)));rintro us s1 ⟨vs,H1,I1,r1,q1⟩;obtain⟨i,j,e,⟨q1,q2,q4⟩,q⟩:=q1;subst e;cases r1 with
 | cons r rr=>
  cases rr with
  | cons r' rr=>
   cases rr;obtain⟨t,rfl⟩:=r;obtain⟨t',rfl⟩:=r'
   by_cases q3:-(2 ^ 62)<=j
   ·exact call_range_2 (jT I1 q1 q2 q3 q4 q)
   apply call_range_2 ?_;have z0:(j - i).toNat=0:=⋯
   rw[z0]at q;have I2:Inv X QV σ H1 { s1 with heap:=s1.heap.push { cls:=.type "range",data:=.fields #[.int i t,.int j t',.int 1 s1.toks] },toks:=s1.toks+1 }:=I1.kept λ b o e=>A8 _ e;have rs0:Builtin.Range.rangeSize i j 1=0:=by rw[rangeSize_one,QZ ⋯]
   cases hsm:Builtin.Range.small i j 1 with
   | false=>
    apply wpAny_pyIter_longrange (IsRange.new ..) hsm ?_;apply%[_,[(s1.heap.push { cls:=.type "range",data:=.fields #[.int i t,.int j t',.int 1 s1.toks] }).objs.size],_,_,H1,O,I2.kept (t':=s1.toks+1) λ b o e=>A8 _ e,qO _ i 0 (E9 _),?_,λ b hb=>?_|q]
    ·rw[rs0];exact A9 _ rfl
    ·have e:b=(s1.heap.push { cls:=.type "range",data:=.fields #[.int i t,.int j t',.int 1 s1.toks] }).objs.size:=by simpa using hb
     subst e;exact I2.fpOk (B4 _) (I2.hok.fresh (B4 _))
   | true=>
    apply wpAny_pyIter_range (IsRange.new ..) hsm ?_;apply%[_,[(s1.heap.push { cls:=.type "range",data:=.fields #[.int i t,.int j t',.int 1 s1.toks] }).objs.size],_,_,H1,O,I2.kept (t':=s1.toks+1) λ b o e=>A8 _ e,jR _ i 0,?_,λ b hb=>?_|q]
    ·rw[rs0];show IsRangeIter _ _ (i+((0:Nat):Int) * 1) (((0:Nat):Int) - ((0:Nat):Int)) 1;have e1:i+((0:Nat):Int) * 1=i:=by simp
     have e2:((0:Nat):Int) - ((0:Nat):Int)=0:=rfl;rw[e1,e2];exact A9 _ rfl
    ·have e:b=(s1.heap.push { cls:=.type "range",data:=.fields #[.int i t,.int j t',.int 1 s1.toks] }).objs.size:=by simpa using hb
     subst e;exact I2.fpOk (B4 _) (I2.hok.fresh (B4 _))
def BN(tl:TE):TI:=λ σ H R=>tl σ H λ x H1=>∃a kvs,x=.ref a/\((H1 a=some (.dT kvs)/\∀ob,R (Itd a ob kvs) (upd H1 a (.frz ob (.dT kvs))))\/∃ob,H1 a=some (.frz ob (.dT kvs))/\R (Itd a ob kvs) H1)
theorem xF{l:Expr}{tl:TE}(hl:PE X l tl):PI X tg l (BN tl):=by
 intro QV s σ H R I h;apply thn (hl QV s σ H _ I h) ?_;rintro v s1 ⟨x,H1,I1,r1,q1⟩;obtain⟨a,kvs,e,q⟩:=q1;subst e;cases r1;rcases q with⟨hH,q⟩ | ⟨ob,hH,q⟩
 ·obtain⟨hz,hs,xs,pr,o,es,ep,h1,h2,h3,h4,h5⟩:=(show ObjOk X.prog X.w H1 s1.heap a (.dT kvs)from I1.hok a _ hH)
  have hn:es.size=kvs.length:=by rw[lU pr,<- N2,h4,B5]
  have I2:Inv X QV σ (upd H1 a (.frz o (.dT kvs))) s1:=by
   have:=I1.write (x:=a) (e:=a) (o:=.frz o (.dT kvs)) (h':=s1.heap) (t':=s1.toks) (by rw[hH];trivial) (.inl rfl) (λ b u _ e=>e) %[o|h1] %[h1,hz,hs,xs,?_,o,es,ep,h1,h2,h3,h4|h5]
   ·exact this
   ·apply xE pr λ p q %[e1,e2|e3]=>%[e1,?_|e3]
    rw[am (λ z=>by rw[z,hH]at e2;cases e2)];exact e2
  apply cu hs %[o,h1,h2|h3] ?_;apply%[s1.heap.objs.size,[s1.heap.objs.size],_,_,_,O,I2.kept (t':=s1.toks) λ b o e=>A8 _ e,kC a _ o kvs es ep h2 h3 hn,%[_,A9 _ rfl,O|O],λ b hb=>?_|q o];have e:b=s1.heap.objs.size:=by simpa using hb
  subst e;exact I2.fpOk (B4 _) (I2.hok.fresh (B4 _))
 ·obtain⟨h0,hz,hs,xs,pr,o,es,ep,h1,h2,h3,h4,h5⟩:=(show ObjOk X.prog X.w H1 s1.heap a (.frz ob (.dT kvs))from I1.hok a _ hH)
  rw[h0]at h1;cases h1;have hn:es.size=kvs.length:=by rw[lU pr,<- N2,h4,B5]
  apply cu hs %[ob,h0,h2|h3] ?_;apply%[s1.heap.objs.size,[s1.heap.objs.size],_,_,_,O,I1.kept (t':=s1.toks) λ b o e=>A8 _ e,kC a _ ob kvs es ep h2 h3 hn,%[_,A9 _ rfl,O|O],λ b hb=>?_|q];have e:b=s1.heap.objs.size:=by simpa using hb
  subst e;exact I1.fpOk (B4 _) (I1.hok.fresh (B4 _))
end
theorem ur{a:QP}{ob:Obj}{kvs:QT (QT Key×V)}{σ:St}{cap:QT Nat}{k:Nat}{g:TG}{tt:TT}{te:TE}{Q:QT V->Hp->Prop}{H:Hp}(Pv:Nat->QT V->Hp->Prop)(h0:Pv 0 [] H)
  (hl:∀i ys H',i<=kvs.length->Pv i ys H'->H' a=some (.frz ob (.dT kvs)))
  (ht:∀i kk v q ys H',kvs[i]?=some (kk,v)->H' q= ~~~(kk.map kV)->Pv i ys H'->g (.ref q) (aV σ cap k) H' λ σ2 H2=>leS (aV σ cap k) σ2/\tt σ2 H2 λ ok H3=>if ok=true then te σ2 H3 (λ v H4=>Nx kvs.length Pv i (ys ++ [v]) H4)else Nx kvs.length Pv i ys H3)
  (hz:∀i ys H',i < kvs.length->Pv i ys H'->ys.length < sizeLine) (hd:∀ys H',Pv kvs.length ys H'->ys.length<=sizeLine/\Q ys H'):∃W,(∃m,W 0 m [] H)/\eF σ cap k (Itd a ob kvs) g tt te Q W:=by
 apply%[λ i m ys H'=>m=kvs.length - i/\i<=kvs.length/\Pv i ys H',%[_,O,F2 _|h0]|?_];rintro i m ys H' ⟨rfl,hi,p⟩;have q:=hl i ys H' hi p
 by_cases hin:i < kvs.length
 ·apply .inr %[%[hin|q],hz i ys H' hin p|λ x H2 yl=>?_];obtain⟨e,qa,k',v',e1,e2,e3⟩:=yl;subst e e2;exact ht i k' v' qa ys _ e1 e3 p
 ·have e:i=kvs.length:=⋯
  subst e;obtain⟨a1,a2⟩:=hd ys H' p;exact .inl %[%[O|q],a1|a2]
end L2
namespace PySem
open Sem (wp)
section
variable{prog:G1}{w:G3}{A:Around}{E:G4->G0->Prop}{s:G0}
theorem gH{v d:QP}{es:QS DictEntry}{ep:Nat}{Q:G4->G0->Prop}(hv:s.heap.IsItemsView v d)(hm:(∃o,s.heap.get? d=some o/\o.ExactDict/\o.data=.dict es ep))
  (hQ:Q (.ref s.heap.objs.size) { s with heap:=s.heap.push { cls:=.type "dict_itemiterator",data:=.fields #[.none,.bool false,.ref d,.int 0 0,.int es.size 0,.int ep 0,.none,.none] } }) :
  wpAny (model prog w) A (pyIter (.ref v)) Q E s:=by
 obtain⟨ov,hov,hcv,hdv⟩:=id hv;obtain⟨o,ho,hc,hdat⟩:=id hm;apply wpAny_pyIter_slot hv.typeIs F.slot_dict_items_iter (F7 F.slot_dict_items_iter hv.typeIs F.entry_dict_items_iter ?_ (F.args_dict_items_iter_1 _));unfold Builtin.«dict_items.__iter__»;apply A0 (A3 ?_);apply A0 ?_;unfold Builtin.Dict_items.dictOf;apply A0 (Qq hov hdv (x:=.ref d) rfl (A3 ?_));apply A0 ?_;unfold Builtin.Dict_items.newIterator;apply A0 (Q8 ho hdat ?_);apply A0 (RM ho hdat ?_);have hsz:es.size=es.size:=rfl;have hown:Builtin.Dict_items.ownsTuple "dict_itemiterator" = true:=∅
 simp only[hown,RL];apply F8 (A3 %[_,rfl,"dict_itemiterator",_,%[_,A9 _ rfl|rfl],F.slot_dict_itemiterator_next.lookup|?_])
  (by simp only[sizeOk,Builtin.Dict_items.ownedTupleFields,K2,J7,K1,QL,RN];lia)
 simpa[rawInt,hsz,Builtin.Dict_items.ownedTupleFields]using hQ
theorem eB{it d:QP}{i ep:Nat}{es:QS DictEntry}{en:DictEntry}{ok ov:G4}{Q:QR G4->G0->Prop}(hit:IsItemIter s.heap it d i es.size ep ok ov)
  (hm:(∃o,s.heap.get? d=some o/\o.ExactDict/\o.data=.dict es ep)) (hx:es[i]?=some en)
  (hQ:∀h',IsItemIterOut h' it d (i+1) es.size ep en.key en.val s.heap.objs.size ->
   h'.get? s.heap.objs.size=some { cls:=.type "tuple",data:=.seq #[en.key,en.val] }->h'.objs.size=s.heap.objs.size+1 ->
   (∀b o,b≠it->s.heap.get? b=some o->h'.get? b=some o)->Q (↑s.heap.objs.size) { s with heap:=h' }) :
  wpAny (model prog w) A (pyNext (.ref it)) Q E s:=by
 obtain⟨hp,g,dr,tk,os⟩:=s;obtain⟨od,hod,hcd,hdd⟩:=id hm;have hT:Shared.TypeIs %[hp,g,dr,tk|os] (.ref it) "dict_itemiterator" := %[_,hit|O]
 unfold pyNext;apply A0 (RJ (wpAny_callSpecial?_slot (name:=Str.ofString "__next__") hT Q6
  (F7 Q6 hT F.entry_dict_itemiterator_next ?_ (F.args_dict_itemiterator_next_1 _))))
 apply A0 (A3 ?_);apply A0 ?_;apply A0 ?_
 first | apply A0 (Q3 hT (A3 ?_)) | apply A0 (wpAny_typeNameOf_itemiter hT (A3 ?_))
 apply A0 (wpAny_fieldsOf hit rfl ?_);have hown:Builtin.Dict_items.ownsTuple "dict_itemiterator" = true:=∅
 simp only[hown,RL];show wpAny _ _ (if (Value.ref d == Value.none)=true then _ else _) _ _ _;rw[QZ (show¬ ((Value.ref d == Value.none)=true)from B3)];apply A0 (A3 ?_);apply A0 (Q8 hod hdd ?_);have hsz:es.size=es.size:=rfl;rw[QZ (by simp)];apply A0 (A3 ?_);apply A0 (RM hod hdd ?_);rw[QZ (by simp)];apply A3 ?_;have hlt:i < es.size:=by
  rcases QN i es.size with h | h
  ·exact h
  ·rw[N5 h]at hx;cases hx
 have hlt':i < es.size:=hlt;have hkey:es[i]=en:=by rw[N1 hlt']at hx;exact C0 hx
 subst hkey;simp only[show¬ ((i:Int) < 0)from by lia,Qv,M5,N1 hlt'];apply A0 ?_
 first | apply A0 (Q3 hT (A3 ?_)) | apply A0 (wpAny_typeNameOf_itemiter hT (A3 ?_))
 apply A0 (wpAny_isOneOf_itemiter hT ?_);show wpAny _ _ (setField (.ref it) 3 (rawInt ((i:Int)+1)) >>= _) _ _ %[hp,g,dr,tk|os];apply A0 (Qr hit (by simp) λ h₁ he₁ hs₁=>?_)
 replace hs₁:Heap.SameBut it hp h₁:=hs₁
 replace he₁:IsItemIter h₁ it d (i+1) es.size ep ok ov:=by
  have e:((i+1:Nat):Int)=(i:Int)+1:=⋯
  unfold IsItemIter;rw[e];simpa[rawInt]using he₁
 have hT₁:Shared.TypeIs %[h₁,g,dr,tk|os] (.ref it) "dict_itemiterator" := %[_,he₁|O]
 apply A0 (Qh ?_);apply A0 (wpAny_isOneOf_itemiter hT₁ ?_);apply A0 (wpAny_isOneOf_itemiter hT₁ ?_);show wpAny _ _ (Builtin.Dict_items.pairFromOwner (.ref it) 6 es[i].key es[i].val) _ _ %[h₁,g,dr,tk|os];unfold Builtin.Dict_items.pairFromOwner;apply A0 (wpAny_newTuple ?_);have he₂:IsItemIter (h₁.push { cls:=.type "tuple",data:=.seq #[es[i].key,es[i].val] }) it d (i+1) es.size ep ok ov:=A8 _ he₁;generalize hh₂:h₁.push { cls:=.type "tuple",data:=.seq #[es[i].key,es[i].val] }=h₂ at he₂;have hz₁:h₁.objs.size=hp.objs.size:=hs₁.1;have hil:it < hp.objs.size:=B0 hit;have ht₂:h₂.get? hp.objs.size=some { cls:=.type "tuple",data:=.seq #[es[i].key,es[i].val] }:=by rw[<- hh₂,<- hz₁];exact A9 _ rfl
 have hz₂:h₂.objs.size=hp.objs.size+1:=by rw[<- hh₂,Qi,hz₁]
 have hk₂:∀b o,b≠it->hp.get? b=some o->h₂.get? b=some o:=λ b o hb e=>by rw[<- hh₂];exact A8 _ (hs₁.extBut b o hb e)
 show wpAny _ _ (Builtin.Dict_items.ownedTupleIsFree (.ref it) >>= _) _ _ %[h₂,g,dr,tk|os];rw[hz₁];clear hh₂ he₁ hs₁ hT₁ hz₁ h₁;apply A0 ?_;unfold Builtin.Dict_items.ownedTupleIsFree;apply A0 (Qq he₂ rfl (x:=.none) rfl (A3 ?_));simp only[RL];apply A0 (Qq he₂ rfl (x:=ok) rfl ?_);apply A0 (Qq he₂ rfl (x:=ov) rfl ?_);apply A0 (Qr he₂ (by simp) λ h₃ he₃ hs₃=>?_)
 replace hs₃:Heap.SameBut it h₂ h₃:=hs₃
 replace he₃:IsItemIter h₃ it d (i+1) es.size ep es[i].key ov:=he₃
 apply A0 (Qr he₃ (by simp) λ h₄ he₄ hs₄=>?_)
 replace hs₄:Heap.SameBut it h₃ h₄:=hs₄
 replace he₄:IsItemIter h₄ it d (i+1) es.size ep es[i].key es[i].val:=he₄
 apply A0 (Qr he₄ (by simp) λ h₅ he₅ hs₅=>?_)
 replace hs₅:Heap.SameBut it h₄ h₅:=hs₅
 replace he₅:IsItemIterOut h₅ it d (i+1) es.size ep es[i].key es[i].val hp.objs.size:=he₅
 apply A0 (Qr he₅ (by simp) λ h₆ he₆ hs₆=>?_)
 replace hs₆:Heap.SameBut it h₅ h₆:=hs₆
 replace he₆:IsItemIterOut h₆ it d (i+1) es.size ep es[i].key es[i].val hp.objs.size:=he₆
 apply A0 (wpAny_letGo (A3 (A3 %[_,rfl|A3 (hQ h₆ he₆ ?_ ?_ ?_)])))
 ·exact hs₆.extBut _ _ (O1 hil) (hs₅.extBut _ _ (O1 hil) (hs₄.extBut _ _ (O1 hil) (hs₃.extBut _ _ (O1 hil) ht₂)))
 ·show h₆.objs.size=hp.objs.size+1;rw[hs₆.1,hs₅.1,hs₄.1,hs₃.1,hz₂]
 ·exactλ b o hb e=>hs₆.extBut b o hb (hs₅.extBut b o hb (hs₄.extBut b o hb (hs₃.extBut b o hb (hk₂ b o hb e))))
theorem eM{it d:QP}{i ep:Nat}{es:QS DictEntry}{ok ov:G4}{Q:QR G4->G0->Prop}(hh:A.handled=none)(hit:IsItemIter s.heap it d i es.size ep ok ov)
  (hm:(∃o,s.heap.get? d=some o/\o.ExactDict/\o.data=.dict es ep)) (hx:es[i]?=none)
  (hQ:∀h',Heap.ExtBut it s.heap h'->Q none { s with heap:=h' }):wpAny (model prog w) A (pyNext (.ref it)) Q E s:=by
 obtain⟨od,hod,hcd,hdd⟩:=id hm;have hT:s.TypeIs (.ref it) "dict_itemiterator" := %[_,hit|O]
 unfold pyNext;apply A0 (RJ (wpAny_callSpecial?_slot (name:=Str.ofString "__next__") hT Q6
  (F7 Q6 hT F.entry_dict_itemiterator_next ?_ (F.args_dict_itemiterator_next_1 _))))
 apply A0 (A3 ?_);apply A0 ?_;apply A0 ?_
 first | apply A0 (Q3 hT (A3 ?_)) | apply A0 (wpAny_typeNameOf_itemiter hT (A3 ?_))
 apply A0 (wpAny_fieldsOf hit rfl ?_);have hown:Builtin.Dict_items.ownsTuple "dict_itemiterator" = true:=∅
 simp only[hown,RL];show wpAny _ _ (if (Value.ref d == Value.none)=true then _ else _) _ _ s;rw[QZ (show¬ ((Value.ref d == Value.none)=true)from B3)];apply A0 (A3 ?_);apply A0 (Q8 hod hdd ?_);have hsz:es.size=es.size:=rfl;rw[QZ (by simp)];apply A0 (A3 ?_);apply A0 (RM hod hdd ?_);rw[QZ (by simp)];apply A3 ?_;have hge:es.size<=i:=by simpa using hx
 simp only[show¬ ((i:Int) < 0)from by lia,Qv,M5,N5 hge];apply A0 ?_
 first | apply A0 (Q3 hT (A3 ?_)) | apply A0 (wpAny_typeNameOf_itemiter hT (A3 ?_))
 show wpAny _ _ (setField (.ref it) 2 .none >>= _) _ _ s;apply A0 (wpAny_setField hit rfl (by simp) ?_);show wpAny _ _ (newExc (.type "StopIteration") [] >>= _) _ _ _;apply A0 ?_;simp only[newExc,newTuple];apply A0 (F8 ?_ (by size_fits));apply A0 (m:=firstArgMember _ _) (wpAny_of_eq (a:=Value.none) (by first | rfl | (simp only[firstArgMember];rfl)) ?_);apply F8 ?_ (by size_fits);simp only[raiseNew];apply A0 (wpAny_handled ?_);rw[show A.in1.handled=none from hh];apply A0 (A3 (wpAny_throw ?_));apply A0 (wpAny_isInstance (T := "StopIteration") (b:=true) %[_,A9 _ rfl|rfl] isSubtype_stop ?_);exact A3 (hQ _ (((Qo ..).extBut.push _).push _))
theorem kF:entryFor table "dict_itemiterator.__iter__" = some Builtin.«dict_keyiterator.__iter__» :=
 entryFor_alias (id' := "dict_keyiterator.__iter__") (by kernel_rfl) rfl ∅ (by kernel_rfl)
theorem fc{it d:QP}{i n ep:Nat}{ok ov:G4}{Q:G4->G0->Prop}(hit:IsItemIter s.heap it d i n ep ok ov)(h:Q (.ref it) s):wpAny (model prog w) A (pyIter (.ref it)) Q E s:=by
 have hT:s.TypeIs (.ref it) "dict_itemiterator" := %[_,hit|O]
 apply wpAny_pyIter_slot hT F.slot_dict_itemiterator_iter (F7 F.slot_dict_itemiterator_iter hT kF ?_ (F.args_dict_itemiterator_iter_1 _));show wpAny _ _ (ret (.ref it)) _ _ s;exact A3 %[_,rfl,"dict_itemiterator",_,hT,F.slot_dict_itemiterator_next.lookup|h]
theorem BO{d:QP}{o:Obj}{Q:G4->G0->Prop}(ho:s.heap.get? d=some o)(hc:o.ExactDict)(hz:(d == sysModules)=false)(h:Q (.ref s.heap.objs.size) { s with heap:=s.heap.push { cls:=.type "dict_items",data:=.fields #[.ref d] } }) :
  wpAny (model prog w) A (call (.builtin "dict.items") [.ref d]) Q E s:=by
 have ty:s.TypeIs (.ref d) "dict" := %[o,ho|hc.1]
 apply call_meetsIn (S:=λ _ R s'=>s'=s/\R (.ok (.ret (.ref s.heap.objs.size))) { s with heap:=s.heap.push { cls:=.type "dict_items",data:=.fields #[.ref d] } }) PySem.F.slot_dict_items ty PySem.F.entry_dict_items (PySem.F.args_dict_items_1 _) (.of_wp λ A R s' %[e|h]=>?_) %[rfl|h];subst e;unfold Builtin.«dict.items»;apply A0 ?_;unfold Builtin.Dict.noArgs;apply A0 (wpAny_notOrdered_dict ty ?_);show wpAny _ _ (pure d) _ _ s';apply A3 ?_;show wpAny _ _ (Builtin.Dict.showsAll d >>= _) _ _ s';unfold Builtin.Dict.showsAll;rw[QZ (by rw[hz];exact B3)];apply A0 (A3 ?_);exact A0 (F8 (A3 %[_,rfl|h]))
end
end PySem
namespace L2
open PySem PySem.Spec PyProof.Rows
def Iti(a:QP)(ob:Obj)(kvs:QT (QT Key×V)):It :=
 %[λ i H=>i < kvs.length/\H a=some (.frz ob (.dT kvs)),λ i H x H'=>∃p q k v,kvs[i]?=some (k,v)/\H p=none/\H q= ~~~(k.map kV)/\x=.ref p/\H'=upd H p (.tup [.ref q,v])|λ i H=>i=kvs.length/\H a=some (.frz ob (.dT kvs))]
theorem qQ{P:G1}{w:G3}{K:C6}{el:QT Expr}{kk:Nat}{tp:Pos}(a it:QP)(ob:Obj)(kvs:QT (QT Key×V))(es:QS DictEntry)(ep:Nat)(hx:ob.ExactDict)(hd:ob.data=.dict es ep)(hn:es.size=kvs.length) :
  Turn P w K (.Tuple el kk tp) (Iti a ob kvs) [it] it (λ i h=>∃ok ov,IsItemIter h it a i es.size ep ok ov) where
 mem:=by simp
 obj:=λ i h st b hb=>by
  have e:b=it:=by simpa using hb
  subst e;obtain⟨ok,ov,st⟩:=st;exact%[_,st|λ v z=>by cases z]
 keep:=λ i h h' ⟨ok,ov,st⟩ k=>%[ok,ov|k it (by simp) _ st]
 item:=by
  intro X hP hw hK hc i QV s σ H E I hf st hg;subst hP hw hK;obtain⟨hi,hH⟩:=hg;obtain⟨ok,ov,st⟩:=st;obtain⟨h1,_,_,xs,pr,o,es',ep',h2,_,h3,h4,_⟩:=(show ObjOk X.prog X.w H s.heap a (.frz ob (.dT kvs))from I.hok a _ hH)
  rw[h1]at h2;cases h2;rw[hd]at h3;cases h3;have hk:kvs[i]?=some kvs[i]:=F5 hi;obtain⟨⟨k',q,v'⟩,hy,e1,e2,e3⟩:=oE pr hk;have hen:es[i]?=some (entryOfKey (tupleKind (bq X.prog X.w)) (k',q,v')):=by rw[<- M4,h4,J3,hy];rfl
  have il:it < s.heap.objs.size:=B0 st;apply eB st %[ob,h1,hx|hd] hen λ h' b1 b2 b3 bk=>%[_,O|?_]
  apply wpAny_letOwnedTupleGo_items (s:={ s with heap:=h' }) b1 λ h'' c1 cs=>?_;have cs:Heap.SameBut it h' h'':=cs;have k2:∀b o,b∉[it]->s.heap.get? b=some o->h''.get? b=some o:=λ b o hb q=>by
   have hb:b≠it:=by simpa using hb
   exact cs.extBut b o hb (bk b o hb q)
  have I1:Inv X QV σ H { s with heap:=h'' }:=I.turnedN (t':=s.toks) hf k2;have hp:=cs.extBut _ _ (O1 il) b2;have hn0:H s.heap.objs.size=none:=I.hok.fresh (B4 _);have fpk:=I.fpOk (H':=H) (B4 _) hn0;have I2:Inv X QV σ (upd H s.heap.objs.size (.tup [.ref q,kvs[i].2])) { s with heap:=h'' }:=I1.track fpk I.sz %[by show 2<=sizeLine;decide,[.ref q,v'],.cons rfl (.cons e3 .nil),_,hp,O,_|O];apply%[.ref s.heap.objs.size,_,I2,O,%[_,q,_,_,hk,hn0,e2,O|O],%[_,_|c1]|λ b hb=>?_];have e:b=it:=by simpa using hb
  subst e;rw[am (C1 il)];exact(hf b hb).1
 done:=by
  intro X hP hw hK hc i QV s σ H E I hf st hg;subst hP hw hK;obtain⟨hi,hH⟩:=hg;obtain⟨ok,ov,st⟩:=st;obtain⟨h1,_⟩:=(show ObjOk X.prog X.w H s.heap a (.frz ob (.dT kvs))from I.hok a _ hH)
  obtain⟨f0,f1,f2,f3,f4,f5⟩:=hf it (by simp);exact eM (I.ok.hd hc) st %[ob,h1,hx|hd] (by rw[N5];lia) λ h' eb=>%[O|I.turned (t':=s.toks) (λ b o hb e=>eb b o hb e) f0 f1 f3 f4 f5]
 self:=λ A i s Q E ⟨ok,ov,st⟩ h=>fc st h
section
variable{X:Cx}
def BP(tl:TE):TI:=λ σ H R=>tl σ H λ x H1=>∃a kvs,x=.ref a/\H1 a=some (.dT kvs)/\∀ob,R (Iti a ob kvs) (upd H1 a (.frz ob (.dT kvs)))
theorem oG{l:Expr}{tl:TE}{apos cpos tp:Pos}{el:QT Expr}{kk:Nat}(hl:PE X l tl)
  (hbase:attributeBase l "items" X.env (eval l X.env)=eval l X.env:=by rfl) (hline:(apos.endLine == cpos.line)=true:=by rfl):PI X (.Tuple el kk tp) (.Call (.Attribute l "items" apos) [] [] cpos) (BP tl):=by
 intro QV s σ H R I h;apply wpAny_Call_method0_late hbase hline (thn (hl QV s σ H _ I h) ?_);rintro v s1 ⟨x,H1,I1,r1,a,kvs,e,hH,q⟩;subst e;cases r1;obtain⟨hz,hs,xs,pr,o,es,ep,h1,h2,h3,h4,h5⟩:=(show ObjOk X.prog X.w H1 s1.heap a (.dT kvs)from I1.hok a _ hH)
 have hn:es.size=kvs.length:=by rw[lU pr,<- N2,h4,B5]
 have I2:Inv X QV σ (upd H1 a (.frz o (.dT kvs))) s1:=by
  have:=I1.write (x:=a) (e:=a) (o:=.frz o (.dT kvs)) (h':=s1.heap) (t':=s1.toks) (by rw[hH];trivial) (.inl rfl) (λ b u _ e=>e) %[o|h1] %[h1,hz,hs,xs,?_,o,es,ep,h1,h2,h3,h4|h5]
  ·exact this
  ·apply xE pr λ p q %[e1,e2|e3]=>%[e1,?_|e3]
   rw[am (λ z=>by rw[z,hH]at e2;cases e2)];exact e2
 apply⟨"dict","dict.items",PySem.F.plainAttrs_dict,PySem.F.slot_dict_items,PySem.F.type_dict_items,%[o,h1|h2.1],(λ b e2=>by cases e2;exact%[o,h1|h2.2.1]),Calls.callWith_builtin rfl (PySem.evalArgs_none (BO h1 h2 hs ?_))⟩;have h1':(s1.heap.push { cls:=.type "dict_items",data:=.fields #[.ref a] }).get? a=some o:=A8 _ h1;apply gH (d:=a) (es:=es) (ep:=ep) %[_,A9 _ rfl,rfl|rfl] %[o,h1',h2|h3] ?_;apply%[_,[_],_,_,_,O,I2.kept (t':=s1.toks) λ b o e=>A8 _ (A8 _ e),qQ a _ o kvs es ep h2 h3 hn,%[_,_|A9 _ rfl],λ b hb=>?_|q o];have e:b=(s1.heap.push { cls:=.type "dict_items",data:=.fields #[.ref a] }).objs.size:=by simpa using hb
 have hb':s1.heap.objs.size<=b:=by rw[e,Qi];lia
 exact I2.fpOk hb' (I2.hok.fresh hb')
end
end L2
namespace PyProof.Rows
set_option autoImplicit false
open PySem
def zX:Bool->QQ->QS QQ->Nat->Nat->Nat->StateT SortSt Sem (QR Nat):=sortPriv% PySem.Builtin.gallop
def xG:QS QQ->QS QQ->StateT SortSt Sem (QS QQ):=sortPriv% PySem.Builtin.mergeLo
def xH:QS QQ->QS QQ->StateT SortSt Sem (QS QQ):=sortPriv% PySem.Builtin.mergeHi
def KdA(κ:KeyKind)(a:QS QQ):Prop:=∀(i:Nat)(p:QQ),a[i]?=some p->∃k,κ.keyOf p.1=some k
section
variable{prog:G1}{w:G3}{A:Around}{E:G4->G0->Prop}{s:G0}{κ:KeyKind}{κ0:SortKind}
theorem iA(hO:bo prog w A s κ0 κ){st:SortSt}{x y:QQ}{Q:QR Bool->SortSt->Prop}(hk:kindOf st=κ0)(hx:∃k,κ.keyOf x.1=some k)(hy:∃k,κ.keyOf y.1=some k)
  (h:∀b,Q (some b) st):wpS (model prog w) A E s (lt' x y) Q st:=by
 obtain⟨a,ha⟩:=hx;obtain⟨b,hb⟩:=hy;rw[lt'_eq];apply A4 (RI ?_);rw[hk];apply A4 (wpS_lift (RJ (hO _ _ _ a b _ ha hb %[rfl|?_])));exact A5 (h _)
theorem bp{st:SortSt}{arr:QS QQ}{i:Nat}{Q:QQ->SortSt->Prop}(hi:i < arr.size)(h:∀p,arr[i]?=some p->Q p st):wpS (model prog w) A E s (elem' arr i) Q st:=by rw[elem'_eq,getElem?_pos arr i hi];exact A5 (h _ (getElem?_pos arr i hi))
theorem cR(hO:bo prog w A s κ0 κ){st:SortSt}{left:Bool}{key:QQ}{arr:QS QQ}{base n hint:Nat}{Q:QR Nat->SortSt->Prop}(hk:kindOf st=κ0)(hn:base+n<=arr.size)(hh:hint < n)
  (ha:KdA κ arr) (hy:∃k,κ.keyOf key.1=some k) (h:∀k,k<=n->Q (some k) st):wpS (model prog w) A E s (zX left key arr base n hint) Q st:=by
 have ask:∀(i:Nat),i < n->∀(R:QR Bool->SortSt->Prop),(∀b,R (some b) st)->wpS (model prog w) A E s (elem' arr (base+i) >>= λ x=>if left=true then lt' x key else lt' key x >>= λ r=>pure (r.map (!·))) R st:=by
  intro i hi R hR;apply A4 (bp ⋯ λ p hp=>?_)
  split
  ·exact iA hO hk (ha _ _ hp) hy hR
  ·exact A4 (iA hO hk hy (ha _ _ hp) λ b=>A5 (hR _))
 apply A4 (ask hint hh _ λ b=>?_);dsimp only
 split
 ·apply A4 (Qm (Qe (I:=λ _ c st'=>c.1=none/\st'=st) (Q:=λ c st'=>c.1=none/\st'=st) ?_ (λ c st' hc=>hc) %[rfl|rfl]) ?_)
  ·rintro i ⟨r,lo,ofs⟩ st' _ _ ⟨h1,rfl⟩;dsimp only at h1 ⊢
   split
   ·exact A5 %[rfl|rfl]
   ·apply A4 (ask _ ⋯ _ λ b=>?_);dsimp only
    split
    ·exact A5 %[rfl|rfl]
    ·exact A5 %[rfl|rfl]
  ·rintro⟨r,lo,ofs⟩ st' ⟨h1,rfl⟩;dsimp only at h1 ⊢;subst h1;apply A4 (Qm (Qe (I:=λ _ c st2=>c.1=none/\c.2.2<=n/\st2=st') (Q:=λ c st2=>c.1=none/\c.2.2<=n/\st2=st') ?_ (λ c st2 hc=>hc) %[rfl,!⋯|rfl]) ?_)
   ·rintro i ⟨r,l2,h2⟩ st2 _ _ ⟨g1,g2,rfl⟩;dsimp only at g1 g2 ⊢
    split
    ·exact A5 %[rfl,g2|rfl]
    ·apply A4 (ask _ ⋯ _ λ b=>?_);dsimp only
     split
     ·exact A5 %[rfl,g2|rfl]
     ·exact A5 %[rfl,!⋯|rfl]
   ·rintro⟨r,l2,h2⟩ st2 ⟨g1,g2,rfl⟩;dsimp only at g1 g2 ⊢;subst g1;exact A5 (h _ g2)
 ·apply A4 (Qm (Qe (I:=λ _ c st'=>c.1=none/\st'=st) (Q:=λ c st'=>c.1=none/\st'=st) ?_ (λ c st' hc=>hc) %[rfl|rfl]) ?_)
  ·rintro i ⟨r,lo,ofs⟩ st' _ _ ⟨h1,rfl⟩;dsimp only at h1 ⊢
   split
   ·exact A5 %[rfl|rfl]
   ·apply A4 (ask _ ⋯ _ λ b=>?_);dsimp only
    split
    ·exact A5 %[rfl|rfl]
    ·exact A5 %[rfl|rfl]
  ·rintro⟨r,lo,ofs⟩ st' ⟨h1,rfl⟩;dsimp only at h1 ⊢;subst h1;apply A4 (Qm (Qe (I:=λ _ c st2=>c.1=none/\c.2.2<=n/\st2=st') (Q:=λ c st2=>c.1=none/\c.2.2<=n/\st2=st') ?_ (λ c st2 hc=>hc) %[rfl,!⋯|rfl]) ?_)
   ·rintro i ⟨r,l2,h2⟩ st2 _ _ ⟨g1,g2,rfl⟩;dsimp only at g1 g2 ⊢
    split
    ·exact A5 %[rfl,g2|rfl]
    ·apply A4 (ask _ ⋯ _ λ b=>?_);dsimp only
     split
     ·exact A5 %[rfl,g2|rfl]
     ·exact A5 %[rfl,!⋯|rfl]
   ·rintro⟨r,l2,h2⟩ st2 ⟨g1,g2,rfl⟩;dsimp only at g1 g2 ⊢;subst g1;exact A5 (h _ g2)
theorem aq{α:Type}{c:Prop}[Decidable c]{x y:StateT SortSt Sem α}{Q:α->SortSt->Prop}{st:SortSt}(h1:c->wpS (model prog w) A E s x Q st)(h2:¬ c->wpS (model prog w) A E s y Q st):wpS (model prog w) A E s (if c then x else y) Q st:=by
 split
 ·exact h1 ‹_›
 ·exact h2 ‹_›
def SameG(st st':SortSt):Prop:=kindOf st'=kindOf st/\arrOf st'=arrOf st/\pendingOf st'=pendingOf st/\failedOf st'=failedOf st
theorem SameG.rfl'{st:SortSt}:SameG st st:=%[O,O,O|O]
theorem oH(a:QS QQ)(i:Nat):(a.extract i a.size).toList=a.toList.drop i:=by rw[Array.toList_extract,PY];exact K6 (by simp)
theorem se(a:QS QQ)(i k:Nat):(a.extract i (i+k)).toList ++ a.toList.drop (i+k)=a.toList.drop i:=by rw[Array.toList_extract,PY,show i+k - i=k by lia,<- List.drop_drop];exact List.take_append_drop k _
theorem si{a:QS QQ}{i:Nat}{p:QQ}(e:a[i]?=some p):a.toList.drop i=p :: a.toList.drop (i+1):=by rw[<- M4]at e;obtain⟨h,rfl⟩:=A7.mp e;exact PK h
def MLo(a b out:QS QQ)(ia ib:Nat):Prop:=(out.toList ++ a.toList.drop ia ++ b.toList.drop ib).Perm (a.toList ++ b.toList)
theorem MLo.done{a b out:QS QQ}{ia ib:Nat}(h:MLo a b out ia ib):(out ++ a.extract ia a.size ++ b.extract ib b.size).Perm (a ++ b):=by rw[M8];simp only[O2,oH];exact h
theorem MLo.last{a b out:QS QQ}{ia ib:Nat}(h:MLo a b out ia ib):(out ++ b.extract ib b.size ++ a.extract ia a.size).Perm (a ++ b):=by rw[M8];simp only[O2,oH];apply E5 ?_ h;rw[K5,K5];exact PL _ PU
theorem MLo.pb{a b out:QS QQ}{ia ib:Nat}{p:QQ}(h:MLo a b out ia ib)(e:b[ib]?=some p):MLo a b (out.push p) ia (ib+1):=by unfold MLo at h ⊢;rw[si e]at h;apply E5 ?_ h;rw[PF];simp only[K5];exact PL _ (List.perm_middle (a:=p) (l₁:=a.toList.drop ia) (l₂:=b.toList.drop (ib+1))).symm
theorem MLo.pa{a b out:QS QQ}{ia ib:Nat}{p:QQ}(h:MLo a b out ia ib)(e:a[ia]?=some p):MLo a b (out.push p) (ia+1) ib:=by unfold MLo at h ⊢;rw[si e]at h;rw[PF];simpa only[K5,List.cons_append,List.nil_append]using h
theorem MLo.ca{a b out:QS QQ}{ia ib:Nat}(h:MLo a b out ia ib)(k:Nat):MLo a b (out ++ a.extract ia (ia+k)) (ia+k) ib:=by unfold MLo at h ⊢;rw[<- se a ia k]at h;rw[O2];simpa only[K5]using h
theorem MLo.cb{a b out:QS QQ}{ia ib:Nat}(h:MLo a b out ia ib)(k:Nat):MLo a b (out ++ b.extract ib (ib+k)) ia (ib+k):=by unfold MLo at h ⊢;rw[<- se b ib k]at h;apply E5 ?_ h;rw[O2];simp only[K5];apply PL _ ?_;rw[<- K5,<- K5];exact PQ _ PU
theorem sj{α:Type}{m:StateT SortSt Sem α}{Q:α->SortSt->Prop}{st:SortSt}(h:∀Q':α->SortSt->Prop,(∀a st',Q a st'->Q' a st')->wpS (model prog w) A E s m Q' st):wpS (model prog w) A E s m Q st:=h Q λ _ _ z=>z
theorem sk{α:Type}{c:Prop}[Decidable c]{jp:Unit->Nat->StateT SortSt Sem α}{x y:Nat}{Q:α->SortSt->Prop}{st:SortSt}(h:∀g,wpS (model prog w) A E s (jp () g) Q st):wpS (model prog w) A E s (if c then jp () x else jp () y) Q st:=aq (λ _=>h _) (λ _=>h _)
def BQ:Nat->StateT SortSt Sem Unit:=sortPriv% PySem.Builtin.setMinGallop
theorem oI{g:Nat}{Q:Unit->SortSt->Prop}{st:SortSt}(h:∀st',SameG st st'->Q () st'):wpS (model prog w) A E s (BQ g) Q st:=Qy (h _ %[rfl,rfl,rfl|rfl])
theorem SameG.trans{st st' st'':SortSt}(a:SameG st st')(b:SameG st' st''):SameG st st'':=%[b.1.trans a.1,b.2.1.trans a.2.1,b.2.2.1.trans a.2.2.1|b.2.2.2.trans a.2.2.2]
theorem oJ(hO:bo prog w A s κ0 κ){st:SortSt}{a b:QS QQ}{Q:QS QQ->SortSt->Prop}(hk:kindOf st=κ0)(ha:KdA κ a)(hb:KdA κ b)(la:1<=a.size)(lb:1<=b.size)
  (h:∀r st',r.Perm (a ++ b)->SameG st st'->Q r st'):wpS (model prog w) A E s (xG a b) Q st:=by
 apply A4 (wpS_lift (Qs %[rfl|?_]));apply A4 (bp ⋯ λ p hp=>?_);have m0:MLo a b #[p] 0 1:=by
  have:MLo a b #[] 0 0:=by unfold MLo;simp
  exact this.pb hp
 dsimp -zeta only
 extract_lets
 apply aq (λ c1=>A5 (h _ _ m0.done .rfl')) (λ c1=>?_);apply aq (λ c2=>A5 (h _ _ m0.last .rfl')) (λ c2=>?_);simp only[Qd]at c1 c2;apply A4 (RI ?_);apply A4 (Qm (Qe (I:=λ x c st2=>SameG st st2/\c.1=none/\MLo a b c.2.1 c.2.2.1 c.2.2.2.1/\c.2.2.1+1 < a.size/\c.2.2.2.1 < b.size/\x+1<=c.2.2.1+c.2.2.2.1)
  (Q:=λ c st2=>SameG st st2/\∃r,c.1=some r/\r.Perm (a ++ b)) ?step ?fin %[.rfl',rfl,m0,!⋯,!⋯|!⋯]) ?post)
 case fin=>
  rintro⟨r,out,ia,ib,mg⟩ st2 ⟨hs,h1,hm,b1,b2,b3⟩;dsimp only at b1 b2 b3;exact absurd b3 ⋯
 case post=>
  rintro⟨r,out,ia,ib,mg⟩ st2 ⟨hs,r',h1,hr⟩;dsimp -zeta only at h1 ⊢;subst h1;exact A5 (h _ _ hr hs)
 case step=>
  clear c1 c2 m0 la lb;rintro x ⟨r,out,ia,ib,mg⟩ st2 _ hx ⟨hs,h1,hm,b1,b2,b3⟩;dsimp -zeta only at h1 hm b1 b2 b3 ⊢;apply A4 (Qm (Qe (I:=λ y c st3=>st3=st2/\c.1=none/\MLo a b c.2.1 c.2.2.1 c.2.2.2.1/\c.2.2.1+1 < a.size/\c.2.2.2.1 < b.size/\x+1+min y 1<=c.2.2.1+c.2.2.2.1)
   (Q:=λ c st3=>SameG st st3/\((∃r,c.1=some r/\r.Perm (a ++ b))\/(c.1=none/\MLo a b c.2.1 c.2.2.1 c.2.2.2.1/\c.2.2.1+1 < a.size/\c.2.2.2.1 < b.size/\x+2<=c.2.2.1+c.2.2.2.1))) ?s1 ?f1 %[rfl,rfl,hm,b1,b2|!⋯]) ?p1)
  case f1=>
   rintro⟨r,out,ia,ib,ac,bc⟩ st3 ⟨rfl,g1,g2,g3,g4,g5⟩;dsimp only at g1 g2 g3 g4 g5;exact%[hs|.inr %[g1,g2,g3,g4|!⋯]]
  case s1=>
   clear hm b1 b2 b3 hx;rintro y ⟨r,out,ia,ib,ac,bc⟩ st3 _ hy ⟨rfl,g1,hm,b1,b2,b3⟩;have sg:=hs;dsimp only at g1 hm b1 b2 b3 ⊢;apply A4 (bp ⋯ λ p1 hp1=>?_);apply A4 (bp ⋯ λ p2 hp2=>?_);apply A4 (iA hO (sg.1.trans hk) (hb _ _ hp1) (ha _ _ hp2) λ bw=>?_);dsimp only;apply aq (λ c5=>?_) (λ c5=>?_)
   ·apply A4 (bp ⋯ λ q hq=>?_);apply aq (λ c2=>?_) (λ c2=>?_)
    ·simp only[Qd]at c2;exact A5 %[sg|.inl %[_,rfl|(hm.pb hq).done]]
    ·simp only[Qd]at c2;apply aq (λ c1=>?_) (λ c1=>?_)
     ·exact A5 %[sg|.inr %[rfl,hm.pb hq,!⋯,!⋯|!⋯]]
     ·exact A5 %[rfl,rfl,hm.pb hq,!⋯,!⋯|!⋯]
   ·apply A4 (bp ⋯ λ q hq=>?_);apply aq (λ c4=>?_) (λ c4=>?_)
    ·simp only[Qd]at c4;exact A5 %[sg|.inl %[_,rfl|(hm.pa hq).last]]
    ·simp only[Qd]at c4;apply aq (λ c3=>?_) (λ c3=>?_)
     ·exact A5 %[sg|.inr %[rfl,hm.pa hq,!⋯,!⋯|!⋯]]
     ·exact A5 %[rfl,rfl,hm.pa hq,!⋯,!⋯|!⋯]
  case p1=>
   clear hm b1 b2 b3 hx;rintro⟨r,out,ia,ib,ac,bc⟩ st3 ⟨hs,(⟨r',h1,hr⟩ | ⟨h1,hm,b1,b2,b3⟩)⟩
   ·dsimp -zeta only at h1 ⊢;subst h1;exact A5 %[hs,r',rfl|hr]
   ·dsimp -zeta only at h1 hm b1 b2 b3 ⊢;subst h1;apply A4 (wpS_lift (Qs %[rfl|?_]));apply A4 (Qm (Qe (I:=λ y c st3=>SameG st st3/\c.1=none/\MLo a b c.2.1 c.2.2.1 c.2.2.2.1/\c.2.2.1+1 < a.size/\c.2.2.2.1 < b.size/\x+2<=c.2.2.1+c.2.2.2.1)
     (Q:=λ c st3=>SameG st st3/\((∃r,c.1=some r/\r.Perm (a ++ b))\/(c.1=none/\MLo a b c.2.1 c.2.2.1 c.2.2.2.1/\c.2.2.1+1 < a.size/\c.2.2.2.1 < b.size/\x+2<=c.2.2.1+c.2.2.2.1))) ?s2 ?f2 %[hs,rfl,hm,b1,b2|b3]) ?p2)
    case f2=>exactλ c st3 z=>%[z.1|.inr z.2]
    case p2=>
     clear hm b1 b2 b3;rintro⟨r,out,ia,ib,mg,ac,bc⟩ st3 ⟨hs,(⟨r',h1,hr⟩ | ⟨h1,hm,b1,b2,b3⟩)⟩
     ·dsimp -zeta only at h1 ⊢;subst h1;exact A5 %[hs,r',rfl|hr]
     ·dsimp -zeta only at h1 hm b1 b2 b3 ⊢;subst h1;exact A4 (Qy (A5 %[hs,rfl,hm,b1,b2|!⋯]))
    case s2=>
     clear hm b1 b2 b3;rintro y ⟨r,out,ia,ib,mg,ac,bc⟩ st2 _ hy ⟨hs,g1,hm,b1,b2,b3⟩;dsimp only at g1 hm b1 b2 b3;apply sj λ Qx hQ=>?_
     extract_lets
     apply sk λ mg=>?_;dsimp -zeta +zetaDelta only;apply A4 (oI λ st3 sg3=>?_);have sg:=hs.trans sg3;apply A4 (bp ⋯ λ p1 hp1=>?_);apply A4 (cR hO (sg.1.trans hk) ⋯ ⋯ ha (hb _ _ hp1) λ k1 hk1=>?_);dsimp -zeta only
     extract_lets _ jp1
     have hj1:∀o i,MLo a b o i ib->i+1 < a.size->x+2<=i+ib->wpS (model prog w) A E s (jp1 () o i) Qx st3:=by
      clear hm b1 b3 g1 hy;intro out ia m1 b1 b3;dsimp -zeta only[jp1];apply A4 (bp ⋯ λ q hq=>?_)
      try extract_lets
      apply aq (λ c5=>?_) (λ c5=>?_)
      ·simp only[Qd]at c5;exact A5 (hQ _ _ %[sg|.inl %[_,rfl|(m1.pb hq).done]])
      ·simp only[Qd]at c5;apply A4 (bp ⋯ λ q2 hq2=>?_);apply A4 (cR hO (sg.1.trans hk) ⋯ ⋯ hb (ha _ _ hq2) λ k2 hk2=>?_);dsimp -zeta only
       extract_lets _ jp2
       have hj2:∀o i,MLo a b o ia i->i < b.size->x+2<=ia+i->wpS (model prog w) A E s (jp2 () o i) Qx st3:=by
        intro o i m2 h1 h2;dsimp -zeta only[jp2];apply A4 (bp ⋯ λ q3 hq3=>?_);dsimp only;apply aq (λ c2=>?_) (λ c2=>?_)
        ·simp only[Qd]at c2;exact A5 (hQ _ _ %[sg|.inl %[_,rfl|(m2.pa hq3).last]])
        ·simp only[Qd]at c2;apply aq (λ c1=>?_) (λ c1=>?_)
         ·exact A5 (hQ _ _ %[sg|.inr %[rfl,m2.pa hq3,!⋯,!⋯|!⋯]])
         ·exact A5 (hQ _ _ %[sg,rfl,m2.pa hq3,!⋯,!⋯|!⋯])
       apply aq (λ c4=>?_) (λ c4=>?_)
       ·try extract_lets
        apply aq (λ c3=>?_) (λ c3=>?_)
        ·simp only[Qd]at c3;exact A5 (hQ _ _ %[sg|.inl %[_,rfl|((m1.pb hq).cb k2).done]])
        ·simp only[Qd]at c3;exact hj2 _ _ ((m1.pb hq).cb k2) ⋯ ⋯
       ·exact hj2 _ _ (m1.pb hq) ⋯ ⋯
     apply aq (λ c8=>?_) (λ c8=>?_)
     ·try extract_lets
      apply aq (λ c7=>?_) (λ c7=>?_)
      ·simp only[Qd]at c7;exact A5 (hQ _ _ %[sg|.inl %[_,rfl|(hm.ca k1).last]])
      ·simp only[Qd]at c7;apply aq (λ c6=>?_) (λ c6=>?_)
       ·simp only[Qd]at c6;exact A5 (hQ _ _ %[sg|.inl %[_,rfl|(hm.ca k1).done]])
       ·simp only[Qd]at c6;exact hj1 _ _ (hm.ca k1) ⋯ ⋯
     ·exact hj1 _ _ hm ⋯ ⋯
theorem sr{a:QS QQ}{i:Nat}{p:QQ}(e:a[i]?=some p):a.toList.take (i+1)=a.toList.take i ++ [p]:=by rw[<- M4]at e;obtain⟨h,rfl⟩:=A7.mp e;rw[List.take_succ,F5 h];rfl
theorem oK(a:QS QQ)(i:Nat):(a.extract 0 i).toList=a.toList.take i:=by rw[Array.toList_extract,PY];simp
theorem iB(a:QS QQ){i n:Nat}(h:i<=n):a.toList.take i ++ (a.extract i n).toList=a.toList.take n:=by
 obtain⟨k,rfl⟩:∃k,n=i+k:=%[n - i|⋯]
 rw[Array.toList_extract,PY,show i+k - i=k by lia];exact List.take_add.symm
def MHi(a b out:QS QQ)(na nb:Nat):Prop:=(a.toList.take na ++ b.toList.take nb ++ out.toList.reverse).Perm (a.toList ++ b.toList)
theorem MHi.done{a b out:QS QQ}{na nb:Nat}(h:MHi a b out na nb):(a.extract 0 na ++ b.extract 0 nb ++ out.reverse).Perm (a ++ b):=by rw[M8];simp only[O2,oK,Array.toList_reverse];exact h
theorem MHi.first{a b out:QS QQ}{na nb:Nat}(h:MHi a b out na nb):(b.extract 0 nb ++ a.extract 0 na ++ out.reverse).Perm (a ++ b):=by rw[M8];simp only[O2,oK,Array.toList_reverse];exact E5 (PQ _ PU) h
theorem MHi.cb{a b out:QS QQ}{na nb i:Nat}(h:MHi a b out na nb)(hi:i<=nb):MHi a b (out ++ (b.extract i nb).reverse) na i:=by unfold MHi at h ⊢;rw[<- iB b hi]at h;rw[O2,Array.toList_reverse,List.reverse_append,List.reverse_reverse];simpa only[K5]using h
theorem MHi.ca{a b out:QS QQ}{na nb i:Nat}(h:MHi a b out na nb)(hi:i<=na):MHi a b (out ++ (a.extract i na).reverse) i nb:=by unfold MHi at h ⊢;rw[<- iB a hi]at h;apply E5 ?_ h;rw[O2,Array.toList_reverse,List.reverse_append,List.reverse_reverse];simp only[K5];apply PL _ ?_;rw[<- K5,<- K5];exact PQ _ PU
theorem MHi.pb{a b out:QS QQ}{na nb:Nat}{p:QQ}(h:MHi a b out na nb)(h1:1<=nb)(e:b[nb - 1]?=some p):MHi a b (out.push p) na (nb - 1):=by unfold MHi at h ⊢;rw[<- show nb - 1+1=nb by lia,sr e]at h;rw[PF,List.reverse_append];simpa only[K5,List.reverse_cons,List.reverse_nil,List.nil_append]using h
theorem MHi.pa{a b out:QS QQ}{na nb:Nat}{p:QQ}(h:MHi a b out na nb)(h1:1<=na)(e:a[na - 1]?=some p):MHi a b (out.push p) (na - 1) nb:=by unfold MHi at h ⊢;rw[<- show na - 1+1=na by lia,sr e]at h;apply E5 ?_ h;rw[PF,List.reverse_append];simp only[K5,List.reverse_cons,List.reverse_nil,List.nil_append];apply PL _ ?_;rw[<- K5,<- K5];exact PQ _ PU
theorem oM(hO:bo prog w A s κ0 κ){st:SortSt}{a b:QS QQ}{Q:QS QQ->SortSt->Prop}(hk:kindOf st=κ0)(ha:KdA κ a)(hb:KdA κ b)(la:1<=a.size)(lb:1<=b.size)
  (h:∀r st',r.Perm (a ++ b)->SameG st st'->Q r st'):wpS (model prog w) A E s (xH a b) Q st:=by
 apply A4 (wpS_lift (Qs %[rfl|?_]));apply A4 (bp ⋯ λ p hp=>?_);have m0:MHi a b #[p] (a.size - 1) b.size:=by
  have:MHi a b #[] a.size b.size:=by unfold MHi;rw[K6 (by simp),K6 (by simp)];simp
  exact this.pa la hp
 dsimp -zeta only
 extract_lets
 apply aq (λ c1=>A5 (h _ _ m0.done .rfl')) (λ c1=>?_);apply aq (λ c2=>A5 (h _ _ m0.first .rfl')) (λ c2=>?_);simp only[Qd]at c1 c2;apply A4 (RI ?_);apply A4 (Qm (Qe (I:=λ x c st2=>SameG st st2/\c.1=none/\MHi a b c.2.2.2.1 c.2.1 c.2.2.1/\1<=c.2.1/\c.2.1 < a.size/\2<=c.2.2.1/\c.2.2.1<=b.size/\x+1+c.2.1+c.2.2.1<=a.size+b.size)
  (Q:=λ c st2=>SameG st st2/\∃r,c.1=some r/\r.Perm (a ++ b)) ?step ?fin %[.rfl',rfl,m0,!⋯,!⋯|!⋯]) ?post)
 case fin=>
  rintro⟨r,ia,ib,out,mg⟩ st2 ⟨hs,h1,hm,b1,b2,b3⟩;dsimp only at b1 b2 b3;exact absurd b3 ⋯
 case post=>
  rintro⟨r,ia,ib,out,mg⟩ st2 ⟨hs,r',h1,hr⟩;dsimp -zeta only at h1 ⊢;subst h1;exact A5 (h _ _ hr hs)
 case step=>
  clear c1 c2 m0 la lb;rintro x ⟨r,ia,ib,out,mg⟩ st2 _ hx ⟨hs,h1,hm,b1,b2,b3⟩;dsimp -zeta only at h1 hm b1 b2 b3 ⊢;apply A4 (Qm (Qe (I:=λ y c st3=>st3=st2/\c.1=none/\MHi a b c.2.2.2.1 c.2.1 c.2.2.1/\1<=c.2.1/\c.2.1 < a.size/\2<=c.2.2.1/\c.2.2.1<=b.size/\x+1+min y 1+c.2.1+c.2.2.1<=a.size+b.size)
   (Q:=λ c st3=>SameG st st3/\((∃r,c.1=some r/\r.Perm (a ++ b))\/(c.1=none/\MHi a b c.2.2.2.1 c.2.1 c.2.2.1/\1<=c.2.1/\c.2.1 < a.size/\2<=c.2.2.1/\c.2.2.1<=b.size/\x+2+c.2.1+c.2.2.1<=a.size+b.size))) ?s1 ?f1 %[rfl,rfl,hm,b1,b2|!⋯]) ?p1)
  case f1=>
   rintro⟨r,ia,ib,out,ac,bc⟩ st3 ⟨rfl,g1,g2,g3,g4,g5⟩;dsimp only at g1 g2 g3 g4 g5;exact%[hs|.inr %[g1,g2,g3,g4|!⋯]]
  case s1=>
   clear hm b1 b2 b3 hx;rintro y ⟨r,ia,ib,out,ac,bc⟩ st3 _ hy ⟨rfl,g1,hm,b1,b2,b3⟩;have sg:=hs;dsimp only at g1 hm b1 b2 b3 ⊢;apply A4 (bp ⋯ λ p1 hp1=>?_);apply A4 (bp ⋯ λ p2 hp2=>?_);apply A4 (iA hO (sg.1.trans hk) (hb _ _ hp1) (ha _ _ hp2) λ bw=>?_);dsimp only;apply aq (λ c10=>?_) (λ c10=>?_)
   ·apply A4 (bp ⋯ λ q hq=>?_);apply aq (λ c7=>?_) (λ c7=>?_)
    ·simp only[Qd]at c7;exact A5 %[sg|.inl %[_,rfl|(hm.pa ⋯ hq).done]]
    ·simp only[Qd]at c7;apply aq (λ c6=>?_) (λ c6=>?_)
     ·exact A5 %[sg|.inr %[rfl,(hm.pa ⋯ hq),!⋯,!⋯|!⋯]]
     ·exact A5 %[rfl,rfl,(hm.pa ⋯ hq),!⋯,!⋯|!⋯]
   ·apply A4 (bp ⋯ λ q hq=>?_);apply aq (λ c9=>?_) (λ c9=>?_)
    ·simp only[Qd]at c9;exact A5 %[sg|.inl %[_,rfl|(hm.pb ⋯ hq).first]]
    ·simp only[Qd]at c9;apply aq (λ c8=>?_) (λ c8=>?_)
     ·exact A5 %[sg|.inr %[rfl,(hm.pb ⋯ hq),!⋯,!⋯|!⋯]]
     ·exact A5 %[rfl,rfl,(hm.pb ⋯ hq),!⋯,!⋯|!⋯]
  case p1=>
   clear hm b1 b2 b3 hx;rintro⟨r,ia,ib,out,ac,bc⟩ st3 ⟨hs,(⟨r',h1,hr⟩ | ⟨h1,hm,b1,b2,b3⟩)⟩
   ·dsimp -zeta only at h1 ⊢;subst h1;exact A5 %[hs,r',rfl|hr]
   ·dsimp -zeta only at h1 hm b1 b2 b3 ⊢;subst h1;apply A4 (wpS_lift (Qs %[rfl|?_]));apply A4 (Qm (Qe (I:=λ y c st3=>SameG st st3/\c.1=none/\MHi a b c.2.2.2.1 c.2.1 c.2.2.1/\1<=c.2.1/\c.2.1 < a.size/\2<=c.2.2.1/\c.2.2.1<=b.size/\x+2+c.2.1+c.2.2.1<=a.size+b.size)
     (Q:=λ c st3=>SameG st st3/\((∃r,c.1=some r/\r.Perm (a ++ b))\/(c.1=none/\MHi a b c.2.2.2.1 c.2.1 c.2.2.1/\1<=c.2.1/\c.2.1 < a.size/\2<=c.2.2.1/\c.2.2.1<=b.size/\x+2+c.2.1+c.2.2.1<=a.size+b.size))) ?s2 ?f2 %[hs,rfl,hm,b1,b2|b3]) ?p2)
    case f2=>exactλ c st3 z=>%[z.1|.inr z.2]
    case p2=>
     clear hm b1 b2 b3;rintro⟨r,ia,ib,out,mg,ac,bc⟩ st3 ⟨hs,(⟨r',h1,hr⟩ | ⟨h1,hm,b1,b2,b3⟩)⟩
     ·dsimp -zeta only at h1 ⊢;subst h1;exact A5 %[hs,r',rfl|hr]
     ·dsimp -zeta only at h1 hm b1 b2 b3 ⊢;subst h1;exact A4 (Qy (A5 %[hs,rfl,hm,b1,b2|!⋯]))
    case s2=>
     clear hm b1 b2 b3;rintro y ⟨r,ia,ib,out,mg,ac,bc⟩ st2 _ hy ⟨hs,g1,hm,b1,b2,b3⟩;dsimp only at g1 hm b1 b2 b3;apply sj λ Qx hQ=>?_
     extract_lets
     apply sk λ mg=>?_;dsimp -zeta +zetaDelta only;apply A4 (oI λ st3 sg3=>?_);have sg:=hs.trans sg3;apply A4 (bp ⋯ λ p1 hp1=>?_);apply A4 (cR hO (sg.1.trans hk) ⋯ ⋯ ha (hb _ _ hp1) λ k1 hk1=>?_);dsimp -zeta only
     extract_lets _ _ jp1
     have bB:2<=ib/\ib<=b.size:=%[b3.1|b3.2.1]
     have hj1:∀i o,MHi a b o i ib->1<=i->i < a.size->x+2+i+ib<=a.size+b.size->wpS (model prog w) A E s (jp1 () i o) Qx st3:=by
      clear hm b1 b3 g1 hy;intro ia out m1 b1 b1' b3;dsimp -zeta only[jp1]
      try extract_lets
      apply A4 (bp ⋯ λ q hq=>?_)
      try extract_lets
      apply aq (λ c6=>?_) (λ c6=>?_)
      ·simp only[Qd]at c6;exact A5 (hQ _ _ %[sg|.inl %[_,rfl|(m1.pb ⋯ hq).first]])
      ·simp only[Qd]at c6;apply A4 (bp ⋯ λ q2 hq2=>?_);apply A4 (cR hO (sg.1.trans hk) ⋯ ⋯ hb (ha _ _ hq2) λ k2 hk2=>?_);dsimp -zeta only
       extract_lets _ _ jp2
       have hj2:∀i o,MHi a b o ia i->2<=i->i<=b.size->x+2+ia+i<=a.size+b.size->wpS (model prog w) A E s (jp2 () i o) Qx st3:=by
        intro i o m2 h1 h2 h3;dsimp -zeta only[jp2]
        try extract_lets
        apply A4 (bp ⋯ λ q3 hq3=>?_);dsimp only;apply aq (λ c2=>?_) (λ c2=>?_)
        ·simp only[Qd]at c2;exact A5 (hQ _ _ %[sg|.inl %[_,rfl|(m2.pa ⋯ hq3).done]])
        ·simp only[Qd]at c2;apply aq (λ c1=>?_) (λ c1=>?_)
         ·exact A5 (hQ _ _ %[sg|.inr %[rfl,(m2.pa ⋯ hq3),!⋯,!⋯|!⋯]])
         ·exact A5 (hQ _ _ %[sg,rfl,(m2.pa ⋯ hq3),!⋯,!⋯|!⋯])
       apply aq (λ c5=>?_) (λ c5=>?_)
       ·try extract_lets
        apply aq (λ c4=>?_) (λ c4=>?_)
        ·simp only[Qd]at c4;exact A5 (hQ _ _ %[sg|.inl %[_,rfl|((m1.pb ⋯ hq).cb hk2).first]])
        ·simp only[Qd]at c4;apply aq (λ c3=>?_) (λ c3=>?_)
         ·simp only[Qd]at c3;exact A5 (hQ _ _ %[sg|.inl %[_,rfl|((m1.pb ⋯ hq).cb hk2).done]])
         ·simp only[Qd]at c3;exact hj2 _ _ ((m1.pb ⋯ hq).cb hk2) ⋯ ⋯ ⋯
       ·exact hj2 _ _ (m1.pb ⋯ hq) ⋯ ⋯ ⋯
     apply aq (λ c8=>?_) (λ c8=>?_)
     ·try extract_lets
      apply aq (λ c7=>?_) (λ c7=>?_)
      ·simp only[Qd]at c7;exact A5 (hQ _ _ %[sg|.inl %[_,rfl|(hm.ca hk1).done]])
      ·simp only[Qd]at c7;exact hj1 _ _ (hm.ca hk1) ⋯ ⋯ ⋯
     ·exact hj1 _ _ hm ⋯ ⋯ ⋯
end
end PyProof.Rows
namespace PyProof.Rows
set_option autoImplicit false
open PySem
def Tile:QT (Nat×Nat×Nat)->Nat->Nat->Prop
 | [],lo,hi=>lo=hi
 | x :: l,lo,hi=>x.1=lo/\1<=x.2.1/\Tile l (lo+x.2.1) hi
theorem Tile.le:∀{l:QT (Nat×Nat×Nat)}{lo hi:Nat},Tile l lo hi->lo<=hi
 | [],_,_,h=>QM h
 | x :: l,lo,hi,h=>C7 (O6 _ _) (Tile.le h.2.2)
theorem Tile.two:∀{l:QT (Nat×Nat×Nat)}{i lo hi:Nat}{x y:Nat×Nat×Nat},Tile l lo hi->l[i]?=some x->l[i+1]?=some y->∀q:Nat,
  y.1=x.1+x.2.1/\1<=x.2.1/\1<=y.2.1/\y.1+y.2.1<=hi/\Tile ((l.set i (x.1,x.2.1+y.2.1,q)).eraseIdx (i+1)) lo hi
 | x' :: y' :: l,0,lo,hi,x,y,h,e1,e2,q=>by cases e1;cases e2;obtain⟨h1,h2,h3,h4,h5⟩:=h;apply%[⋯,h2,h4,by have:=h5.le;lia,h1,by show 1<=x'.2.1+y'.2.1;lia|?_];show Tile l (lo+(x'.2.1+y'.2.1)) hi;rw[<- Nat.add_assoc];exact h5
 | [x'],0,_,_,_,_,_,_,e2,_=>by cases e2
 | [],_,_,_,_,_,_,e1,_,_=>by simp at e1
 | z :: l,i+1,lo,hi,x,y,h,e1,e2,q=>by obtain⟨h1,h2,h3⟩:=h;obtain⟨a1,a2,a3,a4,a5⟩:=Tile.two h3 (i:=i) (x:=x) (y:=y) (by simpa using e1) (by simpa using e2) q;exact%[a1,a2,a3,a4,h1,h2|a5]
theorem Tile.push:∀{l:QT (Nat×Nat×Nat)}{lo hi n q:Nat},Tile l lo hi->1<=n->Tile (l ++ [(hi,n,q)]) lo (hi+n)
 | [],_,_,_,_,h,hn=>by cases h;exact%[O,hn|O]
 | x :: l,_,_,_,_,h,hn=>%[h.1,h.2.1|Tile.push h.2.2 hn]
theorem Tile.upd{f:Nat×Nat×Nat->Nat×Nat×Nat}(hf:∀x,(f x).1=x.1/\(f x).2.1=x.2.1):∀{l:QT (Nat×Nat×Nat)}{lo hi:Nat}(i:Nat),Tile l lo hi->Tile (l.modify i f) lo hi
 | [],_,_,i,h=>by simpa using h
 | x :: l,_,_,0,h=>by show Tile (f x :: l) _ _;exact%[(hf x).1.trans h.1,by rw[(hf x).2];exact h.2.1|by rw[(hf x).2];exact h.2.2]
 | x :: l,_,_,i+1,h=>by show Tile (x :: l.modify i f) _ _;exact%[h.1,h.2.1|Tile.upd hf i h.2.2]
theorem lV(sa:Nat):∀(m:QT QQ)(j:Nat)(a:QS QQ),sa+j+m.length<=a.size ->
  ((m.zipIdx j).foldl (λ a (x:QQ×Nat)=>match x with | (p,j)=>a.setIfInBounds (sa+j) p) a).toList=a.toList.take (sa+j) ++ m ++ a.toList.drop (sa+j+m.length)
 | [],j,a,h=>by simp
 | p :: m,j,a,h=>by
  rw[List.zipIdx_cons,O5];have hl:(p :: m).length=m.length+1:=rfl;rw[hl]at h ⊢;rw[lV sa m (j+1) _ (by rw[Array.size_setIfInBounds];lia)];rw[Array.toList_setIfInBounds];have hj:sa+j < a.toList.length:=by simp;lia
  rw[show sa+(j+1)=sa+j+1 by lia,List.take_succ,List.getElem?_set_self hj,List.take_set_of_le (B4 _),List.drop_set_of_lt ⋯,show sa+j+1+m.length=sa+j+(m.length+1)by lia];simp
theorem zY{M:Model}{A:Around}{E:G4->G0->Prop}{s:G0}{σ:Type}{st st2:σ}{Q:PUnit->σ->Prop}(h:Q ⟨⟩ st2):wpS M A E s (set st2:StateT σ Sem PUnit) Q st:=by unfold wpS;rw[StateT.run_set];exact wpAny_pure %[rfl|h]
structure SP(κ0:SortKind)(a₀:QS QQ)(st:SortSt):Prop where
 perm:(arrOf st).Perm a₀
 kind:kindOf st=κ0
 failed:failedOf st=none
theorem SP.size{κ0:SortKind}{a₀:QS QQ}{st:SortSt}(h:SP κ0 a₀ st):(arrOf st).size=a₀.size:=h.perm.size_eq
theorem SP.kd{κ0:SortKind}{κ:KeyKind}{a₀:QS QQ}{st:SortSt}(h:SP κ0 a₀ st)(h0:KeysOf κ a₀):KdA κ (arrOf st):=λ i p e=>by
 have:p∈(arrOf st).toList:=by rw[<- M4]at e;exact B7 e
 exact h0 _ ((M8.mp h.perm).mem_iff.mp this)
theorem KdA.ext{κ:KeyKind}{a:QS QQ}(h:KdA κ a)(i j:Nat):KdA κ (a.extract i j):=λ k p e=>by
 rw[Array.getElem?_extract]at e
 split at e
 ·exact h _ _ e
 ·cases e
section
variable{prog:G1}{w:G3}{A:Around}{E:G4->G0->Prop}{s:G0}{κ:KeyKind}{κ0:SortKind}{a₀:QS QQ}
theorem fY(hO:bo prog w A s κ0 κ)(h0:KeysOf κ a₀){st:SortSt}{i hi:Nat}{Q:Bool->SortSt->Prop}(hP:SP κ0 a₀ st)(hi2:i+1 < (pendingOf st).size)(T:Tile (pendingOf st).toList 0 hi)(hh:hi<=a₀.size)
  (h:∀st',SP κ0 a₀ st'->Tile (pendingOf st').toList 0 hi->Q true st'):wpS (model prog w) A E s (mergeAt' i) Q st:=by
 apply A4 (RI ?_);obtain⟨⟨sa,na,pw⟩,e1⟩:∃x,(pendingOf st)[i]?=some x:=%[_|getElem?_pos (pendingOf st) i ⋯]
 obtain⟨⟨sb,nb,pw2⟩,e2⟩:∃x,(pendingOf st)[i+1]?=some x:=%[_|getElem?_pos (pendingOf st) (i+1) hi2]
 obtain⟨t1,t2,t3,t4,t5⟩:=T.two (by rw[M4];exact e1) (by rw[M4];exact e2) pw;dsimp only at t1 t2 t3 t4 t5;have hz:=hP.size;have kd:=hP.kd h0;rw[e1,e2];dsimp only;apply A4 (zY (st2:=SortSt.mk' (kindOf st) (arrOf st) (((pendingOf st).setIfInBounds i (sa,na+nb,pw)).eraseIdxIfInBounds (i+1)) (gallopOf st) (failedOf st)) ?_);have T2:Tile (((pendingOf st).setIfInBounds i (sa,na+nb,pw)).eraseIdxIfInBounds (i+1)).toList 0 hi:=by simpa using t5
 generalize hst2:SortSt.mk' (kindOf st) (arrOf st) (((pendingOf st).setIfInBounds i (sa,na+nb,pw)).eraseIdxIfInBounds (i+1)) (gallopOf st) (failedOf st)=st2;have P2:SP κ0 a₀ st2:=by subst hst2;exact%[hP.perm,hP.kind|hP.failed]
 have A2:arrOf st2=arrOf st:=by subst hst2;rfl
 have T3:Tile (pendingOf st2).toList 0 hi:=by subst hst2;exact T2
 apply A4 (bp (arr:=arrOf st) (i:=sb) ⋯ λ p hp=>?_);apply A4 (cR (arr:=arrOf st) (base:=sa) (n:=na) hO P2.kind ⋯ ⋯ kd (kd _ _ hp) λ k hk=>?_);dsimp only;apply aq (λ c1=>A5 (h _ P2 T3)) (λ c1=>?_);simp only[Qd]at c1;apply A4 (bp (arr:=arrOf st) (i:=sa+k+(na - k) - 1) ⋯ λ q hq=>?_);apply A4 (cR (arr:=arrOf st) (base:=sb) (n:=nb) hO P2.kind ⋯ ⋯ kd (kd _ _ hq) λ k2 hk2=>?_);dsimp only;apply aq (λ c2=>A5 (h _ P2 T3)) (λ c2=>?_);simp only[Qd]at c2;have g1:sa+k < sb:=⋯
 have g2:1<=k2:=⋯
 have g3:sb+k2<=(arrOf st).size:=⋯
 clear c1 c2 hk hk2 hi2 t1 t2 t3 t4 hh hz;have sx:((arrOf st).extract (sa+k) sb).size=sb - (sa+k):=by rw[Array.size_extract,Nat.min_eq_left (C7 (O6 sb k2) g3)]
 have sy:((arrOf st).extract sb (sb+k2)).size=k2:=by rw[Array.size_extract,Nat.min_eq_left g3,Nat.add_sub_cancel_left]
 have fin:∀(r:QS QQ)(st3:SortSt),r.Perm ((arrOf st).extract (sa+k) sb ++ (arrOf st).extract sb (sb+k2))->SameG st2 st3 ->
   wpS (model prog w) A E s ((modify λ (s:SortSt)=>setArr s (r.toList.zipIdx.foldl (λ a (x:QQ×Nat)=>match x with | (p,j)=>a.setIfInBounds (sa+k+j) p) (arrOf s))) >>= λ _=>(get:StateT SortSt Sem SortSt) >>= λ s=>pure (failedOf s).isNone) Q st3:=by
  intro r st3 hr hg;apply A4 (Qy (A4 (RI (A5 ?_))));have hrl:=M8.mp hr;have QX:r.toList.length=sb+k2 - (sa+k):=by rw[hrl.length_eq,O2,J7,N2,N2,sx,sy];lia
  have hw:=lV (sa+k) r.toList 0 (arrOf st3) (by rw[hg.2.1,A2,QX];lia);have e:failedOf st3=none:=hg.2.2.2.trans P2.failed;show Q (failedOf st3).isNone _;rw[e];apply h _ %[?_,hg.1.trans P2.kind|hg.2.2.2.trans P2.failed] (by show Tile (pendingOf st3).toList 0 hi;rw[hg.2.2.1];exact T3);apply Array.Perm.trans ?_ hP.perm;rw[M8];show List.Perm (r.toList.zipIdx.foldl _ (arrOf st3)).toList _;rw[hw,hg.2.1,A2,QX,Nat.add_zero,show sa+k+(sb+k2 - (sa+k))=sb+k2 by lia];have e3:(arrOf st).toList=(arrOf st).toList.take (sa+k) ++ ((arrOf st).extract (sa+k) sb ++ (arrOf st).extract sb (sb+k2)).toList ++ (arrOf st).toList.drop (sb+k2):=by rw[O2,<- K5,iB _ ⋯,iB _ ⋯,List.take_append_drop]
  conv=>rhs;rw[e3]
  exact PQ _ (PL _ hrl)
 apply aq (λ c3=>?_) (λ c3=>?_)
 ·exact A4 (oJ hO P2.kind (kd.ext _ _) (kd.ext _ _) (by rw[sx];lia) (by rw[sy];lia) fin)
 ·exact A4 (oM hO P2.kind (kd.ext _ _) (kd.ext _ _) (by rw[sx];lia) (by rw[sy];lia) fin)
theorem cI(hO:bo prog w A s κ0 κ)(h0:KeysOf κ a₀){st:SortSt}{i j:Nat}{Q:QR Bool->SortSt->Prop}(hP:SP κ0 a₀ st)(hi:i < a₀.size)(hj:j < a₀.size)(h:∀b,Q (some b) st) :
  wpS (model prog w) A E s (ltAt' i j) Q st:=by
 have kd:=hP.kd h0;have hz:=hP.size;apply A4 (RI ?_);apply A4 (bp (arr:=arrOf st) ⋯ λ p hp=>?_);apply A4 (bp (arr:=arrOf st) ⋯ λ q hq=>?_);exact iA hO hP.kind (kd _ _ hp) (kd _ _ hq) h
def SPp(κ0:SortKind)(a₀:QS QQ)(p:QS (Nat×Nat×Nat))(st:SortSt):Prop:=SP κ0 a₀ st/\pendingOf st=p
theorem cJ{st:SortSt}{p:QS (Nat×Nat×Nat)}{i j:Nat}{Q:Unit->SortSt->Prop}(hP:SPp κ0 a₀ p st)(h:∀st',SPp κ0 a₀ p st'->Q () st'):wpS (model prog w) A E s (reverseSlice' i j) Q st:=by rw[reverseSlice'_eq];exact Qy (h _ %[%[(mirror_perm _ _ _ _).trans hP.1.perm,hP.1.kind|hP.1.failed]|hP.2])
theorem ut{st:SortSt}{p:QS (Nat×Nat×Nat)}{i j:Nat}{Q:Unit->SortSt->Prop}(hP:SPp κ0 a₀ p st)(h:∀st',SPp κ0 a₀ p st'->Q () st'):wpS (model prog w) A E s (moveDown' i j) Q st:=by rw[moveDown'_eq];exact Qy (h _ %[%[(bubble_perm _ _ _).trans hP.1.perm,hP.1.kind|hP.1.failed]|hP.2])
theorem oN(hO:bo prog w A s κ0 κ)(h0:KeysOf κ a₀){st:SortSt}{p:QS (Nat×Nat×Nat)}{lo n ok:Nat}{Q:Bool->SortSt->Prop}(hP:SPp κ0 a₀ p st)(hn:lo+n<=a₀.size)
  (h:∀st',SPp κ0 a₀ p st'->Q true st'):wpS (model prog w) A E s (binarySort' lo n ok) Q st:=by
 apply A4 (Qm (Qe (I:=λ _ c st'=>c.1=none/\SPp κ0 a₀ p st') (Q:=λ c st'=>c.1=none/\SPp κ0 a₀ p st') ?step (λ _ _ z=>z) %[rfl|hP]) ?post)
 case post=>
  rintro⟨r,u⟩ st' ⟨h1,hP'⟩;dsimp only at h1 ⊢;subst h1;exact A5 (h _ hP')
 case step=>
  rintro k ⟨r,u⟩ st' _ hk ⟨h1,hP'⟩;dsimp only;apply A4 (Qm (Qe (I:=λ _ c st2=>c.1=none/\c.2.2<=k/\st2=st') (Q:=λ c st2=>c.1=none/\st2=st') ?_ (λ _ _ z=>%[z.1|z.2.2]) %[rfl,B4 _|rfl]) ?_)
  ·rintro j ⟨r,l,q⟩ st2 _ _ ⟨g1,g2,rfl⟩;dsimp only at g1 g2 ⊢;apply aq (λ c1=>A5 %[rfl|rfl]) (λ c1=>?_);apply A4 (cI hO h0 hP'.1 ⋯ ⋯ λ b=>?_);dsimp only;apply aq (λ c2=>A5 %[rfl,!⋯|rfl]) (λ c2=>A5 %[rfl,!⋯|rfl])
  ·rintro⟨r,l,q⟩ st2 ⟨g1,rfl⟩;dsimp only at g1 ⊢;subst g1;exact A4 (ut hP' λ st3 hP3=>A5 %[rfl|hP3])
theorem qR(hO:bo prog w A s κ0 κ)(h0:KeysOf κ a₀){st:SortSt}{p:QS (Nat×Nat×Nat)}{lo nrem:Nat}{Q:QR Nat->SortSt->Prop}(hP:SPp κ0 a₀ p st)(hn:lo+nrem<=a₀.size)(h1:1<=nrem)
  (h:∀n st',1<=n->n<=nrem->SPp κ0 a₀ p st'->Q (some n) st'):wpS (model prog w) A E s (countRun' lo nrem) Q st:=by
 apply A4 (Qm (Qe (I:=λ i c st'=>c.1=none/\1<=c.2/\c.2<=i/\st'=st) (Q:=λ c st'=>c.1=none/\1<=c.2/\c.2<=nrem/\st'=st) ?step (λ c _ z=>%[z.1,z.2.1,by have:=z.2.2.1;lia|z.2.2.2]) %[rfl,B4 _,B4 _|rfl]) ?post)
 case step=>
  rintro i ⟨r,n⟩ st' _ hi ⟨g1,g2,g3,rfl⟩;dsimp only at g1 g2 g3 ⊢;apply A4 (cI hO h0 hP.1 ⋯ ⋯ λ b=>?_);dsimp only;exact aq (λ c2=>A5 %[rfl,g2,!⋯|rfl]) (λ c2=>A5 %[rfl,!⋯,!⋯|rfl])
 case post=>
  rintro⟨r,n⟩ st' ⟨g1,g2,g3,rfl⟩;dsimp only at g1 g2 g3 ⊢;subst g1;apply aq (λ c1=>A5 (h _ _ g2 g3 hP)) (λ c1=>?_);simp only[Qd]at c1;apply aq (λ c2=>?_) (λ c2=>?_)
  ·apply A4 (cI hO h0 hP.1 ⋯ ⋯ λ b=>?_);dsimp only;apply aq (λ c3=>A5 (h _ _ g2 g3 hP)) (λ c3=>?_);apply A4 (cJ hP λ st2 P2=>?_);apply A4 (wpS_lift (Qs %[rfl|?_]));apply A4 (Qm (Qe (I:=λ i c st'=>c.1=none/\1<=c.2.1/\c.2.1<=i/\SPp κ0 a₀ p st') (Q:=λ c st'=>c.1=none/\1<=c.2.1/\c.2.1<=nrem/\SPp κ0 a₀ p st') ?_ (λ c _ z=>%[z.1,z.2.1,by have:=z.2.2.1;lia|z.2.2.2]) %[rfl,!⋯,B4 _|P2]) ?_)
   ·rintro i ⟨r,n2,nq⟩ st3 _ hi ⟨g1,g2,g3,P3⟩;dsimp only at g1 g2 g3 ⊢;apply A4 (cI hO h0 P3.1 ⋯ ⋯ λ b=>?_);dsimp only;apply aq (λ c4=>?_) (λ c4=>?_)
    ·apply aq (λ c5=>?_) (λ c5=>?_)
     ·exact A4 (cJ P3 λ st4 P4=>A5 %[rfl,!⋯,!⋯|P4])
     ·exact A5 %[rfl,!⋯,!⋯|P3]
    ·apply A4 (cI hO h0 P3.1 ⋯ ⋯ λ b=>?_);dsimp only;exact aq (λ c5=>A5 %[rfl,g2,!⋯|P3]) (λ c5=>A5 %[rfl,!⋯,!⋯|P3])
   ·rintro⟨r,n2,nq⟩ st3 ⟨g1,g2,g3,P3⟩;dsimp only at g1 g2 g3 ⊢;subst g1;apply aq (λ c6=>?_) (λ c6=>?_)
    ·apply A4 (cJ P3 λ st4 P4=>?_);apply A4 (cJ P4 λ st5 P5=>?_);apply A4 (Qm (Qe (I:=λ i c st'=>c.1=none/\1<=c.2/\c.2<=i/\st'=st5) (Q:=λ c st'=>c.1=none/\1<=c.2/\c.2<=nrem/\st'=st5) ?_ (λ c _ z=>%[z.1,z.2.1,by have:=z.2.2.1;lia|z.2.2.2]) %[rfl,g2,B4 _|rfl]) ?_)
     ·rintro i ⟨r,n3⟩ st6 _ hi ⟨g1,g2,g3,rfl⟩;dsimp only at g1 g2 g3 ⊢;apply A4 (cI hO h0 P5.1 ⋯ ⋯ λ b=>?_);dsimp only;exact aq (λ c2=>A5 %[rfl,g2,!⋯|rfl]) (λ c2=>A5 %[rfl,!⋯,!⋯|rfl])
     ·rintro⟨r,n3⟩ st6 ⟨g1,g2,g3,rfl⟩;dsimp only at g1 g2 g3 ⊢;subst g1;exact A5 (h _ _ g2 g3 P5)
    ·apply A4 (cJ P3 λ st5 P5=>?_);apply A4 (Qm (Qe (I:=λ i c st'=>c.1=none/\1<=c.2/\c.2<=i/\st'=st5) (Q:=λ c st'=>c.1=none/\1<=c.2/\c.2<=nrem/\st'=st5) ?_ (λ c _ z=>%[z.1,z.2.1,by have:=z.2.2.1;lia|z.2.2.2]) %[rfl,g2,B4 _|rfl]) ?_)
     ·rintro i ⟨r,n3⟩ st6 _ hi ⟨g1,g2,g3,rfl⟩;dsimp only at g1 g2 g3 ⊢;apply A4 (cI hO h0 P5.1 ⋯ ⋯ λ b=>?_);dsimp only;exact aq (λ c2=>A5 %[rfl,g2,!⋯|rfl]) (λ c2=>A5 %[rfl,!⋯,!⋯|rfl])
     ·rintro⟨r,n3⟩ st6 ⟨g1,g2,g3,rfl⟩;dsimp only at g1 g2 g3 ⊢;subst g1;exact A5 (h _ _ g2 g3 P5)
  ·have P2:=hP;apply A4 (wpS_lift (Qs %[rfl|?_]));apply A4 (Qm (Qe (I:=λ i c st'=>c.1=none/\1<=c.2.1/\c.2.1<=i/\SPp κ0 a₀ p st') (Q:=λ c st'=>c.1=none/\1<=c.2.1/\c.2.1<=nrem/\SPp κ0 a₀ p st') ?_ (λ c _ z=>%[z.1,z.2.1,by have:=z.2.2.1;lia|z.2.2.2]) %[rfl,!⋯,B4 _|P2]) ?_)
   ·rintro i ⟨r,n2,nq⟩ st3 _ hi ⟨g1,g2,g3,P3⟩;dsimp only at g1 g2 g3 ⊢;apply A4 (cI hO h0 P3.1 ⋯ ⋯ λ b=>?_);dsimp only;apply aq (λ c4=>?_) (λ c4=>?_)
    ·apply aq (λ c5=>?_) (λ c5=>?_)
     ·exact A4 (cJ P3 λ st4 P4=>A5 %[rfl,!⋯,!⋯|P4])
     ·exact A5 %[rfl,!⋯,!⋯|P3]
    ·apply A4 (cI hO h0 P3.1 ⋯ ⋯ λ b=>?_);dsimp only;exact aq (λ c5=>A5 %[rfl,g2,!⋯|P3]) (λ c5=>A5 %[rfl,!⋯,!⋯|P3])
   ·rintro⟨r,n2,nq⟩ st3 ⟨g1,g2,g3,P3⟩;dsimp only at g1 g2 g3 ⊢;subst g1;apply aq (λ c6=>?_) (λ c6=>?_)
    ·apply A4 (cJ P3 λ st4 P4=>?_);apply A4 (cJ P4 λ st5 P5=>?_);apply A4 (Qm (Qe (I:=λ i c st'=>c.1=none/\1<=c.2/\c.2<=i/\st'=st5) (Q:=λ c st'=>c.1=none/\1<=c.2/\c.2<=nrem/\st'=st5) ?_ (λ c _ z=>%[z.1,z.2.1,by have:=z.2.2.1;lia|z.2.2.2]) %[rfl,g2,B4 _|rfl]) ?_)
     ·rintro i ⟨r,n3⟩ st6 _ hi ⟨g1,g2,g3,rfl⟩;dsimp only at g1 g2 g3 ⊢;apply A4 (cI hO h0 P5.1 ⋯ ⋯ λ b=>?_);dsimp only;exact aq (λ c2=>A5 %[rfl,g2,!⋯|rfl]) (λ c2=>A5 %[rfl,!⋯,!⋯|rfl])
     ·rintro⟨r,n3⟩ st6 ⟨g1,g2,g3,rfl⟩;dsimp only at g1 g2 g3 ⊢;subst g1;exact A5 (h _ _ g2 g3 P5)
    ·apply A4 (cJ P3 λ st5 P5=>?_);apply A4 (Qm (Qe (I:=λ i c st'=>c.1=none/\1<=c.2/\c.2<=i/\st'=st5) (Q:=λ c st'=>c.1=none/\1<=c.2/\c.2<=nrem/\st'=st5) ?_ (λ c _ z=>%[z.1,z.2.1,by have:=z.2.2.1;lia|z.2.2.2]) %[rfl,g2,B4 _|rfl]) ?_)
     ·rintro i ⟨r,n3⟩ st6 _ hi ⟨g1,g2,g3,rfl⟩;dsimp only at g1 g2 g3 ⊢;apply A4 (cI hO h0 P5.1 ⋯ ⋯ λ b=>?_);dsimp only;exact aq (λ c2=>A5 %[rfl,g2,!⋯|rfl]) (λ c2=>A5 %[rfl,!⋯,!⋯|rfl])
     ·rintro⟨r,n3⟩ st6 ⟨g1,g2,g3,rfl⟩;dsimp only at g1 g2 g3 ⊢;subst g1;exact A5 (h _ _ g2 g3 P5)
theorem lA(hO:bo prog w A s κ0 κ)(h0:KeysOf κ a₀){st:SortSt}{Q:Unit->SortSt->Prop}(hP:SPp κ0 a₀ #[] st)
  (h:∀st',SP κ0 a₀ st'->Q () st'):wpS (model prog w) A E s sortRuns' Q st:=by
 apply A4 (RI ?_);have hz:(arrOf st).size=a₀.size:=hP.1.size;apply A4 (Qm (Qe (I:=λ _ c st'=>c.1=none/\SP κ0 a₀ st'/\Tile (pendingOf st').toList 0 c.2/\c.2<=a₀.size) (Q:=λ c st'=>c.1=none/\SP κ0 a₀ st'/\Tile (pendingOf st').toList 0 c.2/\c.2<=a₀.size) ?step (λ _ _ z=>z) %[rfl,hP.1,by rw[hP.2];rfl|F2 _]) ?post)
 case post=>
  rintro⟨r,lo⟩ st1 ⟨g1,P1,T1,l1⟩;dsimp only at g1 T1 l1 ⊢;subst g1;apply A4 (Qm (Qe (I:=λ _ c st'=>c.1=none/\SP κ0 a₀ st'/\Tile (pendingOf st').toList 0 lo) (Q:=λ c st'=>c.1=none/\SP κ0 a₀ st') ?_ (λ _ _ z=>%[z.1|z.2.1]) %[rfl,P1|T1]) ?_)
  ·rintro i ⟨r,u⟩ st2 _ _ ⟨g1,P2,T2⟩;apply A4 (RI ?_);apply aq (λ c1=>A5 %[rfl|P2]) (λ c1=>?_);have c2:1 < (pendingOf st2).size:=Nat.lt_of_not_le c1;apply A4 (fY hO h0 P2 ?_ T2 l1 λ st3 P3 T3=>?_)
   ·have ie:∀ (c:Prop) [Decidable c] (x y z:Nat),x < z->y < z->(if c then x else y) < z:=λ c _ x y z h1 h2=>by split <;> assumption
    exact C3 (Nat.add_lt_add_right (ie _ _ _ _ (show(pendingOf st2).size - 2 - 1 < (pendingOf st2).size - 1 by lia) (show(pendingOf st2).size - 2 < (pendingOf st2).size - 1 by lia)) 1) ⋯
   ·exact aq (λ c3=>absurd c3 ∅) (λ c3=>A5 %[rfl,P3|T3])
  ·rintro⟨r,u⟩ st2 ⟨g1,P2⟩;dsimp only at g1 ⊢;subst g1;exact A5 (h _ P2)
 case step=>
  rintro i ⟨r,lo⟩ st1 _ _ ⟨g1,P1,T1,l1⟩;dsimp only at g1 T1 l1 ⊢;apply aq (λ c1=>A5 %[rfl,P1,T1|l1]) (λ c1=>?_);have c2:lo < a₀.size:=by have:¬ (arrOf st).size<=lo:=c1;lia
  apply A4 (qR hO h0 %[P1|rfl] (nrem:=(arrOf st).size - lo) ⋯ ⋯ λ n st2 n1 n2 P2=>?_);have hz':=hz;unfold arrOf at hz' n2;rw[hz']at n2;simp only[hz'];apply aq (λ c3=>?_) (λ c3=>?_)
  ·apply A4 (wpS_lift (Qs %[rfl|?_]));obtain⟨mn,hmn⟩:∃mn,min (a₀.size - lo) (minRun' a₀.size a₀.size 0)=mn:=%[_|O]
   have h1mn:1<=mn/\lo+mn<=a₀.size:=by have:n < minRun' a₀.size a₀.size 0:=c3;lia
   unfold minRun' at hmn;simp only[hmn];apply A4 (oN hO h0 P2 ?_ λ st3 P3=>?_)
   ·skip
    lia
   apply aq (λ c4=>absurd c4 ∅) (λ c4=>?_);have TX:=T1;rw[<- P3.2]at TX;have nx:1<=mn/\lo+mn<=a₀.size:=⋯
   apply A4 (RI ?_)
   split
   ·apply A4 (Qm (Qe (I:=λ _ c st'=>c.1=none/\SP κ0 a₀ st'/\Tile (pendingOf st').toList 0 lo) (Q:=λ c st'=>c.1=none/\SP κ0 a₀ st'/\Tile (pendingOf st').toList 0 lo) ?_ (λ _ _ z=>z) %[rfl,P3.1|TX]) ?_)
    ·rintro i ⟨r,u⟩ st4 _ _ ⟨_,P4,T4⟩;apply A4 (RI ?_)
     split
     ·rename_i he
      apply aq (λ c5=>A5 %[rfl,P4|T4]) (λ c5=>?_);apply A4 (fY hO h0 P4 ?_ T4 l1 λ st5 P5 T5=>?_)
      ·have z:1 < (pendingOf st4).size:=by
        split at he
        ·assumption
        ·cases he
       show(pendingOf st4).size - 2+1 < (pendingOf st4).size;lia
      ·exact aq (λ c=>absurd c ∅) (λ _=>A5 %[rfl,P5|T5])
     ·exact A5 %[rfl,P4|T4]
    ·rintro⟨r,u⟩ st4 ⟨g1,P4,T4⟩;dsimp only at g1 ⊢;subst g1;apply A4 (Qy ?_);apply A4 (Qy (A5 %[rfl,%[P4.perm,P4.kind|P4.failed],?_|?_]))
     ·show Tile (((pendingOf st4).modify _ _).push _).toList 0 _;rw[PF];apply Tile.push ?_ nx.1;rw[Array.toList_modify];apply Tile.upd ?_ _ T4;exactλ _=>%[O|O]
     ·exact nx.2
   ·apply A4 (Qy (A5 %[rfl,%[P3.1.perm,P3.1.kind|P3.1.failed],?_|?_]))
    ·show Tile (Array.push _ _).toList 0 _;rw[PF];exact Tile.push TX nx.1
    ·exact nx.2
  ·skip
   have TX:=T1;rw[<- P2.2]at TX;have nx:1<=n/\lo+n<=a₀.size:=⋯
   apply A4 (RI ?_)
   split
   ·apply A4 (Qm (Qe (I:=λ _ c st'=>c.1=none/\SP κ0 a₀ st'/\Tile (pendingOf st').toList 0 lo) (Q:=λ c st'=>c.1=none/\SP κ0 a₀ st'/\Tile (pendingOf st').toList 0 lo) ?_ (λ _ _ z=>z) %[rfl,P2.1|TX]) ?_)
    ·rintro i ⟨r,u⟩ st4 _ _ ⟨_,P4,T4⟩;apply A4 (RI ?_)
     split
     ·rename_i he
      apply aq (λ c5=>A5 %[rfl,P4|T4]) (λ c5=>?_);apply A4 (fY hO h0 P4 ?_ T4 l1 λ st5 P5 T5=>?_)
      ·have z:1 < (pendingOf st4).size:=by
        split at he
        ·assumption
        ·cases he
       show(pendingOf st4).size - 2+1 < (pendingOf st4).size;lia
      ·exact aq (λ c=>absurd c ∅) (λ _=>A5 %[rfl,P5|T5])
     ·exact A5 %[rfl,P4|T4]
    ·rintro⟨r,u⟩ st4 ⟨g1,P4,T4⟩;dsimp only at g1 ⊢;subst g1;apply A4 (Qy ?_);apply A4 (Qy (A5 %[rfl,%[P4.perm,P4.kind|P4.failed],?_|?_]))
     ·show Tile (((pendingOf st4).modify _ _).push _).toList 0 _;rw[PF];apply Tile.push ?_ nx.1;rw[Array.toList_modify];apply Tile.upd ?_ _ T4;exactλ _=>%[O|O]
     ·exact nx.2
   ·apply A4 (Qy (A5 %[rfl,%[P2.1.perm,P2.1.kind|P2.1.failed],?_|?_]))
    ·show Tile (Array.push _ _).toList 0 _;rw[PF];exact Tile.push TX nx.1
    ·exact nx.2
end
end PyProof.Rows
namespace PyProof.Rows
set_option autoImplicit false
open PySem
section
variable{prog:G1}{w:G3}{A:Around}{E:G4->G0->Prop}{s:G0}
theorem jz{κ:KeyKind}{κ0:SortKind}{a:QP}{vs:QT G4}{n:Nat}{P:Fin->G0->Prop}(ho:s.heap.get? a=some (seqObj "list" vs.toArray n))
  (h0:KeysOf κ (pairsOf vs)) (hkk:∀s':G0,(∀b o,b≠a->s.heap.get? b=some o->s'.heap.get? b=some o)->bo prog w A s' κ0 κ/\∀v₁ v₂ rest,vs=v₁ :: v₂ :: rest->∀(Q:SortKind->G0->Prop),Q κ0 s'->wpAny (model prog w) A (keyKind' (v₁ :: v₂ :: rest).toArray) Q E s') (h64:vs.length < 4096)
  (h:∀st':SortSt,(arrOf st').Perm (pairsOf vs)->P (.done (.ret .none)) { s with heap:=sortedHeap s.heap a vs ((arrOf st').map (·.2)) }) :
  wpAny (model prog w) A (Builtin.«list.sort» %[[.ref a]|[]]) P E s:=by
 rw[list_sort_plain];have ha:a < s.heap.objs.size:=B0 ho;apply A0 (listItems_at ho rfl ?_);apply A0 (listUpdate_at ho rfl ?_);obtain⟨e1,ho1⟩:∃e1,(s.heap.update a (Obj.mapSeq λ _=>#[])).get? a=some (seqObj "list" #[] e1):=%[_|get?_update_seq ho (λ _=>#[])]
 apply A0 (seqEpoch_at ho1 rfl ?_);apply A0 (wpAny_newTuple ?_);apply A0 (wpAny_newList ?_);apply Qh ?_;have ho6:(((s.heap.update a (Obj.mapSeq λ _=>#[])).push (seqObj "tuple" vs.toArray 0)).push (seqObj "list" #[] 0)).get? a=some (seqObj "list" #[] e1):=by rw[Heap.get?_push_ne _ _ _ (by rw[size_push',Heap.size_update];exact C1 (PM ha)),Heap.get?_push_ne _ _ _ (by rw[Heap.size_update];exact C1 ha)];exact ho1
 show wpAny (model prog w) A _ P E { s with heap:=((s.heap.update a (Obj.mapSeq λ _=>#[])).push (seqObj "tuple" vs.toArray 0)).push (seqObj "list" #[] 0) };dsimp only;have hsz:vs.toArray.size=vs.length:=by simp
 have fin:=h
 by_cases h2:vs.toArray.size < 2
 ·rw[Qa h2,Qa h2];apply A0 (A3 ?_);rw[StateT.run_pure];apply A0 (A3 ?_);dsimp only;apply A0 (seqEpoch_at ho6 rfl ?_);apply A0 (listUpdate_at ho6 rfl ?_ (hsz2:=by rw[Array.size_map];show(pairsOf vs).size<=_;rw[pairsOf_size,RN];lia));simp only[bne_self_eq_false,M6,Qv];exact A3 (fin (SortSt.mk' general' (vs.toArray.zip vs.toArray) #[] 7 none) (Array.Perm.refl _))
 ·rw[QZ h2,QZ h2];obtain⟨v₁,v₂,rest,rfl⟩:∃v₁ v₂ rest,vs=v₁ :: v₂ :: rest:=by
   match vs,hsz,h2 with
   | [],_,h2=>simp at h2
   | [_],_,h2=>simp at h2
   | v₁ :: v₂ :: rest,_,_=>exact%[v₁,v₂,rest|O]
  have kp:∀b o,b≠a->s.heap.get? b=some o->(((s.heap.update a (Obj.mapSeq λ _=>#[])).push (seqObj "tuple" (v₁ :: v₂ :: rest).toArray 0)).push (seqObj "list" #[] 0)).get? b=some o:=λ b o nb e=>
   A8 _ (A8 _ (by rw[Heap.get?_update_ne _ _ _ _ nb];exact e))
  obtain⟨hO,hK⟩:=hkk { s with heap:=((s.heap.update a (Obj.mapSeq λ _=>#[])).push (seqObj "tuple" (v₁ :: v₂ :: rest).toArray 0)).push (seqObj "list" #[] 0) } kp;apply A0 (hK _ _ _ rfl _ ?_);apply A0 (Ql (lA (κ:=κ) (κ0:=κ0) hO (a₀:=pairsOf (v₁ :: v₂ :: rest)) h0 (st:=SortSt.mk' κ0 ((v₁ :: v₂ :: rest).toArray.zip (v₁ :: v₂ :: rest).toArray) #[] 7 none)
   (Q:=λ _ st'=>SP κ0 (pairsOf (v₁ :: v₂ :: rest)) st') %[%[Array.Perm.refl _,rfl|rfl]|rfl] λ st' z=>z) ?_ λ _ _ e=>e)
  rintro⟨⟨⟩,st'⟩ s' ⟨rfl,hp,hk2,hf⟩;dsimp only;apply A0 (seqEpoch_at ho6 rfl ?_);apply A0 (listUpdate_at ho6 rfl ?_ (hsz2:=by apply C7 (QM ((Array.size_map ..).trans (hp.size_eq.trans (pairsOf_size _)))) ?_;rw[RN];lia));rw[hf];simp only[bne_self_eq_false,M6,Qv];exact A3 (fin st' hp)
end
end PyProof.Rows
namespace L2
open PySem PySem.Spec PyProof.Rows
theorem lW{f:QT V->HO}(hf:∀xs ys,f xs=f ys->xs=ys){l:QP}{xs:QT V}{σ:St}{cap:QT Nat}{k:Nat}{g:TG}{tt:TT}{te:TE}{Q:QT V->Hp->Prop}{H:Hp}(Pv:Nat->QT V->Hp->Prop)
  (hk:∀i zs H',Pv i zs H'->H' l=some (f xs)) (h0:Pv 0 [] H)
  (hz:∀i zs H',i < xs.length->Pv i zs H'->zs.length < sizeLine)
  (ht:∀i x p zs H',xs[i]?=some x->H' p=none->Pv i zs H'->g (.ref p) (aV σ cap k) (upd H' p (.tup [.int i,x])) λ σ2 H2=>leS (aV σ cap k) σ2/\tt σ2 H2 λ ok H3=>if ok=true then te σ2 H3 (λ v H4=>Nx xs.length Pv i (zs ++ [v]) H4)else Nx xs.length Pv i zs H3)
  (hd:∀zs H',Pv xs.length zs H'->zs.length<=sizeLine/\Q zs H'):∃W,(∃m,W 0 m [] H)/\eF σ cap k (Ite f l) g tt te Q W:=by
 apply%[λ i m zs H'=>m=xs.length - i/\i<=xs.length/\Pv i zs H',%[_,O,F2 _|h0]|?_];rintro i m zs H' ⟨rfl,hi,p⟩;have e1:=hk i zs H' p
 by_cases hlt:i < xs.length
 ·have hx:xs[i]?=some xs[i]:=by simp[hlt]
  apply .inr %[%[xs,_,e1|hx],hz i zs H' hlt p|λ v H2 yl=>?_]
  ·obtain⟨q,xs',x,hq,rfl,rfl,e1',ex⟩:=yl;rw[e1]at e1';have e2:=hf _ _ (C0 e1');subst e2;exact ht i x q zs H' ex hq p
 ·have e:i=xs.length:=⋯
  subst e;obtain⟨a1,a2⟩:=hd zs H' p;exact .inl %[%[xs,e1|B4 _],a1|a2]
end L2
namespace PySem
open PySem.W
section
variable{prog:G1}{w:G3}{A:Around}{E:G4->G0->Prop}{s:G0}{d a:QP}{K:Type}[DecidableEq K]{knd:HeapKind prog w K}{k:K}{xs:QT (K×QP×G4)}
theorem zZ{x:G4}{Q:G4->G0->Prop}(hu:knd.room A.in1)(hkey:knd.is s.heap k a)(hS:(d == sysModules)=false)(hm:s.heap.DictOfH knd d xs)(hsz:xs.length<=sizeLine)
  (h1:∀p,atKey xs k=some p->Q p.2 { s with toks:=s.toks+knd.draws k })
  (h2:atKey xs k=none->∀h',h'.DictOfH knd d (storedH xs k a x)->Heap.SameBut d s.heap h'->Q x { s with heap:=h',toks:=s.toks+knd.draws k }) :
  wpAny (model prog w) A (call (.builtin "dict.setdefault") [.ref d,.ref a,x]) Q E s:=by
 have ty:=hm.typeIs;apply call_meetsIn (S:=λ A' R s'=>A'=A/\s'=s/\(∀p,atKey xs k=some p->R (.ok (.ret p.2)) { s with toks:=s.toks+knd.draws k })/\(atKey xs k=none->∀h',h'.DictOfH knd d (storedH xs k a x)->Heap.SameBut d s.heap h'->R (.ok (.ret x)) { s with heap:=h',toks:=s.toks+knd.draws k })) RA ty PySem.F.entry_dict_setdefault (PySem.F.args_dict_setdefault_3 _ _ _) (.of_wp λ A' R s' %[e0,e,g1|g2]=>?_) %[rfl,rfl,λ p hp=>h1 p hp|λ hn h' a1 a2=>h2 hn h' a1 a2];subst e e0;obtain⟨o,es,ep,ho,hc,hd,he,his,hn⟩:=hm;unfold Builtin.«dict.setdefault»;apply A0 ?_;unfold Builtin.Dict.keyAndDefault;apply A0 (wpAny_notOrdered_dict ty ?_);show wpAny _ _ (pure (d,Value.ref a,some x)) _ _ s';apply A3 ?_;show wpAny _ _ (if (d == sysModules)=true then _ else(dictSetDefault d (.ref a) x >>= _)) _ _ s';rw[QZ (by rw[hS];exact B3)];apply A0 ?_;unfold dictSetDefault
 try with_reducible apply Qh ?_
 apply A0 (knd.pyHash hu hkey ?_);apply A0 (wpAny_dictFind_heap (s:={ s' with toks:=s'.toks+knd.draws k }) hu hkey ho hd he his hn ?_ ?_)
 ·intro hno;have hnot:k∉xs.map (·.1):=not_mem_keys_of_get hno;apply A0 (Qs (A0 (wpAny_updateDictKeys (hz:=by have e:=size_of_entries he;lia) (s:={ s' with toks:=s'.toks+knd.draws k }) ho hd (A3 (A3 ⟨x,rfl,g2 (atKey_none_of_get hno) _ ⟨_,_,ep+1,RE _ ho (Obj.isFreed_of_dict (Obj.data_mapDictKeys hd _)),
   hc.mapDictKeys _,Obj.data_mapDictKeys hd _,?_,?_,?_⟩ (Qo ..)⟩)))))
  ·rw[storedH_new (atKey_none_of_get hno)];simp[he,entryOfKey]
  ·rw[storedH_new (atKey_none_of_get hno)];intro x hx;rcases C4.mp hx with hx | hx
   ·exact knd.keeps (his x hx) ho hd (Qo ..)
   ·simp only[E6]at hx;subst hx;exact knd.keeps hkey ho hd (Qo ..)
  ·rw[storedH_new (atKey_none_of_get hno)];rw[J5,QF];apply%[hn,by simp|?_];intro x hx y hy;simp only[J8,N3,E6]at hy;subst hy;exactλ e=>hnot (e ▸ hx)
 ·intro j p hj;apply A0 (Q8 (s:={ s' with toks:=s'.toks+knd.draws k }) ho hd ?_);rw[entry_at he j,hj];exact A0 (Qs (A3 (A3 %[p.2,rfl|g1 p (atKey_of_get hn hj)])))
end
end PySem
namespace L2
open PySem PySem.Spec PyProof.Rows
section
variable{X:Cx}
def xI:V->QT V->Hp->VK->Prop:=λ x ys H Q=>∃(a b:QP)(v:V)(kvs:QT (QT Key×V))(k:QT Key),x=.ref a/\ys=[.ref b,v]/\H a=some (.dT kvs)/\H b= ~~~(k.map kV)/\kvs.length < sizeLine /\
 (∀v',de kvs k=some v'->Q v' H)/\(de kvs k=none->Q v (upd H a (.dT (eI kvs k v))))
theorem gY(hu:X.A.units+1 < cLine):MtR X "dict.setdefault" xI:=by
 intro QV s σ H x ys v us Q I rx rv h;obtain⟨a,b,v',kvs,k,rfl,rfl,hH,hb,hl,q1,q2⟩:=h;cases rx;obtain⟨u,us',rfl,ru,rv'⟩:∃u us',us=u :: us'/\RelV (.ref b) u/\Vals [v'] us':=by
  cases rv with
  | cons r1 r2=>exact%[_,_,O,r1|r2]
 obtain⟨u2,rfl,r2⟩:=rv'.one;cases ru;obtain⟨z,hd,xs,rel,dd⟩:=xw I.hok hH;have hz:xs.length<=sizeLine:=by rw[<- Paired.length rel];exact z
 have hlp:(eI kvs k v').length<=sizeLine:=by have:=fU kvs k v';lia
 have rv:=rel.val k;apply zZ (tupleKind_room_in1 hu) (fV I.hok hb) hd dd hz (λ p hp=>?_) (λ hn h' dd' hs=>?_)
 ·rw[hp]at rv;cases hv:de kvs k with
  | none=>rw[hv]at rv;exact F1 rv
  | some y=>rw[hv]at rv;exact%[y,H,I.tok _,rv|q1 y hv]
 ·rw[hn]at rv;cases hv:de kvs k with
  | some y=>rw[hv]at rv;exact F1 rv
  | none=>
   apply%[v',upd H a (.dT (eI kvs k v')),?_,r2|q2 hv];obtain⟨q,es,ep,hq,h2,h3,h4,_,h5⟩:=dd';apply nr I (by rw[hH];exact True.intro) hs %[q|hq] %[hlp,hd,_,(rel.put k hb r2).keeps λ c ys ec=>?_,q,es,ep,hq,h2,h3,h4|h5];rw[am (AR ec hH (λ z=>nomatch z))];exact ec
end
end L2
namespace PySem
open PySem.W PyProof.Rows
section
variable{prog:G1}{w:G3}{A:Around}{E:G4->G0->Prop}{s:G0}{d:QP}{es:QS DictEntry}{ep:Nat}
def OKE(d:QP)(es:QS DictEntry)(ep:Nat)(h:Heap):Prop:=∃o,h.get? d=some o/\o.ExactDict/\o.data=.dict es ep
theorem BR(hh:A.handled=none)(I d:QP)(hne:d≠I)(es:QS DictEntry)(ep:Nat) :
  Walks prog w A I [I,d] [I] es.size (λ i v=>∃en,es[i]?=some en/\en.key=v) (λ i h=>h.IsKeyIter I d i es.size ep/\OKE d es ep h) where
 sub:=λ b hb=>by simp at hb;simp[hb]
 frame:=λ _ _ _ st hk=>%[st.1.at λ o e=>hk I (by simp) o e|let ⟨o,e,x⟩:=st.2;%[o,hk d (by simp) o e|x]]
 item:=λ i s Q E hi st hQ=>by
  obtain⟨en,hx⟩:∃en,es[i]?=some en:=%[es[i]|N1 hi]
  apply cA st.1 st.2 hx λ h' hit' hs'=>?_;exact hQ en.key h' s.toks %[en,hx|O] %[hit'|let ⟨o,e,x⟩:=st.2;%[o,hs'.extBut d o hne e|x]] λ b o hb e=>hs'.extBut b o (λ h=>hb (by simp[h])) e
 done:=λ s Q E st hQ=>cH hh st.1 st.2 (N5 (B4 _)) λ h' he'=>hQ h' s.toks λ b o hb e=>he' b o (λ h=>hb (by simp[h])) e
 self:=λ _ _ _ _ st hQ=>wpAny_pyIter_keyiter st.1 hQ
theorem DM(lo:(d == sysModules)=false):KdlSrc prog w "dict" d d es.size (λ i v=>∃en,es[i]?=some en/\en.key=v) (OKE d es ep) where
 type:=λ _ ⟨o,e,c,_⟩=>%[o,e|c.1]
 there:=λ _ ⟨o,e,_⟩=>%[B0 e|B0 e]
 keep:=λ _ _ ⟨o,e,x⟩ hk=>%[o,hk d (.inl rfl) o e|x]
 notList:=∅
 notTuple:=∅
 hint:=λ _ _ _ _ ⟨o,e,c,_⟩ hq=>kdl_hint_dict %[o,e|c.1] hq
 iter:=λ _ _ hh hm=>%[_,_,(λ _ _ hq=>cu lo hm hq),BR hh _ d (let ⟨_,e,_⟩:=hm;C1 (B0 e)) es ep|%[%[_,A9 _ rfl,O|O]|let ⟨o,e,x⟩:=hm;%[o,A8 _ e|x]]]
theorem xJ{Q:QT G4->G0->Prop}(lo:(d == sysModules)=false)(hh:A.handled=none)(hm:OKE d es ep s.heap)(hn:es.size<=sizeLine)
  (h:∀h' tk,(∀b o,s.heap.get? b=some o->h'.get? b=some o)->s.heap.objs.size<=h'.objs.size->Q (es.toList.map (·.key)) { s with heap:=h',toks:=tk }):wpAny (model prog w) A (collect (.ref d)) Q E s:=by
 unfold collect;apply A0 (wpAny_runValue (codeAny_builtin F.entry_proto_collect ?_));rw[Around.under_plainId F.plain_proto_collect _];show wpAny _ A.in1 (newList [] >>= λ l=>again (.builtin "list.__iadd__" %[[l,.ref d]|[]])) _ _ s;apply A0 (F8 ?_);apply A3 %[plainId_quiet F.plain_list_iadd _|codeAny_builtin F.entry_list_iadd ?_];rw[Around.under_plainId F.plain_list_iadd _];show wpAny _ A.in1 (Builtin.List.listExtendWith (.ref s.heap.objs.size) (.ref d) (.ref s.heap.objs.size)) _ _ { s with heap:=s.heap.push (seqObj "list" #[] 0) };have dl:d < s.heap.objs.size:=let ⟨_,e,_⟩:=hm;B0 e
 have hS:(s.heap.push (seqObj "list" #[] 0)).get? s.heap.objs.size=some (seqObj "list" #[] 0):=A9 _ rfl;apply kdl_extend (R:=λ r s'=>match r with
  | .ok (.ret v)=>wpAny (model prog w) A (match v with
   | .ref a=>do match (<- load a).data with
    | .seq xs _=>pure xs.toList
    | _=>unsupported "internal:collect"
   | _=>unsupported "internal:collect") Q E s'
  | .ok _=>False
  | .error e=>E e s') (s:={ s with heap:=s.heap.push (seqObj "list" #[] 0) }) (DM lo) (by exact hh) (let ⟨o,e,x⟩:=hm;%[o,A8 _ e|x]) s.heap.objs.size (O1 dl) (O1 dl) (.ref s.heap.objs.size) 0 hS (λ h' tk acc' c' hk hS' hacc=>?_) hn
 have ea:acc'.toList=es.toList.map (·.key):=by
  apply QG λ j=>?_;rw[J3,M4,M4]
  by_cases c:j < es.size
  ·have c2:j < acc'.size:=by rw[hacc.1];exact c
   obtain⟨en,e1,e2⟩:=hacc.2 j acc'[j] (N1 c2);rw[e1,N1 c2,<- e2]
   rfl
  ·rw[N5 (by rw[hacc.1];lia),N5 ⋯]
   rfl
 show wpAny (model prog w) A (do
   let o<-load s.heap.objs.size
   match o.data with
   | .seq xs _=>pure xs.toList
   | _=>unsupported "internal:collect") Q E { s with heap:=h',toks:=tk }
 apply A0 (wpAny_load hS' ?_);show wpAny _ _ (pure acc'.toList) Q E _;rw[ea];exact A3 (h h' tk (λ b o e=>hk b o (C1 (B0 e)) (A8 _ e)) (C9 (B0 hS')))
end
end PySem
namespace L2
open PySem PySem.Spec PyProof.Rows
theorem ju{α β:Type}(f:α->β){l l':QT β}(h:l.Perm l'):∀xs:QT α,l'=xs.map f->∃xs':QT α,l=xs'.map f/\xs'.Perm xs:=by
 induction h with
 | nil=>intro xs e;cases xs with
  | nil=>exact%[[],O|.nil]
  | cons _ _=>cases e
 | cons x _ ih=>intro xs e;cases xs with
  | nil=>cases e
  | cons y ys=>
   rw[J8]at e;injection e with e1 e2
   obtain⟨xs',a,b⟩:=ih ys e2;exact%[y :: xs',by rw[J8,<- e1,<- a]|b.cons y]
 | swap x y l=>intro xs e;cases xs with
  | nil=>cases e
  | cons u us=>cases us with
   | nil=>injection e with _ e;cases e
   | cons v vs=>
    rw[J8,J8]at e;injection e with e1 e
    injection e with e2 e3
    exact%[v :: u :: vs,by rw[J8,J8,<- e1,<- e2,<- e3]|List.Perm.swap _ _ _]
 | trans _ _ i1 i2=>intro xs e;obtain⟨ys,a,b⟩:=i2 xs e;obtain⟨zs,c,d⟩:=i1 ys a;exact%[zs,c|d.trans b]
section
variable{X:Cx}
def kG(H:Hp)(sh:QT Bool)(a:QP):SW:=match H a with
 | some (.tup vs)=>(iq sh vs).getD []
 | _=>[]
theorem Aa{H:Hp}{sh:QT Bool}{a:QP}{vs:QT V}{k:SW}(h:H a= ~~~vs)(f:iq sh vs=some k):kG H sh a=k:=by unfold kG;rw[h];dsimp only;rw[f];rfl
end
abbrev Rw:=QP×QT Key×V
def kvR(QW:QT Rw):QT (QT Key×V):=QW.map (·.2)
def RowD(QW:QT Rw)(xs:QT (QT Key×QP×G4)):Prop:=Paired (λ (r:Rw)(x:QT Key×QP×G4)=>x.1=r.2.1/\x.2.1=r.1/\RelV r.2.2 x.2.2) QW xs
theorem RowD.len{QW:QT Rw}{xs:QT (QT Key×QP×G4)}(h:RowD QW xs):QW.length=xs.length:=E7 h
theorem RowD.keys{QW:QT Rw}{xs:QT (QT Key×QP×G4)}(h:RowD QW xs):xs.map (·.1)=QW.map (·.2.1):=by
 unfold RowD at h
 induction h with
 | nil=>rfl
 | cons a _ ih=>rw[J8,J8,ih,a.1]
theorem RowD.nodup{QW:QT Rw}{xs:QT (QT Key×QP×G4)}(h:RowD QW xs)(n:(QW.map (·.2.1)).Nodup):(xs.map (·.1)).Nodup:=by rw[h.keys];exact n
theorem RowD.of_mem{QW:QT Rw}{xs:QT (QT Key×QP×G4)}(h:RowD QW xs){x:QT Key×QP×G4}(hx:x∈xs):∃r∈QW,x.1=r.2.1/\x.2.1=r.1:=by
 unfold RowD at h
 induction h with
 | nil=>cases hx
 | @cons r y rs ys a _ ih=>
  rcases J4.mp hx with rfl | hx
  ·exact%[r,B9,a.1|a.2.1]
  ·obtain⟨r',m,e⟩:=ih hx;exact%[r',B6 _ m|e]
theorem sC{α β:Type}{F:α->β->Prop}:∀{a c:QT α}{b d:QT β},Paired F a b->Paired F c d->Paired F (a ++ c) (b ++ d)
 | _,_,_,_,.nil,h=>h
 | _,_,_,_,.cons x r,h=>.cons x (sC r h)
theorem RowD.snoc{QW:QT Rw}{xs:QT (QT Key×QP×G4)}(h:RowD QW xs){b:QP}{k:QT Key}{v:V}{u:G4}(r:RelV v u):RowD (QW ++ [(b,k,v)]) (xs ++ [(k,b,u)]):=sC h (.cons %[O,O|r] .nil)
theorem RowD.no{QW:QT Rw}{xs:QT (QT Key×QP×G4)}(h:RowD QW xs){k:QT Key}(n:k∉QW.map (·.2.1)):atKey xs k=none:=by apply atKey_none_of_get λ j p e=>n ?_;rw[<- h.keys];exact J6.mpr %[_,B7 e|O]
theorem RowD.kt{H:Hp}{D:QP}{ob:HO}{QW:QT Rw}{xs:QT (QT Key×QP×G4)}(h:RowD QW xs)(kept:∀r∈QW,H r.1= ~~~(r.2.1.map kV))(hD:H D=none):KT (upd H D ob) (kvR QW) xs:=by
 unfold RowD at h
 induction h with
 | nil=>exact .nil
 | @cons r y rs ys a _ ih=>
  apply .cons %[a.1.symm,?_|a.2.2] (ih λ r hr=>kept r (B6 _ hr));have e:=kept r B9;rw[a.2.1,am (ak e hD)];exact e
def sD(σ:St)(cap:QT Nat)(k:Nat)(J:It)(g:TG)(tt:TT)(tk tv:TE)(Qf:QT Rw->Hp->Prop)(W:Nat->Nat->QT Rw->Hp->Prop):Prop:=∀i m QW H,W i m QW H->(∀r∈QW,H r.1= ~~~(r.2.1.map kV)) /\
 ((J.stop i H/\QW.length<=sizeLine/\Qf QW H) \/
  (J.go i H/\QW.length < sizeLine/\∀x H',J.yld i H x H'->g x (aV σ cap k) H' λ σ2 H2=>leS (aV σ cap k) σ2/\tt σ2 H2 λ ok H3=>
   if ok=true then tk σ2 H3 (λ kv H4=>tv σ2 H4 λ v H5=>∃b ks,kv=.ref b/\H5 b= ~~~(ks.map kV)/\ks∉QW.map (·.2.1)/\∃m',m' < m/\W (i+1) m' (QW ++ [(b,ks,v)]) H5)else∃m',m' < m/\W (i+1) m' QW H3))
def DN(P:G1)(w:G3)(QW:QT Rw)(o:Obj):Prop:=∃xs es ep,o.ExactDict/\o.data=.dict es ep/\es.toList=xs.map (entryOfKey (tupleKind (bq P w)))/\RowD QW xs/\(QW.map (·.2.1)).Nodup
section
variable{X:Cx}{QV:SY}{σ:St}{H2:Hp}{s2:G0}{scope:Scope}{own cs:QT Str}{cap:QT Nat}{fp:QT QP}{it:QP}{tn:Nat->Heap->Prop}
 {kx vx tg iter:Expr} {ifs:QT Expr} {pos:Pos} {J:It} {g:TG} {tt:TT} {tk tv:TE} {E:G4->G0->Prop} {W:Nat->Nat->QT Rw->Hp->Prop} {Qf:QT Rw->Hp->Prop}
theorem uu{Y:Cx}{P5:SY}{σ:St}{D:QP}(hx:Y.xe=λ _ _=>False)(hu:Y.A.units+1 < cLine)(hk:PE Y kx tk)(he:PE Y vx tv)(kept:∀i m QW H,W i m QW H->∀r∈QW,H r.1= ~~~(r.2.1.map kV)) :
  rK Y P5 σ D (do
      let kv<-eval kx Y.env
      let vv<-holding [kv] (eval vx Y.env)
      standAt { kx.pos with endLine:=vx.pos.endLine,endCol:=vx.pos.endCol }
      holding [kv,vv] (dictSet D kv vv)) (DN Y.prog Y.w) (λ ys=>ys.length < sizeLine)
   (λ i m QW σ2 H3=>tk σ2 H3 (λ kv H4=>tv σ2 H4 λ v H5=>∃b ks,kv=.ref b/\H5 b= ~~~(ks.map kV)/\ks∉QW.map (·.2.1)/\∃m',m' < m/\W (i+1) m' (QW ++ [(b,ks,v)]) H5)) W:=by
 rintro i m QW o σ3 H3 s3 Q5 hz hq le ⟨xs,es,ep,ex3,dt3,ee3,rv3,nd3⟩ fD I3 e3;have I3':Inv Y ((P5 ++ Q5) ++ [(D,o)]) σ3 H3 s3:=I3.pins_of λ p hp=>(C4.mp hp).elim (λ z=>I3.pin p (A6 _ z)) λ z=>by
  obtain rfl:p=_:=by simpa using z
  exact%[e3,fD.1,fD.2.1,fD.2.2.1|λ v z=>by rw[dt3]at z;cases z]
 apply A0 (Ql (hk _ s3 σ3 H3 _ I3' hq) (?_) λ _ _ z=>by rw[hx]at z;exact z.elim);rintro y s8 ⟨v,H8,I8,r8,q8⟩;apply A0 (Qh (Ql (he _ s8 σ3 H8 _ I8 q8) (?_) λ _ _ z=>by rw[hx]at z;exact z.elim));rintro y2 s9 ⟨v2,H9,I9,r9,bb,kk,ev,hb9,new,m',hm,w9⟩;subst ev;obtain rfl:y=Value.ref bb:=r8;have pD:=I9.pin (D,o) (A6 _ (A6 _ (E6.mpr rfl)));have his:∀x∈xs,(tupleKind (bq Y.prog Y.w)).is s9.heap x.1 x.2.1:=λ x hx=>by obtain⟨r,hr,e1,e2⟩:=rv3.of_mem hx;rw[e1,e2];exact fV I9.hok (kept _ _ _ _ w9 r (B8 _ hr))
 have hno:atKey xs kk=none:=rv3.no new;apply A0 (RC (Qh (wpAny_dictSet_heap (hsz:=by rw[<- rv3.len];lia) (xs:=xs) (show Y.A.units < cLine from Nat.lt_of_succ_lt hu) (fV I9.hok hb9) %[o,es,ep,pD.1,ex3,dt3,ee3,his|rv3.nodup nd3] λ h9 dd sb9=>?_)));rw[storedH_new hno]at dd;obtain⟨o9,es9,ep9,hq9,ex9,dt9,ee9,_,nd9⟩:=dd;apply%[H9,QW ++ [(bb,kk,v2)],o9,(I9.sub λ p hp=>B8 _ hp).turned (t':=_) (λ b o hb e=>sb9.extBut b o hb e) pD.2.1 fD.2.1 fD.2.2.2.1 fD.2.2.2.2.1 fD.2.2.2.2.2,hq9,%[_,es9,ep9,ex9,dt9,ee9,rv3.snoc r9|?_],pD.2.1,m',hm|w9];rw[J5,QF];apply%[nd3,by simp|?_];intro x hx y hy;simp only[J8,N3,E6]at hy;subst hy;exactλ e=>new (e ▸ hx)
theorem uv{RR:G4->QP->Result->G0->Prop}(I:Inv X QV σ H2 s2)(ok:CompOk X scope own cs cap)(hc:X.calm=true)(hu:X.A.units+1 < cLine)(T:Turn X.prog X.w X.K tg J fp it tn)(st:tn 0 s2.heap)(hf:∀b∈fp,FpOk X QV H2 b)
  (hg:∀C,PG (aM X QV s2 H2 scope C (own ++ cs) fp) tg g) (hi:∀C,iY (aM X QV s2 H2 scope C (own ++ cs) fp) ifs tt) (hk:∀C,PE (aM X QV s2 H2 scope C (own ++ cs) fp) kx tk) (he:∀C,PE (aM X QV s2 H2 scope C (own ++ cs) fp) vx tv)
  (w0:∃m,W 0 m [] H2) (turn:sD σ cap own.length J g tt tk tv Qf W)
  (hRR:∀D C s' ys H',H' D=none->(ys.length<=sizeLine/\Qf ys H'/\∀r∈ys,H' r.1= ~~~(r.2.1.map kV))->Inv X QV σ (upd H' D (.dT (kvR ys))) s'->FpOk X QV (upd H' D (.dT (kvR ys))) C->(∃m,s'.heap.Ns C m)->RR (.ref D) C (.ok .next) s') :
  wpAny (model X.prog X.w) X.A newDict (λ acc s₃=>wpAny (model X.prog X.w) X.A (newFunctionEnv scope X.env.globals (bJ X.env scope.names []) [] X.env.qual none .none (some X.env)) (λ cenv s₄=>
   codeAny (model X.prog X.w) X.A (.compStart (.DictComp kx vx [%[tg,iter,ifs|0]] scope pos) 0 (.ref it) acc { cenv with scope:=relabel scope X.env }) (RR acc cenv.locals) s₄) E s₃) E s2:=by
 apply gS (Acc:=DN X.prog X.w) (Fin:=λ ys H=>ys.length<=sizeLine/\Qf ys H/\∀r∈ys,H r.1= ~~~(r.2.1.map kV)) (ho:=λ ys=>.dT (kvR ys)) I ok (λ C=>Turn.y (Y:=aM X QV s2 H2 scope C (own ++ cs) fp) T hc) st hf rfl (λ h=>F8 h) codeAny_compStart_dict (λ Y D C s' R hY I0 hD hf' df st0 e0 hR=>?_)
  (λ hs ⟨xs,es,ep,a,b,c,d,e⟩ q n p=>%[by rw[kvR,B5];exact q.1,hs,xs,d.kt q.2.2 n,_,es,ep,p,a,b,c|d.nodup e]) hRR
 subst hY;have hb:=uu (Y:=aM X QV s2 H2 scope C (own ++ cs) fp) (P5:=[]) (σ:=aV σ cap own.length) (W:=W) (D:=D) rfl hu (hk C) (he C) λ i m ys H w=>(turn i m ys H w).1;exact gq (ipos:=iter.pos) rfl (Turn.y (Y:=aM X QV s2 H2 scope C (own ++ cs) fp) T hc) (hg C) (hi C) rfl rfl (by rintro _ _ ⟨_,_,_,_,e,_⟩ v z;rw[e]at z;cases z)
  (λ i m ys H w=>%[trivial|(turn i m ys H w).2.imp (λ h=>%[h.1,h.2.1,h.2.2|(turn i m ys H w).1]) id]) hb I0 hD hf' df st0 e0 %[[],#[],0,%[rfl,rfl|rfl],rfl,rfl,.nil|List.nodup_nil] w0 hR
def BS(wi:TI)(cap:QT Nat)(k:Nat)(g:TG)(tt:TT)(tk tv:TE):TE:=λ σ H Q=>wi σ H λ J H1=>
 ∃W:Nat->Nat->QT Rw->Hp->Prop,(∃m,W 0 m [] H1)/\sD σ cap k J g tt tk tv (λ QW H'=>∀p,H' p=none->Q (.ref p) (upd H' p (.dT (kvR QW)))) W
theorem oO{wi:TI}(hc:X.calm=true)(hu:X.A.units+1 < cLine)(hit:PI X tg iter wi)(ok:CompOk X scope own cs cap)
  (hg:∀QV s2 H2 C fp,PG (aM X QV s2 H2 scope C (own ++ cs) fp) tg g) (hi:∀QV s2 H2 C fp,iY (aM X QV s2 H2 scope C (own ++ cs) fp) ifs tt) (hk:∀QV s2 H2 C fp,PE (aM X QV s2 H2 scope C (own ++ cs) fp) kx tk) (he:∀QV s2 H2 C fp,PE (aM X QV s2 H2 scope C (own ++ cs) fp) vx tv)
  (hs:∀x,foldedSetIterable iter X.env x=pure x:=by intro _;rfl):PE X (.DictComp kx vx [%[tg,iter,ifs|0]] scope pos) (BS wi cap own.length g tt tk tv):=by
 intro QV s σ H Q I h;rw[arm_eval_DictComp];apply wpAny_comprehension_free (use:=none) rfl hs (fb λ y hy e=>I.ok.has y.1 (ok.free y hy e)) ok.kind ok.names (thn (hit QV s σ H _ I h) λ v s1 h1=>thn h1 λ itv s2 h2=>?_);obtain⟨it,fp,tn,J,H2,e,I2,T,st2,f2,W,w0,turn⟩:=h2;subst e;apply uv (RR:=λ acc C=>compPost (model X.prog X.w) X.A X.xe none (EP X QV σ Q) acc C) I2 ok hc hu T st2 f2 (λ C=>hg _ _ _ _ _) (λ C=>hi _ _ _ _ _) (λ C=>hk _ _ _ _ _) (λ C=>he _ _ _ _ _) w0 turn λ D C s' ys H' hD %[_,q|_] I' fp' %[m|hn]=>?_;obtain⟨f0,f1,f2',f3,f4,f5⟩:=fp';exact%[m,hn|λ h' sb=>%[.ref D,_,I'.turned (t':=s'.toks) (λ b o hb e=>sb.extBut b o hb e) f0 f1 f3 f4 f5,O|q D hD]]
end
section
variable{X:Cx}
inductive rz_call_listT(xs:QT V)(H:Hp)(Q:VK):Prop
|mk(a kvs:_)(_:xs=[V.ref a])(_:Rd H a (.dT kvs))(_:∀l as,H l=none->Paired (λ (b:QP)(kv:QT Key×V)=>H b= ~~~(kv.1.map kV)) as kvs->Q (.ref l) (upd H l (.lst (as.map V.ref))))
theorem kH(hc:X.calm=true):cD X (.type "list") (rz_call_listT):=by
 intro QV s σ H xs us Q I r h;obtain⟨a,kvs,rfl,ha,q⟩:=h;obtain⟨u,rfl,ru⟩:=fC r;cases ru;obtain⟨hz,hs,ys,pr,o,es,ep,h1,h2,h3,h4,h5⟩:=(show ObjOk X.prog X.w H s.heap a (.dT kvs)from ha.ok I.hok)
 have yl:kvs.length=ys.length:=lU pr;have el:es.size=kvs.length:=by rw[yl,<- N2,h4,B5]
 apply PySem.W.kdl_call (DM (d:=a) (es:=es) (ep:=ep) hs) (I.ok.hd hc) %[o,h1,h2|h3] ⋯ λ h' tk acc c hk hL hacc=>?_;have ea:acc.toList=(ys.map (·.2.1)).map Value.ref:=by
  apply QG λ j=>?_;rw[J3,J3,M4]
  by_cases cc:j < es.size
  ·have c2:j < acc.size:=by rw[hacc.1];exact cc
   obtain⟨en,e1,e2⟩:=hacc.2 j acc[j] (N1 c2);rw[<- M4,h4,J3]at e1;cases ey:ys[j]? with
   | none=>rw[ey]at e1;cases e1
   | some y=>
    rw[ey]at e1;cases e1;rw[N1 c2,<- e2]
    rfl
  ·rw[N5 (by rw[hacc.1];lia),O0 ⋯]
   rfl
 have pk:Paired (λ (b:QP)(kv:QT Key×V)=>H b= ~~~(kv.1.map kV)) (ys.map (·.2.1)) kvs:=by
  clear ea hacc hL h4 yl el q h5 hz ha
  induction pr with
  | nil=>exact .nil
  | cons x _ ih=>exact .cons x.2.1 ih
 apply%[.ref s.heap.objs.size,_,I.laid (t':=tk) hk (B4 _) (show ObjOk X.prog X.w _ h' _ (.lst ((ys.map (·.2.1)).map V.ref))from%[by rw[B5,B5];lia,acc.toList,c,?_|by rw[Array.toArray_toList];exact hL]),O|q _ _ (I.hok.fresh (B4 _)) pk];rw[ea];exact jd _
end
def NxD(n:Nat)(Pv:Nat->QT Rw->Hp->Prop)(i:Nat)(QW:QT Rw)(H:Hp):Prop:=∃m',m' < n - i/\m'=n - (i+1)/\i+1<=n/\Pv (i+1) QW H
theorem NxD.of{n i:Nat}{Pv:Nat->QT Rw->Hp->Prop}{QW:QT Rw}{H:Hp}(h:i < n)(p:Pv (i+1) QW H):NxD n Pv i QW H:=%[n - (i+1),⋯,O,h|p]
theorem qS{K:C6}{a:QP}{xs:QT V}{σ:St}{cap:QT Nat}{k:Nat}{g:TG}{tt:TT}{tk tv:TE}{Q:QT Rw->Hp->Prop}{H:Hp}(hs:H a=↥xs)(Pv:Nat->QT Rw->Hp->Prop)
  (hk:∀i QW H',i<=xs.length->Pv i QW H'->H' a=↥xs/\∀r∈QW,H' r.1= ~~~(r.2.1.map kV)) (h0:Pv 0 [] H)
  (ht:∀i x QW H',xs[i]?=some x->Pv i QW H'->QW.length < sizeLine/\g x (aV σ cap k) H' λ σ2 H2=>leS (aV σ cap k) σ2/\tt σ2 H2 λ ok H3=>if ok=true then tk σ2 H3 (λ kv H4=>tv σ2 H4 λ v H5=>∃b ks,kv=.ref b/\H5 b= ~~~(ks.map kV)/\ks∉QW.map (·.2.1)/\NxD xs.length Pv i (QW ++ [(b,ks,v)]) H5)else NxD xs.length Pv i QW H3)
  (hd:∀QW H',Pv xs.length QW H'->QW.length<=sizeLine/\Q QW H') :
  ∃W,(∃m,W 0 m [] H)/\sD σ cap k (Itl K a) g tt tk tv Q W:=by
 apply%[λ i m QW H'=>m=xs.length - i/\i<=xs.length/\Pv i QW H',%[_,O,F2 _|h0]|?_];rintro i m QW H' ⟨rfl,hi,p⟩;obtain⟨z',kp⟩:=hk i QW H' hi p;apply%[kp|?_]
 by_cases hin:i < xs.length
 ·obtain⟨e,hg⟩:=ht i xs[i] QW H' (by simp[hin]) p;apply .inr %[%[xs,xs[i],G7 z'|by simp[hin]],e|λ x H2 yl=>?_];obtain⟨e1,e2⟩:=yl;have e3:=e2 xs (G7 z');have e4:x=xs[i]:=by simpa[hin]using e3.symm
  subst e1 e4;exact hg
 ·have e:i=xs.length:=⋯
  subst e;obtain⟨a1,a2⟩:=hd QW H' p;exact .inl %[%[xs,G7 z'|B4 _],a1|a2]
theorem oP{a:QP}{ob:Obj}{kvs:QT (QT Key×V)}{σ:St}{cap:QT Nat}{k:Nat}{g:TG}{tt:TT}{tk tv:TE}{Q:QT Rw->Hp->Prop}{H:Hp}(Pv:Nat->QT Rw->Hp->Prop)(h0:Pv 0 [] H)
  (hl:∀i QW H',i<=kvs.length->Pv i QW H'->H' a=some (.frz ob (.dT kvs))/\∀r∈QW,H' r.1= ~~~(r.2.1.map kV))
  (ht:∀i kk v p q QW H',kvs[i]?=some (kk,v)->H' p=none->H' q= ~~~(kk.map kV)->Pv i QW H'->g (.ref p) (aV σ cap k) (upd H' p (.tup [.ref q,v])) λ σ2 H2=>leS (aV σ cap k) σ2/\tt σ2 H2 λ ok H3=>if ok=true then tk σ2 H3 (λ kv H4=>tv σ2 H4 λ v H5=>∃b ks,kv=.ref b/\H5 b= ~~~(ks.map kV)/\ks∉QW.map (·.2.1)/\NxD kvs.length Pv i (QW ++ [(b,ks,v)]) H5)else NxD kvs.length Pv i QW H3)
  (hz:∀i QW H',i < kvs.length->Pv i QW H'->QW.length < sizeLine) (hd:∀QW H',Pv kvs.length QW H'->QW.length<=sizeLine/\Q QW H'):∃W,(∃m,W 0 m [] H)/\sD σ cap k (Iti a ob kvs) g tt tk tv Q W:=by
 apply%[λ i m QW H'=>m=kvs.length - i/\i<=kvs.length/\Pv i QW H',%[_,O,F2 _|h0]|?_];rintro i m QW H' ⟨rfl,hi,p⟩;obtain⟨z',kp⟩:=hl i QW H' hi p;apply%[kp|?_]
 by_cases hin:i < kvs.length
 ·apply .inr %[%[hin|z'],hz i QW H' hin p|λ x H2 yl=>?_];obtain⟨pa,q,k',v',e1,e2,e3,e4,e5⟩:=yl;subst e4 e5;exact ht i k' v' pa q QW _ e1 e2 e3 p
 ·have e:i=kvs.length:=⋯
  subst e;obtain⟨a1,a2⟩:=hd QW H' p;exact .inl %[%[O|z'],a1|a2]
section
variable{X:Cx}
def Ab(tk tv:TE):TE:=λ σ H Q=>∀p,H p=none->tk σ (upd H p (.dT [])) λ x H1=>tv σ H1 λ y H2=>H2 p=some (.dT [])/\∃b ks,x=.ref b/\H2 b= ~~~(ks.map kV)/\Q (.ref p) (upd H2 p (.dT [(ks,y)]))
theorem lX{kx vx:Expr}{tk tv:TE}{pos:Pos}(hu:X.A.units < cLine)(hk:PE X kx tk)(hv:PE X vx tv):PE X (.Dict [some kx] [vx] pos) (Ab tk tv):=by
 intro QV s σ H Q I h;have hb:sysModules < s.heap.objs.size:=Nat.lt_trans (show sysModules < QU by decide) (I.mod.glob.keeps I.bk).lt;have hn:=I.hok.fresh (B4 s.heap.objs.size);have hd:(s.heap.objs.size == sysModules)=false:=Qz.mpr (O1 hb);have I1:Inv X QV σ (upd H s.heap.objs.size (.dT [])) { s with heap:=s.heap.push { cls:=.type "dict",data:=.dict #[] } } :=
  I.laid (a:=s.heap.objs.size) (o:=.dT []) (t':=s.toks) (λ _ _ q=>A8 _ q) (B4 _) (ow s.heap I.big)
 apply wpAny_Dict_any rfl rfl (by simp) (by show 1<=15;decide) (pairTrees_cons_walk (thn (hk QV _ σ _ _ I1 (h _ hn)) λ u s1 %[x,H1,J1,rx|q1]=>thn (hv QV s1 σ H1 _ J1 q1) λ w2 s2 %[y,H2,J2,ry,e,kt,ks,ex,ek|q2]=>pairTrees_nil_walk ?_));subst ex;cases rx;obtain⟨_,_,xs,rel,dm⟩:=xw J2.hok e;cases rel;have ne:kt≠s.heap.objs.size:=λ z=>by rw[z,e]at ek;cases ek
 unfold storeAll;apply wpAny_forIn_list _ (λ rest (_:PUnit) s'=>(rest=[(Value.ref kt,w2)]/\s'=s2)\/(rest=[]/\∃v H,Inv X QV σ H s'/\RelV v (.ref s.heap.objs.size)/\Q v H)) _ ?_ ?_ _ _ (.inl %[O|O])
 ·rintro x rest b s' (⟨e1,rfl⟩ | ⟨e1,_⟩)
  ·cases e1;apply A0 (wpAny_dictSet_heap (knd:=tupleKind (bq X.prog X.w)) (hsz:=F2 _) hu (fV J2.hok ek) dm λ h' dd' hs=>A3 (.inr %[O|?_]));apply%[.ref s.heap.objs.size,_,?_,O|q2];obtain⟨o',es',ep',g0',g1',g2',g3',_,g4'⟩:=dd';apply J2.write (x:=s.heap.objs.size) (e:=s.heap.objs.size) (by rw[e];exact True.intro) (.inl rfl) (λ b q hb z=>(hs.2 b hb).trans z) %[_|g0'] ?_;exact%[by show 1<=sizeLine;decide,hd,[(ks,kt,w2)],.cons %[O,by rw[am ne];exact ek|ry] .nil,o',es',ep',g0',g1',g2',g3'|g4']
  ·cases e1
 ·rintro b s' (⟨e1,_⟩ | ⟨_,r⟩)
  ·cases e1
  ·exact r
end
def DO(l1 l2 l3:QP):It :=
  ⟨λ i H=>∃xs ys zs x y w,H l1= ~~~xs/\H l2= ~~~ys/\H l3= ~~~zs/\xs[i]?=some x/\ys[i]?=some y/\zs[i]?=some w,
   λ i H v H'=>∃p xs ys zs x y w,H p=none/\v=.ref p/\H'=upd H p (.tup [x,y,w])/\H l1= ~~~xs/\H l2= ~~~ys/\H l3= ~~~zs/\xs[i]?=some x/\ys[i]?=some y/\zs[i]?=some w,
   λ i H=>∃xs ys zs,H l1= ~~~xs/\H l2= ~~~ys/\H l3= ~~~zs/\xs.length<=i⟩
def BU(ta:TA):TI:=λ σ H R=>ta σ H λ vs H1=>∃l1 l2 l3 xs ys zs,vs=[.ref l1,.ref l2,.ref l3]/\H1 l1= ~~~xs/\H1 l2= ~~~ys/\H1 l3= ~~~zs/\R (DO l1 l2 l3) H1
theorem xK{X:Cx}{a b c:Expr}{ta:TA}{p pos tp:Pos}{es:QT Expr}{kk:Nat}(hg:Gl X "zip")(hm:X.mg "zip" = none)(ha:PA X [a,b,c] ta)
  (hs:starEach [a,b,c] X.env=[(false,eval a X.env),(false,eval b X.env),(false,eval c X.env)]:=by rfl) (hs2:starEach [b,c] X.env=[(false,eval b X.env),(false,eval c X.env)]:=by rfl) :
  PI X (.Tuple es kk tp) (.Call (.Name "zip" p) [a,b,c] [] pos) (BU ta):=by
 apply nu hg hm ha (by rw[hs,hs2]) (by rw[hs2];rfl) 2 ⋯ (λ vs hv=>?_) λ vs H1 R %[l1,l2,l3,xs,ys,zs,e,e1,e2,e3|q]=>%[[(true,l1),(true,l2),(true,l3)],_,O,e,?_,q,?_,?_|?_]
 ·match vs,hv with
  | [x,y,z],_=>exact%[by kernel_rfl,by kernel_rfl|λ obj=>gW obj _ _ _]
 ·simp only[J4,K9,Qw];rintro p (rfl | rfl | rfl)
  ·exact%[_|e1]
  ·exact%[_|e2]
  ·exact%[_|e3]
 ·rintro i H ⟨xs,ys,zs,x,y,z,a1,a2,a3,b1,b2,b3⟩;exact%[[x,y,z],%[%[_,a1|b1],%[_,a2|b2],%[_,a3|b3]|O]|O]
 ·rintro i H v H' ⟨p,vs,a0,rfl,rfl,r,hl⟩
  match vs,r,hl with
  | [x,y,z],⟨⟨xs,a1,b1⟩,⟨ys,a2,b2⟩,⟨zs,a3,b3⟩,_⟩,_=>exact%[p,xs,ys,zs,x,y,z,a0,O,O,a1,a2,a3,b1,b2|b3]
 ·rintro i H ⟨xs,ys,zs,a1,a2,a3,h⟩;apply%[[],%[%[_,a1|h]|?_]|by simp];simp only[J4,K9,Qw];rintro q (rfl | rfl)
  ·exact%[_|a2]
  ·exact%[_|a3]
theorem qU{l1 l2 l3:QP}{xs ys zs:QT V}{σ:St}{cap:QT Nat}{k:Nat}{g:TG}{tt:TT}{te:TE}{Q:QT V->Hp->Prop}{H:Hp}(Pv:Nat->QT V->Hp->Prop)(hn:xs.length=ys.length)(hn':xs.length=zs.length)
  (hk:∀i us H',Pv i us H'->H' l1= ~~~xs/\H' l2= ~~~ys/\H' l3= ~~~zs) (h0:Pv 0 [] H)
  (hz:∀i us H',i < xs.length->Pv i us H'->us.length < sizeLine)
  (ht:∀i x y w p us H',xs[i]?=some x->ys[i]?=some y->zs[i]?=some w->H' p=none->Pv i us H'->g (.ref p) (aV σ cap k) (upd H' p (.tup [x,y,w])) λ σ2 H2=>leS (aV σ cap k) σ2/\tt σ2 H2 λ ok H3=>if ok=true then te σ2 H3 (λ v H4=>Nx xs.length Pv i (us ++ [v]) H4)else Nx xs.length Pv i us H3)
  (hd:∀us H',Pv xs.length us H'->us.length<=sizeLine/\Q us H'):∃W,(∃m,W 0 m [] H)/\eF σ cap k (DO l1 l2 l3) g tt te Q W:=by
 apply%[λ i m us H'=>m=xs.length - i/\i<=xs.length/\Pv i us H',%[_,O,F2 _|h0]|?_];rintro i m us H' ⟨rfl,hi,p⟩;obtain⟨e1,e2,e3⟩:=hk i us H' p
 by_cases hlt:i < xs.length
 ·have hx:xs[i]?=some xs[i]:=by simp[hlt]
  have hy:ys[i]?=some (ys[i]'⋯):=by simp[show i < ys.length by lia]
  have hw:zs[i]?=some (zs[i]'⋯):=by simp[show i < zs.length by lia]
  apply .inr %[%[xs,ys,zs,_,_,_,e1,e2,e3,hx,hy|hw],hz i us H' hlt p|λ v H2 yl=>?_]
  ·obtain⟨q,xs',ys',zs',x,y,w,hq,rfl,rfl,e1',e2',e3',ex,ey,ew⟩:=yl;rw[e1]at e1';cases e1';rw[e2]at e2';cases e2';rw[e3]at e3';cases e3';exact ht i x y w q us H' ex ey ew hq p
 ·have e:i=xs.length:=⋯
  subst e;obtain⟨a1,a2⟩:=hd us H' p;exact .inl %[%[xs,ys,zs,e1,e2,e3|B4 _],a1|a2]
def BV(l1 l2:QP):It :=
  ⟨λ i H=>∃xs ys x y,H l1= ~~~xs/\H l2= ~~~ys/\xs[i]?=some x/\ys[i]?=some y,
   λ i H v H'=>∃p xs ys x y,H p=none/\v=.ref p/\H'=upd H p (.tup [x,y])/\H l1= ~~~xs/\H l2= ~~~ys/\xs[i]?=some x/\ys[i]?=some y,
   λ i H=>∃xs ys,H l1= ~~~xs/\H l2= ~~~ys/\xs.length<=i⟩
def BW(ta:TA):TI:=λ σ H R=>ta σ H λ vs H1=>∃l1 l2 xs ys,vs=[.ref l1,.ref l2]/\H1 l1= ~~~xs/\H1 l2= ~~~ys/\R (BV l1 l2) H1
theorem fZ{X:Cx}{a b:Expr}{ta:TA}{p pos tp:Pos}{es:QT Expr}{kk:Nat}(hg:Gl X "zip")(hm:X.mg "zip" = none)(ha:PA X [a,b] ta)
  (hs:starEach [a,b] X.env=[(false,eval a X.env),(false,eval b X.env)]:=by rfl) (hs2:starEach [b] X.env=[(false,eval b X.env)]:=by rfl) :
  PI X (.Tuple es kk tp) (.Call (.Name "zip" p) [a,b] [] pos) (BW ta):=by
 apply nu hg hm ha (by rw[hs,hs2]) (by rw[hs2];rfl) 1 ⋯ (λ vs hv=>?_) λ vs H1 R %[l1,l2,xs,ys,e,e1,e2|q]=>%[[(true,l1),(true,l2)],_,O,e,?_,q,?_,?_|?_]
 ·match vs,hv with
  | [x,y],_=>exact%[F.typeCall_zip_2 _ _,F.newCall_zip_2 _ _|λ obj=>F.args_object_init_3 obj _ _]
 ·simp only[J4,K9,Qw];rintro p (rfl | rfl)
  ·exact%[_|e1]
  ·exact%[_|e2]
 ·rintro i H ⟨xs,ys,x,y,a1,a2,b1,b2⟩;exact%[[x,y],%[%[_,a1|b1],%[_,a2|b2]|O]|O]
 ·rintro i H v H' ⟨p,vs,a0,rfl,rfl,r,hl⟩
  match vs,r,hl with
  | [x,y],⟨⟨xs,a1,b1⟩,⟨ys,a2,b2⟩,_⟩,_=>exact%[p,xs,ys,x,y,a0,O,O,a1,a2,b1|b2]
 ·rintro i H ⟨xs,ys,a1,a2,h⟩;apply%[[],%[%[_,a1|h]|?_]|by simp];simp only[J4,K9,Qw];rintro q rfl;exact%[_|a2]
theorem dD{l1 l2:QP}{xs ys:QT V}{σ:St}{cap:QT Nat}{k:Nat}{g:TG}{tt:TT}{te:TE}{Q:QT V->Hp->Prop}{H:Hp}(Pv:Nat->QT V->Hp->Prop)(hn:xs.length=ys.length)
  (hk:∀i us H',Pv i us H'->H' l1= ~~~xs/\H' l2= ~~~ys) (h0:Pv 0 [] H)
  (hz:∀i us H',i < xs.length->Pv i us H'->us.length < sizeLine)
  (ht:∀i x y p us H',xs[i]?=some x->ys[i]?=some y->H' p=none->Pv i us H'->g (.ref p) (aV σ cap k) (upd H' p (.tup [x,y])) λ σ2 H2=>leS (aV σ cap k) σ2/\tt σ2 H2 λ ok H3=>if ok=true then te σ2 H3 (λ v H4=>Nx xs.length Pv i (us ++ [v]) H4)else Nx xs.length Pv i us H3)
  (hd:∀us H',Pv xs.length us H'->us.length<=sizeLine/\Q us H'):∃W,(∃m,W 0 m [] H)/\eF σ cap k (BV l1 l2) g tt te Q W:=by
 apply%[λ i m us H'=>m=xs.length - i/\i<=xs.length/\Pv i us H',%[_,O,F2 _|h0]|?_];rintro i m us H' ⟨rfl,hi,p⟩;obtain⟨e1,e2⟩:=hk i us H' p
 by_cases hlt:i < xs.length
 ·have hx:xs[i]?=some xs[i]:=by simp[hlt]
  have hy:ys[i]?=some (ys[i]'⋯):=by simp[show i < ys.length by lia]
  apply .inr %[%[xs,ys,_,_,e1,e2,hx|hy],hz i us H' hlt p|λ v H2 yl=>?_]
  ·obtain⟨q,xs',ys',x,y,hq,rfl,rfl,e1',e2',ex,ey⟩:=yl;rw[e1]at e1';cases e1';rw[e2]at e2';cases e2';exact ht i x y q us H' ex ey hq p
 ·have e:i=xs.length:=⋯
  subst e;obtain⟨a1,a2⟩:=hd us H' p;exact .inl %[%[xs,ys,e1,e2|B4 _],a1|a2]
section
variable{X:Cx}
theorem uw(bs:QT Bool):(List.range bs.length).any (λ i=>bs.getD i false)=bs.any id:=by
 rw[PZ,O7,O7];constructor
 ·rintro⟨i,hi,e⟩;have hi':=N9.mp hi;rw[K3,F5 hi']at e;exact%[_,QI hi'|e]
 ·rintro⟨b,hb,e⟩;obtain⟨i,hi,e2⟩:=List.getElem_of_mem hb;apply%[i,N9.mpr hi|?_];rw[K3,F5 hi];show bs[i]=true;rw[e2];exact e
def DQ(K:C6):QT V->Hp->VK->Prop:=λ xs H Q=>∃(p:QP)(bs:QT Bool),xs=[.ref p]/\SqL K H p (bs.map V.bl)/\Q (.bl (bs.any id)) H
theorem jf(hc:X.calm=true):cD X (.builtin "any") (DQ X.K):=by
 intro QV s σ H xs us Q I r h;obtain⟨p,bs,rfl,hs,q⟩:=h;obtain⟨u,rfl,rfl⟩:=fC r;obtain⟨its,rv,pl,_⟩:=I.list hs;have e:=ko rv;subst e;have hlt:p < s.heap.objs.size:=by obtain⟨_,_,e,_⟩:=pl;exact B0 e
 apply call_any_walk (wpAny_pyIter_list pl.isList ?_);apply%[_,_,_,_,_,_,λ i=>bs.getD i false,O,Walks.list (A:=X.A.in1) (I.ok.hd hc) _ p (C1 hlt) _,%[%[_,A9 _ rfl,O|O]|pl.isList.push _],λ i v s' Q' E' hP hQ'=>?_|λ h' tk hk=>?_]
 ·have hP':(bs.map Value.bool)[i]?=some v:=by simpa using hP
  rw[J3]at hP';cases hb:bs[i]? with
  | none=>rw[hb]at hP';cases hP'
  | some b=>
   rw[hb]at hP';cases hP';have hQ2:Q' (bs.getD i false) s':=hQ';rw[K3,hb]at hQ2;exact F6 hQ2
 ·have e2:((bs.map Value.bool).toArray.size)=bs.length:=by simp
  rw[e2,uw];apply%[.bl (bs.any id),H,I.kept (h':=h') (t':=tk) (λ b o e=>hk b o ?_ (A8 _ e)),O|q];intro z;rw[E6.mp z]at e;exact absurd (B0 e) (E4 _)
end
abbrev Tps(H H':Hp):Prop:=∀a xs,H a= ~~~xs->H' a= ~~~xs
theorem Same.tps{H H':Hp}(s:Same H H'):Tps H H':=λ _ _ e=>s _ _ e
def Sf(F:QP->Prop)(H H':Hp):Prop:=∀b o,H b=some o->H' b=some o\/(F b/\∃ob kvs,o=.dT kvs/\H' b=some (.frz ob (.dT kvs)))
theorem Same.sf{F:QP->Prop}{H H':Hp}(s:Same H H'):Sf F H H':=λ b o e=>.inl (s b o e)
theorem Sf.trans{F:QP->Prop}{H H1 H2:Hp}(a:Sf F H H1)(b:Sf F H1 H2):Sf F H H2:=λ c o e=>by
 rcases a c o e with h | ⟨f,ob,kvs,rfl,h⟩
 ·exact b c o h
 ·rcases b c _ h with h | ⟨_,_,_,z,_⟩
  ·exact .inr %[f,ob,kvs,O|h]
  ·cases z
theorem Sf.mono{F G:QP->Prop}{H H':Hp}(h:∀a,F a->G a)(s:Sf F H H'):Sf G H H':=λ b o e=>(s b o e).imp id λ%[f|r]=>%[h b f|r]
theorem Sf.not{F:QP->Prop}{H H':Hp}(s:Sf F H H'){b:QP}{o:HO}(n:¬ F b)(e:H b=some o):H' b=some o:=(s b o e).resolve_right λ%[f|_]=>n f
theorem Sf.tps{F:QP->Prop}{H H':Hp}(s:Sf F H H'):Tps H H':=λ b xs e=>(s b _ e).resolve_right λ%[_,_,_,z|_]=>by cases z
theorem Sf.lst{F:QP->Prop}{H H':Hp}(s:Sf F H H'){b:QP}{xs:QT V}(e:H b=↥xs):H' b=↥xs:=(s b _ e).resolve_right λ%[_,_,_,z|_]=>by cases z
theorem Sf.frz{F:QP->Prop}{H H':Hp}(s:Sf F H H'){b:QP}{ob:Obj}{u:HO}(e:H b=some (.frz ob u)):H' b=some (.frz ob u):=(s b _ e).resolve_right λ%[_,_,_,z|_]=>by cases z
theorem Sf.rd{F:QP->Prop}{H H':Hp}(s:Sf F H H'){b:QP}{kvs:QT (QT Key×V)}(e:Rd H b (.dT kvs)):Rd H' b (.dT kvs):=by
 rcases e with e | ⟨ob,e⟩
 ·rcases s b _ e with h | ⟨_,ob,kvs',z,h⟩
  ·exact .inl h
  ·cases z;exact .inr %[ob|h]
 ·exact .inr %[ob|s.frz e]
theorem Sf.free{F:QP->Prop}{H H':Hp}(s:Sf F H H'){b:QP}(h:H' b=none):H b=none:=by
 cases e:H b with
 | none=>rfl
 | some o=>rcases s b o e with z | ⟨_,_,_,_,z⟩ <;> rw[h]at z <;> cases z
theorem Sf.same{F:QP->Prop}{H H0 H':Hp}(s0:Same H H0)(s:Sf F H0 H')(n:∀a,F a->H a=none):Same H H':=λ b o e=>s.not (λ f=>by rw[n b f]at e;cases e) (s0 _ _ e)
theorem Ac{a:QP}{H:Hp}{kvs:QT (QT Key×V)}{R:It->Hp->Prop}(rd:Rd H a (.dT kvs))(h:∀ob H',H' a=some (.frz ob (.dT kvs))->Sf (· = a) H H'->R (Itd a ob kvs) H') :
  (H a=some (.dT kvs)/\∀ob,R (Itd a ob kvs) (upd H a (.frz ob (.dT kvs))))\/∃ob,H a=some (.frz ob (.dT kvs))/\R (Itd a ob kvs) H:=by
 rcases rd with e | ⟨ob,e⟩
 ·apply .inl %[e|λ ob=>h ob _ ah λ b o eb=>?_]
  by_cases z:b=a
  ·subst z;rw[e]at eb;cases eb;exact .inr %[O,ob,kvs,O|ah]
  ·rw[am z];exact .inl eb
 ·exact .inr %[ob,e|h ob H e (Same.sf (Same.refl _))]
theorem DGet.r{H:Hp}{a b:QP}{kvs:QT (QT Key×V)}{k:QT Key}(e:Rd H a (.dT kvs))(eb:H b= ~~~(k.map kV)):DGet H a (.ref b) (de kvs k):=.inr %[kvs,k,b,e,O,eb|O]
def Sg(F:QP->Prop)(st:QP)(H H':Hp):Prop:=∀b o,H b=some o->H' b=some o\/(F b/\∃ob kvs,o=.dT kvs/\H' b=some (.frz ob (.dT kvs)))\/(b=st/\∃kvs kvs',o=.dT kvs/\Rd H' b (.dT kvs'))
theorem Sf.sg{F:QP->Prop}{st:QP}{H H':Hp}(s:Sf F H H'):Sg F st H H':=λ b o e=>(s b o e).imp id .inl
theorem Same.sg{F:QP->Prop}{st:QP}{H H':Hp}(s:Same H H'):Sg F st H H':=λ b o e=>.inl (s b o e)
theorem Sg.refl{F:QP->Prop}{st:QP}(H:Hp):Sg F st H H:=λ _ _ e=>.inl e
theorem Sg.put{F:QP->Prop}{st:QP}{H:Hp}{kvs kvs':QT (QT Key×V)}(h:H st=some (.dT kvs)):Sg F st H (upd H st (.dT kvs')):=λ b o e=>by
 by_cases z:b=st
 ·subst z;rw[h]at e;cases e;exact .inr (.inr %[O,kvs,kvs',O|.inl ah])
 ·rw[am z];exact .inl e
theorem Sg.trans{F:QP->Prop}{st:QP}{H H1 H2:Hp}(a:Sg F st H H1)(b:Sg F st H1 H2):Sg F st H H2:=λ c o e=>by
 rcases a c o e with h | ⟨f,ob,kvs,rfl,h⟩ | ⟨rfl,kvs,kvs',rfl,h⟩
 ·exact b c o h
 ·rcases b c _ h with h | ⟨_,_,_,z,_⟩ | ⟨_,_,_,z,_⟩
  ·exact .inr (.inl %[f,ob,kvs,O|h])
  ·cases z
  ·cases z
 ·apply .inr (.inr %[O,kvs|?_]);rcases h with h | ⟨ob,h⟩
  ·rcases b c _ h with h | ⟨_,ob,k2,z,h⟩ | ⟨_,_,k2,z,h⟩
   ·exact%[kvs',O|.inl h]
   ·exact%[k2,O|.inr %[ob|h]]
   ·exact%[k2,O|h]
  ·rcases b c _ h with h | ⟨_,_,_,z,_⟩ | ⟨_,_,_,z,_⟩
   ·exact%[kvs',O|.inr %[ob|h]]
   ·cases z
   ·cases z
theorem Sg.keep{F:QP->Prop}{st:QP}{H H':Hp}(s:Sg F st H H'){b:QP}{o:HO}(n:∀kvs,o≠.dT kvs)(e:H b=some o):H' b=some o:=by
 rcases s b o e with h | ⟨_,_,kvs,z,_⟩ | ⟨_,kvs,_,z,_⟩
 ·exact h
 ·exact absurd z (n kvs)
 ·exact absurd z (n kvs)
theorem Sg.tps{F:QP->Prop}{st:QP}{H H':Hp}(s:Sg F st H H'):Tps H H':=λ _ _ e=>s.keep (λ _ z=>by cases z) e
theorem Sg.lst{F:QP->Prop}{st:QP}{H H':Hp}(s:Sg F st H H'){b:QP}{xs:QT V}(e:H b=↥xs):H' b=↥xs:=s.keep (λ _ z=>by cases z) e
theorem Sg.ins{F:QP->Prop}{st:QP}{H H':Hp}(s:Sg F st H H'){b C d:QP}{fs:QT (Str×V)}(e:H b=some (.ins C d fs)):H' b=some (.ins C d fs):=s.keep (λ _ z=>by cases z) e
theorem Sg.frz{F:QP->Prop}{st:QP}{H H':Hp}(s:Sg F st H H'){b:QP}{ob:Obj}{u:HO}(e:H b=some (.frz ob u)):H' b=some (.frz ob u):=s.keep (λ _ z=>by cases z) e
theorem Sg.rd{F:QP->Prop}{st:QP}{H H':Hp}(s:Sg F st H H'){b:QP}(n:b≠st){kvs:QT (QT Key×V)}(e:Rd H b (.dT kvs)):Rd H' b (.dT kvs):=by
 rcases e with e | ⟨ob,e⟩
 ·rcases s b _ e with h | ⟨_,ob,k2,z,h⟩ | ⟨z,_⟩
  ·exact .inl h
  ·cases z;exact .inr %[ob|h]
  ·exact absurd z n
 ·exact .inr %[ob|s.frz e]
theorem Sg.not{F:QP->Prop}{st:QP}{H H':Hp}(s:Sg F st H H'){b:QP}{o:HO}(n:b≠st)(nf:¬ F b)(e:H b=some o):H' b=some o:=by
 rcases s b _ e with h | ⟨f,_⟩ | ⟨z,_⟩
 ·exact h
 ·exact absurd f nf
 ·exact absurd z n
theorem Sg.sf{F:QP->Prop}{st:QP}{H H':Hp}(s:Sg F st H H')(n:H st=none):Sf F H H':=λ b o e=>by
 rcases s b _ e with h | f | ⟨z,_⟩
 ·exact .inl h
 ·exact .inr f
 ·rw[z,n]at e;cases e
section
variable{X:Cx}
def xL(tl:TE):TI:=λ σ H R=>tl σ H λ x H1=>∃a kvs,x=.ref a/\Rd H1 a (.dT kvs)/\∀ob H',H' a=some (.frz ob (.dT kvs))->Sf (· = a) H1 H'->R (Itd a ob kvs) H'
theorem kI{tg l:Expr}{tl:TE}(hl:PE X l tl):PI X tg l (xL tl):=by
 intro QV s σ H R I h;have h2:PE X l (λ σ' H' Q=>∃Q1:VK,tl σ' H' Q1/\∀x H1,Q1 x H1->Q x H1):=by intro QV s σ H Q I ⟨Q1,h1,h2⟩;apply thn (hl QV s σ H Q1 I h1) λ v s1 z=>?_;obtain⟨x,H1,a1,a2,a3⟩:=z;exact%[x,H1,a1,a2|h2 _ _ a3]
 apply xF h2 QV s σ H R I %[_,h|λ x H1 z=>?_];obtain⟨a,kvs,e,rd,hh⟩:=z;exact%[a,kvs,e|Ac rd hh]
theorem ux{tg l:Expr}{tl:TE}(K:C6)(hK:X.K=K)(hl:PE X l tl):PI X tg l (xL tl):=kI hl
end
theorem uy{a:QP}{ob:Obj}{kvs:QT (QT Key×V)}{g:TG}{tb:TS}{D:Ends}{σ:St}{H:Hp}(Pv:Nat->St->Hp->Prop)(h0:Pv 0 σ H)(hl:∀i σ H,i<=kvs.length->Pv i σ H->H a=some (.frz ob (.dT kvs)))
  (hs:∀i k v p q σ H,kvs[i]?=some (k,v)->H p=none->H q= ~~~(k.map kV)->Pv i σ H->g (.ref p) σ (upd H p (.tup [.ref q,v])) λ σ2 H2=>tb { D with nx:=Pv (i+1),ct:=Pv (i+1),bk:=D.nx } σ2 H2) (hd:∀σ H,Pv kvs.length σ H->D.nx σ H) :
  ∃W:Nat->Nat->St->Hp->Prop,(∃m,W 0 m σ H)/\∀i m σ H,W i m σ H ->
   ((Iti a ob kvs).stop i H/\D.nx σ H)\/((Iti a ob kvs).go i H/\∃N:St->Hp->Prop,(∀σ' H',N σ' H'->∃m',m' < m/\W (i+1) m' σ' H')/\∀x H',(Iti a ob kvs).yld i H x H'->g x σ H' λ σ2 H2=>tb { D with nx:=N,ct:=N,bk:=D.nx } σ2 H2):=by
 apply%[λ i m σ H=>m=kvs.length - i/\i<=kvs.length/\Pv i σ H,%[kvs.length,by simp,F2 _|h0]|?_];rintro i m σ H ⟨rfl,hi,p⟩;have q:=hl i σ H hi p
 by_cases hin:i < kvs.length
 ·apply .inr %[%[hin|q],Pv (i+1),λ σ' H' p'=>%[kvs.length - (i+1),⋯,O,hin|p']|λ x H' y=>?_];obtain⟨pa,q,k',v',e1,e2,e3,e4,e5⟩:=y;subst e4 e5;exact hs i k' v' pa q σ _ e1 e2 e3 p
 ·have e:i=kvs.length:=⋯
  subst e;exact .inl %[%[O|q]|hd σ H p]
theorem uz(b c:Bool){l1 l2:QP}{xs ys:QT V}{σ:St}{cap:QT Nat}{k:Nat}{g:TG}{tt:TT}{te:TE}{Q:QT V->Hp->Prop}{H:Hp}(Pv:Nat->QT V->Hp->Prop)(hn:xs.length=ys.length)
  (hk:∀i zs H',Pv i zs H'->H' l1=some (sqO b xs)/\H' l2=some (sqO c ys)) (h0:Pv 0 [] H)
  (hz:∀i zs H',i < xs.length->Pv i zs H'->zs.length < sizeLine)
  (ht:∀i x y p zs H',xs[i]?=some x->ys[i]?=some y->H' p=none->Pv i zs H'->g (.ref p) (aV σ cap k) (upd H' p (.tup [x,y])) λ σ2 H2=>leS (aV σ cap k) σ2/\tt σ2 H2 λ ok H3=>if ok=true then te σ2 H3 (λ v H4=>Nx xs.length Pv i (zs ++ [v]) H4)else Nx xs.length Pv i zs H3)
  (hd:∀zs H',Pv xs.length zs H'->zs.length<=sizeLine/\Q zs H'):∃W,(∃m,W 0 m [] H)/\eF σ cap k (sqE b c l1 l2) g tt te Q W:=by
 have inj:∀{d:Bool}{us vs:QT V},sqO d us=sqO d vs->us=vs:=λ {d us vs} e=>by cases d <;> (injection e)
 apply%[λ i m zs H'=>m=xs.length - i/\i<=xs.length/\Pv i zs H',%[_,O,F2 _|h0]|?_];rintro i m zs H' ⟨rfl,hi,p⟩;obtain⟨e1,e2⟩:=hk i zs H' p
 by_cases hlt:i < xs.length
 ·apply .inr %[%[xs,ys,_,_,e1,e2,F5 hlt|F5 (show i < ys.length by lia)],hz i zs H' hlt p|λ v H2 yl=>?_];obtain⟨q,xs',ys',x,y,hq,rfl,rfl,e1',e2',ex,ey⟩:=yl;rw[e1]at e1';rw[e2]at e2';obtain rfl:=inj (C0 e1');obtain rfl:=inj (C0 e2');exact ht i x y q zs H' ex ey hq p
 ·have e:i=xs.length:=⋯
  subst e;obtain⟨a1,a2⟩:=hd zs H' p;exact .inl %[%[xs,ys,e1,e2|.inl (B4 _)],a1|a2]
def BX(ta:TA):TI:=λ σ H R=>ta σ H λ vs H1=>∃l1 l2 xs ys,vs=[.ref l1,.ref l2]/\H1 l1=↥xs/\H1 l2= ~~~ys/\R (sqE false true l1 l2) H1
theorem xM{X:Cx}{a b:Expr}{ta:TA}{p pos tp:Pos}{es:QT Expr}{kk:Nat}(hg:Gl X "zip")(hm:X.mg "zip" = none)(ha:PA X [a,b] ta)
  (hs:starEach [a,b] X.env=[(false,eval a X.env),(false,eval b X.env)]:=by rfl) (hs2:starEach [b] X.env=[(false,eval b X.env)]:=by rfl) :
  PI X (.Tuple es kk tp) (.Call (.Name "zip" p) [a,b] [] pos) (BX ta):=rY false true hg hm ha hs hs2
end L2
namespace PyProof.Rows
open PySem PySem.W
section
variable{prog:G1}{w:G3}{A:Around}{E:G4->G0->Prop}{s:G0}
theorem jA{κ:KeyKind}{κ0:SortKind}{a:QP}{vs:QT G4}{n:Nat}{P:Fin->G0->Prop}(ho:s.heap.get? a=some (seqObj "list" vs.toArray n))
  (h0:KeysOf κ (pairsOf vs)) (hkk:∀s':G0,(∀b o,b≠a->s.heap.get? b=some o->s'.heap.get? b=some o)->bo prog w A s' κ0 κ/\∀v₁ v₂ rest,vs=v₁ :: v₂ :: rest->∀(Q:SortKind->G0->Prop),Q κ0 s'->wpAny (model prog w) A (keyKind' (v₁ :: v₂ :: rest).toArray) Q E s') (h64:vs.length < 4096)
  (h:∀st':SortSt,(arrOf st').Perm (pairsOf vs)->(vs.length < 64->SortedToK κ (arrOf st') (pairsOf vs).size)->P (.done (.ret .none)) { s with heap:=sortedHeap s.heap a vs ((arrOf st').map (·.2)) }) :
  wpAny (model prog w) A (Builtin.«list.sort» %[[.ref a]|[]]) P E s:=by
 by_cases c:vs.length < 64
 ·exact jy ho h0 hkk c λ st' a1 a2=>h st' a1 λ _=>a2
 ·exact jz ho h0 hkk h64 λ st' a1=>h st' a1 λ z=>absurd z c
theorem xN{κ:KeyKind}{κ0:SortKind}{d:QP}{es:QS DictEntry}{ep:Nat}{vs:QT G4}{Q:G4->G0->Prop}(lo:(d == sysModules)=false)(hh:A.handled=none)(hm:OKE d es ep s.heap)(hv:vs=es.toList.map (·.key))(h0:KeysOf κ (pairsOf vs))(hkk:∀ (A':Around) (s':G0),(∀b o,s.heap.get? b=some o->s'.heap.get? b=some o)->bo prog w A' s' κ0 κ/\∀v₁ v₂ rest,vs=v₁ :: v₂ :: rest->∀ (Q:SortKind->G0->Prop) (E':G4->G0->Prop),Q κ0 s'->wpAny (model prog w) A' (keyKind' (v₁ :: v₂ :: rest).toArray) Q E' s')(h64:vs.length < 4096)
  (h:∀(st':SortSt)(L:QP)(h':Heap)(tk e:Nat),(arrOf st').Perm (pairsOf vs)->(vs.length < 64->SortedToK κ (arrOf st') (pairsOf vs).size)->(∀b o,s.heap.get? b=some o->h'.get? b=some o)->s.heap.objs.size<=L->h'.get? L=some (seqObj "list" ((arrOf st').map (·.2)) e)->Q (.ref L) { s with heap:=h',toks:=tk }) :
  wpAny (model prog w) A (call (.builtin "sorted") [.ref d]) Q E s:=by
 have hsz:es.size<=sizeLine:=by
  have:es.size=vs.length:=by rw[hv,B5,N2]
  have z:(4096:Nat)<=sizeLine:=∅
  lia
 apply Calls.call_function_entry kind_sorted plain_sorted entry_sorted (args_sorted1 _) ?_;unfold Builtin.«sorted»;apply A0 (m:=checkCount "sorted" 1 1 _) (A3 ?_);apply A0 (xJ lo (by exact hh) hm hsz λ h1 tk k1 hle=>?_);rw[<- hv];apply A0 (wpAny_newList ?_);have hoL:(h1.push (seqObj "list" vs.toArray 0)).get? h1.objs.size=some (seqObj "list" vs.toArray 0):=A9 _ rfl;show wpAny _ _ _ _ _ { s with heap:=h1.push (seqObj "list" vs.toArray 0),toks:=tk };apply A0 (Qh (F7 slot_list_sort %[_,hoL|rfl] entry_list_sort (jA hoL h0 (λ s' k=>by
  obtain⟨a1,a2⟩:=hkk _ s' (λ b o e=>k b o (C1 (B0 (k1 b o e))) (A8 _ (k1 b o e)));exact%[a1|λ v1 v2 r e Q q=>a2 v1 v2 r e Q _ q]) h64 λ st' a1 a2=>%[_,O|?_]) (args_list_sort _)))
 obtain⟨e,he⟩:=sortedHeap_at (out:=(arrOf st').map (·.2)) (vs:=vs) hoL;apply A3 %[_,rfl|h st' h1.objs.size _ tk e a1 a2 (λ b o eb=>?_) hle he];have:=B0 (k1 b o eb);rw[sortedHeap_old (C1 this) (by rw[size_push'];exact PM this)];exact A8 _ (k1 b o eb)
end
end PyProof.Rows
namespace L2
open PySem PySem.Spec PyProof.Rows
section
variable{X:Cx}
def Ad(xs:QT V)(H:Hp)(Q:VK):Prop:=∃(p:QP)(kvs:QT (QT Key×V))(sh:QT Bool)(key:QT Key->SW),xs=[.ref p]/\Rd H p (.dT kvs)/\kvs.length < 4096/\sh.head?=some false/\(∀kv∈kvs,iq sh (kv.1.map kV)=some (key kv.1)) /\
 ∀(l:QP)(as':QT QP)(ks':QT (QT Key)),H l=none->Paired (λ a k=>H a= ~~~(k.map kV)) as' ks'->ks'.Perm (kvs.map (·.1))->(kvs.length < 64->(ks'.map key).Pairwise (λ x y=>cG y x=false))->Q (.ref l) (upd H l (.lst (as'.map V.ref)))
theorem lB(hc:X.calm=true):cD X (.builtin "sorted") Ad:=by
 intro QV s σ H xs us Q I r h;obtain⟨p,kvs,sh,key,rfl,hp,h64,h0,hk,q⟩:=h;obtain⟨u,rfl,rfl⟩:=fC r;obtain⟨hz,hs,ys,pr,o,es,ep,h1,h2,h3,h4,h5⟩:=(show ObjOk X.prog X.w H s.heap p (.dT kvs)from hp.ok I.hok)
 have yl:ys.length=kvs.length:=(lU pr).symm;have at':∀y∈ys,∃kv∈kvs,kv.1=y.1/\H y.2.1= ~~~(y.1.map kV):=λ y hy=>by obtain⟨j,hj⟩:=N8.mp hy;have jl:j < ys.length:=(A7.mp hj).1;have hkj:kvs[j]?=some kvs[j]:=F5 ⋯;obtain⟨z,hz',z1,z2,_⟩:=oE pr hkj;rw[hj]at hz';cases hz';exact%[_,B7 hkj,z1|by rw[<- z1];exact z2]
 have km:∀y∈ys,kG H sh y.2.1=key y.1/\iq sh (y.1.map kV)=some (key y.1):=λ y hy=>by obtain⟨kv,m,e1,e2⟩:=at' y hy;have f:=hk kv m;rw[e1]at f;exact%[Aa e2 f|f]
 obtain⟨as,has⟩:∃as,as=ys.map (·.2.1):=%[_|O]
 have ev:es.toList.map (·.key)=as.map Value.ref:=by rw[h4,has,N7,N7];rfl
 have tu:∀a∈as,∃o us n,s.heap.get? a=some o/\o.cls=.type "tuple" /\ o.data=.seq (List.toArray us) n/\cF sh us=some (kG H sh a):=λ a ha=>by rw[has]at ha;obtain⟨y,hy,rfl⟩:=J6.mp ha;obtain⟨kv,m,e1,e2⟩:=at' y hy;obtain⟨k1,k2⟩:=km y hy;obtain⟨us,r,⟨o,e,c,n,d⟩,_⟩:=I.tuple (G6 (K:=X.K) e2);exact%[o,us,n,e,c,d|by rw[k1];exact qM r k2]
 have kof:∀a∈as,(uj s.heap sh).keyOf (.ref a)=some (kG H sh a):=λ a ha=>by
  obtain⟨o,us,n,e,c,d,f⟩:=tu a ha;show(match s.heap.get? a with
   | some o=>match o.data with
    | .seq xs _=>cF sh xs.toList
    | _=>none
   | none=>none)=some (kG H sh a)
  rw[e];show(match o.data with
    | .seq xs _=>cF sh xs.toList
    | _=>none)=some (kG H sh a)
  rw[d];exact f
 have al:as.length=kvs.length:=by rw[has,B5,yl]
 apply xN (κ:=uj s.heap sh) (κ0:=tuples' true) hs (I.ok.hd hc) %[o,h1,h2|h3] ev.symm ?keys ?kk (by rw[B5];lia) λ st' L h' tk e hp hs' kp hL he=>?_
 case keys=>
  intro pr hpr;rw[pairsOf_toList]at hpr;obtain⟨a,ha,e⟩:=J6.mp (List.of_mem_zip (show(pr.1,pr.2)∈_ from hpr)).1;exact%[kG H sh a|by rw[<- e];exact kof a ha]
 case kk=>
  intro A' s' k;apply%[uk h0 k|λ v1 v2 rest e Q E' q=>?_];obtain⟨fs,f1,f2,f3⟩:=jt (h:=s'.heap) (key:=kG H sh) h0 as λ a ha=>by obtain⟨o,us,n,e,c,d,f⟩:=tu a ha;exact%[o,us,n,k _ _ e,c,d|f]
  rw[e]at f1;have:(as.map Value.ref).length=rest.length+2:=by rw[e];rfl
  rw[B5]at this;apply PySem.W.kat_kind (T:=.type "int") f1 ⋯ (λ v hv=>?_) rfl q;obtain⟨i,t,rfl⟩:=f3 v hv;exact PySem.W.Looks.of_pure rfl
 have pz:∀l:QT QP,(l.map Value.ref).zip (l.map Value.ref)=l.map λ a=>(Value.ref a,Value.ref a):=λ l=>by
  induction l with
  | nil=>rfl
  | cons a l ih=>rw[J8,List.zip_cons_cons,ih,J8]
 have hp':=M8.mp hp;rw[pairsOf_toList,pz]at hp';obtain⟨as',ea,pa⟩:=xA (f:=λ a=>(Value.ref a,Value.ref a)) (λ pr=>match pr.1 with
  | .ref a=>some a
  | _=>none) (λ a=>rfl) hp'
 have eo:((arrOf st').map (·.2)).toList=as'.map Value.ref:=by rw[Array.toList_map,ea,N7];rfl
 have hn:H L=none:=I.hok.fresh hL;obtain⟨ys',ey,py⟩:=ju (λ y:QT Key×QP×Value=>y.2.1) pa ys has;have my:∀y∈ys',y∈ys:=λ y hy=>py.mem_iff.mp hy;have pk:∀zs:QT (QT Key×QP×G4),(∀y∈zs,y∈ys)->Paired (λ a k=>H a= ~~~(List.map kV k)) (zs.map λ y=>y.2.1) (zs.map (·.1)):=λ zs=>by
  induction zs with
  | nil=>intro _;exact .nil
  | cons z zs ih=>intro hz;exact .cons (let ⟨_,_,_,e2⟩:=at' z (hz z B9);e2) (ih λ y hy=>hz y (B6 _ hy))
 have ek:kvs.map (·.1)=ys.map (·.1):=by
  apply QG λ j=>?_;rw[J3,J3]
  by_cases c:j < kvs.length
  ·rw[F5 c];obtain⟨z,hz',z1,_⟩:=oE pr (F5 c);rw[hz',Option.map_some,Option.map_some,z1]
  ·rw[O0 ⋯,O0 ⋯];rfl
 apply%[.ref L,upd H L (.lst (as'.map V.ref)),I.laid (o:=.lst (as'.map V.ref)) (t':=tk) kp hL (show ObjOk _ _ _ _ _ (.lst _)from%[?_,((arrOf st').map (·.2)).toList,e,?_|?_]),O|q L as' (ys'.map (·.1)) hn ?_ ?_ ?_]
 ·rw[B5,pa.length_eq];have:(4096:Nat)<=sizeLine:=∅
  lia
 ·rw[eo];exact jd as'
 ·rw[he]
 ·rw[ey];exact pk ys' my
 ·rw[ek];exact py.map _
 ·intro h63;have hs':=hs' (by rw[B5,al];exact h63);have e0:(ys'.map (·.1)).map key=as'.map (kG H sh):=by rw[ey,N7,N7];exact List.map_congr_left λ y hy=>(km y (my y hy)).1.symm
  rw[e0,List.pairwise_iff_getElem];intro i j hi hj hij;rw[B5]at hi hj;have sz:(pairsOf (as.map Value.ref)).size=as.length:=by rw[pairsOf_size,B5]
  have kk:∀i (hi:i < as'.length),KK (uj s.heap sh) (arrOf st') i=kG H sh as'[i]:=λ i hi=>by
   have e:(arrOf st')[i]?=some (Value.ref as'[i],Value.ref as'[i]):=by rw[<- M4,ea,J3,F5 hi];rfl
   unfold KK;rw[e];show((uj s.heap sh).keyOf (.ref as'[i])).getD _=_;rw[kof _ (pa.mem_iff.mp (QI hi))];rfl
  have:=hs' i j ⋯ (by rw[sz,<- pa.length_eq];exact hj);rw[kk i hi,kk j hj]at this;rw[List.getElem_map,List.getElem_map];exact this
end
end L2
namespace Pc
open PySem L2
def top(i:Nat):Stmt:=PySem.Challenge.pw_platecuts_k73_whole_drawn_trees_borne.main.body.getD i (.Pass %[0,0,0|0])
abbrev nA:Stmt:=top 11
abbrev nC:Stmt:=top 12
abbrev Ae:Stmt:=top 13
abbrev dU:Stmt:=top 14
abbrev dW:Stmt:=top 15
abbrev jH:Stmt:=top 19
abbrev eO:Stmt:=top 20
abbrev gz:Stmt:=top 21
abbrev fe:Stmt:=top 22
abbrev dE:Stmt:=top 23
abbrev dX:Stmt:=top 29
abbrev cK:Stmt:=top 30
abbrev iC:Stmt:=top 31
abbrev eP:Stmt:=top 32
abbrev cL:Stmt:=top 33
abbrev bF:Stmt:=top 34
abbrev cM:Stmt:=top 35
abbrev bG:Stmt:=top 36
abbrev iD:Stmt:=top 38
abbrev gb:Stmt:=top 39
abbrev bM:Stmt:=top 40
abbrev bT:Stmt:=top 41
abbrev bN:Stmt:=top 42
abbrev gA:Stmt:=top 43
abbrev jI:Stmt:=top 47
abbrev jJ:Stmt:=top 48
abbrev eQ:Stmt:=inClass (top 49) 0
abbrev ff:Stmt:=inClass (top 49) 1
abbrev fg:Stmt:=inClass (top 49) 2
abbrev cX:Stmt:=inClass (top 49) 3
abbrev dY:Stmt:=inClass (top 49) 4
abbrev dk:Stmt:=inClass (top 49) 5
abbrev fk:Stmt:=inClass (top 49) 6
abbrev dF:Stmt:=top 52
abbrev dZ:Stmt:=top 53
abbrev cj:Stmt:=top 54
abbrev jK:Stmt:=top 55
abbrev cS:Stmt:=top 58
abbrev cN:Stmt:=top 59
abbrev fm:Stmt:=top 60
abbrev bX:Stmt:=top 61
abbrev sE:Stmt:=top 63
abbrev Af:Stmt:=top 64
abbrev sG:Stmt:=top 65
abbrev sH:Stmt:=top 66
abbrev oQ:Stmt:=top 67
abbrev sI:Stmt:=top 68
abbrev ed:Stmt:=top 69
abbrev xO:Stmt:=top 70
abbrev nD:Stmt:=top 71
abbrev oR:Stmt:=top 72
abbrev lY:Stmt:=top 73
abbrev gc:Stmt:=top 74
abbrev dq:Stmt:=top 75
abbrev gZ:Stmt:=top 76
abbrev oS:Stmt:=top 77
theorem bL{CX:_}{P:G1}{w:G3}{K:C6}{mg:Str->QR G4}{base:Heap}{N:QT Str}{qual:Str}{scope:Scope}{f:QP}{cd:G4}{A:Around}{outer:QT Env}{s₀:G0}{H₀:Hp}{E:XK}:(qr CX P w K mg base N qual scope f cd A outer s₀ H₀ E).nox.K=K:=rfl
@[elab_as_elim] theorem aK{H:Hp}{t:QP}{o:HO}{P:Hp->Prop}(ht:H t=none)(h:∀H',H' t=some o->Same H H'->P H'):P (upd H t o):=h _ ah (G5 ht)
section
variable{P:G1}{w:G3}{K:C6}{mg:Str->QR G4}{base:Heap}
structure Blt(mg:Str->QR Value):Prop where
 isi:mg "isinstance" = none
 int:mg "int" = none
 bool:mg "bool" = none
 list:mg "list" = none
 tuple:mg "tuple" = none
 len:mg "len" = none
 range:mg "range" = none
 max:mg "max" = none
 min:mg "min" = none
 abs:mg "abs" = none
 divmod:mg "divmod" = none
 sum:mg "sum" = none
 sorted:mg "sorted" = none
 all:mg "all" = none
 repr:mg "repr" = none
 zip:mg "zip" = none
 enumerate:mg "enumerate" = none
 mostk:∃t,mg "MOST_KINDS" = some (.int 8 t)
 fivek:∃t,mg "THINGS_OF_A_KIND" = some (.int 5 t)
theorem jL{t u:TS}{D:Ends}{σ:St}{H:Hp}(C:(St->Hp->Prop)->Prop)(h1:∀R:St->Hp->Prop,C R->t { D with nx:=R } σ H)(h2:C (u D)):zy t u D σ H:=h1 _ h2
theorem av{t u:TS}{D:Ends}{σ:St}{H:Hp}(C:(St->Hp->Prop)->Prop)(h1:∀D':Ends,C D'.nx->t D' σ H)(h2:C (u D)):zy t u D σ H:=h1 _ h2
theorem br{P:Prop}(h:∀G:Prop,(P->G)->G):P:=h P id
theorem bH{t u:TS}{D:Ends}{σ:St}{H:Hp}(J:St->Hp->Prop)(h1:∀R:St->Hp->Prop,(∀σ' H',J σ' H'->R σ' H')->t { D with nx:=R } σ H)(h2:∀σ' H',J σ' H'->u D σ' H'):zy t u D σ H:=h1 _ h2
theorem Ag:FnScope RP RP (defScope nA):=nofun
theorem xP{f:QP}{fd:G2}(F:Fun K "is_whole" "is_whole" nA f fd)(B:Blt mg):FnOk P w K mg base CX0 1 f fd RP (dR K):=by
 exists Ag;obtain⟨x,T,l,rfl,⟨tn,ty⟩,q⟩:=h;apply⟨_,ai (au (fO (ay fT rfl B.isi RB (ab '0' (ab (ij (v:=.ty "int") rfl B.int PyProof.Rows.boot_int rfl) ae)))
  (fO (wA (ay fT rfl B.isi RB (ab '0' (ab (ij (v:=.ty "bool") rfl B.bool PyProof.Rows.boot_bool rfl) ae))))
  (fN (bD AV '0' '1' (aA _)))))),?_⟩
 apply%[_,O,x,_,_,_,_,O,ty,O,zN T tn,_,O|?_];have tb:=rL ty;apply bW (λ c=>?_) (λ c=>?_)
 ·apply%[_,O,x,_,_,_,_,O,ty,O,oj T tn,_,O,_,O|?_];apply bW (λ c2=>?_) (λ c2=>?_)
  ·have hT:(T == "int")=true:=by
    have:(T == "bool")=false:=by simpa using c2
    rw[this,Bool.or_false]at c;exact c
   obtain⟨i,rfl⟩:=BG ty tn hT;exact%[_,O,_,O,_,_,O,O|q]
  ·have hT:tS x=true:=by
    rw[<- tb];cases e:(T == "bool")with
    | true=>rfl
    | false=>rw[e]at c2;exact absurd rfl c2
   cases x <;> first | exact q | (exact absurd hT B3)
 ·have hx:whole x l=false:=by
   cases x with
   | int i=>
    exfalso;have ty':=ty;generalize hv:Value.type T=tv at ty';cases ty' with
    | int=>cases hv;exact c rfl
   | _=>rfl
  rw[hx]at q;exact q
theorem Ah:FnScope RQ RQ (defScope nC):=nofun
theorem xQ{f:QP}{fd:G2}(F:Fun K "is_truth" "is_truth" nC f fd)(B:Blt mg):FnOk P w K mg base CX0 1 f fd RQ (mV K):=by
 exists Ah;obtain⟨x,T,rfl,⟨tn,ty⟩,q⟩:=h;apply%[_,ai (au (ay fT rfl B.isi RB (ab '0' (ab (ij (v:=.ty "bool") rfl B.bool PyProof.Rows.boot_bool rfl) ae))))|?_];apply%[_,O,x,_,_,_,_,O,ty,O,oj T tn|?_];rw[rL ty];exact q
theorem DV:FnScope RQ RQ (defScope Ae):=nofun
theorem BY{f:QP}{fd:G2}(F:Fun K "is_row" "is_row" Ae f fd)(B:Blt mg):FnOk P w K mg base CX0 1 f fd RQ (rM K):=by
 exists DV;obtain⟨x,T,rfl,ty,q⟩:=h;apply%[_,ai (au (ay mT rfl B.isi RB (ab '0' (ab (aJ (ab (ij (v:=.ty "list") rfl B.list PyProof.Rows.boot_list rfl) (ab (ij (v:=.ty "tuple") rfl B.tuple Qg rfl) ae))) ae))))|?_];apply%[_,O,zS2|λ p hp=>?_];have s1:Same H (upd H p (.tup [.ty "list",.ty "tuple"])):=λ b o e=>by rw[am (ak e hp)];exact e
 have t2:=Ty.same s1 ty;exact%[x,p,_,_,_,_,O,t2.2,ah,O,zO T ty.1|q _ s1]
theorem scIsKind:FnScope ["thing","wide","high","worth","wanted","turns"] RQ (defScope jI):=nofun
theorem uA{f:QP}{fd:G2}(F:Fun K "is_kind" "is_kind" jI f fd)(B:Blt mg)(DW:Dn P w K mg base "is_whole" RP 1 (dR K))(DT:Dn P w K mg base "is_truth" RQ 1 (mV K))(DR:Dn P w K mg base "is_row" RQ 1 (rM K)) :
  FnOk P w K mg base CX0 2 f fd RQ (kf K):=by
 exists scIsKind;obtain⟨x,T,rfl,ty,q⟩:=h;obtain⟨tk,htk⟩:=B.fivek;have nd:=scIsKind.nd;apply⟨_,af (aO (PW.pt (cP (bf (aW (ap DR hr rfl (ab '0' ae)))) (cC (aF nT (ay aN rfl B.len Qn (ab '0' ae)) (bU (v:=.int 5) rfl htk %[tk|O]) (aA _))))) (ai (au eC)) aE)
  (af (cr '0' (xc rfl (ao (aj (i:=1) nd rfl (Or.inl rfl)) (ao (aj (i:=2) nd rfl (Or.inl rfl)) (ao (aj (i:=3) nd rfl (Or.inl rfl)) (ao (aj (i:=4) nd rfl (Or.inl rfl)) (ao (aj (i:=5) nd rfl (Or.inl rfl)) aR)))))))
  (af (aO (PW.pt (cP (bf (aW (ap DW hr rfl (ab '1' (ab ag ae))))) (cC (bf (aW (ap DW hr rfl (ab '2' (ab ag ae)))))))) (ai (au eC)) aE)
  (ai (au (fO (ap DW hr rfl (ab '3' (ab ag ae))) (fO (ap DW hr rfl (ab '4' (ab ag ae))) (fN (ap DT hr rfl (ab '5' ae))))))))),?_⟩
 apply%[_,O,x,T,O,ty|λ H1 s1=>%[_,O|?_]];rcases q with⟨n1,n2,q⟩ | ⟨a,xs,rfl,hx,its,q⟩
 ·have e:(T == "list" || T == "tuple")=false:=by simp[n1,n2]
  rw[e];apply ce (ce ?_);exact q H1 s1
 ·have e:(T == "list" || T == "tuple")=true:=by
   have t2:=ty.2;generalize hv:Value.type T=tv at t2;generalize hr:V.ref a=rv at t2;cases t2 with
   | lst _=>cases hv;rfl
   | frz _=>cases hv;rfl
   | tup _=>cases hv;rfl
   | dK e=>cases hr;rcases hx with z | z <;> (rw[z]at e;cases e)
   | dT e=>cases hr;rcases hx with z | z <;> (rw[z]at e;cases e)
   | ext e _=>cases hr;rcases hx with z | z <;> (rw[z]at e;cases e)
   | ins=>cases hv
   | _=>cases hr
  rw[e];have sq:SqL K H1 a xs\/SqT K H1 a xs:=by
   rcases hx with z | z
   ·exact .inl (G7 (s1 _ _ z))
   ·exact .inr (G6 (s1 _ _ z))
  apply be %[_,rfl,a,xs,rfl,sq,rfl,_,rfl|?_];apply bW (λ c=>?_) (λ c=>?_)
  ·have hl:xs.length≠5:=λ z=>by rw[z]at c;exact absurd c ∅
   have:lP xs=false:=by
    unfold lP
    split
    ·exact absurd rfl hl
    ·rfl
   rw[this]at q;exact q H1 s1
  ·have hl:xs.length=5:=by
    by_cases z:xs.length=5
    ·exact z
    ·exfalso;apply c ?_;have:¬ (V.int (xs.length:Int)=V.int 5):=λ h=>z (by have:=V.int.inj h;lia);rw[Qc this];rfl
   obtain⟨x1,x2,x3,x4,x5,rfl⟩:∃x1 x2 x3 x4 x5,xs=[x1,x2,x3,x4,x5]:=by
    match xs,hl with
    | [a,b,c,d,e],_=>exact%[a,b,c,d,e|O]
   obtain⟨T1,t1⟩:=its x1 (by simp);obtain⟨T2,t2⟩:=its x2 (by simp);obtain⟨T3,t3⟩:=its x3 (by simp);obtain⟨T4,t4⟩:=its x4 (by simp);obtain⟨T5,t5⟩:=its x5 (by simp);apply%[_,O,a,_,O,sq,O,x1,_,O,x2,_,O,x3,_,O,x4,_,O,x5,_,O,O|?_];apply%[_,O,x1,T1,1,O,Ty.same s1 t1,_,O|?_];have q':∀b,lP [x1,x2,x3,x4,x5]=b->Q (.bl b) H1:=λ b e=>by rw[<- e];exact q H1 s1
   have k5:lP [x1,x2,x3,x4,x5]=(whole x1 1 && whole x2 1 && whole x3 0 && whole x4 0 && tS x5):=rfl;cases w1:whole x1 1 with
   | false=>
    apply ce (ce ?_);exact q' false (by rw[k5,w1];rfl)
   | true=>
    apply be %[_,rfl,x2,T2,1,rfl,Ty.same s1 t2,_,rfl|?_];cases w2:whole x2 1 with
    | false=>
     apply ce ?_;exact q' false (by rw[k5,w1,w2];rfl)
    | true=>
     apply be %[_,rfl,x3,T3,0,rfl,Ty.same s1 t3,_,rfl|?_];cases w3:whole x3 0 with
     | false=>
      apply be ?_;exact q' false (by rw[k5,w1,w2,w3];rfl)
     | true=>
      apply ce %[_,rfl,x4,T4,0,rfl,Ty.same s1 t4,_,rfl|?_];cases w4:whole x4 0 with
      | false=>
       apply be ?_;exact q' false (by rw[k5,w1,w2,w3,w4];rfl)
      | true=>
       apply ce %[_,rfl,x5,T5,rfl,Ty.same s1 t5|?_];exact q' _ (by rw[k5,w1,w2,w3,w4];rfl)
theorem scInit:FnScope RS RT (defScope eQ):=nofun
theorem Ai{f C:QP}{fd:G2}(F:Fun K "__init__" "Shop.__init__" eQ f fd)(B:Blt mg)(T:ShopTxt K C)(DW:Dn P w K mg base "is_whole" RP 1 (dR K))(DR:Dn P w K mg base "is_row" RQ 1 (rM K))
  (DK:Dn P w K mg base "is_kind" RQ 2 (kf K)):FnOk P w K mg base CX0 3 f fd RT (qF C):=by
 exists scInit;obtain⟨x,dx,ks,b,rs,kds,rfl,hx,b0,hks,hrs,hgd,n1,n8,q⟩:=h;have hr1:=hr.mono (show 1<=2 by decide);obtain⟨tk,htk⟩:=B.mostk;have nd:=scInit.nd;have n8':(8:Nat) < sizeLine:=∅
 apply⟨_,af (aO (bf (aW (ap DW hr1 rfl (ab '1' (ab ag ae))))) iR aE)
  (af (aO (PW.pt (cP (bf (aW (ap DR hr1 rfl (ab '2' ae)))) (cC (bf (nU fP fP ag (ay aN rfl B.len Qn (ab '2' ae)) (bU (v:=.int 8) rfl htk %[tk|rfl])))))) iR aE)
  (af (bE E8 rfl (qB '2') (aj (i:=3) nd rfl (Or.inl rfl)) (ai (aO (bf (aW (ap DK hr rfl (ab '3' ae)))) iR aE)))
  (af (wO '0' '1' rfl)
  (ai (wO '0' (aU aL rfl B.tuple Qg (ab (aY (own:=RU) (cs:=[]) (cap:=[]) rfl (qB '2')
   (aD (sc:=defScope eQ) (N:=RS) rfl rfl ∅)
   (λ _ _ _ _ _=>aj (i:=0) (by show List.Nodup (RU:QT Str);decide +kernel) rfl (Or.inl rfl) (Or.inr rfl)) (λ _ _ _ _ _=>aH)
   (λ _ _ _ _ _=>aU (r:=xg K) aL rfl B.tuple Qg (ab '0' ae))) ae)) rfl))))),?_⟩
 apply%[_,O,.int b,_,0,O,.int,_,O|?_];have wb:whole (.int b) 0=true:=B1 b0;rw[wb];apply be ?_;have tyk:∃T,Ty K H (.ref ks) T/\(T == "list" || T == "tuple")=true:=by
  rcases hks with e | e
  ·exact%[_,.lst e|O]
  ·exact%[_,.tup e|O]
 obtain⟨T0,ty0,te0⟩:=tyk;apply%[_,O,.ref ks,T0,O,ty0|λ H1 s1=>%[_,O|?_]];rw[te0];have sq:∀{H2:Hp},Same H H2->SqL K H2 ks rs\/SqT K H2 ks rs:=λ s2=>by
  rcases hks with z | z
  ·exact .inl (G7 (s2 _ _ z))
  ·exact .inr (G6 (s2 _ _ z))
 apply be %[_,rfl,ks,rs,rfl,sq s1,_,_,rfl,rfl,_,rfl|?_];rw[Qb (show(1:Int)<=(rs.length:Int)by lia)];apply ce %[_,_,rfl,rfl,_,rfl|?_];rw[Qb (show(rs.length:Int)<=8 by lia)];apply be ?_;have Cz:=E7 hrs;apply xh (j:=2) (a:=ks) (xs:=rs) rfl (hks.imp (λ z=>s1 _ _ z) λ z=>s1 _ _ z) (λ i σ H2=>∃v,σ=[↑x,⇑b,↑ks,v]/\Same H1 H2) %[none,rfl|Same.refl _] (λ i σ H2 _ ⟨_,_,s2⟩ o e=>s2 _ _ e) ?_ ?_
 ·rintro i y σ H2 hi ⟨v,rfl,s2⟩;obtain⟨k,hk,rk⟩:=J0 hrs hi;apply%[_,O|?_];simp only[tL,N0];apply tT ((rk.same s1).same s2) (hgd k (B7 hk)) λ H3 s3=>%[_,O|be ?_]
  exact%[_,O|s2.trans s3]
 rintro σ H2 ⟨v,rfl,s12⟩;have s2:Same H H2:=s1.trans s12;apply%[_,O,_,O,x,C,dx,[],O,s2 _ _ hx,T.cl,T.nB,(by show 0 < 1000;decide)|?_];have k3:∀c o,c≠x->H c=some o->(upd H2 x (.ins C dx (dP "blade_width" (.int b) []))) c=some o:=λ c o n e=>by rw[am n];exact s2 c o e
 have x3:(upd H2 x (.ins C dx (dP "blade_width" (.int b) []))) x=some (.ins C dx (dP "blade_width" (.int b) [])):=ah;generalize upd H2 x (.ins C dx (dP "blade_width" (.int b) []))=H3 at k3 x3 ⊢;have rx:∀c xs,H c=↥xs\/H c= ~~~xs->c≠x:=λ c xs e z=>by subst z;rcases e with e | e <;> (rw[hx]at e;cases e)
 dsimp only[Dm,tCB,rB];apply lQ (j:=2) (a:=ks) (xs:=rs) rfl (hks.imp (λ z=>k3 _ _ (rx _ _ (.inl z)) z) λ z=>k3 _ _ (rx _ _ (.inr z)) z) (λ i ys H4=>ys.length=i/\Same H3 H4/\Tups H4 ys (kds.take i)) (λ i ys H4 _ ⟨_,s4,_⟩ o e=>s4 _ _ e) %[rfl,Same.refl _|.nil] ?_ ?_
 ·rintro i y ys H4 hi ⟨hy,s4,ty4⟩;have hin:i < rs.length:=(A7.mp hi).1;obtain⟨k,hk,rk⟩:=J0 hrs hi;have tk1:kds.take (i+1)=kds.take i ++ [k]:=by rw[K0,hk];rfl
  apply%[⋯,leS.set rfl|aI ?_];rcases rk with⟨a,rfl,h⟩ | ⟨a,rfl,h⟩
  ·have h4:=s4 _ _ (k3 _ _ (rx _ _ (.inr h)) h);exact%[_,O,a,_,O|.inr %[G6 h4|Nx.of hin %[by rw[J7,hy];rfl,s4|by rw[tk1];exact Paired.snoc ty4 %[a,O|h4]]]]
  ·have h4:=s4 _ _ (k3 _ _ (rx _ _ (.inl h)) h);apply%[_,O,a,_,O|.inl %[G7 h4|λ l hl=>Nx.of hin %[by rw[J7,hy];rfl,λ c o e=>?_|?_]]]
   ·have e4:=s4 c o e;rw[am (ak e4 hl)];exact e4
   ·rw[tk1];exact Paired.snoc (Tups.keep (λ c xs e=>by rw[am (ak e hl)];exact e) ty4) %[l,rfl|ah]
 rintro ys H4 ⟨hy,s4,ty4⟩;apply%[⋯|λ p hp=>?_];apply%[p,ys,O|.inl %[G7 ah|λ r hr'=>?_]];have hpr:r≠p:=λ z=>by rw[z,ah]at hr';cases hr'
 have hr4:H4 r=none:=by rw[am hpr]at hr';exact hr'
 have x4:=s4 _ _ x3;have xp:x≠p:=ak x4 hp;have xr:x≠r:=ak x4 hr4;apply%[_,O,x,C,dx,_,O,(by rw[am xr,am xp];exact x4),T.cl,T.nK,(C8 (fQ _ _ _) ∅)|?_];rw[Cz,M0]at ty4;apply q _ %[dx,r,ys,ah,by rw[am (Ne.symm xr),ah]|?_] λ c o n e=>?_
 ·apply Tups.keep (λ c xs e=>?_) ty4;rw[am (λ z=>by rw[z,x4]at e;cases e),am (ak e hr4),am (ak e hp)];exact e
 ·have e4:=s4 _ _ (k3 c o n e);rw[am n,am (ak e4 hr4),am (ak e4 hp)];exact e4
theorem Aj:FnScope RV RV (defScope ff):=nofun
theorem xR{f C:QP}{fd:G2}(F:Fun K "blade" "Shop.blade" ff f fd)(T:ShopTxt K C):FnOk P w K mg base CX0 1 f fd RV (jF C):=by
 exists Aj;obtain⟨x,b,ks,rfl,⟨dx,r,rs,h1,h2,h3⟩,q⟩:=h;exact%[_,ai (au (gQ '0' rfl)),_,O,x,C,dx,_,_,O,h1,T.cl,T.nB,qE _ _|q]
theorem Ak:FnScope RV RV (defScope fg):=nofun
theorem xS{f C:QP}{fd:G2}(F:Fun K "kinds" "Shop.kinds" fg f fd)(T:ShopTxt K C)(ml:mg "list" = none):FnOk P w K mg base CX0 1 f fd RV (mW C):=by
 exists Ak;obtain⟨x,b,ks,rfl,⟨dx,r,rs,h1,h2,h3⟩,q⟩:=h;apply%[_,ai (au (aU mP rfl ml PyProof.Rows.boot_list (ab (gQ '0' rfl) ae)))|?_];exact%[_,O,x,C,dx,_,_,O,h1,T.cl,T.nK,dw _ _,r,rs,O,.inr (G6 h2)|λ l hl=>q l rs hl h3]
theorem xT:FnScope RU RU (defScope jJ):=nofun
theorem uB{f:QP}{fd:G2}(F:Fun K "can_lie_turned" "can_lie_turned" jJ f fd):FnOk P w K mg base CX0 1 f fd RU (ki K):=by
 exists xT;obtain⟨a,k,rfl,ha,q⟩:=h;apply%[_,ai (au (fO (aG ix_tup '0' ag (λ _ _=>rfl)) (fN (bD nT (aG ix_tup '0' ag (λ _ _=>rfl)) (aG ix_tup '0' ag (λ _ _=>rfl)) (aA _)))))|?_];apply%[_,O,a,_,4,_,O,O,G6 ha,O,_,O|?_];unfold bi at q;apply bW (λ c=>?_) (λ c=>?_)
 ·rw[c,QD]at q;apply%[_,O,a,_,0,_,O,O,G6 ha,O,_,O,a,_,1,_,O,O,G6 ha,O,O|?_];rw[mK];rw[show(decide (k.w=k.h))=(k.w == k.h)from rfl]at q;exact q
 ·have c':k.tu=false:=by simpa using c
  rw[c',Bool.false_and]at q;exact q
theorem scLyings:FnScope ["self","told","number","kind"] RV (defScope dY):=nofun
theorem uC{f C:QP}{fd:G2}(F:Fun K "lyings" "Shop.lyings" dY f fd)(T:ShopTxt K C)(me:mg "enumerate" = none)(DT:Dn P w K mg base "can_lie_turned" RU 1 (ki K)) :
  FnOk P w K mg base CX0 2 f fd RV (kn C):=by
 exists scLyings;obtain⟨x,b,ks,rfl,⟨dx,r,rs,h1,h2,h3⟩,n8,q⟩:=h;apply⟨_,af (ax (i:=1) nd rfl (Or.inl rfl) (bh ae))
  (af (bE E8 rfl (mX rfl me (ab (gQ '0' rfl) ae)) (bn rfl (ao (aj (i:=2) nd rfl (Or.inl rfl)) (ao (aj (i:=3) nd rfl (Or.inl rfl)) aR)))
   (af (bj (fS F9 PySem.F.slot_list_append PySem.F.type_list_append cx '1' (ab (aJ (ab '2' (ab eC ae))) ae)))
   (ai (aO (aW (ap DT hr rfl (ab '3' ae)))
    (ai (bj (fS F9 PySem.F.slot_list_append PySem.F.type_list_append cx '1' (ab (aJ (ab '2' (ab eC ae))) ae)))) aE))))
  (ai (au '1'))),?_⟩
 apply%[∅|λ l hl=>?_];have s1:Same H (upd H l (.lst [])):=G5 hl;have l1:(upd H l (.lst ([]:QT V))) l=↥[]:=ah;generalize upd H l (.lst ([]:QT V))=H1 at s1 l1 ⊢;have yW:=E7 h3;have n8':(100:Nat) < sizeLine:=∅
 apply%[_,O,x,C,dx,_,_,O,s1 _ _ h1,T.cl,T.nK,dw _ _,r,rs,O|.inr %[s1 _ _ h2|?_]];apply xj (f:=HO.tup) (λ _ _ e=>HO.tup.inj e) (xs:=rs) (λ i σ H2=>∃v2 v3 ys,σ=[↑x,↑l,v2,v3]/\Same H H2/\H2 l=↥ys/\Lys H2 ys (lyK (ks.take i) 0)) %[none,none,[],rfl,s1,l1|.nil]
  (λ i σ H2 h9=>by obtain⟨_,_,_,_,s2,_⟩:=h9;exact s2 _ _ h2) ?_ ?_
 ·rintro i y p σ H2 hi hp ⟨v2,v3,ys,rfl,s2,l2,y2⟩;obtain⟨k,hk,a,rfl,ha⟩:=J0 h3 hi;have s3:Same H (upd H2 p (.tup [.int i,.ref a])):=s2.trans (G5 hp);have l3:(upd H2 p (.tup [.int (i:Int),.ref a])) l=↥ys:=by rw[am (ak l2 hp)];exact l2
  have y3:Lys (upd H2 p (.tup [.int (i:Int),.ref a])) ys (lyK (ks.take i) 0):=Lys.keep (λ c xs e=>by rw[am (ak e hp)];exact e) y2;have p3:(upd H2 p (.tup [.int (i:Int),.ref a])) p= ~~~[.int (i:Int),.ref a]:=ah;generalize upd H2 p (.tup [.int (i:Int),.ref a])=H3 at s3 l3 y3 p3 ⊢;have hli:i < ks.length:=(A7.mp hk).1;have ylen:ys.length<=16:=by have e1:=E7 y2;have e2:=mY (ks.take i) 0;rw[K4]at e2;lia
  have tk1:lyK (ks.take (i+1)) 0=lyK (ks.take i) 0 ++ lyT i k:=by rw[K0,hk];show lyK (ks.take i ++ [k]) 0=_;rw[oo,K4,QK,Nat.min_eq_left (C9 hli)]
  apply%[p,_,O,G6 p3,O,_,_,O,_,_,O,O|?_];apply%[_,O,.inl %[O,_|G7 l3],_,O,zS2|λ t ht=>?_];have lt:l≠t:=ak l3 ht;apply%[l,ys,_,O,O,(by rw[am lt];exact l3),⋯|?_];obtain⟨s4,l4,y4⟩:=xk (b:=false) hl s3 l3 y3 ht;generalize upd (upd H3 t (.tup [.int (i:Int),.bl false])) l (.lst (ys ++ [.ref t]))=H4 at s4 l4 y4 ⊢;apply%[_,O,a,k,O,s4 _ _ ha,_,O|?_];apply bW (λ c=>?_) (λ c=>?_)
  ·apply%[_,O,.inl %[O,_|G7 l4],_,O,zS2|λ t' ht'=>?_];have lt':l≠t':=ak l4 ht';apply%[l,_,_,O,O,(by rw[am lt'];exact l4),(by rw[J7];show ys.length+1 < sizeLine;lia)|?_];obtain⟨s5,l5,y5⟩:=xk (b:=true) hl s4 l4 y4 ht';apply%[_,_,_,O,s5,l5|?_];rw[tk1];unfold lyT;rw[Qa c];rw[show lyK (ks.take i) 0 ++ [(i,false),(i,true)]=lyK (ks.take i) 0 ++ [(i,false)] ++ [(i,true)]by simp];exact y5
  ·apply%[_,_,_,O,s4,l4|?_];rw[tk1];unfold lyT;rw[QZ c];exact y4
 ·rintro σ H2 ⟨v2,v3,ys,rfl,s2,l2,y2⟩;rw[yW,M0]at y2;exact%[_,O|q l ys H2 hl l2 y2 s2]
theorem uD:FnScope RW RW (defScope dk):=nofun
theorem qV{f C:QP}{fd:G2}(F:Fun K "is_lying" "Shop.is_lying" dk f fd)(B:Blt mg)(T:ShopTxt K C)(DW:Dn P w K mg base "is_whole" RP 1 (dR K))(DU:Dn P w K mg base "is_truth" RQ 1 (mV K))(DT:Dn P w K mg base "can_lie_turned" RU 1 (ki K)) :
  FnOk P w K mg base CX0 2 f fd RW (gx K C):=by
 exists uD;obtain⟨s,b,ks,x,t,T0,U,rfl,⟨dx,r,rs,h1,h2,h3⟩,tx,tt,q⟩:=h;have yW:=E7 h3;apply⟨_,af (aO (PW.pt (cP (bf (aW (ap DW hr rfl (ab '1' (ab ag ae))))) (cP (aF AV '1' (ay aN rfl B.len Qn (ab (gQ '0' rfl) ae)) (aA _))
   (cC (bf (aW (ap DU hr rfl (ab '2' ae)))))))) (ai (au eC)) aE)
  (ai (au (AS (wA '2') (fN (ap DT hr rfl (ab (aG ix_tup (gQ '0' rfl) '1' (λ _ _=>rfl)) ae)))))),?_⟩
 apply%[_,O,x,_,0,O,tx,_,O|?_];cases hw:whole x 0 with
 | false=>
  have e:iZ ks x t=false:=by
   cases x with
   | int i=>
    have h0:decide (0<=i)=false:=hw;cases t <;> first | rfl | (show(decide (0<=i) && _)=false;rw[h0,Bool.false_and])
   | _=>rfl
  rw[e]at q;exact ce (ce q)
 | true=>
  have ex:∃i,x=.int i/\0<=i:=by
   cases x with
   | int i=>exact%[i,O|C2 hw]
   | _=>cases hw
  obtain⟨i,rfl,i0⟩:=ex;apply be %[_,rfl,_,rfl,s,C,dx,_,_,rfl,h1,T.cl,T.nK,dw _ _,r,rs,rfl,.inr (G6 h2),i,_,rfl,rfl,_,rfl|?_]
  by_cases hi:(rs.length:Int)<=i
  ·rw[Qb hi];have e:iZ ks (.int i) t=false:=by have hn:ks[i.toNat]?=none:=O0 ⋯;cases t <;> first | rfl | (show(decide (0<=i) && match ks[i.toNat]? with | some k=>_ | none=>false)=false;rw[hn,Bool.and_false])
   rw[e]at q;exact ce (ce q)
  ·rw[Qc hi];apply be %[_,rfl,t,_,rfl,tt,_,rfl|?_];have hlt:i.toNat < ks.length:=⋯
   cases hb:tS t with
   | false=>
    have e:iZ ks (.int i) t=false:=by cases t <;> first | rfl | cases hb
    rw[e]at q;exact ce q
   | true=>
    have ex:∃c,t=.bl c:=by cases t <;> first | exact%[_|O] | cases hb
    obtain⟨c,rfl⟩:=ex;obtain⟨y,hy⟩:∃y,rs[i.toNat]?=some y:=%[rs[i.toNat]'⋯|by simp[show i.toNat < rs.length by lia]]
    obtain⟨k,hk,a,rfl,ha⟩:=J0 h3 hy;have e:iZ ks (.int i) (.bl c)=(!c || bi k):=by show(decide (0<=i) && match ks[i.toNat]? with | some k=>(!c || bi k) | none=>false)=_;rw[hk,Qb i0,QD]
    rw[e]at q;apply be %[_,rfl,c,rfl,_,rfl|?_];apply bW (λ d=>?_) (λ d=>?_)
    ·rw[d,Bool.true_or]at q;exact q
    ·have d':(!c)=false:=by simpa using d
     rw[d',Bool.false_or]at q;have at':atI rs i=↑a:=by
      have en:ixN rs.length i=some i.toNat:=by unfold ixN;rw[Qa i0,Qa ⋯]
      unfold atI;rw[en];exact hy
     exact%[_,O,s,C,dx,_,_,O,h1,T.cl,T.nK,dw _ _,_,O,r,rs,i,_,O,O,G6 h2,at',a,k,O,ha|q]
def xU(k:Kd)(c:Bool):QT V:=if c=true then[.int k.h,.int k.w]else[.int k.w,.int k.h]
inductive spSides(K:C6)(C:QP)(vs:QT V)(H:Hp)(Q:VK)(E_:XK):Prop
|mk(s:QP)(b:Int)(ks:QT Kd)(x t:V)(T U:String)(_:vs=[.ref s,x,t])(_:ShopAt C H s b ks)(_:Ty K H x T)(_:Ty K H t U)(_:iZ ks x t=true)(_:∀(i:Int)(c:Bool)(k:Kd)(p:QP),x=.int i->t=.bl c->ks[i.toNat]?=some k->iZ ks x t=true->H p=none->Q (.ref p) (upd H p (.tup (xU k c))))
theorem uE{ks:QT Kd}{x t:V}(h:iZ ks x t=true):∃(i:Int)(c:Bool)(k:Kd),x=.int i/\t=.bl c/\0<=i/\ks[i.toNat]?=some k:=by
 unfold iZ at h
 split at h
 ·rename_i i c
  rw[M9]at h;obtain⟨h1,h2⟩:=h
  split at h2
  ·rename_i k hk
   exact%[i,c,k,O,O,C2 h1|hk]
  ·cases h2
 ·cases h
theorem BZ{rs:QT V}{i:Int}{v:V}(i0:0<=i)(h:rs[i.toNat]?=some v):atI rs i=some v:=by
 have en:ixN rs.length i=some i.toNat:=by unfold ixN;have:=(A7.mp h).1;rw[Qa i0,Qa ⋯]
 unfold atI;rw[en];exact h
theorem scSides:FnScope ["self","kind","turned","row"] RW (defScope fk):=nofun
theorem xV{f C:QP}{fd:G2}(F:Fun K "sides" "Shop.sides" fk f fd)(T:ShopTxt K C)(ML:Mn P w K mg base C "is_lying" RW 2 (gx K C)) :
  FnOk P w K mg base CX0 3 f fd RW (spSides K C):=by
 exists scSides;obtain⟨s,b,ks,x,t,T0,U,rfl,S,tx,tt,he,hq⟩:=h;apply⟨_,af (aO (bf (aW (rO '0' T.cl ML hr (ab '1' (ab '2' ae))))) (ai cT) aE)
  (af (ax (i:=3) nd rfl (Or.inl rfl) (aG ix_tup (gQ '0' rfl) '1' (λ _ _=>rfl)))
  (af (aO (aW '2') (ai (au (aJ (ab (aG ix_tup '3' ag (λ _ _=>rfl)) (ab (aG ix_tup '3' ag (λ _ _=>rfl)) ae))))) aE)
  (ai (au (aJ (ab (aG ix_tup '3' ag (λ _ _=>rfl)) (ab (aG ix_tup '3' ag (λ _ _=>rfl)) ae))))))),?_⟩
 obtain⟨dx,r,rs,h1,h2,h3⟩:=id S;apply%[_,O,s,dx,_,O,h1,bP _ _ ∅ ∅,_,O,_,O,s,b,ks,x,t,T0,U,O,S,tx,tt,_,O|?_];cases hl:iZ ks x t with
 | false=>rw[hl]at he;cases he
 | true=>
  obtain⟨i,c,k,rfl,rfl,i0,hk⟩:=uE hl;have yW:=E7 h3;have hik:=(A7.mp hk).1;obtain⟨y,hy⟩:∃y,rs[i.toNat]?=some y:=%[rs[i.toNat]'⋯|by simp[show i.toNat < rs.length by lia]]
  obtain⟨k',hk',a,rfl,ha⟩:=J0 h3 hy;rw[hk]at hk';obtain rfl:=C0 hk';apply be ?_;apply%[_,O,s,C,dx,_,_,O,h1,T.cl,T.nK,dw _ _,_,O,r,rs,i,_,O,O,G6 h2,BZ i0 hy|?_];apply%[_,O,_,O|?_];cases c with
  | true=>
   apply ce ?_;apply%[_,O,a,_,1,_,O,O,G6 ha,O,_,O,a,_,0,_,O,O,G6 ha,O,zS2|λ p hp=>?_];exact hq i true k p rfl rfl hk hl hp
  | false=>
   apply be ?_;apply%[_,O,a,_,0,_,O,O,G6 ha,O,_,O,a,_,1,_,O,O,G6 ha,O,zS2|λ p hp=>?_];exact hq i false k p rfl rfl hk hl hp
def sd1(k:Kd)(c:Bool):Int:=if c=true then k.h else k.w
def sd2(k:Kd)(c:Bool):Int:=if c=true then k.w else k.h
theorem oT(k:Kd)(c:Bool):xU k c=[.int (sd1 k c),.int (sd2 k c)]:=by cases c <;> rfl
def cY(k:Kd)(c:Bool)(w h:Int):Bool:=decide (sd1 k c<=w) && decide (sd2 k c<=h)
inductive spCP(vs:QT V)(H:Hp)(Q:VK)(E_:XK):Prop
|mk(w h:Int)(_:vs=[.int w,.int h])(_:1<=w)(_:1<=h)(_:Q .non H)
inductive spCS(vs:QT V)(H:Hp)(Q:VK)(E_:XK):Prop
|mk(w h m:Int)(_:vs=[.int w,.int h,.int m])(_:w<=m)(_:h<=m)(_:Q .non H)
inductive spLies(C:QP)(vs:QT V)(H:Hp)(Q:VK)(E_:XK):Prop
|mk(s:QP)(b:Int)(ks:QT Kd)(w h i:Int)(c:Bool)(k:Kd)(_:vs=[.ref s,.int w,.int h,.int i,.bl c,.int 0,.int 0])(_:ShopAt C H s b ks)(_:iZ ks (.int i) (.bl c)=true)(_:ks[i.toNat]?=some k)(_:∀H',Same H H'->Q (.bl (cY k c w h)) H')
theorem sccplate:FnScope RX RX (defScope dU):=nofun
theorem uF{f:QP}{fd:G2}(F:Fun K "check_plate" "check_plate" dU f fd)(DW:Dn P w K mg base "is_whole" RP 1 (dR K)):FnOk P w K mg base CX0 2 f fd RX (spCP):=by
 exists sccplate;obtain⟨w1,h1,rfl,hw,hh,q⟩:=h;apply%[_,(@ai _ _ _ ((PW.pt (cP (@bf _ _ _ _ (@aW _ _ _ (DW∪('0'^^^(ag^^^ae))) (by intro _;rfl))) (cC (@bf _ _ _ _ (@aW _ _ _ (DW∪('1'^^^(ag^^^ae))) (by intro _;rfl))))))<|>(@ai _ _ _ cT)<|>aE))|?_];apply%[_,O,.int w1,"int",1,O,Ty.int,_,O|?_];rw[show whole (.int w1) 1=true from Qb hw];apply be %[_,rfl,.int h1,"int",1,rfl,Ty.int,_,rfl|?_];rw[show whole (.int h1) 1=true from Qb hh];exact be q
theorem sccsides:FnScope RY RY (defScope dW):=nofun
theorem uG{f:QP}{fd:G2}(F:Fun K "check_sides" "check_sides" dW f fd) : FnOk P w K mg base CX0 1 f fd RY (spCS):=by
 exists sccsides;obtain⟨w1,h1,m,rfl,hw,hh,q⟩:=h;apply%[_,(@ai _ _ _ ((PW.pt (cP ('0'<*>cV<*>'2') (cC ('1'<*>cV<*>'2'))))<|>(@ai _ _ _ cT)<|>aE))|?_];apply%[_,O,_,O,_,_,O,O,_,O|?_];rw[Qc (show¬ m < w1 by lia)];apply be %[_,rfl,_,rfl,_,_,rfl,rfl,_,rfl|?_];rw[Qc (show¬ m < h1 by lia)];exact be q
theorem sclies:FnScope ["shop","wide","high","kind","turned","x","y","piece_wide","piece_high"] RZ (defScope jH):=nofun
theorem Al{f C:QP}{fd:G2}(F:Fun K "lies_in" "lies_in" jH f fd)(T:ShopTxt K C)(DW:Dn P w K mg base "is_whole" RP 1 (dR K))(MI:Mn P w K mg base C "is_lying" RW 2 (gx K C))(MS:Mn P w K mg base C "sides" RW 3 (spSides K C)):FnOk P w K mg base CX0 4 f fd RZ (spLies C):=by
 exists sclies;obtain⟨s,b,ks,w,h,i,c,k,rfl,S,ly,hk,q⟩:=h;have hr1:=hr.mono (show 1<=3 by decide);have hr2:=hr.mono (show 2<=3 by decide);apply%[_,(((PW.pt (cP (@bf _ _ _ _ (@aW _ _ _ (rO '0' T.cl MI hr2 ('3'^^^('4'^^^ae))) (by intro _;rfl))) (cP (@bf _ _ _ _ (@aW _ _ _ (@ap _ _ _ _ _ _ _ _ _ _ DW hr1 O ('5'^^^(ag^^^ae)) ∅ O O) (by intro _;rfl))) (cC (@bf _ _ _ _ (@aW _ _ _ (@ap _ _ _ _ _ _ _ _ _ _ DW hr1 O ('6'^^^(ag^^^ae)) ∅ O O) (by intro _;rfl)))))))<|>(eC⁻¹)<|>aE)<<<((@cr _ _ _ _ _ _ (rO '0' T.cl MS hr ('3'^^^('4'^^^ae))) (bn O (7•(8•aR))) O O O)<<<((fO (@bD _ _ _ _ _ _ _ _ fP ('5'|||aX|||'7') '1' (aA _)) (fN (@bD _ _ _ _ _ _ _ _ fP ('6'|||aX|||'8') '2' (aA _))))⁻¹)))|?_];dsimp only[bL];obtain⟨dx,r,rs,h1,h2,h3⟩:=id S;apply%[_,O,s,dx,_,O,h1,bP _ _ ∅ ∅,_,O,_,O,s,b,ks,.int i,.bl c,"int","bool",O,S,Ty.int,Ty.bl,_,O|?_];rw[ly];apply be %[_,rfl,.int 0,"int",0,rfl,Ty.int,_,rfl|be %[_,rfl,.int 0,"int",0,rfl,Ty.int,_,rfl|be ?_]];apply%[_,O,s,dx,_,O,h1,bP _ _ ∅ ∅,_,O,_,O,s,b,ks,.int i,.bl c, "int", "bool",O,S,Ty.int,Ty.bl,ly|λ i' c' k' p e1 e2 hk' _ hp=>?_];cases e1;cases e2;rw[hk]at hk';cases hk';rw[oT];have q1:=q _ (G5 hp (o:=.tup [.int (sd1 k c),.int (sd2 k c)]));apply%[p,_,O,G6 ah,O,_,_,O,_,_,O,O|?_];apply%[_,O,_,O,_,_,O,O,_,O,_,_,O,O,_,O|?_];unfold cY at q1;apply bW (λ cc=>?_) (λ cc=>?_)
 ·apply%[_,O,_,O,_,_,O,O,_,O,_,_,O,O|?_];rw[P6]at cc ⊢;rw[cc]at q1;exact q1
 ·rw[P6]at cc;rw[show decide (sd1 k c<=w)=false by simpa using cc]at q1;exact q1
theorem hG{a b c:St}(h1:leS a b)(h2:leS b c):leS a c:=%[h2.1.trans h1.1|λ i v e=>h2.2 i v (h1.2 i v e)]
theorem Am{i:Nat}{k:Kd}{q:Nat×Bool}(h:q∈lyT i k):q.1=i/\(q.2=false\/bi k=true):=by
 unfold lyT at h;rcases J4.mp h with rfl | h
 ·exact%[O|.inl rfl]
 ·by_cases c:bi k=true
  ·rw[Qa c]at h;rw[E6.mp h];exact%[O|.inr c]
  ·rw[QZ c]at h;simp at h
theorem nE:∀{ks:QT Kd}{i:Nat}{q:Nat×Bool},q∈lyK ks i->i<=q.1/\∃k,ks[q.1 - i]?=some k/\(q.2=false\/bi k=true)
 | [],_,_,h=>by simp[lyK]at h
 | k :: r,i,q,h=>by
  rcases C4.mp h with h | h
  ·obtain⟨h1,h2⟩:=Am h;exact%[⋯,k,by rw[h1,QJ];rfl|h2]
  ·obtain⟨h1,k',h2,h3⟩:=nE h;apply%[⋯,k',?_|h3];rw[show q.1 - i=(q.1 - (i+1))+1 by lia];exact h2
theorem nF{ks:QT Kd}{q:Nat×Bool}(h:q∈lyK ks 0):iZ ks (.int q.1) (.bl q.2)=true/\∃k,ks[q.1]?=some k:=by
 obtain⟨_,k,h2,h3⟩:=nE h;rw[Nat.sub_zero]at h2;apply%[?_,k|h2];unfold iZ;simp only[M5,h2,M9];apply%[B1 ⋯|?_];rcases h3 with e | e
 ·rw[e];rfl
 ·rw[e,Bool.or_true]
def cO(ks:QT Kd)(w h:Int)(q:Nat×Bool):Bool:=match ks[q.1]? with
 | some k=>cY k q.2 w h
 | none=>false
inductive spLyIn(C:QP)(vs:QT V)(H:Hp)(Q:VK)(E_:XK):Prop
|mk(s t:QP)(b:Int)(ks:QT Kd)(w h:Int)(_:vs=[.ref s,.ref t])(_:ShopAt C H s b ks)(_:ks.length<=8)(_:H t= ~~~[.int w,.int h])(_:∀(l:QP)(ys:QT V)(H':Hp),H l=none->H' l=↥ys->Lys H' ys ((lyK ks 0).filter (cO ks w h))->Same H H'->Q (.ref l) H')
theorem sclyin:FnScope ["shop","part","wide","high"] Ra (defScope eO):=nofun
theorem An{f C:QP}{fd:G2}(F:Fun K "lyings_in" "lyings_in" eO f fd)(T:ShopTxt K C)(ML:Mn P w K mg base C "lyings" RV 2 (kn C))(DLI:Dn P w K mg base "lies_in" RZ 4 (spLies C)):FnOk P w K mg base CX0 5 f fd Ra (spLyIn C):=by
 exists sclyin;obtain⟨s,t,b,ks,w,h,rfl,S,k8,ht,q⟩:=h;have hr2:=hr.mono (show 2<=4 by decide);apply%[_,((@cr _ _ _ _ _ _ '1' (bn O (ao (aj (i:=2) nd O (Or.inr O)) (ao (aj (i:=3) nd O (Or.inr O)) aR))) O O O)<<<((aY (own:=Rb) (cs:=Rc) (cap:=[0,2,3]) O (bC (eA '0' T.cl ML hr2)) (aD (sc:=defScope eO) (N:=["shop","part","wide","high"]) O O ∅) (λ _ _ _ _ _=>cQ K O O (by show List.Nodup (["kind","turned","shop","wide","high"]:QT Str) ;decide +kernel) O O O O) (λ _ _ _ _ _=>(jZ (@aW _ _ _ (DLI∪('2'^^^('3'^^^('4'^^^('0'^^^('1'^^^(ag^^^(ag^^^ae)))))))) (by intro _;rfl)))) (λ _ _ _ _ _=>(@aJ _ _ _ _ _ ('0'^^^('1'^^^ae)))))⁻¹))|?_];dsimp only[bL];have sz:(100:Nat) < sizeLine:=∅
 obtain⟨dx,r,rs,h1,h2,h3⟩:=id S;apply%[_,O,t,_,O,G6 ht,O,_,_,O,_,_,O,O|?_];apply%[_,O,s,dx,_,O,h1,bP _ _ ∅ ∅,s,b,ks,O,S,k8|λ l1 ys H1 hl1 l1' ly s1=>?_];have lyl:=mY ks 0;have ylen:=E7 ly;apply%[l1,O,%[_|G7 l1']|(bS (K:=K) (.inl l1') (λ i zs H4=>Same H1 H4/\zs.length<=i/\Lys H4 zs (((lyK ks 0).take i).filter (cO ks w h))) (λ i zs H4 _ ⟨s4,_⟩ o e=>s4 _ _ e) %[Same.refl _,B4 _|.nil] ?_ ?_).1 l1']
 ·rintro i y zs H4 hi ⟨s4,zl,lz⟩;have hin:i < ys.length:=(A7.mp hi).1;obtain⟨qq,hq,a,rfl,ha⟩:=J0 ly hi;obtain⟨li,k,hk⟩:=nF (B7 hq);apply%[⋯,a,_,O,G6 (s4 _ _ ha),O,_,_,O,_,_,O,O|?_];apply%[hG (leS.set rfl) (leS.set rfl)|?_];have S4:ShopAt C H4 s b ks:=S.keep (λ c o e=>s4 _ _ (s1 _ _ e)) (λ c C' d fs e=>s4 _ _ (s1 _ _ e));apply%[_,O,_,O,_,O,_,O,_,O,s,b,ks,w,h,(qq.1:Int),qq.2,k,O,S4,li,(by rw[M5];exact hk)|λ H5 s5=>%[_,O|?_]];have st:((lyK ks 0).take (i+1)).filter (cO ks w h)=((lyK ks 0).take i).filter (cO ks w h) ++ (if cY k qq.2 w h=true then[qq]else[]):=by rw[K0,hq,P7];simp only[K8,PR,QB];rw[show cO ks w h qq=cY k qq.2 w h by unfold cO;rw[hk]]
  dsimp only;apply bW (λ cc=>?_) (λ cc=>?_)
  ·rw[cc,Qa rfl]at st;apply%[_,O,_,O,zS2|λ p hp=>Nx.of hin %[(s4.trans s5).trans (G5 hp),by rw[J7];show _+1<=_;lia|?_]];rw[st];apply Paired.snoc (Lys.keep (λ c o e=>?_) lz) %[p,rfl|ah];have e5:=s5 _ _ e;rw[am (ak e5 hp)];exact e5
  ·rw[QZ cc,N0]at st;apply Nx.of hin %[s4.trans s5,⋯|?_];rw[st];exact Lys.keep (λ c o e=>s5 _ _ e) lz
 ·rintro zs H4 ⟨s4,zl,lz⟩;rw[ylen,M0]at lz;apply%[⋯|λ p hp=>q p zs _ ((s1.trans s4).free hp) ah (Lys.keep (λ c o e=>?_) lz) ((s1.trans s4).trans (G5 hp))];rw[am (ak e hp)];exact e
def PtAt(H:Hp)(v:V)(p:Int×Int):Prop:=∃q,v=.ref q/\H q= ~~~[.int p.1,.int p.2]
theorem PtAt.keep{H H':Hp}(s:Same H H'){v:V}{p:Int×Int}(h:PtAt H v p):PtAt H' v p:=by obtain⟨q,e,h⟩:=h;exact%[q,e|s _ _ h]
def kJ(a:Int)(n:Nat):QT (Int×Int):=(List.range n).map λ (c:Nat)=>(a,1+(c:Int))
def aQ(m n:Nat):QT (Int×Int):=(List.range m).flatMap λ (a:Nat)=>kJ (1+(a:Int)) n
theorem oU(a:Int)(n:Nat):(kJ a n).length=n:=by unfold kJ;rw[B5,PH]
theorem eh(m n:Nat):aQ (m+1) n=aQ m n ++ kJ (1+(m:Int)) n:=by unfold aQ;rw[QC,Pw];simp
theorem lZ(a:Int)(n:Nat):kJ a (n+1)=kJ a n ++ [(a,1+(n:Int))]:=by
 unfold kJ;rw[QC,J5]
 rfl
theorem fq(m n:Nat):(aQ m n).length=m * n:=by
 induction m with
 | zero=>simp[aQ]
 | succ m ih=>rw[eh,J7,ih,oU,Nat.succ_mul]
inductive spParts(vs:QT V)(H:Hp)(Q:VK)(E_:XK):Prop
|mk(m n:Nat)(_:vs=[.int m,.int n])(_:m<=16)(_:n<=16)(_:∀(l:QP)(ys:QT V)(H':Hp),H' l=↥ys->Paired (PtAt H') ys (aQ m n)->Same H H'->Q (.ref l) H')
theorem scparts:FnScope RX RX (defScope dE):=nofun
theorem xW{f:QP}{fd:G2}(F:Fun K "parts_up_to" "parts_up_to" dE f fd)(B:Blt mg):FnOk P w K mg base CX0 1 f fd RX (spParts):=by
 exists scparts;obtain⟨m,n,rfl,m16,n16,q⟩:=h;apply%[_,((xD (own:=["a","b"]) (cs:=["high"]) (cap:=[1]) O (gp O B.range (ag^^^(('0'|||aX|||ag)^^^ae))) (aD (sc:=defScope dE) (N:=RX) O O ∅) (λ _ _ _ _ _=>aj (i:=0) (by show List.Nodup (["a","b","high"]:QT Str) ;decide +kernel) O (Or.inl O) (Or.inr O)) (λ _ _ _ _ _=>aH) (λ _ _ _ _ _=>(gp O B.range (ag^^^(('2'|||aX|||ag)^^^ae)))) (λ _ _ _ _ _=>aj (i:=1) (by show List.Nodup (["a","b","high"]:QT Str) ;decide +kernel) O (Or.inl O) (Or.inr O)) (λ _ _ _ _ _=>aH) (λ _ _ _ _ _=>(@aJ _ _ _ _ _ ('0'^^^('1'^^^ae)))))⁻¹)|?_];have z4:4096<=sizeLine:=∅
 apply%[_,O,_,_,O,O,1,_,O,%[∅,∅,by show -(2 ^ 62)<=(m:Int)+1;lia|by show(m:Int)+1 < 2 ^ 62;lia]|?_];have em:((m:Int)+1 - 1).toNat=m:=⋯
 show∃W,_/\nz _ _ _ (Itr 1 ((m:Int)+1 - 1).toNat) _ _ _ _ _ _ _ W;rw[em];apply uq (lo:=1) (n:=m) (λ i ys Hx=>Same H Hx/\Paired (PtAt Hx) ys (aQ i n)) %[Same.refl _|.nil] ?_ ?_
 ·rintro i ys Hx hi ⟨sx,py⟩;apply%[leS.set rfl|aI ?_];apply%[_,O,_,_,O,O,1,_,O,%[∅,∅,by show -(2 ^ 62)<=(n:Int)+1;lia|by show(n:Int)+1 < 2 ^ 62;lia]|?_];have en:((n:Int)+1 - 1).toNat=n:=⋯
  show∃W2,_/\kB _ (Itr 1 ((n:Int)+1 - 1).toNat) _ _ _ _ W2;rw[en];apply BK (lo:=1) (n:=n) (λ j zs Hy=>Same H Hy/\Paired (PtAt Hy) zs (aQ i n ++ kJ (1+(i:Int)) j)) %[sx|by show Paired _ _ (_ ++ []);rw[N0];exact py] ?_ ?_
  ·rintro j zs Hy hj ⟨sy,pz⟩;have pl:=E7 pz;rw[J7,fq,oU]at pl;have:i * n<=16 * 16:=P0 ⋯ ⋯;apply%[⋯,leS.set rfl|aI ?_];apply%[_,O,_,O,zS2|λ t ht=>?_];apply aK ht λ Hz k1 s1=>?_;apply Nx.of hj %[sy.trans s1|?_];rw[lZ,<- K5];exact Paired.app (G8 pz λ v p h=>h.keep s1) (.cons %[t,O|k1] .nil)
  ·rintro zs Hy ⟨sy,pz⟩;apply Nx.of hi %[sy|?_];rw[eh];exact pz
 ·rintro ys Hx ⟨sx,py⟩;have pl:=E7 py;rw[fq]at pl;have:m * n<=16 * 16:=P0 ⋯ ⋯;apply%[⋯|λ l hl=>?_];apply aK hl λ Hz k2 s2=>?_;exact q l ys Hz k2 (G8 py λ v p h=>h.keep s2) (sx.trans s2)
structure BeC(mg:Str->QR Value):Prop where
 dn:∃t,mg "DOWN" = some (.str "down" t)
 rs:∃t,mg "REST" = some (.str "rest" t)
 pc:∃t,mg "PIECE" = some (.str "piece" t)
 ac:∃t,mg "ACROSS" = some (.str "across" t)
abbrev wv(dn:Bool):V:=.str (if dn=true then "down" else "across")
def WpAt(H:Hp)(v:V)(x:Bool×Int):Prop:=∃q,v=.ref q/\H q= ~~~[wv x.1,.int x.2]
theorem WpAt.keep{H H':Hp}(s:Same H H'){v:V}{x:Bool×Int}(h:WpAt H v x):WpAt H' v x:=by obtain⟨q,e,h⟩:=h;exact%[q,e|s _ _ h]
def wpL(dn:Bool)(n:Nat):QT (Bool×Int):=(List.range n).map λ (j:Nat)=>(dn,1+(j:Int))
theorem iE(dn:Bool)(n:Nat):(wpL dn n).length=n:=by unfold wpL;rw[B5,PH]
theorem oW(dn:Bool)(n:Nat):wpL dn (n+1)=wpL dn n ++ [(dn,1+(n:Int))]:=by
 unfold wpL;rw[QC,J5]
 rfl
def cf(b w h:Int):QT (Bool×Int):=wpL true (w - b - 1).toNat ++ wpL false (h - b - 1).toNat
def dg(w h:Int)(x:Bool×Int):Int×Int:=if x.1=true then(x.2,h)else(w,x.2)
def du(b w h:Int)(x:Bool×Int):Int×Int:=if x.1=true then(w - x.2 - b,h)else(w,h - x.2 - b)
def CutAt(b w h:Int)(H:Hp)(v:V)(x:Bool×Int):Prop:=∃q t1 t2,v=.ref q/\H q= ~~~[wv x.1,.int x.2,.ref t1,.ref t2]/\H t1= ~~~[.int (dg w h x).1,.int (dg w h x).2]/\H t2= ~~~[.int (du b w h x).1,.int (du b w h x).2]
theorem CutAt.keep{b w h:Int}{H H':Hp}(s:Same H H'){v:V}{x:Bool×Int}(c:CutAt b w h H v x):CutAt b w h H' v x:=by obtain⟨q,t1,t2,e,h1,h2,h3⟩:=c;exact%[q,t1,t2,e,s _ _ h1,s _ _ h2|s _ _ h3]
inductive spParts2(vs:QT V)(H:Hp)(Q:VK)(E_:XK):Prop
|mk(b w h p:Int)(t:QP)(dn:Bool)(_:vs=[.int b,.ref t,.str (if dn=true then "down" else "across"),.int p])(_:H t= ~~~[.int w,.int h])(_:∀(u t1 t2:QP)(H':Hp),H' u= ~~~[.ref t1,.ref t2]->H' t1= ~~~(if dn=true then[.int p,.int h]else[.int w,.int p])->H' t2= ~~~(if dn=true then[.int (w - p - b),.int h]else[.int w,.int (h - p - b)])->Same H H'->Q (.ref u) H')
inductive spCuts(vs:QT V)(H:Hp)(Q:VK)(E_:XK):Prop
|mk(b w h:Int)(t:QP)(_:vs=[.int b,.ref t])(_:H t= ~~~[.int w,.int h])(_:w<=16)(_:h<=16)(_:0<=b)(_:∀(l:QP)(ys:QT V)(H':Hp),H' l=↥ys->Paired (CutAt b w h H') ys (cf b w h)->Same H H'->Q (.ref l) H')
theorem scparts2:FnScope ["blade","part","way","p","wide","high"] Re (defScope gz):=nofun
theorem uH{f:QP}{fd:G2}(F:Fun K "cut_parts" "cut_parts" gz f fd)(Z:BeC mg):FnOk P w K mg base CX0 1 f fd Re (spParts2):=by
 exists scparts2;obtain⟨b,w1,h1,p1,t,dn,rfl,ht,q⟩:=h;obtain⟨tdn,hdn⟩:=Z.dn;apply%[_,((@cr _ _ _ _ _ _ '1' (bn O (4•(5•aR))) O O O)<<<((('2'<*>dB<*>(bU (v:=.str "down") O hdn %[tdn|O]))<|>((@aJ _ _ _ _ _ ((@aJ _ _ _ _ _ ('3'^^^('5'^^^ae)))^^^((@aJ _ _ _ _ _ ((('4'|||bg|||'3')|||bg|||'0')^^^('5'^^^ae)))^^^ae)))⁻¹)<|>aE)<<<((@aJ _ _ _ _ _ ((@aJ _ _ _ _ _ ('4'^^^('3'^^^ae)))^^^((@aJ _ _ _ _ _ ('4'^^^((('5'|||bg|||'3')|||bg|||'0')^^^ae)))^^^ae)))⁻¹)))|?_];dsimp only[bL];apply%[_,O,t,_,O,G6 ht,O,_,_,O,_,_,O,O|?_];cases dn with
 | true=>
  apply%[_,O,O,_,O|ce ?_];apply%[_,O,_,O,zS2|λ t1 h1'=>?_];have sa:Same H (upd H t1 (.tup [.int p1,.int h1])):=G5 h1';have ka:(upd H t1 (.tup [.int p1,.int h1])) t1= ~~~[.int p1,.int h1]:=ah;generalize upd H t1 (.tup [.int p1,.int h1])=Ha at sa ka ⊢;apply%[_,O,_,O,_,_,O,O,_,O,_,_,O,O,_,O,zS2|λ t2 h2'=>?_];have sb:Same Ha (upd Ha t2 (.tup [.int (w1 - p1 - b),.int h1])):=G5 h2';have kb:(upd Ha t2 (.tup [.int (w1 - p1 - b),.int h1])) t2= ~~~[.int (w1 - p1 - b),.int h1]:=ah;generalize upd Ha t2 (.tup [.int (w1 - p1 - b),.int h1])=Hb at sb kb ⊢;apply%[zS2|λ u hu=>?_];have sc:Same Hb (upd Hb u (.tup [.ref t1,.ref t2])):=G5 hu;have kc:(upd Hb u (.tup [.ref t1,.ref t2])) u= ~~~[.ref t1,.ref t2]:=ah;generalize upd Hb u (.tup [.ref t1,.ref t2])=Hc at sc kc ⊢;exact q u t1 t2 Hc kc (sc _ _ (sb _ _ ka)) (sc _ _ kb) ((sa.trans sb).trans sc)
 | false=>
  apply%[_,O,O,_,O|be ?_];apply%[_,O,_,O,zS2|λ t1 h1'=>?_];have sa:Same H (upd H t1 (.tup [.int w1,.int p1])):=G5 h1';have ka:(upd H t1 (.tup [.int w1,.int p1])) t1= ~~~[.int w1,.int p1]:=ah;generalize upd H t1 (.tup [.int w1,.int p1])=Ha at sa ka ⊢;apply%[_,O,_,O,_,O,_,_,O,O,_,O,_,_,O,O,zS2|λ t2 h2'=>?_];have sb:Same Ha (upd Ha t2 (.tup [.int w1,.int (h1 - p1 - b)])):=G5 h2';have kb:(upd Ha t2 (.tup [.int w1,.int (h1 - p1 - b)])) t2= ~~~[.int w1,.int (h1 - p1 - b)]:=ah;generalize upd Ha t2 (.tup [.int w1,.int (h1 - p1 - b)])=Hb at sb kb ⊢;apply%[zS2|λ u hu=>?_];have sc:Same Hb (upd Hb u (.tup [.ref t1,.ref t2])):=G5 hu;have kc:(upd Hb u (.tup [.ref t1,.ref t2])) u= ~~~[.ref t1,.ref t2]:=ah;generalize upd Hb u (.tup [.ref t1,.ref t2])=Hc at sc kc ⊢;exact q u t1 t2 Hc kc (sc _ _ (sb _ _ ka)) (sc _ _ kb) ((sa.trans sb).trans sc)
theorem sccuts:FnScope Rf Rg (defScope fe):=nofun
theorem Ao{f:QP}{fd:G2}(F:Fun K "cuts_of" "cuts_of" fe f fd)(B:Blt mg)(Z:BeC mg)(DP:Dn P w K mg base "cut_parts" Re 1 (spParts2)):FnOk P w K mg base CX0 2 f fd Rg (spCuts):=by
 exists sccuts;obtain⟨b,w1,h1,t,rfl,ht,w16,h16,b0,q⟩:=h;obtain⟨tdn,hdn⟩:=Z.dn;obtain⟨tac,hac⟩:=Z.ac;apply%[_,((gr (i:=2) (own:=["p"]) (cs:=[]) (cap:=[]) O nd O O O (kD O B.range (ag^^^((('1'&&&ix_tup&&&ag)|||bg|||'0')^^^ae))) (aD (sc:=defScope fe) (N:=Rf) O O ∅) (λ _ _ _ _ _=>aj (i:=0) (by show List.Nodup (["p"]:QT Str) ;decide +kernel) O (Or.inl O) (Or.inr O)) (λ _ _ _ _ _=>aH) (λ _ _ _ _ _=>(@aJ _ _ _ _ _ ((bU (v:=.str "down") O hdn %[tdn|O])^^^('0'^^^ae)))))<<<((gr (i:=3) (own:=["p"]) (cs:=[]) (cap:=[]) O nd O O O (kD O B.range (ag^^^((('1'&&&ix_tup&&&ag)|||bg|||'0')^^^ae))) (aD (sc:=defScope fe) (N:=Rf) O O ∅) (λ _ _ _ _ _=>aj (i:=0) (by show List.Nodup (["p"]:QT Str) ;decide +kernel) O (Or.inl O) (Or.inr O)) (λ _ _ _ _ _=>aH) (λ _ _ _ _ _=>(@aJ _ _ _ _ _ ((bU (v:=.str "across") O hac %[tac|O])^^^('0'^^^ae)))))<<<((aY (own:=["way","p"]) (cs:=Rg) (cap:=[0,1]) O (bC ('2'|||wU|||'3')) (aD (sc:=defScope fe) (N:=Rf) O O ∅) (λ _ _ _ _ _=>cQ K O O (by show List.Nodup (["way","p","blade","part"]:QT Str) ;decide +kernel) O O O O) (λ _ _ _ _ _=>aH) (λ _ _ _ _ _=>(az (r:=Ba K) rG (@aJ _ _ _ _ _ ('0'^^^('1'^^^ae))) (DP∪('2'^^^('3'^^^('0'^^^('1'^^^ae))))))))⁻¹)))|?_];dsimp only[bL];have z4:4096<=sizeLine:=∅
 have wn:(w1 - b - 1).toNat<=16:=⋯
 have hn:(h1 - b - 1).toNat<=16:=⋯
 apply av (λ R=>∀(dl:QP)(ys:QT V)(H':Hp),H' dl=↥ys->Paired (WpAt H') ys (wpL true (w1 - b - 1).toNat)->Same H H'->R [⇑b,↑t,↑dl,none] H') (λ Dd hR=>?_) ?_
 ·apply%[_,O,t,_,0,_,O,O,G6 ht,O,_,O,_,_,O,O,1,_,O,%[∅,∅|by show w1 - b < 2 ^ 62;lia]|?_];show∃W,_/\eF _ _ _ (Itr 1 (w1 - b - 1).toNat) _ _ _ _ W;generalize(w1 - b - 1).toNat=n at *;apply fX (lo:=1) (n:=n) (λ i ys Hx=>Same H Hx/\Paired (WpAt Hx) ys (wpL true i)) %[Same.refl _|.nil] ?_ ?_
  ·rintro i ys Hx hi ⟨sx,py⟩;have pl:=E7 py;rw[iE]at pl;apply%[⋯,leS.set rfl|aI ?_];apply%[_,O,zS2|λ q' hq=>?_];apply aK hq λ Hy k9 s9=>?_;apply Nx.of hi %[sx.trans s9|?_];rw[oW];exact Paired.app (G8 py λ v p h=>h.keep s9) (.cons %[q',O|k9] .nil)
  ·rintro ys Hx ⟨sx,py⟩;have pl:=E7 py;rw[iE]at pl;apply%[⋯|λ l hl=>?_];apply aK hl λ Hy k9 s9=>?_;exact hR l ys _ k9 (G8 py λ v p h=>h.keep s9) (sx.trans s9)
 rintro dl ys H1 kd pd s1;apply av (λ R=>∀(al:QP)(zs:QT V)(H':Hp),H' al=↥zs->Paired (WpAt H') zs (wpL false (h1 - b - 1).toNat)->Same H1 H'->R [⇑b,↑t,↑dl,↑al] H') (λ Dd hR=>?_) ?_
 ·apply%[_,O,t,_,1,_,O,O,G6 (s1 _ _ ht),O,_,O,_,_,O,O,1,_,O,%[∅,∅|by show h1 - b < 2 ^ 62;lia]|?_];show∃W,_/\eF _ _ _ (Itr 1 (h1 - b - 1).toNat) _ _ _ _ W;generalize(h1 - b - 1).toNat=n at *;apply fX (lo:=1) (n:=n) (λ i ys Hx=>Same H1 Hx/\Paired (WpAt Hx) ys (wpL false i)) %[Same.refl _|.nil] ?_ ?_
  ·rintro i ys Hx hi ⟨sx,py⟩;have pl:=E7 py;rw[iE]at pl;apply%[⋯,leS.set rfl|aI ?_];apply%[_,O,zS2|λ q' hq=>?_];apply aK hq λ Hy k9 s9=>?_;apply Nx.of hi %[sx.trans s9|?_];rw[oW];exact Paired.app (G8 py λ v p h=>h.keep s9) (.cons %[q',O|k9] .nil)
  ·rintro ys Hx ⟨sx,py⟩;have pl:=E7 py;rw[iE]at pl;apply%[⋯|λ l hl=>?_];apply aK hl λ Hy k9 s9=>?_;exact hR l ys _ k9 (G8 py λ v p h=>h.keep s9) (sx.trans s9)
 rintro al zs H2 ka pa s2;have s02:=s1.trans s2;have ht2:=s02 _ _ ht;have pd2:Paired (WpAt H2) ys (wpL true (w1 - b - 1).toNat):=G8 pd λ v p h=>h.keep s2;have l1:=E7 pd2;have l2:=E7 pa;rw[iE]at l1 l2;have pc:Paired (WpAt H2) (ys ++ zs) (cf b w1 h1):=Paired.app pd2 pa;apply%[_,O,_,O,dl,al,_,_,O,O,s2 _ _ kd,ka,⋯|λ cl hcl=>?_];apply aK hcl λ H3 k3 s3=>?_;have pc3:Paired (WpAt H3) (ys ++ zs) (cf b w1 h1):=G8 pc λ v p h=>h.keep s3;have cl32:(ys ++ zs).length<=32:=by rw[J7];lia
 apply%[cl,O,%[_|G7 k3]|(bS (K:=K) (.inl k3) (λ i us Hx=>Same H3 Hx/\Paired (CutAt b w1 h1 Hx) us ((cf b w1 h1).take i)) (λ i us Hx _ ⟨sx,_⟩ o e=>sx _ _ e) %[Same.refl _|.nil] ?_ ?_).1 k3]
 ·rintro i y us Hx hi ⟨sx,pu⟩;have hin:i < (ys ++ zs).length:=(A7.mp hi).1;obtain⟨⟨dn,p⟩,hq,a,rfl,ha⟩:=J0 pc3 hi;have ul:=E7 pu;rw[K4]at ul;have hax:=sx _ _ ha;apply%[⋯,a,_,O,G6 hax,O,_,_,O,_,_,O,O|?_];apply%[hG (leS.set rfl) (leS.set rfl)|aI ?_];apply%[_,O,_,O,zS2|λ x hx=>?_];apply aK hx λ Hy k4 s4=>?_;apply%[_,O,_,O,_,O,_,O,b,w1,h1,p,t,dn,O,s4 _ _ (sx _ _ (s3 _ _ ht2))|λ u t1 t2 Hz ku k1 k2 s5=>?_];apply⟨x,u,_,_,O,O,G6 (s5 _ _ k4),G6 ku,List.cons_ne_nil _ _,zS4,(λ z=>by cases z),λ _ m hm=>?_⟩;rw[show[wv dn,V.int p] ++ [V.ref t1,V.ref t2]=[wv dn,V.int p,V.ref t1,V.ref t2]from rfl];apply aK hm λ Hw k6 s6=>?_;have sxw:=s4.trans (s5.trans s6);apply Nx.of hin %[sx.trans sxw|?_];rw[K0,hq];apply Paired.app (G8 pu λ v p h=>h.keep sxw) (.cons %[m,t1,t2,O,k6,?_|?_] .nil)
  ·cases dn <;> exact s6 _ _ k1
  ·cases dn <;> exact s6 _ _ k2
 ·rintro us Hx ⟨sx,pu⟩;have pl:=E7 pc3;rw[pl,M0]at pu;have ul:=E7 pu;apply%[⋯|λ l hl=>?_];apply aK hl λ Hy k7 s7=>?_;exact q l us Hy k7 (G8 pu λ v p h=>h.keep s7) (s02.trans (s3.trans (sx.trans s7)))
def bV(b:SW):QT V:=b.map V.int
def bO(n:Nat)(k:Int):SW:=(List.range n).map λ j:Nat=>if Int.ofNat j=k then(1:Int)else 0
def ci:SW->SW->SW->SW
 | x :: a,y :: b,z :: w=>min (x+y) z :: ci a b w
 | _,_,_=>[]
theorem eR:∀{a b w:SW},a.length=b.length->a.length=w.length->(ci a b w).length=a.length
 | [],_,_,_,_=>by simp[ci]
 | x :: a,y :: b,z :: w,h1,h2=>by simp only[K1,Nat.add_right_cancel_iff]at h1 h2;rw[ci,K1,K1,eR h1 h2]
theorem iF:∀{a b w:SW}{i:Nat}{x y z:Int},a[i]?=some x->b[i]?=some y->w[i]?=some z->(ci a b w)[i]?=some (min (x+y) z)
 | x :: a,y :: b,z :: w,0,_,_,_,h1,h2,h3=>by simp only[List.getElem?_cons_zero,Option.some.injEq]at h1 h2 h3;subst h1 h2 h3;simp[ci]
 | x :: a,y :: b,z :: w,i+1,_,_,_,h1,h2,h3=>by rw[ci,List.getElem?_cons_succ];exact iF (by simpa using h1) (by simpa using h2) (by simpa using h3)
 | [],_,_,_,_,_,_,h1,_,_=>by simp at h1
 | _ :: _,[],_,_,_,_,_,_,h2,_=>by simp at h2
 | _ :: _,_ :: _,[],_,_,_,_,_,_,h3=>by simp at h3
theorem Bd:∀a b:SW,PyData.eqvAll (a.map PyData.int) (b.map PyData.int)=decide (a=b)
 | [],[]=>rfl
 | [],_ :: _=>rfl
 | _ :: _,[]=>rfl
 | x :: a,y :: b=>by
  have ih:=Bd a b;have h:PyData.eqvAll ((x :: a).map PyData.int) ((y :: b).map PyData.int)=(PyData.eqv (.int x) (.int y) && PyData.eqvAll (a.map PyData.int) (b.map PyData.int)):=rfl;have e:PyData.eqv (.int x) (.int y)=decide (x=y):=by simp[PyData.eqv];rfl
  rw[h,ih,e];simp
theorem DX(a b:SW):PyData.eqv (.tuple (a.map PyData.int)) (.tuple (b.map PyData.int))=decide (a=b):=by rw[<- Bd a b];simp[PyData.eqv]
def leB(a b:SW):Bool:=(a.zip b).all λ p=>decide (p.1<=p.2)
def jB(a b:SW):Bool:=!decide (a=b) && leB a b
def dG(C:QP):Sp:=λ vs H Q _=>∃(x:QP)(b:Int)(ks:QT Kd),vs=[.ref x]/\ShopAt C H x b ks/\ks.length<=8/\∀(t:QP)(H':Hp),H t=none->H' t= ~~~(ks.map λ k=>V.int k.wa)->Same H H'->Q (.ref t) H'
def xX(C:QP):Sp:=λ vs H Q _=>∃(s:QP)(b w h:Int)(ks:QT Kd),vs=[.ref s,.int w,.int h]/\ShopAt C H s b ks/\ks.length<=8/\1<=w/\w<=8/\1<=h/\h<=8/\(ks.map λ k=>k.wa).sum<=6/\∀H',Same H H'->Q .non H'
def xY:Sp:=λ vs H Q _=>∃(t:QP)(ws:SW)(k:Int),vs=[.ref t,.int k]/\H t= ~~~(bV ws)/\ws.length<=8/\∀(a:QP)(H':Hp),H' a= ~~~(bV (bO ws.length k))->Same H H'->Q (.ref a) H'
def xZ:Sp:=λ vs H Q _=>∃(t u v:QP)(xs ys ws:SW),vs=[.ref t,.ref u,.ref v]/\H t= ~~~(bV xs)/\H u= ~~~(bV ys)/\H v= ~~~(bV ws)/\xs.length=ys.length/\xs.length=ws.length/\xs.length<=8/\∀(a:QP)(H':Hp),H' a= ~~~(bV (ci xs ys ws))->Same H H'->Q (.ref a) H'
def yb:Sp:=λ vs H Q _=>∃(t u:QP)(xs ys:SW),vs=[.ref t,.ref u]/\H t= ~~~(bV xs)/\H u= ~~~(bV ys)/\xs.length=ys.length/\xs.length<=8/\∀H',Same H H'->Q (.bl (jB xs ys)) H'
theorem sconeb:FnScope Rh Rh (defScope cK):=nofun
theorem Ap{f:QP}{fd:G2}(F:Fun K "bundle_of_one" "bundle_of_one" cK f fd)(B:Blt mg):FnOk P w K mg base CX0 1 f fd Rh (xY):=by
 exists sconeb;obtain⟨t,ws,k,rfl,ht,l8,q⟩:=h;apply%[_,((@aU _ _ _ _ _ _ _ _ _ aL O B.tuple Qg ((aY (own:=["number"]) (cs:=RU) (cap:=[1]) O (dv O B.range ((@ay _ _ _ _ _ _ _ _ _ aN O B.len Qn ('0'^^^ae) ∅ ∅ O O)^^^ae)) (aD (sc:=defScope cK) (N:=Rh) O O ∅) (λ _ _ _ _ _=>aj (i:=0) (by show List.Nodup (["number","kind"]:QT Str) ;decide +kernel) O (Or.inl O) (Or.inr O)) (λ _ _ _ _ _=>aH) (λ _ _ _ _ _=>(wB ('0'<*>dB<*>'1') ag ag)))^^^ae) ∅ ∅ O O)⁻¹)|?_];dsimp only[bL];have wl:(bV ws).length=ws.length:=B5 _;have sz:(40000:Nat)<=sizeLine:=∅
 have ol:(bO ws.length k).length=ws.length:=by unfold bO;rw[B5,PH]
 apply%[_,O,t,_,O,.inr (G6 ht)|?_];rw[wl];apply%[_,O,⋯,⋯|fX (lo:=0) (n:=Int.toNat (ws.length:Int)) (λ i ys Hx=>Same H Hx/\ys=((bO ws.length k).take i).map V.int) %[Same.refl _|O] ?_ ?_]
 ·rintro i ys Hx hi ⟨sx,rfl⟩;have hik:i < ws.length:=⋯
  apply%[by rw[B5,K4];lia,leS.set rfl|aI ?_];have oi:(bO ws.length k)[i]?=some (if Int.ofNat i=k then(1:Int)else 0):=by unfold bO;rw[J3,Px hik];rfl
  have tk:∀z:Int,(if Int.ofNat i=k then(1:Int)else 0)=z->((bO ws.length k).take i).map V.int ++ [V.int z]=((bO ws.length k).take (i+1)).map V.int:=λ z hz=>by rw[K0,oi,hz];simp only[K8,J5,J8,N3]
  apply%[_,O,_,O,O,_,O|?_]
  by_cases c:Int.ofNat i=k
  ·rw[show decide (V.int (0+i)=V.int k)=true from Qb (by rw[<- c,P6];rfl)];exact ce (show Nx (Int.toNat (ws.length:Int)) (λ i ys Hx=>Same H Hx/\ys=((bO ws.length k).take i).map V.int) i (((bO ws.length k).take i).map V.int ++ [V.int 1]) Hx from Nx.of hi %[sx|tk 1 (Qa c)])
  ·rw[show decide (V.int (0+i)=V.int k)=false from Qc (λ z=>c (by injection z with z;rw[<- z,P6];rfl))];exact be (show Nx (Int.toNat (ws.length:Int)) (λ i ys Hx=>Same H Hx/\ys=((bO ws.length k).take i).map V.int) i (((bO ws.length k).take i).map V.int ++ [V.int 0]) Hx from Nx.of hi %[sx|tk 0 (QZ c)])
 ·rintro ys Hx ⟨sx,rfl⟩;rw[K6 ⋯];apply%[by rw[B5];lia|λ cl hcl=>?_];apply aK hcl λ H1 k1 s1=>?_;apply%[cl,_,O|.inl %[G7 k1|λ tp htp=>?_]];exact q tp _ ah ((sx.trans s1).trans (G5 htp))
theorem scjoined:FnScope Ri Ri (defScope iC):=nofun
theorem uI{f:QP}{fd:G2}(F:Fun K "joined" "joined" iC f fd)(B:Blt mg):FnOk P w K mg base CX0 1 f fd Ri (xZ):=by
 exists scjoined;apply br λ G9 k9=>?_;obtain⟨t,u,v,xs,ys,ws,rfl,ht,hu',hv,e1,e2,l8,q⟩:=h;apply k9 ?_;apply%[_,((@aU _ _ _ _ _ _ _ _ _ aL O B.tuple Qg ((aY (own:=["few","more","most"]) (cs:=[]) (cap:=[]) O (xK O B.zip ('0'^^^('1'^^^('2'^^^ae)))) (aD (sc:=defScope iC) (N:=Ri) O O ∅) (λ _ _ _ _ _=>xx K O O (by show List.Nodup (["few","more","most"]:QT Str) ;decide +kernel) O O O O O O) (λ _ _ _ _ _=>aH) (λ _ _ _ _ _=>(@ay _ _ _ _ _ _ _ _ _ (eE O) O B.min RF (('0'|||aX|||'1')^^^('2'^^^ae)) ∅ ∅ O O)))^^^ae) ∅ ∅ O O)⁻¹)|?_];dsimp only[bL];have l1:(bV xs).length=xs.length:=B5 _;have l2:(bV ys).length=ys.length:=B5 _;have l3:(bV ws).length=ws.length:=B5 _;have sz:(40000:Nat)<=sizeLine:=∅
 have jl:=eR e1 e2;apply%[_,O,_,O,_,O,t,u,v,_,_,_,O,ht,hu',hv|qU (xs:=bV xs) (ys:=bV ys) (zs:=bV ws) (λ i us Hx=>Same H Hx/\us=((ci xs ys ws).take i).map V.int) ⋯ ⋯ (λ i us Hx ⟨sx,_⟩=>%[sx _ _ ht,sx _ _ hu'|sx _ _ hv]) %[Same.refl _|O] (λ i us Hx hi ⟨_,e⟩=>by rw[e,B5,K4];lia) ?_ ?_]
 ·rintro i x y z p us Hx hx hy hz hp ⟨sx,rfl⟩;have hin:i < (bV xs).length:=(A7.mp hx).1;obtain⟨x',hx',rfl⟩:=J9.mp (show Option.map V.int xs[i]?=some x by rw[<- J3];exact hx);obtain⟨y',hy',rfl⟩:=J9.mp (show Option.map V.int ys[i]?=some y by rw[<- J3];exact hy);obtain⟨z',hz',rfl⟩:=J9.mp (show Option.map V.int ws[i]?=some z by rw[<- J3];exact hz);have ji:=iF hx' hy' hz';have s1:=G5 hp (o:=.tup [.int x',.int y',.int z']);apply%[p,_,O,G6 ah,O,_,_,O,_,_,O,_,_,O,O,hG (hG (leS.set rfl) (leS.set rfl)) (leS.set rfl)|aI ?_];apply%[_,O,_,O,_,_,O,O,_,O,_,_,O|Nx.of hin %[sx.trans s1|?_]];rw[K0,ji,show(if z' < x'+y' then z' else x'+y')=min (x'+y') z' by split <;> lia];simp only[K8,J5,J8,N3]
 ·rintro us Hx ⟨sx,rfl⟩;rw[l1,K6 ⋯];apply%[by rw[B5];lia|λ cl hcl=>?_];apply aK hcl λ H1 k1 s1=>?_;apply%[cl,_,O|.inl %[G7 k1|λ tp htp=>?_]];exact q tp _ ah ((sx.trans s1).trans (G5 htp))
theorem scisless:FnScope Rj Rj (defScope eP):=nofun
theorem uJ{f:QP}{fd:G2}(F:Fun K "is_lesser" "is_lesser" eP f fd)(B:Blt mg):FnOk P w K mg base CX0 1 f fd Rj (yb):=by
 exists scisless;obtain⟨t,u,xs,ys,rfl,ht,hu',e1,l8,q⟩:=h;have hu:=hr.units;apply%[_,((fO (@bD _ _ _ _ _ _ _ _ (xb hu) '0' '1' (aA _)) (fN (@ay _ _ _ _ _ _ _ _ _ (eG O) O B.all RG ((aY (own:=Rk) (cs:=[]) (cap:=[]) O (fZ O B.zip ('0'^^^('1'^^^ae))) (aD (sc:=defScope eP) (N:=Rj) O O ∅) (λ _ _ _ _ _=>cQ K O O (by show List.Nodup (Rk:QT Str) ;decide +kernel) O O O O) (λ _ _ _ _ _=>aH) (λ _ _ _ _ _=>(@bD _ _ _ _ _ _ _ _ fP '0' '1' (aA _))))^^^ae) ∅ ∅ O O)))⁻¹)|?_];dsimp only[bL];have l1:(bV xs).length=xs.length:=B5 _;have l2:(bV ys).length=ys.length:=B5 _;have sz:(40000:Nat)<=sizeLine:=∅
 have lay:∀ns:SW,PyData.canLayAll0 (ns.map PyData.int)=true/\PyData.depthAll (ns.map PyData.int)=0:=λ ns=>by
  induction ns with
  | nil=>exact%[O|O]
  | cons n r ih=>
   obtain⟨i1,i2⟩:=ih;apply%[by rw[J8,PyData.canLayAll0,i1];rfl|?_];rw[J8,PyData.depthAll,i2]
   rfl
 have shp:∀ns:SW,SeqAt.shaped (.tuple (ns.map PyData.int))=true:=λ ns=>by
  obtain⟨i1,i2⟩:=lay ns;unfold SeqAt.shaped;rw[PyData.canLay0,i1,PyData.depth,i2]
  decide
 apply%[_,O,_,O,.tuple (xs.map PyData.int),.tuple (ys.map PyData.int),.tup (G6 ht) (zQ _),.tup (G6 hu') (zQ _),shp xs,shp ys,_,O|?_];rw[DX]
 by_cases c:xs=ys
 ·rw[Qb c];apply be ?_;have:=q H (Same.refl _);unfold jB at this;rw[Qb c]at this;exact this
 rw[Qc c];apply ce ?_;have cmp:∀i,i < xs.length->((xs.zip ys).take (i+1)).map (λ p:Int×Int=>decide (p.1<=p.2))=((xs.zip ys).take i).map (λ p:Int×Int=>decide (p.1<=p.2)) ++ [decide ((xs[i]?).getD 0<=(ys[i]?).getD 0)]:=λ i hi=>by
  have hz:(xs.zip ys)[i]?=some (xs[i],ys[i]'⋯):=by rw[List.getElem?_zip_eq_some];exact%[F5 hi|F5 ⋯]
  rw[K0,hz,F5 hi,F5 (show i < ys.length by lia)];simp
 apply%[_,O,_,O,t,u,_,_,O,ht,hu'|dD (xs:=bV xs) (ys:=bV ys) (λ i us Hx=>Same H Hx/\us=(((xs.zip ys).take i).map (λ p:Int×Int=>decide (p.1<=p.2))).map V.bl) ⋯ (λ i us Hx ⟨sx,_⟩=>%[sx _ _ ht|sx _ _ hu']) %[Same.refl _|O] (λ i us Hx hi ⟨_,e⟩=>by rw[e,B5,B5,K4];lia) ?_ ?_]
 ·rintro i x y p us Hx hx hy hp ⟨sx,rfl⟩;have hin:i < (bV xs).length:=(A7.mp hx).1;obtain⟨x',hx',rfl⟩:=J9.mp (show Option.map V.int xs[i]?=some x by rw[<- J3];exact hx);obtain⟨y',hy',rfl⟩:=J9.mp (show Option.map V.int ys[i]?=some y by rw[<- J3];exact hy);have s1:=G5 hp (o:=.tup [.int x',.int y']);apply%[p,_,O,G6 ah,O,_,_,O,_,_,O,O,hG (leS.set rfl) (leS.set rfl)|aI ?_];apply%[_,O,_,O,_,_,O,O|Nx.of hin %[sx.trans s1|?_]];rw[cmp i ⋯,hx',hy',J5]
  rfl
 ·rintro us Hx ⟨sx,rfl⟩;rw[l1,K6 (by rw[List.length_zip];lia)];apply%[by rw[B5,B5,List.length_zip];lia|λ cl hcl=>?_];apply%[cl,_,O,G7 ah|?_];have:=q _ (sx.trans (G5 hcl (o:=.lst (((xs.zip ys).map (λ p:Int×Int=>decide (p.1<=p.2))).map V.bl))));unfold jB leB at this;rw[Qc c]at this;rw[List.all_map];exact this
theorem scwanted:FnScope RV RV (defScope cX):=nofun
theorem uK{f C:QP}{fd:G2}(F:Fun K "wanted" "Shop.wanted" cX f fd)(B:Blt mg)(T:ShopTxt K C):FnOk P w K mg base CX0 1 f fd RV (dG C):=by
 exists scwanted;obtain⟨x,b,ks,rfl,S,k8,q⟩:=h;apply%[_,((@aU _ _ _ _ _ _ _ _ _ aL O B.tuple Qg ((aY (own:=RU) (cs:=[]) (cap:=[]) O (jS (gQ '0' O)) (aD (sc:=defScope cX) (N:=RV) O O ∅) (λ _ _ _ _ _=>aj (i:=0) (by show List.Nodup (RU:QT Str) ;decide +kernel) O (Or.inl O) (Or.inr O)) (λ _ _ _ _ _=>aH) (λ _ _ _ _ _=>(aG (r:=rIxT K) ix_tup '0' ag (λ _ _=>O))))^^^ae) ∅ ∅ O O)⁻¹)|?_];dsimp only[bL];have sz:(100:Nat) < sizeLine:=∅
 obtain⟨dx,r,rs,h1,h2,h3⟩:=id S;have len:=E7 h3;apply%[_,O,x,C,dx,_,_,O,h1,T.cl,T.nK,dw _ _,r,O,%[_|G6 h2]|(bS (K:=K) (.inr h2) (λ i ys H4=>H4=H/\ys=((ks.take i).map λ k=>V.int k.wa)) (λ i ys H4 _ ⟨e4,_⟩ o e=>by rw[e4];exact e) %[O|O] ?_ ?_).2 h2]
 ·rintro i y ys H4 hi ⟨e4,rfl⟩;subst e4;have hin:i < rs.length:=(A7.mp hi).1;obtain⟨k,hk,a,rfl,ha⟩:=J0 h3 hi;apply%[by rw[B5,K4];lia,leS.set rfl|aI %[_,O,a,_,3,_,O,O,G6 ha,O|Nx.of hin %[O|?_]]];rw[K0,hk];simp only[K8,J5,J8,N3]
 ·rintro ys H4 ⟨e4,rfl⟩;subst e4;rw[len,M0];apply%[by rw[B5];lia|λ p hp=>%[p,_,O|.inl %[G7 ah|λ t ht=>?_]]];have s1:=(G5 (o:=.lst (ks.map λ k=>V.int k.wa)) hp).trans (G5 (o:=.tup (ks.map λ k=>V.int k.wa)) ht);exact q t _ ((G5 hp).free ht) ah s1
theorem sccsmall:FnScope Rc Rc (defScope dX):=nofun
theorem uL{f:QP}{fd:G2}(F:Fun K "check_small" "check_small" dX f fd){C:QP}(B:Blt mg)(T:ShopTxt K C)(hms:∃t,mg "MOST_SIDE_bundles" = some (.int 8 t))(hmw:∃t,mg "MOST_WANTED" = some (.int 6 t))(MW:Mn P w K mg base C "wanted" RV 1 (dG C))(DCP:Dn P w K mg base "check_plate" RX 2 (spCP))(DCS:Dn P w K mg base "check_sides" RY 1 (spCS)):FnOk P w K mg base CX0 3 f fd Rc (xX C):=by
 exists sccsmall;apply br λ G9 k9=>?_;obtain⟨s,b,w1,h1,ks,rfl,sh,k8,w0,w8,h0,h8,sm,q⟩:=h;apply k9 ?_;obtain⟨tm1,hm1⟩:=hms;obtain⟨tm2,hm2⟩:=hmw;apply%[_,((@bj _ _ _ _ (DCP∪('1'^^^('2'^^^ae))) O)<<<((@bj _ _ _ _ (DCS∩('1'^^^('2'^^^((bU (v:=.int 8) O hm1 %[tm1|O])^^^ae)))) O)>>>(((@ay _ _ _ _ _ _ _ _ _ (je O) O B.sum PyProof.Rows.boot_sum ((eA '0' T.cl MW (hr.mono ∅))^^^ae) ∅ ∅ O O)<*>cV<*>(bU (v:=.int 6) O hm2 %[tm2|O]))<|>(@ai _ _ _ cT)<|>aE)))|?_];dsimp only[bL];obtain⟨dx,r,rs,S1,S2,S3⟩:=id sh;apply%[_,O,_,O,w1,h1,O,w0,h0|?_];apply bH (λ σ' H'=>σ'=[↑s,⇑w1,⇑h1]/\H=H') (λ R hR=>hR _ _ %[rfl|rfl]) ?_;rintro _ _ ⟨rfl,rfl⟩;apply%[_,O,_,O,w1,h1,8,O,w8,h8|?_];apply bH (λ σ' H'=>σ'=[↑s,⇑w1,⇑h1]/\H=H') (λ R hR=>hR _ _ %[rfl|rfl]) ?_;rintro _ _ ⟨rfl,rfl⟩;apply%[_,O,s,dx,_,O,S1,(bP _ _ ∅ ∅),s,b,ks,O,sh,k8|λ t H1 hn ht s1=>?_];apply%[t,ks.map (λ k=>k.wa),O,G6 (by rw[N7];exact ht),_,_,O,O,_,O|?_];rw[Qc ⋯];exact be (q _ s1)
def msr(p:Int×Int):Nat:=(p.1+p.2).toNat
theorem sJ{dn:Bool}{n:Nat}{x:Bool×Int}(h:x∈wpL dn n):x.1=dn/\1<=x.2/\x.2<=n:=by unfold wpL at h;obtain⟨j,hj,rfl⟩:=J6.mp h;have:=N9.mp hj;exact%[O,by show 1<=1+(j:Int);lia|by show 1+(j:Int)<=n;lia]
theorem mh{b w h:Int}{x:Bool×Int}(m:x∈cf b w h):1<=x.2/\(if x.1=true then x.2+b < w else x.2+b < h):=by
 unfold cf at m;rcases C4.mp m with m | m
 ·obtain⟨e,h1,h2⟩:=sJ m;rw[e,Qa rfl];exact%[h1|⋯]
 ·obtain⟨e,h1,h2⟩:=sJ m;rw[e,QZ B3];exact%[h1|⋯]
theorem mj{b w h:Int}{dn:Bool}{p:Int}(h1:1<=p)(h2:if dn=true then p+b < w else p+b < h):(dn,p)∈cf b w h:=by
 unfold cf wpL;cases dn with
 | true=>
  have h2:p+b < w:=h2;apply B8 _ (J6.mpr %[(p - 1).toNat,N9.mpr ⋯|?_]);rw[show 1+((p - 1).toNat:Int)=p by lia]
 | false=>
  have h2:p+b < h:=h2;apply A6 _ (J6.mpr %[(p - 1).toNat,N9.mpr ⋯|?_]);rw[show 1+((p - 1).toNat:Int)=p by lia]
theorem ge{b w h:Int}{x:Bool×Int}(b0:0<=b)(w0:1<=w)(h0:1<=h)(m:x∈cf b w h) :
  (1<=(dg w h x).1/\1<=(dg w h x).2/\(dg w h x).1<=w/\(dg w h x).2<=h/\((dg w h x).1 < w\/(dg w h x).1=w/\(dg w h x).2 < h)/\msr (dg w h x) < msr (w,h)) /\
  (1<=(du b w h x).1/\1<=(du b w h x).2/\(du b w h x).1<=w/\(du b w h x).2<=h/\((du b w h x).1 < w\/(du b w h x).1=w/\(du b w h x).2 < h)/\msr (du b w h x) < msr (w,h)):=by
 obtain⟨h1,h2⟩:=mh m;obtain⟨dn,p⟩:=x;cases dn with
 | true=>
  have h2:p+b < w:=h2;have h1:1<=p:=h1;show(1<=p/\1<=h/\p<=w/\h<=h/\(p < w\/p=w/\h < h)/\(p+h).toNat < (w+h).toNat)/\(1<=w - p - b/\1<=h/\w - p - b<=w/\h<=h/\(w - p - b < w\/w - p - b=w/\h < h)/\(w - p - b+h).toNat < (w+h).toNat)
  apply%[%[?_,?_,?_,?_,?_|?_]|%[?_,?_,?_,?_,?_|?_]] <;> lia
 | false=>
  have h2:p+b < h:=h2;have h1:1<=p:=h1;show(1<=w/\1<=p/\w<=w/\p<=h/\(w < w\/w=w/\p < h)/\(w+p).toNat < (w+h).toNat)/\(1<=w/\1<=h - p - b/\w<=w/\h - p - b<=h/\(w < w\/w=w/\h - p - b < h)/\(w+(h - p - b)).toNat < (w+h).toNat)
  apply%[%[?_,?_,?_,?_,?_|?_]|%[?_,?_,?_,?_,?_|?_]] <;> lia
def ltP(p q:Int×Int):Prop:=p.1 < q.1\/p.1=q.1/\p.2 < q.2
theorem rowP_mem{a:Int}{n:Nat}{p:Int×Int}:p∈kJ a n↔p.1=a/\1<=p.2/\p.2<=n:=by
 unfold kJ;constructor
 ·intro h;obtain⟨j,hj,rfl⟩:=J6.mp h;have:=N9.mp hj;exact%[O,by show 1<=1+(j:Int);lia|by show 1+(j:Int)<=n;lia]
 ·rintro⟨e,h1,h2⟩;apply J6.mpr %[(p.2 - 1).toNat,N9.mpr ⋯|?_];rw[<- e,show 1+((p.2 - 1).toNat:Int)=p.2 by lia]
theorem partsL_mem{n:Nat}{p:Int×Int}:∀{m:Nat},p∈aQ m n↔(1<=p.1/\p.1<=m)/\1<=p.2/\p.2<=n
 | 0=>by
  constructor
  ·intro h;simp[aQ]at h
  ·rintro⟨⟨h1,h2⟩,_⟩;exfalso;have h2:p.1<=0:=h2;lia
 | m+1=>by
  rw[eh,C4,partsL_mem (m:=m),rowP_mem];constructor
  ·rintro(⟨⟨h1,h2⟩,h3⟩ | ⟨h1,h2⟩)
   ·exact%[%[h1|⋯]|h3]
   ·exact%[%[⋯|⋯]|h2]
  ·rintro⟨⟨h1,h2⟩,h3⟩
   by_cases e:p.1=1+(m:Int)
   ·exact .inr %[e|h3]
   ·exact .inl %[%[h1|⋯]|h3]
theorem mr(a:Int):∀n:Nat,(kJ a n).Pairwise ltP
 | 0=>List.Pairwise.nil
 | n+1=>by rw[lZ,List.pairwise_append];apply%[mr a n,List.pairwise_singleton _ _|λ p hp q hq=>?_];rw[E6.mp hq];obtain⟨e,_,h⟩:=rowP_mem.mp hp;exact .inr %[e|by show p.2 < 1+(n:Int);lia]
theorem ej(n:Nat):∀m:Nat,(aQ m n).Pairwise ltP
 | 0=>List.Pairwise.nil
 | m+1=>by rw[eh,List.pairwise_append];apply%[ej n m,mr _ n|λ p hp q hq=>?_];obtain⟨⟨_,h⟩,_⟩:=partsL_mem.mp hp;obtain⟨e,_⟩:=rowP_mem.mp hq;exact .inl ⋯
theorem jv{m n i:Nat}{p q:Int×Int}(hi:(aQ m n)[i]?=some p)(hq:q∈aQ m n)(hl:ltP q p):q∈(aQ m n).take i:=by
 obtain⟨j,hj⟩:=N8.mp hq;obtain⟨i1,i2⟩:=A7.mp hi;obtain⟨j1,j2⟩:=A7.mp hj
 by_cases h:j < i
 ·apply N8.mpr %[j|?_];rw[List.getElem?_take_of_lt h];exact hj
 ·exfalso;rcases QN i j with h' | h'
  ·have:=List.pairwise_iff_getElem.mp (ej n m) i j i1 j1 h';rw[i2,j2]at this;unfold ltP at this hl;lia
  ·have e:i=j:=⋯
   subst e;rw[hi]at hj;cases hj;unfold ltP at hl;lia
theorem qW{m n i:Nat}{p:Int×Int}(hi:(aQ m n)[i]?=some p):p∉(aQ m n).take i:=λ h=>by obtain⟨j,hj⟩:=N8.mp h;obtain⟨j0,_⟩:=A7.mp hj;rw[K4]at j0;rw[List.getElem?_take_of_lt ⋯]at hj;obtain⟨i1,i2⟩:=A7.mp hi;obtain⟨j1,j2⟩:=A7.mp hj;have:=List.pairwise_iff_getElem.mp (ej n m) j i j1 i1 ⋯;rw[i2,j2]at this;unfold ltP at this;lia
abbrev pk(p:Int×Int):QT Key:=[.inl p.1,.inl p.2]
theorem qX{p q:Int×Int}(h:pk p=pk q):p=q:=by
 obtain⟨a,b⟩:=p;obtain⟨c,d⟩:=q;have h:([.inl a,.inl b]:QT Key)=[.inl c,.inl d]:=h;injection h with h1 h2
 injection h1 with h1
 injection h2 with h2 _
 injection h2 with h2
 rw[h1,h2]
def byP(ss:QT ((Int×Int)×V)):QT (QT Key×V):=ss.map λ s=>(pk s.1,s.2)
theorem Aq{ss:QT ((Int×Int)×V)}{p:Int×Int}{v:V}(h:p∉ss.map (·.1)):eI (byP ss) (pk p) v=byP (ss ++ [(p,v)]):=by
 unfold eI;rw[QZ,byP,byP,J5]
 ·rfl
 ·intro e;obtain⟨x,hx,e⟩:=O7.mp e;obtain⟨s,hs,rfl⟩:=J6.mp hx;have:s.1=p:=qX (C2 e);exact h (J6.mpr %[s,hs|this])
theorem gC:∀{ss:QT ((Int×Int)×V)}{p:Int×Int},p∈ss.map (·.1)->∃v,de (byP ss) (pk p)=some v/\(p,v)∈ss
 | s :: r,p,h=>by
  by_cases e:s.1=p
  ·apply%[s.2,eJ (by show pk s.1=pk p;rw[e])|?_];rw[<- e];exact B9
  ·have h:p∈r.map (·.1):=(J4.mp h).resolve_left (λ z=>e z.symm);obtain⟨v,h1,h2⟩:=gC h;apply%[v,?_|B6 _ h2];show de ((pk s.1,s.2) :: byP r) (pk p)=some v;rw[cW (λ z=>e (qX z))];exact h1
inductive Stp where
 | rest
 | piece (k:Int) (t:Bool)
 | cut (dn:Bool) (p:Int) (f:Int×Int) (o:SW) (s:Int×Int) (u:SW)
abbrev Rws:=QT (SW×Stp)
def hJ(rs:Rws)(r:SW×Stp):Rws:=if r.1∈rs.map (·.1)then rs else rs ++ [r]
def ft(rs l:Rws):Rws:=l.foldl hJ rs
theorem iG(rs l m:Rws):ft rs (l ++ m)=ft (ft rs l) m:=QH
theorem putN_keys{rs:Rws}{r:SW×Stp}{x:SW}:x∈(hJ rs r).map (·.1)↔x∈rs.map (·.1)\/x=r.1:=by
 unfold hJ
 split
 ·next h=>exact%[.inl|λ z=>z.elim id λ e=>e ▸ h]
 ·rw[J5,C4,J8,N3,E6]
theorem adds_keys{x:SW}:∀{l rs:Rws},x∈(ft rs l).map (·.1)↔x∈rs.map (·.1)\/x∈l.map (·.1)
 | [],rs=>by simp[ft]
 | r :: l,rs=>by show x∈(ft (hJ rs r) l).map (·.1)↔_;rw[adds_keys,putN_keys,J8,J4,or_assoc]
theorem kL{rs:Rws}{r:SW×Stp}(h:(rs.map (·.1)).Nodup):((hJ rs r).map (·.1)).Nodup:=by
 unfold hJ
 split
 ·exact h
 ·next z=>
  rw[J5,QF];apply%[h,by simp|λ a ha b hb e=>z ?_];simp only[J8,N3,E6]at hb;rw[<- hb,<- e];exact ha
theorem hV:∀{l rs:Rws},(rs.map (·.1)).Nodup->((ft rs l).map (·.1)).Nodup
 | [],_,h=>h
 | r :: l,rs,h=>by show((ft (hJ rs r) l).map (·.1)).Nodup;exact hV (kL h)
def InB(ws b:SW):Prop:=b.length=ws.length/\leB b ws=true/\∀x∈b,0<=x
theorem dJ(x y:Int)(a b:SW):leB (x :: a) (y :: b)=(decide (x<=y) && leB a b):=rfl
theorem eS:∀a:SW,leB a a=true
 | []=>rfl
 | x :: a=>by rw[dJ,eS a,Qb (E9 x)];rfl
theorem eT:∀{a b c:SW},a.length=b.length->b.length=c.length->leB a b=true->leB b c=true->leB a c=true
 | [],_,_,_,_,_,_=>rfl
 | x :: a,y :: b,z :: c,h1,h2,h3,h4=>by rw[dJ,M9,Q7]at h3 h4 ⊢;exact%[QO h3.1 h4.1|eT (by simpa using h1) (by simpa using h2) h3.2 h4.2]
 | _ :: _,[],_,h1,_,_,_=>by simp at h1
 | _ :: _,_ :: _,[],_,h2,_,_=>by simp at h2
theorem kM:∀{a b:SW},a.length=b.length->leB a b=true->a.sum<=b.sum/\(a.sum=b.sum->a=b)
 | [],[],_,_=>%[E9 _|λ _=>rfl]
 | x :: a,y :: b,h1,h2=>by rw[dJ,M9,Q7]at h2;obtain⟨i1,i2⟩:=kM (a:=a) (b:=b) (by simpa using h1) h2.2;rw[M7,M7];apply%[⋯|λ e=>?_];rw[i2 ⋯,show x=y by lia]
 | [],_ :: _,h,_=>by simp at h
 | _ :: _,[],h,_=>by simp at h
theorem InB.sum{ws b:SW}(h:InB ws b):b.sum<=ws.sum:=(kM h.1 h.2.1).1
def uM:SW->SX
 | []=>[[]]
 | w :: ws=>(List.range (w+1).toNat).flatMap λ x:Nat=>(uM ws).map λ b=>Int.ofNat x :: b
theorem InB.box:∀{ws b:SW},InB ws b->b∈uM ws
 | [],[],_=>E6.mpr rfl
 | [],_ :: _,h=>by have:=h.1;simp at this
 | _ :: _,[],h=>by have:=h.1;simp at this
 | w :: ws,x :: b,⟨h1,h2,h3⟩=>by rw[dJ,M9,Q7]at h2;have x0:=h3 x B9;apply N6.mpr %[x.toNat,N9.mpr ⋯|J6.mpr %[b,InB.box %[by simpa using h1,h2.2|λ y hy=>h3 y (B6 _ hy)]|?_]];rw[show Int.ofNat x.toNat=x from Int.toNat_of_nonneg x0]
theorem oX{α β:Type}(f:α->QT β)(n:Nat):∀l:QT α,(∀a∈l,(f a).length=n)->(l.flatMap f).length=l.length * n
 | [],_=>by simp
 | a :: l,h=>by rw[PN,J7,h a B9,oX f n l (λ b hb=>h b (B6 _ hb)),K1,Nat.succ_mul,Nat.add_comm]
theorem dL:∀{ws:SW},(∀x∈ws,0<=x)->0<=ws.sum
 | [],_=>E9 _
 | w :: ws,h=>by have:=dL (ws:=ws) (λ x hx=>h x (B6 _ hx));have:=h w B9;rw[M7];lia
theorem oY:∀{ws:SW},(∀x∈ws,0<=x)->(uM ws).length<=2 ^ ws.sum.toNat
 | [],_=>∅
 | w :: ws,h=>by
  have w0:=h w B9;have h':∀x∈ws,0<=x:=λ x hx=>h x (B6 _ hx);have s0:=dL h';have ih:=oY h';have e:(uM (w :: ws)).length=(w+1).toNat * (uM ws).length:=by show((List.range (w+1).toNat).flatMap _).length=_;rw[oX _ (uM ws).length _ (λ a _=>B5 _),PH]
  rw[e,M7,show(w+ws.sum).toNat=w.toNat+ws.sum.toNat by lia,Nat.pow_add];apply P0 ?_ ih;have:=@Nat.lt_two_pow_self w.toNat;lia
theorem InB.few{ws:SW}(h0:∀x∈ws,0<=x)(h6:ws.sum<=6){bs:SX}(hn:bs.Nodup)(hb:∀b∈bs,InB ws b):bs.length<=64 :=
 C7 (List.Nodup.length_le_of_subset hn λ b m=>(hb b m).box) (C7 (oY h0) (C7 (Nat.pow_le_pow_right ∅ (show ws.sum.toNat<=6 by lia)) ∅))
theorem InB.join:∀{ws a b:SW},(∀x∈ws,0<=x)->InB ws a->InB ws b->InB ws (ci a b ws)
 | [],[],[],_,_,_=>%[O,O|λ _ h=>by simp[ci]at h]
 | w :: ws,x :: a,y :: b,h0,⟨a1,a2,a3⟩,⟨b1,b2,b3⟩=>by
  rw[dJ,M9,Q7]at a2 b2;have w0:=h0 w B9;have x0:=a3 x B9;have y0:=b3 y B9;obtain⟨i1,i2,i3⟩:=InB.join (ws:=ws) (a:=a) (b:=b) (λ z hz=>h0 z (B6 _ hz)) %[by simpa using a1,a2.2|λ z hz=>a3 z (B6 _ hz)] %[by simpa using b1,b2.2|λ z hz=>b3 z (B6 _ hz)];apply%[by rw[ci,K1,K1,i1],?_|λ z hz=>?_]
  ·rw[ci,dJ,i2,Qb (Int.min_le_right _ _)];rfl
  ·rw[ci]at hz;rcases J4.mp hz with rfl | hz
   ·lia
   ·exact i3 z hz
 | [],_ :: _,_,_,h,_=>by have:=h.1;simp at this
 | [],[],_ :: _,_,_,h=>by have:=h.1;simp at this
 | _ :: _,[],_,_,h,_=>by have:=h.1;simp at this
 | _ :: _,_ :: _,[],_,_,h=>by have:=h.1;simp at this
theorem aS:∀{a b:SW},a.length=b.length->(leB a b=true↔∀(i:Nat)(x y:Int),a[i]?=some x->b[i]?=some y->x<=y)
 | [],[],_=>%[λ _ i x y h=>by simp at h|λ _=>rfl]
 | u :: a,v :: b,h=>by
  have ih:=aS (a:=a) (b:=b) (by simpa using h);rw[dJ,M9,Q7,ih];constructor
  ·rintro⟨h1,h2⟩ i x y hx hy;cases i with
   | zero=>simp at hx hy;lia
   | succ i=>exact h2 i x y (by simpa using hx) (by simpa using hy)
  ·intro h';exact%[h' 0 u v rfl rfl|λ i x y hx hy=>h' (i+1) x y (by simpa using hx) (by simpa using hy)]
 | [],_ :: _,h=>by simp at h
 | _ :: _,[],h=>by simp at h
def aB(n:Nat):SW:=List.replicate n 0
theorem InB.zero{ws:SW}(h0:∀x∈ws,0<=x):InB ws (aB ws.length):=by apply%[K7,(aS K7).mpr λ i x y hx hy=>?_|λ x hx=>by rw[(PD.mp hx).2];exact E9 _];have e:x=0:=(PD.mp (B7 hx)).2;rw[e];exact h0 y (B7 hy)
theorem iH{n i:Nat}{k x:Int}(h:(bO n k)[i]?=some x):i < n/\x=if Int.ofNat i=k then 1 else 0:=by unfold bO at h;rw[J3]at h;obtain⟨j,hj,e⟩:=J9.mp h;have hl:=(A7.mp hj).1;rw[Px (by simpa using hl)]at hj;cases hj;exact%[by simpa using hl|e.symm]
theorem eU(n:Nat)(k:Int):(bO n k).length=n:=by unfold bO;rw[B5,PH]
theorem InB.one{ws:SW}{k:Nat}{z:Int}(h0:∀x∈ws,0<=x)(hk:ws[k]?=some z)(hz:0 < z):InB ws (bO ws.length k):=by
 apply%[eU _ _,(aS (eU _ _)).mpr λ i x y hx hy=>?_|λ x hx=>?_]
 ·obtain⟨_,e⟩:=iH hx;have y0:=h0 y (B7 hy)
  by_cases c:Int.ofNat i=(k:Int)
  ·rw[Qa c]at e;have:i=k:=by have:(i:Int)=k:=c;lia
   subst this;rw[hk]at hy;cases hy;lia
  ·rw[QZ c]at e;lia
 ·obtain⟨i,hi⟩:=N8.mp hx;obtain⟨_,e⟩:=iH hi;rw[e];split <;> lia
def yc(bs:SX):SX:=bs.mergeSort λ x y=>!(cG y x)
theorem eV(bs:SX):(yc bs).Perm bs:=List.mergeSort_perm _ _
theorem uN(bs:SX):(yc bs).Pairwise λ x y=>cG y x=false:=by
 have:=List.pairwise_mergeSort (le:=λ x y=>!(cG y x)) (λ a b c h1 h2=>?_) (λ a b=>?_) bs
 ·exact this.imp λ h=>by simpa using h
 ·simp only[Bool.not_eq_true']at h1 h2 ⊢;cases e:cG c a with
  | false=>rfl
  | true=>
   rcases nv c b a e with z | z
   ·rw[z]at h2;cases h2
   ·rw[z]at h1;cases h1
 ·cases e:cG b a with
  | false=>rfl
  | true=>
   cases e2:cG a b with
   | false=>rfl
   | true=>have:=jb _ _ _ e e2;rw[gX]at this;cases this
theorem uO{l bs:SX}(hp:l.Perm bs)(hs:l.Pairwise λ x y=>cG y x=false):l=yc bs :=
 List.Perm.eq_of_pairwise (le:=λ x y=>cG y x=false) (λ a b _ _ a1 a2=>jc _ _ a2 a1) hs (uN bs) (hp.trans (eV bs).symm)
def gM(bs:SX)(b:SW):Bool:=!(bs.map λ c=>jB b c).any id
def eW(bs:SX):SX:=(yc bs).filter (gM bs)
theorem mem_topB{bs:SX}{b:SW}:b∈eW bs↔b∈bs/\∀c∈bs,jB b c=false:=by unfold eW gM;rw[PJ,(eV bs).mem_iff];apply and_congr_right λ _=>?_;rw[Bool.not_eq_true',List.any_eq_false];simp only[id,Bool.not_eq_true];exact%[λ h c hc=>h _ (J6.mpr %[c,hc|O])|λ h c hc=>by obtain⟨d,hd,rfl⟩:=J6.mp hc;exact h d hd]
theorem dM{bs:SX}(h:bs.Nodup):(eW bs).Nodup:=((eV bs).symm.nodup h).filter _
def iI(rs:Rws)(b:SW):Stp:=((rs.find? λ r=>decide (r.1=b)).map (·.2)).getD .rest
def jC(rs:Rws):Rws:=(eW (rs.map (·.1))).map λ b=>(b,iI rs b)
theorem mv(rs:Rws):(jC rs).map (·.1)=eW (rs.map (·.1)):=by unfold jC;rw[N7];exact List.map_id' _
def waA(ks:QT Kd)(i:Nat):Int:=((ks[i]?).map (·.wa)).getD 0
abbrev wsK(ks:QT Kd):SW:=ks.map λ k=>k.wa
def lyR(ks:QT Kd)(q:Nat×Bool):Rws:=if 0 < waA ks q.1 then[(bO ks.length q.1,.piece q.1 q.2)]else[]
def lyC(ks:QT Kd)(p:Int×Int):Rws:=((lyK ks 0).filter (cO ks p.1 p.2)).flatMap (lyR ks)
def Ca(b:Int)(ks:QT Kd)(p:Int×Int)(c:Bool×Int)(o u:SW):SW×Stp:=(ci o u (wsK ks),.cut c.1 c.2 (dg p.1 p.2 c) o (du b p.1 p.2 c) u)
def uP(b:Int)(ks:QT Kd)(p:Int×Int)(c:Bool×Int)(us:SX)(o:SW):Rws:=us.map (Ca b ks p c o)
def oZ(b:Int)(ks:QT Kd)(fd:Int×Int->Rws)(p:Int×Int)(c:Bool×Int):Rws:=((fd (dg p.1 p.2 c)).map (·.1)).flatMap (uP b ks p c ((fd (du b p.1 p.2 c)).map (·.1)))
def fG(ks:QT Kd):Rws:=[(aB ks.length,.rest)]
def bt(b:Int)(ks:QT Kd)(fd:Int×Int->Rws)(p:Int×Int):Rws:=ft (ft (fG ks) (lyC ks p)) ((cf b p.1 p.2).flatMap (oZ b ks fd p))
def gF(b:Int)(ks:QT Kd):Nat->Int×Int->Rws
 | 0,_=>[]
 | n+1,p=>jC (bt b ks (gF b ks n) p)
theorem kN{α β:Type}{f g:α->QT β}:∀{l:QT α},(∀a∈l,f a=g a)->l.flatMap f=l.flatMap g
 | [],_=>rfl
 | a :: l,h=>by rw[PN,PN,h a B9,kN λ b hb=>h b (B6 _ hb)]
theorem iJ{b:Int}{ks:QT Kd}{f g:Int×Int->Rws}{p:Int×Int}(h:∀c∈cf b p.1 p.2,f (dg p.1 p.2 c)=g (dg p.1 p.2 c)/\f (du b p.1 p.2 c)=g (du b p.1 p.2 c)):bt b ks f p=bt b ks g p:=by unfold bt;rw[kN λ c hc=>?_];unfold oZ;rw[(h c hc).1,(h c hc).2]
theorem gD{b:Int}{ks:QT Kd}(b0:0<=b):∀(n m:Nat)(p:Int×Int),msr p < n->msr p < m->1<=p.1->1<=p.2->gF b ks n p=gF b ks m p
 | 0,_,_,h,_,_,_=>absurd h (F3 _)
 | _+1,0,_,_,h,_,_=>absurd h (F3 _)
 | n+1,m+1,p,h1,h2,p1,p2=>by show jC _=jC _;rw[iJ λ c hc=>?_];obtain⟨⟨a1,a2,_,_,_,a6⟩,⟨c1,c2,_,_,_,c6⟩⟩:=ge b0 p1 p2 hc;have e:msr (p.1,p.2)=msr p:=rfl;exact%[gD b0 n m _ ⋯ ⋯ a1 a2|gD b0 n m _ ⋯ ⋯ c1 c2]
def gB(b:Int)(ks:QT Kd)(p:Int×Int):Rws:=gF b ks (msr p+1) p
theorem yd{b:Int}{ks:QT Kd}(b0:0<=b)(p:Int×Int)(p1:1<=p.1)(p2:1<=p.2):gB b ks p=jC (bt b ks (gB b ks) p):=by show jC _=jC _;rw[iJ λ c hc=>?_];obtain⟨⟨a1,a2,_,_,_,a6⟩,⟨c1,c2,_,_,_,c6⟩⟩:=ge b0 p1 p2 hc;have e:msr (p.1,p.2)=msr p:=rfl;exact%[gD b0 _ _ _ ⋯ ⋯ a1 a2|gD b0 _ _ _ ⋯ ⋯ c1 c2]
theorem ws0{ks:QT Kd}(hg:∀k∈ks,0<=k.wa):∀x∈wsK ks,0<=x:=λ x hx=>by obtain⟨k,hk,rfl⟩:=J6.mp hx;exact hg k hk
theorem ye{ks:QT Kd}(hg:∀k∈ks,0<=k.wa){q:Nat×Bool}{r:SW×Stp}(h:r∈lyR ks q):InB (wsK ks) r.1:=by
 unfold lyR at h
 split at h
 ·next z=>
  rw[E6]at h;subst h;have e:(wsK ks).length=ks.length:=B5 _;show InB (wsK ks) (bO ks.length q.1);rw[<- e];apply InB.one (ws0 hg) (z:=waA ks q.1) ?_ z;rw[J3];unfold waA at z ⊢;cases e:ks[q.1]? with
  | none=>rw[e]at z;exact absurd z ∅
  | some k=>rfl
 ·cases h
theorem gE{b:Int}{ks:QT Kd}(hg:∀k∈ks,0<=k.wa){fd:Int×Int->Rws}{p:Int×Int}(hf:∀c∈cf b p.1 p.2,(∀r∈fd (dg p.1 p.2 c),InB (wsK ks) r.1)/\∀r∈fd (du b p.1 p.2 c),InB (wsK ks) r.1){x:SW}(hx:x∈(bt b ks fd p).map (·.1)):InB (wsK ks) x:=by
 unfold bt at hx;rcases adds_keys.mp hx with hx | hx
 ·rcases adds_keys.mp hx with hx | hx
  ·simp only[fG,J8,N3,E6]at hx;rw[hx,show ks.length=(wsK ks).length from(B5 _).symm];exact InB.zero (ws0 hg)
  ·obtain⟨r,hr,rfl⟩:=J6.mp hx;obtain⟨q,_,hq⟩:=N6.mp hr;exact ye hg hq
 ·obtain⟨r,hr,rfl⟩:=J6.mp hx;obtain⟨c,hc,hr⟩:=N6.mp hr;obtain⟨o,ho,hr⟩:=N6.mp hr;obtain⟨u,hu,rfl⟩:=J6.mp hr;obtain⟨ro,mo,rfl⟩:=J6.mp ho;obtain⟨ru,mu,rfl⟩:=J6.mp hu;exact InB.join (ws0 hg) ((hf c hc).1 _ mo) ((hf c hc).2 _ mu)
theorem bY(b:Int)(ks:QT Kd)(fd:Int×Int->Rws)(p:Int×Int):((bt b ks fd p).map (·.1)).Nodup:=hV (hV (by simp[fG]))
theorem yf{b:Int}{ks:QT Kd}(hg:∀k∈ks,0<=k.wa):∀(n:Nat)(p:Int×Int),∀r∈gF b ks n p,InB (wsK ks) r.1
 | 0,_,r,h=>by cases h
 | n+1,p,r,h=>by have hm:r.1∈(gF b ks (n+1) p).map (·.1):=J6.mpr %[r,h|O];rw[show gF b ks (n+1) p=jC (bt b ks (gF b ks n) p)from rfl,mv]at hm;exact gE hg (λ c _=>%[yf hg n _|yf hg n _]) (mem_topB.mp hm).1
theorem kO{b:Int}{ks:QT Kd}(hg:∀k∈ks,0<=k.wa){p:Int×Int}{r:SW×Stp}(h:r∈gB b ks p):InB (wsK ks) r.1:=yf hg _ _ r h
def gK(b:Int)(ks:QT Kd)(p:Int×Int):SX:=(gB b ks p).map (·.1)
theorem bQ{b:Int}{ks:QT Kd}(hg:∀k∈ks,0<=k.wa){p:Int×Int}{x:SW}(h:x∈gK b ks p):InB (wsK ks) x:=by obtain⟨r,hr,rfl⟩:=J6.mp h;exact kO hg hr
theorem pe{b:Int}{ks:QT Kd}(b0:0<=b)(p:Int×Int)(p1:1<=p.1)(p2:1<=p.2):gK b ks p=eW ((bt b ks (gB b ks) p).map (·.1)):=by unfold gK;rw[yd b0 p p1 p2,mv]
theorem lesB_iff{a b:SW}:jB a b=true↔a≠b/\leB a b=true:=by unfold jB;rw[M9,Bool.not_eq_true',decide_eq_false_iff_not]
theorem InB.full{ws:SW}(h0:∀x∈ws,0<=x)(h6:ws.sum<=6){bs:SX}(hn:bs.Nodup)(hb:∀b∈bs,InB ws b):bs.length < 64\/∀l:SX,l.Perm bs->l.filter (gM bs)=eW bs:=by
 by_cases c:bs.length < 64
 ·exact .inl c
 apply .inr λ l hp=>?_;have wm:ws∈bs:=by
  by_cases m:ws∈bs
  ·exact m
  have:=InB.few h0 h6 (PP.mpr %[m|hn]) λ b h=>by
   rcases J4.mp h with rfl | h
   ·exact%[O,eS _|h0]
   ·exact hb b h
  rw[K1]at this;lia
 have one:∀x∈eW bs,x=ws:=λ x hx=>by
  obtain⟨m,k⟩:=mem_topB.mp hx
  by_cases e:x=ws
  ·exact e
  have:=k ws wm;rw[lesB_iff.mpr %[e|(hb x m).2.1]]at this;cases this
 have pp:(l.filter (gM bs)).Perm (eW bs):=(hp.trans (eV bs).symm).filter _;have nd:=dM hn;revert pp nd one;generalize eW bs=ts;intro one pp nd
 match ts with
 | []=>exact pp.eq_nil
 | [x]=>exact List.perm_singleton.mp pp
 | x :: y :: _=>exact absurd ((one x (by simp)).trans (one y (by simp)).symm) (by simp at nd;exact nd.1.1)
theorem yg{bs:SX}{ws:SW}(hb:∀b∈bs,InB ws b):∀(k:Nat)(b:SW),b∈bs->ws.sum - b.sum < k->∃t∈eW bs,leB b t=true
 | 0,b,m,h=>by have:=(hb b m).sum;lia
 | k+1,b,m,h=>by
  by_cases c:∀c∈bs,jB b c=false
  ·exact%[b,mem_topB.mpr %[m|c]|eS b]
  ·simp only[Classical.not_forall]at c;obtain⟨d,md,e⟩:=c;have e:jB b d=true:=by simpa using e
   obtain⟨n1,l1⟩:=lesB_iff.mp e;have el:b.length=d.length:=by rw[(hb b m).1,(hb d md).1]
   obtain⟨s1,s2⟩:=kM el l1;have:b.sum≠d.sum:=λ z=>n1 (s2 z);obtain⟨t,mt,lt⟩:=yg hb k d md ⋯;exact%[t,mt|eT el (by rw[(hb d md).1,(hb t (mem_topB.mp mt).1).1]) l1 lt]
theorem sK{bs:SX}{ws:SW}(hb:∀b∈bs,InB ws b){b:SW}(m:b∈bs):∃t∈eW bs,leB b t=true :=
 yg hb ((ws.sum - b.sum).toNat+1) b m ⋯
def bK(b:SW):QT Key:=b.map Sum.inl
theorem dh(b:SW):(bK b).map kV=bV b:=by unfold bK bV;rw[N7];rfl
theorem jg:∀{a b:SW},bK a=bK b->a=b
 | [],[],_=>rfl
 | x :: a,y :: b,h=>by
  have h:(Sum.inl x :: bK a:QT Key)=Sum.inl y :: bK b:=h;injection h with h1 h2
  injection h1 with h1
  rw[h1,jg h2]
 | [],_ :: _,h=>by cases h
 | _ :: _,[],h=>by cases h
def KyA(H:Hp)(v:V)(p:Int×Int)(b:SW):Prop:=∃a x y,v=.ref a/\H a= ~~~[.ref x,.ref y]/\H x= ~~~[.int p.1,.int p.2]/\H y= ~~~(bV b)
def StA(H:Hp)(v:V):Stp->Prop
 | .rest=>∃a,v=.ref a/\H a=some (.tup [.str "rest"])
 | .piece k t=>∃a,v=.ref a/\H a=some (.tup [.str "piece",.int k,.bl t,.int 0,.int 0])
 | .cut dn p f o s u=>∃a x y,v=.ref a/\H a= ~~~[wv dn,.int p,x,y]/\KyA H x f o/\KyA H y s u
theorem KyA.keep{H H':Hp}(s:Tps H H'){v:V}{p:Int×Int}{b:SW}:KyA H v p b->KyA H' v p b
 | ⟨a,x,y,e,h1,h2,h3⟩=>%[a,x,y,e,s _ _ h1,s _ _ h2|s _ _ h3]
theorem StA.keep{H H':Hp}(s:Tps H H'){v:V}:∀{t:Stp},StA H v t->StA H' v t
 | .rest,⟨a,e,h⟩=>%[a,e|s _ _ h]
 | .piece _ _,⟨a,e,h⟩=>%[a,e|s _ _ h]
 | .cut ..,⟨a,x,y,e,h,h1,h2⟩=>%[a,x,y,e,s _ _ h,h1.keep s|h2.keep s]
def RwA(H:Hp)(kv:QT Key×V)(r:SW×Stp):Prop:=kv.1=bK r.1/\StA H kv.2 r.2
theorem RwA.keep{H H':Hp}(s:Tps H H'){kv:QT Key×V}{r:SW×Stp}(h:RwA H kv r):RwA H' kv r:=%[h.1|h.2.keep s]
abbrev RwsA(H:Hp)(kvs:QT (QT Key×V))(rs:Rws):Prop:=Paired (RwA H) kvs rs
theorem RwsA.keep{H H':Hp}(s:Tps H H'){kvs:QT (QT Key×V)}{rs:Rws}(h:RwsA H kvs rs):RwsA H' kvs rs:=by
 induction h with
 | nil=>exact .nil
 | cons a _ ih=>exact .cons (a.keep s) ih
theorem RwsA.keys{H:Hp}{kvs:QT (QT Key×V)}{rs:Rws}(h:RwsA H kvs rs):kvs.map (·.1)=(rs.map (·.1)).map bK:=by
 induction h with
 | nil=>rfl
 | cons a _ ih=>rw[J8,J8,J8,ih,a.1]
theorem RwsA.get{H:Hp}{kvs:QT (QT Key×V)}{rs:Rws}{b:SW}(h:RwsA H kvs rs)(m:b∈rs.map (·.1)):∃v,de kvs (bK b)=some v/\StA H v (iI rs b):=by
 induction h with
 | nil=>cases m
 | @cons kv r kvs rs a _ ih=>
  by_cases e:r.1=b
  ·apply%[kv.2,eJ (by rw[a.1,e])|?_];unfold iI;rw[P8 (by simpa using e)];exact a.2
  ·obtain⟨v,h1,h2⟩:=ih ((J4.mp m).resolve_left λ z=>e z.symm);apply%[v,by rw[cW (λ z=>e (jg (a.1.symm.trans z)))];exact h1|?_];unfold iI;rw[P9 (by simpa using e)];exact h2
theorem RwsA.no{H:Hp}{kvs:QT (QT Key×V)}{rs:Rws}{b:SW}(h:RwsA H kvs rs)(m:b∉rs.map (·.1)):de kvs (bK b)=none:=by
 induction h with
 | nil=>rfl
 | @cons kv r kvs rs a _ ih=>
  rw[cW (λ z=>m (J4.mpr (.inl (jg (a.1.symm.trans z)).symm)))];exact ih λ z=>m (B6 _ z)
theorem pf:∀b:SW,iq (List.replicate b.length false) (bV b)=some b
 | []=>rfl
 | x :: b=>by
  have ih:=pf b;show iq (false :: List.replicate b.length false) (V.int x :: bV b)=_;simp only[iq,ih]
  rfl
def unK(k:QT Key):SW:=k.map λ x=>match x with
 | .inl i=>i
 | .inr _=>0
theorem qY:∀b:SW,unK (bK b)=b
 | []=>rfl
 | x :: b=>by show x :: unK (bK b)=x :: b;rw[qY b]
abbrev BsA(H:Hp)(as:QT QP)(bs:SX):Prop:=Paired (λ c b=>H c= ~~~(bV b)) as bs
theorem BsA.keep{H H':Hp}(s:Tps H H'){as:QT QP}{bs:SX}(h:BsA H as bs):BsA H' as bs:=G8 h λ _ _ e=>s _ _ e
def sL:Sp:=λ vs H Q _=>∃(a:QP)(n:Nat)(kvs:QT (QT Key×V))(rs:Rws),vs=[.ref a]/\Rd H a (.dT kvs)/\RwsA H kvs rs/\(rs.map (·.1)).Nodup/\(∀b∈rs.map (·.1),b.length=n)/\1<=n/\n<=8/\rs.length<=64/\((rs.map (·.1)).length < 64\/∀l:SX,l.Perm (rs.map (·.1))->l.filter (gM (rs.map (·.1)))=eW (rs.map (·.1))) /\
 ∀(d:QP)(kvs':QT (QT Key×V))(H':Hp),H d=none->H' d=some (.dT kvs')->RwsA H' kvs' (jC rs)->Sf (· = a) H H'->Q (.ref d) H'
theorem scalone:FnScope Rl Rm (defScope bF):=nofun
theorem yh{f:QP}{fd:G2}(F:Fun K "greatest_alone" "greatest_alone" bF f fd)(B:Blt mg)(han:mg "any" = none)(DLe:Dn P w K mg base "is_lesser" Rj 1 (yb)):FnOk P w K mg base CX0 2 f fd Rm (sL):=by
 exists scalone;apply br λ G9 k9=>?_;obtain⟨a,n,kvs,rs,rfl,ha,hrw,rnd,rl,n1,n8,r4,r5,q⟩:=h;apply k9 ?_;have hu:=hr.units;have hu1:=C8 (PB (show 1<=64 by decide) _) hu;apply%[_,((xB (i:=1) (own:=["one"]) (cs:=Rm) (cap:=[0]) O nd O O O (bC (@ay _ _ _ _ _ _ _ _ _ (lB O) O B.sorted PyProof.Rows.boot_sorted ('0'^^^ae) ∅ ∅ O O)) (qN (sc:=defScope bF) (N:=Rl) O O ∅) (λ _ _ _ _ _=>aj (i:=0) (by show List.Nodup (["one","steps"]:QT Str) ;decide +kernel) O (Or.inr O) (Or.inl O)) (λ _ _ _ _ _=>(jZ (@bf _ _ _ _ (@aW _ _ _ (ay (r:=DQ K) (jf O) O han PyProof.Rows.boot_any ((aY (own:=["other"]) (cs:=["one"]) (cap:=[0]) O (ux K O '1') (aD (N:=["one","steps"]) O O (by rfl)) (λ _ _ _ _ _=>aj (i:=0) (by show List.Nodup (["other","one"]:QT Str) ;decide +kernel) O (Or.inl O) (Or.inr O)) (λ _ _ _ _ _=>aH) (λ _ _ _ _ _=>(DLe∪('1'^^^('0'^^^ae)))))^^^ae)) (by intro _;rfl))))) (λ _ _ _ _ _=>'0'))<<<((oO (own:=["bundle"]) (cs:=Rm) (cap:=[0]) O hu1 (bC '1') (aD (sc:=defScope bF) (N:=Rl) O O ∅) (λ _ _ _ _ _=>aj (i:=0) (by show List.Nodup (["bundle","steps"]:QT Str) ;decide +kernel) O (Or.inl O) (Or.inr O)) (λ _ _ _ _ _=>aH) (λ _ _ _ _ _=>'0') (λ _ _ _ _ _=>(dS hu1 '1' '0' (λ _ _=>O))))⁻¹))|?_];dsimp only[bL];have z4:4096<=sizeLine:=∅
 have kl:=E7 hrw;have ek:=RwsA.keys hrw;obtain⟨bs,hbs⟩:∃bs,bs=rs.map (·.1):=%[_|O]
 rw[<- hbs]at ek rnd rl r5;have el:bs.length=rs.length:=by rw[hbs,B5]
 have sl:(yc bs).length=bs.length:=(eV bs).length_eq;apply av (λ R=>∀(gl:QP)(as:QT QP)(H':Hp),H' gl=↥(as.map V.ref)->BsA H' as (eW bs)->Sf (· = a) H H'->R [↑a,↑gl] H') (λ Dd hR=>?_) ?_
 ·apply%[_,O,a,kvs,List.replicate n false,unK,O,ha,⋯,?_,?_|λ l as' ks' hl pa pp ps=>?_]
  ·obtain⟨m,rfl⟩:∃m,n=m+1:=%[n - 1|⋯]
   rfl
  ·intro kv hkv;have hm:kv.1∈bs.map bK:=by rw[<- ek];exact J6.mpr %[kv,hkv|O]
   obtain⟨b,hb,e⟩:=J6.mp hm;rw[<- e,dh,qY,<- rl b hb];exact pf b
  obtain⟨bs',e1,p1⟩:=ju bK pp bs ek;subst e1;have sl':=p1.length_eq;have fin:bs'.filter (gM bs)=eW bs:=by
   rcases r5 with r5 | r5
   ·have ps:=ps ⋯;rw[N7,show unK∘bK=id from funext qY,List.map_id]at ps;rw[uO p1 ps];rfl
   ·exact r5 _ p1
  apply aK hl λ H1 k1 s1=>?_;have pa1:BsA H1 as' bs':=by
   have:∀(as:QT QP)(bs:SX),Paired (λ a k=>H a= ~~~(List.map kV k)) as (bs.map bK)->BsA H1 as bs:=λ as=>by
    induction as with
    | nil=>intro bs h;cases bs with
     | nil=>exact .nil
     | cons _ _=>cases h
    | cons c as ih=>intro bs h;cases bs with
     | nil=>cases h
     | cons b bs=>cases h with
      | cons h1 h2=>exact .cons (by rw[dh]at h1;exact s1 _ _ h1) (ih bs h2)
   exact this _ _ pa
  have al:=E7 pa1;have rd1:=(Same.sf (F:=(· = a)) s1).rd ha;apply%[l,O,%[_|G7 k1]|(bS (K:=K) (.inl k1) (λ i us Hx=>Sf (· = a) H1 Hx/\∃as,us=as.map V.ref/\BsA Hx as ((bs'.take i).filter (gM bs))) (λ i us Hx _ ⟨sx,_⟩ o e=>by cases(k1.symm.trans e);exact sx.lst k1) %[Same.sf (Same.refl _),[],O|.nil] ?_ ?_).1 k1]
  ·rintro i x us Hx hi ⟨sx,as,rfl,pas⟩;have hin:=(A7.mp hi).1;rw[J3]at hi;obtain⟨c,hc,rfl⟩:=J9.mp hi;obtain⟨b,hb,hcb⟩:=J0 pa1 hc;have tk:bs'.take (i+1)=bs'.take i ++ [b]:=by rw[K0,hb];rfl
   have pn:=P7 (p:=gM bs) (bs'.take i) [b];rw[<- tk]at pn;have bm:b∈bs:=p1.mem_iff.mp (B7 hb);have bl:=rl b bm;apply%[by rw[B5,Paired.length pas];exact C8 (PV _ _) (by rw[K4];lia),leS.set rfl|?_];apply%[_,O,a,kvs,O,sx.rd rd1|λ ob Hy hy sy=>?_];have hcy:Hy c= ~~~(bV b):=sy.tps _ _ (sx.tps _ _ hcb);have rwy:RwsA Hy kvs rs:=hrw.keep λ x xs e=>sy.tps _ _ (sx.tps _ _ (s1 _ _ e));apply ur (λ j vs Hz=>Same Hy Hz/\vs=((bs.take j).map λ c=>jB b c).map V.bl) %[Same.refl _|rfl] (λ j vs Hz _ ⟨sz,_⟩=>sz _ _ hy) ?_ ?_ ?_
   ·rintro j kk v q vs Hz hj hq ⟨sz,rfl⟩;have hjn:=(A7.mp hj).1;obtain⟨r,hr,hk,_⟩:=J0 rwy hj;have hk:kk=bK r.1:=hk;have hbj:bs[j]?=some r.1:=by rw[hbs,J3,hr];rfl
    have rj:=rl r.1 (B7 hbj);rw[hk,dh]at hq;apply%[leS.set rfl|aI %[_,O,_,O,c,q,b,r.1,O,sz _ _ hcy,hq,⋯,⋯|λ H' s'=>Nx.of hjn %[sz.trans s'|?_]]];rw[K0,hbj,K8,J5,J5]
    rfl
   ·rintro j vs Hz hj ⟨_,rfl⟩;rw[B5,B5,K4];lia
   ·rintro vs Hz ⟨sz,rfl⟩;rw[K6 ⋯];apply%[by rw[B5,B5];lia|λ p hp=>%[p,_,O,G7 ah,_,O|?_]];have s9:Sf (· = a) H1 (upd Hz p (.lst ((bs.map λ c=>jB b c).map V.bl))):=(sx.trans sy).trans (Same.sf (sz.trans (G5 hp)));have t9:Tps Hx (upd Hz p (.lst ((bs.map λ c=>jB b c).map V.bl))):=λ x xs e=>(G5 hp) _ _ (sz _ _ (sy.tps _ _ e));apply bW (λ c1=>%[_,O|Nx.of hin %[s9,as ++ [c],by rw[J5];rfl|?_]]) (λ c1=>Nx.of hin %[s9,as,rfl|?_])
    ·rw[pn,PR,Qa (show gM bs b=true from c1),QB];exact Paired.app (pas.keep t9) (.cons (t9 _ _ (sx.tps _ _ hcb)) .nil)
    ·rw[pn,PR,QZ (show¬ gM bs b=true from c1),QB,N0];exact pas.keep t9
  ·rintro us Hx ⟨sx,as,rfl,pas⟩;rw[B5,al,M0]at pas;have pl:=E7 pas;rw[fin]at pas;apply%[by rw[B5,pl];exact C7 (PV _ _) ⋯|λ p hp=>?_];apply aK hp λ H2 k2 s2=>?_;exact hR p as _ k2 (pas.keep (Same.tps s2)) ((Same.sf s1).trans (sx.trans (Same.sf s2)))
 rintro gl as H1 hgl pas s1;have rd1:=s1.rd ha;have rw1:=hrw.keep s1.tps;have tl:(eW bs).length<=bs.length:=C7 (PV _ _) ⋯;have tnd:=dM rnd;have al:=E7 pas;apply%[_,O,gl,O,%[_|G7 hgl]|qS (K:=K) hgl (λ i QW Hx=>Same H1 Hx/\QW.length=i/\(∀r∈QW,Hx r.1= ~~~(r.2.1.map kV))/\RwsA Hx (kvR QW) (((eW bs).take i).map λ b=>(b,iI rs b))) (λ i QW Hx _ h9=>by obtain⟨sx,_,hr,_⟩:=h9;exact%[sx _ _ hgl|hr]) ⟨Same.refl _,O,(λ r hr=>by cases hr),.nil⟩ ?_ ?_]
 ·rintro i x QW Hx hi ⟨sx,rl1,hr,pr⟩;have hin:=(A7.mp hi).1;rw[B5]at hin;rw[J3]at hi;obtain⟨c,hc,rfl⟩:=J9.mp hi;obtain⟨b,hb,hcb⟩:=J0 pas hc;have bm:b∈bs:=(mem_topB.mp (B7 hb)).1;obtain⟨v,hv,hst⟩:=rw1.get (by rw[<- hbs];exact bm);have hcx:Hx c= ~~~((bK b).map kV):=by rw[dh];exact sx _ _ hcb
  have tk:(eW bs).take (i+1)=(eW bs).take i ++ [b]:=by rw[K0,hb];rfl
  apply%[⋯,leS.set rfl|aI %[_,O,_,O,_,O,a,v,O,hv ▸ DGet.r ((Same.sf (F:=(· = a)) sx).rd rd1) hcx,c,bK b,O,hcx,?_|NxD.of (by rw[B5];exact hin) %[sx,by rw[J7,rl1];rfl,λ r hr'=>?_|?_]]]
  ·intro hm;have ek':=pr.keys;have:QW.map (·.2.1)=(kvR QW).map (·.1):=by unfold kvR;rw[N7];rfl
   rw[this,ek',N7,N7]at hm;obtain⟨d,hd,e⟩:=J6.mp hm;have:d=b:=jg e;subst this;obtain⟨k,hk1,hk2⟩:=List.getElem_of_mem hd;rw[List.getElem_take]at hk2;rw[K4]at hk1;have hbb:=(A7.mp hb).2;have hbl:=(A7.mp hb).1;have:=(List.getElem_inj (h₀:=show k < (eW bs).length by lia) (h₁:=hbl) tnd).mp (hk2.trans hbb.symm);lia
  ·rcases C4.mp hr' with h | h
   ·exact hr r h
   ·rw[E6.mp h];exact hcx
  ·rw[tk,J5,show kvR (QW ++ [(c,bK b,v)])=kvR QW ++ [(bK b,v)]by unfold kvR;rw[J5];rfl];exact Paired.app pr (.cons %[O|hst.keep (Same.tps sx)] .nil)
 ·rintro QW Hx ⟨sx,rl1,hr,pr⟩;rw[B5]at rl1 pr;rw[al,M0]at pr;apply%[⋯|λ d hd=>?_];have hdH:H d=none:=(s1.trans (Same.sf sx)).free hd;apply q d _ _ hdH ah ?_ ((s1.trans (Same.sf sx)).trans (Same.sf (G5 hd)));unfold jC;rw[<- hbs];exact pr.keep (Same.tps (G5 hd))
def kP(b:Int)(ks:QT Kd)(fa:QP)(H:Hp)(ss:QT ((Int×Int)×V)):Prop:=∀q v,(q,v)∈ss->∃d kvs,v=.ref d/\d≠fa/\Rd H d (.dT kvs)/\RwsA H kvs (gB b ks q)
abbrev FdS(ss:QT ((Int×Int)×V)):QP->Prop:=λ a=>∃q,(q,V.ref a)∈ss
theorem RwsA.set{H:Hp}{kvs:QT (QT Key×V)}{rs:Rws}{b:SW}{t:Stp}{v':V}(h:RwsA H kvs rs)(e:de kvs (bK b)=some v'):hJ rs (b,t)=rs:=by unfold hJ;apply Qa (Q0 λ z=>?_);rw[h.no z]at e;cases e
theorem RwsA.put{H:Hp}{kvs:QT (QT Key×V)}{rs:Rws}{b:SW}{t:Stp}{v:V}(h:RwsA H kvs rs)(s:StA H v t)(e:de kvs (bK b)=none):RwsA H (eI kvs (bK b) v) (hJ rs (b,t)):=by rw[oq v e];unfold hJ;rw[QZ (λ z=>by obtain⟨v',h1,_⟩:=h.get z;rw[e]at h1;cases h1)];exact Paired.app h (.cons %[O|s] .nil)
def GR(ks:QT Kd)(rs:Rws):Prop:=(rs.map (·.1)).Nodup/\∀x∈rs.map (·.1),InB (wsK ks) x
theorem GR.put{ks:QT Kd}{rs:Rws}{r:SW×Stp}(h:GR ks rs)(i:InB (wsK ks) r.1):GR ks (hJ rs r):=%[kL h.1|λ x hx=>(putN_keys.mp hx).elim (h.2 x) λ e=>e ▸ i]
theorem GR.few{ks:QT Kd}{rs:Rws}(h:GR ks rs)(kw:∀k∈ks,0<=k.wa)(w6:(wsK ks).sum<=6):rs.length<=64:=by have:=InB.few (ws0 kw) w6 h.1 h.2;rw[B5]at this;exact this
theorem GR.zero{ks:QT Kd}(kw:∀k∈ks,0<=k.wa):GR ks (fG ks):=by apply%[by simp[fG]|λ x hx=>?_];simp only[fG,J8,N3,E6]at hx;rw[hx,show ks.length=(wsK ks).length from(B5 _).symm];exact InB.zero (ws0 kw)
def StI(st:QP)(ks:QT Kd)(H:Hp)(rs:Rws):Prop:=∃kvs,H st=some (.dT kvs)/\RwsA H kvs rs/\GR ks rs
theorem StI.same{st:QP}{ks:QT Kd}{H H':Hp}{rs:Rws}(s:Same H H'):StI st ks H rs->StI st ks H' rs
 | ⟨kvs,h1,h2,h3⟩=>%[kvs,s _ _ h1,h2.keep (Same.tps s)|h3]
theorem StI.sf{F:QP->Prop}{st:QP}{ks:QT Kd}{H H':Hp}{rs:Rws}(s:Sf F H H')(n:¬ F st):StI st ks H rs->StI st ks H' rs
 | ⟨kvs,h1,h2,h3⟩=>%[kvs,s.not n h1,h2.keep s.tps|h3]
theorem ph{F:QP->Prop}{st ka:QP}{ks:QT Kd}{H:Hp}{rs:Rws}{b':SW}{t:Stp}{v:V}{Q:VK}(kw:∀k∈ks,0<=k.wa)(w6:(wsK ks).sum<=6)(hI:StI st ks H rs)(hk:H ka= ~~~(bV b'))(ib:InB (wsK ks) b')(ha:StA H v t)
  (hq:∀v' H',StI st ks H' (hJ rs (b',t))->Sg F st H H'->Q v' H'):xI (.ref st) [.ref ka,v] H Q:=by
 obtain⟨kvs,h1,h2,h3⟩:=hI;have z4:4096<=sizeLine:=∅
 have l1:=h3.few kw w6;have l2:=E7 h2;apply%[st,ka,v,kvs,bK b',O,O,h1,by rw[dh];exact hk,⋯,λ v' hv'=>hq _ _ %[kvs,h1,?_|h3.put ib] (Sg.refl _)|λ hn=>hq _ _ %[_,ah,(h2.put ha hn).keep (Sg.put (F:=F) h1).tps|h3.put ib] (Sg.put h1)];rw[h2.set hv'];exact h2
def iK(b:Int)(ks:QT Kd):Prop:=0<=b/\1<=ks.length/\ks.length<=8/\(∀k∈ks,0<=k.wa)/\(wsK ks).sum<=6
def sM(C:QP):Sp:=λ vs H Q _=>∃(s t fa:QP)(b:Int)(ks:QT Kd)(p:Int×Int)(ss:QT ((Int×Int)×V)),vs=[.ref s,.ref t,.ref fa]/\ShopAt C H s b ks/\iK b ks/\H t= ~~~[.int p.1,.int p.2]/\1<=p.1/\p.1<=8/\1<=p.2/\p.2<=8 /\
 H fa=some (.dT (byP ss))/\kP b ks fa H ss/\(∀c∈cf b p.1 p.2,dg p.1 p.2 c∈ss.map (·.1)/\du b p.1 p.2 c∈ss.map (·.1)) /\
 ∀(d:QP)(kvs:QT (QT Key×V))(H':Hp),H d=none->H' d=some (.dT kvs)->RwsA H' kvs (bt b ks (gB b ks) p)->Sf (FdS ss) H H'->Q (.ref d) H'
theorem scsteps:FnScope Rn Ro (defScope cL):=nofun
theorem yi{f:QP}{fd:G2}(F:Fun K "steps_of_part" "steps_of_part" cL f fd){C:QP}(B:Blt mg)(Z:BeC mg)(T:ShopTxt K C)(MW:Mn P w K mg base C "wanted" RV 1 (dG C))(MB:Mn P w K mg base C "blade" RV 1 (jF C))(DLI:Dn P w K mg base "lyings_in" Ra 5 ((spLyIn C)))(DB1:Dn P w K mg base "bundle_of_one" Rh 1 (xY))(DJ:Dn P w K mg base "joined" Ri 1 (xZ))(DCU:Dn P w K mg base "cuts_of" Rg 2 (spCuts)):FnOk P w K mg base CX0 6 f fd Ro (sM C):=by
 exists scsteps;apply br λ G9 k9=>?_;obtain⟨s,t,fa,b,ks,p,ss,rfl,S0,⟨b0,k1,k8,kw,w6⟩,ht,p1,p8,h1,h8,hfa,fok,cin,q⟩:=h;apply k9 ?_;have hu:=hr.units;have hu1:=C8 (PB (show 1<=64 by decide) _) hu;obtain⟨trs,hrs⟩:=Z.rs;obtain⟨tpc,hpc⟩:=Z.pc;apply%[_,((3∣(eA '0' T.cl MW (hr.mono ∅)))<<<((4∣(lX (Nat.lt_of_succ_lt hu1) (@aU _ _ _ _ _ _ _ _ _ aL O B.tuple Qg ((aY (own:=["many"]) (cs:=[]) (cap:=[]) O (jS '3') (aD (sc:=defScope cL) (N:=Rn) O O ∅) (λ _ _ _ _ _=>aj (i:=0) (by show List.Nodup (["many"]:QT Str) ;decide +kernel) O (Or.inl O) (Or.inr O)) (λ _ _ _ _ _=>aH) (λ _ _ _ _ _=>ag))^^^ae) ∅ ∅ O O) (@aJ _ _ _ _ _ ((bU (v:=.str "rest") O hrs %[trs|O])^^^ae))))<<<((@bE _ _ _ _ _ _ _ _ E8 O (bC (DLI∪('0'^^^('1'^^^ae)))) (bn O (5•(6•aR))) (@ai _ _ _ ((('3'&&&ix_tup&&&'5')<*>cV<*>ag)<|>(@ai _ _ _ (@bj _ _ _ _ (@fS _ _ _ _ _ _ _ _ _ _ _ _ PySem.F.plainAttrs_dict RA PySem.F.type_dict_setdefault (gY hu1) '4' ((DB1∩('3'^^^('5'^^^ae)))^^^((@aJ _ _ _ _ _ ((bU (v:=.str "piece") O hpc %[tpc|O])^^^('5'^^^('6'^^^(ag^^^(ag^^^ae))))))^^^ae)) O O O O O) O))<|>aE)) (by intro _;rfl))<<<((@bE _ _ _ _ _ _ _ _ E8 O (bC (DCU∩((eA '0' T.cl MB (hr.mono ∅))^^^('1'^^^ae)))) (bn O (7•(8•(9•(10•aR))))) (@ai _ _ _ (@bE _ _ _ _ _ _ _ _ E8 O (kI (dS hu1 '2' '9' (λ _ _=>O))) (aj (i:=11) nd O (Or.inl O)) (@ai _ _ _ (@bE _ _ _ _ _ _ _ _ E8 O (kI (dS hu1 '2' ':' (λ _ _=>O))) (aj (i:=12) nd O (Or.inl O)) (@ai _ _ _ (@bj _ _ _ _ (@fS _ _ _ _ _ _ _ _ _ _ _ _ PySem.F.plainAttrs_dict RA PySem.F.type_dict_setdefault (gY hu1) '4' ((DJ∩(';'^^^('<'^^^('3'^^^ae))))^^^((@aJ _ _ _ _ _ ('7'^^^('8'^^^((@aJ _ _ _ _ _ ('9'^^^(';'^^^ae)))^^^((@aJ _ _ _ _ _ (':'^^^('<'^^^ae)))^^^ae)))))^^^ae)) O O O O O) O)) (by intro _;rfl))) (by intro _;rfl))) (by intro _;rfl))<<<('4'⁻¹)))))|?_];dsimp only[bL];have z4:4096<=sizeLine:=∅
 obtain⟨dx,r0,rs0,g1,g2,g3⟩:=id S0;have wl:(wsK ks).length=ks.length:=B5 _;have kw0:=ws0 kw;apply av (λ R=>∀(wt:QP)(H':Hp),H' wt= ~~~(bV (wsK ks))->Same H H'->R [↑s,↑t,↑fa,↑wt,none,none,none,none,none,none,none,none,none] H') (λ Dd hR=>?_) ?_
 ·apply%[_,O,s,dx,_,O,g1,bP _ _ ∅ ∅,s,b,ks,O,S0,k8|λ wt H1 _ h1 s1=>hR wt _ ?_ s1];rw[h1,bV,N7];rfl
 rintro wt H1 hwt s1;have wvl:(bV (wsK ks)).length=ks.length:=by rw[bV,B5,wl]
 apply av (λ R=>∀(st:QP)(kvs:QT (QT Key×V))(H':Hp),H1 st=none->H' st=some (.dT kvs)->RwsA H' kvs (fG ks)->Same H1 H'->R [↑s,↑t,↑fa,↑wt,↑st,none,none,none,none,none,none,none,none] H') (λ Dd hR=>?_) ?_
 ·intro st hst;apply aK hst λ H2 k2 s2=>?_;have hw2:=s2 _ _ hwt;apply%[_,O,wt,O,%[_|G6 hw2]|(bS (K:=K) (.inr hw2) (λ i us Hx=>Same H2 Hx/\us=bV (aB i)) (λ i us Hx _ ⟨sx,_⟩ o e=>sx _ _ e) %[Same.refl _|O] ?_ ?_).2 hw2]
  ·rintro i x us Hx hi ⟨sx,rfl⟩;have hin:=(A7.mp hi).1;rw[wvl]at hin;apply%[by rw[bV,aB,B5,K7];lia,leS.set rfl|aI (show Nx (bV (wsK ks)).length (λ i us Hx=>Same H2 Hx/\us=bV (aB i)) i (bV (aB i) ++ [V.int 0]) Hx from Nx.of (by rw[wvl];exact hin) %[sx|?_])];rw[aB,aB,bV,bV,List.replicate_succ',J5];rfl
  ·rintro us Hx ⟨sx,rfl⟩;rw[wvl];apply%[by rw[bV,aB,B5,K7];lia|λ cl hcl=>?_];apply aK hcl λ H3 k3 s3=>?_;apply%[cl,_,O|.inl %[G7 k3|λ kt hkt=>?_]];apply aK hkt λ H4 k4 s4=>?_;apply%[zS1|λ vt hvt=>?_];apply aK hvt λ H5 k5 s5=>?_;have h5:H5 st=some (.dT []):=s5 _ _ (s4 _ _ (s3 _ _ (sx _ _ k2)));have e5:H5 kt= ~~~((bK (aB ks.length)).map kV):=by rw[dh];exact s5 _ _ k4
   apply%[h5,kt,bK (aB ks.length),O,e5|hR st _ _ hst ah (.cons %[O,vt,O|?_] .nil) (λ c o e=>?_)]
   ·rw[am (λ z=>by rw[z,h5]at k5;cases k5)];exact k5
   ·rw[am (ak e hst)];exact s5 _ _ (s4 _ _ (s3 _ _ (sx _ _ (s2 _ _ e))))
 rintro st kvs0 H2 hst1 hst rw0 s2;have hstH:H st=none:=s1.free hst1;have nfa:¬ FdS ss fa:=λ⟨q',m⟩=>by obtain⟨d,_,e,n,_⟩:=fok q' _ m;cases e;exact n rfl
 have fnst:fa≠st:=ak hfa hstH;have s02:=s1.trans s2;have in0:StI st ks H2 (fG ks):=%[kvs0,hst,rw0|GR.zero kw]
 have nst:¬ FdS ss st:=λ⟨q',m⟩=>by obtain⟨d,kv,e,_,rd,_⟩:=fok q' _ m;cases e;rcases rd with z | ⟨_,z⟩ <;> rw[hstH]at z <;> cases z
 apply av (λ R=>∀(v5 v6:QR V)(H':Hp),StI st ks H' (ft (fG ks) (lyC ks p))->Sg (FdS ss) st H2 H'->R [↑s,↑t,↑fa,↑wt,↑st,v5,v6,none,none,none,none,none,none] H') (λ Dd hR=>?_) ?_
 ·have S2:=S0.keep (λ c o e=>s02 _ _ e) (λ c C' d fs e=>s02 _ _ e);apply%[_,O,_,O,s,t,b,ks,p.1,p.2,O,S2,k8,s02 _ _ ht|λ ll ys H3 _ hll pys s3=>?_];obtain⟨ly,ely⟩:∃ly,ly=(lyK ks 0).filter (cO ks p.1 p.2):=%[_|O]
  rw[<- ely]at pys;have yl:=E7 pys;apply%[ll,O,%[_|G7 hll]|cU (xs:=ys) (λ i σ' H'=>∃(v5 v6:QR V),σ'=[↑s,↑t,↑fa,↑wt,↑st,v5,v6,none,none,none,none,none,none]/\StI st ks H' (ft (fG ks) ((ly.take i).flatMap (lyR ks)))/\Sg (FdS ss) st H3 H') %[none,none,O,in0.same s3|Sg.refl _] (λ i σ Hx _ h9=>by obtain⟨_,_,_,_,sx⟩:=h9;exact G7 (sx.lst hll)) ?_ ?_]
  ·rintro i x σ Hx hi ⟨v5,v6,rfl,inx,sx⟩;obtain⟨qq,hq,ta,rfl,hta⟩:=J0 pys hi;have qm:=B7 hq;have qk:∃k,ks[qq.1]?=some k:=(nF (PJ.mp (ely ▸ qm)).1).2;obtain⟨k,hk⟩:=qk;have tk:(ly.take (i+1)).flatMap (lyR ks)=(ly.take i).flatMap (lyR ks) ++ lyR ks qq:=by rw[K0,hq,K8,Pw,PN,List.flatMap_nil,N0]
   have wk:waA ks qq.1=k.wa:=by unfold waA;rw[hk];rfl
   have hwx:Hx wt= ~~~(bV (wsK ks)):=sx.tps _ _ (s3 _ _ (s2 _ _ hwt));have hat:(bV (wsK ks))[qq.1]? = ⇑k.wa:=by rw[bV,J3,J3,hk];rfl
   apply%[ta,_,O,G6 (sx.tps _ _ hta),O,_,_,O,_,_,O,O|?_];apply%[_,O,_,O,wt,_,_,_,O,O,G6 hwx,mM hat,_,_,O,O,_,O|?_];apply bW (λ c1=>?_) (λ c1=>?_)
   ·have c1':0 < k.wa:=C2 c1;have lr:lyR ks qq=[(bO ks.length qq.1,.piece qq.1 qq.2)]:=by unfold lyR;rw[wk,Qa c1']
    apply%[_,O,.inr (.inr (.inl %[O|.inr (let ⟨kv,h,_⟩:=inx;%[kv|h])])),_,O,_,O,wt,wsK ks,(qq.1:Int),O,hwx,⋯|λ ka H4 hka s4=>?_];rw[wl]at hka;apply%[_,O,_,O,zS5|λ va hva=>?_];apply aK hva λ H5 k5 s5=>?_;apply ph (F:=FdS ss) kw w6 (inx.same (s4.trans s5)) (s5 _ _ hka) (ye kw (q:=qq) (r:=(bO ks.length qq.1,.piece qq.1 qq.2)) (by rw[lr];exact E6.mpr rfl)) (t:=.piece qq.1 qq.2) %[va,rfl|k5] λ v' H6 in6 s6=>%[_,_,O,?_|(sx.trans (Same.sg (s4.trans s5))).trans s6]
    rw[tk,lr,iG];exact in6
   ·have lr:lyR ks qq=[]:=by unfold lyR;rw[wk,QZ (λ z=>c1 (Qb z))]
    apply%[_,_,O,?_|sx];rw[tk,lr,N0];exact inx
  ·rintro σ Hx ⟨v5,v6,rfl,inx,sx⟩;rw[K6 ⋯,ely]at inx;exact hR v5 v6 _ inx ((Same.sg s3).trans sx)
 rintro v5 v6 H3 in3 s3;obtain⟨R0,eR0⟩:∃R0,R0=ft (fG ks) (lyC ks p):=%[_|O]
 rw[<- eR0]at in3;have s03:Sg (FdS ss) st H H3:=(Same.sg s02).trans s3;apply av (λ R=>∀(v7 v8 v9 v10 v11 v12:QR V)(H':Hp),StI st ks H' (bt b ks (gB b ks) p)->Sg (FdS ss) st H H'->R [↑s,↑t,↑fa,↑wt,↑st,v5,v6,v7,v8,v9,v10,v11,v12] H') (λ Dd hR=>?_) ?_
 ·apply%[_,O,s,dx,_,O,s03.ins g1,bP _ _ ∅ ∅,s,b,ks,O,S0.keep s03.tps (λ _ _ _ _ e=>s03.ins e)|?_];apply%[_,O,b,p.1,p.2,t,O,s03.tps _ _ ht,⋯,⋯,b0|λ cl cy H4 hcl pc s4=>?_];have s04:Sg (FdS ss) st H H4:=s03.trans (Same.sg s4);have cyl:=E7 pc;have wt4:H4 wt= ~~~(bV (wsK ks)):=s4 _ _ (s3.tps _ _ (s2 _ _ hwt));apply%[cl,O,%[_|G7 hcl]|cU (xs:=cy) (λ i σ' H'=>∃(v7 v8 v9 v10 v11 v12:QR V),σ'=[↑s,↑t,↑fa,↑wt,↑st,v5,v6,v7,v8,v9,v10,v11,v12]/\StI st ks H' (ft R0 (((cf b p.1 p.2).take i).flatMap (oZ b ks (gB b ks) p)))/\Sg (FdS ss) st H4 H') %[none,none,none,none,none,none,O,in3.same s4|Sg.refl _] (λ i σ Hx _ h9=>by obtain⟨_,_,_,_,_,_,_,_,sx⟩:=h9;exact G7 (sx.lst hcl)) ?_ ?_]
  ·intro i x σ Hx hi hI9;apply br λ G9 k9=>?_;obtain⟨v7,v8,v9,v10,v11,v12,rfl,inx,sx⟩:=hI9;apply k9 ?_;obtain⟨c,hc,ta,t1,t2,rfl,hta,ht1,ht2⟩:=J0 pc hi;have cm:=B7 hc;obtain⟨m1,m2⟩:=cin c cm;obtain⟨w1,hv1,hm1⟩:=gC m1;obtain⟨w2,hv2,hm2⟩:=gC m2;obtain⟨d1,kv1,rfl,nd1,rd1,rw1⟩:=fok _ _ hm1;obtain⟨d2,kv2,rfl,nd2,rd2,rw2⟩:=fok _ _ hm2;have n1:d1≠st:=λ z=>nst (z ▸ %[_|hm1]);have n2:d2≠st:=λ z=>nst (z ▸ %[_|hm2]);have s0x:Sg (FdS ss) st H Hx:=s04.trans sx;have hfx:Hx fa=some (.dT (byP ss)):=s0x.not fnst nfa hfa;have tk:((cf b p.1 p.2).take (i+1)).flatMap (oZ b ks (gB b ks) p)=((cf b p.1 p.2).take i).flatMap (oZ b ks (gB b ks) p) ++ oZ b ks (gB b ks) p c:=by rw[K0,hc,K8,Pw,PN,List.flatMap_nil,N0]
   obtain⟨R1,eR1⟩:∃R1,R1=ft R0 (((cf b p.1 p.2).take i).flatMap (oZ b ks (gB b ks) p)):=%[_|O]
   rw[<- eR1]at inx;apply%[ta,_,O,G6 (sx.tps _ _ hta),O,_,_,O,_,_,O,_,_,O,_,_,O,O|?_];apply%[_,O,_,O,fa,_,O,hv1 ▸ DGet.t (k:=pk (dg p.1 p.2 c)) hfx (sx.tps _ _ ht1),d1,kv1,O,s0x.rd n1 rd1|λ ob1 Hy hy1 sy=>?_];have sy':Sf (FdS ss) Hx Hy:=sy.mono λ a (e:a=d1)=>e ▸ %[_|hm1]
   have s0y:=s0x.trans sy'.sg;obtain⟨os,eos⟩:∃os,os=gK b ks (dg p.1 p.2 c):=%[_|O]
   obtain⟨us,eus⟩:∃us,us=gK b ks (du b p.1 p.2 c):=%[_|O]
   have r1l:kv1.length=os.length:=by rw[eos,gK,B5];exact E7 rw1
   have r2l:kv2.length=us.length:=by rw[eus,gK,B5];exact E7 rw2
   apply oF (λ j σ' H'=>∃(v11 v12:QR V),σ'=[↑s,↑t,↑fa,↑wt,↑st,v5,v6,some (wv c.1),⇑c.2,↑t1,↑t2,v11,v12]/\StI st ks H' (ft R1 ((os.take j).flatMap (uP b ks p c us)))/\Sg (FdS ss) st Hy H') %[v11,v12,rfl,inx.sf sy' nst|Sg.refl _] (λ j σ Hz _ h9=>by obtain⟨_,_,_,_,sz⟩:=h9;exact sz.frz hy1) ?_ ?_
   ·rintro j kk vv q1 σ Hz hj hq1 ⟨v11,v12,rfl,inz,sz⟩;obtain⟨ro,hro,hk1,_⟩:=J0 rw1 hj;have hoj:os[j]?=some ro.1:=by rw[eos,gK,J3,hro];rfl
    have hk1:kk=bK ro.1:=hk1;rw[hk1,dh]at hq1;have io:InB (wsK ks) ro.1:=bQ kw (eos ▸ B7 hoj);have s0z:=s0y.trans sz;have hfz:Hz fa=some (.dT (byP ss)):=s0z.not fnst nfa hfa;have tz:Tps H4 Hz:=λ a xs e=>sz.tps _ _ (sy'.tps _ _ (sx.tps _ _ e));have tkj:(os.take (j+1)).flatMap (uP b ks p c us)=(os.take j).flatMap (uP b ks p c us) ++ uP b ks p c us ro.1:=by rw[K0,hoj,K8,Pw,PN,List.flatMap_nil,N0]
    obtain⟨R2,eR2⟩:∃R2,R2=ft R1 ((os.take j).flatMap (uP b ks p c us)):=%[_|O]
    rw[<- eR2]at inz;apply%[_,O,_,O,fa,_,O,hv2 ▸ DGet.t (k:=pk (du b p.1 p.2 c)) hfz (tz _ _ ht2),d2,kv2,O,s0z.rd n2 rd2|λ ob2 Hu hu2 su=>?_];have su':Sf (FdS ss) Hz Hu:=su.mono λ a (e:a=d2)=>e ▸ %[_|hm2]
    apply oF (λ k σ' H'=>∃(v12:QR V),σ'=[↑s,↑t,↑fa,↑wt,↑st,v5,v6,some (wv c.1),⇑c.2,↑t1,↑t2,↑q1,v12]/\StI st ks H' (ft R2 ((us.take k).map (Ca b ks p c ro.1)))/\Sg (FdS ss) st Hu H') %[v12,rfl,inz.sf su' nst|Sg.refl _] (λ k σ Hv _ h9=>by obtain⟨_,_,_,sv⟩:=h9;exact sv.frz hu2) ?_ ?_
    ·rintro k kk2 vv2 q2 σ Hv hk' hq2 ⟨v12,rfl,inv,sv⟩;obtain⟨ru,hru,hk2,_⟩:=J0 rw2 hk';have huk:us[k]?=some ru.1:=by rw[eus,gK,J3,hru];rfl
     have hk2:kk2=bK ru.1:=hk2;rw[hk2,dh]at hq2;have iu:InB (wsK ks) ru.1:=bQ kw (eus ▸ B7 huk);have tv:Tps Hz Hv:=λ a xs e=>sv.tps _ _ (su'.tps _ _ e);have t4v:Tps H4 Hv:=λ a xs e=>tv _ _ (tz _ _ e);apply%[_,O,.inr (.inr (.inl %[O|.inr (let ⟨kv,h,_⟩:=inv;%[kv|h])])),_,O,_,O,_,O,q1,q2,wt,ro.1,ru.1,wsK ks,O,tv _ _ hq1,hq2,t4v _ _ wt4,by rw[io.1,iu.1],io.1,by rw[io.1,wl];exact k8|λ ka H5 hka s5=>?_];apply%[_,O,_,O,_,O,_,O,zS2|λ xa hxa=>?_];apply aK hxa λ H6 k6 s6=>?_;apply%[_,O,_,O,zS2|λ ya hya=>?_];apply aK hya λ H7 k7 s7=>?_;apply%[zS4|λ va hva=>?_];apply aK hva λ H8 kk8 s8=>?_;have s58:Same H5 H8:=(s6.trans s7).trans s8;have sv8:Same Hv H8:=s5.trans s58;apply ph (F:=FdS ss) kw w6 (inv.same sv8) (s58 _ _ hka) (InB.join kw0 io iu) (t:=.cut c.1 c.2 (dg p.1 p.2 c) ro.1 (du b p.1 p.2 c) ru.1) %[va,_,_,rfl,kk8,%[xa,t1,q1,rfl,s8 _ _ (s7 _ _ k6),sv8 _ _ (t4v _ _ ht1)|sv8 _ _ (tv _ _ hq1)]|%[ya,t2,q2,rfl,s8 _ _ k7,sv8 _ _ (t4v _ _ ht2)|sv8 _ _ hq2]] λ v' H9 in9 s9=>%[_,O,?_|(sv.trans (Same.sg sv8)).trans s9]
     rw[K0,huk,K8,J5,iG];exact in9
    ·rintro σ Hv ⟨v12,rfl,inv,sv⟩;apply%[_,_,O,?_|sz.trans (su'.sg.trans sv)];rw[tkj,iG,<- eR2];rw[r2l,M0]at inv;exact inv
   ·rintro σ Hz ⟨v11,v12,rfl,inz,sz⟩;apply%[_,_,_,_,_,_,O,?_|sx.trans (sy'.sg.trans sz)];rw[tk,iG,<- eR1];rw[r1l,M0]at inz;unfold oZ;rw[eos,eus]at inz;exact inz
  ·intro σ Hx hI9;apply br λ G9 k9=>?_;obtain⟨v7,v8,v9,v10,v11,v12,rfl,inx,sx⟩:=hI9;apply k9 ?_;apply hR v7 v8 v9 v10 v11 v12 _ ?_ (s04.trans sx);rw[K6 ⋯]at inx;unfold bt;rw[<- eR0];exact inx
 rintro v7 v8 v9 v10 v11 v12 H4 ⟨kvs,i1,i2,i3⟩ s4;exact%[_,O|q st kvs H4 hstH i1 i2 (s4.sf hstH)]
def kQ(C:QP):Sp:=λ vs H Q _=>∃(s:QP)(b:Int)(ks:QT Kd)(m n:Nat),vs=[.ref s,.int m,.int n]/\ShopAt C H s b ks/\iK b ks/\1<=m/\m<=8/\1<=n/\n<=8 /\
 ∀(fa:QP)(ss:QT ((Int×Int)×V))(H':Hp),H fa=none->H' fa=some (.dT (byP ss))->ss.map (·.1)=aQ m n->kP b ks fa H' ss->(∀a,FdS ss a->H a=none)->Same H H'->Q (.ref fa) H'
def LsA(H H':Hp)(v:V)(bs:SX):Prop:=∃l as,v=.ref l/\H l=none/\H' l=↥(as.map V.ref)/\BsA H' as bs
def pi(C:QP):Sp:=λ vs H Q _=>∃(s:QP)(b:Int)(ks:QT Kd)(m n:Nat),vs=[.ref s,.int m,.int n]/\ShopAt C H s b ks/\iK b ks/\1<=m/\m<=8/\1<=n/\n<=8 /\
 ∀(ta:QP)(ll:QT ((Int×Int)×V))(H':Hp),H ta=none->H' ta=some (.dT (byP ll))->ll.map (·.1)=aQ m n->(∀q v,(q,v)∈ll->LsA H H' v (gK b ks q))->Same H H'->Q (.ref ta) H'
theorem scgreats:FnScope ["shop","wide","high","found","part"] Rc (defScope cM):=nofun
theorem uQ{f:QP}{fd:G2}(F:Fun K "greatest_steps" "greatest_steps" cM f fd){C:QP}(B:Blt mg)(DPU:Dn P w K mg base "parts_up_to" RX 1 (spParts))(DST:Dn P w K mg base "steps_of_part" Ro 6 ((sM C)))(DAL:Dn P w K mg base "greatest_alone" Rm 2 (sL)):FnOk P w K mg base CX0 7 f fd Rc (kQ C):=by
 exists scgreats;apply br λ G9 k9=>?_;obtain⟨s,b,ks,m,n,rfl,S0,⟨b0,k1',k8,kw,w6⟩,m1,m8,n1,n8,q⟩:=h;apply k9 ?_;have hu:=hr.units;have hu1:=C8 (PB (show 1<=64 by decide) _) hu;apply%[_,((3∣oz)<<<((@bE _ _ _ _ _ _ _ _ E8 O (bC (DPU∩('1'^^^('2'^^^ae)))) (aj (i:=4) nd O (Or.inl O)) (@ai _ _ _ (zU hu1 '3' '4' (DAL∩((DST∪('0'^^^('4'^^^('3'^^^ae))))^^^ae)) O)) (by intro _;rfl))<<<('3'⁻¹)))|?_];dsimp only[bL];have z4:4096<=sizeLine:=∅
 have wl:(wsK ks).length=ks.length:=B5 _;apply av (λ R=>∀(fa:QP)(H':Hp),H fa=none->H' fa=some (.dT [])->Same H H'->R [↑s,⇑m,⇑n,↑fa,none] H') (λ Dd hR=>?_) ?_
 ·intro fa hfa;apply aK hfa λ H1 k1 s1=>?_;exact hR fa _ hfa k1 s1
 rintro fa H1 hfa k1 s1;apply av (λ R=>∀(ss:QT ((Int×Int)×V))(v4:QR V)(H':Hp),H' fa=some (.dT (byP ss))->ss.map (·.1)=aQ m n->kP b ks fa H' ss->((∀a,FdS ss a->H a=none))->Same H H'->R [↑s,⇑m,⇑n,↑fa,v4] H') (λ Dd hR=>?_) ?_
 ·apply%[_,O,_,O,m,n,O,⋯,⋯|λ pl ys H3 hpl pys s3=>?_];have pln:=E7 pys;have p64:(aQ m n).length<=64:=by rw[fq];exact P0 m8 n8
  have s13:=s1.trans s3;apply%[pl,O,%[_|G7 hpl]|cU (xs:=ys) (λ i σ' H'=>∃(ss:QT ((Int×Int)×V))(v4:QR V),σ'=[↑s,⇑m,⇑n,↑fa,v4]/\H' fa=some (.dT (byP ss))/\ss.map (·.1)=(aQ m n).take i/\kP b ks fa H' ss/\(∀a,FdS ss a->H a=none)/\Sg (λ a=>H a=none) fa H3 H') ⟨[],none,O,s3 _ _ k1,O,(λ q v h=>by cases h),(λ a ⟨q,h⟩=>by cases h),Sg.refl _⟩ (λ i σ Hx _ h9=>by obtain⟨_,_,_,_,_,_,_,sx⟩:=h9;exact G7 (sx.lst hpl)) ?_ ?_]
  ·intro i x σ Hx hi hI9;apply br λ G9 k9=>?_;obtain⟨ss,v4,rfl,hfx,es,fok,fnw,sx⟩:=hI9;apply k9 ?_;obtain⟨p,hp,ta,rfl,hta⟩:=J0 pys hi;have pm:=B7 hp;obtain⟨⟨p1,p2⟩,p3,p4⟩:=partsL_mem.mp pm;have pnew:=qW hp;have sl:ss.length<=64:=by have:=Qu List.length es;rw[B5,K4]at this;lia
   have cutIn:∀c∈cf b p.1 p.2,dg p.1 p.2 c∈ss.map (·.1)/\du b p.1 p.2 c∈ss.map (·.1):=λ c hc=>by obtain⟨⟨a1,a2,a3,a4,a5,_⟩,⟨c1,c2,c3,c4,c5,_⟩⟩:=ge b0 p1 p3 hc;rw[es];exact%[jv hp (partsL_mem.mpr %[%[a1|⋯],a2|⋯]) a5|jv hp (partsL_mem.mpr %[%[c1|⋯],c2|⋯]) c5]
   have s0x:Sg (λ a=>H a=none) fa H Hx:=(Same.sg s13).trans sx;have tx:Hx ta= ~~~[.int p.1,.int p.2]:=sx.tps _ _ hta;apply%[_,O,_,O,_,O,s,ta,fa,b,ks,p,ss,O,S0.keep s0x.tps (λ _ _ _ _ e=>s0x.ins e),%[b0,k1',k8,kw|w6],tx,p1,⋯,p3,⋯,hfx,fok,cutIn|λ st kvs H4 hst h4 rw4 s4=>?_];have nfa:¬ FdS ss fa:=λ⟨q',mq⟩=>by obtain⟨d,_,e,nn,_⟩:=fok q' _ mq;cases e;exact nn rfl
   have inR:∀x∈(bt b ks (gB b ks) p).map (·.1),InB (wsK ks) x:=λ x hx=>gE kw (λ c _=>%[λ r hr=>kO kw hr|λ r hr=>kO kw hr]) hx;have few:=InB.few (ws0 kw) w6 (bY b ks (gB b ks) p) inR;rw[B5]at few;apply%[st,ks.length,kvs,_,O,.inl h4,rw4,bY _ _ _ _,λ x hx=>by rw[(inR x hx).1,wl],k1',k8,few,InB.full (ws0 kw) w6 (bY b ks (gB b ks) p) inR|λ d kv5 H5 hd h5 rw5 s5=>?_];rw[<- yd b0 p p1 p3]at rw5;have n1:fa≠st:=ak hfx hst;have f4:H4 fa=some (.dT (byP ss)):=s4.not nfa hfx;have f5:H5 fa=some (.dT (byP ss)):=s5.not n1 f4;have dn:Hx d=none:=s4.free hd;have nd:d≠fa:=(ak hfx dn).symm;have dH:H d=none:=by
    cases e:H d with
    | none=>rfl
    | some o=>
     rcases s0x _ _ e with z | ⟨z,_⟩ | ⟨z,_⟩
     ·rw[dn]at z;cases z
     ·rw[z]at e;cases e
     ·exact absurd z nd
   have stH:H st=none:=by
    cases e:H st with
    | none=>rfl
    | some o=>
     rcases s0x _ _ e with z | ⟨z,_⟩ | ⟨z,_⟩
     ·rw[hst]at z;cases z
     ·rw[z]at e;cases e
     ·exact absurd z.symm n1
   have s45:Sf (λ a=>H a=none) Hx H5:=(s4.mono λ a h=>fnw a h).trans (s5.mono λ a (h:a=st)=>h ▸ stH);apply%[_,O,_,O,fa,_,O,DPut.t (k:=pk p) f5 (s45.tps _ _ tx) (by unfold byP;rw[B5];lia),ss ++ [(p,.ref d)],_,O,?_,?_,?_,?_|(sx.trans s45.sg).trans (Sg.put f5)]
   ·rw[Aq (by rw[es];exact pnew)];exact ah
   ·rw[J5,es,K0,hp];rfl
   ·intro q' v' hm;have kt:Tps H5 (upd H5 fa (.dT (eI (byP ss) (pk p) (V.ref d)))):=(Sg.put (F:=λ _=>False) f5).tps;rcases C4.mp hm with hm | hm
    ·obtain⟨d',kv',rfl,nn,rd,rw'⟩:=fok q' v' hm;apply%[d',kv',O,nn,?_|(rw'.keep s45.tps).keep kt];exact(Sg.put (F:=λ _=>False) f5).rd nn (s45.rd rd)
    ·rw[E6]at hm;cases hm;exact%[d,kv5,O,nd,.inl (by rw[am nd];exact h5)|rw5.keep kt]
   ·rintro a ⟨q',hm⟩;rcases C4.mp hm with hm | hm
    ·exact fnw a %[q'|hm]
    ·rw[E6]at hm;cases hm;exact dH
  ·intro σ Hx hI9;apply br λ G9 k9=>?_;obtain⟨ss,v4,rfl,hfx,es,fok,fnw,sx⟩:=hI9;apply k9 ?_;rw[K6 ⋯]at es;apply hR ss v4 _ hfx es fok fnw ?_;exact Sf.same (Same.refl _) (((Same.sg s13).trans sx).sf hfa) (λ _ h=>h)
 rintro ss v4 H2 h2 es fok fnw s2;exact%[_,O|q fa ss H2 hfa h2 es fok fnw s2]
theorem scgreatb:FnScope ["shop","wide","high","found"] Rc (defScope bG):=nofun
theorem uR{f:QP}{fd:G2}(F:Fun K "greatest_bundles" "greatest_bundles" bG f fd){C:QP}(B:Blt mg)(DCK:Dn P w K mg base "check_small" Rc 3 ((xX C)))(DGS:Dn P w K mg base "greatest_steps" Rc 7 ((kQ C))):FnOk P w K mg base CX0 8 f fd Rc (pi C):=by
 exists scgreatb;apply br λ G9 k9=>?_;obtain⟨s,b,ks,m,n,rfl,S0,⟨b0,k1',k8,kw,w6⟩,m1,m8,n1,n8,q⟩:=h;apply k9 ?_;have hu:=hr.units;have hu1:=C8 (PB (show 1<=64 by decide) _) hu;apply%[_,((@bj _ _ _ _ (DCK∩('0'^^^('1'^^^('2'^^^ae)))) O)<<<((3∣(DGS∪('0'^^^('1'^^^('2'^^^ae)))))<<<((oO (own:=["part","steps"]) (cs:=[]) (cap:=[]) O hu1 (oG '3') (aD (sc:=defScope bG) (N:=["shop","wide","high","found"]) O O ∅) (λ _ _ _ _ _=>cQ K O O (by show List.Nodup (["part","steps"]:QT Str) ;decide +kernel) O O O O) (λ _ _ _ _ _=>aH) (λ _ _ _ _ _=>'0') (λ _ _ _ _ _=>(@aU _ _ _ _ _ _ _ _ _ (kH O) O B.list PyProof.Rows.boot_list ('1'^^^ae) ∅ ∅ O O)))⁻¹)))|?_];have z4:4096<=sizeLine:=∅
 apply av (λ R=>∀(H':Hp),Same H H'->R [↑s,⇑m,⇑n,none] H') (λ Dd hR=>?_) ?_
 ·exact%[_,O,_,O,_,O,s,b,m,n,ks,O,S0,k8,⋯,⋯,⋯,⋯,w6|λ H' s'=>hR _ s']
 rintro H1 s1;apply av (λ R=>∀(fa:QP)(ss:QT ((Int×Int)×V))(H':Hp),H1 fa=none->H' fa=some (.dT (byP ss))->ss.map (·.1)=aQ m n->kP b ks fa H' ss->Same H1 H'->R [↑s,⇑m,⇑n,↑fa] H') (λ Dd hR=>?_) ?_
 ·exact%[_,O,_,O,_,O,s,b,ks,m,n,O,S0.keep (λ _ _ e=>s1 _ _ e) (λ _ _ _ _ e=>s1 _ _ e),%[b0,k1',k8,kw|w6],m1,m8,n1,n8|λ fa ss H' a1 a2 a3 a4 _ a6=>hR fa ss _ a1 a2 a3 a4 a6]
 rintro fa ss H2 hfa h2 es fok s2;have p64:(aQ m n).length<=64:=by rw[fq];exact P0 m8 n8
 have sl:ss.length<=64:=by rw[<- B5 (f:=(·.1)),es];exact p64
 apply%[_,O,fa,byP ss,O,h2|λ ob=>?_];have hf:(upd H2 fa (.frz ob (.dT (byP ss)))) fa=some (.frz ob (.dT (byP ss))):=ah;have sf0:Sf (· = fa) H2 (upd H2 fa (.frz ob (.dT (byP ss)))):=λ c o e=>by
  by_cases z:c=fa
  ·subst z;rw[h2]at e;cases e;exact .inr %[O,ob,_,O|ah]
  ·rw[am z];exact .inl e
 generalize upd H2 fa (.frz ob (.dT (byP ss)))=H3 at hf sf0 ⊢;have fok3:kP b ks fa H3 ss:=λ q' v' hm=>by obtain⟨d,kv,e,nn,rd,rw'⟩:=fok q' v' hm;exact%[d,kv,e,nn,sf0.rd rd|rw'.keep sf0.tps]
 have bl:(byP ss).length=ss.length:=B5 _;have fr:∀{l:QP},H3 l=none->H l=none:=λ h=>s1.free (s2.free (sf0.free h));have snd:(ss.map (·.1)).Nodup:=by rw[es];exact(ej n m).imp λ {a c} h e=>by subst e;unfold ltP at h;lia
 apply oP (λ i QW Hx=>Same H3 Hx/\QW.length=i/\(∀r∈QW,Hx r.1= ~~~(r.2.1.map kV))/\∃ll,kvR QW=byP ll/\ll.map (·.1)=(ss.map (·.1)).take i/\∀q' v',(q',v')∈ll->LsA H Hx v' (gK b ks q')) ⟨Same.refl _,rfl,(λ r hr=>by cases hr),[],rfl,rfl,(λ q' v' h=>by cases h)⟩ (λ i QW Hx _ h9=>by obtain⟨sx,_,hr,_⟩:=h9;exact%[sx _ _ hf|hr]) ?_ ?_ ?_
 ·intro i kk v pt qt QW Hx hi hpt hqt hI9;apply br λ G9 k9=>?_;obtain⟨sx,rl,hr,ll,e1,e2,e3⟩:=hI9;apply k9 ?_;have hin:=(A7.mp hi).1;unfold byP at hi;rw[J3]at hi;obtain⟨⟨p,v'⟩,hsi,e⟩:=J9.mp hi;injection e with ek ev
  subst ek ev;have hpi:(ss.map (·.1))[i]?=some p:=by rw[J3,hsi];rfl
  obtain⟨d,kv,e,nn,rd,rwd⟩:=fok3 p v' (B7 hsi);have e:v'=.ref d:=e;subst e;have rl64:kv.length<=64:=by
   have l1:=E7 rwd;have l2:=InB.few (ws0 kw) w6 (bs:=gK b ks p) ?_ (λ x hx=>bQ kw hx)
   ·rw[gK,B5]at l2;lia
   ·obtain⟨⟨p1,_⟩,p3,_⟩:=partsL_mem.mp (show p∈aQ m n by rw[<- es];exact B7 hpi);rw[pe b0 p p1 p3];exact dM (bY _ _ _ _)
  apply aK hpt λ H4 k4 s4=>?_;have s34:=sx.trans s4;apply%[pt,_,O,G6 k4,O,_,_,O,_,_,O,O,hG (leS.set rfl) (leS.set rfl)|aI %[_,O,_,O,d,kv,O,(Same.sf (F:=(· = fa)) s34).rd rd|λ l as hl pas=>?_]];apply aK hl λ H5 k5 s5=>?_;have hq5:H5 qt= ~~~((pk p).map kV):=s5 _ _ (s4 _ _ hqt);have pn:p∉ll.map (·.1):=λ z=>by rw[e2]at z;obtain⟨k,hk1,hk2⟩:=List.getElem_of_mem z;rw[List.getElem_take]at hk2;rw[K4]at hk1;have hb1:=(A7.mp hpi).1;have hb2:=(A7.mp hpi).2;have:=(List.getElem_inj (h₀:=show k < (ss.map (·.1)).length by lia) (h₁:=hb1) snd).mp (hk2.trans hb2.symm);lia
  apply%[qt,pk p,O,hq5,?_|NxD.of hin %[s34.trans s5,by rw[J7,rl];rfl,λ r hr'=>?_,ll ++ [(p,.ref l)],?_,?_|?_]]
  ·intro hm;have:QW.map (·.2.1)=(kvR QW).map (·.1):=by unfold kvR;rw[N7];rfl
   rw[this,e1]at hm;unfold byP at hm;rw[N7]at hm;obtain⟨d',hd',e⟩:=J6.mp hm;exact pn (J6.mpr %[d',hd'|qX e])
  ·rcases C4.mp hr' with h | h
   ·exact s5 _ _ (s4 _ _ (hr r h))
   ·rw[E6.mp h];exact hq5
  ·unfold kvR byP at e1 ⊢;rw[J5,J5,e1];rfl
  ·rw[J5,e2,K0,hpi];rfl
  ·intro q' v' hm;rcases C4.mp hm with hm | hm
   ·obtain⟨l',as',e,h1,h2,h3⟩:=e3 q' v' hm;exact%[l',as',e,h1,s5 _ _ (s4 _ _ h2)|h3.keep (Same.tps (s4.trans s5))]
   ·rw[E6]at hm;cases hm;apply%[l,as,O,fr (s34.free hl),k5|?_];have:∀(as:QT QP)(kv:QT (QT Key×V))(rs:Rws),Paired (λ (b:QP)(kv:QT Key×V)=>H4 b= ~~~(kv.1.map kV)) as kv->RwsA H3 kv rs->BsA H5 as (rs.map (·.1)):=λ as kv rs h1 h2=>by
     induction h2 generalizing as with
     | nil=>cases h1;exact .nil
     | cons x _ ih=>cases h1 with
      | cons y z=>exact .cons (by rw[x.1,dh]at y;exact s5 _ _ y) (ih _ z)
    exact this as kv _ pas rwd
 ·rintro i QW Hx hi ⟨_,rl,_⟩;lia
 ·intro QW Hx hI9;apply br λ G9 k9=>?_;obtain⟨sx,rl,hr,ll,e1,e2,e3⟩:=hI9;apply k9 ?_;apply%[⋯|λ ta hta=>?_];rw[e1];have hn:=sx.free hta;rw[bl,K6 (by rw[B5];lia),es]at e2;apply aK hta λ H4 k4 s4=>?_;apply q ta ll H4 (fr hn) k4 e2 (λ q' v' hm=>?_) (λ c o e=>?_)
  ·obtain⟨l',as',e,h1,h2,h3⟩:=e3 q' v' hm;exact%[l',as',e,h1,s4 _ _ h2|h3.keep (Same.tps s4)]
  ·apply s4 _ _ (sx _ _ (sf0.not (λ z=>?_) (s2 _ _ (s1 _ _ e))));have z:c=fa:=z;rw[z,s1.free hfa]at e;cases e
inductive Tr where
 | rest
 | piece (i:Nat) (c:Bool) (x y:Int)
 | cut (dn:Bool) (p:Int) (l r:Tr)
def toD:Tr->PyData
 | .rest=>.tuple [.str "rest"]
 | .piece i c x y=>.tuple [.str "piece",.int i,.bool c,.int x,.int y]
 | .cut dn p l r=>.tuple [.str (if dn=true then "down" else "across"),.int p,toD l,toD r]
def TrV(H:Hp):Tr->V->Prop
 | .rest,v=>∃a,v=.ref a/\H a=some (.tup [.str "rest"])
 | .piece i c x y,v=>∃a,v=.ref a/\H a=some (.tup [.str "piece",.int i,.bl c,.int x,.int y])
 | .cut dn p l r,v=>∃a x y,v=.ref a/\H a=some (.tup [.str (if dn=true then "down" else "across"),.int p,x,y])/\TrV H l x/\TrV H r y
theorem TrV.keep{H H':Hp}(k:∀a xs,H a= ~~~xs->H' a= ~~~xs):∀(t:Tr){v:V},TrV H t v->TrV H' t v
 | .rest,_,⟨a,e,h⟩=>%[a,e|k _ _ h]
 | .piece ..,_,⟨a,e,h⟩=>%[a,e|k _ _ h]
 | .cut _ _ l r,_,⟨a,x,y,e,h,h1,h2⟩=>%[a,x,y,e,k _ _ h,TrV.keep k l h1|TrV.keep k r h2]
def dpt:Tr->Nat
 | .cut _ _ l r=>max (dpt l) (dpt r)+1
 | _=>0
def bA(a b:SW):SW:=List.zipWith min a b
def aZ(a b:SW):SW:=List.zipWith (λ x y=>max 0 (x - y)) a b
theorem iL{a b:SW}{i:Nat}{x y:Int}(h1:a[i]?=some x)(h2:b[i]?=some y):(bA a b)[i]?=some (min x y):=by unfold bA;rw[QE,h1,h2]
theorem gf{a b:SW}{i:Nat}{x y:Int}(h1:a[i]?=some x)(h2:b[i]?=some y):(aZ a b)[i]?=some (max 0 (x - y)):=by unfold aZ;rw[QE,h1,h2]
theorem cB{a b:SW}(h:a.length=b.length):(bA a b).length=a.length:=by unfold bA;rw[List.length_zipWith];lia
theorem bv{a b:SW}(h:a.length=b.length):(aZ a b).length=a.length:=by unfold aZ;rw[List.length_zipWith];lia
def NnB(a:SW):Prop:=∀x∈a,0<=x
theorem NnB.iff{a:SW}:NnB a↔∀(i:Nat)(x:Int),a[i]?=some x->0<=x :=
 %[λ h i x hx=>h x (B7 hx)|λ h x hx=>by obtain⟨i,hi⟩:=N8.mp hx;exact h i x hi]
theorem atB{a:SW}{i:Nat}(h:i < a.length):∃x,a[i]?=some x:=%[a[i]|F5 h]
theorem jh{a:SW}{i:Nat}{x:Int}(h:a[i]?=some x):i < a.length:=(A7.mp h).1
theorem pj{a b:SW}(e:a.length=b.length)(h1:NnB a)(h2:NnB b):NnB (bA a b):=NnB.iff.mpr λ i x hx=>by have il:=jh hx;rw[cB e]at il;obtain⟨u,hu⟩:=atB il;obtain⟨v,hv⟩:=atB (a:=b) (i:=i) ⋯;rw[iL hu hv]at hx;cases hx;have:=NnB.iff.mp h1 i u hu;have:=NnB.iff.mp h2 i v hv;lia
theorem iM{a b:SW}(e:a.length=b.length):NnB (aZ a b):=NnB.iff.mpr λ i x hx=>by have il:=jh hx;rw[bv e]at il;obtain⟨u,hu⟩:=atB il;obtain⟨v,hv⟩:=atB (a:=b) (i:=i) ⋯;rw[gf hu hv]at hx;cases hx;lia
theorem pC{a b:SW}(e:a.length=b.length):leB (bA a b) b=true:=(aS (by rw[cB e,e])).mpr λ i x y hx hy=>by have il:=jh hx;rw[cB e]at il;obtain⟨u,hu⟩:=atB il;rw[iL hu hy]at hx;cases hx;lia
theorem yj{c o u ws:SW}(e1:c.length=ws.length)(e2:o.length=ws.length)(e3:u.length=ws.length)(h1:leB c (ci o u ws)=true)(h3:NnB u):leB (aZ c (bA c o)) u=true:=by
 have ec:c.length=o.length:=⋯
 have el:(aZ c (bA c o)).length=c.length:=bv (by rw[cB ec]);apply(aS ⋯).mpr λ i x y hx hy=>?_;have il:=jh hx;rw[el]at il;obtain⟨p,hp⟩:=atB il;obtain⟨q,hq⟩:=atB (a:=o) (i:=i) ⋯;obtain⟨w,hw⟩:=atB (a:=ws) (i:=i) ⋯;rw[gf hp (iL hp hq)]at hx;cases hx;have:=(aS (by rw[eR ⋯ ⋯];lia)).mp h1 i p _ hp (iF hq hy hw);have:=NnB.iff.mp h3 i y hy;lia
def Be(b:Int)(ks:QT Kd)(p:Int×Int):SW×Stp->Prop
 | (c,.rest)=>c=aB ks.length
 | (c,.piece k t)=>∃i:Nat,k=i/\(i,t)∈lyK ks 0/\cO ks p.1 p.2 (i,t)=true/\c=bO ks.length i
 | (c,.cut dn q f o s u)=>(dn,q)∈cf b p.1 p.2/\f=dg p.1 p.2 (dn,q)/\s=du b p.1 p.2 (dn,q)/\o∈gK b ks f/\u∈gK b ks s/\c=ci o u (wsK ks)
theorem kR{r:SW×Stp}:∀{l rs:Rws},r∈ft rs l->r∈rs\/r∈l
 | [],_,h=>.inl h
 | x :: l,rs,h=>by
  rcases kR (l:=l) (rs:=hJ rs x) h with h | h
  ·unfold hJ at h
   split at h
   ·exact .inl h
   ·rcases C4.mp h with h | h
    ·exact .inl h
    ·exact .inr (J4.mpr (.inl (E6.mp h)))
  ·exact .inr (B6 _ h)
theorem pE{rs:Rws}{c:SW}(h:c∈rs.map (·.1)):(c,iI rs c)∈rs:=by
 induction rs with
 | nil=>cases h
 | cons r rs ih=>
  unfold iI
  by_cases e:r.1=c
  ·rw[P8 (by simpa using e)];rw[<- e];exact B9
  ·rw[P9 (by simpa using e)];exact B6 _ (ih ((J4.mp h).resolve_left λ z=>e z.symm))
theorem Cb{b:Int}{ks:QT Kd}(b0:0<=b){p:Int×Int}(p1:1<=p.1)(p2:1<=p.2){r:SW×Stp}(h:r∈gB b ks p):Be b ks p r:=by
 rw[yd b0 p p1 p2]at h;unfold jC at h;obtain⟨c,hc,rfl⟩:=J6.mp h;have hm:=pE (mem_topB.mp hc).1;generalize(c,iI (bt b ks (gB b ks) p) c)=r at hm;unfold bt at hm;rcases kR hm with hm | hm
 ·rcases kR hm with hm | hm
  ·unfold fG at hm;rw[E6.mp hm];exact rfl
  ·unfold lyC at hm;obtain⟨q,hq,hr⟩:=N6.mp hm;obtain⟨q1,q2⟩:=PJ.mp hq;unfold lyR at hr
   split at hr
   ·rw[E6.mp hr];exact%[q.1,O,q1,q2|O]
   ·cases hr
 ·obtain⟨x,hx,hr⟩:=N6.mp hm;obtain⟨o,ho,hr⟩:=N6.mp hr;obtain⟨u,hu,rfl⟩:=J6.mp hr;exact%[hx,O,O,ho,hu|O]
theorem sN{b:Int}{ks:QT Kd}(b0:0<=b){p:Int×Int}(p1:1<=p.1)(p2:1<=p.2){g:SW}(h:g∈gK b ks p):Be b ks p (g,iI (gB b ks p) g):=Cb b0 p1 p2 (pE h)
def tbF(b:Int)(ks:QT Kd):Nat->Int×Int->SW->SW->Tr
 | 0,_,_,_=>.rest
 | n+1,p,g,c=>if c.sum=0 then .rest else match iI (gB b ks p) g with
  | .rest=>.rest
  | .piece k t=>.piece k.toNat t 0 0
  | .cut dn q f o s u=>.cut dn q (tbF b ks n f o (bA c o)) (tbF b ks n s u (aZ c (bA c o)))
abbrev dN:=QT (SW×SX)
def iN(rs:dN)(r:SW×SX):dN:=if r.1∈rs.map (·.1)then rs else rs ++ [r]
def hX(rs l:dN):dN:=l.foldl iN rs
theorem pF(rs l m:dN):hX rs (l ++ m)=hX (hX rs l) m:=QH
theorem putL_keys{rs:dN}{r:SW×SX}{x:SW}:x∈(iN rs r).map (·.1)↔x∈rs.map (·.1)\/x=r.1:=by
 unfold iN
 split
 ·next h=>exact%[.inl|λ z=>z.elim id λ e=>e ▸ h]
 ·rw[J5,C4,J8,N3,E6]
theorem mx{x:SW}:∀{l rs:dN},x∈(hX rs l).map (·.1)↔x∈rs.map (·.1)\/x∈l.map (·.1)
 | [],rs=>by simp[hX]
 | r :: l,rs=>by show x∈(hX (iN rs r) l).map (·.1)↔_;rw[mx,putL_keys,J8,J4,or_assoc]
theorem hZ{rs:dN}{r:SW×SX}(h:(rs.map (·.1)).Nodup):((iN rs r).map (·.1)).Nodup:=by
 unfold iN
 split
 ·exact h
 ·next z=>
  rw[J5,QF];apply%[h,by simp|λ a ha b hb e=>z ?_];simp only[J8,N3,E6]at hb;rw[<- hb,<- e];exact ha
theorem yk{rs:dN}{r x:SW×SX}(h:x∈iN rs r):x∈rs\/x=r:=by
 unfold iN at h
 split at h
 ·exact .inl h
 ·exact(C4.mp h).imp id E6.mp
theorem pG{x:SW×SX}:∀{l rs:dN},x∈hX rs l->x∈rs\/x∈l
 | [],_,h=>.inl h
 | r :: l,rs,h=>by
  rcases pG (l:=l) (rs:=iN rs r) h with h | h
  ·exact(yk h).imp id λ e=>J4.mpr (.inl e)
  ·exact .inr (B6 _ h)
def qZ(bs:SX)(r:SW×SX):dN:=bs.map λ c=>(aZ r.1 c,r.2 ++ [c])
def Bf(bs:SX)(rs:dN):dN:=hX [] (rs.flatMap (qZ bs))
def lev(bs:SX)(ws:SW):Nat->dN
 | 0=>[(ws,[])]
 | k+1=>Bf bs (lev bs ws k)
def hit(bs:SX)(ws:SW)(k:Nat):Bool:=decide (aB ws.length∈(lev bs ws k).map (·.1))
def pH(rs:dN)(c:SW):SX:=((rs.find? λ r=>decide (r.1=c)).map (·.2)).getD []
theorem kS{rs:dN}{c:SW}(h:c∈rs.map (·.1)):(c,pH rs c)∈rs:=by
 induction rs with
 | nil=>cases h
 | cons r rs ih=>
  unfold pH
  by_cases e:r.1=c
  ·rw[P8 (by simpa using e)];rw[<- e];exact B9
  ·rw[P9 (by simpa using e)];exact B6 _ (ih ((J4.mp h).resolve_left λ z=>e z.symm))
theorem gg{bs:SX}{ws:SW}(h0:∀x∈ws,0<=x)(hb:∀c∈bs,c.length=ws.length/\NnB c):∀(k:Nat)(r:SW×SX),r∈lev bs ws k->InB ws r.1/\r.2.length=k/\(∀c∈r.2,c∈bs)/\r.2.foldl aZ ws=r.1
 | 0,r,h=>by rw[E6.mp h];exact⟨%[O,eS ws|h0],O,(λ c h=>by cases h),O⟩
 | k+1,r,h=>by
  unfold lev Bf at h;rcases pG h with h | h
  ·cases h
  ·obtain⟨x,hx,h⟩:=N6.mp h;obtain⟨c,hc,rfl⟩:=J6.mp h;obtain⟨i1,i2,i3,i4⟩:=gg h0 hb k x hx;obtain⟨c1,c2⟩:=hb c hc;have el:x.1.length=c.length:=by rw[i1.1,c1]
   apply%[%[by rw[bv el,i1.1],?_|iM el],by rw[J7,i2];rfl,λ d hd=>?_|by rw[QH,i4];rfl]
   ·apply(aS (by rw[bv el,i1.1])).mpr λ i u v hu hv=>?_;have il:=jh hu;rw[bv el]at il;obtain⟨y,hy⟩:=atB il;obtain⟨z,hz⟩:=atB (a:=c) (i:=i) ⋯;rw[gf hy hz]at hu;cases hu;have:=(aS i1.1).mp i1.2.1 i y v hy hv;have:=NnB.iff.mp c2 i z hz;have:=h0 v (B7 hv);lia
   ·rcases C4.mp hd with hd | hd
    ·exact i3 d hd
    ·rw[E6.mp hd];exact hc
theorem kT:∀{l rs:dN},(rs.map (·.1)).Nodup->((hX rs l).map (·.1)).Nodup
 | [],_,h=>h
 | r :: l,rs,h=>by show((hX (iN rs r) l).map (·.1)).Nodup;exact kT (hZ h)
theorem uS(bs:SX)(ws:SW):∀k,((lev bs ws k).map (·.1)).Nodup
 | 0=>by simp[lev]
 | _+1=>kT (by simp)
theorem lev_next{bs:SX}{ws:SW}{k:Nat}{x:SW}:x∈(lev bs ws (k+1)).map (·.1)↔∃y∈(lev bs ws k).map (·.1),∃c∈bs,x=aZ y c:=by
 show x∈(hX [] ((lev bs ws k).flatMap (qZ bs))).map (·.1)↔_;rw[mx];constructor
 ·rintro(h | h)
  ·cases h
  ·obtain⟨r,hr,rfl⟩:=J6.mp h;obtain⟨y,hy,h⟩:=N6.mp hr;obtain⟨c,hc,rfl⟩:=J6.mp h;exact%[y.1,J6.mpr %[y,hy|O],c,hc|O]
 ·rintro⟨y,hy,c,hc,rfl⟩;obtain⟨r,hr,rfl⟩:=J6.mp hy;exact .inr (J6.mpr %[(aZ r.1 c,r.2 ++ [c]),N6.mpr %[r,hr|J6.mpr %[c,hc|O]]|O])
theorem DY:∀{a:SW},NnB a->a.sum=0->a=aB a.length
 | [],_,_=>rfl
 | x :: a,h,e=>by have x0:=h x B9;have a0:=dL (ws:=a) λ y hy=>h y (B6 _ hy);rw[M7]at e;have:=DY (a:=a) (λ y hy=>h y (B6 _ hy)) ⋯;show x :: a=0 :: aB a.length;rw[<- this,show x=0 by lia]
theorem Ar{bs:SX}{ws:SW}(h0:∀x∈ws,0<=x)(hb:∀c∈bs,c.length=ws.length/\NnB c)(hf:∀ (i:Nat) (w:Int),ws[i]?=some w->0 < w->∃c∈bs,∃z,c[i]?=some z/\1<=z):∀(n k:Nat)(x:SW),x∈(lev bs ws k).map (·.1)->x.sum<=n->∃j,j<=n/\hit bs ws (k+j)=true:=by
 intro n
 induction n with
 | zero=>
  intro k x hx hs;obtain⟨r,hr,rfl⟩:=J6.mp hx;obtain⟨i1,_⟩:=gg h0 hb k r hr;have z:=DY i1.2.2 (by have:=dL i1.2.2;lia);apply%[0,B4 _|B1 ?_];rw[Nat.add_zero,<- i1.1,<- z];exact hx
 | succ n ih=>
  intro k x hx hs;obtain⟨r,hr,rfl⟩:=J6.mp hx;obtain⟨i1,_⟩:=gg h0 hb k r hr
  by_cases c:r.1.sum<=n
  ·obtain⟨j,j1,j2⟩:=ih k r.1 hx c;exact%[j,⋯|j2]
  ·obtain⟨i,y,hy,y0⟩:∃(i:Nat)(y:Int),r.1[i]?=some y/\0 < y:=by
    apply Q0 λ hn=>c ?_;have:∀(a:SW),(∀(i:Nat)(y:Int),a[i]?=some y->y<=0)->a.sum<=0:=λ a=>by
     induction a with
     | nil=>intro _;exact E9 _
     | cons z a iha=>
      intro h;have:=h 0 z rfl;have:=iha λ i y hy=>h (i+1) y (by simpa using hy);rw[M7];lia
    have:=this r.1 λ i y hy=>Int.not_lt.mp λ y0=>hn %[i,y,hy|y0];lia
   obtain⟨w,hw⟩:=atB (a:=ws) (i:=i) (by rw[<- i1.1];exact jh hy);have yw:=(aS i1.1).mp i1.2.1 i y w hy hw;obtain⟨d,hd,z,hz,z1⟩:=hf i w hw ⋯;obtain⟨d1,d2⟩:=hb d hd;have el:r.1.length=d.length:=by rw[i1.1,d1]
   have lt:(aZ r.1 d).sum < r.1.sum:=by
    have:∀(a e:SW)(i:Nat)(y z:Int),a.length=e.length->NnB a->NnB e->a[i]?=some y->e[i]?=some z->0 < y->1<=z->(aZ a e).sum < a.sum:=λ a=>by
     have le:∀(a e:SW),a.length=e.length->NnB a->NnB e->(aZ a e).sum<=a.sum:=λ a=>by
      induction a with
      | nil=>intro e _ _ _;cases e <;> exact E9 _
      | cons u a iha=>intro e hl h1 h2;cases e with
       | nil=>simp at hl
       | cons v e=>
        have u0:=h1 u B9;have v0:=h2 v B9;have:=iha e (by simpa using hl) (λ y hy=>h1 y (B6 _ hy)) (λ y hy=>h2 y (B6 _ hy));show(max 0 (u - v) :: aZ a e).sum<=(u :: a).sum;rw[M7,M7];lia
     induction a with
     | nil=>intro e i y z _ _ _ h;simp at h
     | cons u a iha=>intro e i y z hl h1 h2 hy hz y0 z1;cases e with
      | nil=>simp at hl
      | cons v e=>
       have u0:=h1 u B9;have v0:=h2 v B9;have ha:NnB a:=λ y hy=>h1 y (B6 _ hy);have he:NnB e:=λ y hy=>h2 y (B6 _ hy);show(max 0 (u - v) :: aZ a e).sum < (u :: a).sum;rw[M7,M7];cases i with
       | zero=>
        simp only[List.getElem?_cons_zero,Option.some.injEq]at hy hz;have:=le a e (by simpa using hl) ha he;lia
       | succ i=>
        have:=iha e i y z (by simpa using hl) ha he (by simpa using hy) (by simpa using hz) y0 z1;lia
    exact this r.1 d i y z el i1.2.2 d2 hy hz y0 z1
   obtain⟨j,j1,j2⟩:=ih (k+1) (aZ r.1 d) (lev_next.mpr %[r.1,hx,d,hd|O]) ⋯;exact%[j+1,⋯|by rw[show k+(j+1)=k+1+j by lia];exact j2]
theorem rc{X:Cx}(K:C6)(hK:X.K=K):OpR X (compareOp .In) (rIn K false):=hK ▸ tN
def lC(ks:QT Kd)(p:Int×Int):QT Nat:=((lyK ks 0).filter (cO ks p.1 p.2)).map (·.1)
def awf(ks:QT Kd)(p:Int×Int)(j:Nat):QT Bool:=(List.range j).map λ i=>decide (waA ks i=0) || decide (i∈lC ks p)
def awF(ks:QT Kd)(p:Int×Int):Bool:=(awf ks p ks.length).all id
def nG:Sp:=λ vs H Q _=>∃(t u:QP)(xs ys:SW),vs=[.ref t,.ref u]/\H t= ~~~(bV xs)/\H u= ~~~(bV ys)/\xs.length=ys.length/\xs.length<=8/\∀(a:QP)(H':Hp),H' a= ~~~(bV (bA xs ys))->Same H H'->Q (.ref a) H'
def kU:Sp:=λ vs H Q _=>∃(t u:QP)(xs ys:SW),vs=[.ref t,.ref u]/\H t= ~~~(bV xs)/\H u= ~~~(bV ys)/\xs.length=ys.length/\xs.length<=8/\∀(a:QP)(H':Hp),H' a= ~~~(bV (aZ xs ys))->Same H H'->Q (.ref a) H'
def Bg(C:QP):Sp:=λ vs H Q _=>∃(s t:QP)(b:Int)(ks:QT Kd)(p:Int×Int),vs=[.ref s,.ref t]/\ShopAt C H s b ks/\ks.length<=8/\H t= ~~~[.int p.1,.int p.2]/\∀(H':Hp),Same H H'->Q (.bl (awF ks p)) H'
theorem sccomm:FnScope Rj Rj (defScope iD):=nofun
theorem As{f:QP}{fd:G2}(F:Fun K "common" "common" iD f fd)(B:Blt mg):FnOk P w K mg base CX0 1 f fd Rj (nG):=by
 exists sccomm;obtain⟨t,u,xs,ys,rfl,ht,hu',e1,l8,q⟩:=h;apply%[_,((@aU _ _ _ _ _ _ _ _ _ aL O B.tuple Qg ((aY (own:=Rk) (cs:=[]) (cap:=[]) O (fZ O B.zip ('0'^^^('1'^^^ae))) (aD (sc:=defScope iD) (N:=Rj) O O ∅) (λ _ _ _ _ _=>cQ K O O (by show List.Nodup (Rk:QT Str) ;decide +kernel) O O O O) (λ _ _ _ _ _=>aH) (λ _ _ _ _ _=>(@ay _ _ _ _ _ _ _ _ _ (eE O) O B.min RF ('0'^^^('1'^^^ae)) ∅ ∅ O O)))^^^ae) ∅ ∅ O O)⁻¹)|?_];dsimp only[bL];have l1:(bV xs).length=xs.length:=B5 _;have l2:(bV ys).length=ys.length:=B5 _;have sz:(40000:Nat)<=sizeLine:=∅
 have jl:=cB e1;apply%[_,O,_,O,t,u,_,_,O,ht,hu'|dD (xs:=bV xs) (ys:=bV ys) (λ i us Hx=>Same H Hx/\us=((bA xs ys).take i).map V.int) ⋯ (λ i us Hx ⟨sx,_⟩=>%[sx _ _ ht|sx _ _ hu']) %[Same.refl _|O] (λ i us Hx hi ⟨_,e⟩=>by rw[e,B5,K4];lia) ?_ ?_]
 ·rintro i x y p us Hx hx hy hp ⟨sx,rfl⟩;have hin:i < (bV xs).length:=(A7.mp hx).1;obtain⟨x',hx',rfl⟩:=J9.mp (show Option.map V.int xs[i]?=some x by rw[<- J3];exact hx);obtain⟨y',hy',rfl⟩:=J9.mp (show Option.map V.int ys[i]?=some y by rw[<- J3];exact hy);have ji:=iL hx' hy';have s1:=G5 hp (o:=.tup [.int x',.int y']);apply%[p,_,O,G6 ah,O,_,_,O,_,_,O,O,hG (leS.set rfl) (leS.set rfl)|aI ?_];apply%[_,O,_,O,_,_,O|Nx.of hin %[sx.trans s1|?_]];rw[K0,ji,show(if y' < x' then y' else x')=min x' y' by split <;> lia];simp only[K8,J5,J8,N3]
 ·rintro us Hx ⟨sx,rfl⟩;rw[l1,K6 ⋯];apply%[by rw[B5];lia|λ cl hcl=>?_];apply aK hcl λ H1 k1 s1=>?_;apply%[cl,_,O|.inl %[G7 k1|λ tp htp=>?_]];exact q tp _ ah ((sx.trans s1).trans (G5 htp))
theorem scwithb:FnScope Rp Rp (defScope gb):=nofun
theorem ym{f:QP}{fd:G2}(F:Fun K "without" "without" gb f fd)(B:Blt mg):FnOk P w K mg base CX0 1 f fd Rp (kU):=by
 exists scwithb;obtain⟨t,u,xs,ys,rfl,ht,hu',e1,l8,q⟩:=h;apply%[_,((@aU _ _ _ _ _ _ _ _ _ aL O B.tuple Qg ((aY (own:=["many","fewer"]) (cs:=[]) (cap:=[]) O (fZ O B.zip ('0'^^^('1'^^^ae))) (aD (sc:=defScope gb) (N:=Rp) O O ∅) (λ _ _ _ _ _=>cQ K O O (by show List.Nodup (["many","fewer"]:QT Str) ;decide +kernel) O O O O) (λ _ _ _ _ _=>aH) (λ _ _ _ _ _=>(@ay _ _ _ _ _ _ _ _ _ (iS O) O B.max PyProof.Rows.boot_max (ag^^^(('0'|||bg|||'1')^^^ae)) ∅ ∅ O O)))^^^ae) ∅ ∅ O O)⁻¹)|?_];dsimp only[bL];have l1:(bV xs).length=xs.length:=B5 _;have l2:(bV ys).length=ys.length:=B5 _;have sz:(40000:Nat)<=sizeLine:=∅
 have jl:=bv e1;apply%[_,O,_,O,t,u,_,_,O,ht,hu'|dD (xs:=bV xs) (ys:=bV ys) (λ i us Hx=>Same H Hx/\us=((aZ xs ys).take i).map V.int) ⋯ (λ i us Hx ⟨sx,_⟩=>%[sx _ _ ht|sx _ _ hu']) %[Same.refl _|O] (λ i us Hx hi ⟨_,e⟩=>by rw[e,B5,K4];lia) ?_ ?_]
 ·rintro i x y p us Hx hx hy hp ⟨sx,rfl⟩;have hin:i < (bV xs).length:=(A7.mp hx).1;obtain⟨x',hx',rfl⟩:=J9.mp (show Option.map V.int xs[i]?=some x by rw[<- J3];exact hx);obtain⟨y',hy',rfl⟩:=J9.mp (show Option.map V.int ys[i]?=some y by rw[<- J3];exact hy);have ji:=gf hx' hy';have s1:=G5 hp (o:=.tup [.int x',.int y']);apply%[p,_,O,G6 ah,O,_,_,O,_,_,O,O,hG (leS.set rfl) (leS.set rfl)|aI ?_];apply%[_,O,_,O,_,_,O,O,_,_,O|Nx.of hin %[sx.trans s1|?_]];rw[K0,ji,show(if 0 < x' - y' then x' - y' else 0)=max 0 (x' - y')by split <;> lia];simp only[K8,J5,J8,N3]
 ·rintro us Hx ⟨sx,rfl⟩;rw[l1,K6 ⋯];apply%[by rw[B5];lia|λ cl hcl=>?_];apply aK hcl λ H1 k1 s1=>?_;apply%[cl,_,O|.inl %[G7 k1|λ tp htp=>?_]];exact q tp _ ah ((sx.trans s1).trans (G5 htp))
theorem scawf:FnScope Rq Rr (defScope bM):=nofun
theorem Cc{f:QP}{fd:G2}(F:Fun K "all_wanted_fit" "all_wanted_fit" bM f fd){C:QP}(B:Blt mg)(T:ShopTxt K C)(MW:Mn P w K mg base C "wanted" RV 1 (dG C))(DLI:Dn P w K mg base "lyings_in" Ra 5 ((spLyIn C))):FnOk P w K mg base CX0 6 f fd Rr (Bg C):=by
 exists scawf;obtain⟨s,t,b,ks,p,rfl,S0,k8,ht,q⟩:=h;apply%[_,((@ax _ _ 2 _ _ _ _ nd O (Or.inr O) (aY (own:=Rb) (cs:=[]) (cap:=[]) O (bC (DLI∪('0'^^^('1'^^^ae)))) (aD (sc:=defScope bM) (N:=Rq) O O ∅) (λ _ _ _ _ _=>cQ K O O (by show List.Nodup (Rb:QT Str) ;decide +kernel) O O O O) (λ _ _ _ _ _=>aH) (λ _ _ _ _ _=>'0')) O (Or.inl O))<<<((@ay _ _ _ _ _ _ _ _ _ (eG O) O B.all RG ((aY (own:=["kind","many"]) (cs:=["fitting"]) (cap:=[2]) O (mX O B.enumerate ((eA '0' T.cl MW (hr.mono ∅))^^^ae)) (aD (sc:=defScope bM) (N:=Rq) O O ∅) (λ _ _ _ _ _=>cQ K O O (by show List.Nodup (["kind","many","fitting"]:QT Str) ;decide +kernel) O O O O) (λ _ _ _ _ _=>aH) (λ _ _ _ _ _=>(AS (@bD _ _ _ _ _ _ _ _ dB '1' ag (aA _)) (fN (@bD _ _ _ _ _ _ _ _ (rc K O) '0' '2' O)))))^^^ae) ∅ ∅ O O)⁻¹))|?_];dsimp only[bL];have z4:4096<=sizeLine:=∅
 obtain⟨dx,r0,rs0,g1,g2,g3⟩:=id S0;have wl:(wsK ks).length=ks.length:=B5 _;apply av (λ R=>∀(fl:QP)(H':Hp),H' fl=↥((lC ks p).map λ i:Nat=>V.int i)->Same H H'->R [↑s,↑t,↑fl] H') (λ Dd hR=>?_) ?_
 ·apply%[_,O,_,O,s,t,b,ks,p.1,p.2,O,S0,k8,ht|λ ll ys H1 _ hll pys s1=>?_];obtain⟨ly,ely⟩:∃ly,ly=(lyK ks 0).filter (cO ks p.1 p.2):=%[_|O]
  rw[<- ely]at pys;have yl:=E7 pys;have l16:ly.length<=16:=by
   have h1:=PV (cO ks p.1 p.2) (lyK ks 0);have h2:∀(ks:QT Kd)(i:Nat),(lyK ks i).length<=2 * ks.length:=λ ks=>by
    induction ks with
    | nil=>intro i;exact B4 _
    | cons k r ih=>
     intro i;have:=ih (i+1);have h3:(lyT i k).length<=2:=by unfold lyT;split <;> simp
     rw[lyK,J7,K1];lia
   have:=h2 ks 0;rw[<- ely]at h1;lia
  apply%[ll,O,%[_|G7 hll]|(bS (K:=K) (.inl hll) (λ i us Hx=>H1=Hx/\us=((ly.take i).map (·.1)).map λ i:Nat=>V.int i) (λ i us Hx _ ⟨e,_⟩ o h=>e ▸ h) %[O|O] ?_ ?_).1 hll]
  ·rintro i x us _ hi ⟨rfl,rfl⟩;have hin:=(A7.mp hi).1;obtain⟨c,hc,ta,rfl,hta⟩:=J0 pys hi;apply%[by rw[B5,B5,K4];lia,ta,_,O,G6 hta,O,_,_,O,_,_,O,O,hG (leS.set rfl) (leS.set rfl)|aI %[_,O|Nx.of hin %[O|?_]]];rw[K0,hc,K8,J5,J5]
   rfl
  ·rintro us _ ⟨rfl,rfl⟩;rw[yl,M0];apply%[by rw[B5,B5];lia|λ fl hfl=>?_];apply aK hfl λ H2 k2 s2=>?_;apply hR fl _ ?_ (s1.trans s2);unfold lC;rw[<- ely];exact k2
 rintro fl H1 hfl s1;apply%[_,O,s,dx,_,O,s1 _ _ g1,bP _ _ ∅ ∅,s,b,ks,O,S0.keep (λ _ _ e=>s1 _ _ e) (λ _ _ _ _ e=>s1 _ _ e),k8|λ wt H2 _ hwt s2=>?_];have wvl:(ks.map λ k=>V.int k.wa).length=ks.length:=B5 _;apply%[wt,_,O|.inr %[hwt|lW (f:=HO.tup) (λ _ _ e=>by injection e) (λ j zs Hx=>Same H2 Hx/\zs=(awf ks p j).map V.bl) (λ j zs Hx ⟨sx,_⟩=>sx _ _ hwt) %[Same.refl _|O] ?_ ?_ ?_]]
 ·rintro j zs Hx hj ⟨_,rfl⟩;unfold awf;rw[B5,B5,PH];lia
 ·rintro j x pp zs Hx hj hpp ⟨sx,rfl⟩;have hjn:=(A7.mp hj).1;rw[J3]at hj;obtain⟨k,hk,rfl⟩:=J9.mp hj;have wk:waA ks j=k.wa:=by unfold waA;rw[hk];rfl
  apply aK hpp λ H3 k3 s3=>?_;have aw:awf ks p (j+1)=awf ks p j ++ [decide (k.wa=0) || decide (j∈lC ks p)]:=by unfold awf;rw[QC,J5];simp only[J8,N3,wk]
  have nx:∀v:Bool,(decide (k.wa=0) || decide (j∈lC ks p))=v->Nx (ks.map λ k=>V.int k.wa).length (λ j zs Hx=>Same H2 Hx/\zs=(awf ks p j).map V.bl) j ((awf ks p j).map V.bl ++ [.bl v]) H3:=λ v hv=>Nx.of hjn %[sx.trans s3|by rw[aw,J5,<- hv];rfl];apply%[pp,_,O,G6 k3,O,_,_,O,_,_,O,O,hG (leS.set rfl) (leS.set rfl)|aI ?_];apply%[_,O,O,_,O|?_]
  by_cases c:k.wa=0
  ·rw[show decide (V.int k.wa=V.int 0)=true from Qb (by rw[c])];exact ce (nx true (by rw[Qb c];rfl))
  ·rw[show decide (V.int k.wa=V.int 0)=false from Qc (λ z=>c (by injection z))];apply be %[_,rfl,_,rfl,fl,_,rfl,.inl (G7 (s3 _ _ (sx _ _ (s2 _ _ hfl)))),rfl,?_|?_]
   ·rw[List.all_map];exact Pz.mpr λ _ _=>rfl
   ·have:inV (V.int (j:Int)) ((lC ks p).map λ i:Nat=>V.int i)=decide (j∈lC ks p):=by
     unfold inV;rw[List.any_map,PZ,O7,Q7];constructor
     ·rintro⟨i,hi,e⟩;have e:(V.int (i:Int)=V.int (j:Int)):=by simpa[eqV]using e
      injection e with e
      have:i=j:=⋯
      rw[<- this];exact hi
     ·intro h;exact%[j,h|by simp[eqV]]
    rw[QZ B3,this];exact nx _ (by rw[Qc c];rfl)
 ·rintro zs Hx ⟨sx,rfl⟩;rw[wvl];apply%[by unfold awf;rw[B5,B5,PH];lia|λ pl hpl=>%[pl,_,O,G7 ah|?_]];exact q _ ((s1.trans s2).trans (sx.trans (G5 hpl)))
def LtA(H:Hp)(v:V)(lot:SX):Prop:=∃l as,v=.ref l/\H l=↥(as.map V.ref)/\BsA H as lot
def LtR(H:Hp)(kv:QT Key×V)(r:SW×SX):Prop:=kv.1=bK r.1/\LtA H kv.2 r.2
abbrev LtsA(H:Hp)(kvs:QT (QT Key×V))(rs:dN):Prop:=Paired (LtR H) kvs rs
def Kp(H H':Hp):Prop:=Tps H H'/\∀a xs,H a=↥xs->H' a=↥xs
theorem fu{H H':Hp}(s:Same H H'):Kp H H':=%[Same.tps s|λ _ _ e=>s _ _ e]
theorem yn{F:QP->Prop}{st:QP}{H H':Hp}(s:Sg F st H H'):Kp H H':=%[s.tps|λ _ _ e=>s.lst e]
theorem Bh{F:QP->Prop}{H H':Hp}(s:Sf F H H'):Kp H H':=%[s.tps|λ _ _ e=>s.lst e]
theorem Kp.trans{H H1 H2:Hp}(a:Kp H H1)(b:Kp H1 H2):Kp H H2:=%[λ _ _ e=>b.1 _ _ (a.1 _ _ e)|λ _ _ e=>b.2 _ _ (a.2 _ _ e)]
theorem LtA.keep{H H':Hp}(s:Kp H H'){v:V}{lot:SX}:LtA H v lot->LtA H' v lot
 | ⟨l,as,e,h1,h2⟩=>%[l,as,e,s.2 _ _ h1|h2.keep s.1]
theorem LtsA.keep{H H':Hp}(s:Kp H H'){kvs:QT (QT Key×V)}{rs:dN}(h:LtsA H kvs rs):LtsA H' kvs rs:=G8 h λ _ _ x=>%[x.1|x.2.keep s]
theorem LtsA.val{H:Hp}{kvs:QT (QT Key×V)}{rs:dN}(h:LtsA H kvs rs)(c:SW):(c∈rs.map (·.1)->∃v,de kvs (bK c)=some v/\LtA H v (pH rs c))/\(c∉rs.map (·.1)->de kvs (bK c)=none):=by
 induction h with
 | nil=>exact⟨(λ m=>by cases m),λ _=>rfl⟩
 | @cons kv r kvs rs a _ ih=>
  by_cases e:r.1=c
  ·apply%[λ _=>%[kv.2,eJ (by rw[a.1,e])|?_]|λ z=>absurd (J4.mpr (.inl e.symm)) z];unfold pH;rw[P8 (by simpa using e)];exact a.2
  ·apply%[λ m=>?_|λ z=>?_]
   ·obtain⟨v,h1,h2⟩:=ih.1 ((J4.mp m).resolve_left λ z=>e z.symm);apply%[v,by rw[cW (λ z=>e (jg (a.1.symm.trans z)))];exact h1|?_];unfold pH;rw[P9 (by simpa using e)];exact h2
   ·rw[cW (λ w=>e (jg (a.1.symm.trans w)))];exact ih.2 λ w=>z (B6 _ w)
def LgI(ng:QP)(ws:SW)(H:Hp)(rs:dN):Prop:=∃kvs,H ng=some (.dT kvs)/\LtsA H kvs rs/\(rs.map (·.1)).Nodup/\∀x∈rs.map (·.1),InB ws x
theorem LgI.keep{F:QP->Prop}{ng:QP}{ws:SW}{H H':Hp}{rs:dN}(s:Same H H'):LgI ng ws H rs->LgI ng ws H' rs
 | ⟨kvs,h1,h2,h3,h4⟩=>%[kvs,s _ _ h1,h2.keep (fu s),h3|h4]
theorem yo{F:QP->Prop}{ng ka:QP}{ws:SW}{H:Hp}{rs:dN}{c:SW}{lot:SX}{v:V}{Q:VK}(h0:∀x∈ws,0<=x)(w6:ws.sum<=6)(hI:LgI ng ws H rs)(hk:H ka= ~~~(bV c))(ic:InB ws c)(ha:LtA H v lot)
  (hq:∀v' H',LgI ng ws H' (iN rs (c,lot))->Sg F ng H H'->Q v' H'):xI (.ref ng) [.ref ka,v] H Q:=by
 obtain⟨kvs,h1,h2,h3,h4⟩:=hI;have z4:4096<=sizeLine:=∅
 have l1:=InB.few h0 w6 h3 h4;rw[B5]at l1;have l2:=E7 h2;have i2:∀x∈(iN rs (c,lot)).map (·.1),InB ws x:=λ x hx=>(putL_keys.mp hx).elim (h4 x) λ e=>e ▸ ic;apply%[ng,ka,v,kvs,bK c,O,O,h1,by rw[dh];exact hk,⋯,λ v' hv'=>hq _ _ %[kvs,h1,?_,hZ h3|i2] (Sg.refl _)|λ hn=>?_]
 ·unfold iN;rw[Qa (Q0 λ z=>by rw[(h2.val c).2 z]at hv';cases hv')];exact h2
 ·have nn:c∉rs.map (·.1):=λ z=>by obtain⟨v',e,_⟩:=(h2.val c).1 z;rw[hn]at e;cases e
  apply hq _ _ %[_,ah,?_,hZ h3|i2] (Sg.put h1);rw[oq v hn];unfold iN;rw[QZ nn];have kp:Kp H (upd H ng (.dT (kvs ++ [(bK c,v)]))):=yn (F:=F) (Sg.put h1);exact Paired.app (h2.keep kp) (.cons %[O|ha.keep kp] .nil)
def yp:Sp:=λ vs H Q _=>∃(bl wt:QP)(as:QT QP)(bs:SX)(ws:SW)(Kn:Nat),vs=[.ref bl,.ref wt]/\H bl=↥(as.map V.ref)/\BsA H as bs/\bs.length<=64/\(∀c∈bs,c.length=ws.length/\NnB c)/\H wt= ~~~(bV ws)/\ws.length<=8/\(∀x∈ws,0<=x)/\ws.sum<=6/\Kn<=6/\hit bs ws Kn=true/\(∀k,k < Kn->hit bs ws k=false) /\
 ∀(l:QP)(as':QT QP)(H':Hp),H' l=↥(as'.map V.ref)->BsA H' as' (pH (lev bs ws Kn) (aB ws.length))->Same H H'->Q (.ref l) H'
theorem scfewb:FnScope Rs Rt (defScope bT):=nofun
theorem At{f:QP}{fd:G2}(F:Fun K "fewest_bundles" "fewest_bundles" bT f fd)(B:Blt mg)(DWI:Dn P w K mg base "without" Rp 1 (kU)):FnOk P w K mg base CX0 2 f fd Rt (yp):=by
 exists scfewb;apply br λ G9 k9=>?_;obtain⟨bl,wt,as,bs,ws,Kn,rfl,hbl,ba,b64,bok,hwt,w8,h0,w6,kn6,hk,hk0,q⟩:=h;apply k9 ?_;have hu:=hr.units;have hu1:=C8 (PB (show 1<=64 by decide) _) hu;apply%[_,((2∣(@aU _ _ _ _ _ _ _ _ _ aL O B.tuple Qg ((aY (own:=["many"]) (cs:=[]) (cap:=[]) O (jS '1') (aD (sc:=defScope bT) (N:=Rs) O O ∅) (λ _ _ _ _ _=>aj (i:=0) (by show List.Nodup (["many"]:QT Str) ;decide +kernel) O (Or.inl O) (Or.inr O)) (λ _ _ _ _ _=>aH) (λ _ _ _ _ _=>ag))^^^ae) ∅ ∅ O O))<<<((3∣(lX (Nat.lt_of_succ_lt hu1) '1' (@bh _ _ _ _ ae)))<<<((nS E8 (Bq (tX hu1 '2' '3')) ((4∣oz)<<<((@bE _ _ _ _ _ _ _ _ E8 O (oG '3') (bn O (5•(6•aR))) (@ai _ _ _ (@bE _ _ _ _ _ _ _ _ E8 O (bC '0') (aj (i:=7) nd O (Or.inl O)) (@ai _ _ _ (@bj _ _ _ _ (@fS _ _ _ _ _ _ _ _ _ _ _ _ PySem.F.plainAttrs_dict RA PySem.F.type_dict_setdefault (gY hu1) '4' ((DWI∪('5'^^^('7'^^^ae)))^^^(('6'|||wU|||(@bh _ _ _ _ ('7'^^^ae)))^^^ae)) O O O O O) O)) (by intro _;rfl))) (by intro _;rfl))>>>(3∣'4'))))<<<((dS hu1 '3' '2' (λ _ _=>O))⁻¹))))|?_];dsimp only[bL];have z4:100000<=sizeLine:=∅
 have al:=E7 ba;have wvl:(bV ws).length=ws.length:=B5 _;apply av (λ R=>∀(nt:QP)(H':Hp),H' nt= ~~~(bV (aB ws.length))->Same H H'->R [↑bl,↑wt,↑nt,none,none,none,none,none] H') (λ Dd hR=>?_) ?_
 ·apply%[_,O,wt,O,%[_|G6 hwt]|(bS (K:=K) (.inr hwt) (λ i us Hx=>H=Hx/\us=bV (aB i)) (λ i us Hx _ ⟨e,_⟩ o h=>e ▸ h) %[O|O] ?_ ?_).2 hwt]
  ·rintro i x us _ hi ⟨rfl,rfl⟩;have hin:=(A7.mp hi).1;apply%[by rw[wvl]at hin;rw[bV,aB,B5,K7];lia,leS.set rfl|aI (show Nx (bV ws).length (λ i us Hx=>H=Hx/\us=bV (aB i)) i (bV (aB i) ++ [V.int 0]) H from Nx.of hin %[O|?_])];rw[aB,aB,bV,bV,List.replicate_succ',J5];rfl
  ·rintro us _ ⟨rfl,rfl⟩;rw[wvl];apply%[by rw[bV,aB,B5,K7];lia|λ cl hcl=>?_];apply aK hcl λ H1 k1 s1=>?_;apply%[cl,_,O|.inl %[G7 k1|λ nt hnt=>?_]];apply aK hnt λ H2 k2 s2=>?_;exact hR nt _ k2 (s1.trans s2)
 rintro nt H1 hnt s1;have hbl1:=s1 _ _ hbl;have ba1:BsA H1 as bs:=ba.keep (Same.tps s1);apply av (λ R=>∀(la:QP)(kvs:QT (QT Key×V))(H':Hp),H1 la=none->H' la=some (.dT kvs)->LtsA H' kvs (lev bs ws 0)->Same H1 H'->R [↑bl,↑wt,↑nt,↑la,none,none,none,none] H') (λ Dd hR=>?_) ?_
 ·intro la hla;apply aK hla λ H2 k2 s2=>?_;apply%[_,O,zS0|λ el hel=>?_];apply aK hel λ H3 k3 s3=>?_;have hw3:H3 wt= ~~~((bK ws).map kV):=by rw[dh];exact s3 _ _ (s2 _ _ (s1 _ _ hwt))
  have h3:H3 la=some (.dT []):=s3 _ _ k2;apply%[h3,wt,bK ws,O,hw3|hR la _ _ hla ah (.cons %[O,el,[],O,?_|.nil] .nil) (λ c o e=>?_)]
  ·rw[am (λ z=>by rw[z,h3]at k3;cases k3)];exact k3
  ·rw[am (ak e hla)];exact s3 _ _ (s2 _ _ e)
 rintro la kvs H2 hla h2 lt2 s2;have h0':∀x∈ws,0<=x:=h0;apply bH (λ σ' H'=>∃(la:QP)(kvs:QT (QT Key×V))(v4 v5 v6 v7:QR V),σ'=[↑bl,↑wt,↑nt,↑la,v4,v5,v6,v7]/\H' la=some (.dT kvs)/\LtsA H' kvs (lev bs ws Kn)/\Same H1 H') (λ R hR=>?_) ?_
 ·apply%[λ mm σ' H'=>∃k,k<=Kn/\mm=Kn - k/\∃(la:QP)(kvs:QT (QT Key×V))(v4 v5 v6 v7:QR V),σ'=[↑bl,↑wt,↑nt,↑la,v4,v5,v6,v7]/\H1 la=none/\H' la=some (.dT kvs)/\LtsA H' kvs (lev bs ws k)/\Same H1 H',%[_,0,F2 _,O,la,kvs,none,none,none,none,O,hla,h2,lt2|s2]|?_];intro mm σ Hx hI9;apply br λ G9 k9=>?_;obtain⟨k,kK,rfl,la,kvs,v4,v5,v6,v7,rfl,hla,hlx,ltx,sx⟩:=hI9;apply k9 ?_;have hntx:Hx nt= ~~~((bK (aB ws.length)).map kV):=by rw[dh];exact sx _ _ hnt
  apply%[_,O,_,O,la,_,O,DGet.t (k:=bK (aB ws.length)) hlx hntx,_,O|?_]
  by_cases ck:k=Kn
  ·subst ck;have zm:aB ws.length∈(lev bs ws k).map (·.1):=C2 hk;obtain⟨v,hv,_⟩:=(ltx.val _).1 zm;rw[hv];exact be (hR _ _ %[la,kvs,v4,v5,v6,v7,rfl,hlx,ltx|sx])
  have kl:k < Kn:=⋯
  have zn:aB ws.length∉(lev bs ws k).map (·.1):=of_decide_eq_false (hk0 k kl);rw[(ltx.val _).2 zn];apply ce %[λ σ' H'=>∃(la:QP)(kvs:QT (QT Key×V))(v4 v5 v6 v7:QR V),σ'=[↑bl,↑wt,↑nt,↑la,v4,v5,v6,v7]/\H1 la=none/\H' la=some (.dT kvs)/\LtsA H' kvs (lev bs ws (k+1))/\Same H1 H',λ σ' H' h=>%[Kn - (k+1),⋯,k+1,kl,rfl|h]|?_];apply av (λ R=>∀(ng:QP)(H':Hp),Hx ng=none->H' ng=some (.dT [])->Same Hx H'->R [↑bl,↑wt,↑nt,↑la,↑ng,v5,v6,v7] H') (λ Dd hR=>?_) ?_
  ·intro ng hng;apply aK hng λ H3 k3 s3=>?_;exact hR ng _ hng k3 s3
  rintro ng H3 hng h3 s3;have nln:la≠ng:=ak hlx hng;have lok:=gg h0 bok k;have lnd:=uS bs ws k;have kvl:=E7 ltx;have l64:(lev bs ws k).length<=64:=by have:=InB.few h0 w6 lnd (λ x hx=>by obtain⟨r,hr,rfl⟩:=J6.mp hx;exact(lok r hr).1);rw[B5]at this;exact this
  apply av (λ R=>∀(v5 v6 v7:QR V)(H':Hp),LgI ng ws H' (lev bs ws (k+1))->Sg (· = la) ng H3 H'->R [↑bl,↑wt,↑nt,↑la,↑ng,v5,v6,v7] H') (λ Dd hR=>?_) ?_
  ·apply%[_,O,la,kvs,O,s3 _ _ hlx|λ ob=>?_];have hf:(upd H3 la (.frz ob (.dT kvs))) la=some (.frz ob (.dT kvs)):=ah;have sf0:Sf (· = la) H3 (upd H3 la (.frz ob (.dT kvs))):=λ c o e=>by
    by_cases z:c=la
    ·subst z;rw[s3 _ _ hlx]at e;cases e;exact .inr %[O,ob,_,O|ah]
    ·rw[am z];exact .inl e
   generalize upd H3 la (.frz ob (.dT kvs))=H4 at hf sf0 ⊢;have lt4:LtsA H4 kvs (lev bs ws k):=(ltx.keep (fu s3)).keep (Bh sf0);have k14:Kp H1 H4:=((fu sx).trans (fu s3)).trans (Bh sf0);apply uy (λ i σ' H'=>∃v5 v6 v7:QR V,σ'=[↑bl,↑wt,↑nt,↑la,↑ng,v5,v6,v7]/\LgI ng ws H' (hX [] (((lev bs ws k).take i).flatMap (qZ bs)))/\Sg (· = la) ng H4 H') ⟨v5,v6,v7,rfl,%[[],sf0.not (λ z:ng=la=>nln z.symm) h3,.nil,by simp[hX]|(λ x hx=>by cases hx)],Sg.refl _⟩ (λ i σ Hy _ h9=>by obtain⟨_,_,_,_,_,sy⟩:=h9;exact sy.frz hf) ?_ ?_
   ·rintro i kk v pa qa σ Hy hi hpa hqa ⟨v5,v6,v7,rfl,iy,sy⟩;obtain⟨r,hr,hk1,l,las,e,hl,bl1⟩:=J0 lt4 hi;have e:v=.ref l:=e;subst e;have hkk:kk=bK r.1:=hk1;obtain⟨ir,rlen,rmem,_⟩:=lok r (B7 hr);rw[hkk,dh]at hqa;apply aK hpa λ H5 k5 s5=>?_;have k45:Kp H4 H5:=(yn sy).trans (fu s5);have tk:((lev bs ws k).take (i+1)).flatMap (qZ bs)=((lev bs ws k).take i).flatMap (qZ bs) ++ qZ bs r:=by rw[K0,hr,K8,Pw,PN,List.flatMap_nil,N0]
    obtain⟨R1,eR1⟩:∃R1,R1=hX [] (((lev bs ws k).take i).flatMap (qZ bs)):=%[_|O]
    rw[<- eR1]at iy;apply%[pa,_,O,G6 k5,O,_,_,O,_,_,O,O|?_];have hbl5:H5 bl=↥(as.map V.ref):=(k14.trans k45).2 _ _ hbl1;apply%[_,O,bl,O,%[_|G7 hbl5]|cU (xs:=as.map V.ref) (λ j σ' H'=>∃v7:QR V,σ'=[↑bl,↑wt,↑nt,↑la,↑ng,↑qa,↑l,v7]/\LgI ng ws H' (hX R1 ((bs.take j).map λ c=>(aZ r.1 c,r.2 ++ [c])))/\Sg (· = la) ng H5 H') %[v7,O,by rw[List.take_zero];exact LgI.keep (F:=λ _=>False) s5 iy|Sg.refl _] (λ j σ Hz _ h9=>by obtain⟨_,_,_,sz⟩:=h9;exact G7 (sz.lst hbl5)) ?_ ?_]
    ·rintro j x σ Hz hj ⟨v7,rfl,iz,sz⟩;rw[J3]at hj;obtain⟨ca,hca,rfl⟩:=J9.mp hj;obtain⟨c,hc,hcc⟩:=J0 ba1 hca;obtain⟨c1,c2⟩:=bok c (B7 hc);have kz:Kp H4 Hz:=k45.trans (yn sz);have hcz:Hz ca= ~~~(bV c):=(k14.trans kz).1 _ _ hcc;have hqz:Hz qa= ~~~(bV r.1):=sz.tps _ _ (s5 _ _ hqa);have el:r.1.length=c.length:=by rw[ir.1,c1]
     apply%[_,O,.inr (.inr (.inl %[O|.inr (let ⟨kv,h,_⟩:=iz;%[kv|h])])),_,O,_,O,qa,ca,r.1,c,O,hqz,hcz,el,by rw[ir.1];exact w8|λ ka H6 hka s6=>?_];apply%[_,O,_,O,zS1|λ nl hnl=>?_];apply aK hnl λ H7 k7 s7=>?_;have k47:Kp H4 H7:=kz.trans (fu (s6.trans s7));have lal:=E7 bl1;apply%[l,nl,_,_,O,O,k47.2 _ _ hl,k7,by rw[B5,lal,rlen];simp;lia|λ ol hol=>?_];rw[show las.map V.ref ++ [V.ref ca]=(las ++ [ca]).map V.ref by rw[J5];rfl];apply aK hol λ H8 k8 s8=>?_;have sz8:Same Hz H8:=(s6.trans s7).trans s8;have iw:InB ws (aZ r.1 c):=by have:=gg h0 bok (k+1) (aZ r.1 c,pH (lev bs ws (k+1)) (aZ r.1 c)) (kS (lev_next.mpr %[r.1,J6.mpr %[r,B7 hr|O],c,B7 hc|O]));exact this.1
     apply yo (F:=(· = la)) (lot:=r.2 ++ [c]) h0 w6 (LgI.keep (F:=λ _=>False) sz8 iz) (s8 _ _ (s7 _ _ hka)) iw %[ol,las ++ [ca],rfl,k8|Paired.app (bl1.keep (k47.trans (fu s8)).1) (.cons (sz8 _ _ hcz) .nil)] λ v' H9 i9 s9=>%[_,O,?_|(sz.trans (Same.sg sz8)).trans s9]
     rw[K0,hc,K8,J5,pF];exact i9
    ·rintro σ Hz ⟨v7,rfl,iz,sz⟩;apply%[_,_,_,O,?_|(sy.trans (Same.sg s5)).trans sz];rw[tk,pF,<- eR1];rw[B5,al,M0]at iz;exact iz
   ·rintro σ Hy ⟨v5,v6,v7,rfl,iy,sy⟩;rw[kvl,M0]at iy;exact hR v5 v6 v7 _ iy (sf0.sg.trans sy)
  rintro v5 v6 v7 H4 ⟨kv4,g1,g2,_⟩ s4;apply%[_,O,ng,kv4,_,_,_,_,O,sx.free hng,g1,g2|λ c o e=>?_];have ne1:c≠ng:=ak (sx _ _ e) hng;have ne2:¬ c=la:=λ z=>by rw[z,hla]at e;cases e
  exact s4.not ne1 ne2 (s3 _ _ (sx _ _ e))
 intro _ H3 hI9;apply br λ G9 k9=>?_;obtain⟨la,kvs,v4,v5,v6,v7,rfl,h3,lt3,s3⟩:=hI9;apply k9 ?_;have zm:aB ws.length∈(lev bs ws Kn).map (·.1):=C2 hk;obtain⟨v,hv,l,as',rfl,hl,ba'⟩:=(lt3.val _).1 zm;have hnt3:H3 nt= ~~~((bK (aB ws.length)).map kV):=by rw[dh];exact s3 _ _ hnt
 exact%[_,O,_,O,la,.ref l,O,hv ▸ DGet.t (k:=bK (aB ws.length)) h3 hnt3|q l as' H3 hl ba' (s1.trans s3)]
theorem zero_le{n:Nat}{c:SW}(l:c.length=n)(nn:NnB c)(h:leB c (aB n)=true):c.sum=0:=by
 have h1:=(kM (by rw[l];unfold aB;rw[K7]) h).1;have h2:=dL nn;have h3:(aB n).sum=0:=by
  unfold aB;clear h h1 l
  induction n with
  | zero=>rfl
  | succ n ih=>rw[O8,M7,ih];rfl
 lia
def FdW(b:Int)(ks:QT Kd)(fa:QP)(H:Hp):Prop:=∃(ss:QT ((Int×Int)×V))(m n:Nat),H fa=some (.dT (byP ss))/\kP b ks fa H ss/\ss.map (·.1)=aQ m n/\m<=8/\n<=8
def kW(n:Nat):Sp:=λ vs H Q _=>∃(fa pt gt ct:QP)(b:Int)(ks:QT Kd)(ss:QT ((Int×Int)×V))(m m':Nat)(p:Int×Int)(g c:SW),vs=[.ref fa,.ref pt,.ref gt,.ref ct]/\iK b ks/\H fa=some (.dT (byP ss))/\kP b ks fa H ss/\ss.map (·.1)=aQ m m'/\p∈aQ m m'/\H pt= ~~~[.int p.1,.int p.2]/\H gt= ~~~(bV g)/\g∈gK b ks p/\H ct= ~~~(bV c)/\c.length=ks.length/\NnB c/\leB c g=true/\msr p < n /\
 ∀v' H',TrV H' (tbF b ks n p g c) v'->Same H H'->Q v' H'
theorem sctbb:FnScope ["found","part","greatest","bundle","step","way","p","first","first_greatest","second","second_greatest","ahead","behind","first_tree"] Ru (defScope bN):=nofun
theorem Cd{f:QP}{fd:G2}(F:Fun K "tree_by_bundle" "tree_by_bundle" bN f fd)(n:Nat)(B:Blt mg)(Z:BeC mg)(DCM:Dn P w K mg base "common" Rj 1 (nG))(DWI:Dn P w K mg base "without" Rp 1 (kU))(DT:Dn P w K mg base "tree_by_bundle" Ru (2+n) (kW n)):FnOk P w K mg base CX0 (2+(n+1)) f fd Ru (kW (n+1)):=by
 apply F.ok sctbb (λ vs H Q E h=>?_) (λ cdv A outer s H vs Q E hr h=>?_)
 ·apply br λ G9 k9=>?_;obtain⟨fa,pt,gt,ct,b,ks,ss,m,m2,p,g,c,rfl,_⟩:=h;apply k9 ?_
  rfl
 apply br λ G9 k9=>?_;obtain⟨fa,pt,gt,ct,b,ks,ss,m,m2,p,g,c,rfl,⟨b0,k1,k8,kw,w6⟩,hfa,fok,el,pm,hpt,hgt,gm,hct,cl,cn,cg,hn,q⟩:=h;apply k9 ?_;have nd:=sctbb.nd;have hu:=hr.units;have hu1:=C8 (PB (show 1<=64 by decide) _) hu;obtain⟨trs,hrs⟩:=Z.rs;obtain⟨tpc,hpc⟩:=Z.pc;apply%[_,((((@ay _ _ _ _ _ _ _ _ _ (je O) O B.sum PyProof.Rows.boot_sum ('3'^^^ae) ∅ ∅ O O)<*>dB<*>ag)<|>((@aJ _ _ _ _ _ ((bU (v:=.str "rest") O hrs %[trs|O])^^^ae))⁻¹)<|>aE)<<<((4∣(dS hu1 (dS hu1 '0' '1' (λ _ _=>O)) '2' (λ _ _=>O)))<<<(((('4'&&&ix_tup&&&ag)<*>dB<*>(bU (v:=.str "piece") O hpc %[tpc|O]))<|>('4'⁻¹)<|>aE)<<<((@cr _ _ _ _ _ _ '4' (bn O (5•(6•(ao (bn O (7•(8•aR))) (ao (bn O (9•(10•aR))) aR))))) O O O)<<<((11∣(@ap _ _ _ _ _ _ _ _ _ _ DCM (hr.mono (C7 ∅ (O6 2 n))) O ('3'^^^('8'^^^ae)) ∅ O O))<<<((12∣(@ap _ _ _ _ _ _ _ _ _ _ DWI (hr.mono (C7 ∅ (O6 2 n))) O ('3'^^^(';'^^^ae)) ∅ O O))<<<((13∣(DT∪('0'^^^('7'^^^('8'^^^(';'^^^ae))))))<<<((@aJ _ _ _ _ _ ('5'^^^('6'^^^('='^^^((DT∪('0'^^^('9'^^^(':'^^^('<'^^^ae)))))^^^ae)))))⁻¹))))))))|?_];dsimp only[bL];obtain⟨⟨p1,p2⟩,p3,p4⟩:=partsL_mem.mp pm;have wl:(wsK ks).length=ks.length:=B5 _;apply jL (λ R=>¬ c.sum=0->R [↑fa,↑pt,↑gt,↑ct,none,none,none,none,none,none,none,none,none,none] H) (λ R hR=>?_) ?_
 ·apply%[_,O,ct,c,O,G6 hct,O,_,O|?_]
  by_cases z:c.sum=0
  ·rw[show decide (V.int c.sum=V.int 0)=true from Qb (by rw[z])];apply ce %[zS1|λ a ha=>q (.ref a) _ ?_ (G5 ha)];unfold tbF;rw[Qa z];exact%[a,O|ah]
  ·rw[show decide (V.int c.sum=V.int 0)=false from Qc (λ e=>z (by injection e))];exact be (hR z)
 rintro z;obtain⟨v,hv,hm⟩:=gC (ss:=ss) (by rw[el];exact pm);obtain⟨d,kvs,rfl,nd',rd,rwd⟩:=fok _ _ hm;obtain⟨st,hst,sta⟩:=rwd.get (b:=g) gm;apply av (λ R=>R [↑fa,↑pt,↑gt,↑ct,some st,none,none,none,none,none,none,none,none,none] H) (λ Dd hR=>?_) ?_
 ·exact%[_,O,_,O,fa,.ref d,O,hv ▸ DGet.t (k:=pk p) hfa hpt,_,O,d,st,O,hst ▸ DGet.r (k:=bK g) rd (by rw[dh];exact hgt)|hR]
 skip
 have rok:=sN b0 p1 p3 gm;have tb:tbF b ks (n+1) p g c=match iI (gB b ks p) g with
   | .rest=>.rest
   | .piece k t=>.piece k.toNat t 0 0
   | .cut dn q f o s u=>.cut dn q (tbF b ks n f o (bA c o)) (tbF b ks n s u (aZ c (bA c o))):=by
  show(if c.sum=0 then _ else _)=_;rw[QZ z]
  try (cases iI (gB b ks p) g <;> rfl)
 generalize iI (gB b ks p) g=row at sta rok tb;cases row with
 | rest=>
  have rok:g=aB ks.length:=rok;rw[rok]at cg;exact absurd (zero_le cl cn cg) z
 | piece k t=>
  obtain⟨a,rfl,ha⟩:=sta;obtain⟨i,rfl,_⟩:=rok;apply bH (λ σ' H'=>False) (λ R hR=>?_) (λ _ _ z=>z.elim);apply%[_,O,a,_,0,_,O,O,G6 ha,O,O,_,O|?_];rw[Qb rfl];apply ce %[_,rfl|q _ _ ?_ (Same.refl _)];rw[tb];exact%[a,O|ha]
 | cut dn pq f o s2 u=>
  obtain⟨a,x,y,rfl,ha,⟨xa,x1,x2,rfl,hxa,hx1,hx2⟩,⟨ya,y1,y2,rfl,hya,hy1,hy2⟩⟩:=sta;obtain⟨cm,rfl,rfl,om,um,rfl⟩:=rok;obtain⟨⟨a1,a2,a3,a4,_,a6⟩,⟨c1,c2,c3,c4,_,c6⟩⟩:=ge b0 p1 p3 cm;have io:=bQ kw om;have iu:=bQ kw um;have mp:msr (p.1,p.2)=msr p:=rfl;have co:c.length=o.length:=by rw[io.1,wl,cl]
  apply av (λ R=>R [↑fa,↑pt,↑gt,↑ct,↑a,none,none,none,none,none,none,none,none,none] H) (λ Dd hR=>?_) ?_
  ·apply%[_,O,a,_,0,_,O,O,G6 ha,O,O,_,O|?_];rw[show decide (wv dn=V.str "piece")=false by cases dn <;> decide +kernel];exact be (hR)
  skip
  apply av (λ R=>R [↑fa,↑pt,↑gt,↑ct,↑a,some (wv dn),⇑pq,↑x1,↑x2,↑y1,↑y2,none,none,none] H) (λ Dd hR=>?_) ?_
  ·exact%[_,O,a,_,O,G6 ha,O,_,_,O,_,_,O,_,_,O,xa,_,O,G6 hxa,O,_,_,O,_,_,O,O,_,_,O,ya,_,O,G6 hya,O,_,_,O,_,_,O,O,O|hR]
  skip
  apply av (λ R=>∀(aa:QP)(H':Hp),H' aa= ~~~(bV (bA c o))->Same H H'->R [↑fa,↑pt,↑gt,↑ct,↑a,some (wv dn),⇑pq,↑x1,↑x2,↑y1,↑y2,↑aa,none,none] H') (λ Dd hR=>?_) ?_
  ·exact%[_,O,_,O,ct,x2,c,o,O,hct,hx2,co,⋯|λ aa H1 haa s1=>hR aa _ haa s1]
  rintro aa H1 haa s1;have cwl:c.length=(bA c o).length:=by rw[cB co]
  apply av (λ R=>∀(ba:QP)(H':Hp),H' ba= ~~~(bV (aZ c (bA c o)))->Same H1 H'->R [↑fa,↑pt,↑gt,↑ct,↑a,some (wv dn),⇑pq,↑x1,↑x2,↑y1,↑y2,↑aa,↑ba,none] H') (λ Dd hR=>?_) ?_
  ·exact%[_,O,_,O,ct,aa,c,bA c o,O,s1 _ _ hct,haa,cwl,⋯|λ ba H2 hba s2=>hR ba _ hba s2]
  rintro ba H2 hba s2;have s02:=s1.trans s2;have fok2:∀{Hx:Hp},Same H Hx->kP b ks fa Hx ss:=λ s q v mm=>let ⟨d,kvs,e,nn,rd,rw'⟩:=fok q v mm;%[d,kvs,e,nn,(Same.sf (F:=(· = fa)) s).rd rd|rw'.keep (Same.tps s)]
  apply av (λ R=>∀(v1:V)(H':Hp),TrV H' (tbF b ks n (dg p.1 p.2 (dn,pq)) o (bA c o)) v1->Same H2 H'->R [↑fa,↑pt,↑gt,↑ct,↑a,some (wv dn),⇑pq,↑x1,↑x2,↑y1,↑y2,↑aa,↑ba,some v1] H') (λ Dd hR=>?_) ?_
  ·exact%[_,O,_,O,_,O,_,O,fa,x1,x2,aa,b,ks,ss,m,m2,dg p.1 p.2 (dn,pq),o,bA c o,O,%[b0,k1,k8,kw|w6],s02 _ _ hfa,fok2 s02,el,partsL_mem.mpr %[%[a1|⋯],a2|⋯],s02 _ _ hx1,s02 _ _ hx2,om,s2 _ _ haa,by rw[cB co];exact cl,pj co cn io.2.2,pC co,⋯|λ v1 H3 t1 s3=>hR v1 _ t1 s3]
  rintro v1 H3 t1 s3;have s03:=s02.trans s3;apply%[_,O,_,O,_,O,_,O,_,O,_,O,_,O,fa,y1,y2,ba,b,ks,ss,m,m2,du b p.1 p.2 (dn,pq),u,aZ c (bA c o),O,%[b0,k1,k8,kw|w6],s03 _ _ hfa,fok2 s03,el,partsL_mem.mpr %[%[c1|⋯],c2|⋯],s03 _ _ hy1,s03 _ _ hy2,um,s3 _ _ hba,by rw[bv cwl];exact cl,iM cwl,yj (by rw[wl];exact cl) (by rw[io.1]) (by rw[iu.1]) cg iu.2.2,⋯|λ v2 H4 t2 s4=>%[zS4|λ ra hra=>q (.ref ra) _ ?_ ((s03.trans s4).trans (G5 hra))]];rw[tb];exact%[ra,v1,v2,O,ah,TrV.keep (λ _ _ e=>G5 hra _ _ (s4 _ _ e)) _ t1|TrV.keep (λ _ _ e=>G5 hra _ _ e) _ t2]
theorem Au{f:QP}{fd:G2}(F:Fun K "tree_by_bundle" "tree_by_bundle" bN f fd):FnOk P w K mg base CX0 2 f fd Ru (kW 0):=by
 apply F.ok sctbb (λ vs H Q E h=>?_) (λ cdv A outer s H vs Q E hr h=>?_)
 ·apply br λ G9 k9=>?_;obtain⟨fa,pt,gt,ct,b,ks,ss,m,m2,p,g,c,rfl,_⟩:=h;apply k9 ?_
  rfl
 ·apply br λ G9 k9=>?_;obtain⟨fa,pt,gt,ct,b,ks,ss,m,m2,p,g,c,_,_,_,_,_,_,_,_,_,_,_,_,_,z,_⟩:=h;apply k9 ?_;exact absurd z (F3 _)
theorem sO{f:QP}{fd:G2}(F:Fun K "tree_by_bundle" "tree_by_bundle" bN f fd)(B:Blt mg)(Z:BeC mg)(DCM:Dn P w K mg base "common" Rj 1 (nG))(DWI:Dn P w K mg base "without" Rp 1 (kU))(mk:∀n,FnOk P w K mg base CX0 (2+n) f fd Ru (kW n)->Dn P w K mg base "tree_by_bundle" Ru (2+n) (kW n)):∀n,FnOk P w K mg base CX0 (2+n) f fd Ru (kW n)
 | 0=>Au F
 | n+1=>Cd F n B Z DCM DWI (mk n (sO F B Z DCM DWI mk n))
def Sl(fl:QP)(H H':Hp):Prop:=∀b o,H b=some o->H' b=some o\/(b=fl/\∃xs ys,o=.lst xs/\H' b=↥ys)
theorem kX{fl:QP}{H H':Hp}(s:Same H H'):Sl fl H H':=λ b o e=>.inl (s b o e)
theorem Sl.trans{fl:QP}{H H1 H2:Hp}(a:Sl fl H H1)(b:Sl fl H1 H2):Sl fl H H2:=λ c o e=>by
 rcases a c o e with h | ⟨rfl,xs,ys,rfl,h⟩
 ·exact b c o h
 ·rcases b c _ h with h | ⟨_,_,zs,_,h⟩
  ·exact .inr %[O,xs,ys,O|h]
  ·exact .inr %[O,xs,zs,O|h]
theorem Sl.tps{fl:QP}{H H':Hp}(s:Sl fl H H'):Tps H H':=λ b xs e=>(s b _ e).resolve_right λ%[_,_,_,z|_]=>by cases z
theorem Sl.dT{fl:QP}{H H':Hp}(s:Sl fl H H'){b:QP}{kvs:QT (QT Key×V)}(e:H b=some (.dT kvs)):H' b=some (.dT kvs):=(s b _ e).resolve_right λ%[_,_,_,z|_]=>by cases z
theorem Sl.lst{fl:QP}{H H':Hp}(s:Sl fl H H'){b:QP}{o:HO}(n:b≠fl)(e:H b=some o):H' b=some o:=(s b _ e).resolve_right λ%[z|_]=>n z
theorem Sl.same{fl:QP}{H H':Hp}(s:Sl fl H H')(n:H fl=none):Same H H':=λ b o e=>s.lst (λ z=>by rw[z,n]at e;cases e) e
theorem Sl.rd{fl:QP}{H H':Hp}(s:Sl fl H H'){b:QP}{kvs:QT (QT Key×V)}(e:Rd H b (.dT kvs)):Rd H' b (.dT kvs):=by
 rcases e with e | ⟨o,e⟩
 ·exact .inl (s.dT e)
 ·exact .inr %[o|(s b _ e).resolve_right λ%[_,_,_,z|_]=>by cases z]
def kY(bs:SX)(ws:SW):Nat:=((List.range 7).find? (hit bs ws)).getD 0
def Av(b:Int)(ks:QT Kd)(p:Int×Int):SX:=pH (lev (gK b ks p) (wsK ks) (kY (gK b ks p) (wsK ks))) (aB ks.length)
def kZ(b:Int)(ks:QT Kd)(p:Int×Int):SW->SX->QT Tr
 | _,[]=>[]
 | ms,g :: r=>tbF b ks 17 p g (bA ms g) :: kZ b ks p (aZ ms (bA ms g)) r
def lD:SW->SX->SW
 | ms,[]=>ms
 | ms,g :: r=>lD (aZ ms (bA ms g)) r
theorem pI(ms:SW):∀(a b:SX),lD ms (a ++ b)=lD (lD ms a) b
 | [],_=>rfl
 | g :: a,b=>pI _ a b
theorem pJ(b:Int)(ks:QT Kd)(p:Int×Int)(ms:SW):∀(a c:SX),kZ b ks p ms (a ++ c)=kZ b ks p ms a ++ kZ b ks p (lD ms a) c
 | [],_=>rfl
 | g :: a,c=>by show _ :: kZ b ks p _ (a ++ c)=_ :: _;rw[pJ b ks p _ a c];rfl
theorem ld(b:Int)(ks:QT Kd)(p:Int×Int):∀(ms:SW)(a:SX),(kZ b ks p ms a).length=a.length
 | _,[]=>rfl
 | _,_ :: a=>by rw[kZ,K1,K1,ld b ks p _ a]
theorem awF_iff{ks:QT Kd}{p:Int×Int}:awF ks p=true↔∀i,i < ks.length->waA ks i=0\/i∈lC ks p:=by
 unfold awF awf;rw[List.all_map,Pz];constructor
 ·intro h i hi;have:=h i (N9.mpr hi);simpa using this
 ·intro h i hi;simpa using h i (N9.mp hi)
theorem nH{b:Int}{ks:QT Kd}{p:Int×Int}(gd:iK b ks)(p1:1<=p.1)(p2:1<=p.2)(aw:awF ks p=true):kY (gK b ks p) (wsK ks)<=6/\hit (gK b ks p) (wsK ks) (kY (gK b ks p) (wsK ks))=true/\∀k,k < kY (gK b ks p) (wsK ks)->hit (gK b ks p) (wsK ks) k=false:=by
 obtain⟨b0,k1,k8,kw,w6⟩:=gd;have wl:(wsK ks).length=ks.length:=B5 _;have hb:∀c∈gK b ks p,c.length=(wsK ks).length/\NnB c:=λ c hc=>%[(bQ kw hc).1|(bQ kw hc).2.2]
 obtain⟨j,j1,j2⟩:=Ar (bs:=gK b ks p) (ws0 kw) hb (λ i w hw w0=>by
  rw[J3]at hw;obtain⟨k,hk,rfl⟩:=J9.mp hw;have il:i < ks.length:=(A7.mp hk).1;have wk:waA ks i=k.wa:=by unfold waA;rw[hk];rfl
  have fi:i∈lC ks p:=(awF_iff.mp aw i il).resolve_left (by rw[wk];lia);unfold lC at fi;obtain⟨q,hq,rfl⟩:=J6.mp fi;have mm:bO ks.length q.1∈(bt b ks (gB b ks) p).map (·.1):=by unfold bt;apply adds_keys.mpr (.inl (adds_keys.mpr (.inr (J6.mpr %[(bO ks.length q.1,.piece q.1 q.2),N6.mpr %[q,hq|?_]|O]))));unfold lyR;rw[wk,Qa w0];exact E6.mpr rfl
  obtain⟨t,mt,lt⟩:=sK (ws:=wsK ks) (λ y hy=>gE kw (λ c _=>%[λ r hr=>kO kw hr|λ r hr=>kO kw hr]) hy) mm;rw[<- pe b0 p p1 p2]at mt;obtain⟨z,hz⟩:=atB (a:=t) (i:=q.1) (by rw[(bQ kw mt).1,wl];exact il);apply%[t,mt,z,hz|?_];have oi:(bO ks.length q.1)[q.1]?=some 1:=by unfold bO;rw[J3,Px il];simp
  exact(aS (by rw[eU,(bQ kw mt).1,wl])).mp lt q.1 1 z oi hz) 6 0 (wsK ks) (E6.mpr rfl) (by exact_mod_cast w6)
 rw[QK]at j2;cases e:(List.range 7).find? (hit (gK b ks p) (wsK ks))with
 | none=>
  have:=List.find?_eq_none.mp e j (N9.mpr ⋯);exact absurd j2 this
 | some K=>
  obtain⟨h1,h2,h3⟩:=List.find?_range_eq_some.mp e;have h2:=N9.mp h2;have ek:kY (gK b ks p) (wsK ks)=K:=by unfold kY;rw[e];rfl
  rw[ek];exact%[⋯,h1|λ k hk=>by have:=h3 k hk;simpa using this]
def yq(C:QP):Sp:=λ vs H Q _=>∃(s:QP)(b:Int)(ks:QT Kd)(m n:Nat),vs=[.ref s,.int m,.int n]/\ShopAt C H s b ks/\iK b ks/\1<=m/\m<=8/\1<=n/\n<=8 /\
 (awF ks (m,n)=false->∀H',Same H H'->Q .non H')/\(awF ks (m,n)=true->∀(r tl:QP)(us:QT V)(H':Hp),H tl=none->H' r= ~~~[.int (Av b ks (m,n)).length,.ref tl]->H' tl=↥us->Paired (λ v t=>TrV H' t v) us (kZ b ks (m,n) (wsK ks) (Av b ks (m,n)))->Same H H'->Q (.ref r) H')
theorem scfewo:FnScope ["shop","wide","high","plate","found","missing","trees","greatest","bundle"] Rc (defScope gA):=nofun
theorem Aw{f:QP}{fd:G2}(F:Fun K "fewest_of" "fewest_of" gA f fd){C:QP}(B:Blt mg)(T:ShopTxt K C)(MW:Mn P w K mg base C "wanted" RV 1 (dG C))(DCK:Dn P w K mg base "check_small" Rc 3 ((xX C)))(DAW:Dn P w K mg base "all_wanted_fit" Rr 6 ((Bg C)))(DGS:Dn P w K mg base "greatest_steps" Rc 7 ((kQ C)))(DFB:Dn P w K mg base "fewest_bundles" Rt 2 (yp))(DCM:Dn P w K mg base "common" Rj 1 (nG))(DWI:Dn P w K mg base "without" Rp 1 (kU))(DTB:Dn P w K mg base "tree_by_bundle" Ru 19 ((kW 17))):FnOk P w K mg base CX0 20 f fd Rc (yq C):=by
 exists scfewo;apply br λ G9 k9=>?_;obtain⟨s,b,ks,m,n,rfl,S0,gd,m1,m8,n1,n8,q0,q⟩:=h;apply k9 ?_;have hu:=hr.units;have hu1:=C8 (PB (show 1<=64 by decide) _) hu;apply%[_,((@bj _ _ _ _ (DCK∩('0'^^^('1'^^^('2'^^^ae)))) O)<<<((3∣(@aJ _ _ _ _ _ ('1'^^^('2'^^^ae))))<<<(((@bf _ _ _ _ (@aW _ _ _ (DAW∩('0'^^^('3'^^^ae))) (by intro _;rfl)))<|>(fL⁻¹)<|>aE)<<<((4∣(DGS∩('0'^^^('1'^^^('2'^^^ae)))))<<<((5∣(eA '0' T.cl MW (hr.mono ∅)))<<<((6∣(@bh _ _ _ _ ae))<<<((@bE _ _ _ _ _ _ _ _ E8 O (bC (DFB∩((@aU _ _ _ _ _ _ _ _ _ (kH O) O B.list PyProof.Rows.boot_list ((dS hu1 '4' '3' (λ _ _=>O))^^^ae) ∅ ∅ O O)^^^('5'^^^ae)))) (aj (i:=7) nd O (Or.inl O)) ((8∣(DCM∩('5'^^^('7'^^^ae))))<<<((@bj _ _ _ _ (@fS _ _ _ _ _ _ _ _ _ _ _ _ F9 PySem.F.slot_list_append PySem.F.type_list_append cx '6' ((DTB∪('4'^^^('3'^^^('7'^^^('8'^^^ae)))))^^^ae) O O O O O) O)>>>(5∣(DWI∩('5'^^^('8'^^^ae)))))) (by intro _;rfl))<<<((@aJ _ _ _ _ _ ((@ay _ _ _ _ _ _ _ _ _ aN O B.len PySem.boot_len ('6'^^^ae) ∅ ∅ O O)^^^('6'^^^ae)))⁻¹))))))))|?_];dsimp only[bL];have z4:4096<=sizeLine:=∅
 obtain⟨b0,k1,k8,kw,w6⟩:=id gd;have wl:(wsK ks).length=ks.length:=B5 _;obtain⟨dx,r0,rs0,g1,g2,g3⟩:=id S0;apply av (λ R=>∀(H':Hp),Same H H'->R [↑s,⇑m,⇑n,none,none,none,none,none,none] H') (λ Dd hR=>?_) ?_
 ·exact%[_,O,_,O,_,O,s,b,m,n,ks,O,S0,k8,⋯,⋯,⋯,⋯,w6|λ H' s'=>hR _ s']
 rintro H1 s1;apply av (λ R=>∀(pl:QP)(H':Hp),H' pl= ~~~[.int (m:Int),.int (n:Int)]->Same H H'->R [↑s,⇑m,⇑n,↑pl,none,none,none,none,none] H') (λ Dd hR=>?_) ?_
 ·apply%[_,O,_,O,zS2|λ pl hpl=>?_];apply aK hpl λ H2 k2 s2=>?_;exact hR pl _ k2 (s1.trans s2)
 rintro pl H2 hpl s2;have keepS:∀{Hx:Hp},Same H Hx->ShopAt C Hx s b ks:=λ sx=>S0.keep (λ _ _ e=>sx _ _ e) (λ _ _ _ _ e=>sx _ _ e);apply jL (λ R=>∀(H':Hp),awF ks (m,n)=true->Same H2 H'->R [↑s,⇑m,⇑n,↑pl,none,none,none,none,none] H') (λ R hR=>?_) ?_
 ·apply%[_,O,_,O,s,pl,b,ks,((m:Int),(n:Int)),O,keepS s2,k8,hpl|λ H3 s3=>%[_,O|?_]];cases e:awF ks (m,n)with
  | false=>exact ce (q0 e _ (s2.trans s3))
  | true=>exact be (hR _ e s3)
 rintro H3 aw s3';have s3:=s2.trans s3';obtain⟨fk6,fkh,fk0⟩:=nH (p:=((m:Int),(n:Int))) gd (by show(1:Int)<=m;lia) (by show(1:Int)<=n;lia) aw;apply av (λ R=>∀(fa:QP)(ss:QT ((Int×Int)×V))(H':Hp),H' fa=some (.dT (byP ss))->ss.map (·.1)=aQ m n->kP b ks fa H' ss->Same H3 H'->R [↑s,⇑m,⇑n,↑pl,↑fa,none,none,none,none] H') (λ Dd hR=>?_) ?_
 ·exact%[_,O,_,O,_,O,s,b,ks,m,n,O,keepS s3,gd,m1,m8,n1,n8|λ fa ss H' a1 a2 a3 a4 _ a6=>hR fa ss _ a2 a3 a4 a6]
 rintro fa ss H4 hfa el fok s4;have s04:=s3.trans s4;apply av (λ R=>∀(wt:QP)(H':Hp),H' wt= ~~~(bV (wsK ks))->Same H4 H'->R [↑s,⇑m,⇑n,↑pl,↑fa,↑wt,none,none,none] H') (λ Dd hR=>?_) ?_
 ·apply%[_,O,s,dx,_,O,s04 _ _ g1,bP _ _ ∅ ∅,s,b,ks,O,keepS s04,k8|λ wt H5 _ hwt s5=>hR wt _ ?_ s5];rw[hwt,bV,N7];rfl
 rintro wt H5 hwt s5;apply av (λ R=>∀(tl:QP)(H':Hp),H5 tl=none->H' tl=↥[]->Same H5 H'->R [↑s,⇑m,⇑n,↑pl,↑fa,↑wt,↑tl,none,none] H') (λ Dd hR=>?_) ?_
 ·apply%[zS0|λ tl htl=>?_];apply aK htl λ H6 k6 s6=>?_;exact hR tl _ htl k6 s6
 rintro tl H6 htl0 htl s6;have s46:=s5.trans s6;have s06:=s04.trans s46;have fokS:∀{Hx:Hp},Sl tl H6 Hx->kP b ks fa Hx ss:=λ sx q v mm=>by obtain⟨d,kvs,e,nn,rd,rw'⟩:=fok q v mm;exact%[d,kvs,e,nn,sx.rd ((Same.sf (F:=(· = fa)) s46).rd rd)|rw'.keep λ a xs e=>sx.tps _ _ (s46 _ _ e)]
 have pm:((m:Int),(n:Int))∈aQ m n:=partsL_mem.mpr %[%[by show(1:Int)<=m;lia|E9 _],by show(1:Int)<=n;lia|E9 _];obtain⟨v,hv,hm⟩:=gC (ss:=ss) (by rw[el];exact pm);obtain⟨d,kvs,rfl,nd',rd,rwd⟩:=fok _ _ hm;obtain⟨lot,elot⟩:∃lot,lot=Av b ks (m,n):=%[_|O]
 have hb:∀c∈gK b ks ((m:Int),(n:Int)),c.length=(wsK ks).length/\NnB c:=λ c hc=>%[(bQ kw hc).1|(bQ kw hc).2.2]
 have lok:=gg (ws0 kw) hb _ _ (kS (C2 fkh));rw[wl]at lok;have lot6:lot.length<=6:=by rw[elot];exact C7 (QM lok.2.1) fk6
 have lotm:∀g∈lot,g∈gK b ks ((m:Int),(n:Int)):=by rw[elot];exact lok.2.2.1
 apply bH (λ σ' H'=>∃(ma:QP)(us:QT V)(v7 v8:QR V),σ'=[↑s,⇑m,⇑n,↑pl,↑fa,↑ma,↑tl,v7,v8]/\H' tl=↥us/\Paired (λ v t=>TrV H' t v) us (kZ b ks (m,n) (wsK ks) lot)/\Same H H') (λ R hR=>?_) ?_
 ·apply%[_,O,_,O,fa,.ref d,O,hv ▸ DGet.t (k:=pk ((m:Int),(n:Int))) (s46 _ _ hfa) (s46 _ _ (s4 _ _ (s3' _ _ hpl))),d,kvs,O,(Same.sf (F:=(· = fa)) s46).rd rd|λ l as hl pas=>?_];apply aK hl λ H7 k7 s7=>?_;have rw7:RwsA H7 kvs (gB b ks ((m:Int),(n:Int))):=rwd.keep λ a xs e=>s7 _ _ (s46 _ _ e);have ba:BsA H7 as (gK b ks ((m:Int),(n:Int))):=by
   have:∀(as:QT QP)(kv:QT (QT Key×V))(rs:Rws),Paired (λ (b:QP)(kv:QT Key×V)=>H6 b= ~~~(kv.1.map kV)) as kv->RwsA H7 kv rs->BsA H7 as (rs.map (·.1)):=λ as kv rs h1 h2=>by
    induction h2 generalizing as with
    | nil=>cases h1;exact .nil
    | cons x _ ih=>cases h1 with
     | cons y z=>exact .cons (by rw[x.1,dh]at y;exact s7 _ _ y) (ih _ z)
   exact this as kvs _ pas rw7
  have g64:(gK b ks ((m:Int),(n:Int))).length<=64:=InB.few (ws0 kw) w6 (by rw[pe b0 _ (by show(1:Int)<=m;lia) (by show(1:Int)<=n;lia)];exact dM (bY _ _ _ _)) (λ x hx=>bQ kw hx);apply%[_,O,l,wt,as,gK b ks ((m:Int),(n:Int)),wsK ks,_,O,k7,ba,g64,hb,s7 _ _ (s6 _ _ hwt),by rw[wl];exact k8,ws0 kw,w6,fk6,fkh,fk0|λ l2 as2 H8 hl2 ba2 s8=>?_];rw[wl]at ba2;have ba2:BsA H8 as2 lot:=by rw[elot];exact ba2
  have al2:=E7 ba2;have s68:=s7.trans s8;apply%[l2,O,%[_|G7 hl2]|cU (xs:=as2.map V.ref) (λ i σ' H'=>∃(ma:QP)(us:QT V)(v7 v8:QR V),σ'=[↑s,⇑m,⇑n,↑pl,↑fa,↑ma,↑tl,v7,v8]/\H' ma= ~~~(bV (lD (wsK ks) (lot.take i)))/\(lD (wsK ks) (lot.take i)).length=ks.length/\NnB (lD (wsK ks) (lot.take i))/\H' tl=↥us/\Paired (λ v t=>TrV H' t v) us (kZ b ks (m,n) (wsK ks) (lot.take i))/\Sl tl H8 H'/\H' l2=↥(as2.map V.ref)) %[wt,[],none,none,O,s8 _ _ (s7 _ _ (s6 _ _ hwt)),wl,ws0 kw,s8 _ _ (s7 _ _ htl),.nil,kX (Same.refl _)|hl2] (λ i σ Hx _ h9=>by obtain⟨_,_,_,_,_,_,_,_,_,_,_,h⟩:=h9;exact G7 h) ?_ ?_]
  ·intro i x σ Hx hi hI9;apply br λ G9 k9=>?_;obtain⟨ma,us,v7,v8,rfl,hma,ml,mn,hus,pus,sx,hl2x⟩:=hI9;apply k9 ?_;have hin:i < as2.length:=by have:=(A7.mp hi).1;rw[B5]at this;exact this
   rw[J3]at hi;obtain⟨ga,hga,rfl⟩:=J9.mp hi;obtain⟨g,hg,hgg⟩:=J0 ba2 hga;have gm:=lotm g (B7 hg);have ig:=bQ kw gm;have hgx:Hx ga= ~~~(bV g):=sx.tps _ _ hgg;have tk:lot.take (i+1)=lot.take i ++ [g]:=by rw[K0,hg];rfl
   obtain⟨ms,ems⟩:∃ms,ms=lD (wsK ks) (lot.take i):=%[_|O]
   rw[<- ems]at hma ml mn;have mg':ms.length=g.length:=by rw[ml,ig.1,wl]
   have ul:=E7 pus;rw[ld,K4]at ul;have nlt:l2≠tl:=λ z=>by
    rw[z,hus]at hl2x;injection hl2x with h
    injection h with h
    have:=Qu List.length h;rw[B5]at this;lia
   apply av (λ R=>∀(ba:QP)(H':Hp),H' ba= ~~~(bV (bA ms g))->Same Hx H'->R [↑s,⇑m,⇑n,↑pl,↑fa,↑ma,↑tl,↑ga,↑ba] H') (λ Dd hR=>?_) ?_
   ·exact%[_,O,_,O,ma,ga,ms,g,O,hma,hgx,mg',⋯|λ ba H9 hba s9=>hR ba _ hba s9]
   rintro ba H9 hba s9;have sl69:Sl tl H6 H9:=(kX s68).trans (sx.trans (kX s9));have cml:=cB mg';apply av (λ R=>∀(v1:V)(H':Hp),H' tl=↥(us ++ [v1])->Paired (λ v t=>TrV H' t v) (us ++ [v1]) (kZ b ks (m,n) (wsK ks) (lot.take (i+1)))->Sl tl H9 H'->R [↑s,⇑m,⇑n,↑pl,↑fa,↑ma,↑tl,↑ga,↑ba] H') (λ Dd hR=>?_) ?_
   ·apply%[_,O,.inl %[O,_|G7 (s9 _ _ hus)],_,O,_,O,_,O,_,O,fa,pl,ga,ba,b,ks,ss,m,n,((m:Int),(n:Int)),g,bA ms g,O,gd,sl69.dT (s46 _ _ hfa),fokS sl69,el,pm,sl69.tps _ _ (s46 _ _ (s4 _ _ (s3' _ _ hpl))),s9 _ _ hgx,gm,hba,⋯,pj mg' mn ig.2.2,pC mg',by show((m:Int)+(n:Int)).toNat < 17;lia|λ v1 Ha t1 sa=>?_];have hua:Ha tl=↥us:=sa _ _ (s9 _ _ hus);have slu:Sl tl Ha (upd Ha tl (.lst (us ++ [v1]))):=λ c o e=>by
     by_cases z:c=tl
     ·subst z;rw[hua]at e;cases e;exact .inr %[O,_,_,O|ah]
     ·rw[am z];exact .inl e
    apply%[tl,us,v1,O,O,hua,⋯|hR v1 _ ah ?_ ((kX sa).trans slu)];rw[tk,pJ,<- ems];exact Paired.app (G8 pus λ v t h=>TrV.keep (λ _ _ e=>slu.tps _ _ (sa _ _ (s9 _ _ e))) t h) (.cons (TrV.keep slu.tps _ t1) .nil)
   rintro v1 Ha hua pua sa;apply%[_,O,_,O,ma,ba,ms,bA ms g,O,sa.tps _ _ (s9 _ _ hma),sa.tps _ _ hba,⋯,⋯|λ na Hb hna sb=>?_];have em:lD (wsK ks) (lot.take (i+1))=aZ ms (bA ms g):=by rw[tk,pI,<- ems];rfl
   apply%[na,us ++ [v1],_,_,O,by rw[em];exact hna,by rw[em,bv ⋯];exact ml,by rw[em];exact iM ⋯,sb _ _ hua,G8 pua λ v t h=>TrV.keep (λ _ _ e=>sb _ _ e) t h,(sx.trans (kX s9)).trans (sa.trans (kX sb))|sb _ _ (sa.lst nlt (s9 _ _ hl2x))]
  ·intro σ Hx hI9;apply br λ G9 k9=>?_;obtain⟨ma,us,v7,v8,rfl,hma,ml,mn,hus,pus,sx,_⟩:=hI9;apply k9 ?_;rw[B5,al2,M0]at pus;apply hR _ _ %[ma,us,v7,v8,rfl,hus,pus|?_];exact(s04.trans s5).trans (((kX (s6.trans s68)).trans sx).same htl0)
 intro _ H7 hI9;apply br λ G9 k9=>?_;obtain⟨ma,us,v7,v8,rfl,hus,pus,s7⟩:=hI9;apply k9 ?_;have ul:=E7 pus;rw[ld]at ul;apply%[_,O,tl,_,O,.inl (G7 hus),_,O,zS2|λ r hr=>?_];apply q aw r tl us _ ((s04.trans s5).free htl0) ?_ (G5 hr _ _ hus) ?_ (s7.trans (G5 hr))
 ·rw[ah,ul,elot]
 ·rw[<- elot];exact G8 pus λ v t h=>TrV.keep (λ _ _ e=>G5 hr _ _ e) t h
def lnL(k:Kd):QT (Int×Int):=if k.tu && !decide (k.w=k.h)then[(k.w,k.h),(k.h,k.w)]else[(k.w,k.h)]
def cZ(k:Kd)(w h:Int):Bool:=(lnL k).any λ q=>decide (q.1<=w) && decide (q.2<=h)
theorem sccell:FnScope Rv Rv (defScope sE):=nofun
theorem Ax{f:QP}{fd:G2}(F:Fun K "_law_cell" "_law_cell" sE f fd)(B:Blt mg):FnOk P w K mg base CX0 1 f fd Rv (xt K):=by
 exists sccell;obtain⟨a,ns,n,rfl,hS,n0,q⟩:=h;apply%[_,((('1'<*>wK<*>(@ay _ _ _ _ _ _ _ _ _ aN O B.len Qn ('0'^^^ae) ∅ ∅ O O))<|>(('0'&&&ix_list&&&'1')⁻¹)<|>aE)<<<(ag⁻¹))|?_];dsimp only[bL];have hl:(ns.map V.int).length=ns.length:=B5 _;apply%[_,O,_,O,a,_,O,.inl hS,_,_,O,O,_,O|?_];apply bW (λ c=>?_) (λ c=>?_)
 ·have c':n < ((ns.map V.int).length:Int):=C2 c;rw[hl]at c';have hk:n.toNat < ns.length:=⋯
  have hv:atI (ns.map V.int) n=some (.int ns[n.toNat]):=di n0 (by rw[J3,F5 hk];rfl);exact%[_,O,_,O,a,_,_,_,O,O,hS,hv|q _]
 ·exact q _
theorem scpot:FnScope Rx Rx (defScope Af):=nofun
theorem Ce{f:QP}{fd:G2}(F:Fun K "_law_pot" "_law_pot" Af f fd)(B:Blt mg):FnOk P w K mg base CX0 1 f fd Rx (xu):=by
 exists scpot;obtain⟨c,rfl,q⟩:=h;apply%[_,((@bh _ _ _ _ ((@ay _ _ _ _ _ _ _ _ _ (iS O) O B.max PyProof.Rows.boot_max (ag^^^(((@ay _ _ _ _ _ _ _ _ _ nV O B.abs PyProof.Rows.boot_abs ('0'^^^ae) ∅ ∅ O O)|||bg|||(ag|||qd|||ag))^^^ae)) ∅ ∅ O O)^^^((((@ay _ _ _ _ _ _ _ _ _ nV O B.abs PyProof.Rows.boot_abs ('0'^^^ae) ∅ ∅ O O)|||mJ|||ag)|||aX|||ag)^^^ae)))⁻¹)|?_];apply%[_,O,_,O,_,_,O,O,%[∅,∅|∅],_,_,O,O,_,_,O,_,O,_,O,_,_,O,O,(by show(0:Int) < 2147483629;decide),_,_,O,O,zS2|λ p hp=>?_];apply q p _ hp %[_,_,?_,?_,?_|ah] (G5 hp)
 ·split <;> lia
 ·have:=Int.emod_nonneg (if c < 0 then -c else c) (show(2147483629:Int)≠0 by decide);lia
 ·have:=Int.emod_lt_of_pos (if c < 0 then -c else c) (show(0:Int) < 2147483629 by decide);lia
theorem scdraw:FnScope ["_law_pot_here","_law_many","_law_digit"] Ry (defScope sG):=nofun
theorem Ay{f:QP}{fd:G2}(F:Fun K "_law_draw" "_law_draw" sG f fd)(B:Blt mg):FnOk P w K mg base CX0 1 f fd Ry (dj):=by
 exists scdraw;obtain⟨p,m,rfl,⟨a,b,a0,b0,b1,hp⟩,m0,m1,q⟩:=h;apply%[_,(((('0'&&&ix_list&&&ag)<*>cV<*>ag)<|>((@cr _ _ _ _ _ _ (@ay _ _ _ _ _ _ _ _ _ nh O B.divmod PyProof.Rows.boot_divmod (('0'&&&ix_list&&&ag)^^^('1'^^^ae)) ∅ ∅ O O) (bn O (ao (jQ '0' ag fR) (2•aR))) O O O)<<<('2'⁻¹))<|>aE)<<<((@cr _ _ _ _ _ _ (((('0'&&&ix_list&&&ag)|||wI|||ag)|||aX|||ag)|||mJ|||ag) (jQ '0' ag fR) O O O)<<<(((((('0'&&&ix_list&&&ag)|||wI|||('0'&&&ix_list&&&ag))|||mJ|||ag)|||wZ|||ag)|||mJ|||'1')⁻¹)))|?_];dsimp only[bL];have at0:atI [V.int a,V.int b] 0=⇑a:=rfl;have at1:atI [V.int a,V.int b] 1=⇑b:=rfl;apply%[_,O,p,_,_,_,O,O,G7 hp,at0,_,_,O,O,_,O|?_];apply bW (λ c=>?_) (λ c=>?_)
 ·have c':0 < a:=C2 c;apply%[_,O,p,_,_,_,O,O,G7 hp,at0,_,O,_,_,O,%[m0|m1]|λ t ht=>?_];have npt:p≠t:=ak hp ht;have hp1:(upd H t (.tup [.int (a / m),.int (a % m)])) p=↥[.int a,.int b]:=by rw[am npt];exact hp
  apply%[t,_,O,G6 ah,O,_,_,O,_,O,p,_,_,_,O,O,hp1,O,_,_,O,O|?_];apply%[_,O|q _ _ (Int.emod_nonneg _ ⋯) (Int.emod_lt_of_pos _ m0) %[a / m,b,Int.ediv_nonneg a0 ⋯,b0,b1|ah] ((But.new ht).trans But.upd)]
 ·apply%[_,O,p,_,_,_,O,O,G7 hp,at1,_,_,O,O,.inr %[∅|∅],_,_,O,O,_,_,O,O,(by show(0:Int) < 2147483647;decide),_,O,p,_,_,_,O,O,hp,O|?_];have n0:0<=(b * 48271+11) % 2147483647:=Int.emod_nonneg _ ∅;have n1:(b * 48271+11) % 2147483647 < 2147483647:=Int.emod_lt_of_pos _ ∅;apply%[_,O,p,_,_,_,O,O,G7 ah,O,_,O,p,_,_,_,O,O,G7 ah,O,_,_,O,O,.inl %[⋯|⋯],_,_,O,O,(by show(0:Int) < 2147483629;decide),_,_,O,O,%[∅|∅],_,O,_,_,O,O,m0|?_];exact q _ _ (Int.emod_nonneg _ ⋯) (Int.emod_lt_of_pos _ m0) %[a,_,a0,n0,⋯|ah] But.upd
def yr:Sp:=λ vs H Q _=>∃(t:QP)(k:Kd),vs=[.ref t]/\H t= ~~~(kdV k)/\∀(l:QP)(ys:QT V)(H':Hp),H' l=↥ys->Paired (PtAt H') ys (lnL k)->Same H H'->Q (.ref l) H'
def sP:Sp:=λ vs H Q _=>∃(t:QP)(k:Kd)(w h:Int),vs=[.ref t,.int w,.int h]/\H t= ~~~(kdV k)/\∀(H':Hp),Same H H'->Q (.bl (cZ k w h)) H'
def yt:Sp:=λ vs H Q _=>∃(p:QP)(m:Int),vs=[.ref p,.int m]/\PotB H p/\1<=m/\m<=8/\∀(r:Int)(H':Hp),1<=r->r < 10 ^ 60->PotB H' p->But p H H'->Q (.int r) H'
def DZ:Sp:=λ vs H Q _=>∃(p:QP),vs=[.ref p]/\PotB H p/\∀(r:Int)(H':Hp),0<=r->r < 10 ^ 60->PotB H' p->But p H H'->Q (.int r) H'
theorem sclain:FnScope ["_law_kind","_law_wide","_law_high","_law_worth","_law_wanted","_law_turns"] Rz (defScope sH):=nofun
theorem Az{f:QP}{fd:G2}(F:Fun K "_law_lain" "_law_lain" sH f fd)(B:Blt mg):FnOk P w K mg base CX0 1 f fd Rz (yr):=by
 exists sclain;obtain⟨t,k,rfl,ht,q⟩:=h;apply%[_,((@cr _ _ _ _ _ _ '0' (bn O (1•(2•(3•(4•(5•aR)))))) O O O)<<<(((PW.pt (jP (@aW _ _ _ '5' (by intro _;rfl)) (jE ('1'<*>nT<*>'2'))))<|>((@bh _ _ _ _ ((@aJ _ _ _ _ _ ('1'^^^('2'^^^ae)))^^^((@aJ _ _ _ _ _ ('2'^^^('1'^^^ae)))^^^ae)))⁻¹)<|>aE)<<<((@bh _ _ _ _ ((@aJ _ _ _ _ _ ('1'^^^('2'^^^ae)))^^^ae))⁻¹)))|?_];dsimp only[bL];apply av (λ R=>R [↑t,⇑k.w,⇑k.h,⇑k.wo,⇑k.wa,some (.bl k.tu)] H) (λ Dd hR=>?_) ?_
 ·exact%[_,O,t,_,O,G6 ht,O,_,_,O,_,_,O,_,_,O,_,_,O,_,_,O,O|hR]
 skip
 have two:(k.tu && !decide (k.w=k.h))=true->lnL k=[(k.w,k.h),(k.h,k.w)]:=λ h=>by unfold lnL;rw[Qa h]
 have one:¬ (k.tu && !decide (k.w=k.h))=true->lnL k=[(k.w,k.h)]:=λ h=>by unfold lnL;rw[QZ h]
 apply bH (λ σ' H'=>(¬ (k.tu && !decide (k.w=k.h))=true)/\σ'=[↑t,⇑k.w,⇑k.h,⇑k.wo,⇑k.wa,some (.bl k.tu)]/\H=H') (λ R hR=>?_) ?_
 ·apply%[_,O,_,O|?_];cases hc:k.tu with
  | false=>exact be (be (hR _ _ %[by rw[hc];exact B3,by rw[hc]|rfl]))
  | true=>
   apply ce %[_,rfl,_,rfl,rfl,_,rfl|?_];apply bW (λ c1=>?_) (λ c1=>hR _ _ %[?_,by rw[hc]|rfl])
   ·have cc:(k.tu && !decide (k.w=k.h))=true:=by rw[hc,QD];simpa using c1
    apply%[_,O,_,O,zS2|λ a ha=>?_];apply aK ha λ H1 k1 s1=>?_;apply%[_,O,_,O,zS2|λ b hb=>?_];apply aK hb λ H2 k2 s2=>?_;apply%[zS2|λ l hl=>?_];apply aK hl λ H3 k3 s3=>?_;exact q l _ H3 k3 (by rw[two cc];exact .cons %[a,O|s3 _ _ (s2 _ _ k1)] (.cons %[b,O|s3 _ _ k2] .nil)) ((s1.trans s2).trans s3)
   ·rw[hc,QD];simpa using c1
 rintro _ _ ⟨cc,rfl,rfl⟩;apply%[_,O,_,O,zS2|λ a ha=>?_];apply aK ha λ H1 k1 s1=>?_;apply%[zS1|λ l hl=>?_];apply aK hl λ H2 k2 s2=>?_;exact q l _ H2 k2 (by rw[one cc];exact .cons %[a,O|s2 _ _ k1] .nil) (s1.trans s2)
theorem scfitsk:FnScope R3 R3 (defScope oQ):=nofun
theorem yu{f:QP}{fd:G2}(F:Fun K "_law_fits" "_law_fits" oQ f fd)(B:Blt mg)(han:mg "any" = none)(DLN:Dn P w K mg base "_law_lain" Rz 1 (yr)):FnOk P w K mg base CX0 2 f fd R3 (sP):=by
 exists scfitsk;obtain⟨t,k,w1,h1,rfl,ht,q⟩:=h;apply%[_,((@ay _ _ _ _ _ _ _ _ _ (jf O) O han PyProof.Rows.boot_any ((aY (own:=R4) (cs:=["_law_wide","_law_high"]) (cap:=[1,2]) O (bC (DLN∪('0'^^^ae))) (aD (sc:=defScope oQ) (N:=R3) O O ∅) (λ _ _ _ _ _=>cQ K O O (by show List.Nodup (["_law_one","_law_other","_law_wide","_law_high"]:QT Str) ;decide +kernel) O O O O) (λ _ _ _ _ _=>aH) (λ _ _ _ _ _=>(fO (@bD _ _ _ _ _ _ _ _ fP '0' '2' (aA _)) (fN (@bD _ _ _ _ _ _ _ _ fP '1' '3' (aA _))))))^^^ae) ∅ ∅ O O)⁻¹)|?_];dsimp only[bL];have z4:4096<=sizeLine:=∅
 have ll:(lnL k).length<=2:=by unfold lnL;split <;> simp
 apply%[_,O,t,k,O,ht|λ l ys H1 hl py s1=>?_];have yl:=E7 py;apply%[l,O,%[_|G7 hl]|(bS (K:=K) (.inl hl) (λ i us Hx=>H1=Hx/\us=(((lnL k).take i).map λ q=>decide (q.1<=w1) && decide (q.2<=h1)).map V.bl) (λ i us Hx _ ⟨e,_⟩ o h=>e ▸ h) %[O|O] ?_ ?_).1 hl]
 ·rintro i x us _ hi ⟨rfl,rfl⟩;have hin:=(A7.mp hi).1;obtain⟨c,hc,ta,rfl,hta⟩:=J0 py hi;apply%[by rw[B5,B5,K4];lia,ta,_,O,G6 hta,O,_,_,O,_,_,O,O,hG (leS.set rfl) (leS.set rfl)|aI ?_];have tk:∀v:Bool,(decide (c.1<=w1) && decide (c.2<=h1))=v->Nx ys.length (λ i us Hx=>H1=Hx/\us=(((lnL k).take i).map λ q=>decide (q.1<=w1) && decide (q.2<=h1)).map V.bl) i ((((lnL k).take i).map λ q=>decide (q.1<=w1) && decide (q.2<=h1)).map V.bl ++ [.bl v]) H1:=λ v hv=>Nx.of hin %[rfl|by rw[K0,hc,K8,J5,J5,<- hv];rfl];apply%[_,O,_,O,_,_,O,O|?_];cases c1:decide (c.1<=w1)with
  | false=>exact%[_,O|be (tk false (by rw[c1];rfl))]
  | true=>exact%[_,O|ce %[_,O,_,O,_,_,O,O|tk _ (by rw[c1];rfl)]]
 ·rintro us _ ⟨rfl,rfl⟩;rw[yl,M0];apply%[by rw[B5,B5];lia|λ p hp=>%[p,_,O,G7 ah|?_]];have:=q _ (s1.trans (G5 hp (o:=.lst ((((lnL k)).map λ q=>decide (q.1<=w1) && decide (q.2<=h1)).map V.bl))));unfold cZ at this;rw[List.any_map];exact this
theorem scsize:FnScope R5 R5 (defScope sI):=nofun
theorem AA{f:QP}{fd:G2}(F:Fun K "_law_size" "_law_size" sI f fd)(B:Blt mg)(DD:Dn P w K mg base "_law_draw" Ry 1 (dj)):FnOk P w K mg base CX0 2 f fd R5 (yt):=by
 exists scsize;obtain⟨p,m,rfl,pt,m1,m8,q⟩:=h;apply%[_,((((DD∪('0'^^^(ag^^^ae)))<*>dB<*>ag)<|>((('1'|||aX|||ag)|||aX|||(DD∪('0'^^^((ag|||qd|||ag)^^^ae))))⁻¹)<|>aE)<<<((ag|||aX|||(DD∪('0'^^^((@ay _ _ _ _ _ _ _ _ _ (eE O) O B.min RF ('1'^^^(((@bh _ _ _ _ (ag^^^(ag^^^(ag^^^ae))))&&&ix_list&&&(DD∪('0'^^^(ag^^^ae))))^^^ae)) ∅ ∅ O O)^^^ae))))⁻¹))|?_];dsimp only[bL];have e50:(10:Int) ^ (50:Int).toNat=10 ^ 50:=rfl;have e60:(10:Int) ^ 50+20 < 10 ^ 60:=∅
 have e61:(0:Int) < 10 ^ 50:=∅
 apply jL (λ R=>∀(H':Hp),PotB H' p->But p H H'->R [↑p,⇑m] H') (λ R hR=>?_) ?_
 ·apply%[_,O,p,12,O,pt,∅,∅|λ z H1 z0 z1 pt1 b1=>%[O,_,O|?_]];apply bW (λ cc=>?_) (λ cc=>hR _ pt1 b1);apply%[_,O,_,_,O,O,_,O,_,_,O,O,%[∅,∅|∅],p,_,O,pt1,(by rw[e50];decide),(by rw[e50];decide)|λ r H2 r0 r1 pt2 b2=>%[_,_,O,O|q _ H2 ⋯ ?_ pt2 (b1.trans b2)]];rw[e50]at r1;lia
 rintro H1 pt1 b1;apply%[_,O,_,O,zS3|λ l hl=>?_];apply aK hl λ H2 k2 s2=>?_;apply%[_,O,p,3,O,pt1.same s2,∅,∅|λ z H3 z0 z1 pt3 b3=>?_];have nl:l≠p:=λ e=>by obtain⟨_,_,_,_,_,h⟩:=pt1;rw[<- e,hl]at h;cases h
 have k3:=b3 _ _ nl k2;obtain⟨v,hv,v1,v8⟩:∃v:Int,([.int 2,.int 3,.int 8]:QT V)[z.toNat]? = ⇑v/\1<=v/\v<=8:=by
  have:z=0\/z=1\/z=2:=⋯
  rcases this with rfl | rfl | rfl
  ·exact%[2,O,∅|∅]
  ·exact%[3,O,∅|∅]
  ·exact%[8,O,∅|∅]
 apply%[l,_,z,_,O,O,G7 k3,di z0 hv,_,_,O,p,_,O,pt3,?_,?_|λ r H4 r0 r1 pt4 b4=>%[_,_,O,O|q _ H4 ⋯ ?_ pt4 ?_]]
 ·split <;> lia
 ·split <;> lia
 ·have:(if v < m then v else m)<=8:=by split <;> lia
  lia
 ·exactλ c o n e=>b4 _ _ n (b3 _ _ n (s2 _ _ (b1 _ _ n e)))
def jj(ks:QT Kd):Prop:=(∀k∈ks,Good k)/\(wsK ks).sum<=6
theorem jm{H H':Hp}{m a b:QP}{o:HO}(h:(H'=H/\(m=a\/m=b))\/(H m=none/\H'=upd H m o)):Same H H':=by
 rcases h with⟨rfl,_⟩ | ⟨h,rfl⟩
 ·exact Same.refl _
 ·exact G5 h
def sQ:Sp:=λ vs H Q _=>∃(p:QP)(w h:Int)(n:Nat),vs=[.ref p,.int w,.int h,.int n]/\PotB H p/\1<=w/\w<=8/\1<=h/\h<=8/\n<=8 /\
 ∀(kl:QP)(rs:QT V)(ks:QT Kd)(H':Hp),kl≠p->H kl=none->H' kl=↥rs->Tups H' rs ks->jj ks->ks.length=n->PotB H' p->But p H H'->Q (.ref kl) H'
def Me:Sp:=λ vs H Q _=>∃(p kl:QP)(rs:QT V)(ks:QT Kd),vs=[.ref p,.ref kl]/\PotB H p/\kl≠p/\H kl=↥rs/\Tups H rs ks/\jj ks/\ks.length<=8 /\
 ∀(kl':QP)(rs':QT V)(ks':QT Kd)(H':Hp),kl'≠p->H' kl'=↥rs'->Tups H' rs' ks'->jj ks'->ks'.length=ks.length->PotB H' p->But p H H'->Q (.ref kl') H'
def Mf:Sp:=λ vs H Q _=>∃(t u:QP)(xs ys:SW),vs=[.ref t,.ref u]/\H t= ~~~(bV xs)/\H u= ~~~(bV ys)/\xs.length=ys.length/\xs.length<=8/\∀H',Same H H'->Q (.bl (leB xs ys)) H'
theorem scshopk:FnScope ["_law_pot_here","_law_wide","_law_high","_law_many","_law_found","_law_left","_law_k","_law_wanted","_law_worth"] R6 (defScope ed):=nofun
theorem yv{f:QP}{fd:G2}(F:Fun K "_law_shop_kinds" "_law_shop_kinds" ed f fd)(B:Blt mg)(DD:Dn P w K mg base "_law_draw" Ry 1 (dj))(DSZ:Dn P w K mg base "_law_size" R5 2 (yt)):FnOk P w K mg base CX0 3 f fd R6 (sQ):=by
 exists scshopk;apply br λ G9 k9=>?_;obtain⟨p,w1,h1,n,rfl,pt,w0,w8,h0,h8,n8,q⟩:=h;apply k9 ?_;apply%[_,((4∣(@bh _ _ _ _ ae))<<<((5∣ag)<<<((@bE _ _ _ _ _ _ _ _ E8 O (dv O B.range ('3'^^^ae)) (aj (i:=6) nd O (Or.inl O)) ((7∣(DD∩('0'^^^(((@ay _ _ _ _ _ _ _ _ _ (eE O) O B.min RF ('5'^^^(((@bh _ _ _ _ (ag^^^(ag^^^(ag^^^(ag^^^ae)))))&&&ix_list&&&(DD∩('0'^^^(ag^^^ae))))^^^ae)) ∅ ∅ O O)|||aX|||ag)^^^ae))))<<<((5∣('5'|||bg|||'7'))<<<((8∣(DD∩('0'^^^(ag^^^ae))))>>>(@bj _ _ _ _ (@fS _ _ _ _ _ _ _ _ _ _ _ _ F9 PySem.F.slot_list_append PySem.F.type_list_append cx '4' ((@aJ _ _ _ _ _ ((DSZ∪('0'^^^('1'^^^ae)))^^^((DSZ∪('0'^^^('2'^^^ae)))^^^('8'^^^('7'^^^((@bD _ _ _ _ _ _ _ _ dB (DD∩('0'^^^(ag^^^ae))) ag (aA _))^^^ae))))))^^^ae) O O O O O) O)))) (by intro _;rfl))<<<('4'⁻¹))))|?_];dsimp only[bL];have z4:4096<=sizeLine:=∅
 apply av (λ R=>∀(fl:QP)(H':Hp),H fl=none->H' fl=↥[]->Same H H'->R [↑p,⇑w1,⇑h1,⇑n,↑fl,none,none,none,none] H') (λ Dd hR=>?_) ?_
 ·apply%[zS0|λ fl hfl=>?_];apply aK hfl λ H1 k1 s1=>?_;exact hR fl _ hfl k1 s1
 rintro fl H1 hfl k1 s1;have nfp:fl≠p:=λ e=>by obtain⟨_,_,_,_,_,h⟩:=pt;rw[<- e,hfl]at h;cases h
 apply bH (λ σ' H'=>σ'=[↑p,⇑w1,⇑h1,⇑n,↑fl,⇑6,none,none,none]/\H1=H') (λ R hR=>hR _ _ %[rfl|rfl]) ?_;rintro _ _ ⟨rfl,rfl⟩;apply bH (λ σ' H'=>∃(v5 v6 v7 v8:QR V)(rs:QT V)(ks:QT Kd),σ'=[↑p,⇑w1,⇑h1,⇑n,↑fl,v5,v6,v7,v8]/\H' fl=↥rs/\Tups H' rs ks/\jj ks/\ks.length=n/\PotB H' p/\But p H H') (λ R hR=>?_) ?_
 ·apply%[_,O,_,O,⋯,⋯|?_];rw[M5];apply eD (lo:=0) (n:=n) (λ i σ' H'=>∃(v6 v7 v8:QR V)(rs:QT V)(ks:QT Kd),σ'=[↑p,⇑w1,⇑h1,⇑n,↑fl,⇑(6 - (wsK ks).sum),v6,v7,v8]/\H' fl=↥rs/\Tups H' rs ks/\jj ks/\ks.length=i/\PotB H' p/\But p H H') ⟨none,none,none,[],[],rfl,k1,.nil,⟨λ k h=>(by cases h),∅⟩,rfl,pt.same s1,Same.but s1⟩ ?_ ?_
  ·intro i σ Hx hin hI9;apply br λ G9 k9=>?_;obtain⟨v6,v7,v8,rs,ks,rfl,hfx,tp,⟨gk,w6⟩,kl,ptx,bx⟩:=hI9;apply k9 ?_;have ws0':=dL (ws0 (ks:=ks) λ k h=>(gk k h).wa);have rl:=E7 tp;apply av (λ R=>∀(y:Int)(H':Hp),0<=y->y<=6 - (wsK ks).sum->PotB H' p->But p Hx H'->R [↑p,⇑w1,⇑h1,⇑n,↑fl,⇑(6 - (wsK ks).sum),⇑(0+(i:Int)),⇑y,v8] H') (λ Dd hR=>?_) ?_
   ·apply%[_,O,_,O,zS4|λ l hl=>?_];apply aK hl λ H2 k2 s2=>?_;apply%[_,O,p,4,O,ptx.same s2,∅,∅|λ z H3 z0 z1 pt3 b3=>?_];have nl:l≠p:=λ e=>by obtain⟨_,_,_,_,_,h⟩:=ptx;rw[<- e,hl]at h;cases h
    have k3:=b3 _ _ nl k2;obtain⟨v,hv,v1,v6'⟩:∃v:Int,([.int 3,.int 3,.int 3,.int 6]:QT V)[z.toNat]? = ⇑v/\0<=v/\v<=6:=by
     have:z=0\/z=1\/z=2\/z=3:=⋯
     rcases this with rfl | rfl | rfl | rfl
     ·exact%[3,O,∅|∅]
     ·exact%[3,O,∅|∅]
     ·exact%[3,O,∅|∅]
     ·exact%[6,O,∅|∅]
    apply%[l,_,z,_,O,O,G7 k3,di z0 hv,_,_,O,_,_,O,O,p,_,O,pt3,?_,?_|λ r H4 r0 r1 pt4 b4=>hR r _ r0 ?_ pt4 ?_]
    ·split <;> lia
    ·have:(if v < 6 - (wsK ks).sum then v else 6 - (wsK ks).sum)<=6:=by split <;> lia
     lia
    ·have:(if v < 6 - (wsK ks).sum then v else 6 - (wsK ks).sum)<=6 - (wsK ks).sum:=by split <;> lia
     lia
    ·exactλ c o n e=>b4 _ _ n (b3 _ _ n (s2 _ _ e))
   rintro y H2 y0 y1 pt2 b2;apply bH (λ σ' H'=>σ'=[↑p,⇑w1,⇑h1,⇑n,↑fl,⇑(6 - (wsK ks).sum - y),⇑(0+(i:Int)),⇑y,v8]/\H2=H') (λ R hR=>%[_,O,_,O,_,_,O,O|hR _ _ %[O|O]]) ?_;rintro _ _ ⟨rfl,rfl⟩;apply av (λ R=>∀(o:Int)(H':Hp),0<=o->o < 4->PotB H' p->But p H2 H'->R [↑p,⇑w1,⇑h1,⇑n,↑fl,⇑(6 - (wsK ks).sum - y),⇑(0+(i:Int)),⇑y,⇑o] H') (λ Dd hR=>?_) ?_
   ·exact%[_,O,p,4,O,pt2,∅,∅|λ o H3 o0 o1 pt3 b3=>hR o _ o0 o1 pt3 b3]
   rintro o H3 o0 o1 pt3 b3;have f3:H3 fl=↥rs:=b3 _ _ nfp (b2 _ _ nfp hfx);apply%[_,O,.inl %[O,_|G7 f3],_,O,_,O,p,w1,O,pt3,w0,w8|λ x H4 x0 x1 pt4 b4=>?_];apply%[_,O,_,O,p,h1,O,pt4,h0,h8|λ u H5 u0 u1 pt5 b5=>?_];apply%[_,O,_,O,_,O,p,2,O,pt5,∅,∅|λ e H6 e0 e1 pt6 b6=>?_];apply%[O,zS5|λ ta hta=>?_];obtain⟨kd,ekd⟩:∃kd:Kd,kd=%[x,u,o,y|decide (V.int e=V.int 1)]:=%[_|O]
   apply aK hta λ H7 k7 s7=>?_;have bx7:But p Hx H7:=λ c o n e=>s7 _ _ (b6 _ _ n (b5 _ _ n (b4 _ _ n (b3 _ _ n (b2 _ _ n e)))));have f7:H7 fl=↥rs:=bx7 _ _ nfp hfx;apply%[fl,rs,_,O,O,f7,⋯,⇑(0+(i:Int)),⇑y,⇑o,rs ++ [.ref ta],ks ++ [kd],?_,ah,?_,%[?_|?_],?_,?_|?_]
   ·rw[show(wsK (ks ++ [kd])).sum=(wsK ks).sum+y by rw[wsK,J5,List.sum_append,ekd];simp,show(6:Int) - ((wsK ks).sum+y)=6 - (wsK ks).sum - y by lia]
   ·have kt:∀b xs,Hx b= ~~~xs->(upd H7 fl (.lst (rs ++ [.ref ta]))) b= ~~~xs:=λ c xs e=>by rw[am (λ z=>by rw[z,hfx]at e;cases e)];exact bx7 _ _ (λ z=>by obtain⟨_,_,_,_,_,h⟩:=ptx;rw[z,h]at e;cases e) e
    apply Paired.app (Tups.keep kt tp) (.cons %[ta,O|?_] .nil);rw[am (λ z=>by rw[z,f7]at k7;cases k7),k7,ekd]
    rfl
   ·intro k hk;rcases C4.mp hk with h | h
    ·exact gk k h
    ·rw[E6.mp h,ekd];have e60:(4:Int) < 10 ^ 60:=∅
     have e61:(7:Int) < 10 ^ 60:=∅
     exact%[x0,u0,o0,y0,x1,u1,Int.lt_trans o1 e60|Int.lt_of_le_of_lt (show y<=6 by lia) ∅]
   ·rw[wsK,J5,List.sum_append,ekd];show(wsK ks).sum+(y+0)<=6;lia
   ·rw[J7,kl];rfl
   ·have pt7:=pt6.same s7;obtain⟨a1,a2,a3,a4,a5,h⟩:=pt7;exact%[a1,a2,a3,a4,a5|by rw[am (Ne.symm nfp)];exact h]
   ·exactλ c o n e=>by rw[am (ak e hfl)];exact bx7 _ _ n (bx _ _ n e)
  ·intro σ Hx hI9;apply br λ G9 k9=>?_;obtain⟨v6,v7,v8,rs,ks,rfl,h1,h2,h3,h4,h5,h6⟩:=hI9;apply k9 ?_;exact hR _ _ %[_,_,_,_,rs,ks,rfl,h1,h2,h3,h4,h5|h6]
 intro _ H2 hI9;apply br λ G9 k9=>?_;obtain⟨v5,v6,v7,v8,rs,ks,rfl,h1,h2,h3,h4,h5,h6⟩:=hI9;apply k9 ?_;exact%[_,O|q fl rs ks H2 nfp hfl h1 h2 h3 h4 h5 h6]
theorem Same.free{H H':Hp}{t:QP}(s:Same H H')(h:H' t=none):H t=none:=by
 cases z:H t with
 | none=>rfl
 | some o=>rw[s _ _ z]at h;cases h
def pK(xs:QT V):Bool:=decide (1<=xs.length) && decide (xs.length<=60) && xs.all (λ y=>whole y 0)
def yx(K:C6):Sp:=λ vs H Q _=>∃(x:V)(T:String),vs=[x]/\Ty K H x T /\
 ((T ≠ "list" /\ T ≠ "tuple" /\ ∀H',Same H H'->Q (.bl false) H')\/∃(a:QP)(xs:QT V),x=.ref a/\(H a=↥xs\/H a= ~~~xs)/\(∀y∈xs,∃U,Ty K H y U)/\∀H',Same H H'->Q (.bl (pK xs)) H')
theorem Cf{K:C6}{H:Hp}{a:QP}{xs:QT V}{T:String}(ty:Ty K H (.ref a) T)(hx:H a=↥xs\/H a= ~~~xs):(T == "list" || T == "tuple")=true:=by
 have t2:=ty.2;generalize hv:Value.type T=tv at t2;generalize hr:V.ref a=rv at t2;cases t2 with
 | lst _=>cases hv;rfl
 | frz _=>cases hv;rfl
 | tup _=>cases hv;rfl
 | dK e=>cases hr;rcases hx with z | z <;> (rw[z]at e;cases e)
 | dT e=>cases hr;rcases hx with z | z <;> (rw[z]at e;cases e)
 | ext e _=>cases hr;rcases hx with z | z <;> (rw[z]at e;cases e)
 | ins=>cases hv
 | _=>cases hr
theorem scisw:FnScope RQ RQ (defScope dF):=nofun
theorem Cg{f:QP}{fd:G2}(F:Fun K "is_weights" "is_weights" dF f fd)(B:Blt mg)(mw:∃t,mg "MOST_WEIGHTS" = some (.int 60 t))(DW:Dn P w K mg base "is_whole" RP 1 (dR K))(DR:Dn P w K mg base "is_row" RQ 1 (rM K)):FnOk P w K mg base CX0 2 f fd RQ (yx K):=by
 exists scisw;obtain⟨x,T,rfl,ty,q⟩:=h;obtain⟨tk,htk⟩:=mw;apply%[_,(((PW.pt (cP (@bf _ _ _ _ (@aW _ _ _ (DR∪('0'^^^ae)) (by intro _;rfl))) (cC (@bf _ _ _ _ (nU fP fP ag (@ay _ _ _ _ _ _ _ _ _ aN O B.len Qn ('0'^^^ae) ∅ ∅ O O) (bU (v:=.int 60) O htk ⟨tk,O⟩))))))<|>(eC⁻¹)<|>aE)<<<((@ay _ _ _ _ _ _ _ _ _ (eG O) O B.all RG ((aY (own:=["weight"]) (cs:=[]) (cap:=[]) O (qB '0') (aD (sc:=defScope dF) (N:=RQ) O O ∅) (λ _ _ _ _ _=>aj (i:=0) (by show List.Nodup (["weight"]:QT Str) ;decide +kernel) O (Or.inl O) (Or.inr O)) (λ _ _ _ _ _=>aH) (λ _ _ _ _ _=>(DW∪('0'^^^(ag^^^ae)))))^^^ae) ∅ ∅ O O)⁻¹))|?_];dsimp only[bL];apply%[_,O,x,T,O,ty|λ H1 s1=>%[_,O|?_]];rcases q with⟨n1,n2,q⟩ | ⟨a,xs,rfl,hx,its,q⟩
 ·have e:(T == "list" || T == "tuple")=false:=by simp[n1,n2]
  rw[e];apply ce (ce ?_);exact q H1 s1
 ·rw[Cf ty hx];have hx1:H1 a=↥xs\/H1 a= ~~~xs:=hx.imp (λ z=>s1 _ _ z) λ z=>s1 _ _ z;have sq:SqL K H1 a xs\/SqT K H1 a xs:=hx1.imp (λ z=>G7 z) λ z=>G6 z;apply be %[_,rfl,a,xs,rfl,sq,_,_,rfl,rfl,_,rfl|?_];have no:pK xs=false->zA (tC (V.bl false)) { nx:=λ x H'=>Q V.non H',rt:=Q } [↑a] H1:=λ e=>by have q1:=q H1 s1;rw[e]at q1;exact q1
  apply bW (λ c=>?_) (λ c=>?_)
  ·apply%[_,_,O,O,_,O|?_];have c1:1<=xs.length:=by have:=C2 c;lia
   apply bW (λ c2=>?_) (λ c2=>?_)
   ·apply no ?_;have:¬ xs.length<=60:=λ z=>by rw[Qb (show(xs.length:Int)<=60 by lia)]at c2;cases c2
    unfold pK;rw[Qc this];simp
   ·have c3:xs.length<=60:=by
     by_cases z:(xs.length:Int)<=60
     ·lia
     ·rw[Qc z]at c2;exact absurd rfl c2
    have sz:(100:Nat) < sizeLine:=∅
    dsimp only[AT,zA,tCB,rB,tL];apply lQ (j:=0) (a:=a) (xs:=xs) rfl hx1 (λ i ys H4=>Same H1 H4/\ys=((xs.take i).map λ y=>whole y 0).map V.bl) (λ i ys H4 _ ⟨s4,_⟩ o e=>s4 _ _ e) %[Same.refl _|rfl] ?_ ?_
    ·rintro i y ys H4 hi ⟨s4,rfl⟩;have hin:i < xs.length:=(A7.mp hi).1;obtain⟨U,hU⟩:=its y (B7 hi);apply%[by rw[B5,B5,K4];lia,leS.set rfl|aI ?_];apply%[_,O,y,U,0,O,Ty.same (s1.trans s4) hU|Nx.of hin %[s4|?_]];rw[K0,hi];simp only[K8,J5,J8,N3]
    ·rintro ys H4 ⟨s4,rfl⟩;apply%[by rw[B5,B5,K4];lia|λ p hp=>?_];rw[M0];apply%[p,_,O,G7 ah|?_];have q1:=q _ ((s1.trans s4).trans (G5 hp (o:=.lst ((xs.map λ y=>whole y 0).map V.bl))));have e:pK xs=(xs.map λ y=>whole y 0).all id:=by
      unfold pK;rw[Qb c1,Qb c3,List.all_map]
      rfl
     rw[e]at q1;exact q1
  ·have c1:¬ 1<=xs.length:=λ z=>c (B1 ⋯);apply%[_,O|ce (no ?_)];unfold pK;rw[Qc c1]
   rfl
def RowI(H:Hp)(a:QP)(ws:SW):Prop:=H a=↥(ws.map V.int)\/H a= ~~~(ws.map V.int)
theorem RowI.same{H H':Hp}{a:QP}{ws:SW}(s:Same H H')(h:RowI H a ws):RowI H' a ws:=h.imp (λ z=>s _ _ z) λ z=>s _ _ z
theorem nI{K:C6}{H:Hp}{a:QP}{ws:SW}{i:Int}{Q:VK}(h:RowI H a ws)(i0:0<=i)(i1:i < ws.length)(q:Q (.int (gI ws i)) H):rIx K (.ref a) (.int i) H Q:=by
 have hv:atI (ws.map V.int) i=⇑(gI ws i):=by
  apply di i0 ?_;have hi:i.toNat < ws.length:=⋯
  unfold gI;rw[J3,F5 hi,K3,F5 hi]
  rfl
 rcases h with z | z
 ·exact .inl %[a,_,_,_,O,O,G7 z,hv|q]
 ·exact .inr (.inl %[a,_,_,_,O,O,G6 z,hv|q])
theorem nJ{ws:SW}{i:Int}(i0:0<=i)(i1:i < ws.length):atI (ws.map V.int) i=⇑(gI ws i):=by
 apply di i0 ?_;have hi:i.toNat < ws.length:=⋯
 unfold gI;rw[J3,F5 hi,K3,F5 hi]
 rfl
def yy(K:C6):Sp:=λ vs H Q _=>∃(b:Int)(a l:QP)(ws ls:SW)(n:Nat),vs=[.int b,.ref a,.ref l,.int n]/\0<=b/\RowI H a ws/\H l=↥(ls.map V.int)/\ls.length=n/\1<=n/\n<=ws.length/\n<=60 /\
 ∀(t:QP)(H':Hp),H t=none->H' t= ~~~[.int (bst b ws ls n n).1,.int (bst b ws ls n n).2]->Same H H'->Q (.ref t) H'
theorem scbest:FnScope ["blade","weights","loads","side","load","length","first","behind","together"] R7 (defScope dZ):=nofun
theorem AB{f:QP}{fd:G2}(F:Fun K "best_length" "best_length" dZ f fd)(B:Blt mg):FnOk P w K mg base CX0 1 f fd R7 (yy K):=by
 exists scbest;apply br λ G9 k9=>?_;obtain⟨b,a,l,ws,ls,n,rfl,b0,hw,hl,len,n1,n2,n60,q⟩:=h;apply k9 ?_;apply%[_,((@cr _ _ _ _ _ _ (@aJ _ _ _ _ _ (ag^^^(ag^^^ae))) (bn O (4•(5•aR))) O O O)<<<((@bE _ _ _ _ _ _ _ _ E8 O (gp O B.range (ag^^^(('3'|||aX|||ag)^^^ae))) (aj (i:=6) nd O (Or.inl O)) ((7∣(@ay _ _ _ _ _ _ _ _ _ (iS O) O B.max PyProof.Rows.boot_max (ag^^^((('3'|||bg|||'6')|||bg|||'0')^^^ae)) ∅ ∅ O O))<<<((8∣(('1'&&&qw&&&('6'|||bg|||ag))|||aX|||('2'&&&ix_list&&&'7')))>>>(('8'<*>cV<*>'4')<|>(@ai _ _ _ (wE O nd O O (i:=4) (j:=5) ∅ O O ('8'^^^('6'^^^ae)) O))<|>aE))) (by intro _;rfl))<<<((@aJ _ _ _ _ _ ('4'^^^('5'^^^ae)))⁻¹)))|?_];dsimp only[bL];apply%[zS2|λ t0 ht0=>%[t0,_,O,G6 ah,O,_,_,O,_,_,O,O|?_]];have s0:Same H (upd H t0 (.tup [.int 0,.int 0])):=G5 ht0;generalize upd H t0 (.tup [.int 0,.int 0])=H0 at s0 ⊢
 replace hw:=hw.same s0
 replace hl:=s0 _ _ hl
 apply%[_,O,_,_,O,O,_,_,O,%[∅,∅,⋯|⋯]|?_];have en:((n:Int)+1 - 1).toNat=n:=⋯
 rw[en];apply eD (lo:=1) (n:=n) (λ i σ H'=>H'=H0/\∃v6 v7 v8,σ=[⇑b,↑a,↑l,⇑n,some (.int (bst b ws ls n i).1),some (.int (bst b ws ls n i).2),v6,v7,v8]) %[rfl,none,none,none|rfl] ?_ ?_
 ·rintro i σ _ hi ⟨rfl,v6,v7,v8,rfl⟩;apply%[_,O,_,O,_,_,O,O,_,O,_,_,O,O,_,_,O|?_];have em:(if (n:Int) - (1+(i:Int)) - b > 0 then(n:Int) - (1+(i:Int)) - b else 0)=m0 ((n:Int) - ((i:Int)+1) - b):=by rw[Int.add_comm 1 (i:Int)];rfl
  have h0:0<=m0 ((n:Int) - ((i:Int)+1) - b):=Dw _;have h1:m0 ((n:Int) - ((i:Int)+1) - b) < ls.length:=by unfold m0;split <;> lia
  apply%[_,O,_,O,_,_,O,O|nI hw ⋯ ⋯ ?_];have ei:(1+(i:Int)) - 1=i:=⋯
  apply%[_,O,_,O,l,_,_,_,O,O,G7 hl,(by rw[em];exact nJ h0 h1),_,_,O,O|?_];apply%[_,O,_,O,_,_,O,O,_,O|?_];rw[ei];apply bW (λ c=>?_) (λ c=>?_)
  ·have c':=C2 c;have eb:bst b ws ls n (i+1)=(gI ws i+gI ls (m0 ((n:Int) - ((i:Int)+1) - b)),(i:Int)+1):=by simp only[bst];rw[Qa c']
   exact%[_,O,_,O,_,_,O,O,_,_,_|by rw[eb,Int.add_comm (i:Int) 1];rfl]
  ·have eb:bst b ws ls n (i+1)=bst b ws ls n i:=by simp only[bst];rw[QZ (λ z=>c (Qb z))]
   exact%[O,_,_,_|by rw[eb];rfl]
 ·rintro σ _ ⟨rfl,v6,v7,v8,rfl⟩;exact%[_,O,_,O,zS2|λ t ht=>q t _ (s0.free ht) ah (s0.trans (G5 ht))]
theorem pL{b:Int}{st:SW}:∀(f:Nat)(s:Int),(lx b st f s).length<=f
 | 0,_=>F2 _
 | f+1,s=>by
  by_cases c:0 < s/\0 < gI st s
  ·rw[jG c,K1];exact Nat.succ_le_succ (pL f _)
  ·rw[dz c];exact F2 _
def gh(b:Int)(st:SW)(s:Int):SW:=lx b st s.toNat s
theorem yz{b:Int}{st:SW}{s:Int}(hb:0<=b)(h:0 < s/\0 < gI st s):gh b st s=gI st s :: gh b st (s - (gI st s+b)):=by
 unfold gh;obtain⟨f,hf⟩:∃f:Nat,s.toNat=f+1:=%[s.toNat - 1|⋯]
 rw[hf,jG h,lS hb f _ ⋯ (s - (gI st s+b)).toNat ⋯]
theorem re{b:Int}{st:SW}{s:Int}(h:¬ (0 < s/\0 < gI st s)):gh b st s=[]:=dz h
def yA:Sp:=λ vs H Q _=>∃(b:Int)(l:QP)(st:SW)(n:Nat),vs=[.int b,.ref l,.int n]/\0<=b/\H l=↥(st.map V.int)/\n < st.length/\n<=60 /\
 ∀(t:QP)(ns:SW)(H':Hp),H t=none->ns.Perm (gh b st n)->ns.Pairwise (·<=·)->H' t=↥(ns.map V.int)->Same H H'->Q (.ref t) H'
theorem sclens:FnScope ["blade","steps","side","lengths","length"] R8 (defScope cj):=nofun
theorem AC{f:QP}{fd:G2}(F:Fun K "lengths_by_steps" "lengths_by_steps" cj f fd)(B:Blt mg):FnOk P w K mg base CX0 1 f fd R8 (yA):=by
 exists sclens;obtain⟨b,l,st,n,rfl,b0,hl,n1,n60,q⟩:=h;apply%[_,((3∣(@bh _ _ _ _ ae))<<<((nS E8 (PW.pt (jP ('2'<*>cV<*>ag) (jE (('1'&&&ix_list&&&'2')<*>cV<*>ag)))) ((4∣('1'&&&ix_list&&&'2'))<<<((@bj _ _ _ _ (@fS _ _ _ _ _ _ _ _ _ _ _ _ F9 PySem.F.slot_list_append PySem.F.type_list_append cx '3' ('4'^^^ae) O O O O O) O)>>>(wF (i:=2) nd O (Or.inl O) ('4'|||aX|||'0') Bu))))<<<((@ay _ _ _ _ _ _ _ _ _ ni O B.sorted PyProof.Rows.boot_sorted ('3'^^^ae) ∅ ∅ O O)⁻¹)))|?_];dsimp only[bL];apply%[∅|λ t ht=>?_];have lt:l≠t:=ak hl ht;have sz:(100:Nat) < sizeLine:=∅
 have ln:=pL (b:=b) (st:=st) n (n:Int);apply wH (λ σ H'=>∃(dn:SW)(r:Int)(v:QR V),σ=[⇑b,↑l,⇑r,↑t,v]/\r<=n/\H' t=↥(dn.map V.int)/\Same H H'/\dn ++ gh b st r=gh b st n)
  (λ σ _=>match σ with | [_,_,⇑r,_,_]=>r.toNat | _=>0) %[[],n,none,rfl,E9 _,ah,G5 ht|rfl] ?_ ?_
 ·intro σ H1 hI9;apply br λ G9 k9=>?_;obtain⟨dn,r,v,rfl,hr1,t1,s1,e1⟩:=hI9;apply k9 ?_;have dl:dn.length<=60:=by have:=Qu List.length e1;rw[J7]at this;unfold gh at this;rw[M5]at this;lia
  have out:¬ (0 < r/\0 < gI st r)->dn=gh b st n:=λ c=>by rw[re c,N0]at e1;exact e1
  have fin:dn=gh b st n->zA (tCB (rz_call_sortedI K) (rB (tVar 3) tL)) { nx:=λ x H'=>Q V.non H',rt:=Q } [⇑b,↑l,⇑r,↑t,v] H1:=λ e=>by
   apply%[_,O,t,dn,O,G7 t1,⋯|λ t' ns' ht' pm pw=>?_];rw[e]at pm;have ht0:H t'=none:=by
    cases z:H t' with
    | none=>rfl
    | some o=>rw[s1 _ _ z]at ht';cases ht'
   exact q t' ns' _ ht0 pm pw ah (s1.trans (G5 ht'))
  apply%[_,O,_,_,O,O,_,O|?_];apply bW (λ c=>?_) (λ c=>?_)
  ·have c0:0 < r:=C2 c;apply%[_,O,_,O,l,_,_,_,O,O,G7 (s1 _ _ hl),nJ ⋯ ⋯,_,_,O,O,_,O|?_];apply bW (λ c2=>?_) (λ c2=>?_)
   ·have c3:0 < gI st r:=C2 c2;apply%[_,O,_,O,l,_,_,_,O,O,G7 (s1 _ _ hl),nJ ⋯ ⋯|?_];apply%[_,O,.inl %[O,_|G7 t1],_,O,t,_,_,O,O,t1,(by rw[B5];lia)|?_];apply%[_,O,_,O,_,O,_,_,O,O,_,_,O,O,%[dn ++ [gI st r],r - (gI st r+b),_,O,⋯,?_,?_|?_]|?_]
    ·rw[ah,J5];rfl
    ·intro c o e;rw[am (λ z=>by rw[z,ht]at e;cases e)];exact s1 c o e
    ·rw[K5,List.singleton_append,<- yz b0 %[c0|c3]];exact e1
    ·show(r - (gI st r+b)).toNat < r.toNat;lia
   ·exact fin (out λ z=>c2 (B1 z.2))
  ·exact fin (out λ z=>c (B1 z.1))
 ·intro σ H1 Q1 Q2 hq hI9;apply br λ G9 k9=>?_;obtain⟨x,e1,i,j,e2,e3,k,e4,h⟩:=hI9;apply k9 ?_;apply%[x,e1,i,j,e2,e3,k,e4|?_];cases k with
  | false=>rw[QZ B3]at h ⊢;exact hq _ _ h
  | true=>
   rw[Qa rfl]at h ⊢;apply br λ G9 k9=>?_;obtain⟨x1,f1,x2,f2,p1,a1,a2,a3,g1,g2,g3,g4,i2,j2,g5,g6,k2,g7,h2⟩:=h;apply k9 ?_;exact%[x1,f1,x2,f2,p1,a1,a2,a3,g1,g2,g3,g4,i2,j2,g5,g6,k2,g7|hq _ _ h2]
theorem mz{ws:SW}(h0:1<=ws.length)(h1:ws.length<=60)(h:∀x∈ws,0<=x):pK (ws.map V.int)=true:=by unfold pK;rw[B5,Qb h0,Qb h1,QD,QD,Pz];intro y hy;obtain⟨x,hx,rfl⟩:=J6.mp hy;exact B1 (h x hx)
def yB(K:C6):Sp:=λ vs H Q _=>∃(b:Int)(a:QP)(ws:SW)(n:Nat),vs=[.int b,.ref a,.int n]/\0<=b/\RowI H a ws/\ws.length<=60/\(∀x∈ws,0<=x)/\1<=n/\n<=ws.length /\
 ∀(t l:QP)(ns:SW)(H':Hp),H t=none->H l=none->ns.Perm (gh b (tab b ws n).2 n)->ns.Pairwise (·<=·)->H' t= ~~~[.int (Ld b ws n),.ref l]->H' l=↥(ns.map V.int)->Same H H'->Q (.ref t) H'
theorem scload:FnScope ["blade","weights","side","loads","steps","reach","load","length"] R9 (defScope jK):=nofun
theorem AD{f:QP}{fd:G2}(F:Fun K "load_of" "load_of" jK f fd)(B:Blt mg)(DW:Dn P w K mg base "is_whole" RP 1 (dR K))(DI:Dn P w K mg base "is_weights" RQ 2 (yx K))(DB:Dn P w K mg base "best_length" R7 1 (yy K))(DL:Dn P w K mg base "lengths_by_steps" R8 1 yA):FnOk P w K mg base CX0 3 f fd R9 (yB K):=by
 exists scload;apply br λ G9 k9=>?_;obtain⟨b,a,ws,n,rfl,b0,hw,m60,wnn,n1,n2,q⟩:=h;apply k9 ?_;have hr1:=hr.mono (show 1<=2 by decide);apply%[_,(((@bf _ _ _ _ (@aW _ _ _ (@ap _ _ _ _ _ _ _ _ _ _ DW hr1 O ('0'^^^(ag^^^ae)) ∅ O O) (by intro _;rfl)))<|>(@ai _ _ _ cT)<|>aE)<<<(((@bf _ _ _ _ (@aW _ _ _ (DI∪('1'^^^ae)) (by intro _;rfl)))<|>(@ai _ _ _ cT)<|>aE)<<<(((PW.pt (cP (@bf _ _ _ _ (@aW _ _ _ (@ap _ _ _ _ _ _ _ _ _ _ DW hr1 O ('2'^^^(ag^^^ae)) ∅ O O) (by intro _;rfl))) (cC ('2'<*>cV<*>(@ay _ _ _ _ _ _ _ _ _ aN O B.len Qn ('1'^^^ae) ∅ ∅ O O)))))<|>(@ai _ _ _ cT)<|>aE)<<<((3∣(@bh _ _ _ _ (ag^^^ae)))<<<((4∣(@bh _ _ _ _ (ag^^^ae)))<<<((@bE _ _ _ _ _ _ _ _ E8 O (gp O B.range (ag^^^(('2'|||aX|||ag)^^^ae))) (aj (i:=5) nd O (Or.inl O)) ((@cr _ _ _ _ _ _ (@ap _ _ _ _ _ _ _ _ _ _ DB hr1 O ('0'^^^('1'^^^('3'^^^('5'^^^ae)))) ∅ O O) (bn O (6•(7•aR))) O O O)<<<((@bj _ _ _ _ (@fS _ _ _ _ _ _ _ _ _ _ _ _ F9 PySem.F.slot_list_append PySem.F.type_list_append cx '3' ('6'^^^ae) O O O O O) O)>>>(@bj _ _ _ _ (@fS _ _ _ _ _ _ _ _ _ _ _ _ F9 PySem.F.slot_list_append PySem.F.type_list_append cx '4' ('7'^^^ae) O O O O O) O))) (by intro _;rfl))<<<((@aJ _ _ _ _ _ (('3'&&&ix_list&&&'2')^^^((@ap _ _ _ _ _ _ _ _ _ _ DL hr1 O ('0'^^^('4'^^^('2'^^^ae))) ∅ O O)^^^ae)))⁻¹)))))))|?_];dsimp only[bL];have w0:whole (.int b) 0=true:=B1 b0;have w1:whole (.int (n:Int)) 1=true:=B1 (show(1:Int)<=n by lia);have sz:(100:Nat) < sizeLine:=∅
 apply%[_,O,.int b,"int",0,O,Ty.int,_,O|?_];rw[w0];apply be ?_;obtain⟨T,ty⟩:∃T,Ty K H (.ref a) T:=by
  rcases hw with z | z
  ·exact%[_|Ty.lst z]
  ·exact%[_|Ty.tup z]
 apply%[_,O,.ref a,T,O,ty|.inr %[a,_,O,hw,λ y hy=>?_|λ H1 s1=>%[_,O|?_]]]
 ·obtain⟨x,_,rfl⟩:=J6.mp hy;exact%[_|Ty.int]
 rw[mz ⋯ m60 wnn];apply be ?_;have hw1:=hw.same s1;have sq:SqL K H1 a (ws.map V.int)\/SqT K H1 a (ws.map V.int):=hw1.imp (λ z=>G7 z) λ z=>G6 z;apply%[_,O,.int n,"int",1,O,Ty.int,_,O|?_];rw[w1];apply be %[_,rfl,_,rfl,a,_,rfl,sq,_,_,rfl,rfl,_,rfl|?_];rw[B5,Qc (show¬ (ws.length:Int) < n by lia)];apply be ?_;apply%[zS1|λ lo hlo=>?_];apply%[zS1|λ st hst=>?_];have nls:st≠lo:=λ z=>by rw[z,ah]at hst;cases hst
 have hst1:H1 st=none:=by rw[am nls]at hst;exact hst
 have s2:Same H1 (upd (upd H1 lo (.lst [.int 0])) st (.lst [.int 0])):=(G5 hlo).trans (G5 hst);have l2:(upd (upd H1 lo (.lst [.int 0])) st (.lst [.int 0])) lo=↥[.int 0]:=by rw[am (Ne.symm nls),ah]
 have t2:(upd (upd H1 lo (.lst [.int 0])) st (.lst [.int 0])) st=↥[.int 0]:=ah;generalize upd (upd H1 lo (.lst [.int 0])) st (.lst [.int 0])=H2 at s2 l2 t2 ⊢;apply%[_,O,_,_,O,O,_,_,O,%[∅,∅,⋯|⋯]|?_];have en:((n:Int)+1 - 1).toNat=n:=⋯
 rw[en];apply eD (lo:=1) (n:=n) (λ i σ H'=>∃v5 v6 v7,σ=[⇑b,↑a,⇑n,↑lo,↑st,v5,v6,v7]/\H' lo=↥((tab b ws i).1.map V.int)/\H' st=↥((tab b ws i).2.map V.int)/\Same H1 H') %[none,none,none,rfl,l2,t2|s2] ?_ ?_
 ·intro i σ H3 hi hI9;apply br λ G9 k9=>?_;obtain⟨v5,v6,v7,rfl,l3,t3,s3⟩:=hI9;apply k9 ?_;have er:(1+(i:Int))=((i+1:Nat):Int):=⋯
  have tl:=gy b ws i;apply%[_,O,_,O,_,O,_,O,b,a,lo,ws,(tab b ws i).1,i+1,(by rw[er];rfl),b0,hw1.same s3,l3,tl.1,⋯,⋯,⋯|λ t H4 ht ht4 s4=>?_];apply%[t,_,O,G6 ht4,O,_,_,O,_,_,O,O|?_];have l4:=s4 _ _ l3;have t4:=s4 _ _ t3;apply%[_,O,.inl %[O,_|G7 l4],_,O,lo,_,_,O,O,l4,(by rw[B5,tl.1];lia)|?_];apply%[_,O,.inl %[O,_|G7 (by rw[am nls];exact t4)],_,O,st,_,_,O,O,(by rw[am nls];exact t4),(by rw[B5,tl.2];lia)|%[_,_,_,O,?_,?_|?_]]
  ·rw[am (Ne.symm nls),ah];simp only[tab,J5,J8,N3]
   rfl
  ·rw[ah];simp only[tab,J5,J8,N3]
   rfl
  ·intro c o e;rw[am (λ z=>by rw[z,hst1]at e;cases e),am (λ z=>by rw[z,hlo]at e;cases e)];exact s4 _ _ (s3 _ _ e)
 ·intro σ H3 hI9;apply br λ G9 k9=>?_;obtain⟨v5,v6,v7,rfl,l3,t3,s3⟩:=hI9;apply k9 ?_;have tl:=gy b ws n;apply%[_,O,_,O,lo,_,_,_,O,O,G7 l3,nJ ⋯ ⋯,_,O,_,O,_,O,b,st,(tab b ws n).2,n,O,b0,t3,⋯,⋯|λ l ns H4 hl pm pw e4 s4=>%[zS2|λ t ht=>?_]];have s14:=s1.trans (s3.trans s4);have nlt:l≠t:=ak e4 ht;apply q t l ns _ (s14.free ht) ((s1.trans s3).free hl) pm pw ?_ (by rw[am nlt];exact e4) (s14.trans (G5 ht));rw[ah]
  rfl
def fH(ws:SW):Prop:=∀x∈ws,0<=x/\x < 10 ^ 58
def oV:QR Int->V
 | none=>.non
 | some i=>.int i
def kw1(u v:SW)(k:Kd)(c:Bool):Int:=gI u (sd1 k c - 1) * gI v (sd2 k c - 1)
def stp(o:QR Int)(w:Int):QR Int:=match o with
 | none=>some w
 | some x=>if w < x then some w else some x
def kwt(u v:SW)(k:Kd):QR Int:=if (bi k && cY k true u.length v.length)=true then stp (if cY k false u.length v.length=true then some (kw1 u v k false)else none) (kw1 u v k true)else if cY k false u.length v.length=true then some (kw1 u v k false)else none
def lw(ks:QT Kd)(u v:SW)(q:Nat×Bool):Int:=match ks[q.1]? with
 | some k=>kw1 u v k q.2
 | none=>0
def fJ(ks:QT Kd)(u v:SW)(tel:QT (QR Int))(q:Nat×Bool):QT (QR Int):=tel.set q.1 (stp (tel.getD q.1 none) (lw ks u v q))
theorem AE{α:Type}(p:QT α)(x y:α)(r:QT α):(p ++ x :: r).set p.length y=p ++ y :: r:=by rw[List.set_append_right _ _ (B4 _),QJ];rfl
theorem yC{α:Type}(p:QT α)(x d:α)(r:QT α):(p ++ x :: r).getD p.length d=x:=by rw[K3,O3 (B4 _),QJ];rfl
theorem yD{ks:QT Kd}{u v:SW}{i:Nat}{k:Kd}(hk:ks[i]?=some k)(p:QT (QR Int))(hp:p.length=i)(r:QT (QR Int)) :
  ((lyT i k).filter (cO ks u.length v.length)).foldl (fJ ks u v) (p ++ none :: r)=p ++ kwt u v k :: r:=by
 subst hp;have f:∀c,cO ks u.length v.length (p.length,c)=cY k c u.length v.length:=λ c=>by unfold cO;dsimp only;rw[hk]
 have s:∀(c:Bool)(o:QR Int),fJ ks u v (p ++ o :: r) (p.length,c)=p ++ stp o (kw1 u v k c) :: r:=λ c o=>by unfold fJ lw;dsimp only;rw[hk,yC,AE]
 unfold lyT kwt;rw[PR,f];cases t:bi k with
 | false=>
  rw[QZ B3,QB,Bool.false_and,QZ B3];cases a:cY k false u.length v.length with
  | false=>rfl
  | true=>
   rw[Qa rfl,Qa rfl,O5,List.foldl_nil,s];rfl
 | true=>
  rw[Qa rfl,PR,QB,f,QD];cases a:cY k false u.length v.length with
  | false=>
   rw[QZ B3,QZ B3];cases b:cY k true u.length v.length with
   | false=>rfl
   | true=>rw[Qa rfl,Qa rfl,O5,List.foldl_nil,s]
  | true=>
   rw[Qa rfl,Qa rfl];cases b:cY k true u.length v.length with
   | false=>
    rw[QZ B3,QZ B3,O5,List.foldl_nil,s];rfl
   | true=>
    rw[Qa rfl,Qa rfl,O5,O5,List.foldl_nil,s,s];rfl
theorem pM{ks:QT Kd}{u v:SW}:∀(r pre:QT Kd),pre ++ r=ks->((lyK r pre.length).filter (cO ks u.length v.length)).foldl (fJ ks u v) (pre.map (kwt u v) ++ List.replicate r.length none)=ks.map (kwt u v)
 | [],pre,e=>by rw[N0]at e;subst e;simp[lyK]
 | k :: r,pre,e=>by
  have hk:ks[pre.length]?=some k:=by rw[<- e,O3 (B4 _),QJ];rfl
  have ih:=pM (ks:=ks) (u:=u) (v:=v) r (pre ++ [k]) (by rw[K5];exact e);show(((lyT pre.length k ++ lyK r (pre.length+1)).filter (cO ks u.length v.length)).foldl (fJ ks u v) (pre.map (kwt u v) ++ none :: List.replicate r.length none))=_;rw[P7,QH,yD hk _ (by rw[B5])];rw[J7,J5,K5]at ih;exact ih
theorem pN{ks:QT Kd}{u v:SW}:∀(qs:QT (Nat×Bool))(t:QT (QR Int)),(qs.foldl (fJ ks u v) t).length=t.length
 | [],_=>rfl
 | q :: r,t=>by rw[O5,pN r];unfold fJ;rw[List.length_set]
structure Wts(H:Hp)(a:QP)(us:SW):Prop where
 row:RowI H a us
 l1:1<=us.length
 l60:us.length<=60
 gw:fH us
theorem Wts.same{H H':Hp}{a:QP}{us:SW}(s:Same H H')(h:Wts H a us):Wts H' a us:=%[h.row.same s,h.l1,h.l60|h.gw]
theorem Ch{H:Hp}{a:QP}{us:SW}(h:RowI H a us):∃T,Ty K H (.ref a) T:=by
 rcases h with z | z
 ·exact%[_|Ty.lst z]
 ·exact%[_|Ty.tup z]
def Ci:Sp:=λ vs H Q _=>∃(a c:QP)(us ws:SW)(m n:Int),vs=[.int m,.int n,.ref a,.ref c]/\m=us.length/\n=ws.length/\Wts H a us/\Wts H c ws/\∀H',Same H H'->Q .non H'
theorem sccweights:FnScope ["wide","high","u","v","side","weights"] SA (defScope cS):=nofun
theorem pO{f:QP}{fd:G2}(F:Fun K "check_weights" "check_weights" cS f fd)(B:Blt mg)(ms:∃t,mg "MOST_SIDE_weighing" = some (.int 60 t))(DCP:Dn P w K mg base "check_plate" RX 2 spCP)(DCS:Dn P w K mg base "check_sides" RY 1 spCS)(DI:Dn P w K mg base "is_weights" RQ 2 (yx K)):FnOk P w K mg base CX0 3 f fd SA (Ci):=by
 exists sccweights;obtain⟨a,c,us,ws,m,n,rfl,rfl,rfl,hu,hv,q⟩:=h;obtain⟨tk,htk⟩:=ms;have hr1:=hr.mono (show 1<=2 by decide);apply%[_,((@bj _ _ _ _ (DCP∪('0'^^^('1'^^^ae))) O)<<<((@bj _ _ _ _ (@ap _ _ _ _ _ _ _ _ _ _ DCS hr1 O ('0'^^^('1'^^^((bU (v:=.int 60) O htk %[tk|O])^^^ae))) ∅ O O) O)>>>(@bE _ _ _ _ _ _ _ _ E8 O (jS (@aJ _ _ _ _ _ ((@aJ _ _ _ _ _ ('0'^^^('2'^^^ae)))^^^((@aJ _ _ _ _ _ ('1'^^^('3'^^^ae)))^^^ae)))) (bn O (4•(5•aR))) (@ai _ _ _ ((PW.pt (cP (@bf _ _ _ _ (@aW _ _ _ (DI∪('5'^^^ae)) (by intro _;rfl))) (cC ((@ay _ _ _ _ _ _ _ _ _ aN O B.len Qn ('5'^^^ae) ∅ ∅ O O)<*>nT<*>'4'))))<|>(@ai _ _ _ cT)<|>aE)) (by intro _;rfl))))|?_];dsimp only[bL];have:=hu.l1;have:=hu.l60;have:=hv.l1;have:=hv.l60;apply%[_,O,_,O,_,_,O,⋯,⋯|?_];apply%[_,O,_,O,_,_,60,O,⋯,⋯|?_];apply%[_,O,_,O,zS2|λ t1 ht1=>?_];have s1:Same H (upd H t1 (.tup [.int us.length,.ref a])):=G5 ht1;have k1:(upd H t1 (.tup [.int us.length,.ref a])) t1= ~~~[.int us.length,.ref a]:=ah;generalize upd H t1 _=H1 at s1 k1 ⊢;apply%[_,O,_,O,zS2|λ t2 ht2=>?_];have s2:Same H1 (upd H1 t2 (.tup [.int ws.length,.ref c])):=G5 ht2;have k2:(upd H1 t2 (.tup [.int ws.length,.ref c])) t2= ~~~[.int ws.length,.ref c]:=ah;generalize upd H1 t2 _=H2 at s2 k2 ⊢;apply%[zS2|λ t3 ht3=>?_];have s3:Same H2 (upd H2 t3 (.tup [.ref t1,.ref t2])):=G5 ht3;have k3:(upd H2 t3 (.tup [.ref t1,.ref t2])) t3= ~~~[.ref t1,.ref t2]:=ah;generalize upd H2 t3 _=H3 at s3 k3 ⊢;have sA:Same H H3:=(s1.trans s2).trans s3;apply%[t3,O,%[_|G6 k3]|rp (xs:=[.ref t1,.ref t2]) (λ i σ H'=>(∃v4 v5,σ=[⇑us.length,⇑ws.length,↑a,↑c,v4,v5])/\Same H3 H') %[%[_,_|O]|Same.refl _] (λ i σ H' _ ⟨_,s4⟩=>G6 (s4 _ _ k3)) ?_ ?_]
 ·rintro i x σ H4 hi ⟨⟨v4,v5,rfl⟩,s4⟩;have one:∀(t y:QP)(zs:SW),H4 t= ~~~[.int zs.length,.ref y]->Wts H4 y zs->gTup K 2 (gCons (fB 4) (gCons (fB 5) wD)) (.ref t) [⇑us.length,⇑ws.length,↑a,↑c,v4,v5] H4 λ σ2 H2=>σ2=[⇑us.length,⇑ws.length,↑a,↑c,⇑zs.length,↑y]/\H2=H4:=λ t y zs ht hy=>
   %[t,_,rfl,G6 ht,rfl,_,_,rfl,_,_,rfl,rfl,rfl|rfl]
  obtain⟨t,y,zs,rfl,ht,hy⟩:∃(t y:QP)(zs:SW),x=.ref t/\H4 t= ~~~[.int zs.length,.ref y]/\Wts H4 y zs:=by
   have h2:=(A7.mp hi).1
   match i,hi with
   | 0,hi=>cases hi;exact%[t1,a,us,O,s4 _ _ (s3 _ _ (s2 _ _ k1))|hu.same (sA.trans s4)]
   | 1,hi=>cases hi;exact%[t2,c,ws,O,s4 _ _ (s3 _ _ k2)|hv.same (sA.trans s4)]
   | (i+2),hi=>exact absurd h2 (by show¬ i+2 < 2;lia)
  apply%[t,_,O,G6 ht,O,_,_,O,_,_,O,O|?_];obtain⟨T,ty⟩:=Ch (K:=K) hy.row;apply%[_,O,.ref y,T,O,ty|.inr %[y,_,O,hy.row,λ z hz=>?_|λ H5 s5=>%[_,O|?_]]]
  ·obtain⟨z',_,rfl⟩:=J6.mp hz;exact%[_|Ty.int]
  rw[mz hy.l1 hy.l60 λ x hx=>(hy.gw x hx).1];have sq:SqL K H5 y (zs.map V.int)\/SqT K H5 y (zs.map V.int):=(hy.row.same s5).imp (λ z=>G7 z) λ z=>G6 z;apply be %[_,rfl,y,_,rfl,sq,_,rfl,rfl,_,rfl|?_];rw[B5,Qb (rfl:V.int (zs.length:Int)=V.int (zs.length:Int))];exact be %[%[_,_|rfl]|s4.trans s5]
 ·rintro σ H4 ⟨⟨v4,v5,rfl⟩,s4⟩;exact q _ (sA.trans s4)
theorem yE{α:Type}{t:QT (QR α)}{j:Nat}(h:j < t.length):t.set j (t.getD j none)=t:=by rw[K3,F5 h];exact List.set_getElem_self h
theorem sR{n j:Nat}(h:j < n):ixN n (j:Int)=some j:=by unfold ixN;rw[Qa (Int.natCast_nonneg j),Qa ⋯,M5]
theorem Cj(t:QT (QR Int))(j:Nat)(o:QR Int):(t.map oV).set j (oV o)=(t.set j o).map oV:=by rw[List.map_set]
theorem gj{C:QP}{H H':Hp}{s:QP}{b:Int}{ks:QT Kd}(k:Same H H')(S:ShopAt C H s b ks):ShopAt C H' s b ks:=S.keep (λ c o e=>k _ _ e) (λ c C' d fs e=>k _ _ e)
theorem jM{ks:QT Kd}(hg:∀k∈ks,Good k){i:Nat}{k:Kd}(h:ks[i]?=some k)(c:Bool):1<=sd1 k c/\1<=sd2 k c:=by have g:=hg k (B7 h);have:=g.w;have:=g.h;unfold sd1 sd2;cases c <;> exact%[by assumption|by assumption]
theorem jw{us:SW}(h:fH us){i:Int}(h0:0<=i)(h1:i < us.length):0<=gI us i/\gI us i < 10 ^ 58:=by
 have hi:i.toNat < us.length:=⋯
 unfold gI;rw[K3,F5 hi];exact h _ (QI hi)
def Ck(C:QP):Sp:=λ vs H Q _=>∃(s a c:QP)(b:Int)(ks:QT Kd)(us ws:SW)(m n:Int),vs=[.ref s,.int m,.int n,.ref a,.ref c]/\m=us.length/\n=ws.length/\ShopAt C H s b ks/\ks.length<=8/\(∀k∈ks,Good k)/\Wts H a us/\Wts H c ws /\
 ∀(l:QP)(H':Hp),H l=none->H' l=↥((ks.map (kwt us ws)).map oV)->Same H H'->Q (.ref l) H'
theorem sckweights:FnScope SB SC (defScope cN):=nofun
theorem pP{f C:QP}{fd:G2}(F:Fun K "kind_weights" "kind_weights" cN f fd)(B:Blt mg)(T:ShopTxt K C)(DCW:Dn P w K mg base "check_weights" SA 3 Ci)(MK:Mn P w K mg base C "kinds" RV 1 (mW C))(MS:Mn P w K mg base C "sides" RW 3 (spSides K C))(DLY:Dn P w K mg base "lyings_in" Ra 5 (spLyIn C)):FnOk P w K mg base CX0 6 f fd SC (Ck C):=by
 exists sckweights;apply br λ G9 k9=>?_;obtain⟨s,a,c,b,ks,us,ws,m,n,rfl,rfl,rfl,S,k8,hg,hu,hv,q⟩:=h;apply k9 ?_;have hr1:=hr.mono (show 1<=5 by decide);have hr3:=hr.mono (show 3<=5 by decide);apply%[_,((@bj _ _ _ _ (@ap _ _ _ _ _ _ _ _ _ _ DCW hr3 O ('1'^^^('2'^^^('3'^^^('4'^^^ae)))) ∅ O O) O)<<<((gr (i:=5) (own:=RU) (cs:=[]) (cap:=[]) O nd O O O (bC (eA '0' T.cl MK hr1)) (aD (sc:=defScope cN) (N:=SB) O O ∅) (λ _ _ _ _ _=>aj (i:=0) (by show List.Nodup (RU:QT Str) ;decide +kernel) O (Or.inl O) (Or.inr O)) (λ _ _ _ _ _=>aH) (λ _ _ _ _ _=>fL))<<<((@bE _ _ _ _ _ _ _ _ E8 O (bC (DLY∪('0'^^^((@aJ _ _ _ _ _ ('1'^^^('2'^^^ae)))^^^ae)))) (bn O (6•(7•aR))) ((@cr _ _ _ _ _ _ (rO '0' T.cl MS hr3 ('6'^^^('7'^^^ae))) (bn O (8•(9•aR))) O O O)<<<((10∣(('3'&&&qw&&&('8'|||bg|||ag))|||ip|||('4'&&&qw&&&('9'|||bg|||ag))))>>>((PW.pt (cP (('5'&&&ix_list&&&'6')<*>jU<*>fL) (cC (':'<*>wK<*>('5'&&&ix_list&&&'6')))))<|>(@ai _ _ _ (@cr _ _ _ _ _ _ ':' (jQ '5' '6' fR) O O O))<|>aE))) (by intro _;rfl))<<<('5'⁻¹))))|?_];dsimp only[bL];have sz:(100:Nat) < sizeLine:=∅
 apply%[_,O,_,O,_,O,_,O,a,c,us,ws,_,_,O,O,O,hu,hv|λ H1 s1=>?_];have S1:=gj s1 S;obtain⟨dx,r,rs,h1,h2,h3⟩:=id S1;apply%[_,O,s,dx,_,O,h1,bP _ _ ∅ ∅,s,b,ks,O,S1|λ kl rs' hkl tp=>?_];have s2:Same H1 (upd H1 kl (.lst rs')):=G5 hkl;have k2:(upd H1 kl (.lst rs')) kl=↥rs':=ah;generalize upd H1 kl (.lst rs')=H2 at s2 k2 ⊢;have len:=E7 tp;apply%[kl,O,%[_|G7 k2]|(bS (K:=K) (.inl k2) (λ i ys H4=>H4=H2/\ys=List.replicate i V.non) (λ i ys H4 _ ⟨e4,_⟩ o e=>by rw[e4];exact e) %[O|O] ?_ ?_).1 k2]
 ·rintro i y ys H4 hi ⟨e4,rfl⟩;subst e4;have hin:i < rs'.length:=(A7.mp hi).1;apply%[by rw[K7];lia,leS.set rfl|aI ?_];show Nx rs'.length (λ i ys H'=>H'=H4/\ys=List.replicate i V.non) i (List.replicate i V.non ++ [V.non]) H4;exact Nx.of hin %[rfl|by rw[List.replicate_succ']]
 rintro ys H4 ⟨e4,rfl⟩;subst e4;apply%[by rw[K7];lia|λ lt hlt=>?_];have s3:Same H4 (upd H4 lt (.lst (List.replicate rs'.length V.non))):=G5 hlt;have k3:(upd H4 lt (.lst (List.replicate rs'.length V.non))) lt=↥((List.replicate ks.length (none:QR Int)).map oV):=by rw[ah,List.map_replicate,len];rfl
 generalize upd H4 lt (.lst (List.replicate rs'.length V.non))=H3 at s3 k3 ⊢;have s13:=s2.trans s3;have S3:=gj s13 S1;apply%[_,O,_,O,_,O,zS2|λ tp' htp=>?_];have s4:Same H3 (upd H3 tp' (.tup [.int us.length,.int ws.length])):=G5 htp;have k4:(upd H3 tp' (.tup [.int us.length,.int ws.length])) tp'= ~~~[.int us.length,.int ws.length]:=ah;generalize upd H3 tp' _=H5 at s4 k4 ⊢;apply%[s,tp',b,ks,_,_,O,gj s4 S3,k8,k4|λ ll ys H6 hll l6 ly s6=>?_];have lt6:=s6 _ _ (s4 _ _ k3);have nll:ll≠lt:=λ z=>by rw[z,s4 _ _ k3]at hll;cases hll
 have hlt1:H1 lt=none:=s2.free hlt;have S6:ShopAt C H6 s b ks:=gj s6 (gj s4 S3);have sA:Same H1 H6:=(s13.trans s4).trans s6;have ylen:=E7 ly;apply⟨ll,O,%[_|G7 l6],cU (xs:=ys) (λ i σ H'=>(∃v6 v7 v8 v9 v10,σ=[↑s,⇑us.length,⇑ws.length,↑a,↑c,↑lt,v6,v7,v8,v9,v10]) /\
   H' lt=↥(((((lyK ks 0).filter (cO ks us.length ws.length)).take i).foldl (fJ ks us ws) (List.replicate ks.length none)).map oV)/\But lt H6 H') %[%[_,_,_,_,_|rfl],lt6|But.refl] (λ i σ H' _ ⟨_,_,b4⟩=>G7 (b4 _ _ nll l6)) ?_ ?_⟩
 ·rintro i x σ H7 hi ⟨⟨v6,v7,v8,v9,v10,rfl⟩,lt7,b7⟩;obtain⟨qq,hq,t,rfl,ht⟩:=J0 ly hi;have hmem:=B7 hq;have hmem':=(PJ.mp hmem)
  obtain⟨li,k,hk⟩:=nF hmem'.1;have hf:cY k qq.2 us.length ws.length=true:=by have:=hmem'.2;unfold cO at this;rw[hk]at this;exact this
  obtain⟨f1,f2⟩:sd1 k qq.2<=us.length/\sd2 k qq.2<=ws.length:=by unfold cY at hf;rw[M9]at hf;exact%[C2 hf.1|C2 hf.2]
  obtain⟨g1,g2⟩:=jM hg hk qq.2;have nt:t≠lt:=λ z=>by rw[z,lt6]at ht;cases ht
  have t7:=b7 _ _ nt ht;have S7:ShopAt C H7 s b ks:=S6.keep (λ x o e=>b7 _ _ (λ z=>by rw[z,lt6]at e;cases e) e) (λ x C' d fs e=>b7 _ _ (λ z=>by rw[z,lt6]at e;cases e) e);have sX:Same H1 H7:=λ x o e=>b7 _ _ (λ z=>by rw[z,hlt1]at e;cases e) (sA _ _ e);obtain⟨dx7,r7,rs7,h17,h27,h37⟩:=id S7;apply%[t,_,O,G6 t7,O,_,_,O,_,_,O,O|?_];apply%[_,O,s,dx7,_,O,h17,bP _ _ ∅ ∅,_,O,_,O,s,b,ks,.int qq.1,.bl qq.2, "int", "bool",O,S7,Ty.int,Ty.bl,li|λ i' c' k' p e1 e2 hk' _ hp=>?_];cases e1;cases e2;rw[M5,hk]at hk';cases hk';rw[oT];have s8:Same H7 (upd H7 p (.tup [.int (sd1 k qq.2),.int (sd2 k qq.2)])):=G5 hp;have p8:(upd H7 p (.tup [.int (sd1 k qq.2),.int (sd2 k qq.2)])) p= ~~~[.int (sd1 k qq.2),.int (sd2 k qq.2)]:=ah;generalize upd H7 p (.tup [.int (sd1 k qq.2),.int (sd2 k qq.2)])=H8 at s8 p8 ⊢;have sY:Same H H8:=λ x o e=>s8 _ _ (sX _ _ (s1 _ _ e));have lt8:=s8 _ _ lt7;have b8:But lt H6 H8:=λ x o n e=>s8 _ _ (b7 _ _ n e);apply%[p,_,O,G6 p8,O,_,_,O,_,_,O,O|?_];have u0:=jw hu.gw (i:=sd1 k qq.2 - 1) ⋯ ⋯;have v0:=jw hv.gw (i:=sd2 k qq.2 - 1) ⋯ ⋯;have e58:(10:Nat) ^ 58 < 2 ^ 4096:=∅
  apply%[_,O,_,O,_,_,O,O|nI (hu.row.same sY) ⋯ ⋯ ?_];apply%[_,O,_,O,_,_,O,O|nI (hv.row.same sY) ⋯ ⋯ ?_];apply%[_,_,O,O,%[⋯|⋯]|?_];have wl:lw ks us ws qq=gI us (sd1 k qq.2 - 1) * gI ws (sd2 k qq.2 - 1):=by unfold lw;rw[hk];rfl
  have tst:(((lyK ks 0).filter (cO ks us.length ws.length)).take (i+1)).foldl (fJ ks us ws) (List.replicate ks.length none)=fJ ks us ws ((((lyK ks 0).filter (cO ks us.length ws.length)).take i).foldl (fJ ks us ws) (List.replicate ks.length none)) qq:=by rw[K0,hq,QH];rfl
  have tl:((((lyK ks 0).filter (cO ks us.length ws.length)).take i).foldl (fJ ks us ws) (List.replicate ks.length none)).length=ks.length:=by rw[pN,K7]
  rw[tst];generalize(((lyK ks 0).filter (cO ks us.length ws.length)).take i).foldl (fJ ks us ws) (List.replicate ks.length none)=tel at tl lt8 ⊢;have qi:qq.1 < tel.length:=by rw[tl];exact(A7.mp hk).1
  have at1:atI (tel.map oV) (qq.1:Int)=some (oV (tel.getD qq.1 none)):=by apply mM ?_;rw[J3,K3,F5 qi];rfl
  generalize hW:gI us (sd1 k qq.2 - 1) * gI ws (sd2 k qq.2 - 1)=W at wl ⊢;have put:∀o,stp o W=some W->tel.getD qq.1 none=o->∀R:Hp->Prop,(∀H',H' lt=↥((fJ ks us ws tel qq).map oV)->But lt H6 H'->R H')->rSetL (.ref lt) (.int (qq.1:Int)) (.int W) H8 R:=λ o so eo R hR=>by apply%[lt,_,_,qq.1,O,O,lt8,sR (by rw[B5];exact qi)|hR _ ?_ (b8.trans But.upd)];rw[ah,show fJ ks us ws tel qq=tel.set qq.1 (some W)by unfold fJ;rw[eo,wl,so],<- Cj];rfl
  apply%[_,O,_,O,lt,_,_,_,O,O,G7 lt8,at1,O,_,O|?_];cases eo:tel.getD qq.1 none with
  | none=>
   rw[eo]at at1;apply ce (ce ?_);exact%[_,O,_,O,_,O|put none rfl eo _ λ H' e b=>%[%[_,_,_,_,_|O],e|b]]
  | some x=>
   rw[eo]at at1;apply be %[_,rfl,_,rfl,_,rfl,lt,_,_,_,rfl,rfl,G7 lt8,at1,_,_,rfl,rfl,_,rfl|?_];apply bW (λ cc=>?_) (λ cc=>?_)
   ·apply%[_,O,_,O,_,O|put (some x) ?_ eo _ λ H' e b=>%[%[_,_,_,_,_|O],e|b]];show(if W < x then some W else some x)=some W;rw[Qa (of_decide_eq_true cc)]
   ·apply%[%[_,_,_,_,_|O],?_|b8];rw[lt8];apply Qu (λ z:QT (QR Int)=>some (HO.lst (z.map oV))) ?_;unfold fJ;rw[eo,wl];show tel=tel.set qq.1 (if W < x then some W else some x);rw[QZ (λ z=>cc (Qb z)),<- eo];exact(yE qi).symm
 ·rintro σ H7 ⟨⟨v6,v7,v8,v9,v10,rfl⟩,lt7,b7⟩;rw[ylen,M0]at lt7;have fa:((lyK ks 0).filter (cO ks us.length ws.length)).foldl (fJ ks us ws) (List.replicate ks.length none)=ks.map (kwt us ws):=pM (u:=us) (v:=ws) ks [] rfl;rw[fa]at lt7;apply%[_,O|q lt H7 (s1.free hlt1) lt7 λ x o e=>?_];have e1:=s1 _ _ e;exact b7 _ _ (λ z=>by rw[z,hlt1]at e1;cases e1) (sA _ _ e1)
theorem Ea{ws:SW}(h:fH ws)(i:Int):gI ws i<=10 ^ 58:=by
 unfold gI;rw[K3];cases e:ws[i.toNat]? with
 | none=>decide
 | some x=>exact Int.le_of_lt (h x (B7 e)).2
theorem eX{b:Int}{ws:SW}(hb:0<=b)(h:fH ws){n:Nat}(hn:n<=60):rT (Ld b ws n):=by
 have h1:=Dx hb (Ea h) ∅ n;have h0:=fF (b:=b) (ws:=ws) n;have h2:(n:Int) * 10 ^ 58<=60 * 10 ^ 58:=O4 ⋯ ∅;have e:(60:Int) * 10 ^ 58 < 10 ^ 62:=∅
 have e2:((10 ^ 62:Nat):Int)=10 ^ 62:=∅
 unfold rT;lia
theorem mB{i:Int}(h:rT i):i.natAbs < 2 ^ 4096:=by
 unfold rT at h;have e:(10:Nat) ^ 62 < 2 ^ 4096:=∅
 lia
def Cl(us ws:SW)(k:Kd):Bool:=match kwt us ws k with
 | none=>true
 | some x=>decide (k.wo<=x)
def Cm(C:QP):Sp:=λ vs H Q _=>∃(s a c:QP)(b:Int)(ks:QT Kd)(us ws:SW)(m n:Int),vs=[.ref s,.int m,.int n,.ref a,.ref c]/\m=us.length/\n=ws.length/\ShopAt C H s b ks/\0<=b/\Wts H a us/\Wts H c ws /\
 ∀(H':Hp),Same H H'->Q (.int (Ld b us us.length * Ld b ws ws.length)) H'
def Oz(C:QP):Sp:=λ vs H Q _=>∃(s a c:QP)(b:Int)(ks:QT Kd)(us ws:SW)(m n:Int),vs=[.ref s,.int m,.int n,.ref a,.ref c]/\m=us.length/\n=ws.length/\ShopAt C H s b ks/\ks.length<=8/\(∀k∈ks,Good k)/\Wts H a us/\Wts H c ws /\
 ∀(H':Hp),Same H H'->Q (.bl (ks.all (Cl us ws))) H'
theorem scpload:FnScope SC SC (defScope fm):=nofun
theorem yF{f C:QP}{fd:G2}(F:Fun K "plate_load" "plate_load" fm f fd)(T:ShopTxt K C)(DCW:Dn P w K mg base "check_weights" SA 3 Ci)(MB:Mn P w K mg base C "blade" RV 1 (jF C))(DLo:Dn P w K mg base "load_of" R9 3 (yB K)):FnOk P w K mg base CX0 4 f fd SC (Cm C):=by
 exists scpload;obtain⟨s,a,c,b,ks,us,ws,m,n,rfl,rfl,rfl,S,b0,hu,hv,q⟩:=h;have hr1:=hr.mono (show 1<=3 by decide);apply%[_,((@bj _ _ _ _ (DCW∪('1'^^^('2'^^^('3'^^^('4'^^^ae))))) O)<<<((((DLo∪((eA '0' T.cl MB hr1)^^^('3'^^^('1'^^^ae))))&&&ix_tup&&&ag)|||ip|||((DLo∪((eA '0' T.cl MB hr1)^^^('4'^^^('2'^^^ae))))&&&ix_tup&&&ag))⁻¹))|?_];dsimp only[bL];apply%[_,O,_,O,_,O,_,O,a,c,us,ws,_,_,O,O,O,hu,hv|λ H1 s1=>?_];have S1:=gj s1 S;obtain⟨dx,r,rs,h1,h2,h3⟩:=id S1;apply%[_,O,s,dx,_,O,h1,bP _ _ ∅ ∅,s,b,ks,O,S1,_,O,_,O,b,a,us,us.length,O,b0,hu.row.same s1,hu.l60,λ x hx=>(hu.gw x hx).1,hu.l1,B4 _|λ t l ns H2 ht hl pm pw e1 e2 s2=>?_];apply%[t,_,_,_,O,O,G6 e1,O|?_];have S2:=gj s2 S1;obtain⟨dx2,r2,rs2,h12,h22,h32⟩:=id S2;have s12:=s1.trans s2;apply%[_,O,s,dx2,_,O,h12,bP _ _ ∅ ∅,s,b,ks,O,S2,_,O,_,O,b,c,ws,ws.length,O,b0,hv.row.same s12,hv.l60,λ x hx=>(hv.gw x hx).1,hv.l1,B4 _|λ t' l' ns' H3 ht' hl' pm' pw' e1' e2' s3=>?_];apply%[t',_,_,_,O,O,G6 e1',O,_,_,O,O,%[mB (eX b0 hu.gw hu.l60)|mB (eX b0 hv.gw hv.l60)]|?_];exact q _ (s12.trans s3)
def CDivC(i j:Int):Prop:=0 < j/\j.natAbs < 2 ^ 4096
theorem CDivC.np{i j:Int}(h:CDivC i j):Builtin.divisionGoesByPylong i j=false:=by apply PyProof.noPylong_of_log2 ?_;have h2:j.natAbs.log2 < 4096:=(Nat.log2_lt (by have:=h.1;lia)).mpr h.2;lia
theorem yG{X:Cx}:OpR X (binaryOp .FloorDiv) (rI CDivC λ i j=>.int (i / j)):=opI λ i j _ _ _ _ _ hc q=>by apply PyProof.Rows.floordiv_int (by have:=hc.1;lia) ?_ (.inl hc.np);rw[Int.fdiv_eq_ediv_of_nonneg _ (by have:=hc.1;lia)];exact q
theorem pQ{l1 l2:QP}{xs ys:QT V}{g:TG}{tb:TS}{D:Ends}{σ:St}{H:Hp}(Pv:Nat->St->Hp->Prop)(hn:xs.length=ys.length)(h0:Pv 0 σ H)(hk:∀i σ H',Pv i σ H'->H' l1= ~~~xs/\H' l2=↥ys)
  (ht:∀i x y p σ H,xs[i]?=some x->ys[i]?=some y->H p=none->Pv i σ H->g (.ref p) σ (upd H p (.tup [x,y])) λ σ2 H2=>tb { D with nx:=Pv (i+1),ct:=Pv (i+1),bk:=D.nx } σ2 H2) (hd:∀σ H,Pv xs.length σ H->D.nx σ H) :
  ∃W:Nat->Nat->St->Hp->Prop,(∃m,W 0 m σ H)/\∀i m σ H,W i m σ H ->
   ((zW l1 l2).stop i H/\D.nx σ H)\/((zW l1 l2).go i H/\∃N:St->Hp->Prop,(∀σ' H',N σ' H'->∃m',m' < m/\W (i+1) m' σ' H')/\∀x H',(zW l1 l2).yld i H x H'->g x σ H' λ σ2 H2=>tb { D with nx:=N,ct:=N,bk:=D.nx } σ2 H2):=by
 apply%[λ i m σ H=>m=xs.length - i/\i<=xs.length/\Pv i σ H,%[xs.length,by simp,F2 _|h0]|?_];rintro i m σ H ⟨rfl,hi,p⟩;obtain⟨e1,e2⟩:=hk i σ H p
 by_cases hlt:i < xs.length
 ·apply .inr %[%[xs,ys,xs[i],ys[i]'⋯,e1,e2,by simp[hlt]|by simp[show i < ys.length by lia]],Pv (i+1),λ σ' H' p'=>%[xs.length - (i+1),⋯,O,hlt|p']|λ v H' y=>?_];obtain⟨q,xs',ys',x,y,hq,rfl,rfl,e1',e2',ex,ey⟩:=y;rw[e1]at e1';cases e1';rw[e2]at e2';cases e2';exact ht i x y q σ H ex ey hq p
 ·have e:i=xs.length:=⋯
  subst e;exact .inl %[%[xs,ys,e1,e2|.inl (B4 _)]|hd σ H p]
def dQ(us ws:SW):QT Kd->Int->QR Int
 | [],a=>some a
 | k :: r,a=>if 0 < k.wa then match kwt us ws k with
  | none=>none
  | some x=>dQ us ws r (a+k.wa * x)else dQ us ws r a
theorem iO(us ws:SW)(k:Kd)(r:QT Kd):∀(p:QT Kd)(a b:Int),dQ us ws p a=some b->dQ us ws (p ++ k :: r) a=dQ us ws (k :: r) b
 | [],a,b,h=>by cases h;rfl
 | c :: p,a,b,h=>by
  simp only[List.cons_append,dQ]at h ⊢
  by_cases hc:0 < c.wa
  ·rw[Qa hc]at h ⊢;cases e:kwt us ws c with
   | none=>rw[e]at h;cases h
   | some x=>rw[e]at h;exact iO us ws k r p _ _ h
  ·rw[QZ hc]at h ⊢;exact iO us ws k r p _ _ h
theorem mC(us ws:SW)(k:Kd)(p:QT Kd)(a b:Int)(h:dQ us ws p a=some b):dQ us ws (p ++ [k]) a=if 0 < k.wa then(kwt us ws k).map (λ x=>b+k.wa * x)else some b:=by
 rw[iO us ws k [] p a b h];simp only[dQ]
 by_cases hc:0 < k.wa
 ·rw[Qa hc,Qa hc];cases kwt us ws k <;> rfl
 ·rw[QZ hc,QZ hc]
theorem uT(us ws:SW){ks:QT Kd}{i:Nat}{k:Kd}{b:Int}(hk:ks[i]?=some k)(h:dQ us ws (ks.take i) 0=some b)(hw:0 < k.wa)(hn:kwt us ws k=none):dQ us ws ks 0=none:=by
 have hi:i < ks.length:=(A7.mp hk).1;have e:ks=ks.take i ++ k :: ks.drop (i+1):=by have h1:ks[i]=k:=C0 ((F5 hi).symm.trans hk);rw[<- h1,<- PK hi,List.take_append_drop]
 rw[e,iO us ws k _ _ 0 b h];simp only[dQ];rw[Qa hw,hn]
def uU(us ws:SW)(b:Int)(ks:QT Kd):QR Int:=match dQ us ws ks 0 with
 | none=>none
 | some t=>some (if t=0 then 0 else(t+Ld b us us.length * Ld b ws ws.length - 1) / (Ld b us us.length * Ld b ws ws.length))
theorem mD(us ws:SW):∀(ks:QT Kd)(a t:Int),(∀k∈ks,∀x,kwt us ws k=some x->x=0)->dQ us ws ks a=some t->t=a
 | [],a,t,_,h=>by cases h;rfl
 | k :: r,a,t,hz,h=>by
  simp only[dQ]at h;have hr:=λ a'=>mD us ws r a' t λ k' hk'=>hz k' (B6 _ hk')
  by_cases hc:0 < k.wa
  ·rw[Qa hc]at h;cases e:kwt us ws k with
   | none=>rw[e]at h;cases h
   | some x=>
    rw[e]at h;have hx:=hz k (B9 ..) x e;have:=hr _ h;rw[hx,Int.mul_zero,Int.add_zero]at this;exact this
  ·rw[QZ hc]at h;exact hr _ h
theorem pR{us ws:SW}{k:Kd}{x:Int}(h:kwt us ws k=some x):∃c,cY k c us.length ws.length=true/\x=kw1 us ws k c:=by
 unfold kwt at h
 by_cases c1:(bi k && cY k true us.length ws.length)=true
 ·rw[Qa c1]at h;have f1:=(E3.mp c1).2
  by_cases c2:cY k false us.length ws.length=true
  ·rw[Qa c2]at h;simp only[stp]at h
   split at h
   ·cases h;exact%[true,f1|O]
   ·cases h;exact%[false,c2|O]
  ·rw[QZ c2]at h;cases h;exact%[true,f1|O]
 ·rw[QZ c1]at h
  by_cases c2:cY k false us.length ws.length=true
  ·rw[Qa c2]at h;cases h;exact%[false,c2|O]
  ·rw[QZ c2]at h;cases h
theorem nL{k:Kd}{c:Bool}{m n:Int}(h:cY k c m n=true):sd1 k c<=m/\sd2 k c<=n:=by unfold cY at h;rw[M9]at h;exact%[C2 h.1|C2 h.2]
theorem rf{us ws:SW}{k:Kd}{x:Int}(gk:Good k)(gu:fH us)(gv:fH ws)(h:kwt us ws k=some x):0<=x/\x < 10 ^ 116:=by
 obtain⟨c,hf,rfl⟩:=pR h;obtain⟨f1,f2⟩:=nL hf;obtain⟨g1,g2⟩:=jM (ks:=[k]) (λ k' hk'=>by rw[E6.mp hk'];exact gk) (i:=0) rfl c;obtain⟨a1,a2⟩:=jw gu (i:=sd1 k c - 1) ⋯ ⋯;obtain⟨b1,b2⟩:=jw gv (i:=sd2 k c - 1) ⋯ ⋯;apply%[Int.mul_nonneg a1 b1|?_];unfold kw1;have h1:gI us (sd1 k c - 1) * gI ws (sd2 k c - 1)<=gI us (sd1 k c - 1) * 10 ^ 58:=Int.mul_le_mul_of_nonneg_left ⋯ a1;have h2:gI us (sd1 k c - 1) * 10 ^ 58 < 10 ^ 58 * 10 ^ 58:=Int.mul_lt_mul_of_pos_right a2 ∅;have h3:(10:Int) ^ 58 * 10 ^ 58=10 ^ 116:=∅
 lia
theorem Bi{b:Int}{us:SW}(hb:0<=b){i:Int}(h0:0<=i)(h1:i < us.length):gI us i<=Ld b us us.length:=by
 have h:=rQ (ws:=us) hb (us.length - 1) i.toNat ⋯;have e:us.length - 1+1=us.length:=⋯
 rw[e]at h;have hn:=fF (b:=b) (ws:=us) (m0 (((us.length - 1:Nat):Int)+1 - ((i.toNat:Int)+1) - b)).toNat;have ei:((i.toNat:Nat):Int)=i:=⋯
 rw[ei]at h hn;lia
theorem pS{us ws:SW}{ks:QT Kd}{b t:Int}(hb:0<=b)(hg:∀k∈ks,Good k)(gu:fH us)(gv:fH ws)(h:dQ us ws ks 0=some t)(ht:t≠0):0 < Ld b us us.length * Ld b ws ws.length:=by
 obtain⟨k,hk,x,e,hx⟩:∃k∈ks,∃x,kwt us ws k=some x/\x≠0:=by apply Q0 λ z=>ht (mD us ws ks 0 t (λ k hk x e=>?_) h);exact Q0 λ z'=>z %[k,hk,x,e|z']
 obtain⟨c,hf,rfl⟩:=pR e;obtain⟨f1,f2⟩:=nL hf;obtain⟨g1,g2⟩:=jM (ks:=[k]) (λ k' hk'=>by rw[E6.mp hk'];exact hg k hk) (i:=0) rfl c;obtain⟨a1,a2⟩:=jw gu (i:=sd1 k c - 1) ⋯ ⋯;obtain⟨b1,b2⟩:=jw gv (i:=sd2 k c - 1) ⋯ ⋯;unfold kw1 at hx;have p1:gI us (sd1 k c - 1)≠0:=λ z=>hx (by rw[z,Int.zero_mul]);have p2:gI ws (sd2 k c - 1)≠0:=λ z=>hx (by rw[z,Int.mul_zero]);have q1:=Bi hb (us:=us) (i:=sd1 k c - 1) ⋯ ⋯;have q2:=Bi hb (us:=ws) (i:=sd2 k c - 1) ⋯ ⋯;exact Int.mul_pos ⋯ ⋯
def Eb(C:QP):Sp:=λ vs H Q _=>∃(s a c:QP)(b:Int)(ks:QT Kd)(us ws:SW)(m n:Int),vs=[.ref s,.int m,.int n,.ref a,.ref c]/\m=us.length/\n=ws.length/\ShopAt C H s b ks/\ks.length<=8/\(∀k∈ks,Good k)/\0<=b/\Wts H a us/\Wts H c ws /\
 ∀(H':Hp),Same H H'->Q (oV (uU us ws b ks)) H'
theorem scpbw:FnScope ["shop","wide","high","u","v","weights","whole","many","weight","load"] SC (defScope bX):=nofun
theorem Cn{f C:QP}{fd:G2}(F:Fun K "plates_by_weights" "plates_by_weights" bX f fd)(B:Blt mg)(T:ShopTxt K C)(DKW:Dn P w K mg base "kind_weights" SC 6 (Ck C))(DPL:Dn P w K mg base "plate_load" SC 4 (Cm C))(MW:Mn P w K mg base C "wanted" RV 1 (dG C)):FnOk P w K mg base CX0 7 f fd SC (Eb C):=by
 exists scpbw;apply br λ G9 k9=>?_;obtain⟨s,a,c,b,ks,us,ws,m,n,rfl,rfl,rfl,S,k8,hg,b0,hu,hv,q⟩:=h;apply k9 ?_;have hr1:=hr.mono (show 1<=6 by decide);have hr4:=hr.mono (show 4<=6 by decide);apply%[_,((5∣(DKW∪('0'^^^('1'^^^('2'^^^('3'^^^('4'^^^ae)))))))<<<((6∣ag)<<<((@bE _ _ _ _ _ _ _ _ E8 O (rZ O B.zip ((eA '0' T.cl MW hr1)^^^('5'^^^ae))) (bn O (7•(8•aR))) (@ai _ _ _ (('7'<*>cV<*>ag)<|>((('8'<*>jU<*>fL)<|>(fL⁻¹)<|>aE)>>>(wF (i:=6) nd O (Or.inl O) ('7'|||ip|||'8') Bt))<|>aE)) (by intro _;rfl))<<<((('6'<*>dB<*>ag)<|>(ag⁻¹)<|>aE)<<<((9∣(@ap _ _ _ _ _ _ _ _ _ _ DPL hr4 O ('0'^^^('1'^^^('2'^^^('3'^^^('4'^^^ae))))) ∅ O O))<<<(((('6'|||aX|||'9')|||bg|||ag)|||yG|||'9')⁻¹))))))|?_];dsimp only[bL];have sz:(100:Nat) < sizeLine:=∅
 apply%[_,O,_,O,_,O,_,O,_,O,s,a,c,b,ks,us,ws,_,_,O,O,O,S,k8,hg,hu,hv|λ l H1 hl l1 s1=>?_];have S1:=gj s1 S;obtain⟨dx,r,rs,h1,h2,h3⟩:=id S1;apply%[_,O,s,dx,_,O,h1,bP _ _ ∅ ∅,s,b,ks,O,S1,k8|λ wt H2 hwt wt2 s2=>?_];have l2:=s2 _ _ l1;apply%[_,O,wt,l,_,_,O,wt2,l2|pQ (xs:=ks.map λ k=>V.int k.wa) (ys:=(ks.map (kwt us ws)).map oV) (λ i σ H4=>∃t v7 v8,σ=[↑s,⇑us.length,⇑ws.length,↑a,↑c,↑l,⇑t,v7,v8,none]/\dQ us ws (ks.take i) 0=some t/\Same H2 H4) (by rw[B5,B5,B5]) %[0,none,none,O,O|Same.refl _] (λ i σ H4 h9=>by obtain⟨_,_,_,_,_,s4⟩:=h9;exact%[s4 _ _ wt2|s4 _ _ l2]) ?_ ?_]
 ·rintro i x y p σ H4 hx hy hp ⟨t,v7,v8,rfl,pt,s4⟩;rw[J3]at hx;rw[J3,J3]at hy;cases hk:ks[i]? with
  | none=>rw[hk]at hx;cases hx
  | some k=>
   rw[hk]at hx hy;cases hx;cases hy;have gk:=hg k (B7 hk);have s5:=s4.trans (G5 hp (o:=.tup [.int k.wa,oV (kwt us ws k)]));have p5:(upd H4 p (.tup [.int k.wa,oV (kwt us ws k)])) p= ~~~[.int k.wa,oV (kwt us ws k)]:=ah;generalize upd H4 p (.tup [.int k.wa,oV (kwt us ws k)])=H5 at s5 p5 ⊢;have tk:ks.take (i+1)=ks.take i ++ [k]:=by rw[K0,hk];rfl
   have sn:=mC us ws k (ks.take i) 0 t pt;rw[<- tk]at sn;apply%[p,_,O,G6 p5,O,_,_,O,_,_,O,O|?_];apply%[_,O,_,_,O,O,_,O|?_];apply bW (λ cc=>?_) (λ cc=>?_)
   ·have hw:0 < k.wa:=C2 cc;rw[Qa hw]at sn;apply%[_,O,O,_,O|?_];cases e:kwt us ws k with
    | none=>
     apply ce ?_;have q1:=q H5 (s1.trans (s2.trans s5));unfold uU at q1;rw[uT us ws hk pt hw e]at q1;exact q1
    | some x=>
     rw[e]at sn;obtain⟨x0,x1⟩:=rf gk hu.gw hv.gw e;have w1:=gk.wa';have w0:=gk.wa;have e1:(10:Nat) ^ 60 < 2 ^ 4096:=∅
     have e2:(10:Nat) ^ 116 < 2 ^ 4096:=∅
     apply be %[_,rfl,_,rfl,_,rfl,_,_,rfl,rfl,%[⋯|⋯],_,_,rfl,rfl|%[_,_,_,rfl,sn|s5]]
   ·rw[QZ (λ z=>cc (Qb z))]at sn;exact%[_,_,_,O,sn|s5]
 ·rintro σ H4 ⟨t,v7,v8,rfl,pt,s4⟩;rw[B5,M0]at pt;have s14:=s1.trans (s2.trans s4);apply%[_,O,O,_,O|?_];apply bW (λ cc=>?_) (λ cc=>?_)
  ·have t0:t=0:=V.int.inj (C2 cc);have q1:=q H4 s14;unfold uU at q1;rw[pt]at q1;simp only[t0,RL]at q1;exact q1
  ·have t0:t≠0:=λ z=>cc (B1 (by rw[z]));have L0:=pS b0 hg hu.gw hv.gw pt t0;apply%[_,O,_,O,_,O,_,O,_,O,s,a,c,b,ks,us,ws,_,_,O,O,O,gj s14 S,b0,hu.same s14,hv.same s14|λ H5 s5=>?_];have q1:=q H5 (s14.trans s5);unfold uU at q1;rw[pt]at q1;simp only[QZ t0]at q1;have m1:(Ld b us us.length * Ld b ws ws.length).natAbs < 2 ^ 4096:=by
    rw[Int.natAbs_mul];have a1:(Ld b us us.length).natAbs < 10 ^ 62:=eX b0 hu.gw hu.l60;have a2:(Ld b ws ws.length).natAbs < 10 ^ 62:=eX b0 hv.gw hv.l60;have a3:=P0 (C9 a1) (C9 a2);have a4:(10:Nat) ^ 62 * 10 ^ 62 < 2 ^ 4096:=∅
    lia
   exact%[_,O,_,O,_,_,O,O,_,_,O,O,_,O,_,_,O,O,%[L0|m1]|q1]
theorem rg{k:Kd}{c:Bool}(hc:c=true->bi k=true):∀{ks:QT Kd}{i j:Nat},ks[i]?=some k->(j+i,c)∈lyK ks j
 | k' :: r,0,j,h=>by
  simp only[List.getElem?_cons_zero,Option.some.injEq]at h;subst h;apply B8 _ ?_;unfold lyT;cases c with
  | false=>exact B9
  | true=>rw[Qa (hc rfl)];exact B6 _ (E6.mpr rfl)
 | k' :: r,i+1,j,h=>by apply A6 _ ?_;have:=rg hc (ks:=r) (i:=i) (j:=j+1) (by simpa using h);rw[show j+1+i=j+(i+1)by lia]at this;exact this
 | [],_,_,h=>by simp at h
theorem fitsK_iff{k:Kd}{w h:Int}:cZ k w h=true↔∃c:Bool,(c=true->bi k=true)/\cY k c w h=true:=by
 unfold cZ lnL;constructor
 ·intro z;obtain⟨q,hq,e⟩:=O7.mp z
  by_cases c:(k.tu && !decide (k.w=k.h))=true
  ·rw[Qa c]at hq;simp only[J4,K9,Qw]at hq;rcases hq with rfl | rfl
   ·exact⟨false,(λ z=>by cases z),e⟩
   ·exact%[true,λ _=>c|e]
  ·rw[QZ c]at hq;rw[E6]at hq;subst hq;exact⟨false,(λ z=>by cases z),e⟩
 ·rintro⟨c,h1,h2⟩;cases c with
  | false=>split <;> exact O7.mpr %[(k.w,k.h),B9|h2]
  | true=>
   rw[Qa (show(k.tu && !decide (k.w=k.h))=true from h1 rfl)];exact O7.mpr %[(k.h,k.w),B6 _ (E6.mpr rfl)|h2]
theorem yH{b:Int}{us:SW}(hb:0<=b):∀n:Nat,Ld b us n<=Ld b us (n+1):=by
 intro n
 induction n using Nat.strongRecOn with
 | ind n ih=>
  cases n with
  | zero=>exact fF 1
  | succ k=>
   rcases xq (ws:=us) hb k with⟨e,_⟩ | ⟨j,jk,_,e⟩
   ·rw[e];exact fF _
   ·have h:=rQ (ws:=us) hb (k+1) j ⋯;rw[e];have r0:(m0 ((k:Int)+1 - (j+1) - b)).toNat < k+1:=by unfold m0;split <;> lia
    have m:=ih _ r0;have c:(m0 (((k+1:Nat):Int)+1 - (j+1) - b)).toNat=(m0 ((k:Int)+1 - (j+1) - b)).toNat\/(m0 (((k+1:Nat):Int)+1 - (j+1) - b)).toNat=(m0 ((k:Int)+1 - (j+1) - b)).toNat+1:=by unfold m0;split <;> split <;> lia
    rcases c with c | c <;> (rw[c]at h;lia)
theorem jN{b:Int}{us:SW}(hb:0<=b){n:Nat}:∀{m:Nat},n<=m->Ld b us n<=Ld b us m:=by
 intro m
 induction m with
 | zero=>intro h;rw[show n=0 by lia];exact E9 _
 | succ m ih=>
  intro h
  by_cases e:n=m+1
  ·rw[e];exact E9 _
  ·exact QO (ih ⋯) (yH hb m)
theorem Co{b:Int}{us:SW}{B:Nat}(hb:b=B)(y:Nat):∀x:Nat,Ld b us x+Ld b us y<=Ld b us (x+B+y):=by
 have b0:0<=b:=⋯
 intro x
 induction x using Nat.strongRecOn with
 | ind x ih=>
  cases x with
  | zero=>
   rw[nj];have:=jN (us:=us) b0 (show y<=0+B+y by lia);lia
  | succ k=>
   rcases xq (ws:=us) b0 k with⟨e,_⟩ | ⟨j,jk,_,e⟩
   ·rw[e];have:=jN (us:=us) b0 (show y<=k+1+B+y by lia);lia
   ·have h:=rQ (ws:=us) b0 (k+B+y) j ⋯;rw[show k+1+B+y=k+B+y+1 by lia,e];have r0:(m0 ((k:Int)+1 - (j+1) - b)).toNat < k+1:=by unfold m0;split <;> lia
    have m:=ih _ r0;have c:(m0 ((k:Int)+1 - (j+1) - b)).toNat+B+y<=(m0 (((k+B+y:Nat):Int)+1 - (j+1) - b)).toNat\/((m0 ((k:Int)+1 - (j+1) - b)).toNat=0/\y<=(m0 (((k+B+y:Nat):Int)+1 - (j+1) - b)).toNat):=by unfold m0;split <;> split <;> lia
    rcases c with c | ⟨c1,c2⟩
    ·have:=jN (us:=us) b0 c;lia
    ·have:=jN (us:=us) b0 c2;rw[c1,nj];lia
theorem yI{b:Int}{us:SW}(hb:0<=b){p w:Int}(p1:1<=p)(h:p+b < w):Ld b us p.toNat+Ld b us (w - p - b).toNat<=Ld b us w.toNat:=by have:=Co (us:=us) (b:=b) (B:=b.toNat) ⋯ (w - p - b).toNat p.toNat;rw[show p.toNat+b.toNat+(w - p - b).toNat=w.toNat by lia]at this;exact this
def wtB:SW->SW->Int
 | x :: xs,c :: cs=>c * x+wtB xs cs
 | _,_=>0
theorem ez(c:SW):wtB [] c=0:=by cases c <;> rfl
theorem iP:∀(xs c:SW),(∀y∈c,y=0)->wtB xs c=0
 | [],c,_=>ez c
 | _ :: _,[],_=>rfl
 | x :: xs,y :: c,h=>by show y * x+wtB xs c=0;rw[h y B9,iP xs c λ z hz=>h z (B6 _ hz),Int.zero_mul];rfl
theorem pT:∀{xs o u ws:SW},(∀x∈xs,0<=x)->o.length=u.length->o.length=ws.length->wtB xs (ci o u ws)<=wtB xs o+wtB xs u
 | [],o,u,ws,_,_,_=>by rw[ez,ez,ez];decide
 | x :: xs,[],[],_,_,_,_=>by show(0:Int)<=0+0;decide
 | x :: xs,a :: o,c :: u,z :: ws,h,e1,e2=>by
  show min (a+c) z * x+wtB xs (ci o u ws)<=a * x+wtB xs o+(c * x+wtB xs u)
  have ih:=pT (xs:=xs) (o:=o) (u:=u) (ws:=ws) (λ y hy=>h y (B6 _ hy)) (by simpa using e1) (by simpa using e2);have m:min (a+c) z * x<=(a+c) * x:=O4 (Int.min_le_left _ _) (h x B9);rw[Int.add_mul]at m;lia
theorem pU:∀{xs a g:SW},(∀x∈xs,0<=x)->a.length=g.length->wtB xs a<=wtB xs (aZ a g)+wtB xs g
 | [],a,g,_,_=>by rw[ez,ez,ez];decide
 | x :: xs,[],[],_,_=>by show(0:Int)<=0+0;decide
 | x :: xs,y :: a,z :: g,h,e=>by
  show y * x+wtB xs a<=max 0 (y - z) * x+wtB xs (aZ a g)+(z * x+wtB xs g)
  have ih:=pU (xs:=xs) (a:=a) (g:=g) (λ y hy=>h y (B6 _ hy)) (by simpa using e);have m:(y - z) * x<=max 0 (y - z) * x:=O4 (Int.le_max_right _ _) (h x B9);rw[Int.sub_mul]at m;lia
theorem sS:∀{xs c:SW}{i:Nat}{X:Int},0<=X->(∀x,xs[i]?=some x->x<=X)->(∀(j:Nat)(y:Int),c[j]?=some y->y=if j=i then 1 else 0)->wtB xs c<=X
 | [],c,_,_,h,_,_=>by rw[ez];exact h
 | x :: xs,[],_,_,h,_,_=>h
 | x :: xs,y :: c,0,X,h,hx,hc=>by show y * x+wtB xs c<=X;have e:y=1:=hc 0 y rfl;rw[e,iP xs c λ z hz=>by obtain⟨j,hj⟩:=N8.mp hz;exact hc (j+1) z (by simpa using hj)];have:=hx x rfl;lia
 | x :: xs,y :: c,i+1,X,h,hx,hc=>by
  show y * x+wtB xs c<=X;have e:y=0:=hc 0 y rfl;rw[e,Int.zero_mul,P6];exact sS h (λ z hz=>hx z (by simpa using hz)) λ j z hj=>by
   have:=hc (j+1) z (by simpa using hj);rw[this]
   by_cases q:j=i <;> simp[q]
theorem yJ{b:Int}{ks:QT Kd}{us vs xs:SW}(b0:0<=b)(x0:∀x∈xs,0<=x)(kw:∀k∈ks,0<=k.wa)
  (hx:∀(i:Nat)(c:Bool)(w h:Int),cO ks w h (i,c)=true->(i,c)∈lyK ks 0->w<=us.length->h<=vs.length->∀x,xs[i]?=some x->x<=Ld b us w.toNat * Ld b vs h.toNat) :
  ∀(n:Nat)(p:Int×Int),msr p < n->1<=p.1->1<=p.2->p.1<=us.length->p.2<=vs.length->∀g∈gK b ks p,wtB xs g<=Ld b us p.1.toNat * Ld b vs p.2.toNat
 | 0,_,h,_,_,_,_,_,_=>absurd h (F3 _)
 | n+1,p,h,p1,p2,q1,q2,g,hg=>by
  have r:=sN b0 p1 p2 hg;have L0:=Int.mul_nonneg (fF (b:=b) (ws:=us) p.1.toNat) (fF (b:=b) (ws:=vs) p.2.toNat);generalize iI (gB b ks p) g=st at r;cases st with
  | rest=>
   rw[show g=aB ks.length from r,iP xs (aB ks.length) λ y hy=>(PD.mp hy).2];exact L0
  | piece k t=>
   obtain⟨i,_,hm,hf,e⟩:=r;rw[e];exact sS L0 (λ x ex=>hx i t p.1 p.2 hf hm q1 q2 x ex) λ j y hy=>by
    rw[(iH hy).2]
    by_cases q:j=i
    ·subst q;simp
    ·rw[QZ q];exact QZ λ z=>q (Int.ofNat.inj z)
  | cut dn q f o s u=>
   obtain⟨cm,rfl,rfl,om,um,rfl⟩:=r;obtain⟨⟨a1,a2,a3,a4,_,a6⟩,⟨c1,c2,c3,c4,_,c6⟩⟩:=ge b0 p1 p2 cm;have mp:msr (p.1,p.2)=msr p:=rfl;have io:=bQ kw om;have iu:=bQ kw um;have h1:=yJ b0 x0 kw hx n _ ⋯ a1 a2 ⋯ ⋯ o om;have h2:=yJ b0 x0 kw hx n _ ⋯ c1 c2 ⋯ ⋯ u um;have h3:=pT (ws:=wsK ks) x0 (io.1.trans iu.1.symm) io.1;obtain⟨d1,d2⟩:=mh cm;have d1:1<=q:=d1;cases dn with
   | true=>
    have c:=O4 (yI (p:=q) (us:=us) b0 d1 (show q+b < p.1 from d2)) (fF (b:=b) (ws:=vs) p.2.toNat);rw[Int.add_mul]at c;have h1:wtB xs o<=Ld b us q.toNat * Ld b vs p.2.toNat:=h1;have h2:wtB xs u<=Ld b us (p.1 - q - b).toNat * Ld b vs p.2.toNat:=h2;lia
   | false=>
    have c:=Int.mul_le_mul_of_nonneg_left (yI (p:=q) (us:=vs) b0 d1 (show q+b < p.2 from d2)) (fF (b:=b) (ws:=us) p.1.toNat);rw[Int.mul_add]at c;have h1:wtB xs o<=Ld b us p.1.toNat * Ld b vs q.toNat:=h1;have h2:wtB xs u<=Ld b us p.1.toNat * Ld b vs (p.2 - q - b).toNat:=h2;lia
theorem sT{us vs:SW}:∀{ks:QT Kd}{a:Int},(∀k∈ks,0<=k.wa/\(0 < k.wa->kwt us vs k≠none))->dQ us vs ks a=some (a+wtB (ks.map λ k=>(kwt us vs k).getD 0) (wsK ks))
 | [],a,_=>by show some a=some (a+0);rw[Int.add_zero]
 | k :: ks,a,h=>by
  obtain⟨w0,wn⟩:=h k B9;have ih:=λ a=>sT (us:=us) (vs:=vs) (ks:=ks) (a:=a) λ k hk=>h k (B6 _ hk);show dQ us vs (k :: ks) a=some (a+(k.wa * (kwt us vs k).getD 0+wtB (ks.map λ k=>(kwt us vs k).getD 0) (wsK ks)));unfold dQ
  by_cases c:0 < k.wa
  ·rw[Qa c];cases e:kwt us vs k with
   | none=>exact absurd e (wn c)
   | some x=>show dQ us vs ks (a+k.wa * x)=_;rw[ih,Option.getD_some,Int.add_assoc]
  ·rw[QZ c,ih,show k.wa=0 by lia,Int.zero_mul,P6]
theorem pV{xs:SW}(x0:∀x∈xs,0<=x){L:Int}:∀(gs:SX)(ws:SW),(∀g∈gs,g.length=ws.length/\wtB xs g<=L)->wtB xs ws<=wtB xs (gs.foldl aZ ws)+gs.length * L
 | [],ws,_=>by show wtB xs ws<=wtB xs ws+((0:Nat):Int) * L;simp
 | g :: gs,ws,h=>by
  obtain⟨e,l⟩:=h g B9;have a:=pU (g:=g) x0 e.symm;have ih:=pV x0 gs (aZ ws g) λ g' hg=>%[by rw[bv e.symm];exact(h g' (B6 _ hg)).1|(h g' (B6 _ hg)).2]
  rw[O5,K1,Int.natCast_add,Int.add_mul];have:((1:Nat):Int) * L=L:=by simp
  lia
def bZ(a b:SW):SW:=List.zipWith (· + ·) a b
theorem iQ{a b:SW}{i:Nat}{x y:Int}(h1:a[i]?=some x)(h2:b[i]?=some y):(bZ a b)[i]?=some (x+y):=by unfold bZ;rw[QE,h1,h2]
theorem aT{a b:SW}(h:a.length=b.length):(bZ a b).length=a.length:=by unfold bZ;rw[List.length_zipWith];lia
theorem fv{a b:SW}(e:a.length=b.length){i:Nat}{z:Int}(h:(bZ a b)[i]?=some z):∃x y,a[i]?=some x/\b[i]?=some y/\z=x+y:=by have il:=jh h;rw[aT e]at il;obtain⟨x,hx⟩:=atB il;obtain⟨y,hy⟩:=atB (a:=b) (i:=i) ⋯;rw[iQ hx hy]at h;exact%[x,y,hx,hy|(C0 h).symm]
theorem jO{a b:SW}(e:a.length=b.length)(ha:NnB a)(hb:NnB b):NnB (bZ a b):=NnB.iff.mpr λ i z h=>by obtain⟨x,y,hx,hy,rfl⟩:=fv e h;have:=NnB.iff.mp ha i x hx;have:=NnB.iff.mp hb i y hy;lia
theorem gn:∀{a b:SW},a.length=b.length->(bZ a b).sum=a.sum+b.sum
 | [],[],_=>rfl
 | x :: a,y :: b,h=>by show((x+y) :: bZ a b).sum=_;rw[M7,M7,M7,gn (by simpa using h)];lia
theorem lg(n:Nat):NnB (aB n):=λ x hx=>by rw[(PD.mp hx).2];decide
theorem AF(n i:Nat):NnB (bO n i):=λ x hx=>by obtain⟨j,hj⟩:=N8.mp hx;rw[(iH hj).2];split <;> decide
theorem lh{n:Nat}:∀{gs cs:SX}{a:SW},Paired (λ g c=>c.length=n/\g.length=n/\NnB c/\leB c g=true) gs cs->a.length=n->NnB a->leB a (cs.foldr bZ (aB n))=true->gs.foldl aZ a=aB n
 | _,_,a,.nil,e,nn,h=>by
  apply List.eq_replicate_iff.mpr %[e|λ x hx=>?_];obtain⟨i,hi⟩:=N8.mp hx;have z:(aB n)[i]?=some 0:=by unfold aB;rw[Py,Qa (by have:=jh hi;rw[List.foldl_nil]at this;lia)]
  have:=(aS (by rw[e];simp[aB])).mp h i x 0 hi z;have:=nn x hx;lia
 | g :: gs,c :: cs,a,.cons ⟨c1,g1,cn,l⟩ r,e,nn,h=>by
  have fl:∀{gs cs:SX},Paired (λ g c=>c.length=n/\g.length=n/\NnB c/\leB c g=true) gs cs->(cs.foldr bZ (aB n)).length=n/\NnB (cs.foldr bZ (aB n)):=λ p=>by
   induction p with
   | nil=>exact%[by simp[aB]|lg n]
   | cons q _ ih=>exact%[by rw[List.foldr_cons,aT (by rw[q.1,ih.1])];exact q.1|jO (by rw[q.1,ih.1]) q.2.2.1 ih.2]
  obtain⟨f1,f2⟩:=fl r;rw[O5];apply lh r (by rw[bv (by rw[e,g1])];exact e) (iM (by rw[e,g1])) ((aS (by rw[bv (by rw[e,g1]),e,f1])).mpr λ i x y hx hy=>?_);have il:=jh hx;rw[bv (by rw[e,g1])]at il;obtain⟨u,hu⟩:=atB il;obtain⟨v,hv⟩:=atB (a:=g) (i:=i) ⋯;obtain⟨k,hk⟩:=atB (a:=c) (i:=i) ⋯;rw[gf hu hv]at hx;have hx:=C0 hx;have q1:=(aS (by rw[c1,g1])).mp l i k v hk hv;have q2:=(aS (by rw[e,List.foldr_cons,aT (by rw[c1,f1]),c1])).mp h i u _ hu (iQ hk hy);have q3:=NnB.iff.mp f2 i y hy;lia
theorem mE{bs:SX}{ws:SW}:∀{gs:SX}{k:Nat}{x:SW},(∀g∈gs,g∈bs)->x∈(lev bs ws k).map (·.1)->gs.foldl aZ x∈(lev bs ws (k+gs.length)).map (·.1)
 | [],_,_,_,h=>h
 | g :: gs,k,x,hg,h=>by rw[O5,K1,show k+(gs.length+1)=k+1+gs.length by lia];exact mE (λ y hy=>hg y (B6 _ hy)) (lev_next.mpr %[x,h,g,hg g B9|O])
def LfC(ks:QT Kd)(w h:Int)(c:SW):Prop:=c=aB ks.length\/∃(i:Nat)(k:Kd),ks[i]?=some k/\cZ k w h=true/\c=bO ks.length i
inductive Ach(b:Int)(ks:QT Kd):Int->Int->SW->Prop
 | leaf {w h:Int} {c:SW}:LfC ks w h c->Ach b ks w h c
 | down {w h p:Int} {c d:SW}:1<=p->p+b < w->Ach b ks p h c->Ach b ks (w - p - b) h d->Ach b ks w h (bZ c d)
 | across {w h p:Int} {c d:SW}:1<=p->p+b < h->Ach b ks w p c->Ach b ks w (h - p - b) d->Ach b ks w h (bZ c d)
theorem Ach.ok{b:Int}{ks:QT Kd}{w h:Int}{c:SW}(a:Ach b ks w h c):c.length=ks.length/\NnB c:=by
 induction a with
 | leaf l=>
  rcases l with rfl | ⟨i,k,_,_,rfl⟩
  ·exact%[by simp[aB]|lg _]
  ·exact%[eU _ _|AF _ _]
 | down _ _ _ _ i1 i2=>exact%[by rw[aT (by rw[i1.1,i2.1])];exact i1.1|jO (by rw[i1.1,i2.1]) i1.2 i2.2]
 | across _ _ _ _ i1 i2=>exact%[by rw[aT (by rw[i1.1,i2.1])];exact i1.1|jO (by rw[i1.1,i2.1]) i1.2 i2.2]
def SmK(ks ks':QT Kd):Prop:=Paired (λ (k k':Kd)=>k'.w=k.w/\k'.h=k.h/\k'.tu=k.tu) ks ks'
theorem Ach.sm{b:Int}{ks ks':QT Kd}(s:SmK ks ks'){w h:Int}{c:SW}(a:Ach b ks w h c):Ach b ks' w h c:=by
 induction a with
 | leaf l=>
  apply .leaf ?_;rcases l with rfl | ⟨i,k,hk,hf,rfl⟩
  ·exact .inl (by rw[Paired.length s])
  ·obtain⟨k',hk',e1,e2,e3⟩:=J0 s hk;apply .inr %[i,k',hk',?_|by rw[Paired.length s]];unfold cZ lnL at hf ⊢;rw[e1,e2,e3];exact hf
 | down h1 h2 _ _ i1 i2=>exact .down h1 h2 i1 i2
 | across h1 h2 _ _ i1 i2=>exact .across h1 h2 i1 i2
theorem fA{k:Kd}{w h w' h':Int}(a:w<=w')(c:h<=h')(f:cZ k w h=true):cZ k w' h'=true:=by obtain⟨q,hq,e⟩:=O7.mp f;obtain⟨e1,e2⟩:=E3.mp e;have:=C2 e1;have:=C2 e2;exact O7.mpr %[q,hq|E3.mpr %[B1 ⋯|B1 ⋯]]
theorem Ach.fit{b:Int}{ks:QT Kd}{w h:Int}{c:SW}(b0:0<=b)(a:Ach b ks w h c){i:Nat}{x:Int}(hx:c[i]?=some x)(x0:0 < x):∃k,ks[i]?=some k/\cZ k w h=true:=by
 induction a generalizing x with
 | leaf l=>
  rcases l with rfl | ⟨j,k,hk,hf,rfl⟩
  ·have:=(PD.mp (B7 hx)).2;lia
  ·have e:=(iH hx).2
   by_cases q:Int.ofNat i=(j:Int)
   ·rw[show i=j from Int.ofNat.inj q];exact%[k,hk|hf]
   ·rw[QZ q]at e;lia
 | down h1 h2 a1 a2 i1 i2=>
  obtain⟨u,v,hu,hv,rfl⟩:=fv (by rw[a1.ok.1,a2.ok.1]) hx
  by_cases q:0 < u
  ·obtain⟨k,hk,f⟩:=i1 hu q;exact%[k,hk|fA ⋯ ⋯ f]
  ·obtain⟨k,hk,f⟩:=i2 hv ⋯;exact%[k,hk|fA ⋯ ⋯ f]
 | across h1 h2 a1 a2 i1 i2=>
  obtain⟨u,v,hu,hv,rfl⟩:=fv (by rw[a1.ok.1,a2.ok.1]) hx
  by_cases q:0 < u
  ·obtain⟨k,hk,f⟩:=i1 hu q;exact%[k,hk|fA ⋯ ⋯ f]
  ·obtain⟨k,hk,f⟩:=i2 hv ⋯;exact%[k,hk|fA ⋯ ⋯ f]
theorem yK{c d o u ws:SW}(e1:c.length=ws.length)(e2:d.length=ws.length)(e3:o.length=ws.length)(e4:u.length=ws.length)(h1:leB c o=true)(h2:leB d u=true)(h3:leB (bZ c d) ws=true):leB (bZ c d) (ci o u ws)=true:=by apply(aS (by rw[aT ⋯,eR ⋯ ⋯,e1,e3])).mpr λ i x y hx hy=>?_;obtain⟨p,q,hp,hq,rfl⟩:=fv ⋯ hx;have il:=jh hp;obtain⟨r,hr⟩:=atB (a:=o) (i:=i) ⋯;obtain⟨s,hs⟩:=atB (a:=u) (i:=i) ⋯;obtain⟨z,hz⟩:=atB (a:=ws) (i:=i) ⋯;rw[iF hr hs hz]at hy;have:=C0 hy;have:=(aS ⋯).mp h1 i p r hp hr;have:=(aS ⋯).mp h2 i q s hq hs;have:=(aS (by rw[aT ⋯,e1])).mp h3 i (p+q) z hx hz;lia
theorem yL{b:Int}{ks:QT Kd}{p:Int×Int}(b0:0<=b)(p1:1<=p.1)(p2:1<=p.2)(kw:∀k∈ks,0<=k.wa){x:SW}(h:x∈(bt b ks (gB b ks) p).map (·.1)):∃t∈gK b ks p,leB x t=true:=by rw[pe b0 p p1 p2];exact sK (λ y hy=>gE kw (λ c _=>%[λ r hr=>kO kw hr|λ r hr=>kO kw hr]) hy) h
theorem uV{b:Int}{ks:QT Kd}{p:Int×Int}{c:Bool×Int}(hc:c∈cf b p.1 p.2){o u:SW}(ho:o∈gK b ks (dg p.1 p.2 c))(hu:u∈gK b ks (du b p.1 p.2 c)):ci o u (wsK ks)∈(bt b ks (gB b ks) p).map (·.1):=by unfold bt;exact adds_keys.mpr (.inr (J6.mpr %[Ca b ks p c o u,N6.mpr %[c,hc|N6.mpr %[o,ho|J6.mpr %[u,hu|O]]]|O]))
theorem sU{b:Int}{ks:QT Kd}{p:Int×Int}(b0:0<=b)(p1:1<=p.1)(p2:1<=p.2)(kw:∀k∈ks,0<=k.wa){x:Bool×Int}(hx:x∈cf b p.1 p.2){c d:SW}(c1:c.length=ks.length)(cn:NnB c)(d1:d.length=ks.length)(dn:NnB d)(h:leB (bZ c d) (wsK ks)=true)
  (i1:leB c (wsK ks)=true->∃g∈gK b ks (dg p.1 p.2 x),leB c g=true) (i2:leB d (wsK ks)=true->∃g∈gK b ks (du b p.1 p.2 x),leB d g=true):∃g∈gK b ks p,leB (bZ c d) g=true:=by
 have wl:(wsK ks).length=ks.length:=B5 _;have part:∀i (u v z:Int),c[i]?=some u->d[i]?=some v->(wsK ks)[i]?=some z->u+v<=z:=λ i u v z hu hv hz=>(aS (by rw[aT ⋯];lia)).mp h i _ z (iQ hu hv) hz;obtain⟨g,hg,l1⟩:=i1 ((aS ⋯).mpr λ i u z hu hz=>by
  obtain⟨v,hv⟩:=atB (a:=d) (i:=i) (by have:=jh hu;lia);have:=part i u v z hu hv hz;have:=NnB.iff.mp dn i v hv;lia)
 obtain⟨g',hg',l2⟩:=i2 ((aS ⋯).mpr λ i v z hv hz=>by
  obtain⟨u,hu⟩:=atB (a:=c) (i:=i) (by have:=jh hv;lia);have:=part i u v z hu hv hz;have:=NnB.iff.mp cn i u hu;lia)
 have q1:=(bQ kw hg).1;have q2:=(bQ kw hg').1;obtain⟨t,ht,l3⟩:=yL b0 p1 p2 kw (uV hx hg hg');have j:=eR (a:=g) (b:=g') (w:=wsK ks) ⋯ ⋯;exact%[t,ht|eT (by rw[aT ⋯,j];lia) (by rw[j,(bQ kw ht).1];lia) (yK ⋯ ⋯ ⋯ ⋯ l1 l2 h) l3]
theorem sV{b:Int}{ks:QT Kd}(b0:0<=b)(kw:∀k∈ks,0<=k.wa){w h:Int}{c:SW}(a:Ach b ks w h c)(w1:1<=w)(h1:1<=h)(l:leB c (wsK ks)=true):∃g∈gK b ks (w,h),leB c g=true:=by
 induction a with
 | @leaf w h c lf=>
  apply yL (p:=(w,h)) b0 w1 h1 kw ?_;unfold bt;rcases lf with rfl | ⟨i,k,hk,hf,rfl⟩
  ·exact adds_keys.mpr (.inl (adds_keys.mpr (.inl (E6.mpr rfl))))
  ·obtain⟨t,c1,c2⟩:=fitsK_iff.mp hf;have m:=rg c1 (j:=0) hk;rw[QK]at m;have il:=jh (a:=wsK ks) (i:=i) (x:=k.wa) (by rw[J3,hk];rfl);have wa:1<=k.wa:=(aS (by rw[eU,B5])).mp l i 1 k.wa (by unfold bO;rw[J3,Px (by simpa using il)];simp) (by rw[J3,hk];rfl);apply adds_keys.mpr (.inl (adds_keys.mpr (.inr (J6.mpr %[(bO ks.length i,.piece i t),N6.mpr %[(i,t),PJ.mpr %[m|?_]|?_]|O]))))
   ·unfold cO;rw[hk];exact c2
   ·unfold lyR waA;rw[hk,Qa (show 0 < (Option.map (λ x:Kd=>x.wa) (some k)).getD 0 by show 0 < k.wa;lia)];exact E6.mpr rfl
 | @down w h p c d p1 p2 a1 a2 i1 i2=>exact sU (p:=(w,h)) (x:=(true,p)) b0 w1 h1 kw (mj p1 p2) a1.ok.1 a1.ok.2 a2.ok.1 a2.ok.2 l (i1 p1 h1) (i2 ⋯ h1)
 | @across w h p c d p1 p2 a1 a2 i1 i2=>exact sU (p:=(w,h)) (x:=(false,p)) b0 w1 h1 kw (mj p1 p2) a1.ok.1 a1.ok.2 a2.ok.1 a2.ok.2 l (i1 w1 p1) (i2 w1 ⋯)
def ftI(ks:QT Kd)(w h:Int)(j:Nat):QT Nat:=(List.range j).filter λ i=>match ks[i]? with
 | some k=>cZ k w h
 | none=>false
theorem sW{ks:QT Kd}{w h:Int}(j:Nat):(ftI ks w h j).length<=j:=by have:=PV (λ i=>match ks[i]? with | some k=>cZ k w h | none=>false) (List.range j);rw[PH]at this;exact this
theorem Cp{ks:QT Kd}{w h:Int}{j:Nat}{k:Kd}(hk:ks[j]?=some k)(c:cZ k w h=true):(ftI ks w h (j+1)).map (λ i:Nat=>V.int i)=(ftI ks w h j).map (λ i:Nat=>V.int i) ++ [V.int j]:=by unfold ftI;rw[QC,P7,J5,PR,hk];rw[Qa c];rfl
theorem Cq{ks:QT Kd}{w h:Int}{j:Nat}{k:Kd}(hk:ks[j]?=some k)(c:cZ k w h=false):(ftI ks w h (j+1)).map (λ i:Nat=>V.int i)=(ftI ks w h j).map (λ i:Nat=>V.int i):=by unfold ftI;rw[QC,P7,PR,hk];rw[QZ (by show¬ cZ k w h=true;rw[c];decide),QB,N0]
def fiI(ks:QT Kd)(w h:Int):SW:=(ftI ks w h ks.length).map λ i:Nat=>(i:Int)
theorem Cr{ks:QT Kd}{w h:Int}:(fiI ks w h).map V.int=(ftI ks w h ks.length).map λ i:Nat=>V.int i:=by unfold fiI;rw[N7];rfl
theorem tf{ks:QT Kd}{w h:Int}:(fiI ks w h).length<=ks.length:=by unfold fiI;rw[B5];exact sW _
theorem AG{ks:QT Kd}{w h i:Int}(m:i∈fiI ks w h):∃(j:Nat)(k:Kd),i=j/\ks[j]?=some k/\cZ k w h=true:=by
 obtain⟨j,hj,rfl⟩:=J6.mp m;obtain⟨_,hf⟩:=PJ.mp hj;cases e:ks[j]? with
 | none=>rw[e]at hf;cases hf
 | some k=>rw[e]at hf;exact%[j,k,O,e|hf]
theorem Bj{n j:Nat}(h:j < n):(aB n).set j 1=bO n j:=by
 apply QG λ i=>?_
 by_cases il:i < n
 ·unfold bO;rw[J3,Px il,List.getElem?_set]
  by_cases c:j=i
  ·subst c;rw[Qa rfl,Qa (by simp[aB];exact h)];simp
  ·rw[QZ c];unfold aB;rw[Py,Qa il];exact Qu some (QZ λ z=>c (Int.ofNat.inj z).symm).symm
 ·rw[O0 (by simp[aB];lia),O0 (by rw[eU];lia)]
theorem Cs{n j:Nat}(h:j < n):(bV (aB n)).set j (.int 1)=bV (bO n j):=by unfold bV;rw[<- Bj h,List.map_set]
theorem eY:∀n:Nat,(aB n).sum=0
 | 0=>rfl
 | n+1=>by show(0 :: aB n).sum=0;rw[M7,eY n];rfl
theorem pW:∀{l:SW}{i:Nat}{x:Int},(∀y∈l,y=0)->i < l.length->(l.set i x).sum=x
 | z :: l,0,x,h,_=>by
  rw[List.set_cons_zero,M7];have:l.sum=0:=by
   have:∀l:SW,(∀y∈l,y=0)->l.sum=0:=λ l=>by
    induction l with
    | nil=>intro _;rfl
    | cons a l ih=>intro h;rw[M7,h a B9,ih λ y hy=>h y (B6 _ hy)];rfl
   exact this l λ y hy=>h y (B6 _ hy)
  lia
 | z :: l,i+1,x,h,hl=>by rw[List.set_cons_succ,M7,h z B9,pW (λ y hy=>h y (B6 _ hy)) (by simpa using hl)];lia
theorem yM{n j:Nat}(h:j < n):(bO n j).sum=1:=by rw[<- Bj h];exact pW (λ y hy=>(PD.mp hy).2) (by simp[aB];exact h)
def tj:Sp:=λ vs H Q _=>∃(t u:QP)(xs ys:SW),vs=[.ref t,.ref u]/\H t= ~~~(bV xs)/\H u= ~~~(bV ys)/\xs.length=ys.length/\xs.length<=8/\∀(a:QP)(H':Hp),H' a= ~~~(bV (bZ xs ys))->Same H H'->Q (.ref a) H'
def nM:Sp:=λ vs H Q _=>∃(p:QP)(b s:Int),vs=[.ref p,.int b,.int s]/\PotB H p/\0<=b/\b<=2/\1<=s/\s<=8/\∀(r:Int)(H':Hp),(r=0\/1<=r/\r+b < s)->PotB H' p->But p H H'->Q (.int r) H'
def Ct(p g:QP)(H H':Hp):Prop:=∀c o,c≠p->c≠g->H c=some o->H' c=some o
def rh:Sp:=λ vs H Q _=>∃(p kl g:QP)(rs:QT V)(ks:QT Kd)(w h n:Int),vs=[.ref p,.ref kl,.int w,.int h,.ref g]/\PotB H p/\kl≠p/\g≠p/\kl≠g/\H kl=↥rs/\Tups H rs ks/\1<=ks.length/\ks.length<=8/\H g=↥[.int n]/\0<=n/\n<=6 /\
 ∀(a:QP)(c:SW)(H':Hp),H' a= ~~~(bV c)->LfC ks w h c->c.sum<=n->H' g=↥[.int (n - c.sum)]->PotB H' p->Ct p g H H'->Q (.ref a) H'
def yN:Sp:=λ vs H Q _=>∃(p:QP)(m:Int),vs=[.ref p,.int m]/\PotB H p/\1<=m/\m<=8/\∀(l:QP)(ws:SW)(H':Hp),H l=none->l≠p->H' l=↥(ws.map V.int)->(ws.length:Int)=m->fH ws->PotB H' p->But p H H'->Q (.ref l) H'
theorem sclsum:FnScope R4 R4 (defScope xO):=nofun
theorem AH{f:QP}{fd:G2}(F:Fun K "_law_sum" "_law_sum" xO f fd)(B:Blt mg):FnOk P w K mg base CX0 1 f fd R4 (tj):=by
 exists sclsum;obtain⟨t,u,xs,ys,rfl,ht,hu',e1,l8,q⟩:=h;apply%[_,((@aU _ _ _ _ _ _ _ _ _ aL O B.tuple Qg ((aY (own:=["_law_a","_law_b"]) (cs:=[]) (cap:=[]) O (fZ O B.zip ('0'^^^('1'^^^ae))) (aD (sc:=defScope xO) (N:=R4) O O ∅) (λ _ _ _ _ _=>cQ K O O (by show List.Nodup (["_law_a","_law_b"]:QT Str) ;decide +kernel) O O O O) (λ _ _ _ _ _=>aH) (λ _ _ _ _ _=>('0'|||aX|||'1')))^^^ae) ∅ ∅ O O)⁻¹)|?_];dsimp only[bL];have l1:(bV xs).length=xs.length:=B5 _;have l2:(bV ys).length=ys.length:=B5 _;have sz:(40000:Nat)<=sizeLine:=∅
 have jl:=aT e1;apply%[_,O,_,O,t,u,_,_,O,ht,hu'|dD (xs:=bV xs) (ys:=bV ys) (λ i us Hx=>Same H Hx/\us=((bZ xs ys).take i).map V.int) ⋯ (λ i us Hx ⟨sx,_⟩=>%[sx _ _ ht|sx _ _ hu']) %[Same.refl _|O] (λ i us Hx hi ⟨_,e⟩=>by rw[e,B5,K4];lia) ?_ ?_]
 ·rintro i x y p us Hx hx hy hp ⟨sx,rfl⟩;have hin:i < (bV xs).length:=(A7.mp hx).1;obtain⟨x',hx',rfl⟩:=J9.mp (show Option.map V.int xs[i]?=some x by rw[<- J3];exact hx);obtain⟨y',hy',rfl⟩:=J9.mp (show Option.map V.int ys[i]?=some y by rw[<- J3];exact hy);have ji:=iQ hx' hy';have s1:=G5 hp (o:=.tup [.int x',.int y']);apply%[p,_,O,G6 ah,O,_,_,O,_,_,O,O,hG (leS.set rfl) (leS.set rfl)|aI ?_];apply%[_,O,_,O,_,_,O,O|Nx.of hin %[sx.trans s1|?_]];rw[K0,ji];simp only[K8,J5,J8,N3]
 ·rintro us Hx ⟨sx,rfl⟩;rw[l1,K6 ⋯];apply%[by rw[B5];lia|λ cl hcl=>?_];apply aK hcl λ H1 k1 s1=>?_;apply%[cl,_,O|.inl %[G7 k1|λ tp htp=>?_]];exact q tp _ ah ((sx.trans s1).trans (G5 htp))
theorem sclplace:FnScope SD SD (defScope nD):=nofun
theorem uW{f:QP}{fd:G2}(F:Fun K "_law_place" "_law_place" nD f fd)(B:Blt mg)(DD:Dn P w K mg base "_law_draw" Ry 1 (dj)):FnOk P w K mg base CX0 2 f fd SD (nM):=by
 exists sclplace;obtain⟨p,b,s',rfl,pt,b0,b2,s0,s8,q⟩:=h;apply%[_,((('2'<*>wK<*>('1'|||aX|||ag))<|>(ag⁻¹)<|>aE)<<<((ag|||aX|||(DD∪('0'^^^((('2'|||bg|||'1')|||bg|||ag)^^^ae))))⁻¹))|?_];apply%[_,O,_,O,_,_,O,O,_,_,O,O,_,O|?_];apply bW (λ c=>q 0 H (.inl rfl) pt λ _ _ _ e=>e) (λ c=>?_);have c':b+2<=s':=by have:¬ s' < b+2:=λ z=>c (B1 z);lia
 exact%[_,O,_,O,_,O,_,_,O,O,_,_,O,O,p,_,O,pt,⋯,QO (show s' - b - 1<=8 by lia) ∅|λ r H1 r0 r1 pt1 b1=>%[_,_,O,O|q _ H1 (.inr %[⋯|⋯]) pt1 b1]]
theorem sclleaf:FnScope SE SF (defScope oR):=nofun
theorem yO{f:QP}{fd:G2}(F:Fun K "_law_leaf" "_law_leaf" oR f fd)(B:Blt mg)(DD:Dn P w K mg base "_law_draw" Ry 1 (dj))(DFT:Dn P w K mg base "_law_fits" R3 2 (sP)):FnOk P w K mg base CX0 3 f fd SF (rh):=by
 exists sclleaf;apply br λ G9 k9=>?_;obtain⟨p,kl,g,rs,ks,w1,h1,n,rfl,pt,nkp,ngp,nkg,hkl,tp,k1,k8,hg,n0,n6,q⟩:=h;apply k9 ?_;have hu:=hr.units;apply%[_,((gr (i:=5) (own:=["_law_number","_law_kind"]) (cs:=["_law_wide","_law_high"]) (cap:=[2,3]) O nd O O O (mX O B.enumerate ('1'^^^ae)) (aD (sc:=defScope oR) (N:=SE) O O ∅) (λ _ _ _ _ _=>cQ K O O (by show List.Nodup (["_law_number","_law_kind","_law_wide","_law_high"]:QT Str) ;decide +kernel) O O O O) (λ _ _ _ _ _=>(jZ (@aW _ _ _ (DFT∪('1'^^^('2'^^^('3'^^^ae)))) (by intro _;rfl)))) (λ _ _ _ _ _=>'0'))<<<((6∣((@bh _ _ _ _ (ag^^^ae))|||wV|||(@ay _ _ _ _ _ _ _ _ _ aN O B.len Qn ('1'^^^ae) ∅ ∅ O O)))<<<(((PW.pt (jP ('5'<*>(xb hu)<*>(@bh _ _ _ _ ae)) (jP (('4'&&&ix_list&&&ag)<*>cV<*>ag) (jE ((DD∩('0'^^^(ag^^^ae)))<*>cV<*>ag)))))<|>((@cr _ _ _ _ _ _ (('4'&&&ix_list&&&ag)|||bg|||ag) (jQ '4' ag fR) O O O)>>>(@cr _ _ _ _ _ _ ag (jQ '6' ('5'&&&ix_list&&&(DD∩('0'^^^((@ay _ _ _ _ _ _ _ _ _ aN O B.len Qn ('5'^^^ae) ∅ ∅ O O)^^^ae)))) fR) O O O))<|>aE)<<<((@aU _ _ _ _ _ _ _ _ _ aL O B.tuple Qg ('6'^^^ae) ∅ ∅ O O)⁻¹))))|?_];dsimp only[bL];have z4:4096<=sizeLine:=∅
 have rl:=E7 tp;apply av (λ R=>∀(fl:QP)(H':Hp),H fl=none->H' fl=↥((fiI ks w1 h1).map V.int)->Same H H'->R [↑p,↑kl,⇑w1,⇑h1,↑g,↑fl,none] H') (λ Dd hR=>?_) ?_
 ·apply%[_,O,kl,rs,O|.inl %[hkl|lW (f:=HO.lst) (λ _ _ e=>HO.lst.inj e) (λ j zs Hx=>Same H Hx/\zs=(ftI ks w1 h1 j).map λ i:Nat=>V.int i) (λ j zs Hx ⟨sx,_⟩=>sx _ _ hkl) %[Same.refl _|O] ?_ ?_ ?_]]
  ·rintro j zs Hx hj ⟨_,rfl⟩;rw[B5];have:=sW (ks:=ks) (w:=w1) (h:=h1) j;lia
  ·rintro j x pp zs Hx hj hpp ⟨sx,rfl⟩;have hjn:=(A7.mp hj).1;obtain⟨k',hk',ta,rfl,hta⟩:=J0 tp hj;apply aK hpp λ H3 k3 s3=>?_;apply%[pp,_,O,G6 k3,O,_,_,O,_,_,O,O,hG (leS.set rfl) (leS.set rfl)|?_];apply%[_,O,_,O,_,O,ta,k',w1,h1,O,s3 _ _ (sx _ _ hta)|λ H4 s4=>%[_,O|?_]];cases c:cZ k' w1 h1 with
   | true=>exact ce %[_,rfl|Nx.of hjn %[(sx.trans s3).trans s4|by rw[Cp hk' c]]]
   | false=>exact be (Nx.of hjn %[(sx.trans s3).trans s4|by rw[Cq hk' c]])
  ·rintro zs Hx ⟨sx,rfl⟩;rw[rl];rw[<- Cr];apply%[by rw[B5];have:=tf (ks:=ks) (w:=w1) (h:=h1);lia|λ l hl=>?_];apply aK hl λ H3 k3 s3=>?_;exact hR l _ (Same.free sx hl) k3 (sx.trans s3)
 rintro fl H1 hfl k1' s1;apply av (λ R=>∀(cl:QP)(H':Hp),H1 cl=none->H' cl=↥(bV (aB ks.length))->Same H1 H'->R [↑p,↑kl,⇑w1,⇑h1,↑g,↑fl,↑cl] H') (λ Dd hR=>?_) ?_
 ·apply%[∅|λ c0 hc0=>?_];apply aK hc0 λ H2 k2 s2=>?_;apply%[_,O,kl,_,O,.inl (G7 (s2 _ _ (s1 _ _ hkl))),c0,_,_,O,O,k2,⋯,⋯,by show 1 * _<=_;lia|λ cl hcl=>hR cl _ (Same.free s2 hcl) ?_ (s2.trans (G5 hcl))];rw[ah,rl,M5];congr 2;generalize ks.length=n
  induction n with
  | zero=>rfl
  | succ n ih=>rw[O8,Pu,ih];rfl
 rintro cl H2 hcl k2 s2;have s12:=s1.trans s2;have h2g:=s12 _ _ hg;have h2f:=s2 _ _ k1';have ncp:cl≠p:=λ z=>by obtain⟨_,_,_,_,_,h⟩:=pt;rw[z,s1 _ _ h]at hcl;cases hcl
 have ncg:cl≠g:=λ z=>by rw[z,s1 _ _ hg]at hcl;cases hcl
 have ncf:cl≠fl:=λ z=>by rw[z,k1']at hcl;cases hcl
 have nfp:fl≠p:=λ z=>by obtain⟨_,_,_,_,_,h⟩:=pt;rw[z,h]at hfl;cases hfl
 have nfg:fl≠g:=λ z=>by rw[z,hg]at hfl;cases hfl
 have old:∀c o,H c=some o->c≠cl:=λ c o e z=>by rw[z]at e;rw[s1 _ _ e]at hcl;cases hcl
 apply jL (λ R=>∀(c:SW)(H':Hp),H' cl=↥(bV c)->LfC ks w1 h1 c->c.sum<=n->H' g=↥[.int (n - c.sum)]->PotB H' p->Ct p g H H'->R [↑p,↑kl,⇑w1,⇑h1,↑g,↑fl,↑cl] H') (λ R hR=>?_) ?_
 ·have zs:(aB ks.length).sum=0:=eY _;have no:∀Hx,PotB Hx p->But p H2 Hx->R [↑p,↑kl,⇑w1,⇑h1,↑g,↑fl,↑cl] Hx:=λ Hx px bx=>hR (aB ks.length) _ (bx _ _ ncp k2) (.inl rfl) ⋯ (by rw[zs,Int.sub_zero];exact bx _ _ ngp h2g) px (λ c o n1 n2 e=>bx _ _ n1 (s12 _ _ e));apply%[_,O,∅|λ e0 he0=>?_];apply aK he0 λ H3 k3 s3=>?_;apply%[_,_,.lst (G7 (s3 _ _ h2f)) (zQ _),.lst (G7 k3) .nil,rS _,rS [],_,O|?_];have pt3:=pt.same (s12.trans s3);cases ef:fiI ks w1 h1 with
  | nil=>exact be (no _ pt3 (Same.but s3))
  | cons i0 r0=>
   rw[ef]at h2f;apply ce %[_,rfl,g,_,_,_,rfl,rfl,G7 (s3 _ _ h2g),rfl,_,_,rfl,rfl,_,rfl|?_];apply bW (λ cn=>?_) (λ _=>no _ pt3 (Same.but s3));have n1:0 < n:=C2 cn;apply%[_,O,p,8,O,pt3,∅,∅|λ z H4 z0 z1 pt4 b4=>%[_,_,O,O,_,O|?_]];have b24:But p H2 H4:=λ c o nn e=>b4 _ _ nn (s3 _ _ e);apply bW (λ _=>?_) (λ _=>no _ pt4 b24);have h4g:=b24 _ _ ngp h2g;have h4f:=b24 _ _ nfp h2f;have h4c:=b24 _ _ ncp k2;apply%[_,O,g,_,_,_,O,O,G7 h4g,O,_,_,O,O,_,O,g,_,_,0,O,O,h4g,O|?_];obtain⟨H5,e5⟩:∃H5,upd H4 g (.lst [.int (n - 1)])=H5:=%[_|O]
   rw[show upd H4 g (.lst ([V.int n].set 0 (.int (n - 1))))=H5 from e5];have k5:H5 g=↥[.int (n - 1)]:=e5 ▸ ah;have b45:∀c o,c≠g->H4 c=some o->H5 c=some o:=λ c o nn e=>by rw[<- e5,am nn];exact e
   have h5f:=b45 _ _ nfg h4f;have h5c:=b45 _ _ ncg h4c;have pt5:PotB H5 p:=by obtain⟨a1,a2,a3,a4,a5,h⟩:=pt4;exact%[a1,a2,a3,a4,a5|b45 _ _ (Ne.symm ngp) h]
   have fil:(fiI ks w1 h1).length<=8:=C7 tf k8;rw[ef]at fil;have fl2:((i0 :: r0).map V.int).length=(i0 :: r0).length:=B5 _;apply%[_,O,_,O,_,O,_,O,fl,_,O,.inl (G7 h5f),p,_,O,pt5,by rw[fl2,K1];lia,QO (show(((i0 :: r0).map V.int).length:Int)<=8 by lia) ∅|λ z2 H6 z20 z21 pt6 b6=>?_];obtain⟨iv,hiv,mi⟩:∃iv:Int,(i0 :: r0)[z2.toNat]?=some iv/\iv∈i0 :: r0:=by
    have hl:z2.toNat < (i0 :: r0).length:=by rw[fl2]at z21;lia
    exact%[_,F5 hl|QI hl]
   rw[<- ef]at mi;obtain⟨j,kj,rfl,hkj,fj⟩:=AG mi;have jl:=(A7.mp hkj).1;have h6f:=b6 _ _ nfp h5f;have h6c:=b6 _ _ ncp h5c;apply%[fl,_,z2,_,O,O,G7 h6f,di z20 (by rw[J3,hiv];rfl),cl,_,_,j,O,O,h6c,sR (by rw[bV,B5,aB,K7];exact jl)|?_];have es:((bV (aB ks.length)).set j (.int 1))=bV (bO ks.length j):=Cs jl;have o1:(bO ks.length j).sum=1:=yM jl;apply hR (bO ks.length j) _ (by rw[ah,es]) (.inr %[j,kj,hkj,fj|O]) ⋯ ?_ ?_ (λ c o m1 m2 e=>?_)
   ·rw[am (Ne.symm ncg),o1];exact b6 _ _ ngp k5
   ·obtain⟨a1,a2,a3,a4,a5,h⟩:=pt6;exact%[a1,a2,a3,a4,a5|by rw[am (Ne.symm ncp)];exact h]
   ·rw[am (old c o e)];exact b6 _ _ m1 (b45 _ _ m2 (b24 _ _ m1 (s12 _ _ e)))
 rintro c H3 hc lf cs hg3 pt3 b3;apply%[_,O,cl,_,O|.inl %[G7 hc|λ tp htp=>?_]];exact q tp c _ ah lf cs (by rw[am (ak hg3 htp)];exact hg3) (pt3.same (G5 htp)) λ x o n1 n2 e=>(G5 htp) _ _ (b3 x o n1 n2 e)
theorem sclwgts:FnScope SG Ry (defScope gc):=nofun
theorem yP{f:QP}{fd:G2}(F:Fun K "_law_weights" "_law_weights" gc f fd)(B:Blt mg)(DD:Dn P w K mg base "_law_draw" Ry 1 (dj)):FnOk P w K mg base CX0 2 f fd Ry (yN):=by
 exists sclwgts;obtain⟨p,m,rfl,pt,m1,m8,q⟩:=h;apply%[_,((@ax _ _ 2 _ _ _ _ nd O (Or.inr O) (DD∪('0'^^^(ag^^^ae))) O (Or.inl O))<<<((aY (own:=["_law_k"]) (cs:=["_law_pot_here","_law_way"]) (cap:=[0,2]) O (dv O B.range ('1'^^^ae)) (aD (sc:=defScope gc) (N:=SG) O O ∅) (λ _ _ _ _ _=>aj (i:=0) (by show List.Nodup (["_law_k","_law_pot_here","_law_way"]:QT Str) ;decide +kernel) O (Or.inl O) (Or.inr O)) (λ _ _ _ _ _=>aH) (λ _ _ _ _ _=>(DD∪('1'^^^((aG (r:=rIxL K) ix_list (@bh _ _ _ _ (ag^^^(ag^^^(ag^^^((ag|||qd|||ag)^^^ae))))) '2' (λ _ _=>O))^^^ae)))))⁻¹))|?_];have z4:4096<=sizeLine:=∅
 have e50:(10:Int) ^ (50:Int).toNat=10 ^ 50:=rfl;apply av (λ R=>∀(y:Int)(H':Hp),0<=y->y < 4->PotB H' p->But p H H'->R [↑p,⇑m,⇑y] H') (λ Dd hR=>?_) ?_
 ·exact%[_,O,p,4,O,pt,∅,∅|λ z H1 z0 z1 pt1 b1=>hR z _ z0 z1 pt1 b1]
 rintro y H1 y0 y4 pt1 b1;obtain⟨n,rfl⟩:∃n:Nat,m=n:=%[m.toNat|⋯]
 apply%[_,O,_,O,⋯,⋯|?_];rw[M5];apply fX (λ i zs Hx=>∃ws:SW,zs=ws.map V.int/\ws.length=i/\fH ws/\PotB Hx p/\But p H Hx) ⟨[],rfl,rfl,(λ x h=>by cases h),pt1,b1⟩ ?_ ?_
 ·rintro i _ Hx hi ⟨ws,rfl,wl,gw,px,bx⟩;apply%[by rw[B5];lia,leS.set rfl|aI ?_];apply%[_,O,_,_,O,O,%[∅,∅|∅],zS4|λ l hl=>?_];rw[e50];apply aK hl λ H4 k4 s4=>?_;obtain⟨v,hv,v1,v50⟩:∃v:Int,([.int 3,.int 10,.int 2,.int (10 ^ 50)]:QT V)[y.toNat]? = ⇑v/\0 < v/\v<=10 ^ 50:=by
   have:y=0\/y=1\/y=2\/y=3:=⋯
   rcases this with rfl | rfl | rfl | rfl
   ·exact%[3,O,∅|∅]
   ·exact%[10,O,∅|∅]
   ·exact%[2,O,∅|∅]
   ·exact%[10 ^ 50,O,∅|∅]
  apply%[_,O,l,_,y,_,O,O,G7 k4,di y0 hv,p,v,O,px.same s4,v1,QO v50 ∅|λ r H5 r0 r1 pt5 b5=>Nx.of hi %[ws ++ [r],by rw[J5];rfl,by rw[J7,wl];rfl,λ x hx=>?_,pt5|λ c o nn e=>b5 _ _ nn (s4 _ _ (bx _ _ nn e))]];rcases C4.mp hx with h | h
  ·exact gw x h
  ·rw[E6.mp h];exact%[r0|Int.lt_of_lt_of_le r1 (QO v50 ∅)]
 ·rintro _ Hx ⟨ws,rfl,wl,gw,px,bx⟩;apply%[by rw[B5];lia|λ l hl=>?_];have nlp:l≠p:=λ z=>by obtain⟨_,_,_,_,_,h⟩:=px;rw[z,h]at hl;cases hl
  apply q l ws _ ?_ nlp ah ⋯ gw (px.same (G5 hl)) λ c o n e=>G5 hl _ _ (bx c o n e);cases z:H l with
  | none=>rfl
  | some o=>rw[bx _ _ nlp z]at hl;cases hl
abbrev PaQ:=Int×Int×SW
def PaR(H:Hp)(v:V)(q:PaQ):Prop:=∃t a,v=.ref t/\H t= ~~~[.int q.1,.int q.2.1,.ref a]/\H a= ~~~(bV q.2.2)
theorem PaR.keep{H H':Hp}{v:V}{q:PaQ}(s:Tps H H'):PaR H v q->PaR H' v q
 | ⟨t,a,e,h1,h2⟩=>%[t,a,e,s _ _ h1|s _ _ h2]
def But3(p g l:QP)(H H':Hp):Prop:=∀c o,c≠p->c≠g->c≠l->H c=some o->H' c=some o
theorem But3.tps{p g l:QP}{H H':Hp}(x:But3 p g l H H')(hp:PotB H p)(hg:∃xs,H g=↥xs)(hl:∃xs,H l=↥xs):Tps H H':=λ c xs e=>by obtain⟨_,_,_,_,_,h⟩:=hp;obtain⟨ys,hg⟩:=hg;obtain⟨zs,hl⟩:=hl;exact x c _ (λ z=>by rw[z,h]at e;cases e) (λ z=>by rw[z,hg]at e;cases e) (λ z=>by rw[z,hl]at e;cases e) e
theorem yQ{p a:QP}{H H':Hp}(pt:PotB H p)(x:But p H H')(pt':PotB H' p)(e:H' a=none):H a=none:=by
 cases z:H a with
 | none=>rfl
 | some o=>
  by_cases n:a=p
  ·obtain⟨_,_,_,_,_,h⟩:=pt';rw[n,h]at e;cases e
  ·rw[x _ _ n z]at e;cases e
def OkQ(b:Int)(ks:QT Kd)(w h:Int)(c:SW)(q:PaQ):Prop:=1<=q.1/\q.1<=w/\1<=q.2.1/\q.2.1<=h/\Ach b ks q.1 q.2.1 q.2.2/\leB q.2.2 c=true
theorem lj{c d:SW}(e:c.length=d.length)(nn:NnB d):leB c (bZ c d)=true:=(aS (by rw[aT e])).mpr λ i x y hx hy=>by obtain⟨u,v,hu,hv,rfl⟩:=fv e hy;rw[hx]at hu;have:=C0 hu;have:=NnB.iff.mp nn i v hv;lia
theorem lm{c d:SW}(e:c.length=d.length)(nn:NnB c):leB d (bZ c d)=true:=(aS (by rw[aT e,e])).mpr λ i x y hx hy=>by obtain⟨u,v,hu,hv,rfl⟩:=fv e hy;rw[hx]at hv;have:=C0 hv;have:=NnB.iff.mp nn i u hu;lia
theorem OkQ.up{b:Int}{ks:QT Kd}{w h w' h':Int}{c c':SW}{q:PaQ}(o:OkQ b ks w h c q)(a:w<=w')(d:h<=h')(l:leB c c'=true)(e1:c.length=ks.length)(e2:c'.length=ks.length):OkQ b ks w' h' c' q:=by obtain⟨q1,q2,q3,q4,q5,q6⟩:=o;exact%[q1,⋯,q3,⋯,q5|eT (by rw[q5.ok.1,e1]) (by rw[e1,e2]) q6 l]
def ii(d:Nat):Sp:=λ vs H Q _=>∃(p kl g l:QP)(b w h dp n:Int)(rs ys:QT V)(ks:QT Kd)(qs:QT PaQ),vs=[.ref p,.int b,.ref kl,.int w,.int h,.ref g,.int dp,.ref l]/\PotB H p/\kl≠p/\g≠p/\l≠p/\kl≠g/\kl≠l/\g≠l/\H kl=↥rs/\Tups H rs ks/\1<=ks.length/\ks.length<=8/\H g=↥[.int n]/\0<=n/\n<=6/\0<=b/\b<=2/\1<=w/\w<=8/\1<=h/\h<=8/\0<=dp/\dp.toNat < d/\H l=↥ys/\Paired (PaR H) ys qs/\ys.length+2 ^ d<=100000 /\
 ∀(a:QP)(c:SW)(ys':QT V)(qs':QT PaQ)(H':Hp),H' a= ~~~(bV c)->Ach b ks w h c->c.sum<=n->H' g=↥[.int (n - c.sum)]->H' l=↥ys'->Paired (PaR H') ys' (qs ++ qs')->(∀q∈qs',OkQ b ks w h c q)->qs'.length < 2 ^ d->PotB H' p->But3 p g l H H'->Q (.ref a) H'
theorem scltree:FnScope ["_law_pot_here","_law_blade","_law_kinds","_law_wide","_law_high","_law_budget","_law_deep","_law_parts","_law_places","_law_way","_law_counts","_law_place_here","_law_sides"] SH (defScope lY):=nofun
theorem yR{f:QP}{fd:G2}(F:Fun K "_law_tree" "_law_tree" lY f fd)(n:Nat)(B:Blt mg)(DD:Dn P w K mg base "_law_draw" Ry 1 (dj))(DPC:Dn P w K mg base "_law_place" SD 2 (nM))(DLF:Dn P w K mg base "_law_leaf" SF 3 (rh))(DSU:Dn P w K mg base "_law_sum" R4 1 (tj))(DT:Dn P w K mg base "_law_tree" SH (3+n) (ii n)):FnOk P w K mg base CX0 (3+(n+1)) f fd SH (ii (n+1)):=by
 apply F.ok scltree (λ vs H Q E h=>?_) (λ cdv A outer s H vs Q E hr h=>?_)
 ·apply br λ G9 k9=>?_;obtain⟨p,kl,g,l,b,w1,h1,dp,n1,rs,ys,ks,qs,rfl,_⟩:=h;apply k9 ?_
  rfl
 apply br λ G9 k9=>?_;obtain⟨p,kl,g,l,b,w1,h1,dp,n1,rs,ys,ks,qs,rfl,pt,nkp,ngp,nlp,nkg,nkl,ngl,hkl,tp,k1,k8,hg,n0,n6,b0,b2,w0,w8,h0,h8,d0,dn,hl,py,yl,q⟩:=h;apply k9 ?_;have nd:=scltree.nd;apply%[_,((8∣(@bh _ _ _ _ ((@ap _ _ _ _ _ _ _ _ _ _ DPC (hr.mono (C7 ∅ (O6 3 n))) O ('0'^^^('1'^^^('3'^^^ae))) ∅ O O)^^^((@ap _ _ _ _ _ _ _ _ _ _ DPC (hr.mono (C7 ∅ (O6 3 n))) O ('0'^^^('1'^^^('4'^^^ae))) ∅ O O)^^^ae))))<<<((9∣(@ap _ _ _ _ _ _ _ _ _ _ DD (hr.mono (C7 ∅ (O6 3 n))) O ('0'^^^(ag^^^ae)) ∅ O O))<<<(((('8'&&&ix_list&&&'9')<*>dB<*>ag)<|>(@ai _ _ _ (9∣(ag|||bg|||'9')))<|>aE)<<<(((PW.pt (cP ('6'<*>dB<*>ag) (cP (('8'&&&ix_list&&&'9')<*>dB<*>ag) (cC ((@ap _ _ _ _ _ _ _ _ _ _ DD (hr.mono (C7 ∅ (O6 3 n))) O ('0'^^^(ag^^^ae)) ∅ O O)<*>dB<*>ag)))))<|>(@ai _ _ _ (10∣(@ap _ _ _ _ _ _ _ _ _ _ DLF (hr.mono (C7 ∅ (O6 3 n))) O ('0'^^^('2'^^^('3'^^^('4'^^^('5'^^^ae))))) ∅ O O)))<|>((11∣('8'&&&ix_list&&&'9'))<<<((12∣((@bh _ _ _ _ ((@aJ _ _ _ _ _ (';'^^^('4'^^^((('3'|||bg|||';')|||bg|||'1')^^^('4'^^^ae)))))^^^((@aJ _ _ _ _ _ ('3'^^^(';'^^^('3'^^^((('4'|||bg|||';')|||bg|||'1')^^^ae)))))^^^ae)))&&&ix_list&&&'9'))>>>(10∣(@ap _ _ _ _ _ _ _ _ _ _ DSU (hr.mono (C7 ∅ (O6 3 n))) O ((DT∪('0'^^^('1'^^^('2'^^^(('<'&&&ix_tup&&&ag)^^^(('<'&&&ix_tup&&&ag)^^^('5'^^^(('6'|||bg|||ag)^^^('7'^^^ae)))))))))^^^((DT∪('0'^^^('1'^^^('2'^^^(('<'&&&ix_tup&&&ag)^^^(('<'&&&ix_tup&&&ag)^^^('5'^^^(('6'|||bg|||ag)^^^('7'^^^ae)))))))))^^^ae)) ∅ O O)))))<<<((@bj _ _ _ _ (@fS _ _ _ _ _ _ _ _ _ _ _ _ F9 PySem.F.slot_list_append PySem.F.type_list_append cx '7' ((@aJ _ _ _ _ _ ('3'^^^('4'^^^(':'^^^ae))))^^^ae) O O O O O) O)<<<(':'⁻¹))))))|?_];dsimp only[bL];have z4:100000 < sizeLine:=∅
 apply av (λ R=>∀(sl:QP)(x y:Int)(H':Hp),H' sl=↥[.int x,.int y]->(x=0\/1<=x/\x+b < w1)->(y=0\/1<=y/\y+b < h1)->H sl=none->PotB H' p->But p H H'->R [↑p,⇑b,↑kl,⇑w1,⇑h1,↑g,⇑dp,↑l,↑sl,none,none,none,none] H') (λ Dd hR=>?_) ?_
 ·apply%[_,O,_,O,_,O,p,b,w1,O,pt,b0,b2,w0,w8|λ x Ha hx pa ba=>%[_,O,_,O,_,O,p,b,h1,O,pa,b0,b2,h0,h8|λ y Hb hy pb bb=>%[zS2|λ sl hsl=>?_]]];apply aK hsl λ H1 k1 s1=>?_;exact hR sl x y _ k1 hx hy (yQ pt (ba.trans bb) pb hsl) (pb.same s1) (λ c o nn e=>s1 _ _ (bb _ _ nn (ba _ _ nn e)))
 rintro sl x y H1 ks1 hx hy fs pt1 b1;have nsp:sl≠p:=λ z=>by obtain⟨_,_,_,_,_,h⟩:=pt;rw[z,h]at fs;cases fs
 have nsg:sl≠g:=λ z=>by rw[z,hg]at fs;cases fs
 have nsl:sl≠l:=λ z=>by rw[z,hl]at fs;cases fs
 apply av (λ R=>∀(wy:Int)(H':Hp),(wy=0\/wy=1)->H' sl=↥[.int x,.int y]->PotB H' p->But p H H'->R [↑p,⇑b,↑kl,⇑w1,⇑h1,↑g,⇑dp,↑l,↑sl,⇑wy,none,none,none] H') (λ Dd hR=>?_) ?_
 ·exact%[_,O,p,2,O,pt1,∅,∅|λ z H2 z0 z1 pt2 b2'=>hR z _ ⋯ (b2' _ _ nsp ks1) pt2 (b1.trans b2')]
 rintro wy0 H2 hw0 ks2 pt2 bx2;have at2:∀{wy:Int},(wy=0\/wy=1)->atI [V.int x,V.int y] wy=⇑(if wy=0 then x else y):=λ h=>by rcases h with rfl | rfl <;> rfl
 apply av (λ R=>∀(wy:Int),(wy=0\/wy=1)->R [↑p,⇑b,↑kl,⇑w1,⇑h1,↑g,⇑dp,↑l,↑sl,⇑wy,none,none,none] H2) (λ Dd hR=>?_) ?_
 ·apply%[_,O,_,O,sl,_,wy0,_,O,O,G7 ks2,at2 hw0,O,_,O|?_];exact bW (λ _=>%[_,O,_,_,O,O|hR _ ⋯]) (λ _=>hR _ hw0)
 rintro wy hw;clear hw0 wy0;apply bH (λ σ' H'=>∃(a:QP)(c:SW)(qs':QT PaQ)(ys':QT V)(v11 v12:QR V),σ'=[↑p,⇑b,↑kl,⇑w1,⇑h1,↑g,⇑dp,↑l,↑sl,⇑wy,↑a,v11,v12]/\H' a= ~~~(bV c)/\Ach b ks w1 h1 c/\c.sum<=n1/\H' g=↥[.int (n1 - c.sum)]/\H' l=↥ys'/\Paired (PaR H') ys' (qs ++ qs')/\(∀q∈qs',OkQ b ks w1 h1 c q)/\qs'.length+1 < 2 ^ (n+1)/\PotB H' p/\But3 p g l H H') (λ R hR=>?_) ?_
 ·have lf:∀Hx,PotB Hx p->But p H Hx->∀(a:QP)(c:SW)(H':Hp),H' a= ~~~(bV c)->LfC ks w1 h1 c->c.sum<=n1->H' g=↥[.int (n1 - c.sum)]->PotB H' p->Ct p g Hx H'->R [↑p,⇑b,↑kl,⇑w1,⇑h1,↑g,⇑dp,↑l,↑sl,⇑wy,↑a,none,none] H':=λ Hx px bx a c H' e lc cs eg pp bb=>by
   have b3:But3 p g l H H':=λ x o m1 m2 m3 ee=>bb _ _ m1 m2 (bx _ _ m1 ee);apply hR _ _ ⟨a,c,[],ys,none,none,rfl,e,.leaf lc,cs,eg,bb _ _ nlp (Ne.symm ngl) (bx _ _ nlp hl),?_,(λ q h=>by cases h),?_,pp,b3⟩
   ·rw[N0];exact G8 py λ v q h=>h.keep (b3.tps pt %[_|hg] %[_|hl])
   ·have:=Nat.one_le_two_pow (n:=n);rw[Nat.pow_succ,QL];lia
  have tpk:∀{Hx:Hp},But p H Hx->Tups Hx rs ks:=λ {Hx} bx=>Tups.keep (λ c xs e=>bx _ _ (λ z=>by obtain⟨_,_,_,_,_,h⟩:=pt;rw[z,h]at e;cases e) e) tp;apply%[_,O,O,_,O|?_];apply bW (λ _=>bW (λ _=>%[_,O,_,O,_,O,_,O,_,O,p,kl,g,rs,ks,w1,h1,n1,O,pt2,nkp,ngp,nkg,bx2 _ _ nkp hkl,tpk bx2,k1,k8,bx2 _ _ ngp hg,n0,n6|lf H2 pt2 bx2]) (λ z=>absurd rfl z)) (λ c1=>?_);have dn0:dp≠0:=λ z=>c1 (B1 (by rw[z]));apply%[_,O,_,O,sl,_,wy,_,O,O,G7 ks2,at2 hw,O,_,O|?_];obtain⟨pv,epv⟩:∃pv,(if wy=0 then x else y)=pv:=%[_|O]
  rw[epv];apply bW (λ _=>bW (λ _=>%[_,O,_,O,_,O,_,O,_,O,p,kl,g,rs,ks,w1,h1,n1,O,pt2,nkp,ngp,nkg,bx2 _ _ nkp hkl,tpk bx2,k1,k8,bx2 _ _ ngp hg,n0,n6|lf H2 pt2 bx2]) (λ z=>absurd rfl z)) (λ c2=>?_);apply%[_,O,p,5,O,pt2,∅,∅|λ z H4 z0 z1 pt4 b4=>%[O,_,O|?_]];have bx4:But p H H4:=bx2.trans b4;apply bW (λ _=>%[_,O,_,O,_,O,_,O,_,O,p,kl,g,rs,ks,w1,h1,n1,O,pt4,nkp,ngp,nkg,bx4 _ _ nkp hkl,tpk bx4,k1,k8,bx4 _ _ ngp hg,n0,n6|lf H4 pt4 bx4]) (λ _=>?_);have ks4:=b4 _ _ nsp ks2;have pv0:pv≠0:=λ z=>c2 (B1 (by rw[z]));have atv:=at2 hw;rw[epv]at atv;apply bH (λ σ' H'=>σ'=[↑p,⇑b,↑kl,⇑w1,⇑h1,↑g,⇑dp,↑l,↑sl,⇑wy,none,⇑pv,none]/\H4=H') (λ R' hR'=>%[_,O,_,O,sl,_,wy,_,O,O,G7 ks4,atv|hR' _ _ %[O|O]]) ?_;rintro _ _ ⟨rfl,rfl⟩;apply bH (λ σ' H'=>∃(ts:QP)(w2 h2 w3 h3:Int),σ'=[↑p,⇑b,↑kl,⇑w1,⇑h1,↑g,⇑dp,↑l,↑sl,⇑wy,none,⇑pv,↑ts]/\H' ts= ~~~[.int w2,.int h2,.int w3,.int h3]/\(1<=w2/\w2<=w1/\1<=h2/\h2<=h1)/\(1<=w3/\w3<=w1/\1<=h3/\h3<=h1)/\(∀c d,Ach b ks w2 h2 c->Ach b ks w3 h3 d->Ach b ks w1 h1 (bZ c d))/\Same H4 H') (λ R' hR'=>?_) ?_
  ·apply%[_,O,_,O,_,O,_,O,_,_,O,O,_,O,_,_,O,O,_,O,zS4|λ t1 ht1=>?_];apply aK ht1 λ H5 k5 s5=>?_;apply%[_,O,_,O,_,O,_,O,_,O,_,_,O,O,_,O,_,_,O,O,zS4|λ t2 ht2=>?_];apply aK ht2 λ H6 k6 s6=>?_;apply%[zS2|λ l2 hl2=>?_];apply aK hl2 λ H7 k7 s7=>?_;have s47:=(s5.trans s6).trans s7;rcases hw with rfl | rfl
   ·have e:pv=x:=epv.symm;have px:1<=pv/\pv+b < w1:=⋯
    exact%[_,O,l2,_,0,_,O,O,G7 k7,O|hR' _ _ %[t1,pv,h1,w1 - pv - b,h1,O,s7 _ _ (s6 _ _ k5),%[⋯,⋯,⋯|⋯],%[⋯,⋯,⋯|⋯],λ c d ac ad=>.down px.1 px.2 ac ad|s47]]
   ·have e:pv=y:=epv.symm;have px:1<=pv/\pv+b < h1:=⋯
    exact%[_,O,l2,_,1,_,O,O,G7 k7,O|hR' _ _ %[t2,w1,pv,w1,h1 - pv - b,O,s7 _ _ k6,%[⋯,⋯,⋯|⋯],%[⋯,⋯,⋯|⋯],λ c d ac ad=>.across px.1 px.2 ac ad|s47]]
  intro _ H5 hI9;apply br λ G9 k9=>?_;obtain⟨ts,w2,h2,w3,h3,rfl,hts,⟨a1,a2,a3,a4⟩,⟨d1,d2,d3,d4⟩,comb,s5⟩:=hI9;apply k9 ?_;have bx5:But p H H5:=λ c o nn e=>s5 _ _ (bx4 _ _ nn e);have pt5:=pt4.same s5;have l0:=E7 py;have dn':(dp - 1).toNat < n:=⋯
  have pw:2 ^ (n+1)=2 ^ n+2 ^ n:=by rw[Nat.pow_succ];lia
  have hpn:=Nat.two_pow_pos n;have py5:Paired (PaR H5) ys qs:=G8 py λ v q h=>h.keep (λ c xs e=>bx5 _ _ (λ z=>by obtain⟨_,_,_,_,_,h⟩:=pt;rw[z,h]at e;cases e) e);apply%[_,O,_,O,_,O,_,O,ts,_,_,_,O,O,G6 hts,O,_,O,ts,_,_,_,O,O,G6 hts,O,_,O,_,O,_,_,O,O,_,O|?_];apply%[p,kl,g,l,b,w2,h2,dp - 1,n1,rs,ys,ks,qs,O,pt5,nkp,ngp,nlp,nkg,nkl,ngl,bx5 _ _ nkp hkl,tpk bx5,k1,k8,bx5 _ _ ngp hg,n0,n6,b0,b2,a1,⋯,a3,⋯,⋯,dn',bx5 _ _ nlp hl,py5,⋯|λ c1a c1 ys1 qs1 H8 e1 ac1 cs1 eg1 el1 py1 ok1 ql1 pt8 b8=>?_];have g5:=bx5 _ _ ngp hg;have l5:=bx5 _ _ nlp hl;have tp8:=b8.tps pt5 %[_|g5] %[_|l5];have L1:=E7 py1;rw[J7]at L1;have hts8:=tp8 _ _ hts;have sn1:=dL ac1.ok.2;apply%[_,O,_,O,_,O,_,O,ts,_,_,_,O,O,G6 hts8,O,_,O,ts,_,_,_,O,O,G6 hts8,O,_,O,_,O,_,_,O,O,_,O|?_];apply%[p,kl,g,l,b,w3,h3,dp - 1,n1 - c1.sum,rs,ys1,ks,qs ++ qs1,O,pt8,nkp,ngp,nlp,nkg,nkl,ngl,b8 _ _ nkp nkg nkl (bx5 _ _ nkp hkl),Tups.keep (λ c xs e=>tp8 _ _ e) (tpk bx5),k1,k8,eg1,⋯,⋯,b0,b2,d1,⋯,d3,⋯,⋯,dn',el1,py1,⋯|λ c2a c2 ys2 qs2 H9 e2 ac2 cs2 eg2 el2 py2 ok2 ql2 pt9 b9=>?_];have tp9:=b9.tps pt8 %[_|eg1] %[_|el1];have E1:=ac1.ok.1;have E2:=ac2.ok.1;apply%[c1a,c2a,c1,c2,O,tp9 _ _ e1,e2,⋯,⋯|λ a H10 ea s10=>hR _ _ %[a,bZ c1 c2,qs1 ++ qs2,ys2,_,_,O,ea,comb _ _ ac1 ac2,?_,?_,s10 _ _ el2,?_,λ r hr=>?_,?_,pt9.same s10|λ c o m1 m2 m3 e=>s10 _ _ (b9 _ _ m1 m2 m3 (b8 _ _ m1 m2 m3 (bx5 _ _ m1 e)))]]
  ·rw[gn ⋯];lia
  ·rw[gn ⋯,<- Int.sub_sub];exact s10 _ _ eg2
  ·rw[<- K5];exact G8 py2 λ v q h=>h.keep (Same.tps s10)
  ·rcases C4.mp hr with h | h
   ·exact(ok1 r h).up a2 a4 (lj ⋯ ac2.ok.2) E1 (by rw[aT ⋯];exact E1)
   ·exact(ok2 r h).up d2 d4 (lm ⋯ ac1.ok.2) E2 (by rw[aT ⋯];exact E1)
  ·rw[J7];lia
 intro _ H3 hI9;apply br λ G9 k9=>?_;obtain⟨a,c,qs',ys',v11,v12,rfl,ha,ac,cs,hg3,hl3,py3,ok3,ql,pt3,b3⟩:=hI9;apply k9 ?_;have tps3:=b3.tps pt %[_|hg] %[_|hl];have l1:=E7 py3;have l2:=E7 py;rw[J7]at l1;apply%[_,O,.inl %[O,_|G7 hl3],_,O,_,O,_,O,zS3|λ ta hta=>?_];apply aK hta λ H4 k4 s4=>?_;apply%[l,ys',_,O,O,s4 _ _ hl3,⋯,_,O|?_];have up:∀c o,c≠l->H3 c=some o->(upd H4 l (.lst (ys' ++ [.ref ta]))) c=some o:=λ c o nn e=>by rw[am nn];exact s4 _ _ e
 have tp4:Tps H3 (upd H4 l (.lst (ys' ++ [.ref ta]))):=λ c xs e=>up c _ (λ z=>by rw[z,hl3]at e;cases e) e;apply q a c _ (qs' ++ [(w1,h1,c)]) _ (tp4 _ _ ha) ac cs (up _ _ ngl hg3) ah ?_ ?_ ?_ ?_ (λ x o m1 m2 m3 e=>up _ _ m3 (b3 _ _ m1 m2 m3 e))
 ·rw[<- K5];apply Paired.app (G8 py3 λ v q h=>h.keep tp4) (.cons %[ta,a,O,?_|tp4 _ _ ha] .nil);rw[am (λ z=>by rw[z,hl3]at hta;cases hta)];exact k4
 ·intro r hr;rcases C4.mp hr with h | h
  ·exact ok3 r h
  ·rw[E6.mp h];exact%[w0,E9 _,h0,E9 _,ac|eS _]
 ·rw[J7,List.length_singleton];exact ql
 ·obtain⟨a1,a2,a3,a4,a5,h⟩:=pt3;exact%[a1,a2,a3,a4,a5|up _ _ (Ne.symm nlp) h]
theorem uX{f:QP}{fd:G2}(F:Fun K "_law_tree" "_law_tree" lY f fd):FnOk P w K mg base CX0 3 f fd SH (ii 0):=by
 apply F.ok scltree (λ vs H Q E h=>?_) (λ cdv A outer s H vs Q E hr h=>?_)
 ·apply br λ G9 k9=>?_;obtain⟨p,kl,g,l,b,w1,h1,dp,n1,rs,ys,ks,qs,rfl,_⟩:=h;apply k9 ?_
  rfl
 ·apply br λ G9 k9=>?_;obtain⟨p,kl,g,l,b,w1,h1,dp,n1,rs,ys,ks,qs,_,_,_,_,_,_,_,_,_,_,_,_,_,_,_,_,_,_,_,_,_,_,z,_⟩:=h;apply k9 ?_;exact absurd z (F3 _)
theorem mF{f:QP}{fd:G2}(F:Fun K "_law_tree" "_law_tree" lY f fd)(B:Blt mg)(DD:Dn P w K mg base "_law_draw" Ry 1 (dj))(DPC:Dn P w K mg base "_law_place" SD 2 (nM))(DLF:Dn P w K mg base "_law_leaf" SF 3 (rh))(DSU:Dn P w K mg base "_law_sum" R4 1 (tj))(mk:∀n,FnOk P w K mg base CX0 (3+n) f fd SH (ii n)->Dn P w K mg base "_law_tree" SH (3+n) (ii n)):∀n,FnOk P w K mg base CX0 (3+n) f fd SH (ii n)
 | 0=>uX F
 | n+1=>yR F n B DD DPC DLF DSU (mk n (mF F B DD DPC DLF DSU mk n))
def Ec(b:Int)(ks:QT Kd)(x y:Int)(m:Nat):Prop:=∀us ws:SW,(us.length:Int)=x->(ws.length:Int)=y->fH us->fH ws->(∀k∈ks,0 < k.wa->kwt us ws k≠none)/\wtB (ks.map λ k=>(kwt us ws k).getD 0) (wsK ks)<=m * (Ld b us us.length * Ld b ws ws.length)
def Ed(C:QP):Sp:=λ vs H Q _=>∃(p s sl t:QP)(b x y:Int)(ks:QT Kd)(m:Nat),vs=[.ref p,.ref s,.ref sl,.ref t,.int m]/\PotB H p/\ShopAt C H s b ks/\0<=b/\b<=2/\ks.length<=8/\(∀k∈ks,Good k)/\sl≠p/\H sl=↥[.int x,.int y]/\1<=x/\x<=8/\1<=y/\y<=8/\H t= ~~~(bV (wsK ks))/\Ec b ks x y m/\m<=6/\∀H',PotB H' p->But p H H'->Q (.bl true) H'
theorem scwr:FnScope ["_law_pot_here","_law_shop","_law_sides","_law_wanted","_law_plates","_law_u","_law_v","_law_total","_law_many","_law_own","_law_by_weights"] SI (defScope dq):=nofun
theorem Ee{f:QP}{fd:G2}(F:Fun K "_law_weighs_right" "_law_weighs_right" dq f fd){C:QP}(B:Blt mg)(T:ShopTxt K C)(DWG:Dn P w K mg base "_law_weights" Ry 2 (yN))(DKW:Dn P w K mg base "kind_weights" SC 6 (Ck C))(DPL:Dn P w K mg base "plate_load" SC 4 (Cm C))(DPB:Dn P w K mg base "plates_by_weights" SC 7 (Eb C)):FnOk P w K mg base CX0 8 f fd SI (Ed C):=by
 exists scwr;apply br λ G9 k9=>?_;obtain⟨p,s',sl,t,b,x,y,ks,m,rfl,pt,S,b0,b2,k8,hg,nsp,hsl,x1,x8,y1,y8,ht,wok,m6,q⟩:=h;apply k9 ?_;apply%[_,((wE O nd O O (i:=5) (j:=6) ∅ O O ((DWG∩('0'^^^(('2'&&&ix_list&&&ag)^^^ae)))^^^((DWG∩('0'^^^(('2'&&&ix_list&&&ag)^^^ae)))^^^ae)) O)<<<((7∣ag)<<<((@bE _ _ _ _ _ _ _ _ E8 O (rZ O B.zip ('3'^^^((DKW∩('1'^^^(('2'&&&ix_list&&&ag)^^^(('2'&&&ix_list&&&ag)^^^('5'^^^('6'^^^ae))))))^^^ae))) (bn O (8•(9•aR))) (((PW.pt (jP ('8'<*>cV<*>ag) (jE ('9'<*>jU<*>fL))))<|>(eC⁻¹)<|>aE)>>>(('8'<*>cV<*>ag)<|>(@ai _ _ _ (7∣('7'|||aX|||('8'|||ip|||'9'))))<|>aE)) (by intro _;rfl))<<<((10∣(DPB∪('1'^^^(('2'&&&ix_list&&&ag)^^^(('2'&&&ix_list&&&ag)^^^('5'^^^('6'^^^ae)))))))<<<(((PW.pt (cP (':'<*>jU<*>fL) (cC (':'<*>cV<*>'4'))))<|>(eC⁻¹)<|>aE)<<<((@bD _ _ _ _ _ _ _ _ fP '7' ('4'|||ip|||(DPL∩('1'^^^(('2'&&&ix_list&&&ag)^^^(('2'&&&ix_list&&&ag)^^^('5'^^^('6'^^^ae))))))) (aA _))⁻¹))))))|?_];dsimp only[bL];have sz:(100:Nat) < sizeLine:=∅
 obtain⟨dx,r0,rs0,g1,g2,g3⟩:=id S;apply av (λ R=>∀(a c:QP)(us ws:SW)(H':Hp),(us.length:Int)=x->(ws.length:Int)=y->Wts H' a us->Wts H' c ws->PotB H' p->But p H H'->R [↑p,↑s',↑sl,↑t,⇑(m:Int),↑a,↑c,none,none,none,none] H') (λ Dd hR=>?_) ?_
 ·apply%[_,O,_,O,sl,_,_,_,O,O,G7 hsl,O,p,_,O,pt,x1,x8|λ a us Ha a0 nap ha ul gu pa ba=>%[_,O,_,O,sl,_,_,_,O,O,G7 (ba _ _ nsp hsl),O,p,_,O,pa,y1,y8|λ c ws Hb c0 ncp hc wl gw pb bb=>?_]];exact%[_,_,O|hR a c us ws _ ul wl %[.inl (bb _ _ nap ha),⋯,⋯|gu] %[.inl hc,⋯,⋯|gw] pb (ba.trans bb)]
 rintro a c us ws H1 ul wl hu hv pt1 b1;subst ul wl;obtain⟨wn,wle⟩:=wok us ws rfl rfl hu.gw hv.gw;have tpk:∀{c:QP}{xs:QT V},H c= ~~~xs->H1 c= ~~~xs:=λ {c xs} e=>b1 _ _ (λ z=>by obtain⟨_,_,_,_,_,h⟩:=pt;rw[z,h]at e;cases e) e;have insk:∀{c d D:QP}{fs:QT (Str×V)},H c=some (.ins d D fs)->H1 c=some (.ins d D fs):=λ {c d D fs} e=>b1 _ _ (λ z=>by obtain⟨_,_,_,_,_,h⟩:=pt;rw[z,h]at e;cases e) e;have S1:=S.keep (λ c xs e=>tpk e) (λ c C' d fs e=>insk e);have ht1:=tpk ht;have hsl1:=b1 _ _ nsp hsl;have pw:=sT (us:=us) (vs:=ws) (ks:=ks) (a:=0) λ k hk=>%[(hg k hk).wa|wn k hk]
 rw[P6]at pw;obtain⟨tt,et⟩:∃tt,wtB (ks.map λ k=>(kwt us ws k).getD 0) (wsK ks)=tt:=%[_|O]
 rw[et]at pw wle;have L0:=Int.mul_nonneg (fF (b:=b) (ws:=us) us.length) (fF (b:=b) (ws:=ws) ws.length);apply bH (λ σ' H'=>σ'=[↑p,↑s',↑sl,↑t,⇑(m:Int),↑a,↑c,⇑0,none,none,none]/\H1=H') (λ R hR=>hR _ _ %[rfl|rfl]) ?_;rintro _ _ ⟨rfl,rfl⟩;apply bH (λ σ' H'=>∃v8 v9:QR V,σ'=[↑p,↑s',↑sl,↑t,⇑(m:Int),↑a,↑c,⇑tt,v8,v9,none]/\Same H1 H') (λ R hR=>?_) ?_
 ·apply%[_,O,_,O,_,O,sl,_,_,_,O,O,G7 hsl1,O,_,O,sl,_,_,_,O,O,G7 hsl1,O,_,O,_,O,s',a,c,b,ks,us,ws,_,_,O,O,O,S1,k8,hg,hu,hv|λ l H2 hl l2 s2=>?_];have ht2:H2 t= ~~~(ks.map λ k=>V.int k.wa):=by rw[s2 _ _ ht1,bV,wsK,N7];rfl
  apply%[t,l,_,_,O,ht2,l2|pQ (xs:=ks.map λ k=>V.int k.wa) (ys:=(ks.map (kwt us ws)).map oV) (λ i σ H4=>∃(z:Int)(v8 v9:QR V),σ=[↑p,↑s',↑sl,↑t,⇑(m:Int),↑a,↑c,⇑z,v8,v9,none]/\dQ us ws (ks.take i) 0=some z/\Same H2 H4) (by rw[B5,B5,B5]) %[0,none,none,O,O|Same.refl _] (λ i σ H4 h9=>by obtain⟨_,_,_,_,_,s4⟩:=h9;exact%[s4 _ _ ht2|s4 _ _ l2]) ?_ ?_]
  ·rintro i x y q' σ H4 hx hy hq ⟨z,v8,v9,rfl,pz,s4⟩;rw[J3]at hx;rw[J3,J3]at hy;cases hk:ks[i]? with
   | none=>rw[hk]at hx;cases hx
   | some k=>
    rw[hk]at hx hy;cases hx;cases hy;have gk:=hg k (B7 hk);have wk:=wn k (B7 hk);have s5:=s4.trans (G5 hq (o:=.tup [.int k.wa,oV (kwt us ws k)]));have p5:(upd H4 q' (.tup [.int k.wa,oV (kwt us ws k)])) q'= ~~~[.int k.wa,oV (kwt us ws k)]:=ah;generalize upd H4 q' (.tup [.int k.wa,oV (kwt us ws k)])=H5 at s5 p5 ⊢;have tk:ks.take (i+1)=ks.take i ++ [k]:=by rw[K0,hk];rfl
    have sn:=mC us ws k (ks.take i) 0 z pz;rw[<- tk]at sn;apply%[q',_,O,G6 p5,O,_,_,O,_,_,O,O|?_];apply bH (λ σ' H'=>σ'=[↑p,↑s',↑sl,↑t,⇑(m:Int),↑a,↑c,⇑z,⇑k.wa,some (oV (kwt us ws k)),none]/\H5=H') (λ R' hR'=>?_) ?_
    ·apply%[_,O,_,_,O,O,_,O|?_];apply bW (λ cc=>?_) (λ cc=>hR' _ _ %[rfl|rfl]);apply%[_,O,O,_,O|?_];rw[show decide (oV (kwt us ws k)=V.non)=false by
      cases e:kwt us ws k with
      | none=>exact absurd e (wk (C2 cc))
      | some v=>rfl]
     exact be (hR' _ _ %[rfl|rfl])
    rintro _ _ ⟨rfl,rfl⟩;apply%[_,O,_,_,O,O,_,O|?_];apply bW (λ cc=>?_) (λ cc=>?_)
    ·have hw:0 < k.wa:=C2 cc;rw[Qa hw]at sn;cases e:kwt us ws k with
     | none=>exact absurd e (wk hw)
     | some v=>
      rw[e]at sn;obtain⟨v0,v1⟩:=rf gk hu.gw hv.gw e;have w1:=gk.wa';have w0:=gk.wa;have e1:(10:Nat) ^ 60 < 2 ^ 4096:=∅
      have e2:(10:Nat) ^ 116 < 2 ^ 4096:=∅
      exact%[_,O,_,O,_,O,_,_,O,O,%[⋯|⋯],_,_,O,O|%[_,_,_,O,sn|s5]]
    ·rw[QZ (λ z=>cc (Qb z))]at sn;exact%[_,_,_,O,sn|s5]
  ·rintro σ H4 ⟨z,v8,v9,rfl,pz,s4⟩;rw[B5,M0,pw]at pz;cases pz;exact hR _ _ %[v8,v9,rfl|s2.trans s4]
 rintro _ H2 ⟨v8,v9,rfl,s2⟩;have hsl2:=s2 _ _ hsl1;have ep:uU us ws b ks=some (if tt=0 then 0 else(tt+Ld b us us.length * Ld b ws ws.length - 1) / (Ld b us us.length * Ld b ws ws.length)):=by unfold uU;rw[pw]
 obtain⟨pa,epa⟩:∃pa,(if tt=0 then 0 else(tt+Ld b us us.length * Ld b ws ws.length - 1) / (Ld b us us.length * Ld b ws ws.length))=pa:=%[_|O]
 rw[epa]at ep;have pam:pa<=m:=by
  rw[<- epa]
  split
  ·lia
  ·next t0=>
   have Lp:=pS b0 hg hu.gw hv.gw pw t0;have:(tt+Ld b us us.length * Ld b ws ws.length - 1) / (Ld b us us.length * Ld b ws ws.length) < m+1:=Int.ediv_lt_of_lt_mul Lp (by rw[Int.add_mul,Int.one_mul];lia);lia
 apply av (λ R=>∀(H':Hp),Same H1 H'->R [↑p,↑s',↑sl,↑t,⇑(m:Int),↑a,↑c,⇑tt,v8,v9,⇑pa] H') (λ Dd hR=>?_) ?_
 ·exact%[_,O,_,O,sl,_,_,_,O,O,G7 hsl2,O,_,O,sl,_,_,_,O,O,G7 hsl2,O,_,O,_,O,s',a,c,b,ks,us,ws,_,_,O,O,O,gj s2 S1,k8,hg,b0,hu.same s2,hv.same s2|λ H3 s3=>by rw[ep];exact hR _ (s2.trans s3)]
 rintro H3 s3;have hsl3:=s3 _ _ hsl1;apply av (λ R=>R [↑p,↑s',↑sl,↑t,⇑(m:Int),↑a,↑c,⇑tt,v8,v9,⇑pa] H3) (λ Dd hR=>?_) ?_
 ·apply%[_,O,O,_,O|be %[_,O,_,O,_,_,O,O,_,O|?_]];rw[Qc (show¬ (m:Int) < pa by lia)];exact be (hR)
 skip
 apply%[_,O,_,O,_,O,_,O,sl,_,_,_,O,O,G7 hsl3,O,_,O,sl,_,_,_,O,O,G7 hsl3,O,_,O,_,O,s',a,c,b,ks,us,ws,_,_,O,O,O,gj s3 S1,b0,hu.same s3,hv.same s3|λ H4 s4=>%[_,_,O,O,%[?_|?_],_,_,O,O|?_]]
 ·have:(6:Nat) < 2 ^ 4096:=∅
  lia
 ·rw[Int.natAbs_mul];have a1:(Ld b us us.length).natAbs < 10 ^ 62:=eX b0 hu.gw hu.l60;have a2:(Ld b ws ws.length).natAbs < 10 ^ 62:=eX b0 hv.gw hv.l60;have a3:=P0 (C9 a1) (C9 a2);have a4:(10:Nat) ^ 62 * 10 ^ 62 < 2 ^ 4096:=∅
  lia
 ·rw[Qb wle];exact q _ (pt1.same (s3.trans s4)) λ x o nn e=>s4 _ _ (s3 _ _ (b1 _ _ nn e))
theorem uY{X:Cx}(K:C6)(hK:X.K=K)(hc:X.calm=true):cD X (.builtin "all") (rz_call_allB K):=hK ▸ eG hc
theorem uZ(a c:SW):bZ a c=bZ c a:=by unfold bZ;exact List.zipWith_comm_of_comm λ x y=>Int.add_comm x y
theorem vb{a c:SW}(e:a.length=c.length)(h:∀x∈c,x=0):bZ a c=a:=by
 apply QG λ i=>?_
 by_cases il:i < a.length
 ·obtain⟨x,hx⟩:=atB il;obtain⟨y,hy⟩:=atB (a:=c) (i:=i) ⋯;rw[iQ hx hy,hx,h y (B7 hy),Int.add_zero]
 ·rw[O0 (by rw[aT e];lia),O0 ⋯]
theorem tm:∀{c:SW},NnB c->c.sum<=0->∀x∈c,x=0
 | [],_,_,_,h=>by cases h
 | y :: c,nn,s,x,h=>by
  rw[M7]at s;have y0:=nn y B9;have n2:NnB c:=λ z hz=>nn z (B6 _ hz);have s0:=dL n2;rcases J4.mp h with rfl | h
  ·lia
  ·exact tm n2 ⋯ x h
def dO(n:Nat)(cs:SX):SW:=cs.foldr bZ (aB n)
theorem gG{n:Nat}:∀{cs:SX},(∀c∈cs,c.length=n/\NnB c)->(dO n cs).length=n/\NnB (dO n cs)
 | [],_=>%[by simp[dO,aB]|lg n]
 | c :: cs,h=>by obtain⟨c1,c2⟩:=h c B9;obtain⟨i1,i2⟩:=gG (cs:=cs) λ d hd=>h d (B6 _ hd);show(bZ c (dO n cs)).length=n/\NnB (bZ c (dO n cs));exact%[by rw[aT ⋯];exact c1|jO ⋯ c2 i2]
theorem nN{n:Nat}:∀{cs:SX},(∀c∈cs,c.length=n/\NnB c)->∀c∈cs,leB c (dO n cs)=true
 | [],_,_,m=>by cases m
 | d :: cs,h,c,m=>by
  obtain⟨c1,c2⟩:=h d B9;have h':∀c∈cs,c.length=n/\NnB c:=λ x hx=>h x (B6 _ hx);obtain⟨i1,i2⟩:=gG h';show leB c (bZ d (dO n cs))=true;rcases J4.mp m with rfl | m
  ·exact lj ⋯ i2
  ·exact eT (by rw[(h' c m).1,i1]) (by rw[aT ⋯];lia) (nN h' c m) (lm ⋯ c2)
theorem pX{n:Nat}:∀{cs:SX},(∀c∈cs,c.length=n/\NnB c)->∀{i:Nat}{x:Int},(dO n cs)[i]?=some x->0 < x->∃c∈cs,∃y,c[i]?=some y/\0 < y
 | [],_,i,x,hx,x0=>by have:=(PD.mp (B7 hx)).2;lia
 | d :: cs,h,i,x,hx,x0=>by
  have h':∀c∈cs,c.length=n/\NnB c:=λ x hx=>h x (B6 _ hx);obtain⟨u,v,hu,hv,rfl⟩:=fv (a:=d) (b:=dO n cs) (by rw[(h d B9).1,(gG h').1]) hx
  by_cases q:0 < u
  ·exact%[d,B9,u,hu|q]
  ·obtain⟨c,m,y,hy,y0⟩:=pX h' hv ⋯;exact%[c,B6 _ m,y,hy|y0]
def Cu(x w:Int):Int:=if w < x then w else x
theorem yS{us vs:SW}{k:Kd}{c:Bool}(ct:c=true->bi k=true)(f:cY k c us.length vs.length=true):∃x,kwt us vs k=some x/\x<=kw1 us vs k c:=by
 unfold kwt
 by_cases c1:(bi k && cY k true us.length vs.length)=true
 ·rw[Qa c1]
  by_cases c2:cY k false us.length vs.length=true
  ·rw[Qa c2];apply%[Cu (kw1 us vs k false) (kw1 us vs k true),?_|?_]
   ·simp only[stp];unfold Cu;split <;> rfl
   ·unfold Cu;cases c <;> (split <;> lia)
  ·rw[QZ c2];cases c with
   | false=>exact absurd f c2
   | true=>exact%[_,O|E9 _]
 ·rw[QZ c1];cases c with
  | false=>rw[Qa f];exact%[_,O|E9 _]
  | true=>exact absurd (E3.mpr %[ct rfl|f]) c1
theorem tq{b:Int}{us:SW}(b0:0<=b){i n:Int}(i0:0<=i)(h:i < n):gI us i<=Ld b us n.toNat:=by have g:=rQ (ws:=us) b0 (n.toNat - 1) i.toNat ⋯;rw[show n.toNat - 1+1=n.toNat by lia,show((i.toNat:Nat):Int)=i by lia]at g;have:=fF (b:=b) (ws:=us) (m0 (((n.toNat - 1:Nat):Int)+1 - (i+1) - b)).toNat;lia
theorem yT{b:Int}{ks:QT Kd}{p:Int×Int}(gd:iK b ks)(p1:1<=p.1)(p2:1<=p.2)(aw:awF ks p=true):(Av b ks p).length=kY (gK b ks p) (wsK ks):=by have wl:(wsK ks).length=ks.length:=B5 _;obtain⟨_,fh,_⟩:=nH gd p1 p2 aw;have h:=C2 fh;rw[wl]at h;exact(gg (ws0 gd.2.2.2.1) (λ c hc=>%[(bQ gd.2.2.2.1 hc).1|(bQ gd.2.2.2.1 hc).2.2]) _ _ (kS h)).2.1
theorem vc{b:Int}{ks:QT Kd}{p:Int×Int}{cs:SX}(gd:iK b ks)(gk:∀k∈ks,Good k)(p1:1<=p.1)(p2:1<=p.2)(hc:∀c∈cs,Ach b ks p.1 p.2 c/\0 < c.sum)(hs:dO ks.length cs=wsK ks) :
  awF ks p=true/\kY (gK b ks p) (wsK ks)<=cs.length/\(kY (gK b ks p) (wsK ks)=0->cs=[])/\Ec b ks p.1 p.2 (kY (gK b ks p) (wsK ks)):=by
 have gd':=gd;obtain⟨b0,k1,k8,kw,w6⟩:=gd;have wl:(wsK ks).length=ks.length:=B5 _;have ca:∀c∈cs,c.length=ks.length/\NnB c:=λ c m=>(hc c m).1.ok;have fit:∀(i:Nat)(k:Kd),ks[i]?=some k->0 < k.wa->cZ k p.1 p.2=true:=λ i k hk k0=>by
  have hw:(wsK ks)[i]?=some k.wa:=by rw[J3,hk];rfl
  rw[<- hs]at hw;obtain⟨c,m,y,hy,y0⟩:=pX ca hw k0;obtain⟨k',hk',f⟩:=(hc c m).1.fit b0 hy y0;rw[hk]at hk';cases hk';exact f
 have aw:awF ks p=true:=awF_iff.mpr λ i il=>by
  obtain⟨k,hk⟩:∃k,ks[i]?=some k:=%[_|F5 il]
  have wa:waA ks i=k.wa:=by unfold waA;rw[hk];rfl
  rw[wa]
  by_cases z:k.wa=0
  ·exact .inl z
  ·have k0:=kw k (B7 hk);obtain⟨t,c1,c2⟩:=fitsK_iff.mp (fit i k hk ⋯);have m:=rg c1 (j:=0) hk;rw[QK]at m;exact .inr (J6.mpr %[(i,t),PJ.mpr %[m|by unfold cO;rw[hk];exact c2]|O])
 obtain⟨f6,fh,fmin⟩:=nH gd' p1 p2 aw;have bsn:∀c∈gK b ks p,c.length=(wsK ks).length/\NnB c:=λ c hc=>%[(bQ kw hc).1|(bQ kw hc).2.2]
 have zl:aB (wsK ks).length=aB ks.length:=by rw[wl]
 apply%[aw,?_,λ z=>?_|?_]
 ·have pick:∀ds:SX,(∀c∈ds,c∈cs)->∃gs,Paired (λ g c=>c.length=ks.length/\g.length=ks.length/\NnB c/\leB c g=true) gs ds/\∀g∈gs,g∈gK b ks p:=λ ds=>by
   induction ds with
   | nil=>intro _;exact%[[],.nil|λ g h=>by cases h]
   | cons d ds ih=>
    intro h;obtain⟨gs,i1,i2⟩:=ih λ c m=>h c (B6 _ m);have md:=h d B9;obtain⟨g,hg,l⟩:=sV b0 kw (hc d md).1 p1 p2 (by rw[<- hs];exact nN ca d md);apply%[g :: gs,.cons %[(ca d md).1,by rw[(bsn g hg).1,wl],(ca d md).2|l] i1|λ x hx=>?_];rcases J4.mp hx with rfl | hx
    ·exact hg
    ·exact i2 x hx
  obtain⟨gs,pg,mg⟩:=pick cs λ _ h=>h;have cz:=lh (a:=wsK ks) pg wl (λ x hx=>ws0 kw x hx) (by rw[show cs.foldr bZ (aB ks.length)=wsK ks from hs];exact eS _);have lv:=mE (ws:=wsK ks) (k:=0) (x:=wsK ks) mg (E6.mpr rfl);rw[cz,QK,Paired.length pg]at lv;have ht:hit (gK b ks p) (wsK ks) cs.length=true:=B1 (by rw[zl];exact lv);apply Nat.not_lt.mp λ lt=>?_;rw[fmin _ lt]at ht;cases ht
 ·rw[z]at fh;have e:=C2 fh;rw[zl]at e;have e:aB ks.length=wsK ks:=E6.mp e;cases cs with
  | nil=>rfl
  | cons c cs=>
   have l:=(kM (by rw[(ca c B9).1,(gG ca).1]) (nN ca c B9)).1;rw[hs,<- e,eY]at l;have:=(hc c B9).2;lia
 ·intro us vs eu ev gu gv;apply%[λ k hk k0 e=>?_|?_]
  ·obtain⟨i,hi⟩:=N8.mp hk;obtain⟨t,c1,c2⟩:=fitsK_iff.mp (fit i k hi k0);obtain⟨x,hx,_⟩:=yS (us:=us) (vs:=vs) c1 (by rw[eu,ev];exact c2);rw[e]at hx;cases hx
  ·obtain⟨r,hr,er⟩:=J6.mp (C2 fh);obtain⟨l1,l2,l3,l4⟩:=gg (ws0 kw) bsn _ r hr;have x0:∀x∈ks.map (λ k=>(kwt us vs k).getD 0),0<=x:=λ x hx=>by
    obtain⟨k,hk,rfl⟩:=J6.mp hx;cases e:kwt us vs k with
    | none=>exact E9 _
    | some v=>exact(rf (gk k hk) gu gv e).1
   have wt:=yJ (us:=us) (vs:=vs) (ks:=ks) b0 x0 kw (λ i c w h hf hm hw hh x hx=>by
    obtain⟨_,k,hk,hc⟩:=nE hm;rw[Nat.sub_zero]at hk;unfold cO at hf;rw[show ks[(i,c).1]?=some k from hk]at hf;have hf:cY k c w h=true:=hf;obtain⟨f1,f2⟩:=nL hf;obtain⟨v,hv,vl⟩:=yS (us:=us) (vs:=vs) (k:=k) (c:=c) (λ e=>hc.resolve_left (by rw[show(i,c).2=c from rfl,e];decide)) (E3.mpr %[B1 ⋯|B1 ⋯]);rw[J3,hk]at hx;have ex:(kwt us vs k).getD 0=x:=C0 hx;rw[hv,Option.getD_some]at ex;obtain⟨s1,s2⟩:=jM gk hk c;have a1:=tq (us:=us) b0 (i:=sd1 k c - 1) (n:=w) ⋯ ⋯;have a2:=tq (us:=vs) b0 (i:=sd2 k c - 1) (n:=h) ⋯ ⋯;obtain⟨u0,_⟩:=jw gu (i:=sd1 k c - 1) ⋯ ⋯;obtain⟨v0,_⟩:=jw gv (i:=sd2 k c - 1) ⋯ ⋯;have t1:=O4 a1 v0;have t2:=Int.mul_le_mul_of_nonneg_left a2 (fF (b:=b) (ws:=us) w.toNat);unfold kw1 at vl;lia) (msr p+1) p (F4 _) p1 p2 ⋯ ⋯
   have cw:=pV x0 r.2 (wsK ks) (L:=Ld b us us.length * Ld b vs vs.length) λ g hg=>⟨(bsn g (l3 g hg)).1,by
    have:=wt g (l3 g hg);rw[show p.1.toNat=us.length by lia,show p.2.toNat=vs.length by lia]at this;exact this⟩
   rw[l4,er,iP _ (aB (wsK ks).length) (λ y hy=>(PD.mp hy).2),l2,P6]at cw;exact cw
def kwS(ks:QT Kd)(ws:SW):QT Kd:=List.zipWith (λ(k:Kd) c=>%[k.w,k.h,k.wo,c|k.tu]) ks ws
theorem Cv{ks:QT Kd}{ws:SW}{i:Nat}{k:Kd}{c:Int}(hk:ks[i]?=some k)(hc:ws[i]?=some c):(kwS ks ws)[i]?=some %[k.w,k.h,k.wo,c|k.tu]:=by unfold kwS;rw[QE,hk,hc]
theorem yU:∀{ks:QT Kd}{ws:SW},(∀k∈ks,Good k)->ws.length=ks.length->NnB ws->ws.sum<=6->(∀k∈kwS ks ws,Good k)/\SmK ks (kwS ks ws)/\wsK (kwS ks ws)=ws/\∀k∈kwS ks ws,0<=k.wa
 | [],[],_,_,_,_=>⟨λ k h=>(by cases h),.nil,O,λ k h=>(by cases h)⟩
 | k :: ks,c :: ws,hg,hl,nn,s=>by
  have c0:=nn c B9;have n2:NnB ws:=λ x hx=>nn x (B6 _ hx);have s0:=dL n2;rw[M7]at s;obtain⟨i1,i2,i3,i4⟩:=yU (ks:=ks) (ws:=ws) (λ k hk=>hg k (B6 _ hk)) (by simpa using hl) n2 ⋯;have g:=hg k B9;have e60:(6:Int) < 10 ^ 60:=∅
  apply%[λ x hx=>?_,.cons %[O,O|O] i2,?_|λ x hx=>?_]
  ·rcases J4.mp hx with rfl | hx
   ·exact%[g.w,g.h,g.wo,c0,g.w',g.h',g.wo'|by show c < 10 ^ 60;lia]
   ·exact i1 x hx
  ·show c :: wsK (kwS ks ws)=c :: ws;rw[i3]
  ·rcases J4.mp hx with rfl | hx
   ·exact c0
   ·exact i4 x hx
theorem Ef{b:Int}{ks:QT Kd}{p:Int×Int}(b0:0<=b)(p1:1<=p.1)(p2:1<=p.2):(gK b ks p).Nodup:=by rw[pe b0 p p1 p2];exact dM (bY _ _ _ _)
theorem Cw(xs ys:SW):((xs.zip ys).map λ p:Int×Int=>decide (p.1<=p.2)).all id=leB xs ys:=by rw[List.all_map];rfl
theorem AI{K:C6}{t u:QP}{xs ys:SW}{σ:St}{cap:QT Nat}{H:Hp}{Q:QT V->Hp->Prop}(ht:H t= ~~~(bV xs))(hu:H u= ~~~(bV ys))(e1:xs.length=ys.length)(l8:xs.length<=8)
  (q:∀H',Same H H'->Q (((xs.zip ys).map λ p:Int×Int=>decide (p.1<=p.2)).map V.bl) H') :
  ∃W,(∃m,W 0 m [] H)/\eF σ cap 2 (BV t u) (gTup K 2 (gCons (fB 0) (gCons (fB 1) wD))) BE (tOp (rI0 λ i j=>V.bl (decide (i<=j))) (tVar 0) (tVar 1)) Q W:=by
 have l1:(bV xs).length=xs.length:=B5 _;have l2:(bV ys).length=ys.length:=B5 _;have sz:(40000:Nat)<=sizeLine:=∅
 apply dD (xs:=bV xs) (ys:=bV ys) (λ i us Hx=>Same H Hx/\us=(((xs.zip ys).take i).map (λ p:Int×Int=>decide (p.1<=p.2))).map V.bl) ⋯ (λ i us Hx ⟨sx,_⟩=>%[sx _ _ ht|sx _ _ hu]) %[Same.refl _|rfl] (λ i us Hx hi ⟨_,e⟩=>by rw[e,B5,B5,K4];lia) ?_ ?_
 ·rintro i x y p us Hx hx hy hp ⟨sx,rfl⟩;have hin:i < (bV xs).length:=(A7.mp hx).1;obtain⟨x',hx',rfl⟩:=J9.mp (show Option.map V.int xs[i]?=some x by rw[<- J3];exact hx);obtain⟨y',hy',rfl⟩:=J9.mp (show Option.map V.int ys[i]?=some y by rw[<- J3];exact hy);have s1:=G5 hp (o:=.tup [.int x',.int y']);apply%[p,_,O,G6 ah,O,_,_,O,_,_,O,O,hG (leS.set rfl) (leS.set rfl)|aI ?_];apply%[_,O,_,O,_,_,O,O|Nx.of hin %[sx.trans s1|?_]];have hz:(xs.zip ys)[i]?=some (x',y'):=by rw[List.getElem?_zip_eq_some];exact%[hx'|hy']
  rw[K0,hz,K8,J5,J5]
  rfl
 ·rintro us Hx ⟨sx,rfl⟩;rw[l1,K6 (by rw[List.length_zip];lia)];exact%[by rw[B5,B5,List.length_zip];lia|q _ sx]
def tw(K:C6):Sp:=λ vs H Q _=>∃(a:QP)(ns:SW),vs=[.ref a]/\SqL K H a (ns.map V.int)/\ns.length<=63/\∀H',Q (.bl true) H'
def mG:Sp:=λ vs H Q _=>∃(p:QP),vs=[.ref p]/\PotB H p/\∀H',But p H H'->Q (.bl true) H'
theorem scright:FnScope SJ SK (defScope gZ):=nofun
theorem yV{f:QP}{fd:G2}(F:Fun K "_law_right" "_law_right" gZ f fd){C:QP}(B:Blt mg)(T:ShopTxt K C)(han:mg "any" = none)(DD:Dn P w K mg base "_law_draw" Ry 1 (dj))(DSK:Dn P w K mg base "_law_shop_kinds" R6 3 (sQ))(DTR:Dn P w K mg base "_law_tree" SH 14 (ii 11))(DSU:Dn P w K mg base "_law_sum" R4 1 (tj))(DGB:Dn P w K mg base "greatest_bundles" Rc 8 (pi C))(DFO:Dn P w K mg base "fewest_of" Rc 20 (yq C))(DWR:Dn P w K mg base "_law_weighs_right" SI 8 (Ed C))(DSh:Kn P w K mg base "Shop" C RT 3 (qF C)):FnOk P w K mg base CX0 21 f fd SK (mG):=by
 exists scright;obtain⟨p,rfl,pt,q⟩:=h;have hu:=hr.units;have hu1:=C8 (PB (show 1<=64 by decide) _) hu;apply%[_,((@ax _ _ 1 _ _ _ _ nd O (Or.inr O) (@bh _ _ _ _ ((ag|||aX|||(DD∩('0'^^^(ag^^^ae))))^^^((ag|||aX|||(DD∩('0'^^^(ag^^^ae))))^^^ae))) O (Or.inl O))<<<((((DD∩('0'^^^(ag^^^ae)))<*>dB<*>ag)<|>(@ai _ _ _ (@ax _ _ 1 _ _ _ _ nd O (Or.inr O) (@bh _ _ _ _ ((ag|||aX|||(DD∩('0'^^^(ag^^^ae))))^^^((ag|||aX|||(DD∩('0'^^^(ag^^^ae))))^^^ae))) O (Or.inl O)))<|>aE)<<<((@cr _ _ _ _ _ _ '1' (xc O (2•(3•aR))) O O O)<<<((4∣(DSK∩('0'^^^('2'^^^('3'^^^(((@bh _ _ _ _ (ag^^^(ag^^^(ag^^^(ag^^^(ag^^^ae))))))&&&ix_list&&&(DD∩('0'^^^(ag^^^ae))))^^^ae))))))<<<((5∣((@bh _ _ _ _ (ag^^^(ag^^^(ag^^^(ag^^^(ag^^^(ag^^^ae)))))))&&&ix_list&&&(DD∩('0'^^^(ag^^^ae)))))<<<((6∣(@bh _ _ _ _ ((ag|||aX|||(DD∩('0'^^^(ag^^^ae))))^^^ae)))<<<((7∣(@bh _ _ _ _ ae))<<<((@ax _ _ 8 _ _ _ _ nd O (Or.inr O) (@aU _ _ _ _ _ _ _ _ _ aL O B.tuple Qg (((@bh _ _ _ _ (ag^^^ae))|||wV|||(@ay _ _ _ _ _ _ _ _ _ aN O B.len Qn ('4'^^^ae) ∅ ∅ O O))^^^ae) ∅ ∅ O O) O (Or.inl O))<<<((9∣ag)<<<((@bE _ _ _ _ _ _ _ _ E8 O (dv O B.range ((ag|||aX|||(DD∩('0'^^^(ag^^^ae))))^^^ae)) (aj (i:=10) nd O (Or.inl O)) ((@ax _ _ 11 _ _ _ _ nd O (Or.inr O) (DTR∩('0'^^^('5'^^^('4'^^^('2'^^^('3'^^^('6'^^^(ag^^^('7'^^^ae))))))))) O (Or.inl O))<<<((@ax _ _ 8 _ _ _ _ nd O (Or.inr O) (DSU∩('8'^^^(';'^^^ae))) O (Or.inl O))>>>(9∣('9'|||aX|||(@aU _ _ _ _ _ _ _ _ _ tH O B.int PyProof.Rows.boot_int ((@bD _ _ _ _ _ _ _ _ cV (@ay _ _ _ _ _ _ _ _ _ (je O) O B.sum PyProof.Rows.boot_sum (';'^^^ae) ∅ ∅ O O) ag (aA _))^^^ae) ∅ ∅ O O))))) (by intro _;rfl))<<<((@ax _ _ 12 _ _ _ _ nd O (Or.inr O) (Dt DSh (hr.mono ∅) O ('5'^^^((aY (own:=["_law_kind","_law_count"]) (cs:=[]) (cap:=[]) O (xM O B.zip ('4'^^^('8'^^^ae))) (aD (sc:=defScope gZ) (N:=SJ) O O ∅) (λ _ _ _ _ _=>cQ K O O (by show List.Nodup (["_law_kind","_law_count"]:QT Str) ;decide +kernel) O O O O) (λ _ _ _ _ _=>aH) (λ _ _ _ _ _=>(((nY (r:=By K) wS '0' rE (rF ag))|||rP|||(@aJ _ _ _ _ _ ('1'^^^ae)))|||rP|||(nY (r:=By K) wS '0' (rF ag) rE))))^^^ae))) O (Or.inl O))<<<((13∣(DGB∩('<'^^^('2'^^^('3'^^^ae)))))<<<((@bE _ _ _ _ _ _ _ _ E8 O (bC '7') (bn O (14•(15•(ao (aj (i:=11) nd O (Or.inr O)) aR)))) ((16∣(dS hu1 '=' (@aJ _ _ _ _ _ ('>'^^^('?'^^^ae))) (λ _ _=>O)))>>>((@bf _ _ _ _ (@aW _ _ _ (@ay _ _ _ _ _ _ _ _ _ (jf O) O han PyProof.Rows.boot_any ((aY (own:=["_law_bundle"]) (cs:=["_law_counts"]) (cap:=[11]) O (bC '@') (aD (sc:=defScope gZ) (N:=SJ) O O ∅) (λ _ _ _ _ _=>aj (i:=0) (by show List.Nodup (["_law_bundle","_law_counts"]:QT Str) ;decide +kernel) O (Or.inl O) (Or.inr O)) (λ _ _ _ _ _=>aH) (λ _ _ _ _ _=>(@ay _ _ _ _ _ _ _ _ _ (uY K O O) O B.all RG ((aY (own:=["_law_few","_law_most"]) (cs:=[]) (cap:=[]) O (fZ O B.zip ('1'^^^('0'^^^ae))) (aD (N:=["_law_bundle","_law_counts"]) O O (by rfl)) (λ _ _ _ _ _=>cQ K O O (by show List.Nodup (["_law_few","_law_most"]:QT Str) ;decide +kernel) O O O O) (λ _ _ _ _ _=>aH) (λ _ _ _ _ _=>(@bD _ _ _ _ _ _ _ _ fP '0' '1' (aA _))))^^^ae) ∅ ∅ O O)))^^^ae) ∅ ∅ O O) (by intro _;rfl)))<|>(eC⁻¹)<|>aE)) (by intro _;rfl))<<<((@ax _ _ 17 _ _ _ _ nd O (Or.inr O) (DFO∪('<'^^^('2'^^^('3'^^^ae)))) O (Or.inl O))<<<(((PW.pt (cP ('A'<*>jU<*>fL) (cP (('A'&&&ix_tup&&&ag)<*>cV<*>'9') (cC ((@bD _ _ _ _ _ _ _ _ dB ('A'&&&ix_tup&&&ag) ag (aA _))<*>nT<*>(@bD _ _ _ _ _ _ _ _ dB '9' ag (aA _)))))))<|>(eC⁻¹)<|>aE)<<<((@ay _ _ _ _ _ _ _ _ _ (eG O) O B.all RG ((aY (own:=["_law_k"]) (cs:=["_law_pot_here","_law_sides","_law_wanted","_law_shop","_law_found"]) (cap:=[0,1,8,12,17]) O (dv O B.range (ag^^^ae)) (aD (sc:=defScope gZ) (N:=SJ) O O ∅) (λ _ _ _ _ _=>aj (i:=0) (by show List.Nodup (["_law_k","_law_pot_here","_law_sides","_law_wanted","_law_shop","_law_found"]:QT Str) ;decide +kernel) O (Or.inl O) (Or.inr O)) (λ _ _ _ _ _=>aH) (λ _ _ _ _ _=>(DWR∩('1'^^^('4'^^^('2'^^^('3'^^^((aG (r:=rIxT K) ix_tup '5' ag (λ _ _=>O))^^^ae))))))))^^^ae) ∅ ∅ O O)⁻¹))))))))))))))))|?_]
 dsimp only[bL];have z4:100000<=sizeLine:=∅
 have ptn:∀{Hx:Hp}{a:QP}{o:HO},PotB Hx p->Hx a=some o->(∀xs,o≠.lst xs)->a≠p:=λ {Hx a o} px e no z=>by obtain⟨_,_,_,_,_,h⟩:=px;rw[z,h]at e;exact no _ (C0 e).symm
 have tpk:∀{Ha Hb:Hp}{c:QP}{xs:QT V},PotB Ha p->But p Ha Hb->Ha c= ~~~xs->Hb c= ~~~xs:=λ {Ha Hb c xs} pa bb e=>bb _ _ (λ z=>by obtain⟨_,_,_,_,_,h⟩:=pa;rw[z,h]at e;cases e) e;have fr:∀{Hx:Hp}{a:QP},PotB Hx p->Hx a=none->a≠p:=λ {Hx a} px e z=>by obtain⟨_,_,_,_,_,h⟩:=px;rw[z,h]at e;cases e
 apply av (λ R=>∀(sl:QP)(x y:Int)(H':Hp),sl≠p->H' sl=↥[.int x,.int y]->1<=x->x<=8->1<=y->y<=8->PotB H' p->But p H H'->R [↑p,↑sl,none,none,none,none,none,none,none,none,none,none,none,none,none,none,none,none] H') (λ Dd hR=>?_) ?_
 ·apply%[_,O,p,6,O,pt,∅,∅|λ y1 Ha y10 y11 pa ba=>%[_,_,O,O,_,O,p,6,O,pa,∅,∅|λ y2 Hb y20 y21 pb bb=>%[_,_,O,O,zS2|λ sl hsl=>?_]]];apply aK hsl λ H1 k1 s1=>?_;exact hR sl _ _ _ (fr pb hsl) k1 ⋯ ⋯ ⋯ ⋯ (pb.same s1) (λ c o nn e=>s1 _ _ (bb _ _ nn (ba _ _ nn e)))
 rintro sl x y H1 nsp hsl x1 x8 y1 y8 pt1 b1;apply av (λ R=>∀(sl:QP)(x y:Int)(H':Hp),sl≠p->H' sl=↥[.int x,.int y]->1<=x->x<=8->1<=y->y<=8->PotB H' p->But p H H'->R [↑p,↑sl,none,none,none,none,none,none,none,none,none,none,none,none,none,none,none,none] H') (λ Dd hR=>?_) ?_
 ·apply%[_,O,p,16,O,pt1,∅,∅|λ z H2 z0 z1 pt2 b2=>%[O,_,O|?_]];apply bW (λ cc=>?_) (λ cc=>hR sl x y _ nsp (b2 _ _ nsp hsl) x1 x8 y1 y8 pt2 (λ c o nn e=>b2 _ _ nn (b1 _ _ nn e)));apply%[_,O,p,8,O,pt2,∅,∅|λ y1 Ha y10 y11 pa ba=>%[_,_,O,O,_,O,p,8,O,pa,∅,∅|λ y2 Hb y20 y21 pb bb=>%[_,_,O,O,zS2|λ sl hsl=>?_]]];apply aK hsl λ H3 k3 s3=>?_;exact hR sl _ _ _ (fr pb hsl) k3 ⋯ ⋯ ⋯ ⋯ (pb.same s3) (λ c o nn e=>s3 _ _ (bb _ _ nn (ba _ _ nn (b2 _ _ nn (b1 _ _ nn e)))))
 clear nsp hsl x1 x8 y1 y8 pt1 b1;rintro sl x y H2 nsp hsl x1 x8 y1 y8 pt2 b2;obtain⟨m,rfl⟩:∃m:Nat,x=m:=%[x.toNat|(Int.toNat_of_nonneg ⋯).symm]
 obtain⟨n,rfl⟩:∃n:Nat,y=n:=%[y.toNat|(Int.toNat_of_nonneg ⋯).symm]
 apply av (λ R=>R [↑p,↑sl,⇑(m:Int),⇑(n:Int),none,none,none,none,none,none,none,none,none,none,none,none,none,none] H2) (λ Dd hR=>?_) ?_
 ·exact%[_,O,sl,_,O,.inl (G7 hsl),O,_,_,O,_,_,O,O|hR]
 skip
 apply av (λ R=>∀(kl:QP)(rs:QT V)(ks:QT Kd)(H':Hp),kl≠p->H2 kl=none->H' kl=↥rs->Tups H' rs ks->jj ks->1<=ks.length->ks.length<=8->PotB H' p->But p H2 H'->R [↑p,↑sl,⇑(m:Int),⇑(n:Int),↑kl,none,none,none,none,none,none,none,none,none,none,none,none,none] H') (λ Dd hR=>?_) ?_
 ·apply%[_,O,_,O,_,O,zS5|λ l hl=>?_];apply aK hl λ H3 k3 s3=>?_;apply%[_,O,p,5,O,pt2.same s3,∅,∅|λ z H4 z0 z1 pt4 b4=>?_];have nl:l≠p:=fr pt2 hl;have k4:=b4 _ _ nl k3;obtain⟨v,hv,v1,v8⟩:∃v:Nat,([.int 1,.int 2,.int 3,.int 4,.int 8]:QT V)[z.toNat]? = ⇑(v:Int)/\1<=v/\v<=8:=by
   have:z=0\/z=1\/z=2\/z=3\/z=4:=⋯
   rcases this with rfl | rfl | rfl | rfl | rfl
   ·exact%[1,O,∅|∅]
   ·exact%[2,O,∅|∅]
   ·exact%[3,O,∅|∅]
   ·exact%[4,O,∅|∅]
   ·exact%[8,O,∅|∅]
  have b24:But p H2 H4:=λ c o nn e=>b4 _ _ nn (s3 _ _ e);exact%[l,_,z,_,O,O,G7 k4,di z0 hv,p,m,n,v,O,pt4,x1,x8,y1,y8,v8|λ kl rs ks H5 nkp hn hkl tp gw kl' pt5 b5=>hR kl rs ks _ nkp (yQ pt2 b24 pt4 hn) hkl tp gw ⋯ ⋯ pt5 (b24.trans b5)]
 rintro kl rs ks H3 nkp kn2 hkl tp gw kl1 kl8 pt3 b3;apply av (λ R=>∀(b:Int)(H':Hp),0<=b->b<=2->PotB H' p->But p H3 H'->R [↑p,↑sl,⇑(m:Int),⇑(n:Int),↑kl,⇑b,none,none,none,none,none,none,none,none,none,none,none,none] H') (λ Dd hR=>?_) ?_
 ·apply%[zS6|λ l hl=>?_];apply aK hl λ H4 k4 s4=>?_;apply%[_,O,p,6,O,pt3.same s4,∅,∅|λ z H5 z0 z1 pt5 b5=>?_];have k5:=b5 _ _ (fr pt3 hl) k4;obtain⟨v,hv,v0,v2⟩:∃v:Int,([.int 0,.int 0,.int 0,.int 1,.int 1,.int 2]:QT V)[z.toNat]? = ⇑v/\0<=v/\v<=2:=by
   have:z=0\/z=1\/z=2\/z=3\/z=4\/z=5:=⋯
   rcases this with rfl | rfl | rfl | rfl | rfl | rfl
   ·exact%[0,O,∅|∅]
   ·exact%[0,O,∅|∅]
   ·exact%[0,O,∅|∅]
   ·exact%[1,O,∅|∅]
   ·exact%[1,O,∅|∅]
   ·exact%[2,O,∅|∅]
  exact%[l,_,z,_,O,O,G7 k5,di z0 hv|hR v _ v0 v2 pt5 (λ c o nn e=>b5 _ _ nn (s4 _ _ e))]
 rintro b H4 b0 bb2 pt4 b4;apply av (λ R=>∀(g:QP)(bu:Int)(H':Hp),H4 g=none->g≠p->H' g=↥[.int bu]->0<=bu->bu<=6->PotB H' p->But p H4 H'->R [↑p,↑sl,⇑(m:Int),⇑(n:Int),↑kl,⇑b,↑g,none,none,none,none,none,none,none,none,none,none,none] H') (λ Dd hR=>?_) ?_
 ·apply%[_,O,p,6,O,pt4,∅,∅|λ z H5 z0 z1 pt5 b5=>%[_,_,O,O,zS1|λ g hg=>?_]];apply aK hg λ H6 k6 s6=>?_;exact hR g (1+z) _ (yQ pt4 b5 pt5 hg) (fr pt5 hg) k6 ⋯ ⋯ (pt5.same s6) (λ c o nn e=>s6 _ _ (b5 _ _ nn e))
 rintro g bu H5 gn4 ngp hg bu0 bu6 pt5 b5;apply av (λ R=>∀(l:QP)(H':Hp),H5 l=none->H' l=↥[]->Same H5 H'->R [↑p,↑sl,⇑(m:Int),⇑(n:Int),↑kl,⇑b,↑g,↑l,none,none,none,none,none,none,none,none,none,none] H') (λ Dd hR=>?_) ?_
 ·apply%[zS0|λ l hl=>?_];apply aK hl λ H6 k6 s6=>?_;exact hR l _ hl k6 s6
 rintro l H6 ln5 hl s6;have pt6:=pt5.same s6;have nlp:l≠p:=fr pt5 ln5;have b46:But p H4 H6:=λ c o nn e=>s6 _ _ (b5 _ _ nn e);have b36:But p H3 H6:=b4.trans b46;have hkl6:=b36 _ _ nkp hkl;have tp6:Tups H6 rs ks:=Tups.keep (λ c xs e=>tpk pt3 b36 e) tp;have nkg:kl≠g:=λ z=>by rw[z]at hkl;rw[b4 _ _ ngp hkl]at gn4;cases gn4
 have nkl:kl≠l:=λ z=>by rw[z]at hkl;rw[b5 _ _ nlp (b4 _ _ nlp hkl)]at ln5;cases ln5
 have ngl:g≠l:=λ z=>by rw[z]at hg;rw[hg]at ln5;cases ln5
 have hg6:=s6 _ _ hg;have rl:=E7 tp;apply av (λ R=>∀(wt:QP)(H':Hp),H6 wt=none->H' wt= ~~~(bV (aB ks.length))->Same H6 H'->R [↑p,↑sl,⇑(m:Int),⇑(n:Int),↑kl,⇑b,↑g,↑l,↑wt,none,none,none,none,none,none,none,none,none] H') (λ Dd hR=>?_) ?_
 ·apply%[∅|λ c0 hc0=>?_];apply aK hc0 λ H7 k7 s7=>?_;apply%[_,O,kl,_,O,.inl (G7 (s7 _ _ hkl6)),c0,_,_,O,O,k7,⋯,⋯,by show 1 * _<=_;lia|λ cl hcl=>?_];have e:(List.replicate (rs.length:Int).toNat [V.int 0]).flatten=bV (aB ks.length):=by
   rw[rl,M5];generalize ks.length=n
   induction n with
   | zero=>rfl
   | succ n ih=>rw[O8,Pu,ih];rfl
  rw[e];apply aK hcl λ H8 k8 s8=>?_;apply%[cl,_,O|.inl %[G7 k8|λ wt hwt=>hR wt _ (Same.free s7 (Same.free s8 hwt)) ah ((s7.trans s8).trans (G5 hwt))]]
 rintro wt H7 wn6 hwt s7;have pt7:=pt6.same s7;have ksw:(aB ks.length).length=ks.length:=by simp[aB]
 apply bH (λ σ' H'=>σ'=[↑p,↑sl,⇑(m:Int),⇑(n:Int),↑kl,⇑b,↑g,↑l,↑wt,⇑0,none,none,none,none,none,none,none,none]/\H7=H') (λ R hR=>hR _ _ %[rfl|rfl]) ?_;rintro _ _ ⟨rfl,rfl⟩;apply bH (λ σ' H'=>∃(wt:QP)(cs:SX)(ys:QT V)(qs:QT PaQ)(v10 v11:QR V),σ'=[↑p,↑sl,⇑(m:Int),⇑(n:Int),↑kl,⇑b,↑g,↑l,↑wt,⇑(cs.length:Int),v10,v11,none,none,none,none,none,none]/\H' wt= ~~~(bV (dO ks.length cs))/\(∀c∈cs,Ach b ks m n c/\0 < c.sum)/\(dO ks.length cs).sum<=bu/\H' l=↥ys/\Paired (PaR H') ys qs/\(∀q∈qs,OkQ b ks m n (dO ks.length cs) q)/\ys.length<=10000/\PotB H' p/\But3 p g l H7 H') (λ R hR=>?_) ?_
 ·apply%[_,O,p,4,O,pt7,∅,∅|λ z H8 z0 z4' pt8 b8=>%[_,_,O,O,_,O,⋯,⋯|?_]];obtain⟨N,eN⟩:∃N:Nat,(1+z).toNat=N:=%[_|O]
  rw[eN];have N4:N<=4:=⋯
  apply eD (lo:=0) (n:=N) (λ i σ' H'=>∃(wt:QP)(cs:SX)(ys:QT V)(qs:QT PaQ)(v10 v11:QR V),σ'=[↑p,↑sl,⇑(m:Int),⇑(n:Int),↑kl,⇑b,↑g,↑l,↑wt,⇑(cs.length:Int),v10,v11,none,none,none,none,none,none]/\H' wt= ~~~(bV (dO ks.length cs))/\(∀c∈cs,Ach b ks m n c/\0 < c.sum)/\(dO ks.length cs).sum<=bu/\H' g=↥[.int (bu - (dO ks.length cs).sum)]/\H' l=↥ys/\Paired (PaR H') ys qs/\(∀q∈qs,OkQ b ks m n (dO ks.length cs) q)/\ys.length<=i * 2 ^ 11/\PotB H' p/\But3 p g l H7 H') ⟨wt,[],[],[],none,none,rfl,b8 _ _ (fr pt6 wn6) hwt,(λ c h=>by cases h),?_,?_,b8 _ _ nlp (s7 _ _ hl),.nil,(λ q h=>by cases h),F2 _,pt8,λ c o n1 _ _ e=>b8 _ _ n1 e⟩ ?_ (λ σ Hx h9=>by obtain⟨wt,cs,ys,qs,v10,v11,e,h1,h2,h3,_,h5,h6,h7,h8,h9,h10⟩:=h9;exact hR _ _ %[wt,cs,ys,qs,v10,v11,e,h1,h2,h3,h5,h6,h7,⋯,h9|h10])
  ·rw[show(dO ks.length []).sum=0 from eY _];exact bu0
  ·rw[show(dO ks.length []).sum=0 from eY _,Int.sub_zero];exact b8 _ _ ngp (s7 _ _ hg6)
  intro i σ Hx hi hI9;apply br λ G9 k9=>?_;obtain⟨wt',cs,ys,qs,v10,v11,rfl,hwx,hcs,sle,hgx,hlx,pyx,okx,yle,ptx,bx⟩:=hI9;apply k9 ?_;have co:∀c∈cs,c.length=ks.length/\NnB c:=λ c h=>(hcs c h).1.ok;obtain⟨o1,o2⟩:=gG co;have sn:=dL o2;have tpx:Tups Hx rs ks:=Tups.keep (λ c xs e=>bx.tps pt7 %[_|s7 _ _ hg6] %[_|s7 _ _ hl] c xs e) (Tups.keep (λ c xs e=>s7 _ _ e) tp6);apply%[_,O,_,O,_,O,_,O,_,O,_,O,_,O|?_];apply%[p,kl,g,l,b,m,n,10,bu - (dO ks.length cs).sum,rs,ys,ks,qs,O,ptx,nkp,ngp,nlp,nkg,nkl,ngl,bx _ _ nkp nkg nkl (s7 _ _ hkl6),tpx,kl1,kl8,hgx,⋯,⋯,b0,bb2,x1,x8,y1,y8,∅,∅,hlx,pyx,by have:i * 2 ^ 11<=4 * 2 ^ 11:=Nat.mul_le_mul_right _ ⋯;lia|λ a c ys' qs' H9 ha ac cle hg9 hl9 py9 ok9 ql9 pt9 b9=>?_];have tp9:=b9.tps ptx %[_|hgx] %[_|hlx];have nc:=dL ac.ok.2;have e1:=ac.ok.1;apply%[_,O,_,O,wt',a,_,c,O,tp9 _ _ hwx,ha,⋯,⋯|λ w2 H10 hw2 s10=>?_];have ha10:=s10 _ _ ha;apply%[_,O,_,O,a,c,O,G6 ha10,_,_,O,O|.inr %[_,O|?_]];obtain⟨cs',l',e',h'⟩:∃cs':SX,(cs.length:Int)+(if decide (0 < c.sum)=true then 1 else 0)=(cs'.length:Int)/\dO ks.length cs'=bZ (dO ks.length cs) c/\∀c∈cs',Ach b ks m n c/\0 < c.sum:=by
   by_cases h:0 < c.sum
   ·apply%[c :: cs,by rw[Qa (Qb h)];simp,uZ _ _|λ d hd=>?_];rcases J4.mp hd with rfl | hd
    ·exact%[ac|h]
    ·exact hcs d hd
   ·exact%[cs,by rw[QZ (λ z=>h (of_decide_eq_true z))];simp,(vb ⋯ (tm ac.ok.2 ⋯)).symm|hcs]
  apply%[_,_,O,O|?_];rw[l'];have L1:=E7 py9;have L2:=E7 pyx;rw[J7]at L1;apply%[w2,cs',ys',qs ++ qs',_,_,O,by rw[e'];exact hw2,h',by rw[e',gn ⋯];lia,by rw[e',gn ⋯,<- Int.sub_sub];exact s10 _ _ hg9,s10 _ _ hl9,G8 py9 (λ v q h=>h.keep (Same.tps s10)),λ r hr=>?_,by have:(i+1) * 2 ^ 11=i * 2 ^ 11+2 ^ 11:=Nat.succ_mul _ _;lia,pt9.same s10|λ c o n1 n2 n3 e=>s10 _ _ (b9 _ _ n1 n2 n3 (bx _ _ n1 n2 n3 e))];rw[e'];rcases C4.mp hr with h | h
  ·exact(okx r h).up (E9 _) (E9 _) (lj ⋯ ac.ok.2) o1 (by rw[aT ⋯];exact o1)
  ·exact(ok9 r h).up (E9 _) (E9 _) (lm ⋯ o2) e1 (by rw[aT ⋯];exact o1)
 intro _ H8 hI9;apply br λ G9 k9=>?_;obtain⟨wt',cs,ys,qs,v10,v11,rfl,hw8,hcs,sle,hl8,py8,ok8,yle,pt8,b8⟩:=hI9;apply k9 ?_;obtain⟨gk,w6⟩:=gw;have co:∀c∈cs,c.length=ks.length/\NnB c:=λ c h=>(hcs c h).1.ok;obtain⟨o1,o2⟩:=gG co;obtain⟨ws,ews⟩:∃ws,dO ks.length cs=ws:=%[_|O]
 rw[ews]at o1 o2 hw8 sle ok8;have hg7:=s7 _ _ hg6;have hl7:=s7 _ _ hl;have tp78:=b8.tps pt7 %[_|hg7] %[_|hl7];have b08:But p H H8:=λ c o n1 e=>by have e4:=b4 _ _ n1 (b3 _ _ n1 (b2 _ _ n1 e));have e5:=b5 _ _ n1 e4;exact b8 _ _ n1 (λ z=>by rw[z,gn4]at e4;cases e4) (λ z=>by rw[z,ln5]at e5;cases e5) (s7 _ _ (s6 _ _ e5))
 have tp8:Tups H8 rs ks:=Tups.keep (λ c xs e=>tp78 _ _ (s7 _ _ e)) tp6;have hkl8:=b8 _ _ nkp nkg nkl (s7 _ _ hkl6);have e28:∀{c:QP}{o:HO},c≠p->c≠g->c≠l->H6 c=some o->H8 c=some o:=λ n1 n2 n3 e=>b8 _ _ n1 n2 n3 (s7 _ _ e);have nsg:sl≠g:=λ z=>by have e:=b4 _ _ nsp (b3 _ _ nsp hsl);rw[z,gn4]at e;cases e
 have nsl:sl≠l:=λ z=>by have e:=b5 _ _ nsp (b4 _ _ nsp (b3 _ _ nsp hsl));rw[z,ln5]at e;cases e
 have hsl8:=e28 nsp nsg nsl (s6 _ _ (b5 _ _ nsp (b4 _ _ nsp (b3 _ _ nsp hsl))));obtain⟨ks',eks⟩:∃ks',ks'=kwS ks ws:=%[_|O]
 obtain⟨q1,q2,q3,q4⟩:=yU gk o1 o2 (by lia:ws.sum<=6);rw[<- eks]at q1 q2 q3 q4;have klen:ks'.length=ks.length:=(E7 q2).symm;apply av (λ R=>∀(sh:QP)(H':Hp),ShopAt C H' sh b ks'->Same H8 H'->R [↑p,↑sl,⇑(m:Int),⇑(n:Int),↑kl,⇑b,↑g,↑l,↑wt',⇑(cs.length:Int),v10,v11,↑sh,none,none,none,none,none] H') (λ Dd hR=>?_) ?_
 ·apply%[_,O,_,O,_,O,kl,wt',_,_,O,hkl8,hw8|uz false true (xs:=rs) (ys:=bV ws) (λ i zs Hx=>Same H8 Hx/\Tups Hx zs (ks'.take i)) (by rw[bV,B5,o1];exact rl) (λ i zs Hx ⟨sx,_⟩=>%[sx _ _ hkl8|sx _ _ hw8]) %[Same.refl _|.nil] (λ i zs Hx hi ⟨_,tz⟩=>by have:=E7 tz;rw[K4]at this;lia) ?_ ?_]
  ·rintro i x y q0 zs Hx hx hy hq ⟨sx,tz⟩;have hin:=(A7.mp hx).1;obtain⟨k,hk,ka,rfl,hka⟩:=J0 tp8 hx;rw[bV,J3]at hy;obtain⟨cv,hcv,rfl⟩:=J9.mp hy;have hk':ks'[i]?=some %[k.w,k.h,k.wo,cv|k.tu]:=by rw[eks];exact Cv hk hcv
   apply aK hq λ H3 k3 s3=>?_;apply%[q0,_,O,G6 k3,O,_,_,O,_,_,O,O,hG (leS.set rfl) (leS.set rfl)|aI ?_];have hka3:=s3 _ _ (sx _ _ hka);apply%[_,O,_,O,ka,_,O,G6 hka3,(by show¬ (HT.sIx 5 0 none=0/\HT.sIx 5 5 (some 3)=5);decide)|λ t1 ht1=>?_];rw[show nZ (kdV k) none (some 3)=[.int k.w,.int k.h,.int k.wo]from rfl];apply aK ht1 λ H4 k4 s4=>?_;apply%[_,O,zS1|λ t2 ht2=>?_];apply aK ht2 λ H5 k5 s5=>?_;apply%[t1,t2,_,_,O,O,s5 _ _ k4,k5,zS4|λ t3 H6 d6 h6=>?_];have s6':=jm d6;have s36:=(s4.trans s5).trans s6';apply%[_,O,_,O,ka,_,O,G6 (s36 _ _ hka3),(by show¬ (HT.sIx 5 0 (some 4)=0/\HT.sIx 5 5 none=5);decide)|λ t4 ht4=>?_];rw[show nZ (kdV k) (some 4) none=[.bl k.tu]from rfl];apply aK ht4 λ H7 k7 s7=>?_;apply%[t3,t4,_,_,O,O,s7 _ _ h6,k7,zS5|λ t5 H8' d8 h8=>Nx.of hin %[sx.trans (s3.trans ((s36.trans s7).trans (jm d8)))|?_]];rw[K0,hk'];exact Paired.app (Tups.keep (λ c xs e=>jm d8 _ _ (s7 _ _ (s36 _ _ (s3 _ _ e)))) tz) (.cons %[t5,O|by rw[h8];rfl] .nil)
  ·rintro zs Hx ⟨sx,tz⟩;rw[show rs.length=ks'.length by rw[klen];exact rl,M0]at tz;have zl:=E7 tz;apply%[⋯|λ nl hnl=>?_];apply aK hnl λ H9 k9 s9=>?_;refineλ x dx hx hdx ne0=>?_;have sm:Same H9 (upd (upd H9 dx (.own x)) x (.ins C dx [])):=λ c o e=>by rw[am (ak e hx),am (ak e hdx)];exact e
   have e60:(2:Int) < 10 ^ 60:=∅
   apply%[x,dx,nl,b,zs,ks',O,ah,b0,.inl (sm _ _ k9),G8 (Tups.keep (λ c xs e=>sm _ _ (s9 _ _ e)) tz) (λ v k h=>.inl h),q1,⋯,⋯|λ Hb Sb kb=>%[O|?_]];exact hR x _ Sb (λ c o e=>kb c o (ak (s9 _ _ (sx _ _ e)) hx) (sm _ _ (s9 _ _ (sx _ _ e))))
 rintro sh H9 S9 s9;have good:iK b ks':=%[b0,⋯,⋯,q4|by rw[q3];lia]
 have m8:m<=8:=⋯
 have n8:n<=8:=⋯
 apply av (λ R=>∀(ta:QP)(ll:QT ((Int×Int)×V))(H':Hp),H' ta=some (.dT (byP ll))->ll.map (·.1)=aQ m n->((∀q v,(q,v)∈ll->LsA H9 H' v (gK b ks' q)))->Same H9 H'->R [↑p,↑sl,⇑(m:Int),⇑(n:Int),↑kl,⇑b,↑g,↑l,↑wt',⇑(cs.length:Int),v10,v11,↑sh,↑ta,none,none,none,none] H') (λ Dd hR=>?_) ?_
 ·exact%[_,O,_,O,_,O,sh,b,ks',m,n,O,S9,good,⋯,m8,⋯,n8|λ ta ll H' a1 a2 a3 a4 a5=>hR ta ll _ a2 a3 a4 a5]
 rintro ta ll H10 hta el lsa s10;have s8t:=s9.trans s10;have hl10:=s8t _ _ hl8;have py10:Paired (PaR H10) ys qs:=G8 py8 λ v q h=>h.keep (Same.tps s8t);have yll:=E7 py8;apply bH (λ σ' H'=>∃v11 v14 v15 v16:QR V,σ'=[↑p,↑sl,⇑(m:Int),⇑(n:Int),↑kl,⇑b,↑g,↑l,↑wt',⇑(cs.length:Int),v10,v11,↑sh,↑ta,v14,v15,v16,none]/\Same H10 H') (λ R hR=>?_) ?_
 ·apply%[_,O,l,O,%[_|G7 hl10]|cU (xs:=ys) (λ i σ' H'=>∃v11 v14 v15 v16:QR V,σ'=[↑p,↑sl,⇑(m:Int),⇑(n:Int),↑kl,⇑b,↑g,↑l,↑wt',⇑(cs.length:Int),v10,v11,↑sh,↑ta,v14,v15,v16,none]/\Same H10 H') %[v11,none,none,none,O|Same.refl _] (λ i σ Hx _ h9=>by obtain⟨_,_,_,_,_,sx⟩:=h9;exact G7 (sx _ _ hl10)) ?_ (λ σ Hx h=>hR _ _ h)];rintro i v σ Hx hi ⟨v11,v14,v15,v16,rfl,sx⟩;obtain⟨r,hr,tr,ar,rfl,htr,har⟩:=J0 py10 hi;obtain⟨pq,cq⟩:∃pq:Int×Int,pq=(r.1,r.2.1):=%[_|O]
  obtain⟨r1,r2,r3,r4,rac,rle⟩:=ok8 r (B7 hr);have pm:pq∈aQ m n:=by rw[cq];exact partsL_mem.mpr %[%[r1|r2],r3|r4]
  obtain⟨w,hw,mw⟩:=gC (ss:=ll) (by rw[el];exact pm);obtain⟨l',as,rfl,_,hl',ba⟩:=lsa _ _ mw;have rac':=rac.sm q2;obtain⟨gt,hgt,lgt⟩:=sV b0 q4 rac' r1 r3 (by rw[q3];exact rle);have hgt:gt∈gK b ks' pq:=by rw[cq];exact hgt
  apply%[tr,_,O,G6 (sx _ _ htr),O,_,_,O,_,_,O,_,_,O,O|?_];apply bH (λ σ' H'=>σ'=[↑p,↑sl,⇑(m:Int),⇑(n:Int),↑kl,⇑b,↑g,↑l,↑wt',⇑(cs.length:Int),v10,↑ar,↑sh,↑ta,⇑r.1,⇑r.2.1,↑l',none]/\Same H10 H') (λ R' hR'=>?_) ?_
  ·apply%[_,O,_,O,_,O,zS2|λ kt hkt=>?_];apply aK hkt λ H11 k11 s11=>?_;have k11':H11 kt= ~~~((pk pq).map kV):=by rw[cq];exact k11
   exact%[ta,.ref l',O,hw ▸ DGet.t (k:=pk pq) (s11 _ _ (sx _ _ hta)) k11'|hR' _ _ %[O|sx.trans s11]]
  rintro _ Hy ⟨rfl,sy⟩;have hly:=sy _ _ hl';have bay:=ba.keep (Same.tps sy);have hary:=sy _ _ har;have bl:=E7 bay;have gl64:(gK b ks' pq).length<=64:=InB.few (ws0 q4) (by rw[q3];lia) (Ef b0 (by rw[cq];exact r1) (by rw[cq];exact r3)) (λ x hx=>bQ q4 hx);have rlen:r.2.2.length=ks'.length:=rac'.ok.1;apply%[_,O,l',O,%[_|G7 hly]|(bS (K:=K) (.inl hly) (λ i us Hz=>Same Hy Hz/\us=(((gK b ks' pq).take i).map λ d=>leB r.2.2 d).map V.bl) (λ i us Hz _ ⟨sz,_⟩ o h=>sz _ _ h) %[Same.refl _|O] ?_ ?_).1 hly]
  ·rintro j x us Hz hj ⟨sz,rfl⟩;have hin:=(A7.mp hj).1;rw[J3]at hj;obtain⟨ba',hba,rfl⟩:=J9.mp hj;obtain⟨bd,hbd,hbt⟩:=J0 bay hba;have hbz:=sz _ _ hbt;have haz:=sz _ _ hary;have bdl:bd.length=ks'.length:=by rw[(bQ q4 (B7 hbd)).1,B5]
   apply%[by rw[B5,B5,K4];lia,leS.set rfl|aI ?_];apply%[_,O,_,O,ar,ba',_,_,O,haz,hbz|?_];apply AI haz hbz ⋯ ⋯ λ Hw sw cl hcl=>?_;apply%[cl,_,O,G7 ah|?_];rw[Cw];exact Nx.of hin %[sz.trans (sw.trans (G5 hcl))|by rw[K0,hbd,K8,J5,J5];rfl]
  ·rintro us Hz ⟨sz,rfl⟩;rw[show(as.map V.ref).length=(gK b ks' pq).length by rw[B5];exact bl,M0];apply%[by rw[B5,B5];lia|λ cl hcl=>%[cl,_,O,G7 ah|?_]];rw[show(((gK b ks' pq).map λ d=>leB r.2.2 d).any id)=true from O7.mpr %[true,J6.mpr %[gt,hgt|lgt]|O]];exact%[_,O|be %[_,_,_,_,O|sy.trans (sz.trans (G5 hcl))]]
 rintro _ H11 ⟨v11,v14,v15,v16,rfl,s11⟩;have s9b:=s10.trans s11;obtain⟨aw,fle,fz,fw⟩:=vc (p:=((m:Int),(n:Int))) good q1 x1 y1 (cs:=cs) (λ c hc=>%[((hcs c hc).1).sm q2|(hcs c hc).2]) (by rw[klen,q3];exact ews);have fl:=yT good (p:=((m:Int),(n:Int))) x1 y1 aw;have f6:=(nH good (p:=((m:Int),(n:Int))) x1 y1 aw).1;obtain⟨Kf,eK⟩:∃Kf,kY (gK b ks' ((m:Int),(n:Int))) (wsK ks')=Kf:=%[_|O]
 rw[eK]at fle fz fw fl f6;have S11:=S9.keep (λ c xs e=>s9b _ _ e) (λ c C' d fs e=>s9b _ _ e);apply av (λ R=>∀(fo tl:QP)(H':Hp),H' fo= ~~~[.int (Kf:Int),.ref tl]->Same H11 H'->R [↑p,↑sl,⇑(m:Int),⇑(n:Int),↑kl,⇑b,↑g,↑l,↑wt',⇑(cs.length:Int),v10,v11,↑sh,↑ta,v14,v15,v16,↑fo] H') (λ Dd hR=>?_) ?_
 ·exact⟨_,O,_,O,_,O,sh,b,ks',m,n,O,S11,good,⋯,m8,⋯,n8,(λ z=>by rw[aw]at z;cases z),λ _ r tl us H' _ hr _ _ s'=>hR r tl _ (by rw[<- fl];exact hr) s'⟩
 rintro fo tl H12 hfo s12;apply av (λ R=>R [↑p,↑sl,⇑(m:Int),⇑(n:Int),↑kl,⇑b,↑g,↑l,↑wt',⇑(cs.length:Int),v10,v11,↑sh,↑ta,v14,v15,v16,↑fo] H12) (λ Dd hR=>?_) ?_
 ·apply%[_,O,O,_,O|be %[_,O,fo,_,_,_,O,O,G6 hfo,O,_,O,_,_,O,O,_,O|?_]];rw[Qc (show¬ (cs.length:Int) < Kf by lia)];apply be %[_,rfl,fo,_,_,_,rfl,rfl,G6 hfo,rfl,rfl,_,rfl,rfl|?_];apply%[O|?_];rw[show(!decide (V.bl (decide (V.int (Kf:Int)=V.int 0))=V.bl (decide (V.int (cs.length:Int)=V.int 0))))=false by
   have e:(Kf=0)↔(cs.length=0):=%[λ z=>by rw[fz z];rfl|λ z=>⋯]
   by_cases z:Kf=0
   ·rw[z,e.mp z];rfl
   ·rw[Qc (p:=V.int (Kf:Int)=V.int 0) (λ h=>z (by injection h;lia)),Qc (p:=V.int (cs.length:Int)=V.int 0) (λ h=>z (e.mpr (by injection h;lia)))];rfl]
  exact%[_,O|be (hR)]
 skip
 have s8z:Same H8 H12:=λ c o e=>s12 _ _ (s11 _ _ (s8t _ _ e));have hw12:H12 wt'= ~~~(bV (wsK ks')):=by rw[q3];exact s8z _ _ hw8
 have S12:=S11.keep (λ c xs e=>s12 _ _ e) (λ c C' d fs e=>s12 _ _ e);apply%[_,O,∅,∅|?_];apply fX (n:=3) (λ i zs Hx=>zs=(List.replicate i true).map V.bl/\PotB Hx p/\But3 p g l H7 Hx/\But p H12 Hx) %[rfl,pt8.same s8z,λ c o n1 n2 n3 e=>s8z _ _ (b8 _ _ n1 n2 n3 e)|λ _ _ _ e=>e] ?_ ?_
 ·rintro i _ Hx hi ⟨rfl,px,bx7,bx⟩;have hslx:=bx _ _ nsp (s8z _ _ hsl8);have hfx:Hx fo= ~~~[.int (Kf:Int),.ref tl]:=bx _ _ (ptn (pt8.same s8z) hfo (λ xs z=>by cases z)) hfo;have hwx:Hx wt'= ~~~(bV (wsK ks')):=bx _ _ (ptn (pt8.same s8z) hw12 (λ xs z=>by cases z)) hw12;have Sx:ShopAt C Hx sh b ks':=S12.keep (λ c xs e=>bx _ _ (ptn (pt8.same s8z) e (λ xs z=>by cases z)) e) (λ c C' d fs e=>bx _ _ (ptn (pt8.same s8z) e (λ xs z=>by cases z)) e);apply%[by rw[B5,K7];lia,leS.set rfl|aI ?_];apply%[_,O,_,O,_,O,_,O,_,O,fo,_,_,_,O,O,G6 hfx,O,p,sh,sl,wt',b,m,n,ks',Kf,O,px,Sx,b0,bb2,⋯,q1,nsp,hslx,x1,x8,y1,y8,hwx,fw,f6|λ H' p' b'=>Nx.of hi %[?_,p',λ c o n1 n2 n3 e=>b' _ _ n1 (bx7 _ _ n1 n2 n3 e)|bx.trans b']];rw[List.replicate_succ',J5];rfl
 ·rintro _ Hx ⟨rfl,px,bx7,bx⟩;apply%[by rw[B5,K7];lia|λ cl hcl=>%[cl,_,O,G7 ah|?_]];exact q _ λ c o n1 e=>by have e4:=b4 _ _ n1 (b3 _ _ n1 (b2 _ _ n1 e));have e5:=b5 _ _ n1 e4;exact G5 hcl _ _ (bx7 _ _ n1 (λ z=>by rw[z,gn4]at e4;cases e4) (λ z=>by rw[z,ln5]at e5;cases e5) (s7 _ _ (s6 _ _ e5)))
theorem sclaw:FnScope Rv SM (defScope oS):=nofun
theorem Cy{f:QP}{fd:G2}(F:Fun K "law" "law" oS f fd)(B:Blt mg)(DCE:Dn P w K mg base "_law_cell" Rv 1 (xt K))(DP:Dn P w K mg base "_law_pot" Rx 1 (xu))(DR:Dn P w K mg base "_law_right" SK 21 (mG)):FnOk P w K mg base CX0 22 f fd SM (tw K):=by
 exists sclaw;obtain⟨a,ns,rfl,hS,n63,q⟩:=h;apply%[_,((@bE _ _ _ _ _ _ _ _ E8 O (dv O B.range (((@ay _ _ _ _ _ _ _ _ _ (eE O) O B.min RF ((@ay _ _ _ _ _ _ _ _ _ aN O B.len Qn ('0'^^^ae) ∅ ∅ O O)^^^(ag^^^ae)) ∅ ∅ O O)|||aX|||ag)^^^ae)) (aj (i:=1) nd O (Or.inl O)) (@ai _ _ _ ((@bf _ _ _ _ (@aW _ _ _ (DR∪((DP∩((DCE∩('0'^^^('1'^^^ae)))^^^ae))^^^ae)) (by intro _;rfl)))<|>(eC⁻¹)<|>aE)) (by intro _;rfl))<<<(eC⁻¹))|?_];dsimp only[bL];have hl:(ns.map V.int).length=ns.length:=B5 _;apply bH (λ σ' H'=>∃v1:QR V,σ'=[↑a,v1]/\Same H H') (λ R hR=>?_) ?_
 ·apply%[_,O,a,_,O,.inl hS,_,_,O,_,_,O,O,_,O,?_,?_|?_]
  ·rw[hl];split <;> lia
  ·rw[hl];split <;> lia
  apply eD (lo:=0) (λ i σ' H'=>∃v1:QR V,σ'=[↑a,v1]/\Same H H') %[none,rfl|Same.refl _] ?_ (λ σ Hx h=>hR _ _ h);rintro i σ Hx hi ⟨v1,rfl,sx⟩;apply%[_,O,_,O,a,ns,_,O,Same.seq sx hS,⋯|λ c=>?_];apply%[c,O|λ p H1 hp pt s1=>?_];apply%[p,O,pt|λ H2 b2=>%[_,O|be %[_,O|λ b o e=>b2 _ _ (ak (sx _ _ e) hp) (s1 _ _ (sx _ _ e))]]]
 rintro _ H1 ⟨v1,rfl,s1⟩;exact q H1
end
theorem MF{α:Type}{us:QT α}(h:us.length=1):∃a,us=[a]:=by
 match us,h with
 | [a],_=>exact%[a|O]
theorem Cz{α:Type}{us:QT α}(h:us.length=2):∃a b,us=[a,b]:=by
 match us,h with
 | [a,b],_=>exact%[a,b|O]
theorem yW{α:Type}{us:QT α}(h:us.length=3):∃a b c,us=[a,b,c]:=by
 match us,h with
 | [a,b,c],_=>exact%[a,b,c|O]
theorem MG{α:Type}{us:QT α}(h:us.length=4):∃a b c d,us=[a,b,c,d]:=by
 match us,h with
 | [a,b,c,d],_=>exact%[a,b,c,d|O]
theorem MH{α:Type}{us:QT α}(h:us.length=5):∃a b c d e,us=[a,b,c,d,e]:=by
 match us,h with
 | [a,b,c,d,e],_=>exact%[a,b,c,d,e|O]
abbrev DI(K:C6)(n:Str)(st:Stmt)(f:QP):Prop:=∃(od an:QR QP)(sl:QS (QR G4))(oc kV dc pm cd ct:G4),PySem.W.nsIn K QU n=some (↑f)/\K.lookup f=some %[oc,od,.func (F0 n n (defArgs st) (defBody st) (defScope st) .none kV dc pm an cd ct)|sl]/\PySem.W.codeIn K cd n=true/\PySem.W.keepIn K (.ref f)=true
abbrev MI(K:C6)(C:QP)(n q:Str)(st:Stmt)(f:QP):Prop:=∃(od an:QR QP)(sl:QS (QR G4))(oc kV dc pm cd ct:G4),PySem.W.findIn K (.ref C) n=some (↑f)/\PySem.W.isFn K (.ref f)=true/\K.lookup f=some %[oc,od,.func (F0 n q (defArgs st) (defBody st) (defScope st) .none kV dc pm an cd ct)|sl]/\PySem.W.codeIn K cd q=true/\PySem.W.keepIn K (.ref f)=true
theorem diM{K:C6}{n:Str}{st:Stmt}{f:QP}{od an:QR QP}{sl:QS (QR G4)}{oc kV dc pm cd ct:G4}(a:PySem.W.nsIn K QU n=some (↑f))(l:K.lookup f=some %[oc,od,.func (F0 n n (defArgs st) (defBody st) (defScope st) .none kV dc pm an cd ct)|sl])(c:PySem.W.codeIn K cd n=true)(k:PySem.W.keepIn K (.ref f)=true):DI K n st f:=%[_,_,_,_,_,_,_,_,_,a,l,c|k]
theorem miM{K:C6}{C:QP}{n q:Str}{st:Stmt}{f:QP}{od an:QR QP}{sl:QS (QR G4)}{oc kV dc pm cd ct:G4}(a:PySem.W.findIn K (.ref C) n=some (↑f))(i:PySem.W.isFn K (.ref f)=true)(l:K.lookup f=some %[oc,od,.func (F0 n q (defArgs st) (defBody st) (defScope st) .none kV dc pm an cd ct)|sl])(c:PySem.W.codeIn K cd q=true)(k:PySem.W.keepIn K (.ref f)=true):MI K C n q st f:=%[_,_,_,_,_,_,_,_,_,a,i,l,c|k]
abbrev fnS(n q:Str)(st:Stmt)(kV dc pm:G4)(an:QR QP)(cd ct:G4):G2:=F0 n q (defArgs st) (defBody st) (defScope st) .none kV dc pm an cd ct
abbrev HBd(n q:Str)(st:Stmt)(ps:QT Str):Prop:=∀(kV dc pm:G4)(an:QR QP)(cd ct:G4)(us:QT G4),us.length=ps.length->bindArgs (fnS n q st kV dc pm an cd ct) %[us|[]]=pure (ps.zip us)
inductive DE(K:C6)(mg:Str->QR Value)(n:Str)(st:Stmt)(f:QP)(ps:QT Str):Prop
|mk(fd:G2)(F:Fun K n n st f fd)(b:Binds K fd ps [])(k:PySem.W.keepIn K (.ref f)=true)(q:mg n=↑f)
theorem diE{K:C6}{h:Heap}{mg:Str->QR G4}{n:Str}{st:Stmt}{f:QP}(X:K.In h)(G:h.Ns QU mg)(d:DI K n st f)(ps:QT Str)(hb:HBd n n st ps):DE K mg n st f ps:=by obtain⟨_,_,_,_,_,_,_,_,_,a,l,c,k⟩:=d;have F:=qy (st:=st) l c k;exact%[_,F,F.binds hb,k|PySem.W.mg_of X G a]
inductive ME(K:C6)(C:QP)(n q:Str)(st:Stmt)(f:QP)(ps:QT Str):Prop
|mk(fd:G2)(F:Fun K n q st f fd)(b:Binds K fd ps [])(k:PySem.W.keepIn K (.ref f)=true)(a:PySem.W.findIn K (.ref C) n=some (↑f))(i:PySem.W.isFn K (.ref f)=true)
theorem miE{K:C6}{C:QP}{n q:Str}{st:Stmt}{f:QP}(d:MI K C n q st f)(ps:QT Str)(hb:HBd n q st ps):ME K C n q st f ps:=by obtain⟨_,_,_,_,_,_,_,_,_,a,i,l,c,k⟩:=d;have F:=qy (st:=st) l c k;exact%[_,F,F.binds hb,k,a|i]
theorem dnA{P:G1}{w:G3}{K:C6}{h:Heap}{mg:Str->QR G4}{base:Heap}(X:K.In h)(G:h.Ns QU mg){n:Str}{st:Stmt}{f:QP}(d:DI K n st f)(ps:QT Str)(hb:HBd n n st ps){k:Nat}{sp:Sp}(ok:∀fd:G2,Fun K n n st f fd->(∀ {k:Nat} {sp:Sp},FnOk P w K mg base CX0 k f fd ps sp->Dn P w K mg base n ps k sp)->FnOk P w K mg base CX0 k f fd ps sp):Dn P w K mg base n ps k sp:=by obtain⟨_,F,b,k,q⟩:=diE X G d ps hb;exact%[_,_,ok _ F λ h=>%[_,_,h,b,k|q],b,k|q]
theorem bd1{n q:Str}{st:Stmt}{a:Str}(h:∀ (kV dc pm:G4) (an:QR QP) (cd ct ua:G4),bindArgs (fnS n q st kV dc pm an cd ct) %[[ua]|[]]=pure [(a,ua)]:=by intros;rfl):HBd n q st [a]:=by intro _ _ _ _ _ _ us hl;obtain⟨_,rfl⟩:=MF hl;exact h _ _ _ _ _ _ _
theorem bd2{n q:Str}{st:Stmt}{a b:Str}(h:∀ (kV dc pm:G4) (an:QR QP) (cd ct ua ub:G4),bindArgs (fnS n q st kV dc pm an cd ct) %[[ua,ub]|[]]=pure [(a,ua),(b,ub)]:=by intros;rfl):HBd n q st [a,b]:=by intro _ _ _ _ _ _ us hl;obtain⟨_,_,rfl⟩:=Cz hl;exact h _ _ _ _ _ _ _ _
theorem bd3{n q:Str}{st:Stmt}{a b c:Str}(h:∀ (kV dc pm:G4) (an:QR QP) (cd ct ua ub uc:G4),bindArgs (fnS n q st kV dc pm an cd ct) %[[ua,ub,uc]|[]]=pure [(a,ua),(b,ub),(c,uc)]:=by intros;rfl):HBd n q st [a,b,c]:=by intro _ _ _ _ _ _ us hl;obtain⟨_,_,_,rfl⟩:=yW hl;exact h _ _ _ _ _ _ _ _ _
theorem bd4{n q:Str}{st:Stmt}{a b c d:Str}(h:∀ (kV dc pm:G4) (an:QR QP) (cd ct ua ub uc ud:G4),bindArgs (fnS n q st kV dc pm an cd ct) %[[ua,ub,uc,ud]|[]]=pure [(a,ua),(b,ub),(c,uc),(d,ud)]:=by intros;rfl):HBd n q st [a,b,c,d]:=by intro _ _ _ _ _ _ us hl;obtain⟨_,_,_,_,rfl⟩:=MG hl;exact h _ _ _ _ _ _ _ _ _ _
theorem bd5{n q:Str}{st:Stmt}{a b c d e:Str}(h:∀ (kV dc pm:G4) (an:QR QP) (cd ct ua ub uc ud ue:G4),bindArgs (fnS n q st kV dc pm an cd ct) %[[ua,ub,uc,ud,ue]|[]]=pure [(a,ua),(b,ub),(c,uc),(d,ud),(e,ue)]:=by intros;rfl):HBd n q st [a,b,c,d,e]:=by intro _ _ _ _ _ _ us hl;obtain⟨_,_,_,_,_,rfl⟩:=MH hl;exact h _ _ _ _ _ _ _ _ _ _ _
theorem lx7{α:Type}{us:QT α}(h:us.length=7):∃a b c d e f g,us=[a,b,c,d,e,f,g]:=by
 match us,h with
 | [a,b,c,d,e,f,g],_=>exact%[a,b,c,d,e,f,g|O]
theorem bd7{n q:Str}{st:Stmt}{a b c d e f g:Str}(h:∀ (kV dc pm:G4) (an:QR QP) (cd ct ua ub uc ud ue uf ug:G4),bindArgs (fnS n q st kV dc pm an cd ct) %[[ua,ub,uc,ud,ue,uf,ug]|[]]=pure [(a,ua),(b,ub),(c,uc),(d,ud),(e,ue),(f,uf),(g,ug)]:=by intros;rfl):HBd n q st [a,b,c,d,e,f,g]:=by intro _ _ _ _ _ _ us hl;obtain⟨_,_,_,_,_,_,_,rfl⟩:=lx7 hl;exact h _ _ _ _ _ _ _ _ _ _ _ _ _
theorem lx8{α:Type}{us:QT α}(h:us.length=8):∃a b c d e f g i,us=[a,b,c,d,e,f,g,i]:=by
 match us,h with
 | [a,b,c,d,e,f,g,i],_=>exact%[a,b,c,d,e,f,g,i|O]
theorem bd8{n q:Str}{st:Stmt}{a b c d e f g i:Str}(h:∀ (kV dc pm:G4) (an:QR QP) (cd ct ua ub uc ud ue uf ug ui:G4),bindArgs (fnS n q st kV dc pm an cd ct) %[[ua,ub,uc,ud,ue,uf,ug,ui]|[]]=pure [(a,ua),(b,ub),(c,uc),(d,ud),(e,ue),(f,uf),(g,ug),(i,ui)]:=by intros;rfl):HBd n q st [a,b,c,d,e,f,g,i]:=by intro _ _ _ _ _ _ us hl;obtain⟨_,_,_,_,_,_,_,_,rfl⟩:=lx8 hl;exact h _ _ _ _ _ _ _ _ _ _ _ _ _ _
open PySem.W in
theorem all_mk{l:OpenLaw}{w:G3}{K:Frag}{h:Heap}{mg:Str->QR G4}{fa f0 f1 f2 f3 f4 f5 f6 f7 f8 f9 f10 f11 f12 f13 f14 f15 f16 f17 f18 f19 f20 f21 f22 f23 f24 f25 f26 f27 f28 f29 f30 f31 f32 f33 f34 f35 f36 f37 f38 f39 f40 f41 f42 f43 f44 f45 f46 f47 f48 C fm0 fm1 fm2 fm3 fm4 fm5 fm6:QP}(X:K.In h)(G:h.Ns QU mg)(hfa:mg "law" = ↑fa)
  {tc0:Tok} {tc1:Tok} {tc2:Tok} {tc3:Tok} {tc4:Tok} {tc5:Tok} {tc6:Tok} {tc7:Tok} {tc8:Tok} {tc9:Tok}
  (d0:DI K "is_whole" nA f0)
  (d1:DI K "is_truth" nC f1)
  (d2:DI K "is_row" Ae f2)
  (d3:DI K "is_kind" jI f3)
  (d4:DI K "can_lie_turned" jJ f4)
  (d5:DI K "check_plate" dU f5)
  (d6:DI K "check_sides" dW f6)
  (d7:DI K "lies_in" jH f7)
  (d8:DI K "lyings_in" eO f8)
  (d9:DI K "parts_up_to" dE f9)
  (d10:DI K "cut_parts" gz f10)
  (d11:DI K "cuts_of" fe f11)
  (d12:DI K "check_small" dX f12)
  (d13:DI K "bundle_of_one" cK f13)
  (d14:DI K "joined" iC f14)
  (d15:DI K "is_lesser" eP f15)
  (d16:DI K "greatest_alone" bF f16)
  (d17:DI K "steps_of_part" cL f17)
  (d18:DI K "greatest_steps" cM f18)
  (d19:DI K "greatest_bundles" bG f19)
  (d20:DI K "common" iD f20)
  (d21:DI K "without" gb f21)
  (d22:DI K "all_wanted_fit" bM f22)
  (d23:DI K "fewest_bundles" bT f23)
  (d24:DI K "tree_by_bundle" bN f24)
  (d25:DI K "fewest_of" gA f25)
  (d26:DI K "is_weights" dF f26)
  (d27:DI K "best_length" dZ f27)
  (d28:DI K "lengths_by_steps" cj f28)
  (d29:DI K "load_of" jK f29)
  (d30:DI K "check_weights" cS f30)
  (d31:DI K "kind_weights" cN f31)
  (d32:DI K "plate_load" fm f32)
  (d33:DI K "plates_by_weights" bX f33)
  (d34:DI K "_law_cell" sE f34)
  (d35:DI K "_law_pot" Af f35)
  (d36:DI K "_law_draw" sG f36)
  (d37:DI K "_law_lain" sH f37)
  (d38:DI K "_law_fits" oQ f38)
  (d39:DI K "_law_size" sI f39)
  (d40:DI K "_law_shop_kinds" ed f40)
  (d41:DI K "_law_sum" xO f41)
  (d42:DI K "_law_place" nD f42)
  (d43:DI K "_law_leaf" oR f43)
  (d44:DI K "_law_tree" lY f44)
  (d45:DI K "_law_weights" gc f45)
  (d46:DI K "_law_weighs_right" dq f46)
  (d47:DI K "_law_right" gZ f47)
  (d48:DI K "law" oS f48)
  (aC:nsIn K QU "Shop" = some (↑C))
  (dm0:MI K C "__init__" "Shop.__init__" eQ fm0)
  (dm1:MI K C "blade" "Shop.blade" ff fm1)
  (dm2:MI K C "kinds" "Shop.kinds" fg fm2)
  (dm3:MI K C "wanted" "Shop.wanted" cX fm3)
  (dm4:MI K C "lyings" "Shop.lyings" dY fm4)
  (dm5:MI K C "is_lying" "Shop.is_lying" dk fm5)
  (dm6:MI K C "sides" "Shop.sides" fk fm6)
  (pg:plainGet K C Str.empty=true)
  (hd:hasDictIn K C=true)
  (po:plainOver K C=true)
  (sa:findIn K (.ref C) "__setattr__" = some (some (.builtin "object.__setattr__")))
  (mk:makesIn K C=true)
  (kc:keepIn K (.ref C)=true)
  (n0:findIn K (.ref C) "blade_width" = some none)
  (n1:findIn K (.ref C) "kind_rows" = some none)
  (z0:nsIn K QU "isinstance" = some none)
  (z1:nsIn K QU "int" = some none)
  (z2:nsIn K QU "bool" = some none)
  (z3:nsIn K QU "list" = some none)
  (z4:nsIn K QU "tuple" = some none)
  (z5:nsIn K QU "len" = some none)
  (z6:nsIn K QU "range" = some none)
  (z7:nsIn K QU "max" = some none)
  (z8:nsIn K QU "min" = some none)
  (z9:nsIn K QU "abs" = some none)
  (z10:nsIn K QU "divmod" = some none)
  (z11:nsIn K QU "sum" = some none)
  (z12:nsIn K QU "sorted" = some none)
  (z13:nsIn K QU "all" = some none)
  (z14:nsIn K QU "repr" = some none)
  (z15:nsIn K QU "zip" = some none)
  (z16:nsIn K QU "enumerate" = some none)
  (z17:nsIn K QU "str" = some none)
  (z18:nsIn K QU "any" = some none)
  (uc0:nsIn K QU "MOST_KINDS" = some (some (.int 8 tc0)))
  (uc1:nsIn K QU "THINGS_OF_A_KIND" = some (some (.int 5 tc1)))
  (uc2:nsIn K QU "DOWN" = some (some (.str "down" tc2)))
  (uc3:nsIn K QU "REST" = some (some (.str "rest" tc3)))
  (uc4:nsIn K QU "PIECE" = some (some (.str "piece" tc4)))
  (uc5:nsIn K QU "ACROSS" = some (some (.str "across" tc5)))
  (uc6:nsIn K QU "MOST_SIDE_bundles" = some (some (.int 8 tc6)))
  (uc7:nsIn K QU "MOST_WANTED" = some (some (.int 6 tc7)))
  (uc8:nsIn K QU "MOST_WEIGHTS" = some (some (.int 60 tc8)))
  (uc9:nsIn K QU "MOST_SIDE_weighing" = some (some (.int 60 tc9))) :
  ∃fd:G2,(∀(s:G0)(v:G4),BindsTo s fd %[[v]|[]] [("_law_script",v)])/\∀base:Heap,K.In base->base.Ns QU mg->FnOk l.prog w K mg base CX0 22 fa fd SM (tw K):=by
 obtain⟨_,an,_,_,kV,dc,pm,cd,ct,a48,l48,c48,k48⟩:=d48;have F48:=qy (st:=oS) l48 c48 k48;obtain⟨_,Fm0,bm0,km0,am0,im0⟩:=miE dm0 RT (bd3 λ _ _ _ _ _ _ _ _ _=>rfl);obtain⟨_,Fm1,bm1,km1,am1,im1⟩:=miE dm1 RV (bd1 λ _ _ _ _ _ _ _=>rfl);obtain⟨_,Fm2,bm2,km2,am2,im2⟩:=miE dm2 RV (bd1 λ _ _ _ _ _ _ _=>rfl);obtain⟨_,Fm3,bm3,km3,am3,im3⟩:=miE dm3 RV (bd1 λ _ _ _ _ _ _ _=>rfl);obtain⟨_,Fm4,bm4,km4,am4,im4⟩:=miE dm4 RV (bd1 λ _ _ _ _ _ _ _=>rfl);obtain⟨_,Fm5,bm5,km5,am5,im5⟩:=miE dm5 RW (bd3 λ _ _ _ _ _ _ _ _ _=>rfl);obtain⟨_,Fm6,bm6,km6,am6,im6⟩:=miE dm6 RW (bd3 λ _ _ _ _ _ _ _ _ _=>rfl);have e:=hfa.symm.trans (mg_of X G a48);cases e;have y0:=mg_none_of X G z0;have y1:=mg_none_of X G z1;have y2:=mg_none_of X G z2;have y3:=mg_none_of X G z3;have y4:=mg_none_of X G z4;have y5:=mg_none_of X G z5;have y6:=mg_none_of X G z6;have y7:=mg_none_of X G z7;have y8:=mg_none_of X G z8;have y9:=mg_none_of X G z9;have y10:=mg_none_of X G z10;have y11:=mg_none_of X G z11;have y12:=mg_none_of X G z12;have y13:=mg_none_of X G z13;have y14:=mg_none_of X G z14;have y15:=mg_none_of X G z15;have y16:=mg_none_of X G z16;have y17:=mg_none_of X G z17;have y18:=mg_none_of X G z18;have u0:=mg_of X G uc0;have u1:=mg_of X G uc1;have u2:=mg_of X G uc2;have u3:=mg_of X G uc3;have u4:=mg_of X G uc4;have u5:=mg_of X G uc5;have u6:=mg_of X G uc6;have u7:=mg_of X G uc7;have u8:=mg_of X G uc8;have u9:=mg_of X G uc9;have qC:=mg_of X G aC;apply%[fnOf "law" "law" (defArgs oS) (defBody oS) (defScope oS) .none kV dc pm an cd ct,λ s v=>.of_eq rfl|λ base _ _=>?_];have dA:=@dnA l.prog w K h mg base X G;have B:Blt mg:=%[y0,y1,y2,y3,y4,y5,y6,y7,y8,y9,y10,y11,y12,y13,y14,y15,y16,%[_|u0]|%[_|u1]]
 have T:ShopTxt K C:=%[%[pg,hd,po|sa],n0|n1]
 have ZB:BeC mg:=%[%[_|u2],%[_|u3],%[_|u4]|%[_|u5]]
 have D0:=dA d0 RP bd2 λ _ F _=>xP F B;have D1:=dA d1 RQ bd1 λ _ F _=>xQ F B;have D2:=dA d2 RQ bd1 λ _ F _=>BY F B;have D3:=dA d3 RQ bd1 λ _ F _=>uA F B D0 D1 D2;have D4:=dA d4 RU bd1 λ _ F _=>uB F;have MB:Mn l.prog w K mg base C "blade" RV 1 (jF C):=%[_,_,xR Fm1 T,bm1|%[am1,im1|km1]]
 have MK:Mn l.prog w K mg base C "kinds" RV 1 (mW C):=%[_,_,xS Fm2 T y3,bm2|%[am2,im2|km2]]
 have MW:Mn l.prog w K mg base C "wanted" RV 1 (dG C):=%[_,_,uK Fm3 B T,bm3|%[am3,im3|km3]]
 have ML:Mn l.prog w K mg base C "lyings" RV 2 (kn C):=%[_,_,uC Fm4 T y16 D4,bm4|%[am4,im4|km4]]
 have MI:Mn l.prog w K mg base C "is_lying" RW 2 (gx K C):=%[_,_,qV Fm5 B T D0 D1 D4,bm5|%[am5,im5|km5]]
 have MS:Mn l.prog w K mg base C "sides" RW 3 (spSides K C):=%[_,_,xV Fm6 T MI,bm6|%[am6,im6|km6]]
 have DS:Kn l.prog w K mg base "Shop" C RT 3 (qF C):=%[_,_,%[mk,am0,im0|kc],Ai Fm0 B T D0 D2 D3,bm0|qC]
 have D5:=dA d5 RX bd2 λ _ F _=>uF F D0;have D6:=dA d6 RY bd3 λ _ F _=>uG F;have D7:=dA d7 RZ bd7 λ _ F _=>Al F T D0 MI MS;have D8:=dA d8 Ra bd2 λ _ F _=>An F T ML D7;have D9:=dA d9 RX bd2 λ _ F _=>xW F B;have D10:=dA d10 Re bd4 λ _ F _=>uH F ZB;have D11:=dA d11 Rg bd2 λ _ F _=>Ao F B ZB D10;have D12:=dA d12 Rc bd3 λ _ F _=>uL F B T %[_|u6] %[_|u7] MW D5 D6;have D13:=dA d13 Rh bd2 λ _ F _=>Ap F B;have D14:=dA d14 Ri bd3 λ _ F _=>uI F B;have D15:=dA d15 Rj bd2 λ _ F _=>uJ F B;have D16:=dA d16 Rm bd1 λ _ F _=>yh F B y18 D15;have D17:=dA d17 Ro bd3 λ _ F _=>yi F B ZB T MW MB D8 D13 D14 D11;have D18:=dA d18 Rc bd3 λ _ F _=>uQ F B D9 D17 D16;have D19:=dA d19 Rc bd3 λ _ F _=>uR F B D12 D18;have D20:=dA d20 Rj bd2 λ _ F _=>As F B;have D21:=dA d21 Rp bd2 λ _ F _=>ym F B;have D22:=dA d22 Rr bd2 λ _ F _=>Cc F B T MW D8;have D23:=dA d23 Rt bd2 λ _ F _=>At F B D21;have D24:=dA d24 Ru bd4 λ _ F m=>sO F B ZB D20 D21 (λ n h=>m h) 17;have D25:=dA d25 Rc bd3 λ _ F _=>Aw F B T MW D12 D22 D18 D23 D20 D21 D24;have D26:=dA d26 RQ bd1 λ _ F _=>Cg F B %[_|u8] D0 D2;have D27:=dA d27 R7 bd4 λ _ F _=>AB F B;have D28:=dA d28 R8 bd3 λ _ F _=>AC F B;have D29:=dA d29 R9 bd3 λ _ F _=>AD F B D0 D26 D27 D28;have D30:=dA d30 SA bd4 λ _ F _=>pO F B %[_|u9] D5 D6 D26;have D31:=dA d31 SC bd5 λ _ F _=>pP F B T D30 MK MS D8;have D32:=dA d32 SC bd5 λ _ F _=>yF F T D30 MB D29;have D33:=dA d33 SC bd5 λ _ F _=>Cn F B T D31 D32 MW;have D34:=dA d34 Rv bd2 λ _ F _=>Ax F B;have D35:=dA d35 Rx bd1 λ _ F _=>Ce F B;have D36:=dA d36 Ry bd2 λ _ F _=>Ay F B;have D37:=dA d37 Rz bd1 λ _ F _=>Az F B;have D38:=dA d38 R3 bd3 λ _ F _=>yu F B y18 D37;have D39:=dA d39 R5 bd2 λ _ F _=>AA F B D36;have D40:=dA d40 R6 bd4 λ _ F _=>yv F B D36 D39;have D41:=dA d41 R4 bd2 λ _ F _=>AH F B;have D42:=dA d42 SD bd3 λ _ F _=>uW F B D36;have D43:=dA d43 SF bd5 λ _ F _=>yO F B D36 D38;have D44:=dA d44 SH bd8 λ _ F m=>mF F B D36 D42 D43 D41 (λ n h=>m h) 11;have D45:=dA d45 Ry bd2 λ _ F _=>yP F B D36;have D46:=dA d46 SI bd5 λ _ F _=>Ee F B T D45 D31 D32 D33;have D47:=dA d47 SK bd1 λ _ F _=>yV F B T y18 D36 D40 D44 D41 D19 D25 D46 DS;exact Cy F48 B D34 D35 D47
theorem walk{l:PySem.W.OpenLaw}{q:G1}{loose:QT Str}{XP:(Str->QR G4)->Heap->Prop}{YP:G3->Heap->Prop}{d:DefRec}{K:Params->C6}(hn:l.most=some 63)(hdf:d.params.defaults=[])
  (hY:∀(w:G3)(h:Heap),YP w h->(K w.params).In h)
  (F:∀(w:G3)(mg:Str->QR G4)(fa:QP)(h:Heap),(K w.params).In h->h.Ns QU mg->mg d.name=↑fa ->
   ∃fd:G2,(∀(s:G0)(u:G4),BindsTo s fd %[[u]|[]] [("_law_script",u)])/\∀base:Heap,(K w.params).In base->base.Ns QU mg->FnOk l.prog w (K w.params) mg base CX0 22 fa fd SM (tw (K w.params))) :
  PySem.W.WalkO q loose XP YP l.row.toRowW d [] (λ f vs=>PySem.call f vs) :=
 L2.walk_of (n:=63) (k:=22) (x := "_law_script") (CX:=λ _=>CX0) (sp:=λ w=>tw (K w.params)) hn ∅ hdf %[rfl,∅,∅|rfl] hY F (λ _ _ a ns hl _ hS=>%[a,ns,O,hS,hl|λ _=>rfl]) λ _ _ _ _ _ z=>z
end Pc
namespace Pc
open PySem L2
section
open PySem.W
def kE(P:Params)(n:Str)(t:Nat)(v:G4):DictEntry:=%[PyData.keyHash P n,.str n t|v]
def kO3(P:Params):Obj:=%[(.type "dict"),none,(.dict #[kE P "__name__" 165 (.str "law_platecuts_k73_whole_drawn_trees_borne" 755),kE P "__doc__" 166 .none,kE P "__package__" 167 .none,kE P "__loader__" 168 (.builtin "__main__.__loader__#opaque"),kE P "__spec__" 169 .none,kE P "__annotations__" 170 (.ref 6),kE P "__builtins__" 171 (.ref 4),kE P "__file__" 173 (.str "/claim/cut.py" 172),kE P "__cached__" 174 .none,kE P "PlateError" 206 (.ref 24),kE P "NoBlade" 222 (.ref 37),kE P "NoKinds" 238 (.ref 49),kE P "NoKind" 254 (.ref 61),kE P "NoLying" 270 (.ref 73),kE P "NoPlate" 286 (.ref 85),kE P "TooLarge" 302 (.ref 97),kE P "NoNumber" 318 (.ref 109),kE P "NoWeights" 334 (.ref 121),kE P "is_whole" 344 (.ref 130),kE P "is_truth" 351 (.ref 137),kE P "is_row" 358 (.ref 144),kE P "check_plate" 366 (.ref 151),kE P "check_sides" 375 (.ref 158),kE P "DOWN" 379 (.str "down" 378),kE P "ACROSS" 381 (.str "across" 380),kE P "lies_in" 396 (.ref 165),kE P "lyings_in" 402 (.ref 170),kE P "cut_parts" 414 (.ref 177),kE P "cuts_of" 420 (.ref 182),kE P "parts_up_to" 426 (.ref 187),kE P "REST" 428 (.str "rest" 427),kE P "PIECE" 430 (.str "piece" 429),kE P "MOST_SIDE_bundles" 434 (.int 8 433),kE P "MOST_WANTED" 436 (.int 6 435),kE P "check_small" 445 (.ref 194),kE P "bundle_of_one" 451 (.ref 199),kE P "joined" 457 (.ref 204),kE P "is_lesser" 463 (.ref 209),kE P "steps_of_part" 469 (.ref 214),kE P "greatest_alone" 475 (.ref 219),kE P "greatest_steps" 486 (.ref 226),kE P "greatest_bundles" 492 (.ref 231),kE P "common" 500 (.ref 236),kE P "without" 506 (.ref 241),kE P "all_wanted_fit" 512 (.ref 246),kE P "fewest_bundles" 518 (.ref 251),kE P "tree_by_bundle" 538 (.ref 258),kE P "fewest_of" 553 (.ref 265),kE P "MOST_KINDS" 557 (.int 8 556),kE P "THINGS_OF_A_KIND" 559 (.int 5 558),kE P "is_kind" 571 (.ref 272),kE P "can_lie_turned" 578 (.ref 279),kE P "Shop" 655 (.ref 334),kE P "MOST_WEIGHTS" 659 (.int 60 658),kE P "is_weights" 665 (.ref 343),kE P "best_length" 680 (.ref 350),kE P "lengths_by_steps" 691 (.ref 357),kE P "load_of" 705 (.ref 364),kE P "MOST_SIDE_weighing" 709 (.int 60 708),kE P "check_weights" 721 (.ref 371),kE P "kind_weights" 727 (.ref 376),kE P "plate_load" 738 (.ref 383),kE P "plates_by_weights" 754 (.ref 390),kE P "_law_cell" 764 (.ref 397),kE P "_law_pot" 771 (.ref 404),kE P "_law_draw" 780 (.ref 411),kE P "_law_lain" 792 (.ref 418),kE P "_law_fits" 798 (.ref 423),kE P "_law_size" 806 (.ref 430),kE P "_law_shop_kinds" 821 (.ref 437),kE P "_law_sum" 827 (.ref 442),kE P "_law_place" 836 (.ref 449),kE P "_law_leaf" 842 (.ref 454),kE P "_law_tree" 861 (.ref 461),kE P "_law_weights" 867 (.ref 466),kE P "_law_weighs_right" 884 (.ref 473),kE P "_law_right" 890 (.ref 478),kE P "law" 898 (.ref 485)] 78)|#[]]
def MJ(P:Params):Obj:=%[(.type "dict"),none,(.dict #[kE P "__module__" 196 (.str "platecuts.errors" 187),kE P "__firstlineno__" 200 (.int 2 199),kE P "__static_attributes__" 201 (.ref 22),kE P "__weakref__" 203 (.ref 25),kE P "__doc__" 204 .none] 3)|#[]]
def MN(P:Params):Obj:=%[(.type "type"),none,(.cls %["PlateError",[.type "ValueError"],[.ref 24,.type "ValueError",.type "Exception",.type "BaseException",.type "object"],23,"PlateError",true,[],[.ref 37,.ref 49,.ref 61,.ref 73,.ref 85,.ref 97,.ref 109,.ref 121],false,none|false])|#[↑15,none,some (.str "PlateError" 189),some (.str "PlateError" 197),some (.builtin "ValueError.__new__"),some (.bool true)]]
def gk0(x0 x1 x2 x3 x4 x5 x6:Nat)(P:Params):Obj:=%[(.type "dict"),none,(.dict #[kE P "__module__" x0 (.str "platecuts.errors" 187),kE P "__firstlineno__" x1 (.int x2 x3),kE P "__static_attributes__" x4 (.ref x5),kE P "__doc__" x6 .none] 2)|#[]]
def MO:=gk0 214 218 4 217 219 35 220
def gk1(x0:Str)(x1 x2 x3 x4 x5:Nat)(P:Params):Obj:=%[(.type "type"),none,(.cls %[x0,[.ref 24],[.ref x1,.ref 24,.type "ValueError",.type "Exception",.type "BaseException",.type "object"],x2,x0,true,[],[],false,none|false])|#[↑x3,none,some (.str x0 x4),some (.str x0 x5),some (.builtin "ValueError.__new__"),some (.bool true)]]
def MP:=gk1 "NoBlade" 37 36 28 207 215
def MQ:=gk0 230 234 6 233 235 47 236
def MR:=gk1 "NoKinds" 49 48 40 223 231
def MT:=gk0 246 250 8 249 251 59 252
def MU:=gk1 "NoKind" 61 60 52 239 247
def MV:=gk0 262 266 10 265 267 71 268
def MX:=gk1 "NoLying" 73 72 64 255 263
def MY:=gk0 278 282 12 281 283 83 284
def MZ:=gk1 "NoPlate" 85 84 76 271 279
def Na:=gk0 294 298 14 297 299 95 300
def Nb:=gk1 "TooLarge" 97 96 88 287 295
def Eg:=gk0 310 314 16 313 315 107 316
def Eh:=gk1 "NoNumber" 109 108 100 303 311
def Ei:=gk0 326 330 18 329 331 119 332
def Ej:=gk1 "NoWeights" 121 120 112 319 327
def gk2(x0:Str)(x1:Nat)(x2:Str)(x3 x4 x5 x6 x7 x8 x9 x10 x11 x12 x13:Nat)(P:Params):Obj:=%[(.type "code"),none,(.fields #[.str x0 x1,.str x2 x3,.str "/claim/cut.py" x4,.int x5 0,.int x6 0,.int 0 0,.int 0 0,.int 3 0,.ref x7,.bool true,.int 181 0,.ref x8,.none,.ref x9,.ref x10,.ref x11,.int x12 0,.int x5 0,.str "/claim/cut.py" x13])|#[]]
def Ek:=gk2 "is_whole" 337 "is_whole" 338 339 21 2 124 125 126 127 128 342 343
def gk3(x0 x1:Str)(x2:Stmt)(x3:Str)(x4 x5:Nat)(P:Params):Obj:=%[(.type "function"),none,(.func (fnOf x0 x1 (defArgs x2) (defBody x2) (defScope x2) .none .none .none (.str x3 x4) none (.ref x5) .none))|#[]]
def SN(a:Str)(c:Stmt)(k:Nat):=gk3 a a c "platecuts.checks" 335 k
def SO(a:Str)(c:Stmt)(k:Nat):=gk3 a a c "platecuts.parts" 376 k
def SQ(a:Str)(c:Stmt)(k:Nat):=gk3 a a c "platecuts.bundles" 431 k
def SR(a:Str)(c:Stmt)(k:Nat):=gk3 a a c "platecuts.fewest" 493 k
def SS(a:Str)(c:Stmt)(k:Nat):=gk3 a a c "platecuts.loads" 656 k
def SU(a:Str)(c:Stmt)(k:Nat):=gk3 a a c "platecuts.weighing" 706 k
def SV(a:Str)(c:Stmt)(k:Nat):=gk3 a a c "law_platecuts_k73_whole_drawn_trees_borne" 755 k
def El:=SN "is_whole" nA 129
def Em:=gk2 "is_truth" 345 "is_truth" 346 347 23 1 131 132 133 134 135 349 350
def En:=SN "is_truth" nC 136
def Eo:=gk2 "is_row" 352 "is_row" 353 354 25 1 138 139 140 141 142 356 357
def Ep:=SN "is_row" Ae 143
def Er:=gk2 "check_plate" 359 "check_plate" 360 361 27 2 145 146 147 148 149 364 365
def Es:=SN "check_plate" dU 150
def Et:=gk2 "check_sides" 367 "check_sides" 368 369 30 3 152 153 154 155 156 373 374
def Eu:=SN "check_sides" dW 157
def Ev:=gk2 "lies_in" 382 "lies_in" 383 384 36 7 159 160 161 162 163 394 395
def Ew:=SO "lies_in" jH 164
def gk4(x0:Str)(x1:Nat)(x2:Str)(x3 x4 x5 x6 x7 x8 x9 x10 x11:Nat)(P:Params):Obj:=%[(.type "code"),none,(.fields #[.str x0 x1,.str x2 x3,.str "/claim/cut.py" x4,.int x5 0,.int x6 0,.int 0 0,.int 0 0,.int 3 0,.ref x7,.bool true,.int 181 0,.ref x8,.none,.none,.none,.ref x9,.int x10 0,.int x5 0,.str "/claim/cut.py" x11])|#[]]
def Ex:=gk4 "lyings_in" 397 "lyings_in" 398 399 41 2 166 167 168 400 401
def Ey:=SO "lyings_in" eO 169
def Ez:=gk2 "cut_parts" 403 "cut_parts" 404 405 44 4 171 172 173 174 175 412 413
def EA:=SO "cut_parts" gz 176
def EB:=gk4 "cuts_of" 415 "cuts_of" 416 417 49 2 178 179 180 418 419
def EC:=SO "cuts_of" fe 181
def ED:=gk4 "parts_up_to" 421 "parts_up_to" 422 423 53 2 183 184 185 424 425
def EE:=SO "parts_up_to" dE 186
def EF:=gk2 "check_small" 437 "check_small" 438 439 60 3 188 189 190 191 192 443 444
def EG:=SQ "check_small" dX 193
def EH:=gk4 "bundle_of_one" 446 "bundle_of_one" 447 448 65 2 195 196 197 449 450
def EI:=SQ "bundle_of_one" cK 198
def EJ:=gk4 "joined" 452 "joined" 453 454 67 3 200 201 202 455 456
def EK:=SQ "joined" iC 203
def EL:=gk4 "is_lesser" 458 "is_lesser" 459 460 69 2 205 206 207 461 462
def EM:=SQ "is_lesser" eP 208
def EN:=gk4 "steps_of_part" 464 "steps_of_part" 465 466 71 3 210 211 212 467 468
def EO:=SQ "steps_of_part" cL 213
def EQ:=gk4 "greatest_alone" 470 "greatest_alone" 471 472 82 1 215 216 217 473 474
def ER:=SQ "greatest_alone" bF 218
def ES:=gk2 "greatest_steps" 476 "greatest_steps" 477 478 85 3 220 221 222 223 224 484 485
def ET:=SQ "greatest_steps" cM 225
def EU:=gk4 "greatest_bundles" 487 "greatest_bundles" 488 489 90 3 227 228 229 490 491
def EV:=SQ "greatest_bundles" bG 230
def EW:=gk4 "common" 495 "common" 496 497 95 2 232 233 234 498 499
def EX:=SR "common" iD 235
def EY:=gk4 "without" 501 "without" 502 503 97 2 237 238 239 504 505
def EZ:=SR "without" gb 240
def Fa:=gk4 "all_wanted_fit" 507 "all_wanted_fit" 508 509 99 2 242 243 244 510 511
def Fb:=SR "all_wanted_fit" bM 245
def Fc:=gk4 "fewest_bundles" 513 "fewest_bundles" 514 515 102 2 247 248 249 516 517
def Fd:=SR "fewest_bundles" bT 250
def Fe:=gk2 "tree_by_bundle" 519 "tree_by_bundle" 520 521 112 4 252 253 254 255 256 536 537
def Ff:=SR "tree_by_bundle" bN 257
def Fg:=gk2 "fewest_of" 539 "fewest_of" 540 541 123 3 259 260 261 262 263 551 552
def Fh:=SR "fewest_of" gA 264
def Fi:=gk2 "is_kind" 560 "is_kind" 561 562 139 1 266 267 268 269 270 569 570
def Fj:=gk3 "is_kind" "is_kind" jI "platecuts.shops" 554 271
def Fk:=gk2 "can_lie_turned" 572 "can_lie_turned" 573 574 146 1 273 274 275 276 277 576 577
def Fl:=gk3 "can_lie_turned" "can_lie_turned" jJ "platecuts.shops" 554 278
def Fm:=gk4 "__init__" 591 "Shop.__init__" 592 593 150 3 287 288 289 594 595
def Fn:=gk3 "__init__" "Shop.__init__" eQ "platecuts.shops" 554 290
def Fo:=gk2 "blade" 597 "Shop.blade" 598 599 161 1 292 293 294 295 296 601 602
def Fp:=gk3 "blade" "Shop.blade" ff "platecuts.shops" 554 297
def Fq:=gk2 "kinds" 604 "Shop.kinds" 605 606 164 1 299 300 301 302 303 608 609
def Fs:=gk3 "kinds" "Shop.kinds" fg "platecuts.shops" 554 304
def Ft:=gk4 "wanted" 611 "Shop.wanted" 612 613 167 1 306 307 308 614 615
def Fu:=gk3 "wanted" "Shop.wanted" cX "platecuts.shops" 554 309
def Fv:=gk2 "lyings" 617 "Shop.lyings" 618 619 170 1 311 312 313 314 315 624 625
def Fw:=gk3 "lyings" "Shop.lyings" dY "platecuts.shops" 554 316
def Fx:=gk2 "is_lying" 627 "Shop.is_lying" 628 629 178 3 318 319 320 321 322 633 634
def Fy:=gk3 "is_lying" "Shop.is_lying" dk "platecuts.shops" 554 323
def Fz:=gk2 "sides" 636 "Shop.sides" 637 638 183 3 325 326 327 328 329 643 644
def FA:=gk3 "sides" "Shop.sides" fk "platecuts.shops" 554 330
def FB(P:Params):Obj:=%[(.type "dict"),none,(.dict #[kE P "__module__" 586 (.str "platecuts.shops" 554),kE P "__firstlineno__" 590 (.int 148 589),kE P "__init__" 596 (.ref 291),kE P "blade" 603 (.ref 298),kE P "kinds" 610 (.ref 305),kE P "wanted" 616 (.ref 310),kE P "lyings" 626 (.ref 317),kE P "is_lying" 635 (.ref 324),kE P "sides" 645 (.ref 331),kE P "__static_attributes__" 648 (.ref 332),kE P "__dict__" 650 (.ref 335),kE P "__weakref__" 652 (.ref 336),kE P "__doc__" 653 .none] 4)|#[]]
def FC(P:Params):Obj:=%[(.type "type"),none,(.cls %["Shop",[.type "object"],[.ref 334,.type "object"],333,"Shop",true,[],[],false,none|false])|#[none,none,some (.str "Shop" 579),some (.str "Shop" 587),some (.builtin "object.__new__"),some (.bool true)]]
def FE:=gk4 "is_weights" 660 "is_weights" 661 662 192 1 339 340 341 663 664
def FF:=SS "is_weights" dF 342
def FG:=gk2 "best_length" 666 "best_length" 667 668 196 4 344 345 346 347 348 678 679
def FH:=SS "best_length" dZ 349
def FI:=gk2 "lengths_by_steps" 681 "lengths_by_steps" 682 683 204 3 351 352 353 354 355 689 690
def FJ:=SS "lengths_by_steps" cj 356
def FK:=gk2 "load_of" 692 "load_of" 693 694 211 3 358 359 360 361 362 703 704
def FL:=SS "load_of" jK 363
def FM:=gk2 "check_weights" 710 "check_weights" 711 712 227 4 365 366 367 368 369 719 720
def FN:=SU "check_weights" cS 370
def FO:=gk4 "kind_weights" 722 "kind_weights" 723 724 233 5 372 373 374 725 726
def FP:=SU "kind_weights" cN 375
def FQ:=gk2 "plate_load" 728 "plate_load" 729 730 242 5 377 378 379 380 381 736 737
def FR:=SU "plate_load" fm 382
def FS:=gk2 "plates_by_weights" 739 "plates_by_weights" 740 741 245 5 384 385 386 387 388 752 753
def FT:=SU "plates_by_weights" bX 389
def FU:=gk2 "_law_cell" 757 "_law_cell" 758 759 258 2 391 392 393 394 395 762 763
def FV:=SV "_law_cell" sE 396
def FW:=gk2 "_law_pot" 765 "_law_pot" 766 767 262 1 398 399 400 401 402 769 770
def FX:=SV "_law_pot" Af 403
def FY:=gk2 "_law_draw" 772 "_law_draw" 773 774 264 2 405 406 407 408 409 778 779
def FZ:=SV "_law_draw" sG 410
def Ga:=gk2 "_law_lain" 781 "_law_lain" 782 783 270 1 412 413 414 415 416 790 791
def Gb:=SV "_law_lain" sH 417
def Gc:=gk4 "_law_fits" 793 "_law_fits" 794 795 275 3 419 420 421 796 797
def Gd:=SV "_law_fits" oQ 422
def Ge:=gk2 "_law_size" 799 "_law_size" 800 801 277 2 424 425 426 427 428 804 805
def Gf:=SV "_law_size" sI 429
def Gg:=gk2 "_law_shop_kinds" 807 "_law_shop_kinds" 808 809 281 4 431 432 433 434 435 819 820
def Gh:=SV "_law_shop_kinds" ed 436
def Gi:=gk4 "_law_sum" 822 "_law_sum" 823 824 290 2 438 439 440 825 826
def Gj:=SV "_law_sum" xO 441
def Gk:=gk2 "_law_place" 828 "_law_place" 829 830 292 3 443 444 445 446 447 834 835
def Gm:=SV "_law_place" nD 448
def Gn:=gk4 "_law_leaf" 837 "_law_leaf" 838 839 296 5 450 451 452 840 841
def Go:=SV "_law_leaf" oR 453
def Gp:=gk2 "_law_tree" 843 "_law_tree" 844 845 303 8 455 456 457 458 459 859 860
def Gq:=SV "_law_tree" lY 460
def Gr:=gk4 "_law_weights" 862 "_law_weights" 863 864 316 2 462 463 464 865 866
def Gs:=SV "_law_weights" gc 465
def Gu:=gk2 "_law_weighs_right" 868 "_law_weighs_right" 869 870 319 5 467 468 469 470 471 882 883
def Gv:=SV "_law_weighs_right" dq 472
def Gw:=gk4 "_law_right" 885 "_law_right" 886 887 331 1 474 475 476 888 889
def Gx:=SV "_law_right" gZ 477
def Gy:=gk2 "law" 891 "law" 892 893 356 1 479 480 481 482 483 896 897
def Gz:=SV "law" oS 484
def kK:Params->Frag:=λ P=>3∘kO3 :: 23∘MJ :: 24∘MN :: 36∘MO :: 37∘MP :: 48∘MQ :: 49∘MR :: 60∘MT :: 61∘MU :: 72∘MV :: 73∘MX :: 84∘MY :: 85∘MZ :: 96∘Na :: 97∘Nb :: 108∘Eg :: 109∘Eh :: 120∘Ei :: 121∘Ej :: 129∘Ek :: 130∘El :: 136∘Em :: 137∘En :: 143∘Eo :: 144∘Ep :: 150∘Er :: 151∘Es :: 157∘Et :: 158∘Eu :: 164∘Ev :: 165∘Ew :: 169∘Ex :: 170∘Ey :: 176∘Ez :: 177∘EA :: 181∘EB :: 182∘EC :: 186∘ED :: 187∘EE :: 193∘EF :: 194∘EG :: 198∘EH :: 199∘EI :: 203∘EJ :: 204∘EK :: 208∘EL :: 209∘EM :: 213∘EN :: 214∘EO :: 218∘EQ :: 219∘ER :: 225∘ES :: 226∘ET :: 230∘EU :: 231∘EV :: 235∘EW :: 236∘EX :: 240∘EY :: 241∘EZ :: 245∘Fa :: 246∘Fb :: 250∘Fc :: 251∘Fd :: 257∘Fe :: 258∘Ff :: 264∘Fg :: 265∘Fh :: 271∘Fi :: 272∘Fj :: 278∘Fk :: 279∘Fl :: 290∘Fm :: 291∘Fn :: 297∘Fo :: 298∘Fp :: 304∘Fq :: 305∘Fs :: 309∘Ft :: 310∘Fu :: 316∘Fv :: 317∘Fw :: 323∘Fx :: 324∘Fy :: 330∘Fz :: 331∘FA :: 333∘FB :: 334∘FC :: 342∘FE :: 343∘FF :: 349∘FG :: 350∘FH :: 356∘FI :: 357∘FJ :: 363∘FK :: 364∘FL :: 370∘FM :: 371∘FN :: 375∘FO :: 376∘FP :: 382∘FQ :: 383∘FR :: 389∘FS :: 390∘FT :: 396∘FU :: 397∘FV :: 403∘FW :: 404∘FX :: 410∘FY :: 411∘FZ :: 417∘Ga :: 418∘Gb :: 422∘Gc :: 423∘Gd :: 429∘Ge :: 430∘Gf :: 436∘Gg :: 437∘Gh :: 441∘Gi :: 442∘Gj :: 448∘Gk :: 449∘Gm :: 453∘Gn :: 454∘Go :: 460∘Gp :: 461∘Gq :: 465∘Gr :: 466∘Gs :: 472∘Gu :: 473∘Gv :: 477∘Gw :: 478∘Gx :: 484∘Gy :: 485∘Gz :: []
end
end Pc
abbrev PySem.W.Fast.tw17805306369872665705:PySem.Program:=PySem.Challenge.pw_platecuts_k73_whole_drawn_trees_borne
theorem PySem.W.Fast.te17805306369872665705:PySem.Challenge.pw_platecuts_k73_whole_drawn_trees_borne=PySem.W.Fast.tw17805306369872665705:=rfl
namespace Hd
open PySem PySem.W
def S0:Str:="__name__"
def S2:Str:="__doc__"
def S3:Str:="__package__"
def S4:Str:="__loader__"
def S5:Str:="__spec__"
def Nc:Str:="__main__"
def Nd:Str:="__annotations__"
def Nf:Str:="__builtins__"
def Ng:Str:="__file__"
def rm:Str:=%[|%[|[47,99,108,97,105,109,47,99,117,116,46,112,121]]]
def Nh:Str:="__cached__"
def Ni:Str:="<module>"
def gJ:Str:="law_platecuts_k73_whole_drawn_trees_borne"
def pY:Str:="PlateError"
def yX:Str:="NoBlade"
def yY:Str:="NoKinds"
def yZ:Str:="NoKind"
def za:Str:="NoLying"
def zb:Str:="NoPlate"
def zc:Str:="TooLarge"
def zd:Str:="NoNumber"
def ze:Str:="NoWeights"
def vd:Str:="is_whole"
def ve:Str:="is_truth"
def vf:Str:="is_row"
def vg:Str:="check_plate"
def vh:Str:="check_sides"
def GA:Str:="DOWN"
def Nj:Str:="down"
def GB:Str:="ACROSS"
def Nk:Str:="across"
def vi:Str:="lies_in"
def vj:Str:="lyings_in"
def vk:Str:="cut_parts"
def vm:Str:="cuts_of"
def vn:Str:="parts_up_to"
def GC:Str:="REST"
def Nl:Str:="rest"
def GD:Str:="PIECE"
def Nm:Str:="piece"
def GE:Str:="MOST_SIDE_bundles"
def GF:Str:="MOST_WANTED"
def vo:Str:="check_small"
def vp:Str:="bundle_of_one"
def vq:Str:="joined"
def vw:Str:="is_lesser"
def vy:Str:="steps_of_part"
def vz:Str:="greatest_alone"
def vA:Str:="greatest_steps"
def vB:Str:="greatest_bundles"
def vC:Str:="common"
def vD:Str:="without"
def vE:Str:="all_wanted_fit"
def vF:Str:="fewest_bundles"
def vG:Str:="tree_by_bundle"
def vH:Str:="fewest_of"
def GG:Str:="MOST_KINDS"
def GH:Str:="THINGS_OF_A_KIND"
def vI:Str:="is_kind"
def vJ:Str:="can_lie_turned"
def pZ:Str:="Shop"
def GI:Str:="MOST_WEIGHTS"
def vK:Str:="is_weights"
def vL:Str:="best_length"
def vM:Str:="lengths_by_steps"
def vN:Str:="load_of"
def GJ:Str:="MOST_SIDE_weighing"
def vO:Str:="check_weights"
def vP:Str:="kind_weights"
def vQ:Str:="plate_load"
def vR:Str:="plates_by_weights"
def vS:Str:="_law_cell"
def vT:Str:="_law_pot"
def vU:Str:="_law_draw"
def vV:Str:="_law_lain"
def vW:Str:="_law_fits"
def vX:Str:="_law_size"
def vY:Str:="_law_shop_kinds"
def vZ:Str:="_law_sum"
def wc:Str:="_law_place"
def wd:Str:="_law_leaf"
def we:Str:="_law_tree"
def wf:Str:="_law_weights"
def wg:Str:="_law_weighs_right"
def wj:Str:="_law_right"
def zf:Str:="law"
def zg:Str:="__module__"
def jD:Str:="platecuts.errors"
def GK:Str:="__qualname__"
def zh:Str:="__firstlineno__"
def zi:Str:="__static_attributes__"
def CA:Str:="__weakref__"
def AJ:Str:="thing"
def Nn:Str:="least"
def zj:Str:="platecuts.checks"
def lp:Str:="wide"
def lq:Str:="high"
def No:Str:="most"
def wq:Str:="shop"
def zk:Str:="kind"
def CB:Str:="turned"
def Np:Str:="x"
def Nq:Str:="y"
def Nr:Str:="piece_wide"
def Nt:Str:="piece_high"
def zo:Str:="platecuts.parts"
def nO:Str:="blade"
def CC:Str:="part"
def GL:Str:="way"
def GM:Str:="p"
def qb:Str:="platecuts.bundles"
def CD:Str:="found"
def wr:Str:="platecuts.fewest"
def GN:Str:="greatest"
def GO:Str:="bundle"
def Nu:Str:="step"
def GP:Str:="first"
def Nv:Str:="first_greatest"
def Nw:Str:="second"
def Ny:Str:="second_greatest"
def Nz:Str:="ahead"
def GQ:Str:="behind"
def NA:Str:="first_tree"
def NB:Str:="plate"
def NC:Str:="missing"
def ND:Str:="trees"
def NE:Str:="worth"
def wu:Str:="wanted"
def NF:Str:="turns"
def ww:Str:="platecuts.shops"
def zp:Str:="__init__"
def zq:Str:="kinds"
def zr:Str:="lyings"
def zt:Str:="is_lying"
def zu:Str:="sides"
def CF:Str:="Shop.__init__"
def AK:Str:="self"
def CG:Str:="Shop.blade"
def CI:Str:="Shop.kinds"
def CJ:Str:="Shop.wanted"
def NG:Str:="told"
def NH:Str:="number"
def CK:Str:="Shop.lyings"
def CL:Str:="Shop.is_lying"
def NI:Str:="row"
def CM:Str:="Shop.sides"
def NJ:Str:="blade_width"
def NK:Str:="kind_rows"
def GS:Str:="__dict__"
def AL:Str:="platecuts.loads"
def AM:Str:="weights"
def GT:Str:="loads"
def AN:Str:="side"
def CN:Str:="load"
def CO:Str:="length"
def NL:Str:="together"
def GU:Str:="steps"
def NM:Str:="lengths"
def NO:Str:="reach"
def CP:Str:="u"
def CQ:Str:="v"
def AO:Str:="platecuts.weighing"
def NP:Str:="whole"
def NQ:Str:="many"
def NR:Str:="weight"
def GV:Str:="_law_script"
def CS:Str:="_law_k"
def NS:Str:="_law_cell_here"
def wx:Str:="_law_pot_here"
def CT:Str:="_law_many"
def NT:Str:="_law_digit"
def NU:Str:="_law_kind"
def CU:Str:="_law_wide"
def CV:Str:="_law_high"
def GW:Str:="_law_worth"
def CW:Str:="_law_wanted"
def NV:Str:="_law_turns"
def NW:Str:="_law_most"
def NX:Str:="_law_found"
def NY:Str:="_law_left"
def GX:Str:="_law_blade"
def NZ:Str:="_law_side"
def Oa:Str:="_law_kinds"
def Ob:Str:="_law_budget"
def Oc:Str:="_law_deep"
def Od:Str:="_law_parts"
def Oe:Str:="_law_places"
def Of:Str:="_law_way"
def Og:Str:="_law_counts"
def Oh:Str:="_law_place_here"
def GY:Str:="_law_sides"
def Oi:Str:="_law_shop"
def Oj:Str:="_law_plates"
def Ol:Str:="_law_u"
def Om:Str:="_law_v"
def On:Str:="_law_total"
def Oo:Str:="_law_own"
def Op:Str:="_law_by_weights"
abbrev HK:Hook:=kHook Pc.kK [nat_lit 3,nat_lit 23,nat_lit 24,nat_lit 36,nat_lit 37,nat_lit 48,nat_lit 49,nat_lit 60,nat_lit 61,nat_lit 72,nat_lit 73,nat_lit 84,nat_lit 85,nat_lit 96,nat_lit 97,nat_lit 108,nat_lit 109,nat_lit 120,nat_lit 121,nat_lit 129,nat_lit 130,nat_lit 136,nat_lit 137,nat_lit 143,nat_lit 144,nat_lit 150,nat_lit 151,nat_lit 157,nat_lit 158,nat_lit 164,nat_lit 165,nat_lit 169,nat_lit 170,nat_lit 176,nat_lit 177,nat_lit 181,nat_lit 182,nat_lit 186,nat_lit 187,nat_lit 193,nat_lit 194,nat_lit 198,nat_lit 199,nat_lit 203,nat_lit 204,nat_lit 208,nat_lit 209,nat_lit 213,nat_lit 214,nat_lit 218,nat_lit 219,nat_lit 225,nat_lit 226,nat_lit 230,nat_lit 231,nat_lit 235,nat_lit 236,nat_lit 240,nat_lit 241,nat_lit 245,nat_lit 246,nat_lit 250,nat_lit 251,nat_lit 257,nat_lit 258,nat_lit 264,nat_lit 265,nat_lit 271,nat_lit 272,nat_lit 278,nat_lit 279,nat_lit 290,nat_lit 291,nat_lit 297,nat_lit 298,nat_lit 304,nat_lit 305,nat_lit 309,nat_lit 310,nat_lit 316,nat_lit 317,nat_lit 323,nat_lit 324,nat_lit 330,nat_lit 331,nat_lit 333,nat_lit 334,nat_lit 342,nat_lit 343,nat_lit 349,nat_lit 350,nat_lit 356,nat_lit 357,nat_lit 363,nat_lit 364,nat_lit 370,nat_lit 371,nat_lit 375,nat_lit 376,nat_lit 382,nat_lit 383,nat_lit 389,nat_lit 390,nat_lit 396,nat_lit 397,nat_lit 403,nat_lit 404,nat_lit 410,nat_lit 411,nat_lit 417,nat_lit 418,nat_lit 422,nat_lit 423,nat_lit 429,nat_lit 430,nat_lit 436,nat_lit 437,nat_lit 441,nat_lit 442,nat_lit 448,nat_lit 449,nat_lit 453,nat_lit 454,nat_lit 460,nat_lit 461,nat_lit 465,nat_lit 466,nat_lit 472,nat_lit 473,nat_lit 477,nat_lit 478,nat_lit 484,nat_lit 485] (λ _=>by kernel_rfl)
abbrev pt:G1:=PySem.W.Fast.tw17805306369872665705
theorem pt_eq:PySem.Challenge.pw_platecuts_k73_whole_drawn_trees_borne=pt:=PySem.W.Fast.te17805306369872665705
def tp(i:Nat):Stmt:=pt.main.body.getD i (.Pass %[0,0,0|0])
abbrev f(o:Params->Obj)(l r:Params->BT):Params->BT:=λ P=>.node (o P) (l P) (r P)
abbrev z:Params->BT:=λ _=>.nil
abbrev e(P:Params)(n:Str)(t:Nat)(v:G4):DictEntry:=%[PyData.keyHash P n,.str n t|v]
abbrev m0:Nat:=nat_lit 11
abbrev an:QR G4:=(↑6)
abbrev en:Env:={ scope:=pt.main.scope,locals:=mainNs,globals:=mainNs,cells:=[],code:=(.ref 13),frame:=some 14 }
abbrev cE:Code:=.body (behindTheImports pt) en
abbrev qP:Pos:=%[0,0,0|0]
abbrev B:QT Frame:=[topFrame qP]
abbrev L0:=SL.s14018661285674007319x4
abbrev L1:=SL.s11665532747177232413x24
abbrev L2:=SL.s15183661809925369436x15
abbrev L3:=SL.s13915890719876406383x10
abbrev L4:=SL.s13459172003223722735x3
abbrev L5:=SL.s10557405761357834076x3
abbrev L6:=SL.s4233737765568776869x3
abbrev L7:=SL.s2508922471967985374x5
abbrev L8:=SL.s15574269061696679450x3
abbrev L9:=SL.s6016482663378992977x10
abbrev L10:=SL.s5596568736180474577x8
abbrev L11:=SL.s2839554839881490554x3
abbrev L12:=SL.s725004073602090463x7
abbrev L13:=SL.s9436932552931045734x7
abbrev L14:=SL.s2754603736356183583x3
abbrev L15:=SL.s15185746759980889043x6
abbrev L16:=SL.s8192189862530294059x4
abbrev L17:=SL.s7038307821325472102x4
abbrev L18:=SL.s5662562618415449548x6
abbrev L19:=SL.s15281542589158584767x7
abbrev L20:=SL.s17651547275483570877x7
abbrev L21:=SL.s4036449017235975746x7
abbrev L22:=SL.s8879979712987360175x4
abbrev L23:=SL.s1801250619170735830x3
abbrev L24:=SL.s17659931425627118568x2
abbrev L25:=SL.s6063217899685152688x5
abbrev L26:=SL.s8008927332132565319x10
abbrev L27:=SL.s3544116645089599534x10
abbrev L28:=SL.s13761710972054866084x4
abbrev L29:=SL.s12896375587409280029x5
abbrev L30:=SL.s13014049009108672802x3
abbrev L31:=SL.s13935586738268321596x6
abbrev L32:=SL.s8200498257699607233x3
abbrev L33:=SL.s14114244577727609259x3
abbrev L34:=SL.s1499430450269397089x4
abbrev L35:=SL.s8755793994789770505x5
abbrev L36:=SL.s15725212667919936108x3
abbrev L37:=SL.s15791221867095933363x3
abbrev L38:=SL.s81309575031448614x3
abbrev L39:=SL.s8069831620301644142x5
abbrev L40:=SL.s10061844253413749634x4
abbrev L41:=SL.s9496514870978017513x5
abbrev L42:=SL.s8899691144933366716x7
abbrev L43:=SL.s15201008993051130160x6
abbrev L44:=SL.s741896355592496720x3
abbrev L45:=SL.s17925004256654032244x4
abbrev L46:=SL.s11695548795398191787x4
abbrev L47:=SL.s4156966113859768872x10
abbrev L48:=SL.s9501651726347032510x9
abbrev L49:=SL.s15722918466584999320x5
abbrev L50:=SL.s591115383303110208x11
abbrev L51:=SL.s15721156781594690315x7
abbrev L52:=SL.s14340494229221121180x9
abbrev L53:=SL.s13429844117177748173x6
abbrev L54:=SL.s16463266125957815391x5
abbrev L55:=SL.s4922535414793169389x9
abbrev L56:=SL.s8101838861749082086x8
abbrev L57:=SL.s7066276694103001551x3
abbrev L58:=SL.s9222952809800978799x4
abbrev L59:=SL.s462964344163437139x3
abbrev L60:=SL.s2742458400755230247x6
abbrev L61:=SL.s1438033511350832697x5
abbrev L62:=SL.s14365286008749172514x8
abbrev L63:=SL.s3642769012341782148x3
abbrev L64:=SL.s4674234679698826739x5
abbrev L65:=SL.s16656946322747308186x12
abbrev L66:=SL.s10796804682411823810x3
abbrev L67:=SL.s4290257624100764138x5
abbrev L68:=SL.s2766695959194262286x5
abbrev L69:=SL.s17162191345867700912x4
abbrev L70:=SL.s14339709457334898076x3
abbrev L71:=SL.s4278001404047624695x13
abbrev L72:=SL.s6585700554429387442x18
abbrev L73:=SL.s5946037652744460706x9
abbrev L74:=SL.s7410770068591931388x13
abbrev L75:=SL.s11817881795495490833x17
abbrev L76:=SL.s15679963881808890155x10
abbrev L77:=SL.s3871700062485845797x15
abbrev L78:=SL.s7689518266570723881x14
abbrev L79:=SL.s9001593270443806431x14
abbrev L80:=SL.s6882542574934516792x11
abbrev L81:=SL.s14403400214490484960x8
abbrev L82:=SL.s14457978657717015782x11
abbrev L83:=SL.s1753610191782819921x11
abbrev L84:=SL.s14119380538032626715x11
abbrev L85:=SL.s11437920000406562045x9
abbrev L86:=SL.s10852414792293593619x7
abbrev L87:=SL.s14816307405966870543x14
abbrev L88:=SL.s8682627914449686677x12
abbrev L89:=SL.s4428170145600203450x18
abbrev L90:=SL.s5991306692159431302x13
abbrev L91:=SL.s16067994140765818257x11
abbrev L92:=SL.s2327743974964600596x11
abbrev L93:=SL.s2804747833354056582x9
abbrev L94:=SL.s6070975301684473832x10
abbrev L95:=SL.s14270485950484850486x7
abbrev L96:=SL.s12041534306414923332x18
abbrev L97:=SL.s2531307568338490285x13
abbrev L98:=SL.s631175304937289666x17
abbrev L99:=SL.s5144983644357021410x12
abbrev OA:=SL.s18039099521571816885x18
abbrev OB:=SL.s6011586214260557989x15
abbrev OC:=SL.s5430567037509283100x13
abbrev OD:=SL.s8117915138073963741x13
abbrev OE:=SL.s3423317712779056401x25
abbrev OF:=SL.s2007317383269046180x15
abbrev OG:=SL.s17481586968713580700x14
abbrev OH:=SL.s2450899226349176912x13
abbrev OI:=SL.s16626165730633575011x14
abbrev OJ:=SL.s14288496050688921416x11
abbrev OK:=SL.s5735081916595925998x15
abbrev OL:=SL.s3865607918536308442x17
abbrev OM:=SL.s13337502604062700212x15
abbrev ON:=SL.s13114017843053701147x15
abbrev OO:=SL.s17467278006356818441x17
abbrev OP:=SL.s17722149559621369488x16
abbrev OQ:=SL.s7855274175708717672x17
abbrev OR:=SL.s13351283678309829046x18
abbrev OS:=SL.s6668348653404991179x15
abbrev OT:=SL.s12913350958174193794x18
abbrev OU:=SL.s16115879512475548326x12
abbrev OV:=SL.s15920661018069861047x16
abbrev OW:=SL.s10779130036587390575x21
abbrev OX:=SL.s7801419657504700863x10
abbrev OY:=SL.s1688129525768580628x8
abbrev OZ:=SL.s1031832959479892071x19
abbrev Pa:=SL.s8991790508128307865x19
abbrev Pb:=SL.s14539662485746970245x23
abbrev Pd:=SL.s11643622729373238714x14
abbrev Pe:=SL.s3386828779285465597x17
abbrev Pf:=SL.s13042696260734638735x12
abbrev Pg:=SL.s18239426817015966623x15
abbrev Ph:=SL.s1270395311379034370x22
abbrev Pi:=SL.s10696252587037064777x22
abbrev Pj:=SL.s7852717498200857586x20
abbrev Pk:=SL.s6377248116197321094x8
abbrev Pl:=SL.s3834378056692298002x18
abbrev Pm:=SL.s17586630440231065808x18
abbrev Pn:=SL.s15234114252648025395x21
abbrev Po:=SL.s8496462677383758984x14
abbrev Pp:=SL.s16789243406116112673x4
abbrev Pq:=SL.s14400166428656793546x20
abbrev Pr:=SL.s5857708277339239366x20
abbrev Ps:=SL.s7804999707787243718x20
abbrev Oq:=SL.s7097527257260152453x26
abbrev Pt:=SL.s6658869562736209489x6
abbrev CY:=SL.s5856160107412720595x4
abbrev Os:=SL.s658472552662922059x5
abbrev sZ(w:G3)(os:OsState):G0:=%[boot_heap w.params,Array.mk [],boot_drawn,boot_toks|os]
def o11(P:Params):Obj:=%[(.type L68),none,(.seq #[] 0)|#[]]
def o12(P:Params):Obj:=%[.none,none,(.fields #[])|#[]]
def g0(x0:Str)(x1 x2 x3:Nat)(P:Params):Obj:=%[(.type CY),none,(.fields #[.str x0 x1,.str x0 (x1+1),.str rm (x1+2),.int x2 0,.int 0 0,.int 0 0,.int 0 0,.int 0 0,.ref x3,.bool false,.int 181 0,.ref (x3+1),.none,.none,.none,.none,.int (x1+3) 0,.int x2 0,.str rm (x1+4)])|#[]]
def o13:=g0 Ni 182 1 11
def g1(x0 x1:Nat)(x2:Str)(x3:Nat)(P:Params):Obj:=%[(.type Os),none,.plain|#[↑x0,↑3,↑x1,none,some (.str x2 x3),none,↑0]]
def o14:=g1 13 3 Nc 164
def hA(P:Params):Heap:=%[%[|[boot_o_0 P,boot_o_1 P,boot_o_2 P,boot_o_3 P,boot_o_4 P,boot_o_5 P,boot_o_6 P,boot_o_7 P,boot_o_8 P,boot_o_9 P,boot_o_10 P,o11 P,o12 P,o13 P,o14 P]]|{ }]
abbrev sA(w:G3)(os:OsState):G0:=%[hA w.params,(Array.mk []),%[0,0,0|0],187|os]
abbrev pA:Pos:=%[0,0,0|0]
theorem pre(w:G3):(λ os=>topGo treeTable pt w m0 an 12 (sZ w os) (topStub pt))=λ os=>some (sA w os,(%[denote treeTable cE,cE,pA|B]:Thread)):=by rw[PySem.W.Fast.te15667345088766844465,PySem.W.Fast.te14364793385576792824,PySem.W.Fast.te11892475500146522536];kernel_rfl
def tB:Params->BT:=(f boot_o_0 (f boot_o_1 (f boot_o_3 (f boot_o_7 z z) (f o11 z z)) (f boot_o_5 (f boot_o_9 z z) (f o13 z z))) (f boot_o_2 (f boot_o_4 (f boot_o_8 z z) (f o12 z z)) (f boot_o_6 (f boot_o_10 z z) (f o14 z z))))
abbrev sB(w:G3)(os:OsState):SharedT:=%[tB w.params,15,{ },(Array.mk []),%[0,0,0|0],187|os]
abbrev pB:Pos:=%[0,0,0|0]
theorem blk(w:G3):(λ os=>segRun treeTable pt w m0 an 1 1 (sA w os) ⟨(blockStart (behindTheImports pt) en).wrap (λ _=>doneF .next) deadEnd id id,cE,pA,B⟩)=λ os=>some (.next,(sB w os).abs,cE,pB):=by rw[PySem.W.Fast.te14374325043358763698,PySem.W.Fast.te14364793385576792824,PySem.W.Fast.te1066825118222455980];kernel_rfl
def GZ(P:Params):Obj:=%[(.type L0),none,(.dict #[e P S0 165 (.str gJ 755),e P S2 166 .none,e P S3 167 .none,e P S4 168 (.builtin Oq),e P S5 169 .none,e P Nd 170 (.ref 6),e P Nf 171 (.ref 4),e P Ng 173 (.str rm 172),e P Nh 174 .none,e P pY 206 (.ref 24),e P yX 222 (.ref 37),e P yY 238 (.ref 49),e P yZ 254 (.ref 61),e P za 270 (.ref 73),e P zb 286 (.ref 85),e P zc 302 (.ref 97),e P zd 318 (.ref 109),e P ze 334 (.ref 121),e P vd 344 (.ref 130),e P ve 351 (.ref 137),e P vf 358 (.ref 144),e P vg 366 (.ref 151),e P vh 375 (.ref 158),e P GA 379 (.str Nj 378),e P GB 381 (.str Nk 380),e P vi 396 (.ref 165),e P vj 402 (.ref 170),e P vk 414 (.ref 177),e P vm 420 (.ref 182),e P vn 426 (.ref 187),e P GC 428 (.str Nl 427),e P GD 430 (.str Nm 429),e P GE 434 (.int 8 433),e P GF 436 (.int 6 435),e P vo 445 (.ref 194),e P vp 451 (.ref 199),e P vq 457 (.ref 204),e P vw 463 (.ref 209),e P vy 469 (.ref 214),e P vz 475 (.ref 219),e P vA 486 (.ref 226),e P vB 492 (.ref 231),e P vC 500 (.ref 236),e P vD 506 (.ref 241),e P vE 512 (.ref 246),e P vF 518 (.ref 251),e P vG 538 (.ref 258),e P vH 553 (.ref 265),e P GG 557 (.int 8 556),e P GH 559 (.int 5 558),e P vI 571 (.ref 272),e P vJ 578 (.ref 279),e P pZ 655 (.ref 334),e P GI 659 (.int 60 658),e P vK 665 (.ref 343),e P vL 680 (.ref 350),e P vM 691 (.ref 357),e P vN 705 (.ref 364),e P GJ 709 (.int 60 708),e P vO 721 (.ref 371),e P vP 727 (.ref 376),e P vQ 738 (.ref 383),e P vR 754 (.ref 390),e P vS 764 (.ref 397),e P vT 771 (.ref 404),e P vU 780 (.ref 411),e P vV 792 (.ref 418),e P vW 798 (.ref 423),e P vX 806 (.ref 430),e P vY 821 (.ref 437),e P vZ 827 (.ref 442),e P wc 836 (.ref 449),e P wd 842 (.ref 454),e P we 861 (.ref 461),e P wf 867 (.ref 466),e P wg 884 (.ref 473),e P wj 890 (.ref 478),e P zf 898 (.ref 485)] 78)|#[]]
def Bk(P:Params):Obj:=%[.none,none,(.fields #[.int 2 0,.int 0 0,.ref 20,.int 4 0,.int 0 0,.ref 33,.int 6 0,.int 0 0,.ref 45,.int 8 0,.int 0 0,.ref 57,.int 10 0,.int 0 0,.ref 69,.int 12 0,.int 0 0,.ref 81,.int 14 0,.int 0 0,.ref 93,.int 16 0,.int 0 0,.ref 105,.int 18 0,.int 0 0,.ref 117,.int 21 0,.int 0 0,.ref 129,.int 23 0,.int 0 0,.ref 136,.int 25 0,.int 0 0,.ref 143,.int 27 0,.int 0 0,.ref 150,.int 30 0,.int 0 0,.ref 157,.int 36 0,.int 0 0,.ref 164,.int 41 0,.int 0 0,.ref 169,.int 44 0,.int 0 0,.ref 176,.int 49 0,.int 0 0,.ref 181,.int 53 0,.int 0 0,.ref 186,.int 60 0,.int 0 0,.ref 193,.int 65 0,.int 0 0,.ref 198,.int 67 0,.int 0 0,.ref 203,.int 69 0,.int 0 0,.ref 208,.int 71 0,.int 0 0,.ref 213,.int 82 0,.int 0 0,.ref 218,.int 85 0,.int 0 0,.ref 225,.int 90 0,.int 0 0,.ref 230,.int 95 0,.int 0 0,.ref 235,.int 97 0,.int 0 0,.ref 240,.int 99 0,.int 0 0,.ref 245,.int 102 0,.int 0 0,.ref 250,.int 112 0,.int 0 0,.ref 257,.int 123 0,.int 0 0,.ref 264,.int 139 0,.int 0 0,.ref 271,.int 146 0,.int 0 0,.ref 278,.int 148 0,.int 0 0,.ref 285,.int 192 0,.int 0 0,.ref 342,.int 196 0,.int 0 0,.ref 349,.int 204 0,.int 0 0,.ref 356,.int 211 0,.int 0 0,.ref 363,.int 227 0,.int 0 0,.ref 370,.int 233 0,.int 0 0,.ref 375,.int 242 0,.int 0 0,.ref 382,.int 245 0,.int 0 0,.ref 389,.int 258 0,.int 0 0,.ref 396,.int 262 0,.int 0 0,.ref 403,.int 264 0,.int 0 0,.ref 410,.int 270 0,.int 0 0,.ref 417,.int 275 0,.int 0 0,.ref 422,.int 277 0,.int 0 0,.ref 429,.int 281 0,.int 0 0,.ref 436,.int 290 0,.int 0 0,.ref 441,.int 292 0,.int 0 0,.ref 448,.int 296 0,.int 0 0,.ref 453,.int 303 0,.int 0 0,.ref 460,.int 316 0,.int 0 0,.ref 465,.int 319 0,.int 0 0,.ref 472,.int 331 0,.int 0 0,.ref 477,.int 356 0,.int 0 0,.ref 484])|#[]]
def o15(P:Params):Obj:=%[(.type L68),none,(.seq #[.type L94] 0)|#[]]
abbrev He:=SL.s11030030927630378310x26
abbrev Ot:=SL.s10062305145149207511x16
def o16(P:Params):Obj:=%[(.type He),none,(.fields #[.builtin Ot,.type L69])|#[]]
def g2(x0:Nat)(x1:Str)(x2 x3:Nat)(P:Params):Obj:=%[(.type L0),none,(.dict #[e P zg x0 (.str jD 187),e P GK (x0+2) (.str x1 (x0+1)),e P zh (x0+4) (.int x2 (x0+3)),e P zi (x0+5) (.ref x3)] 4)|#[]]
def o17:=g2 196 pY 2 22
def o20:=g0 pY 191 2 18
def o21:=g1 20 17 jD 187
def o23(P:Params):Obj:=%[(.type L0),none,(.dict #[e P zg 196 (.str jD 187),e P zh 200 (.int 2 199),e P zi 201 (.ref 22),e P CA 203 (.ref 25),e P S2 204 .none] 3)|#[]]
abbrev Hf:=SL.s4209523147560561109x18
def o24(P:Params):Obj:=%[(.type L69),none,(.cls %[pY,[.type L94],[.ref 24,.type L94,.type L73,.type L71,.type L60],23,pY,true,[],[.ref 37,.ref 49,.ref 61,.ref 73,.ref 85,.ref 97,.ref 109,.ref 121],false,none|false])|#[↑15,none,some (.str pY 189),some (.str pY 197),some (.builtin Hf),some (.bool true)]]
abbrev Hg:=SL.s14755015743595814543x17
abbrev Ou:=SL.s10220274742760427390x26
def g3(x0 x1:Nat)(P:Params):Obj:=%[(.type Hg),none,(.fields #[.str CA x0,.ref x1,.builtin Ou,.none])|#[]]
def o25:=g3 202 24
def g4(x0:Nat)(P:Params):Obj:=%[(.type L67),none,(.fields #[.ref x0,.ref x0,.ref x0])|#[]]
def o26:=g4 24
abbrev Ov:=SL.s4860613602091757760x24
def g5(x0:Nat)(P:Params):Obj:=%[(.type He),none,(.fields #[.builtin Ov,.ref x0])|#[]]
def o27:=g5 24
def o28(P:Params):Obj:=%[(.type L68),none,(.seq #[.ref 24] 0)|#[]]
def o30:=g2 214 yX 4 35
def o33:=g0 yX 209 4 31
def o34:=g1 33 30 jD 187
def g6(x0 x1 x2:Nat)(P:Params):Obj:=%[(.type L0),none,(.dict #[e P zg x0 (.str jD 187),e P zh (x0+4) (.int x1 (x0+3)),e P zi (x0+5) (.ref x2),e P S2 (x0+6) .none] 2)|#[]]
def o36:=g6 214 4 35
def g7(x0:Str)(x1 x2 x3 x4:Nat)(P:Params):Obj:=%[(.type L69),none,(.cls %[x0,[.ref 24],[.ref x1,.ref 24,.type L94,.type L73,.type L71,.type L60],x2,x0,true,[],[],false,none|false])|#[↑x3,none,some (.str x0 x4),some (.str x0 (x4+8)),some (.builtin Hf),some (.bool true)]]
def o37:=g7 yX 37 36 28 207
def o38:=g4 37
def o39:=g5 37
def o42:=g2 230 yY 6 47
def o45:=g0 yY 225 6 43
def o46:=g1 45 42 jD 187
def o48:=g6 230 6 47
def o49:=g7 yY 49 48 40 223
def o50:=g4 49
def o51:=g5 49
def o54:=g2 246 yZ 8 59
def o57:=g0 yZ 241 8 55
def o58:=g1 57 54 jD 187
def o60:=g6 246 8 59
def o61:=g7 yZ 61 60 52 239
def o62:=g4 61
def o63:=g5 61
def o66:=g2 262 za 10 71
def o69:=g0 za 257 10 67
def o70:=g1 69 66 jD 187
def o72:=g6 262 10 71
def o73:=g7 za 73 72 64 255
def o74:=g4 73
def o75:=g5 73
def o78:=g2 278 zb 12 83
def o81:=g0 zb 273 12 79
def o82:=g1 81 78 jD 187
def o84:=g6 278 12 83
def o85:=g7 zb 85 84 76 271
def o86:=g4 85
def o87:=g5 85
def o90:=g2 294 zc 14 95
def o93:=g0 zc 289 14 91
def o94:=g1 93 90 jD 187
def o96:=g6 294 14 95
def o97:=g7 zc 97 96 88 287
def o98:=g4 97
def o99:=g5 97
def Hh:=g2 310 zd 16 107
def Hi:=g0 zd 305 16 103
def Hj:=g1 105 102 jD 187
def Hk:=g6 310 16 107
def Hl:=g7 zd 109 108 100 303
def Hm:=g4 109
def Hn:=g5 109
def Ho:=g2 326 ze 18 119
def Hq:=g0 ze 321 18 115
def Hr:=g1 117 114 jD 187
def Hs:=g6 326 18 119
def Ht:=g7 ze 121 120 112 319
def HA:=g4 121
def HB:=g5 121
def g8(x0:Str)(x1:Nat)(x2:Str)(P:Params):Obj:=%[(.type L68),none,(.seq #[.str x0 x1,.str x2 (x1+1)] 0)|#[]]
def HC:=g8 AJ 340 Nn
def g9(x0:Str)(x1:Nat)(P:Params):Obj:=%[.none,none,(.func %[x0,x0,L2.defArgs (tp x1),(.stmts (L2.defBody (tp x1))),L2.defScope (tp x1),0,[],.none,.none,.none,.none,none,.none,.none|0])|#[]]
def HD:=g9 vd 11
def g10(x0:Str)(x1:Nat)(x2:Str)(x3 x4 x5 x6:Nat)(P:Params):Obj:=%[(.type CY),none,(.fields #[.str x0 x1,.str x2 (x1+1),.str rm (x1+2),.int x3 0,.int x4 0,.int 0 0,.int 0 0,.int 3 0,.ref x5,.bool true,.int 181 0,.ref (x5+1),.none,.ref (x5+2),.ref (x5+3),.ref (x5+4),.int x6 0,.int x3 0,.str rm (x6+1)])|#[]]
def HE:=g10 vd 337 vd 21 2 124 342
abbrev HF:=SL.s7174869446012820540x8
def g11(x0:Str)(x1:Nat)(x2:Str)(x3 x4:Nat)(P:Params):Obj:=%[(.type HF),none,(.func %[x0,x0,L2.defArgs (tp x1),(.stmts (L2.defBody (tp x1))),L2.defScope (tp x1),3,[],.none,.none,.none,.str x2 x3,none,.ref x4,.none|0])|#[]]
def HG:=g11 vd 11 zj 335 129
def g12(x0:Str)(x1:Nat)(P:Params):Obj:=%[(.type L68),none,(.seq #[.str x0 x1] 0)|#[]]
def HI:=g12 AJ 348
def HJ:=g9 ve 12
def HL:=g10 ve 345 ve 23 1 131 349
def HM:=g11 ve 12 zj 335 136
def HN:=g12 AJ 355
def HP:=g9 vf 13
def HQ:=g10 vf 352 vf 25 1 138 356
def HR:=g11 vf 13 zj 335 143
def HS:=g8 lp 362 lq
def HU:=g9 vg 14
def HV:=g10 vg 359 vg 27 2 145 364
def HW:=g11 vg 14 zj 335 150
def g13(x0:Str)(x1:Nat)(x2 x3:Str)(P:Params):Obj:=%[(.type L68),none,(.seq #[.str x0 x1,.str x2 (x1+1),.str x3 (x1+2)] 0)|#[]]
def HX:=g13 lp 370 lq No
def HY:=g9 vh 15
def HZ:=g10 vh 367 vh 30 3 152 373
def Ia:=g11 vh 15 zj 335 157
def g14(x0:Str)(x1:Nat)(x2 x3 x4 x5 x6 x7 x8 x9:Str)(P:Params):Obj:=%[(.type L68),none,(.seq #[.str x0 x1,.str x2 (x1+1),.str x3 (x1+2),.str x4 (x1+3),.str x5 (x1+4),.str x6 (x1+5),.str x7 (x1+6),.str x8 (x1+7),.str x9 (x1+8)] 0)|#[]]
def Ib:=g14 wq 385 lp lq zk CB Np Nq Nr Nt
def Ic:=g9 vi 19
def Id:=g10 vi 382 vi 36 7 159 394
def Ie:=g11 vi 19 zo 376 164
def Ig:=g9 vj 20
def g15(x0:Str)(x1:Nat)(x2:Str)(x3 x4 x5:Nat)(P:Params):Obj:=%[(.type CY),none,(.fields #[.str x0 x1,.str x2 (x1+1),.str rm (x1+2),.int x3 0,.int x4 0,.int 0 0,.int 0 0,.int 3 0,.ref x5,.bool true,.int 181 0,.ref (x5+1),.none,.none,.none,.ref (x5+2),.int (x1+3) 0,.int x3 0,.str rm (x1+4)])|#[]]
def Ih:=g15 vj 397 vj 41 2 166
def Ii:=g11 vj 20 zo 376 169
def g16(x0:Str)(x1:Nat)(x2 x3 x4 x5 x6:Str)(P:Params):Obj:=%[(.type L68),none,(.seq #[.str x0 x1,.str x2 (x1+1),.str x3 (x1+2),.str x4 (x1+3),.str x5 (x1+4),.str x6 (x1+5)] 0)|#[]]
def Ij:=g16 nO 406 CC GL GM lp lq
def Ik:=g9 vk 21
def Il:=g10 vk 403 vk 44 4 171 412
def Im:=g11 vk 21 zo 376 176
def Io:=g9 vm 22
def Ip:=g15 vm 415 vm 49 2 178
def Iq:=g11 vm 22 zo 376 181
def Ir:=g9 vn 23
def Iu:=g15 vn 421 vn 53 2 183
def Iv:=g11 vn 23 zo 376 186
def Iw:=g13 wq 440 lp lq
def Ix:=g9 vo 29
def Iy:=g10 vo 437 vo 60 3 188 443
def Iz:=g11 vo 29 qb 431 193
def IA:=g9 vp 30
def IB:=g15 vp 446 vp 65 2 195
def IC:=g11 vp 30 qb 431 198
def ID:=g9 vq 31
def IE:=g15 vq 452 vq 67 3 200
def IF:=g11 vq 31 qb 431 203
def IG:=g9 vw 32
def IH:=g15 vw 458 vw 69 2 205
def II:=g11 vw 32 qb 431 208
def IJ:=g9 vy 33
def IK:=g15 vy 464 vy 71 3 210
def IL:=g11 vy 33 qb 431 213
def IM:=g9 vz 34
def IN:=g15 vz 470 vz 82 1 215
def IO:=g11 vz 34 qb 431 218
def g17(x0:Str)(x1:Nat)(x2 x3 x4 x5:Str)(P:Params):Obj:=%[(.type L68),none,(.seq #[.str x0 x1,.str x2 (x1+1),.str x3 (x1+2),.str x4 (x1+3),.str x5 (x1+4)] 0)|#[]]
def IP:=g17 wq 479 lp lq CD CC
def IQ:=g9 vA 35
def IR:=g10 vA 476 vA 85 3 220 484
def IS:=g11 vA 35 qb 431 225
def IT:=g9 vB 36
def IU:=g15 vB 487 vB 90 3 227
def IV:=g11 vB 36 qb 431 230
def IW:=g9 vC 38
def IX:=g15 vC 495 vC 95 2 232
def IY:=g11 vC 38 wr 493 235
def IZ:=g9 vD 39
def Ja:=g15 vD 501 vD 97 2 237
def Jb:=g11 vD 39 wr 493 240
def Jc:=g9 vE 40
def Jd:=g15 vE 507 vE 99 2 242
def Je:=g11 vE 40 wr 493 245
def Jf:=g9 vF 41
def Jg:=g15 vF 513 vF 102 2 247
def Jh:=g11 vF 41 wr 493 250
def Ji(P:Params):Obj:=%[(.type L68),none,(.seq #[.str CD 522,.str CC 523,.str GN 524,.str GO 525,.str Nu 526,.str GL 527,.str GM 528,.str GP 529,.str Nv 530,.str Nw 531,.str Ny 532,.str Nz 533,.str GQ 534,.str NA 535] 0)|#[]]
def Jj:=g9 vG 42
def Jk:=g10 vG 519 vG 112 4 252 536
def Jl:=g11 vG 42 wr 493 257
def Jm:=g14 wq 542 lp lq NB CD NC ND GN GO
def Jn:=g9 vH 43
def Jo:=g10 vH 539 vH 123 3 259 551
def Jp:=g11 vH 43 wr 493 264
def Jq:=g16 AJ 563 lp lq NE wu NF
def Jr:=g9 vI 47
def Js:=g10 vI 560 vI 139 1 266 569
def Jt:=g11 vI 47 ww 554 271
def Ju:=g12 zk 575
def Jv:=g9 vJ 48
def Jw:=g10 vJ 572 vJ 146 1 273 576
def Jx:=g11 vJ 48 ww 554 278
def Jy(P:Params):Obj:=%[(.type L0),none,(.dict #[e P zg 586 (.str ww 554),e P GK 588 (.str pZ 587),e P zh 590 (.int 148 589),e P zp 596 (.ref 291),e P nO 603 (.ref 298),e P zq 610 (.ref 305),e P wu 616 (.ref 310),e P zr 626 (.ref 317),e P zt 635 (.ref 324),e P zu 645 (.ref 331),e P zi 648 (.ref 332)] 11)|#[]]
def Jz(P:Params):Obj:=%[.none,none,(.fields #[.int 150 0,.int 4 0,.ref 290,.int 161 0,.int 4 0,.ref 297,.int 164 0,.int 4 0,.ref 304,.int 167 0,.int 4 0,.ref 309,.int 170 0,.int 4 0,.ref 316,.int 178 0,.int 4 0,.ref 323,.int 183 0,.int 4 0,.ref 330])|#[]]
def JA:=g0 pZ 581 148 283
def JB:=g1 285 282 ww 554
def g18(x0 x1:Str)(x2:Nat)(P:Params):Obj:=%[.none,none,(.func %[x0,x1,L2.defArgs (L2.inClass (tp 49) x2),(.stmts (L2.defBody (L2.inClass (tp 49) x2))),L2.defScope (L2.inClass (tp 49) x2),0,[],.none,.none,.none,.none,none,.none,.none|0])|#[]]
def JC:=g18 zp CF 0
def JD:=g15 zp 591 CF 150 3 287
def g19(x0 x1:Str)(x2 x3:Nat)(P:Params):Obj:=%[(.type HF),none,(.func %[x0,x1,L2.defArgs (L2.inClass (tp 49) x2),(.stmts (L2.defBody (L2.inClass (tp 49) x2))),L2.defScope (L2.inClass (tp 49) x2),3,[],.none,.none,.none,.str ww 554,none,.ref x3,.none|0])|#[]]
def JE:=g19 zp CF 0 290
def JF:=g12 AK 600
def JG:=g18 nO CG 1
def JH:=g10 nO 597 CG 161 1 292 601
def JI:=g19 nO CG 1 297
def JJ:=g12 AK 607
def JK:=g18 zq CI 2
def JL:=g10 zq 604 CI 164 1 299 608
def JM:=g19 zq CI 2 304
def JN:=g18 wu CJ 3
def JO:=g15 wu 611 CJ 167 1 306
def JP:=g19 wu CJ 3 309
def g20(x0:Nat)(x1 x2 x3:Str)(P:Params):Obj:=%[(.type L68),none,(.seq #[.str AK x0,.str x1 (x0+1),.str x2 (x0+2),.str x3 (x0+3)] 0)|#[]]
def JQ:=g20 620 NG NH zk
def JR:=g18 zr CK 4
def JS:=g10 zr 617 CK 170 1 311 624
def JT:=g19 zr CK 4 316
def JU:=g13 AK 630 zk CB
def JV:=g18 zt CL 5
def JW:=g10 zt 627 CL 178 3 318 633
def JX:=g19 zt CL 5 323
def JY:=g20 639 zk CB NI
def JZ:=g18 zu CM 6
def Ka:=g10 zu 636 CM 183 3 325 643
def Kb:=g19 zu CM 6 330
def Kc:=g8 NJ 646 NK
def Ke(P:Params):Obj:=%[(.type L0),none,(.dict #[e P zg 586 (.str ww 554),e P zh 590 (.int 148 589),e P zp 596 (.ref 291),e P nO 603 (.ref 298),e P zq 610 (.ref 305),e P wu 616 (.ref 310),e P zr 626 (.ref 317),e P zt 635 (.ref 324),e P zu 645 (.ref 331),e P zi 648 (.ref 332),e P GS 650 (.ref 335),e P CA 652 (.ref 336),e P S2 653 .none] 4)|#[]]
abbrev Ow:=SL.s11443829558043349243x14
def Kg(P:Params):Obj:=%[(.type L69),none,(.cls %[pZ,[.type L60],[.ref 334,.type L60],333,pZ,true,[],[],false,none|false])|#[none,none,some (.str pZ 579),some (.str pZ 587),some (.builtin Ow),some (.bool true)]]
abbrev Ox:=SL.s6511155373996960695x17
abbrev Oy:=SL.s12411053484034534018x21
def Kh(P:Params):Obj:=%[(.type Hg),none,(.fields #[.str GS 649,.ref 334,.builtin Ox,.builtin Oy])|#[]]
def Ki:=g3 651 334
def Kj:=g4 334
def Kk:=g5 334
def Kl:=g9 vK 52
def Km:=g15 vK 660 vK 192 1 339
def Ko:=g11 vK 52 AL 656 342
def Kq:=g14 nO 669 AM GT AN CN CO GP GQ NL
def Kr:=g9 vL 53
def Ks:=g10 vL 666 vL 196 4 344 678
def Kt:=g11 vL 53 AL 656 349
def Ku:=g17 nO 684 GU AN NM CO
def Kv:=g9 vM 54
def Kw:=g10 vM 681 vM 204 3 351 689
def Kx:=g11 vM 54 AL 656 356
def Ky(P:Params):Obj:=%[(.type L68),none,(.seq #[.str nO 695,.str AM 696,.str AN 697,.str GT 698,.str GU 699,.str NO 700,.str CN 701,.str CO 702] 0)|#[]]
def Kz:=g9 vN 55
def KA:=g10 vN 692 vN 211 3 358 703
def KB:=g11 vN 55 AL 656 363
def KC:=g16 lp 713 lq CP CQ AN AM
def KD:=g9 vO 58
def KF:=g10 vO 710 vO 227 4 365 719
def KG:=g11 vO 58 AO 706 370
def KH:=g9 vP 59
def KI:=g15 vP 722 vP 233 5 372
def KJ:=g11 vP 59 AO 706 375
def KL:=g17 wq 731 lp lq CP CQ
def KM:=g9 vQ 60
def KN:=g10 vQ 728 vQ 242 5 377 736
def KO:=g11 vQ 60 AO 706 382
def KP(P:Params):Obj:=%[(.type L68),none,(.seq #[.str wq 742,.str lp 743,.str lq 744,.str CP 745,.str CQ 746,.str AM 747,.str NP 748,.str NQ 749,.str NR 750,.str CN 751] 0)|#[]]
def KQ:=g9 vR 61
def KR:=g10 vR 739 vR 245 5 384 752
def KS:=g11 vR 61 AO 706 389
def KU:=g8 GV 760 CS
def KW:=g9 vS 63
def KY:=g10 vS 757 vS 258 2 391 762
def KZ:=g11 vS 63 gJ 755 396
def La:=g12 NS 768
def Lb:=g9 vT 64
def Lc:=g10 vT 765 vT 262 1 398 769
def Le:=g11 vT 64 gJ 755 403
def Lf:=g13 wx 775 CT NT
def Lg:=g9 vU 65
def Lh:=g10 vU 772 vU 264 2 405 778
def Li:=g11 vU 65 gJ 755 410
def Lj:=g16 NU 784 CU CV GW CW NV
def Lk:=g9 vV 66
def Ll:=g10 vV 781 vV 270 1 412 790
def Lm:=g11 vV 66 gJ 755 417
def Ln:=g9 vW 67
def Lo:=g15 vW 793 vW 275 3 419
def Lq:=g11 vW 67 gJ 755 422
def Lr:=g8 wx 802 NW
def Ls:=g9 vX 68
def Lu:=g10 vX 799 vX 277 2 424 804
def Lv:=g11 vX 68 gJ 755 429
def Lw:=g14 wx 810 CU CV CT NX NY CS CW GW
def Lx:=g9 vY 69
def Ly:=g10 vY 807 vY 281 4 431 819
def Lz:=g11 vY 69 gJ 755 436
def LA:=g9 vZ 70
def LB:=g15 vZ 822 vZ 290 2 438
def LC:=g11 vZ 70 gJ 755 441
def LD:=g13 wx 831 GX NZ
def LE:=g9 wc 71
def LF:=g10 wc 828 wc 292 3 443 834
def LG:=g11 wc 71 gJ 755 448
def LH:=g9 wd 72
def LI:=g15 wd 837 wd 296 5 450
def LJ:=g11 wd 72 gJ 755 453
def LK(P:Params):Obj:=%[(.type L68),none,(.seq #[.str wx 846,.str GX 847,.str Oa 848,.str CU 849,.str CV 850,.str Ob 851,.str Oc 852,.str Od 853,.str Oe 854,.str Of 855,.str Og 856,.str Oh 857,.str GY 858] 0)|#[]]
def LL:=g9 we 73
def LM:=g10 we 843 we 303 8 455 859
def LN:=g11 we 73 gJ 755 460
def LO:=g9 wf 74
def LP:=g15 wf 862 wf 316 2 462
def LQ:=g11 wf 74 gJ 755 465
def LR(P:Params):Obj:=%[(.type L68),none,(.seq #[.str wx 871,.str Oi 872,.str GY 873,.str CW 874,.str Oj 875,.str Ol 876,.str Om 877,.str On 878,.str CT 879,.str Oo 880,.str Op 881] 0)|#[]]
def LS:=g9 wg 75
def LT:=g10 wg 868 wg 319 5 467 882
def LU:=g11 wg 75 gJ 755 472
def LV:=g9 wj 76
def LW:=g15 wj 885 wj 331 1 474
def LX:=g11 wj 76 gJ 755 477
def LY:=g8 GV 894 CS
def LZ:=g9 zf 77
def Ma:=g10 zf 891 zf 356 1 479 896
def Mb:=g11 zf 77 gJ 755 484
def t0:Params->BT:=(f boot_o_0 (f boot_o_1 (f GZ (f boot_o_7 (f o15 (f o11 (f o63 (f o11 (f o11 z z) (f KO z z)) (f o11 (f o12 z z) (f LE z z))) (f o11 (f o11 (f o11 z z) (f o11 z z)) (f o11 (f o11 z z) (f o11 z z)))) (f o11 (f o11 (f HQ (f Js z z) (f o12 z z)) (f IG (f Kh z z) (f o12 z z))) (f Hn (f Ik (f JK z z) (f o11 z z)) (f IZ (f KC z z) z)))) (f o23 (f o39 (f o11 (f HJ (f Jn z z) (f o11 z z)) (f IC (f JY z z) (f o11 z z))) (f o11 (f o12 (f o11 z z) (f Lq z z)) (f IV (f o12 z z) z))) (f o11 (f o87 (f HW (f Jx z z) (f Lf z z)) (f o11 (f Ko z z) (f LS z z))) (f o11 (f o11 (f o11 z z) (f o12 z z)) (f o11 (f KI z z) z))))) (f o11 (f o12 (f o11 (f o11 (f o11 (f o11 z z) (f o11 z z)) (f o11 (f JW z z) (f o12 z z))) (f o99 (f Ic (f JE z z) (f o11 z z)) (f o11 (f Kv z z) (f LZ z z)))) (f o51 (f o11 (f HS (f Ju z z) (f Lc z z)) (f o12 (f o11 z z) (f o11 z z))) (f o11 (f o12 (f o12 z z) (f Lx z z)) (f o12 (f KG z z) z)))) (f o27 (f o11 (f o75 (f o12 (f o12 z z) (f KW z z)) (f IE (f Kb z z) (f LL z z))) (f o11 (f o11 (f o11 z z) (f o11 z z)) (f IX (f KA z z) z))) (f o11 (f o11 (f o11 (f o11 z z) (f Li z z)) (f IO (f o11 z z) (f o12 z z))) (f HB (f Iv (f JR z z) (f o11 z z)) (f Jh (f KL z z) z)))))) (f boot_o_5 (f boot_o_9 (f o17 (f o33 (f o16 (f HE (f Jk z z) (f o12 z z)) (f Iy (f o11 z z) (f LG z z))) (f o97 (f Ib (f JC z z) (f Ll z z)) (f IR (f Ku z z) (f LY z z)))) (f o49 (f o81 (f o11 (f o11 z z) (f o11 z z)) (f II (f Kj z z) (f LP z z))) (f o16 (f Im (f JM z z) (f Lw z z)) (f Jb (f KD z z) z)))) (f o25 (f o16 (f o73 (f HM (f Jp z z) (f KU z z)) (f o12 (f JZ z z) (f LK z z))) (f Hi (f Ih (f JH z z) (f o12 z z)) (f o12 (f o11 z z) z))) (f o57 (f o16 (f o12 (f o16 z z) (f Lg z z)) (f IM (f o12 z z) (f LU z z))) (f Ht (f Ir (f JQ z z) (f LB z z)) (f Jf (f o11 z z) z))))) (f o13 (f o21 (f o37 (f o69 (f HI (f Jm z z) (f KR z z)) (f IA (f o11 z z) (f LI z z))) (f o16 (f Ie (f o12 z z) (f Ln z z)) (f IT (f Kx z z) (f Mb z z)))) (f o16 (f o85 (f HU (f Jv z z) (f o11 z z)) (f IK (f Kl z z) (f LR z z))) (f Hq (f Ip (f JO z z) (f Lz z z)) (f Jd (f o12 z z) z)))) (f o16 (f o45 (f o16 (f o11 (f o11 z z) (f KZ z z)) (f o11 (f Ke z z) (f LN z z))) (f Hl (f Ij (f JJ z z) (f Lu z z)) (f o11 (f o11 z z) z))) (f o61 (f o93 (f HZ (f JA z z) (f o12 z z)) (f o12 (f Ks z z) (f LW z z))) (f o12 (f o12 (f JT z z) (f LD z z)) (f o12 (f KM z z) z))))))) (f boot_o_2 (f boot_o_4 (f boot_o_8 (f o16 (f o12 (f o28 (f HD (f Jj z z) (f o11 z z)) (f Ix (f JU z z) (f LF z z))) (f o96 (f o12 (f o12 z z) (f Lk z z)) (f IQ (f o12 z z) (f o12 z z)))) (f o48 (f o12 (f HR (f Jt z z) (f La z z)) (f IH (f Ki z z) (f LO z z))) (f o28 (f Il (f JL z z) (f o12 z z)) (f Ja (f o11 z z) z)))) (f o24 (f o28 (f o72 (f HL (f Jo z z) (f o12 z z)) (f o11 (f o11 z z) (f o12 z z))) (f o12 (f Ig (f JG z z) (f o11 z z)) (f o11 (f Ky z z) z))) (f o12 (f o28 (f o11 (f o11 z z) (f o11 z z)) (f o12 (f o11 z z) (f LT z z))) (f Hs (f o12 (f o12 z z) (f LA z z)) (f o12 (f KJ z z) z))))) (f Bk (f o20 (f o36 (f o12 (f o12 (f o12 z z) (f KQ z z)) (f o12 (f JX z z) (f LH z z))) (f o28 (f Id (f o11 z z) (f o12 z z)) (f o12 (f Kw z z) (f Ma z z)))) (f o28 (f o84 (f o11 (f o11 z z) (f Le z z)) (f IJ (f o12 z z) (f o12 z z))) (f o12 (f Io (f JN z z) (f Ly z z)) (f Jc (f o11 z z) z)))) (f o28 (f o12 (f o28 (f HN (f Jq z z) (f KY z z)) (f IF (f Kc z z) (f LM z z))) (f Hk (f o12 (f o12 z z) (f Ls z z)) (f IY (f KB z z) z))) (f o60 (f o12 (f HY (f Jz z z) (f o11 z z)) (f o11 (f Kr z z) (f LV z z))) (f o11 (f o11 (f JS z z) (f o12 z z)) (f o11 (f o11 z z) z)))))) (f boot_o_6 (f boot_o_10 (f o11 (f o34 (f o66 (f HG (f Jl z z) (f KP z z)) (f Iz (f JV z z) (f o11 z z))) (f o98 (f o11 (f JD z z) (f Lm z z)) (f IS (f o11 z z) (f o11 z z)))) (f o50 (f o82 (f o12 (f o12 z z) (f Lb z z)) (f o11 (f Kk z z) (f LQ z z))) (f Ho (f o11 (f o11 z z) (f o11 z z)) (f o11 (f KF z z) z)))) (f o26 (f o42 (f o74 (f o11 (f o11 z z) (f o11 z z)) (f ID (f Ka z z) (f o11 z z))) (f Hj (f Ii (f JI z z) (f Lr z z)) (f IW (f Kz z z) z))) (f o58 (f o90 (f HX (f Jy z z) (f Lh z z)) (f IN (f Kq z z) (f o11 z z))) (f HA (f Iu (f o11 z z) (f LC z z)) (f Jg (f o12 z z) z))))) (f o14 (f o11 (f o38 (f o70 (f o11 (f o11 z z) (f KS z z)) (f IB (f o12 z z) (f LJ z z))) (f Hh (f o11 (f JF z z) (f Lo z z)) (f IU (f o11 z z) z))) (f o54 (f o86 (f HV (f Jw z z) (f o12 z z)) (f IL (f Km z z) (f o11 z z))) (f Hr (f Iq (f JP z z) (f o11 z z)) (f Je (f KH z z) z)))) (f o30 (f o46 (f o78 (f HP (f Jr z z) (f o11 z z)) (f o12 (f Kg z z) (f o11 z z))) (f Hm (f o11 (f o11 z z) (f Lv z z)) (f o12 (f o12 z z) z))) (f o62 (f o94 (f Ia (f JB z z) (f Lj z z)) (f IP (f Kt z z) (f LX z z))) (f HC (f Iw (f o11 z z) (f o11 z z)) (f Ji (f KN z z) z))))))))
abbrev s0(w:G3)(os:OsState):SharedT:=%[t0 w.params,486,{ },(Array.mk []),%[0,0,0|0],899|os]
abbrev p0:Pos:=%[356,0,360|15]
abbrev st0:QT Stmt:=(pt.main.body.drop 0).take 78
theorem q0(w:G3):(λ os=>segRunT treeTable pt w m0 an 1 3961 (sB w os) %[(execs st0 en).wrap doneF deadEnd id id,cE,pB|B])=λ os=>some (.next,s0 w os,cE,p0):=by rw[PySem.W.Fast.te10110043849684766642,PySem.W.Fast.te14364793385576792824,PySem.W.Fast.te12563942051412417395];kernel_rfl
def hF(P:Params):Heap:=%[%[|[boot_o_0 P,boot_o_1 P,boot_o_2 P,GZ P,boot_o_4 P,boot_o_5 P,boot_o_6 P,boot_o_7 P,boot_o_8 P,boot_o_9 P,boot_o_10 P,o11 P,Bk P,o13 P,o14 P,o15 P,o16 P,o17 P,o11 P,o12 P,o20 P,o21 P,o11 P,o23 P,o24 P,o25 P,o26 P,o27 P,o28 P,o16 P,o30 P,o11 P,o12 P,o33 P,o34 P,o11 P,o36 P,o37 P,o38 P,o39 P,o28 P,o16 P,o42 P,o11 P,o12 P,o45 P,o46 P,o11 P,o48 P,o49 P,o50 P,o51 P,o28 P,o16 P,o54 P,o11 P,o12 P,o57 P,o58 P,o11 P,o60 P,o61 P,o62 P,o63 P,o28 P,o16 P,o66 P,o11 P,o12 P,o69 P,o70 P,o11 P,o72 P,o73 P,o74 P,o75 P,o28 P,o16 P,o78 P,o11 P,o12 P,o81 P,o82 P,o11 P,o84 P,o85 P,o86 P,o87 P,o28 P,o16 P,o90 P,o11 P,o12 P,o93 P,o94 P,o11 P,o96 P,o97 P,o98 P,o99 P,o28 P,o16 P,Hh P,o11 P,o12 P,Hi P,Hj P,o11 P,Hk P,Hl P,Hm P,Hn P,o28 P,o16 P,Ho P,o11 P,o12 P,Hq P,Hr P,o11 P,Hs P,Ht P,HA P,HB P,o11 P,o12 P,HC P,o11 P,HD P,HE P,HG P,o11 P,o12 P,HI P,o11 P,HJ P,HL P,HM P,o11 P,o12 P,HN P,o11 P,HP P,HQ P,HR P,o11 P,o12 P,HS P,o11 P,HU P,HV P,HW P,o11 P,o12 P,HX P,o11 P,HY P,HZ P,Ia P,o11 P,o12 P,Ib P,o11 P,Ic P,Id P,Ie P,o11 P,o12 P,Ig P,Ih P,Ii P,o11 P,o12 P,Ij P,o11 P,Ik P,Il P,Im P,o11 P,o12 P,Io P,Ip P,Iq P,o11 P,o12 P,Ir P,Iu P,Iv P,o11 P,o12 P,Iw P,o11 P,Ix P,Iy P,Iz P,o11 P,o12 P,IA P,IB P,IC P,o11 P,o12 P,ID P,IE P,IF P,o11 P,o12 P,IG P,IH P,II P,o11 P,o12 P,IJ P,IK P,IL P,o11 P,o12 P,IM P,IN P,IO P,o11 P,o12 P,IP P,o11 P,IQ P,IR P,IS P,o11 P,o12 P,IT P,IU P,IV P,o11 P,o12 P,IW P,IX P,IY P,o11 P,o12 P,IZ P,Ja P,Jb P,o11 P,o12 P,Jc P,Jd P,Je P,o11 P,o12 P,Jf P,Jg P,Jh P,o11 P,o12 P,Ji P,o11 P,Jj P,Jk P,Jl P,o11 P,o12 P,Jm P,o11 P,Jn P,Jo P,Jp P,o11 P,o12 P,Jq P,o11 P,Jr P,Js P,Jt P,o11 P,o12 P,Ju P,o11 P,Jv P,Jw P,Jx P,o11 P,o16 P,Jy P,o11 P,Jz P,JA P,JB P,o11 P,o12 P,JC P,JD P,JE P,o11 P,o12 P,JF P,o11 P,JG P,JH P,JI P,o11 P,o12 P,JJ P,o11 P,JK P,JL P,JM P,o11 P,o12 P,JN P,JO P,JP P,o11 P,o12 P,JQ P,o11 P,JR P,JS P,JT P,o11 P,o12 P,JU P,o11 P,JV P,JW P,JX P,o11 P,o12 P,JY P,o11 P,JZ P,Ka P,Kb P,Kc P,Ke P,Kg P,Kh P,Ki P,Kj P,Kk P,o11 P,o12 P,Kl P,Km P,Ko P,o11 P,o12 P,Kq P,o11 P,Kr P,Ks P,Kt P,o11 P,o12 P,Ku P,o11 P,Kv P,Kw P,Kx P,o11 P,o12 P,Ky P,o11 P,Kz P,KA P,KB P,o11 P,o12 P,KC P,o11 P,KD P,KF P,KG P,o11 P,o12 P,KH P,KI P,KJ P,o11 P,o12 P,KL P,o11 P,KM P,KN P,KO P,o11 P,o12 P,KP P,o11 P,KQ P,KR P,KS P,o11 P,o12 P,KU P,o11 P,KW P,KY P,KZ P,o11 P,o12 P,La P,o11 P,Lb P,Lc P,Le P,o11 P,o12 P,Lf P,o11 P,Lg P,Lh P,Li P,o11 P,o12 P,Lj P,o11 P,Lk P,Ll P,Lm P,o11 P,o12 P,Ln P,Lo P,Lq P,o11 P,o12 P,Lr P,o11 P,Ls P,Lu P,Lv P,o11 P,o12 P,Lw P,o11 P,Lx P,Ly P,Lz P,o11 P,o12 P,LA P,LB P,LC P,o11 P,o12 P,LD P,o11 P,LE P,LF P,LG P,o11 P,o12 P,LH P,LI P,LJ P,o11 P,o12 P,LK P,o11 P,LL P,LM P,LN P,o11 P,o12 P,LO P,LP P,LQ P,o11 P,o12 P,LR P,o11 P,LS P,LT P,LU P,o11 P,o12 P,LV P,LW P,LX P,o11 P,o12 P,LY P,o11 P,LZ P,Ma P,Mb P]]|{ }]
abbrev sF(w:G3)(os:OsState):G0:=%[hF w.params,(Array.mk []),%[0,0,0|0],899|os]
theorem fin(w:G3):(λ os=>topRun treeTable pt w m0 an 2 (s0 w os).abs ⟨doneF .next,cE,p0,B⟩)=λ os=>some (sF w os):=by rw[PySem.W.Fast.te14082659384304107361,PySem.W.Fast.te14364793385576792824];kernel_rfl
theorem AQ:behindTheImports pt=st0 ++ ([]):=by kernel_rfl
abbrev MM:Nat:=12+(1+(3961+2))
theorem CZ(w:G3)(os:OsState):topRun treeTable pt w m0 an MM (sZ w os) (topStub pt)=some (sF w os) :=
 go_top (congrFun (pre w) os) (piece_block (congrFun (blk w) os) (AQ ▸ (piece_app (l:=st0) (segRun_of (congrFun (q0 w) os)) (piece_nil (congrFun (fin w) os)))))
def loose:QT Str:=[pY,yX,yY,yZ,za,zb,zc,zd,ze,vd,ve,vf,vg,vh,GA,GB,vi,vj,vk,vm,vn,GC,GD,GE,GF,vo,vp,vq,vw,vy,vz,vA,vB,vC,vD,vE,vF,vG,vH,GG,GH,vI,vJ,pZ,GI,vK,vL,vM,vN,GJ,vO,vP,vQ,vR,vS,vT,vU,vV,vW,vX,vY,vZ,wc,wd,we,wf,wg,wj]
abbrev NN:Nat:=8046
abbrev q:G1:=view pt [77]
abbrev Xt:G0->Bool:=λ s=>xlAt q [] s && recOk [] s
theorem size(w:G3):((boot_heap w.params).isNs QU && (Array.mk []:QS GenState).size == 0,(boot_heap w.params).objs.size,(boot_heap w.params).nsMap QU "__annotations__")=(true,m0,an):=by rw[PySem.W.Fast.te8920871248978507458];kernel_rfl
theorem Mc(w:G3):(λ os=>((staticsOk (importedModules pt.main.body) (boot_heap w.params) (hF w.params) && namesBound pt (hF w.params) && gensDone (sF w os) && laidKept (boot_heap w.params) (hF w.params)),openSeen q loose (importedModules pt.main.body) Xt true (sF w os),HK.obs (sF w os)))=λ _=>(true,openGood q loose,HK.val w):=by rw[PySem.W.Fast.te4187177175401517315,PySem.W.Fast.te5923862056798008813];kernel_rfl
theorem left:LeftO pt q loose Xt HK.obs HK.val NN true:=LeftO.of_pieces (boot_open (by kernel_rfl) ∅ (λ s=>rfl)) size CZ ∅ Mc
end Hd
open PySem PySem.W PyProof.Rows
set_option maxRecDepth 100000 in
set_option maxHeartbeats 0 in
theorem PySem.Challenge.cw_platecuts_k73_whole_drawn_trees_borne_holds : PySem.Challenge.rw_platecuts_k73_whole_drawn_trees_borne.Holds := by
 w_on;o_law
 refine holds_open (q:=view PySem.Challenge.pw_platecuts_k73_whole_drawn_trees_borne [77]) (loose:=Hd.loose) (Xt:=λ s=>xlAt (view PySem.Challenge.pw_platecuts_k73_whole_drawn_trees_borne [77]) [] s && recOk [] s) (XP:=XL (view PySem.Challenge.pw_platecuts_k73_whole_drawn_trees_borne [77]) []) (Yf:=Hook.obs Hd.HK) (Ya:=Hook.val Hd.HK) (YP:=InK Pc.kK) (N:=Hd.NN) ?hl (Hook.of Hd.HK) (Hook.keeps Hd.HK) (λ s e=>xl_of s (E3.mp e).1) XL.keeps (by rfl) (by rfl) (by rfl) (λ s e=>recFacts_of (E3.mp e).2) (by rfl) (by first | assumption | decide +kernel) (by decide +kernel) ⟨rfl,rfl,rfl,rfl,rfl,by decide +kernel⟩ ?hw ?hc
 case hl=>exact Hd.pt_eq ▸ Hd.left
 case hw=>w_witness2
 k_fill
 refine Pc.walk (l:=PySem.Challenge.rw_platecuts_k73_whole_drawn_trees_borne) rfl rfl (λ w h Y=>Y) ?F
 case F=>
  intro w mg fa h KX G hmg;refine' Pc.all_mk KX G hmg ?d0 ?d1 ?d2 ?d3 ?d4 ?d5 ?d6 ?d7 ?d8 ?d9 ?d10 ?d11 ?d12 ?d13 ?d14 ?d15 ?d16 ?d17 ?d18 ?d19 ?d20 ?d21 ?d22 ?d23 ?d24 ?d25 ?d26 ?d27 ?d28 ?d29 ?d30 ?d31 ?d32 ?d33 ?d34 ?d35 ?d36 ?d37 ?d38 ?d39 ?d40 ?d41 ?d42 ?d43 ?d44 ?d45 ?d46 ?d47 ?d48 ?aC ?dm0 ?dm1 ?dm2 ?dm3 ?dm4 ?dm5 ?dm6 ?pg ?hd ?po ?sa ?mk ?kc ?n0 ?n1 ?z0 ?z1 ?z2 ?z3 ?z4 ?z5 ?z6 ?z7 ?z8 ?z9 ?z10 ?z11 ?z12 ?z13 ?z14 ?z15 ?z16 ?z17 ?z18 ?uc0 ?uc1 ?uc2 ?uc3 ?uc4 ?uc5 ?uc6 ?uc7 ?uc8 ?uc9
  (case d0 | d1 | d2 | d3 | d4 | d5 | d6 | d7 | d8 | d9 | d10 | d11 | d12 | d13 | d14 | d15 | d16 | d17 | d18 | d19 | d20 | d21 | d22 | d23 | d24 | d25 | d26 | d27 | d28 | d29 | d30 | d31 | d32 | d33 | d34 | d35 | d36 | d37 | d38 | d39 | d40 | d41 | d42 | d43 | d44 | d45 | d46 | d47 | d48=>refine' Pc.diM ?a ?l ?c ?k;(case a=>k_is);(case l=>k_is);(case c=>k_is);(case k=>k_is))
  (case aC=>k_is)
  (case dm0 | dm1 | dm2 | dm3 | dm4 | dm5 | dm6=>refine' Pc.miM ?a ?i ?l ?c ?k;(case a=>k_is);(case i=>k_is);(case l=>k_is);(case c=>k_is);(case k=>k_is))
  (case pg | hd | po | sa | mk | kc | n0 | n1 | z0 | z1 | z2 | z3 | z4 | z5 | z6 | z7 | z8 | z9 | z10 | z11 | z12 | z13 | z14 | z15 | z16 | z17 | z18 | uc0 | uc1 | uc2 | uc3 | uc4 | uc5 | uc6 | uc7 | uc8 | uc9=>k_is)