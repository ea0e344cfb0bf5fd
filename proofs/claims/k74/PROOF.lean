import PyProof.Rows.All
import Wide.All
import OpenK.AllK
import Wide.FinOn
import Lean
import PyProof.EqAt
import PyProof.EqKinds
import PyProof.TupleCall
import PyProof.IsiBase
import PyProof.ExcArgsOwn
import PyProof.ExcAttrAll.ValueError
import PyProof.Draws
import PyProof.WalksMore
import PyProof.EnumMake
import PyProof.ReprRoads
import PyProof.Rows.SortWalk
import PyProof.Rows.SumAny
import PyProof.FitsBits
import KE.KSortTup
import PyProof.LongRange
import PyProof.DictItems
import PyProof.NeData
import KE.KDictList
import PyProof.Rows.TupDisplay
import PySem.Challenge.RW_platecuts_k74_bundles_refused
set_option maxRecDepth 100000
set_option maxHeartbeats 0
set_option hygiene false in
local macro_rules|`(tactic|exists $x)=>`(tactic|refine F.ok $x (fun vs H Q E h=>?_) (fun cdv A outer s H vs Q E hr h=>?_))
local macro_rules|`(def $i $s:optDeclSig $v:declVal)=>`(noncomputable def $i $s:optDeclSig $v:declVal)
local macro_rules|`(abbrev $i $s:optDeclSig $v:declVal)=>`(noncomputable abbrev $i $s:optDeclSig $v:declVal)
local macro_rules|`(∅)=>`(by decide +kernel)
local macro_rules|`(⋯)=>`(by omega)
local macro_rules|`(↑$x)=>`(some (.ref $x))
local macro_rules|`(⇑$x)=>`(some (.int $x))
local macro_rules|`(↥$x)=>`(some (.lst $x))
local macro_rules|`(~~~$x)=>`(some (.tup $x))
local macro_rules|`(%[$xs,*|$y])=>if y.raw.getId.hasMacroScopes then Lean.Macro.throwUnsupported else `(⟨$(xs.getElems.push y),*⟩)
section
open PySem PySem.W PySem.Spec PyProof PyProof.Rows
abbrev F7:=@Shared
abbrev F8:=@Program
abbrev F9:=@FuncData
abbrev G0:=@World
abbrev G1:=@Value
abbrev A0:=@wpAny_bind
abbrev A2:=@wpAny_pure
abbrev A3:=@wpS_bind
abbrev A4:=@wpS_pure
abbrev A5:=@List.mem_append_right
theorem A6:type_of% @List.getElem?_eq_some_iff:=@List.getElem?_eq_some_iff
abbrev A7:=@Heap.get?_push_of_some
abbrev A8:=@Heap.get?_push_size
abbrev A9:=@Heap.lt_size
abbrev B0:=@decide_eq_true
abbrev B1:=@decide_eq_false
theorem B2:type_of% @Bool.false_ne_true:=@Bool.false_ne_true
theorem B3:type_of% @Nat.le_refl:=@Nat.le_refl
theorem B4:type_of% @List.length_map:=@List.length_map
theorem B5:type_of% @List.mem_cons_of_mem:=@List.mem_cons_of_mem
theorem B6:type_of% @List.mem_of_getElem?:=@List.mem_of_getElem?
abbrev B7:=@List.mem_append_left
theorem B8:type_of% @List.mem_cons_self:=@List.mem_cons_self
abbrev B9:=@Option.some.inj
theorem C0:type_of% @Nat.ne_of_lt:=@Nat.ne_of_lt
abbrev C1:=@of_decide_eq_true
theorem C2:type_of% @List.not_mem_nil:=@List.not_mem_nil
theorem C3:type_of% @Nat.lt_of_lt_of_le:=@Nat.lt_of_lt_of_le
theorem C4:type_of% @List.mem_append:=@List.mem_append
abbrev C5:=@beq_iff_eq
abbrev C6:=@PySem.W.Frag
abbrev C7:=@Nat.le_trans
abbrev C8:=@Nat.lt_of_le_of_lt
theorem C9:type_of% @Nat.le_of_lt:=@Nat.le_of_lt
theorem E1:type_of% @Nat.lt_irrefl:=@Nat.lt_irrefl
theorem E2:type_of% @List.mem_singleton:=@List.mem_singleton
abbrev E3:=@Paired.length
abbrev E4:=@PassesOwn.never
theorem E5:type_of% @Int.le_refl:=@Int.le_refl
abbrev E6:=@PySem.W.fnOf
abbrev E7:=@False.elim
theorem E8:type_of% @Nat.zero_le:=@Nat.zero_le
theorem E9:type_of% @Nat.not_lt_zero:=@Nat.not_lt_zero
theorem F1:type_of% @Nat.lt_succ_self:=@Nat.lt_succ_self
theorem F2:type_of% @List.getElem?_eq_getElem:=@List.getElem?_eq_getElem
abbrev F3:=@wpAny_truthy_bool
abbrev F4:=@wpAny_call_entry
abbrev F5:=@wpAny_newObj_type
abbrev F6:=@PySem.F.plainAttrs_list
theorem G7:type_of% @List.mem_cons:=@List.mem_cons
theorem G8:type_of% @List.getElem?_map:=@List.getElem?_map
theorem G9:type_of% @List.map_cons:=@List.map_cons
theorem J0:type_of% @List.mem_map:=@List.mem_map
theorem J3:type_of% @List.map_append:=@List.map_append
theorem J4:type_of% @List.length_cons:=@List.length_cons
theorem J5:type_of% @List.length_append:=@List.length_append
theorem J6:type_of% @List.size_toArray:=@List.size_toArray
theorem J7:type_of% @Option.map_eq_some_iff:=@Option.map_eq_some_iff
theorem J8:type_of% @List.take_add_one:=@List.take_add_one
theorem K0:type_of% @List.length_take:=@List.length_take
theorem K1:type_of% @List.mem_iff_getElem?:=@List.mem_iff_getElem?
theorem K2:type_of% @List.take_of_length_le:=@List.take_of_length_le
theorem K3:type_of% @List.lookup_cons:=@List.lookup_cons
theorem K4:type_of% @List.length_replicate:=@List.length_replicate
theorem K5:type_of% @Option.toList_some:=@Option.toList_some
theorem K6:type_of% @List.append_nil:=@List.append_nil
theorem K7:type_of% @List.sum_cons:=@List.sum_cons
theorem K8:type_of% @Bool.false_eq_true:=@Bool.false_eq_true
theorem K9:type_of% @Array.getElem?_eq_getElem:=@Array.getElem?_eq_getElem
theorem LJ:type_of% @Nat.ne_of_gt:=@Nat.ne_of_gt
theorem LK:type_of% @Array.getElem?_eq_none:=@Array.getElem?_eq_none
theorem LL:type_of% @List.take_length:=@List.take_length
theorem LM:type_of% @List.mem_range:=@List.mem_range
theorem LN:type_of% @List.map_nil:=@List.map_nil
theorem LO:type_of% @List.map_map:=@List.map_map
theorem LP:type_of% @Array.length_toList:=@Array.length_toList
theorem LQ:type_of% @Bool.and_eq_true:=@Bool.and_eq_true
theorem LR:type_of% @List.getD_eq_getElem?_getD:=@List.getD_eq_getElem?_getD
theorem LS:type_of% @Int.toNat_natCast:=@Int.toNat_natCast
theorem LU:type_of% @List.mem_flatMap:=@List.mem_flatMap
theorem LV:type_of% @List.mem_map_of_mem:=@List.mem_map_of_mem
theorem LW:type_of% @Nat.add_le_add_left:=@Nat.add_le_add_left
theorem LX:type_of% @Array.getElem?_toList:=@Array.getElem?_toList
theorem LY:type_of% @List.length_range:=@List.length_range
theorem LZ:type_of% @List.flatMap_cons:=@List.flatMap_cons
theorem MA:type_of% @List.nodup_cons:=@List.nodup_cons
theorem MC:type_of% @List.filterMap_cons:=@List.filterMap_cons
theorem MD:type_of% @List.find?_cons_of_pos:=@List.find?_cons_of_pos
theorem MF:type_of% @Array.getElem?_eq_some_iff:=@Array.getElem?_eq_some_iff
theorem MG:type_of% @List.getElem?_eq_none:=@List.getElem?_eq_none
theorem MH:type_of% @List.length_filter_le:=@List.length_filter_le
theorem MJ:type_of% @List.mem_filter:=@List.mem_filter
theorem MN:type_of% @Bool.eq_iff_iff:=@Bool.eq_iff_iff
theorem MO:type_of% @List.length_set:=@List.length_set
theorem MP:type_of% @Nat.lt_succ_of_lt:=@Nat.lt_succ_of_lt
theorem MQ:type_of% @List.nodup_append:=@List.nodup_append
theorem MR:type_of% @List.flatMap_append:=@List.flatMap_append
theorem MT:type_of% @List.all_eq_true:=@List.all_eq_true
theorem MU:type_of% @List.getElem?_set_self:=@List.getElem?_set_self
theorem MV:type_of% @Int.zero_add:=@Int.zero_add
theorem MX:type_of% @List.find?_cons_of_neg:=@List.find?_cons_of_neg
theorem MY:type_of% @Int.emod_lt_of_pos:=@Int.emod_lt_of_pos
theorem MZ:type_of% @List.length_nil:=@List.length_nil
theorem Ma:type_of% @List.find?_cons:=@List.find?_cons
theorem Mb:type_of% @List.nodup_nil:=@List.nodup_nil
theorem Mc:type_of% @List.getElem_mem:=@List.getElem_mem
theorem Md:type_of% @Nat.lt_or_ge:=@Nat.lt_or_ge
theorem Me:type_of% @Int.le_trans:=@Int.le_trans
theorem Mf:type_of% @List.of_mem_zip:=@List.of_mem_zip
theorem Mg:type_of% @List.range_succ:=@List.range_succ
theorem Mh:type_of% @Int.emod_nonneg:=@Int.emod_nonneg
abbrev Mi:=@Addr
abbrev Mj:=@Keyed
abbrev Ml:=@Option
abbrev Mm:=@Array
abbrev Mo:=@List
abbrev Mp:=@mainGlobals
theorem Mu:type_of% @if_neg:=@if_neg
theorem Mv:type_of% @PyProof.Rows.boot_isinstance:=@PyProof.Rows.boot_isinstance
theorem Mw:type_of% @if_pos:=@if_pos
theorem Mx:type_of% @decide_eq_true:=@decide_eq_true
theorem Mz:type_of% @PySem.wpAny_mono:=@PySem.wpAny_mono
theorem M0:type_of% @decide_eq_false:=@decide_eq_false
theorem M3:type_of% @PySem.wpAny_holding:=@PySem.wpAny_holding
theorem M4:type_of% @PyProof.Rows.boot_tuple:=@PyProof.Rows.boot_tuple
theorem M5:type_of% @PySem.wpAny_field:=@PySem.wpAny_field
theorem M6:type_of% @PySem.Heap.size_push:=@PySem.Heap.size_push
theorem M7:type_of% @PyProof.Rows.callWith_type1:=@PyProof.Rows.callWith_type1
theorem M8:type_of% @PySem.boot_len:=@PySem.boot_len
theorem M9:type_of% @PySem.wpAny_dictEntries:=@PySem.wpAny_dictEntries
theorem NA:type_of% @PySem.Heap.SameBut.update:=@PySem.Heap.SameBut.update
theorem NB:type_of% @PySem.Heap.get?_update_self:=@PySem.Heap.get?_update_self
theorem NC:type_of% @PySem.wpAny_setField_rec:=@PySem.wpAny_setField_rec
theorem ND:type_of% @PyProof.Rows.KeyOrd.kle_refl:=@PyProof.Rows.KeyOrd.kle_refl
theorem NE:type_of% @congrArg:=@congrArg
theorem NF:type_of% @PySem.Heap.get?_update_other:=@PySem.Heap.get?_update_other
theorem NG:type_of% @or_false:=@or_false
theorem NH:type_of% @PySem.wpAny_setField:=@PySem.wpAny_setField
theorem NI:type_of% @PyProof.Rows.boot_list:=@PyProof.Rows.boot_list
theorem NJ:type_of% @beq_eq_false_iff_ne:=@beq_eq_false_iff_ne
theorem NK:type_of% @if_false:=@if_false
theorem NL:type_of% @PySem.wpAny_typeNameOfWhole_itemiter:=@PySem.wpAny_typeNameOfWhole_itemiter
theorem NM:type_of% @PySem.wpAny_comprehension_free:=@PySem.wpAny_comprehension_free
theorem NO:type_of% @PySem.wpAny_typeNameOfWhole_keyiter:=@PySem.wpAny_typeNameOfWhole_keyiter
theorem NQ:type_of% @PySem.F.slot_dict_itemiterator_next:=@PySem.F.slot_dict_itemiterator_next
theorem NR:type_of% @decide_eq_true_eq:=@decide_eq_true_eq
theorem NS:type_of% @PySem.wpAny_execs_nil:=@PySem.wpAny_execs_nil
theorem NT:type_of% @PySem.wpAny_dictEpoch:=@PySem.wpAny_dictEpoch
theorem NU:type_of% @PySem.F.slot_dict_keyiterator_next:=@PySem.F.slot_dict_keyiterator_next
theorem NV:type_of% @PySem.F.slot_dict_setdefault:=@PySem.F.slot_dict_setdefault
theorem NW:type_of% @PySem.wpAny_pyIter_tuple:=@PySem.wpAny_pyIter_tuple
theorem NX:type_of% @PySem.wpAny_Call_Name_kw:=@PySem.wpAny_Call_Name_kw
theorem NY:type_of% @PySem.Obj.data_mapFields:=@PySem.Obj.data_mapFields
theorem NZ:type_of% @PySem.Obj.isFreed_of_fields:=@PySem.Obj.isFreed_of_fields
theorem Na:type_of% @PySem.wpAny_passesOwn:=@PySem.wpAny_passesOwn
theorem Nb:type_of% @PySem.wpAny_standAt:=@PySem.wpAny_standAt
theorem Nc:type_of% @PySem.wpAny_attempt:=@PySem.wpAny_attempt
theorem Nd:type_of% @PySem.F.slot_list_append:=@PySem.F.slot_list_append
theorem Nf:type_of% @PySem.F.type_list_append:=@PySem.F.type_list_append
theorem Ng:type_of% @PySem.mem_of_lookup:=@PySem.mem_of_lookup
theorem Nh:type_of% @PySem.wpAny_isInstance:=@PySem.wpAny_isInstance
theorem Ni:type_of% @PySem.wpAny_rule:=@PySem.wpAny_rule
theorem Nj:type_of% @if_true:=@if_true
theorem Nk:type_of% @PySem.codeAny_mono:=@PySem.codeAny_mono
end
theorem zS2:2<=PySem.sizeLine:=∅
theorem zS4:4<=PySem.sizeLine:=∅
theorem zS1:1<=PySem.sizeLine:=∅
theorem zS5:5<=PySem.sizeLine:=∅
theorem zS0:0<=PySem.sizeLine:=∅
theorem zS3:3<=PySem.sizeLine:=∅
theorem zS6:6<=PySem.sizeLine:=∅
theorem zS9:9<=PySem.sizeLine:=∅
theorem zS12:12<=PySem.sizeLine:=∅
theorem zS14:14<=PySem.sizeLine:=∅
theorem O{α:Sort _}{a:α}:a=a:=rfl
set_option Elab.async false
set_option linter.all false
namespace L2
open PySem PySem.Spec PyProof.Rows
abbrev Key:=Sum Int Str
def kh:Key->G1->Bool
 | .inl k,v=>Value.isInt k v
 | .inr x,v=>Value.isStrOf x v
def uw(w:G0):Key->Int
 | .inl k=>hashInt k
 | .inr x=>hashStr w x
theorem bg:∀{k:Key}{v:G1},kh k v=true->(∃i t,k=Sum.inl i/\v=Value.int i t)\/(∃x t,k=Sum.inr x/\v=Value.str x t)
 | .inl i,v,h=>by obtain⟨t,e⟩:=Value.isInt_shape (k:=i) (v:=v) h;exact .inl %[i,t,O|e]
 | .inr x,v,h=>by obtain⟨t,e⟩:=Value.isStrOf_shape (x:=x) (v:=v) h;exact .inr %[x,t,O|e]
theorem rK(i:Int)(t:Tok):kh (.inl i) (.int i t)=true:=by simp[kh,Value.isInt]
theorem rL(x:Str)(t:Tok):kh (.inr x) (.str x t)=true:=by simp[kh,Value.isStrOf]
theorem zq(a b:Int):decide ((Sum.inl a:Key)=Sum.inl b)=(a == b):=by
 by_cases e:a=b
 ·subst e;simp
 ·have h:¬ (Sum.inl a:Key)=Sum.inl b:=λ q=>e (Sum.inl.inj q);rw[M0 h];exact(NJ.mpr e).symm
theorem zr(a b:Str):decide ((Sum.inr a:Key)=Sum.inr b)=decide (a=b):=by
 by_cases e:a=b
 ·subst e;simp
 ·have h:¬ (Sum.inr a:Key)=Sum.inr b:=λ q=>e (Sum.inr.inj q);rw[M0 h,M0 e]
theorem zt(a:Int)(b:Str):decide ((Sum.inl a:Key)=Sum.inr b)=false:=B1 (λ q=>nomatch q)
theorem zu(a:Str)(b:Int):decide ((Sum.inr a:Key)=Sum.inl b)=false:=B1 (λ q=>nomatch q)
def aO(prog:F8)(w:G0):PySem.KeyKind prog w Key where
 is:=kh
 hash:=uw w
 inj:=λ v a b ha hb=>by
  rcases bg ha with⟨i,t,rfl,rfl⟩ | ⟨x,t,rfl,rfl⟩
  ·rcases bg hb with⟨j,u,rfl,e⟩ | ⟨y,u,rfl,e⟩
   ·injection e with e1 _;rw[e1]
   ·exact nomatch e
  ·rcases bg hb with⟨j,u,rfl,e⟩ | ⟨y,u,rfl,e⟩
   ·exact nomatch e
   ·injection e with e1 _;rw[e1]
 byValue:=λ k v h=>by rcases bg h with⟨i,t,rfl,rfl⟩ | ⟨x,t,rfl,rfl⟩ <;> rfl
 pyHash:=λ hv h=>by
  rcases bg hv with⟨i,t,rfl,rfl⟩ | ⟨x,t,rfl,rfl⟩
  ·exact wpAny_pyHash_int h
  ·exact wpAny_pyHash_str h
 eqBool:=λ hu hv h=>by
  rcases bg hu with⟨i,t,rfl,rfl⟩ | ⟨x,t,rfl,rfl⟩
  ·rcases bg hv with⟨j,u,rfl,rfl⟩ | ⟨y,u,rfl,rfl⟩
   ·rw[zq]at h;exact wpAny_eqBool_int h
   ·rw[zt]at h;exact SeqAt.EqAt.int_str i t y u _ _ _ _ h
  ·rcases bg hv with⟨j,u,rfl,rfl⟩ | ⟨y,u,rfl,rfl⟩
   ·rw[zu]at h;exact SeqAt.EqAt.str_int x t j u _ _ _ _ h
   ·rw[zr]at h;exact wpAny_eqBool_str h
 «strs» := λ k x t v h=>by
  rcases bg h with⟨i,u,rfl,e⟩ | ⟨y,u,rfl,e⟩
  ·exact nomatch e
  ·injection e with e1 _
   subst e1;cases v <;> rfl
theorem mE(prog:F8)(w:G0)(i:Int)(t:Tok):(aO prog w).is (.inl i) (.int i t)=true:=rK i t
theorem mF(prog:F8)(w:G0)(x:Str)(t:Tok):(aO prog w).is (.inr x) (.str x t)=true:=rL x t
inductive V where
 | non | bl (b:Bool) | int (i:Int) | str (x:Str) | byt (b:Mm UInt8) | flt (b:UInt64) | ref (a:Mi) | ty (n:String)
 deriving DecidableEq
def RelV:V->G1->Prop
 | .non,u=>u=Value.none
 | .bl b,u=>u=Value.bool b
 | .int i,u=>∃t,u=Value.int i t
 | .str x,u=>∃t,u=Value.str x t
 | .byt b,u=>∃t,u=Value.bytes b t
 | .flt b,u=>∃t,u=Value.float b t
 | .ref a,u=>u=Value.ref a
 | .ty n,u=>u=Value.type n
abbrev Vals:Mo V->Mo G1->Prop:=Paired RelV
theorem Vals.length{xs:Mo V}{us:Mo G1}(r:Vals xs us):xs.length=us.length:=E3 r
theorem Vals.get:∀{xs:Mo V}{us:Mo G1}{i:Nat}{x:V},Vals xs us->xs[i]?=some x->∃u,us[i]?=some u/\RelV x u
 | _,_,_,_,.nil,e=>by simp at e
 | _,_,0,_,.cons r _,e=>by simp at e;subst e;exact%[_,O|r]
 | _,_,i+1,x,.cons _ t,e=>by obtain⟨u,h1,h2⟩:=Vals.get (i:=i) (x:=x) t (by simpa using e);exact%[u,by simpa using h1|h2]
theorem Vals.set{x:V}{u:G1}(r:RelV x u):∀{xs:Mo V}{us:Mo G1}(i:Nat),Vals xs us->Vals (xs.set i x) (us.set i u)
 | _,_,_,.nil=>.nil
 | _,_,0,.cons _ t=>.cons r t
 | _,_,i+1,.cons q t=>.cons q (Vals.set r i t)
theorem Vals.append:∀{xs ys:Mo V}{us ws:Mo G1},Vals xs us->Vals ys ws->Vals (xs ++ ys) (us ++ ws)
 | _,_,_,_,.nil,s=>s
 | _,_,_,_,.cons r t,s=>.cons r (Vals.append t s)
theorem Vals.take:∀{xs:Mo V}{us:Mo G1}(n:Nat),Vals xs us->Vals (xs.take n) (us.take n)
 | _,_,0,_=>.nil
 | _,_,_+1,.nil=>.nil
 | _,_,n+1,.cons r t=>.cons r (Vals.take n t)
theorem Vals.drop:∀{xs:Mo V}{us:Mo G1}(n:Nat),Vals xs us->Vals (xs.drop n) (us.drop n)
 | _,_,0,r=>r
 | _,_,_+1,.nil=>.nil
 | _,_,n+1,.cons _ t=>Vals.drop n t
def RelO:Ml V->Ml G1->Prop
 | some v,some u=>RelV v u
 | none,none=>True
 | _,_=>False
def KV{κ:Type}:Mo (κ×V)->Mo (κ×G1)->Prop:=Paired λ (p:κ×V)(q:κ×G1)=>p.1=q.1/\RelV p.2 q.2
def kV:Key->V
 | .inl i=>.int i
 | .inr x=>.str x
inductive HO where
 | lst (xs:Mo V)
 | tup (xs:Mo V)
 | dK (kvs:Mo (Key×V)) | dT (kvs:Mo (Mo Key×V))
 | set (S:Int->Bool) (n:Nat)
 | ins (C dx:Mi) (fs:Mo (Str×V))
 | own (x:Mi)
 | xd (fs:Mo (Str×V))
 | met (f x:Mi)
 | rng (lo hi:Int)
 | frz (o:Obj) (u:HO)
 | tbl (ps:Mm G1)
 | ext (φ:Heap->Prop)
abbrev Hp:=Mi->Ml HO
def upd(H:Hp)(a:Mi)(o:HO):Hp:=λ b=>if b=a then some o else H b
theorem ah{H:Hp}{a:Mi}{o:HO}:upd H a o a=some o:=by unfold upd;rw[Mw rfl]
theorem aj{H:Hp}{a b:Mi}{o:HO}(h:b≠a):upd H a o b=H b:=by unfold upd;rw[Mu h]
theorem yT{H:Hp}{a b:Mi}{o u:HO}(h:H a=some o)(h':H b=some u)(d:o≠u):a≠b:=by intro e;subst e;rw[h]at h';exact d (B9 h')
theorem ak{H:Hp}{a b:Mi}{o:HO}(h:H a=some o)(h':H b=none):a≠b:=by intro e;subst e;rw[h]at h';cases h'
section
variable(P:F8)(w:G0)
def ObjOk(H:Hp)(h:Heap)(a:Mi):HO->Prop
 | .lst xs=>xs.length<=sizeLine/\∃(its:Mo G1)(n:Nat),Vals xs its/\h.get? a=some { cls:=.type "list",data:=.seq its.toArray n }
 | .tup xs=>xs.length<=sizeLine/\∃its:Mo G1,Vals xs its/\IsTup h a its.toArray
 | .dK kvs=>kvs.length<=sizeLine/\(a == sysModules)=false/\∃vs,KV kvs vs/\h.DictOf (aO P w) a vs
 | .dT kvs=>kvs.length<=sizeLine/\(a == sysModules)=false/\∃xs:Mo (Mo Key×Mi×G1),
   Paired (λ (p:Mo Key×V)(q:Mo Key×Mi×G1)=>p.1=q.1/\H q.2.1= ~~~(p.1.map kV)/\RelV p.2 q.2.2) kvs xs /\
   ∃o es ep,h.get? a=some o/\o.ExactDict/\o.data=.dict es ep/\es.toList=xs.map (entryOfKey (tupleKind (aO P w)))/\(xs.map (·.1)).Nodup
 | .set S n=>h.SetOf (intKind P w) a S n
 | .ins C dx fs=>H dx=some (.own a)/\fs.length<=1000/\dx≠a/\h.get? a=some (PySem.W.instObj C dx) /\
   ∃mA,h.Ns1 dx mA/\(∀f,RelO (fs.lookup f) (mA f))/\PySem.Within mA (fs.map (·.1))
 | .own _=>∃o,h.get? a=some o
 | .xd fs=>∃mA,h.Ns1 a mA/\∀f,RelO (fs.lookup f) (mA f)
 | .rng lo hi=>∃t u v,h.get? a=some { cls:=.type "range",data:=.fields #[.int lo t,.int hi u,.int 1 v] }
 | .frz o u=>h.get? a=some o/\ObjOk H h a u
 | .tbl ps=>h.get? a=some { cls:=.none,data:=.fields ps }
 | .met f x=>h.get? a=some (PySem.W.methodObj (.ref f) (.ref x))
 | .ext φ=>φ h/\(∃o,h.get? a=some o)/\∀h1 h2:Heap,φ h1->(∀o,h1.get? a=some o->h2.get? a=some o)->φ h2
def HOk(H:Hp)(h:Heap):Prop:=∀a o,H a=some o->ObjOk P w H h a o
end
section
variable{P:F8}{w:G0}{H H':Hp}{h h':Heap}{a:Mi}{o:HO}
theorem ObjOk.lt(x:ObjOk P w H h a o):a < h.objs.size:=by
 cases o with
 | lst xs=>obtain⟨_,_,_,_,e⟩:=x;exact A9 e
 | tup xs=>obtain⟨_,_,_,p⟩:=x;exact p.lt
 | dK kvs=>obtain⟨_,_,_,_,o,_,_,e,_⟩:=x;exact A9 e
 | dT kvs=>obtain⟨_,_,_,_,o,_,_,e,_⟩:=x;exact A9 e
 | set S n=>obtain⟨o,_,_,_,e,_⟩:=x;exact A9 e
 | ins C dx fs=>obtain⟨_,_,_,e,_⟩:=x;exact A9 e
 | own y=>obtain⟨_,e⟩:=x;exact A9 e
 | xd fs=>obtain⟨_,⟨_,_,_,e,_⟩,_⟩:=x;exact A9 e
 | rng lo hi=>obtain⟨_,_,_,e⟩:=x;exact A9 e
 | frz ob u=>obtain⟨e,_⟩:=x;exact A9 e
 | tbl ps=>exact A9 (show h.get? a=some _ from x)
 | met f y=>exact A9 (show h.get? a=some _ from x)
 | ext φ=>obtain⟨_,⟨_,e⟩,_⟩:=x;exact A9 e
theorem Paired.mapP{α β:Type}{F G:α->β->Prop}:∀{l₁:Mo α}{l₂:Mo β},Paired F l₁ l₂->(∀a b,F a b->G a b)->Paired G l₁ l₂
 | _,_,.nil,_=>.nil
 | _,_,.cons r t,f=>.cons (f _ _ r) (Paired.mapP t f)
abbrev G5:=@Paired.mapP
theorem ObjOk.stay(x:ObjOk P w H h a o)(k:∀b u,(b=a\/H b=some (.own a))->h.get? b=some u->h'.get? b=some u)
  (ho:∀b,H b=some (.own a)->H' b=some (.own a)) (ht:∀b xs,H b= ~~~xs->H' b= ~~~xs):ObjOk P w H' h' a o:=by
 induction o with
 | lst xs=>obtain⟨z,its,n,r,e⟩:=x;exact%[z,its,n,r|k _ _ (.inl rfl) e]
 | tup xs=>obtain⟨z,its,r,ob,e,c⟩:=x;exact%[z,its,r,ob,k _ _ (.inl rfl) e|c]
 | dK kvs=>obtain⟨z,y,vs,r,ob,es,ep,e,c⟩:=x;exact%[z,y,vs,r,ob,es,ep,k _ _ (.inl rfl) e|c]
 | dT kvs=>
  obtain⟨z,y,xs,r,ob,es,ep,e,c⟩:=x;exact%[z,y,xs,G5 r λ p q z=>%[z.1,ht _ _ z.2.1|z.2.2],ob,es,ep,k _ _ (.inl rfl) e|c]
 | set S n=>obtain⟨ob,es,ep,t,e,c⟩:=x;exact%[ob,es,ep,t,k _ _ (.inl rfl) e|c]
 | ins C dx fs=>
  obtain⟨d,z,ne,e,mA,⟨od,es,ep,e2,c⟩,r⟩:=x;exact%[ho _ d,z,ne,k _ _ (.inl rfl) e,mA,%[od,es,ep,k _ _ (.inr d) e2|c]|r]
 | own y=>obtain⟨ob,e⟩:=x;exact%[ob|k _ _ (.inl rfl) e]
 | xd fs=>obtain⟨mA,⟨od,es,ep,e,c⟩,r⟩:=x;exact%[mA,%[od,es,ep,k _ _ (.inl rfl) e|c]|r]
 | rng lo hi=>obtain⟨t,u,v,e⟩:=x;exact%[t,u,v|k _ _ (.inl rfl) e]
 | frz ob u ih=>obtain⟨e,q⟩:=x;exact%[k _ _ (.inl rfl) e|ih q]
 | tbl ps=>
  have e:h.get? a=some { cls:=.none,data:=.fields ps }:=x;show h'.get? a=some { cls:=.none,data:=.fields ps };exact k a _ (.inl rfl) e
 | met f y=>
  have e:h.get? a=some (PySem.W.methodObj (.ref f) (.ref y)):=x;show h'.get? a=some (PySem.W.methodObj (.ref f) (.ref y));exact k a _ (.inl rfl) e
 | ext φ=>obtain⟨p,⟨o,e⟩,st⟩:=x;exact%[st _ _ p λ o q=>k _ _ (.inl rfl) q,%[o|k _ _ (.inl rfl) e]|st]
theorem HOk.lt(x:HOk P w H h)(e:H a=some o):a < h.objs.size:=(x a o e).lt
theorem HOk.fresh(x:HOk P w H h)(e:h.objs.size<=a):H a=none:=by
 cases q:H a with
 | none=>rfl
 | some u=>exact absurd (C3 (x.lt q) e) (E1 _)
theorem HOk.kept(x:HOk P w H h)(k:∀b u,h.get? b=some u->h'.get? b=some u):HOk P w H h':=λ a o e=>
 (x a o e).stay (λ b u _ q=>k b u q) (λ _ q=>q) λ _ _ q=>q
theorem HOk.laid(x:HOk P w H h)(k:∀b u,h.get? b=some u->h'.get? b=some u)(hp:h.objs.size<=a)(new:ObjOk P w (upd H a o) h' a o):HOk P w (upd H a o) h':=λ b u e=>by
 have hn:=x.fresh hp
 by_cases hb:b=a
 ·subst hb;rw[ah]at e;cases e;exact new
 ·rw[aj hb]at e;exact(x b u e).stay (λ c v _ q=>k c v q) (λ c q=>by rw[aj (ak q hn)];exact q) λ c xs q=>by rw[aj (ak q hn)];exact q
end
def Rd(H:Hp)(a:Mi)(u:HO):Prop:=H a=some u\/∃o,H a=some (.frz o u)
theorem Rd.ok{P:F8}{w:G0}{H:Hp}{h:Heap}{a:Mi}{u:HO}(r:Rd H a u)(x:HOk P w H h):ObjOk P w H h a u:=by
 rcases r with r | ⟨o,r⟩
 ·exact x a u r
 ·obtain⟨_,q⟩:=x a _ r;exact q
def Mut:Ml HO->Prop
 | ↥_=>True
 | some (.dK _)=>True
 | some (.dT _)=>True
 | some (.set _ _)=>True
 | some (.ins _ _ _)=>True
 | some (.ext _)=>True
 | _=>False
section
variable{P:F8}{w:G0}{H:Hp}{h h':Heap}{x e:Mi}{o':HO}
theorem HOk.write(ok:HOk P w H h)(mu:Mut (H x))(he:e=x\/H e=some (.own x))(k:∀b u,b≠e->h.get? b=some u->h'.get? b=some u)(heo:∃u,h'.get? e=some u)
  (new:ObjOk P w (upd H x o') h' x o'):HOk P w (upd H x o') h':=λ b u q=>by
 have nown:∀c y,H c=some (.own y)->c≠x:=λ c y r z=>by subst z;rw[r]at mu;exact mu
 have ntup:∀c xs,H c= ~~~xs->c≠x:=λ c xs r z=>by subst z;rw[r]at mu;exact mu
 by_cases hb:b=x
 ·subst hb;rw[ah]at q;cases q;exact new
 ·rw[aj hb]at q
  by_cases hbe:b=e
  ·have q':H b=some (.own x):=by
    rcases he with z | z
    ·exact absurd (hbe.trans z) hb
    ·rw[hbe];exact z
   rw[q]at q';cases q';obtain⟨v,hv⟩:=heo;exact%[v|by rw[hbe];exact hv]
  ·refine(ok b u q).stay (λ c v hc r=>k c v ?_ r) (λ c r=>by rw[aj (nown c b r)];exact r) λ c xs r=>by rw[aj (ntup c xs r)];exact r
   rcases hc with rfl | hc
   ·exact hbe
   ·rintro rfl;rcases he with z | z
    ·exact nown c b hc z
    ·rw[hc]at z;cases z;exact hb rfl
end
structure Un(fs ex:Mo Mi)(H H':Hp)(h h':Heap):Prop where
 keep:∀b o,h.get? b=some o->H b=none->b∉fs->b∉ex->h'.get? b=some o
 slot:∀b o,h.get? b=some o->H b=none->b∈fs->b∉ex->∃sl,h'.get? b=some { o with slots:=sl }
 free:∀b o,h.get? b=some o->H b=none->b∉ex->H' b=none
 there:∀b o,h.get? b=some o->b∉ex->∃o',h'.get? b=some o'
 tups:∀b xs,H b= ~~~xs->H' b= ~~~xs
 frzs:∀b o u,H b=some (.frz o u)->H' b=some (.frz o u)
 tbls:∀b ps,H b=some (.tbl ps)->∃more,H' b=some (.tbl (ps ++ more))
section
variable{fs fs' ex ex':Mo Mi}{H H1 H2:Hp}{h h1 h2 h':Heap}{a x e:Mi}{o:HO}
theorem Un.any(u:Un fs ex H H1 h h1){b:Mi}{ob:Obj}(q:h.get? b=some ob)(n:H b=none)(hx:b∉ex):∃sl,h1.get? b=some { ob with slots:=sl }:=by
 by_cases hb:b∈fs
 ·exact u.slot b ob q n hb hx
 ·exact%[ob.slots|u.keep b ob q n hb hx]
theorem Un.kept(k:∀b u,h.get? b=some u->h'.get? b=some u):Un fs ex H H h h' :=
 %[λ b ob q _ _ _=>k b ob q,λ b ob q _ _ _=>%[ob.slots|k b ob q],λ _ _ _ n _=>n,λ b ob q _=>%[ob|k b ob q],λ _ _ q=>q,λ _ _ _ q=>q|λ _ ps q=>%[#[]|by rw[q];simp]]
theorem Un.refl:Un fs ex H H h h:=Un.kept λ _ _ q=>q
theorem Un.laid(k:∀b u,h.get? b=some u->h'.get? b=some u)(hp:h.objs.size<=a)(hn:H a=none):Un fs ex H (upd H a o) h h' where
 keep:=λ b u q _ _ _=>k b u q
 slot:=λ b u q _ _ _=>%[u.slots|k b u q]
 free:=λ b u q n _=>by rw[aj (C0 (C3 (Heap.lt_size q) hp))];exact n
 there:=λ b u q _=>%[u|k b u q]
 tups:=λ b xs q=>by rw[aj (ak q hn)];exact q
 frzs:=λ b u xs q=>by rw[aj (ak q hn)];exact q
 tbls:=λ b ps q=>%[#[]|by rw[aj (ak q hn),q];simp]
theorem Un.write(mu:Mut (H x))(he:e=x\/H e=some (.own x))(k:∀b u,b≠e->h.get? b=some u->h'.get? b=some u)(heo:∃u,h'.get? e=some u):Un fs ex H (upd H x o) h h':=by
 have hx:∀b,H b=none->b≠x:=λ b n z=>by subst z;rw[n]at mu;exact mu
 have hb:∀b,H b=none->b≠e:=λ b n z=>by
  subst z;rcases he with r | r
  ·exact hx b n r
  ·rw[n]at r;cases r
 have hm:∀b u,H b=some u->¬ Mut (some u)->b≠x:=λ b u q nm z=>by subst z;rw[q]at mu;exact nm mu
 refine⟨λ b u q n _ _=>k b u (hb b n) q,λ b u q n _ _=>%[u.slots|k b u (hb b n) q],λ b u q n _=>by rw[aj (hx b n)];exact n,λ b u q _=>?_,
  λ b xs q=>by rw[aj (hm b _ q λ z=>z)];exact q,λ b u xs q=>by rw[aj (hm b _ q λ z=>z)];exact q,λ b ps q=>%[#[]|by rw[aj (hm b _ q λ z=>z),q];simp]⟩
 by_cases hbe:b=e
 ·subst hbe;exact heo
 ·exact%[u|k b u hbe q]
end
def trk(h:Heap)(H:Hp):Mo Mi:=(List.range h.objs.size).filter λ a=>(H a).isSome
def lf(h:Heap)(H:Hp):Heap:=PySem.W.hideAll h (trk h H)
theorem rM(h:Heap)(H:Hp):(lf h H).objs.size=h.objs.size:=PySem.W.hideAll_size _ _
theorem uy{h:Heap}{H:Hp}{b:Mi}{o:Obj}(e:h.get? b=some o)(n:H b=none):(lf h H).get? b=some o :=
 PySem.W.hideAll_get _ e λ hm=>by have q:(H b).isSome=true:=(MJ.mp hm).2;rw[n]at q;simp at q
theorem xg{h:Heap}{H:Hp}{b:Mi}{o:Obj}(e:(lf h H).get? b=some o):h.get? b=some o/\H b=none:=by
 have e':h.get? b=some o:=PySem.W.of_hideAll (trk h H) e;refine%[e'|?_];cases q:H b with
 | none=>rfl
 | some x=>
  have hm:b∈trk h H:=MJ.mpr %[LM.mpr (A9 e')|by simp[q]];have z:(lf h H).get? b=none:=PySem.W.hideAll_none (trk h H) hm;rw[z]at e;cases e
def xh(g h:Heap)(L:Mi):Mo (Mi×Obj):=(List.range h.objs.size).filterMap λ a=>if a=L\/(g.get? a).isSome=true then none else(h.get? a).map λ o=>(a,o)
def rest(g h:Heap)(L d:Mi):Mo (Mi×Obj):=(xh g h L).filter λ p=>decide (p.1≠d)
structure Mod(K:C6)(mg:Str->Ml Value)(base:Heap):Prop where
 kin:K.In base
 glob:base.Ns Mp mg
 blt:∃mb,base.Ns builtinsNs mb/\∀x:Str,x ≠ "__name__" -> mb x=bootBuiltins x
 nolimit:base.NoLimit
/-- the context: a def's body (or a comprehension's block) running. base: fixed through the aQ law;s₀,H₀: the entry;outer: the frames whose slots others may change (a def's callers);stack: all frames that run;
   ex: iterators that were made ahead of the entry and are walked here (a comprehension's);fn: the names whose cells were made at the entry (a def: all;a comprehension's block: its own);calm: not within an except suite;pn: Mq that every state bears;xe: what is wanted of an exception that leaves the code -/
structure Cx where
 prog:Program
 w:World
 K:C6
 mg:Str->Ml Value
 base:Heap
 A:Around
 N:Mo Str
 s₀:Shared
 H₀:Hp
 env:Env
 outer:Mo Env
 stack:Mo Env
 ex:Mo Mi
 fn:Str->Bool
 calm:Bool
 pn:Mo (Mi×Obj)
 xe:G1->F7->Prop
def frs(l:Mo Env):Mo Mi:=l.filterMap (·.frame)
abbrev Cx.fs(X:Cx):Mo Mi:=frs X.outer
def Vis(sc:Scope)(x:Str):Prop:=sc.names.lookup x=some .local\/sc.names.lookup x=some .cell\/sc.names.lookup x=some .free
def Loc(sc:Scope)(x:Str):Prop:=sc.names.lookup x=some .local\/sc.names.lookup x=some .cell
def Jb(env:Env)(h:Heap)(m:Str->Ml G1)(x:Str)(u:G1):Prop :=
 (env.kindOf x=some .local/\m x=some u)\/((env.kindOf x=some .cell\/env.kindOf x=some .free)/\∃c,env.cells.lookup x=some c/\h.IsCell c (some u))
structure Cx.Ok(X:Cx):Prop where
 mod:Mod X.K X.mg X.base
 kind:X.env.scope.kind=.function
 glob:X.env.globals=Mp
 blt:X.env.builtins=builtinsNs
 above:X.s₀.heap.objs.size<=X.env.locals
 inj:∀x y c,X.env.cells.lookup x=some c->X.env.cells.lookup y=some c->x=y
 has:∀x,(X.env.kindOf x=some .cell\/X.env.kindOf x=some .free)->∃c,X.env.cells.lookup x=some c
 cab:∀x c,X.fn x=true->X.env.cells.lookup x=some c->X.s₀.heap.objs.size<=c
 hd:X.calm=true->X.A.handled=none
 frames:X.A.frames=some X.stack
 stk:X.stack=X.outer\/(X.stack=X.env :: X.outer/\X.env.frame=some X.env.locals)
 exf:∀b∈X.ex,b≠X.env.locals/\∀x c,X.env.cells.lookup x=some c->c≠b
 bs:∀b o,X.base.get? b=some o->X.s₀.heap.get? b=some o/\X.H₀ b=none
 bsz:X.base.objs.size<=X.s₀.heap.objs.size
 noex:∀b o,X.base.get? b=some o->b∉X.ex
 exfs:∀b∈X.ex,b∉X.fs
 funs:X.s₀.heap.FunFrames X.base X.outer
 frf:∀b∈X.fs,X.H₀ b=none
structure Inv(X:Cx)(Mq:Mo (Mi×Obj))(σ:Mo (Ml V))(H:Hp)(s:Shared):Prop where
 ok:X.Ok
 os:s.os=X.s₀.os
 bare:AllBare s.gens
 base:Un X.fs X.ex X.H₀ H X.s₀.heap s.heap
 loc:∃m,s.heap.Ns X.env.locals m/\∀(i:Nat)(x:Str)(v:V),X.N[i]?=some x->σ[i]?=some (some v)->Vis X.env.scope x->∃u,RelV v u/\Jb X.env s.heap m x u
 cell:∀x c,X.env.cells.lookup x=some c->∃v,s.heap.IsCell c v
 free:H X.env.locals=none
 freeC:∀x c,X.env.cells.lookup x=some c->H c=none
 pin:∀p∈X.pn ++ Mq,s.heap.get? p.1=some p.2/\H p.1=none/\p.1≠X.env.locals/\p.1∉X.fs/\∀v,p.2.data≠.cell v
 hok:HOk X.prog X.w H s.heap
 len:σ.length=X.N.length
section
variable{X:Cx}{Mq:Mo (Mi×Obj)}{σ:Mo (Ml V)}{H H':Hp}{s:F7}{h':Heap}
theorem Cx.Ok.nofr(ok:X.Ok){b:Mi}{o:Obj}(e:X.base.get? b=some o):b∉X.fs:=λ hb=>by have:=(ok.funs.mem hb).1;rw[e]at this;cases this
theorem Inv.bs(I:Inv X Mq σ H s):∀b o,X.base.get? b=some o->s.heap.get? b=some o/\H b=none:=λ b o e=>
 %[I.base.keep b o (I.ok.bs b o e).1 (I.ok.bs b o e).2 (I.ok.nofr e) (I.ok.noex b o e)|I.base.free b o (I.ok.bs b o e).1 (I.ok.bs b o e).2 (I.ok.noex b o e)]
theorem Inv.bk(I:Inv X Mq σ H s):∀b o,X.base.get? b=some o->s.heap.get? b=some o:=λ b o e=>(I.bs b o e).1
theorem Inv.mod(I:Inv X Mq σ H s):Mod X.K X.mg X.base:=I.ok.mod
theorem Inv.kIn(I:Inv X Mq σ H s):X.K.In s.heap:=I.ok.mod.kin.keeps I.bk
theorem Inv.fr(I:Inv X Mq σ H s):∃m,Fr X.base X.env.locals s.heap m :=
 let ⟨m,hn,_⟩:=I.loc
 %[m,hn,I.bk|C7 I.ok.bsz I.ok.above]
theorem Inv.lt(I:Inv X Mq σ H s):X.env.locals < s.heap.objs.size:=let ⟨_,hn,_⟩:=I.loc;hn.lt
theorem Inv.sz(I:Inv X Mq σ H s):X.s₀.heap.objs.size<=s.heap.objs.size:=C7 I.ok.above (C9 I.lt)
theorem Inv.nofs(I:Inv X Mq σ H s){a:Mi}(h:s.heap.objs.size<=a):a∉X.fs:=λ hb=>by obtain⟨_,o,ho,_⟩:=I.ok.funs.mem hb;exact absurd (C3 (A9 ho) (C7 I.sz h)) (E1 _)
theorem Inv.cne(I:Inv X Mq σ H s):∀x c,X.env.cells.lookup x=some c->c≠X.env.locals:=λ x c e z=>by obtain⟨v,o,ho,hd⟩:=I.cell x c e;obtain⟨m,⟨o',es,ep,ho',hd',_⟩,_⟩:=I.loc;rw[z,ho']at ho;cases ho;rw[hd']at hd;cases hd
theorem Inv.funs(I:Inv X Mq σ H s):s.heap.FunFrames X.base X.outer:=by
 have all:∀(l:Mo Env),(∀b∈frs l,b∈X.fs)->X.s₀.heap.FunFrames X.base l->s.heap.FunFrames X.base l:=by
  intro l
  induction l with
  | nil=>intro _ _;trivial
  | cons env r ih=>
   intro hs hl;obtain⟨hk,⟨L,o,hf,hn,ho,hd⟩,hr⟩:=hl;have hL:L∈X.fs:=hs L (by unfold frs;rw[MC,hf];exact B8);obtain⟨sl,e⟩:=I.base.slot L o ho (I.ok.frf L hL) hL λ z=>I.ok.exfs L z hL;exact%[hk,%[L,_,hf,hn,e|hd]|ih (λ b hb=>hs b (by unfold frs;rw[MC,hf];exact B5 _ hb)) hr]
 exact all X.outer (λ _ hb=>hb) I.ok.funs
theorem Inv.stack(I:Inv X Mq σ H s):s.heap.FunFrames X.base X.stack:=by
 rcases I.ok.stk with e | ⟨e,hf⟩
 ·rw[e];exact I.funs
 ·rw[e];obtain⟨m,hn,_⟩:=I.loc;refine .cons (by rw[I.ok.kind];decide) hf hn ?_ I.funs;exact Heap.get?_none_of_le (C7 I.ok.bsz I.ok.above)
theorem Inv.stkSub(I:Inv X Mq σ H s):∀b∈frs X.stack,b∈X.env.locals :: X.fs:=λ b hb=>by
 rcases I.ok.stk with e | ⟨e,hf⟩
 ·rw[e]at hb;exact B5 _ hb
 ·rw[e]at hb;unfold frs at hb;rw[MC,hf]at hb;exact hb
theorem Inv.stkFree(I:Inv X Mq σ H s):∀b∈frs X.stack,H b=none:=λ b hb=>by
 rcases G7.mp (I.stkSub b hb)with e | hb
 ·rw[e];exact I.free
 ·obtain⟨_,o,ho,_⟩:=I.ok.funs.mem hb;exact I.base.free b o ho (I.ok.frf b hb) λ z=>I.ok.exfs b z hb
theorem Inv.step{g':Mm GenState}{t':Nat}{d':Drawn}{ch:Mo Mi}(I:Inv X Mq σ H s)
  (hch:∀b∈ch,(b∈X.ex\/X.s₀.heap.objs.size<=b)/\b≠X.env.locals/\(∀x c,X.env.cells.lookup x=some c->c≠b)/\∀p∈X.pn ++ Mq,p.1≠b)
  (keep:∀b o,b≠X.env.locals->b∉X.fs->b∉ch->s.heap.get? b=some o->H b=none->h'.get? b=some o)
  (slot:∀b o,b≠X.env.locals->b∈X.fs->b∉ch->s.heap.get? b=some o->H b=none->∃sl,h'.get? b=some { o with slots:=sl }) (free:∀b o,b∉ch->s.heap.get? b=some o->H b=none->H' b=none)
  (there:∀b o,b∉ch->s.heap.get? b=some o->∃o',h'.get? b=some o')
  (tups:∀b xs,H b= ~~~xs->H' b= ~~~xs) (frzs:∀b o u,H b=some (.frz o u)->H' b=some (.frz o u)) (tbls:∀b ps,H b=some (.tbl ps)->∃more,H' b=some (.tbl (ps ++ more)))
  (ns:∀m,s.heap.Ns X.env.locals m->h'.Ns X.env.locals m) (hok:HOk X.prog X.w H' h') (hg:AllBare g') :
  Inv X Mq σ H' { s with heap:=h',gens:=g',drawn:=d',toks:=t' }:=by
 have neL:∀b o,X.s₀.heap.get? b=some o->b≠X.env.locals:=λ b o e=>C0 (C3 (A9 e) I.ok.above);have neC:∀b o,X.s₀.heap.get? b=some o->b∉X.ex->b∉ch:=λ b o e hx hb=>by
  rcases(hch b hb).1 with z | z
  ·exact hx z
  ·exact absurd (C3 (A9 e) z) (E1 _)
 have cellK:∀x c,X.env.cells.lookup x=some c->∀v,s.heap.IsCell c v->h'.IsCell c v:=λ x c e v ⟨o,ho,hd⟩=>by
  have nch:c∉ch:=λ z=>(hch c z).2.2.1 x c e rfl
  by_cases hc:c∈X.fs
  ·obtain⟨sl,q⟩:=slot c o (I.cne x c e) hc nch ho (I.freeC x c e);exact%[_,q|hd]
  ·exact%[o,keep c o (I.cne x c e) hc nch ho (I.freeC x c e)|hd]
 refine%[I.ok,I.os,hg,%[λ b o e n hb hx=>?_,λ b o e n hb hx=>?_,λ b o e n hx=>?_,λ b o e hx=>?_,λ b xs e=>tups b xs (I.base.tups b xs e),λ b o xs e=>frzs b o xs (I.base.frzs b o xs e)|λ b ps e=>?_],?_,λ x c e=>?_,?_,λ x c e=>?_,λ p hp=>?_,hok|I.len]
 ·exact keep b o (neL b o e) hb (neC b o e hx) (I.base.keep b o e n hb hx) (I.base.free b o e n hx)
 ·obtain⟨sl,e1⟩:=I.base.slot b o e n hb hx;obtain⟨sl',e2⟩:=slot b _ (neL b o e) hb (neC b o e hx) e1 (I.base.free b o e n hx);exact%[sl'|e2]
 ·obtain⟨o',e1⟩:=I.base.there b o e hx;exact free b o' (neC b o e hx) e1 (I.base.free b o e n hx)
 ·obtain⟨o',e1⟩:=I.base.there b o e hx;exact there b o' (neC b o e hx) e1
 ·obtain⟨m1,e1⟩:=I.base.tbls b ps e;obtain⟨m2,e2⟩:=tbls b _ e1;exact%[m1 ++ m2|by rw[e2,Array.append_assoc]]
 ·obtain⟨m,hn,hl⟩:=I.loc;refine%[m,ns m hn|λ i x v e1 e2 e3=>?_];obtain⟨u,r,l⟩:=hl i x v e1 e2 e3;refine%[u,r|?_];rcases l with l | ⟨k,c,e,z⟩
  ·exact .inl l
  ·exact .inr %[k,c,e|cellK x c e _ z]
 ·obtain⟨v,z⟩:=I.cell x c e;exact%[v|cellK x c e v z]
 ·obtain⟨m,⟨o,_,_,ho,_⟩,_⟩:=I.loc;exact free _ o (λ z=>(hch _ z).2.1 rfl) ho I.free
 ·obtain⟨v,o,ho,hd⟩:=I.cell x c e;exact free c o (λ z=>(hch c z).2.2.1 x c e rfl) ho (I.freeC x c e)
 ·obtain⟨e,n,ne,nf,d⟩:=I.pin p hp;have nch:p.1∉ch:=λ z=>(hch p.1 z).2.2.2 p hp rfl;exact%[keep p.1 p.2 ne nf nch e n,free p.1 p.2 nch e n,ne,nf|d]
theorem Inv.un{t':Nat}(I:Inv X Mq σ H s)(u:Un X.fs [] H H' s.heap h')(hok:HOk X.prog X.w H' h'):Inv X Mq σ H' { s with heap:=h',toks:=t' }:=by
 obtain⟨m,⟨o,es,ep,ho,r⟩,_⟩:=id I.loc;obtain⟨sl,hL⟩:=u.any ho I.free (by simp);exact I.step (g':=s.gens) (d':=s.drawn) (ch:=[]) (λ _ z=>nomatch z) (λ b o _ hb _ e n=>u.keep b o e n hb (by simp)) (λ b o _ hb _ e n=>u.slot b o e n hb (by simp)) (λ b o _ e n=>u.free b o e n (by simp)) (λ b o _ e=>u.there b o e (by simp)) u.tups u.frzs u.tbls (λ m' hm=>by
  obtain⟨o',es',ep',ho',r'⟩:=hm;rw[ho]at ho';cases ho';exact%[_,es',ep',hL|r']) hok I.bare
theorem Inv.call{g':Mm GenState}{t':Nat}{d':Drawn}{ch:Mo Mi}(I:Inv X Mq σ H s)(u:Un (frs X.stack) ch H H' s.heap h')(hok:HOk X.prog X.w H' h')(hg:AllBare g')
  (hch:∀b∈ch,(b∈X.ex\/X.s₀.heap.objs.size<=b)/\b≠X.env.locals/\(∀x c,X.env.cells.lookup x=some c->c≠b)/\∀p∈X.pn ++ Mq,p.1≠b) :
  Inv X Mq σ H' { s with heap:=h',gens:=g',drawn:=d',toks:=t' }:=by
 obtain⟨m,⟨o,es,ep,ho,r⟩,_⟩:=id I.loc;obtain⟨sl,hL⟩:=u.any ho I.free λ z=>(hch _ z).2.1 rfl;exact I.step (ch:=ch) hch (λ b o hL hb hc e n=>u.keep b o e n (λ z=>(G7.mp (I.stkSub b z)).elim hL hb) hc) (λ b o _ _ hc e n=>u.any e n hc) (λ b o hc e n=>u.free b o e n hc) (λ b o hc e=>u.there b o e hc) u.tups u.frzs u.tbls (λ m' hm=>by
  obtain⟨o',es',ep',ho',r'⟩:=hm;rw[ho]at ho';cases ho';exact%[_,es',ep',hL|r']) hok hg
theorem Inv.turned{t':Nat}{it:Mi}(I:Inv X Mq σ H s)(k:∀b o,b≠it->s.heap.get? b=some o->h'.get? b=some o)(hn:H it=none)(hL:it≠X.env.locals)
  (h1:it∈X.ex\/X.s₀.heap.objs.size<=it) (h2:∀x c,X.env.cells.lookup x=some c->c≠it) (h3:∀p∈X.pn ++ Mq,p.1≠it):Inv X Mq σ H { s with heap:=h',toks:=t' }:=by
 have nit:∀b u,H b=some u->b≠it:=λ b u e z=>by rw[z,hn]at e;cases e
 refine I.step (g':=s.gens) (d':=s.drawn) (ch:=[it]) (λ b hb=>?_) (λ b o _ _ hc e _=>k b o (λ z=>hc (by simp[z])) e) (λ b o _ _ hc e _=>%[o.slots|k b o (λ z=>hc (by simp[z])) e]) (λ _ _ _ _ n=>n)
  (λ b o hc e=>%[o|k b o (λ z=>hc (by simp[z])) e]) (λ _ _ e=>e) (λ _ _ _ e=>e) (λ b ps e=>%[#[]|by rw[e];simp]) (λ m hm=>?_) (λ b u e=>?_) I.bare
 ·have e:b=it:=by simpa using hb
  subst e;exact%[h1,hL,h2|h3]
 ·obtain⟨o,es,ep,ho,r⟩:=hm;exact%[o,es,ep,k _ o (Ne.symm hL) ho|r]
 ·refine(I.hok b u e).stay (λ c v hc q=>k c v ?_ q) (λ _ q=>q) λ _ _ q=>q;rcases hc with z | z
  ·rw[z];exact nit b u e
  ·exact nit c _ z
theorem Inv.tok(I:Inv X Mq σ H s)(t:Nat):Inv X Mq σ H { s with toks:=t }:=I.un (h':=s.heap) (t':=t) Un.refl I.hok
theorem Inv.kept{t':Nat}(I:Inv X Mq σ H s)(k:∀b u,s.heap.get? b=some u->h'.get? b=some u):Inv X Mq σ H { s with heap:=h',toks:=t' }:=I.un (Un.kept k) (I.hok.kept k)
theorem Inv.laid{a:Mi}{o:HO}{t':Nat}(I:Inv X Mq σ H s)(k:∀b u,s.heap.get? b=some u->h'.get? b=some u)(hp:s.heap.objs.size<=a)(new:ObjOk X.prog X.w (upd H a o) h' a o) :
  Inv X Mq σ (upd H a o) { s with heap:=h',toks:=t' }:=I.un (Un.laid k hp (I.hok.fresh hp)) (I.hok.laid k hp new)
theorem Inv.write{x e:Mi}{o:HO}{t':Nat}(I:Inv X Mq σ H s)(mu:Mut (H x))(he:e=x\/H e=some (.own x))(k:∀b u,b≠e->s.heap.get? b=some u->h'.get? b=some u)(heo:∃u,h'.get? e=some u)
  (new:ObjOk X.prog X.w (upd H x o) h' x o):Inv X Mq σ (upd H x o) { s with heap:=h',toks:=t' }:=I.un (Un.write mu he k heo) (I.hok.write mu he k heo new)
theorem Inv.weak{σ':Mo (Ml V)}(I:Inv X Mq σ H s)(hl:σ'.length=σ.length)(w:∀ (i:Nat) v,σ'[i]?=some (some v)->σ[i]?=some (some v)):Inv X Mq σ' H s :=
 %[I.ok,I.os,I.bare,I.base,let ⟨m,hn,hl'⟩:=I.loc;%[m,hn|λ i x v e1 e2 e3=>hl' i x v e1 (w i v e2) e3],I.cell,I.free,I.freeC,I.pin,I.hok|hl.trans I.len]
theorem Inv.pins_of{pins':Mo (Mi×Obj)}(I:Inv X Mq σ H s)(h:∀p∈pins',s.heap.get? p.1=some p.2/\H p.1=none/\p.1≠X.env.locals/\p.1∉X.fs/\∀v,p.2.data≠.cell v):Inv X pins' σ H s :=
 %[I.ok,I.os,I.bare,I.base,I.loc,I.cell,I.free,I.freeC,λ p hp=>(C4.mp hp).elim (λ z=>I.pin p (B7 _ z)) (h p),I.hok|I.len]
theorem iV{N:Mo Str}(hN:N.Nodup){i j:Nat}{x:Str}(a:N[i]?=some x)(b:N[j]?=some x):i=j:=by obtain⟨h1,e1⟩:=A6.mp a;obtain⟨h2,e2⟩:=A6.mp b;exact(List.getElem_inj hN).mp (e1.trans e2.symm)
theorem ki{M:Model}{A:Around}{E:G1->F7->Prop}{i:Nat}{x:Str}{v:V}{u:G1}{Q:Unit->F7->Prop}(I:Inv X Mq σ H s)(hN:X.N.Nodup)(hi:X.N[i]?=some x)(hx:Loc X.env.scope x)(r:RelV v u)
  (h:∀s',Inv X Mq (σ.set i (some v)) H s'->(∃a,Heap.SameBut a s.heap s'.heap/\(a=X.env.locals\/X.env.cells.lookup x=some a))->Q () s') (hf:X.fn x=true\/X.env.scope.names.lookup x=some .local:=by first | exact .inl rfl | exact .inr rfl | assumption):wpAny M A (storeName X.env x u) Q E s:=by
 obtain⟨m,hn,hl⟩:=id I.loc;have hcls:(X.env.scope.kind == .class || (X.env.scope.kind == .module && X.env.locals != X.env.globals))=false:=by rw[I.ok.kind];rfl
 have hiσ:i < σ.length:=by rw[I.len];exact(A6.mp hi).1
 have cne:=I.cne;have tracked:∀{a:Mi}{h':Heap},(∃o,s.heap.get? a=some o/\H a=none)->Heap.SameBut a s.heap h'->HOk X.prog X.w H h':=λ {a h'} ha hs b ob e=>by
  obtain⟨_,_,hfree⟩:=ha;refine(I.hok b ob e).stay (λ c w' hc q=>(hs.2 c ?_).trans q) (λ _ q=>q) λ _ _ q=>q;rintro rfl;rcases hc with rfl | hc
  ·rw[hfree]at e;cases e
  ·rw[hfree]at hc;cases hc
 rcases hx with hk | hk
 ·refine wpAny_storeName_local hk hn (λ h' hn' hs=>?_) hcls;obtain⟨oL,_,_,hoL,_⟩:=id hn;refine h _ %[I.ok,I.os,I.bare,%[λ b o e n hb hx=>?_,λ b o e n hb hx=>?_,I.base.free,λ b o e hx=>?_,I.base.tups,I.base.frzs|I.base.tbls],%[_,hn'|λ j y v' e1 e2 e3=>?_],λ y c e=>?_,I.free,I.freeC,λ p hp=>?_,tracked %[oL,hoL|I.free] hs|by simpa using I.len] %[_,hs|.inl rfl]
  ·exact(hs.2 b (C0 (C3 (A9 e) I.ok.above))).trans (I.base.keep b o e n hb hx)
  ·obtain⟨sl,e1⟩:=I.base.slot b o e n hb hx;exact%[sl|(hs.2 b (C0 (C3 (A9 e) I.ok.above))).trans e1]
  ·obtain⟨o',e1⟩:=I.base.there b o e hx;exact%[o'|(hs.2 b (C0 (C3 (A9 e) I.ok.above))).trans e1]
  ·by_cases hj:j=i
   ·subst hj;rw[hi]at e1;cases e1;rw[MU hiσ]at e2;cases e2;exact%[u,r|.inl %[hk|by simp]]
   ·rw[List.getElem?_set_ne (Ne.symm hj)]at e2;obtain⟨u',r',q⟩:=hl j y v' e1 e2 e3;refine%[u',r'|?_];rcases q with⟨k,e⟩ | ⟨k,c,e,z⟩
    ·refine .inl %[k|?_];have:y≠x:=λ e=>hj (iV hN e1 (e ▸ hi));simp[this,e]
    ·exact .inr %[k,c,e|z.sameBut hs (cne y c e)]
  ·obtain⟨w',z⟩:=I.cell y c e;exact%[w'|z.sameBut hs (cne y c e)]
  ·obtain⟨e,n,ne,nf,d⟩:=I.pin p hp;exact%[(hs.2 p.1 ne).trans e,n,ne,nf|d]
 ·have hfn:X.fn x=true:=by
   rcases hf with z | z
   ·exact z
   ·rw[z]at hk;cases hk
  obtain⟨c,hc⟩:=I.ok.has x (.inl hk);obtain⟨w',z⟩:=I.cell x c hc;refine wpAny_storeName_cell I.ok.kind hk hc z (λ h' hc' hs=>?_);obtain⟨oc,hoc,hocd⟩:=id z;refine h { s with heap:=h' } %[I.ok,I.os,I.bare,%[λ b o e n hb hx=>?_,λ b o e n hb hx=>?_,I.base.free,λ b o e hx=>?_,I.base.tups,I.base.frzs|I.base.tbls],%[m,hn.sameBut hs (Ne.symm (cne x c hc))|λ j y v' e1 e2 e3=>?_],λ y c' e=>?_,I.free,I.freeC,λ p hp=>?_,tracked %[oc,hoc|I.freeC x c hc] hs|by simpa using I.len] %[c,hs|.inr hc]
  ·exact(hs.2 b (C0 (C3 (A9 e) (I.ok.cab x c hfn hc)))).trans (I.base.keep b o e n hb hx)
  ·obtain⟨sl,e1⟩:=I.base.slot b o e n hb hx;exact%[sl|(hs.2 b (C0 (C3 (A9 e) (I.ok.cab x c hfn hc)))).trans e1]
  ·obtain⟨o',e1⟩:=I.base.there b o e hx;exact%[o'|(hs.2 b (C0 (C3 (A9 e) (I.ok.cab x c hfn hc)))).trans e1]
  ·by_cases hj:j=i
   ·subst hj;rw[hi]at e1;cases e1;rw[MU hiσ]at e2;cases e2;exact%[u,r|.inr %[.inl hk,c,hc|hc']]
   ·rw[List.getElem?_set_ne (Ne.symm hj)]at e2;obtain⟨u',r',q⟩:=hl j y v' e1 e2 e3;refine%[u',r'|?_];rcases q with q | ⟨k,c',e,z'⟩
    ·exact .inl q
    ·refine .inr %[k,c',e|z'.sameBut hs ?_];rintro rfl;exact hj (iV hN e1 (I.ok.inj _ _ _ e hc ▸ hi))
  ·by_cases hcc:c'=c
   ·subst hcc;exact%[_|hc']
   ·obtain⟨w2,z2⟩:=I.cell y c' e;exact%[w2|z2.sameBut hs hcc]
  ·obtain⟨e,n,ne,nf,d⟩:=I.pin p hp;refine%[(hs.2 p.1 ?_).trans e,n,ne,nf|d];intro q;rw[q,hoc]at e;have q':oc=p.2:=B9 e;exact d w' (by rw[<- q'];exact hocd)
theorem fY{M:Model}{A:Around}{E:G1->F7->Prop}{i:Nat}{x:Str}{v:V}{u:G1}{Q:Unit->F7->Prop}(I:Inv X Mq σ H s)(hN:X.N.Nodup)(hi:X.N[i]?=some x)(hx:Loc X.env.scope x)(r:RelV v u)
  (h:∀s',Inv X Mq (σ.set i (some v)) H s'->Q () s') (hf:X.fn x=true\/X.env.scope.names.lookup x=some .local:=by first | exact .inl rfl | exact .inr rfl | assumption):wpAny M A (storeName X.env x u) Q E s :=
 ki I hN hi hx r (λ s' I' _=>h s' I') hf
theorem Inv.call'{s':F7}{ch:Mo Mi}(I:Inv X Mq σ H s)(ho:s'.os=s.os)(u:Un (frs X.stack) ch H H' s.heap s'.heap)(hok:HOk X.prog X.w H' s'.heap)(hg:AllBare s'.gens)
  (hch:∀b∈ch,(b∈X.ex\/X.s₀.heap.objs.size<=b)/\b≠X.env.locals/\(∀x c,X.env.cells.lookup x=some c->c≠b)/\∀p∈X.pn ++ Mq,p.1≠b):Inv X Mq σ H' s':=by
 obtain⟨h',g',d',t',o'⟩:=s';have e:o'=s.os:=ho;subst e;exact I.call (g':=g') (t':=t') (d':=d') u hok hg hch
end
abbrev XK:=Value->Ml Mi->Hp->Prop
abbrev St:=Mo (Ml V)
abbrev VK:=V->Hp->Prop
abbrev TE:=St->Hp->VK->Prop
abbrev TT:=St->Hp->(Bool->Hp->Prop)->Prop
abbrev TA:=St->Hp->(Mo V->Hp->Prop)->Prop
structure Ends where
 nx:St->Hp->Prop
 rt:VK
 bk:St->Hp->Prop:=λ _ _=>False
 ct:St->Hp->Prop:=λ _ _=>False
abbrev TS:=Ends->St->Hp->Prop
def EP(X:Cx)(Mq:Mo (Mi×Obj))(σ:St)(Q:VK)(u:G1)(s':F7):Prop:=∃v H',Inv X Mq σ H' s'/\RelV v u/\Q v H'
def TP(X:Cx)(Mq:Mo (Mi×Obj))(σ:St)(Q:Bool->Hp->Prop)(b:Bool)(s':F7):Prop:=∃H',Inv X Mq σ H' s'/\Q b H'
def AP(X:Cx)(Mq:Mo (Mi×Obj))(σ:St)(Q:Mo V->Hp->Prop)(us:Mo G1)(s':F7):Prop:=∃vs H',Inv X Mq σ H' s'/\Vals vs us/\Q vs H'
def SP(X:Cx)(Mq:Mo (Mi×Obj))(D:Ends)(f:Flow)(s':F7):Prop :=
 match f with
 | .next=>∃σ' H',Inv X Mq σ' H' s'/\D.nx σ' H'
 | .brk=>∃σ' H',Inv X Mq σ' H' s'/\D.bk σ' H'
 | .cont=>∃σ' H',Inv X Mq σ' H' s'/\D.ct σ' H'
 | .ret u=>∃v σ' H',Inv X Mq σ' H' s'/\RelV v u/\D.rt v H'
def PE(X:Cx)(e:Expr)(t:TE):Prop :=
 ∀(Mq:Mo (Mi×Obj))(s:F7)(σ:St)(H:Hp)(Q:VK),Inv X Mq σ H s->t σ H Q->wpAny (model X.prog X.w) X.A (eval e X.env) (EP X Mq σ Q) X.xe s
def PT(X:Cx)(e:Expr)(t:TT):Prop :=
 ∀(Mq:Mo (Mi×Obj))(s:F7)(σ:St)(H:Hp)(Q:Bool->Hp->Prop),Inv X Mq σ H s->t σ H Q->wpAny (model X.prog X.w) X.A (isTrue e X.env (eval e X.env)) (TP X Mq σ Q) X.xe s
def PW(X:Cx)(e:Expr)(t:TT):Prop :=
 ∀(aQ:Sem G1)(Mq:Mo (Mi×Obj))(s:F7)(σ:St)(H:Hp)(Q:Bool->Hp->Prop),Inv X Mq σ H s->t σ H Q->wpAny (model X.prog X.w) X.A (isTrue e X.env aQ) (TP X Mq σ Q) X.xe s
theorem PW.pt{X:Cx}{e:Expr}{t:TT}(h:PW X e t):PT X e t:=h _
def PA(X:Cx)(es:Mo Expr)(t:TA):Prop :=
 ∀(pos:Pos)(Mq:Mo (Mi×Obj))(s:F7)(σ:St)(H:Hp)(Q:Mo V->Hp->Prop),Inv X Mq σ H s->t σ H Q->wpAny (model X.prog X.w) X.A (spliced (backTo pos (starEach es X.env))) (AP X Mq σ Q) X.xe s
def PS(X:Cx)(st:Stmt)(t:TS):Prop :=
 ∀(Mq:Mo (Mi×Obj))(s:F7)(σ:St)(H:Hp)(D:Ends),Inv X Mq σ H s->t D σ H->wpAny (model X.prog X.w) X.A (exec st X.env) (SP X Mq D) X.xe s
def PSs(X:Cx)(st:Mo Stmt)(t:TS):Prop :=
 ∀(Mq:Mo (Mi×Obj))(s:F7)(σ:St)(H:Hp)(D:Ends),Inv X Mq σ H s->t D σ H->wpAny (model X.prog X.w) X.A (execs st X.env) (SP X Mq D) X.xe s
theorem thn{α:Type}{t:Sem α}{Q Q':α->F7->Prop}{M:Model}{A:Around}{E:G1->F7->Prop}{s:F7}(h:wpAny M A t Q E s)(hQ:∀a s,Q a s->Q' a s):wpAny M A t Q' E s:=Mz h hQ λ _ _ x=>x
section
variable{X:Cx}
theorem bin{a b:Expr}{ta tb:TE}(ha:PE X a ta)(hb:PE X b tb){Mq:Mo (Mi×Obj)}{s:F7}{σ:St}{H:Hp}{R:V->V->Hp->Prop}(I:Inv X Mq σ H s)(h:ta σ H λ x H1=>tb σ H1 λ y H2=>R x y H2)
  {α:Type} {Q:α->F7->Prop} {f:G1->G1->Sem α}
  (hf:∀v u s2 x y H2,Inv X Mq σ H2 s2->RelV x v->RelV y u->R x y H2->wpAny (model X.prog X.w) X.A (f v u) Q X.xe s2) :
  wpAny (model X.prog X.w) X.A (eval a X.env) (λ v s₁=>wpAny (model X.prog X.w) X.A (eval b X.env) (λ u s₂=>wpAny (model X.prog X.w) X.A (f v u) Q X.xe s₂) X.xe s₁) X.xe s:=by
 refine thn (ha Mq s σ H _ I h) λ v s1 %[x,H1,I1,r1|q1]=>?_;refine thn (hb Mq s1 σ H1 _ I1 q1) λ u s2 %[y,H2,I2,r2|q2]=>?_;exact hf v u s2 x y H2 I2 r1 r2 q2
inductive tVar(i:Nat)(σ:St)(H:Hp)(Q:VK):Prop
|mk(v:V)(_:σ[i]?=some (some v))(_:Q v H)
def tC(v:V):TE:=λ _ H Q=>Q v H
theorem zv{i:Nat}{x:Str}{pos:Pos}(hN:X.N[i]?=some x)(hv:Vis X.env.scope x)(hd:(x == ("__debug__" : Str))=false:=by decide)(hcd:(x == ("__classdict__" : Str))=false:=by decide):PE X (.Name x pos) (tVar i):=by
 intro Mq s σ H Q I h;obtain⟨v,e,h⟩:=h;obtain⟨m,hn,hl⟩:=I.loc;obtain⟨u,r,l⟩:=hl i x v hN e hv;have fin:EP X Mq σ Q u s:=%[v,H,I,r|h]
 rcases l with⟨hk,hm⟩ | ⟨hk,c,hc,hcell⟩
 ·exact wpAny_Name (wpAny_loadName_local I.ok.kind hk hn hm fin) hd
 ·rcases hk with hk | hk
  ·exact wpAny_Name (wpAny_loadName_cell I.ok.kind hk hc hcell fin) hd
  ·exact wpAny_Name (wpAny_loadName_free I.ok.kind hk hc hcell fin hcd) hd
theorem ag{i j pos}:PE X (.Constant (.int i) j pos) (tC (.int i)):=λ _ _ _ H _ I h=>wpAny_Constant_int %[.int i,H,I.tok _,%[_|rfl]|h]
theorem cw{b j pos}:PE X (.Constant (.bool b) j pos) (tC (.bl b)):=λ _ _ _ H _ I h=>Constant_bool %[.bl b,H,I,rfl|h]
theorem iW{j pos}:PE X (.Constant .none j pos) (tC .non):=λ _ _ _ H _ I h=>Constant_none %[.non,H,I,rfl|h]
theorem uz{x j pos}:PE X (.Constant (.str x) j pos) (tC (.str x)):=λ _ _ _ H _ I h=>Calls.Constant_str %[.str x,H,I.tok _,%[_|O]|h]
def Gl(X:Cx)(x:Str):Prop:=X.env.kindOf x=some .globalImplicit
theorem dR{E:G1->F7->Prop}{Mq:Mo (Mi×Obj)}{s:F7}{σ:St}{H:Hp}{x:Str}{u:G1}{pos:Pos}{Q:G1->F7->Prop}(I:Inv X Mq σ H s)(hg:Gl X x)(hm:X.mg x=some u)(h:Q u s)
  (hd:(x == ("__debug__" : Str))=false:=by decide):wpAny (model X.prog X.w) X.A (eval (.Name x pos) X.env) Q E s :=
 Calls.Name_function_global I.ok.kind hg (Calls.loadGlobal_global (by rw[I.ok.glob];exact I.mod.glob.keeps I.bk) hm h) hd
theorem dS{E:G1->F7->Prop}{Mq:Mo (Mi×Obj)}{s:F7}{σ:St}{H:Hp}{x:Str}{u:G1}{pos:Pos}{Q:G1->F7->Prop}(I:Inv X Mq σ H s)(hg:Gl X x)(hm:X.mg x=none)(hv:bootBuiltins x=some u)(h:Q u s)
  (hn:x ≠ "__name__" := by decide) (hd:(x == ("__debug__" : Str))=false:=by decide):wpAny (model X.prog X.w) X.A (eval (.Name x pos) X.env) Q E s:=by
 obtain⟨mb,h1,h2⟩:=I.mod.blt;exact Calls.Name_function_global I.ok.kind hg (Calls.loadGlobal_builtin (by rw[I.ok.glob];exact I.mod.glob.keeps I.bk) hm (by rw[I.ok.blt];exact h1.keeps I.bk) ((h2 x hn).trans hv) h) hd
theorem aI{x:Str}{v:V}{u:G1}{pos:Pos}(hg:Gl X x)(hm:X.mg x=some u)(r:RelV v u)(hd:(x == ("__debug__" : Str))=false:=by decide):PE X (.Name x pos) (tC v) :=
 λ _ _ _ H _ I h=>dR I hg hm %[v,H,I,r|h] hd
theorem fb{x:Str}{v:V}{u:G1}{pos:Pos}(hg:Gl X x)(hm:X.mg x=none)(hv:bootBuiltins x=some u)(r:RelV v u)(hn:x ≠ "__name__" := by decide)(hd:(x == ("__debug__" : Str))=false:=by decide):PE X (.Name x pos) (tC v) :=
 λ _ _ _ H _ I h=>dS I hg hm hv %[v,H,I,r|h] hn hd
variable{a b:Expr}{ta tb:TE}{pos:Pos}
def PC(X:Cx)(op:CmpOp)(a b:Expr)(t:TE):Prop :=
 ∀(Mq:Mo (Mi×Obj))(s:F7)(σ:St)(H:Hp)(Q:VK),Inv X Mq σ H s->t σ H Q ->
  wpAny (model X.prog X.w) X.A (eval a X.env) (λ v s₁=>wpAny (model X.prog X.w) X.A (eval b X.env) (λ u s₂=>wpAny (model X.prog X.w) X.A (compareOp op v u) (EP X Mq σ Q) X.xe s₂) X.xe s₁) X.xe s
inductive IsB(x:V)(Q:Bool->Prop):Prop
|mk(c:Bool)(e:x=.bl c)(q:Q c)
def tB(t:TE):TT:=λ σ H Q=>t σ H λ x H1=>IsB x λ c=>Q c H1
theorem zw{op:CmpOp}{t:TE}(h:PC X op a b t)(h1:behindInMarks op b=false:=by first | exact nobehind _ ∅ ∅ | rfl):PT X (.Compare a [op] [b] pos) (tB t):=by intro Mq s σ H Q I hw;refine wpAny_isTrue_Compare1 (thn (h Mq s σ H _ I hw) λ v s1 h1=>thn h1 λ u s2 h2=>thn h2 λ c s3 %[x,H1,I1,r1|q1]=>?_) h1;obtain⟨d,rfl,q⟩:=q1;cases r1;exact F3 %[H1,I1|q]
theorem aY{e:Expr}{t:TE}(h:PE X e t)(he:∀aQ,isTrue e X.env aQ=(do let v<-aQ;standAt e.pos;holding [v] (truthy v)):=by intro _;rfl):PT X e (tB t):=by intro Mq s σ H Q I hw;refine isTrue_plain (thn (h Mq s σ H _ I hw) λ v s1 %[x,H1,I1,r1|q1]=>?_) (he _);obtain⟨d,rfl,q⟩:=q1;cases r1;exact F3 %[H1,I1|q]
variable{tA tB':TT}{rest:Mo Expr}
def tOr(t u:TT):TT:=λ σ H Q=>t σ H λ c H1=>if c=true then Q true H1 else u σ H1 Q
def Jc(t:TT):TT:=λ σ H Q=>t σ H λ c H1=>Q (!c) H1
theorem dj(ha:PT X a tA):PW X (.BoolOp .Or [a] pos) tA:=by
 intro wh Mq s σ H Q I h;refine isTrue_or (thn (ha Mq s σ H Q I h) λ c s1 e=>?_);cases c with
 | false=>exact isTrue_or_nil e
 | true=>exact e
theorem dB(ha:PT X a tA)(hb:PW X (.BoolOp .Or (b :: rest) pos) tB'):PW X (.BoolOp .Or (a :: b :: rest) pos) (tOr tA tB'):=by
 intro wh Mq s σ H Q I h;refine isTrue_or (thn (ha Mq s σ H _ I h) λ c s1 %[H1,I1|q1]=>?_);cases c with
 | true=>exact%[H1,I1|q1]
 | false=>exact hb wh Mq s1 σ H1 Q I1 q1
theorem bj(ha:PT X a tA):PT X (.UnaryOp .Not a pos) (Jc tA):=by intro Mq s σ H Q I h;exact isTrue_not (ha Mq s σ H (λ c H1=>Q (!c) H1) I h)
def DX(ta tb:TE):TE:=λ σ H Q=>ta σ H λ x H1=>IsB x λ c=>if c=true then tb σ H1 Q else Q (.bl false) H1
def Jd(ta tb:TE):TE:=λ σ H Q=>ta σ H λ x H1=>IsB x λ c=>if c=true then Q (.bl true) H1 else tb σ H1 Q
def DY(ta:TE):TE:=λ σ H Q=>ta σ H λ x H1=>IsB x λ c=>Q (.bl (!c)) H1
theorem fB{op}{t:TE}(h:PE X a t):PE X (.BoolOp op [a] pos) t:=λ Mq s σ H Q I hw=>BoolOp_one (h Mq s σ H Q I hw)
theorem fC(ha:PE X a ta)(hb:PE X (.BoolOp .And (b :: rest) pos) tb):PE X (.BoolOp .And (a :: b :: rest) pos) (DX ta tb):=by
 intro Mq s σ H Q I h;refine BoolOp_and (thn (ha Mq s σ H _ I h) λ v s1 %[x,H1,I1,r1|q1]=>?_);obtain⟨c,rfl,q1⟩:=q1;cases r1;refine F3 ?_;cases c with
 | true=>exact hb Mq s1 σ H1 Q I1 q1
 | false=>exact%[.bl false,H1,I1,O|q1]
theorem yU(ha:PE X a ta)(hb:PE X (.BoolOp .Or (b :: rest) pos) tb):PE X (.BoolOp .Or (a :: b :: rest) pos) (Jd ta tb):=by
 intro Mq s σ H Q I h;refine BoolOp_or (thn (ha Mq s σ H _ I h) λ v s1 %[x,H1,I1,r1|q1]=>?_);obtain⟨c,rfl,q1⟩:=q1;cases r1;refine F3 ?_;cases c with
 | false=>exact hb Mq s1 σ H1 Q I1 q1
 | true=>exact%[.bl true,H1,I1,O|q1]
theorem uA(ha:PE X a ta):PE X (.UnaryOp .Not a pos) (DY ta):=by intro Mq s σ H Q I h;refine UnaryOp_ (thn (ha Mq s σ H _ I h) λ v s1 %[x,H1,I1,r1|q1]=>?_);obtain⟨c,rfl,q1⟩:=q1;cases r1;exact not_of (F3 %[.bl (!c),H1,I1,rfl|q1])
def tIf(t:TT)(ta tb:TE):TE:=λ σ H Q=>t σ H λ c H1=>if c=true then ta σ H1 Q else tb σ H1 Q
theorem mG{c:Expr}(hc:PT X c tA)(ha:PE X a ta)(hb:PE X b tb):PE X (.IfExp c a b pos) (tIf tA ta tb):=by
 intro Mq s σ H Q I h;refine wpAny_IfExp (thn (hc Mq s σ H _ I h) λ d s1 %[H1,I1|q1]=>?_);cases d with
 | true=>exact ha Mq s1 σ H1 Q I1 q1
 | false=>exact hb Mq s1 σ H1 Q I1 q1
end
def SqL(K:C6)(H:Hp)(a:Mi)(xs:Mo V):Prop :=
 Rd H a (.lst xs) \/
  ∃(o:Obj)(its:Mm G1)(n:Nat),K.lookup a=some o/\o.cls=.type "list" /\ o.dict=none/\o.data=.seq its n/\its.size<=sizeLine/\Vals xs its.toList
def SqT(K:C6)(H:Hp)(a:Mi)(xs:Mo V):Prop :=
 Rd H a (.tup xs) \/
  ∃(o:Obj)(its:Mm G1)(n:Nat),K.lookup a=some o/\o.cls=.type "tuple" /\ o.data=.seq its n/\its.size<=sizeLine/\Vals xs its.toList
def Je:G1->Ml V
 | .none=>some .non
 | .bool b=>some (.bl b)
 | .int i _=>⇑i
 | .str x _=>some (.str x)
 | .bytes b _=>some (.byt b)
 | .float b _=>some (.flt b)
 | .ref a=>↑a
 | .type n=>some (.ty n)
 | _=>none
theorem RelV.abs{x:V}{u:G1}(r:RelV x u):Je u=some x:=by
 cases x with
 | non=>cases r;rfl
 | bl _=>cases r;rfl
 | int _=>obtain⟨t,rfl⟩:=r;rfl
 | str _=>obtain⟨t,rfl⟩:=r;rfl
 | byt _=>obtain⟨t,rfl⟩:=r;rfl
 | flt _=>obtain⟨t,rfl⟩:=r;rfl
 | ref _=>cases r;rfl
 | ty _=>cases r;rfl
theorem RelV.inj{x y:V}{u:G1}(r:RelV x u)(q:RelV y u):x=y:=B9 (r.abs.symm.trans q.abs)
theorem Vals.inj:∀{xs ys:Mo V}{us:Mo G1},Vals xs us->Vals ys us->xs=ys
 | _,_,_,.nil,.nil=>rfl
 | _,_,_,.cons r t,.cons r' t'=>by rw[r.inj r',Vals.inj t t']
section
variable{X:Cx}{Mq:Mo (Mi×Obj)}{σ:St}{H:Hp}{s:F7}{a:Mi}{xs ys:Mo V}
theorem SqL.of{K:C6}(h:H a=↥xs):SqL K H a xs:=.inl (.inl h)
abbrev G4:=@SqL.of
theorem SqT.of{K:C6}(h:H a= ~~~xs):SqT K H a xs:=.inl (.inl h)
abbrev G3:=@SqT.of
theorem Inv.list(I:Inv X Mq σ H s)(h:SqL X.K H a xs):∃its:Mo G1,Vals xs its/\PlainL s.heap a its.toArray/\xs.length<=sizeLine:=by
 rcases h with h | ⟨o,its,n,hk,hc,hd,hs,hz,r⟩
 ·obtain⟨z,its,n,r,e⟩:=h.ok I.hok;exact%[its,r,%[_,n,e,O,O|O]|z]
 ·refine%[its.toList,r,%[o,n,I.kIn a o hk,hc,hd|by simpa using hs]|?_];have e:=r.length;simp only[LP]at e;omega
theorem Inv.tuple(I:Inv X Mq σ H s)(h:SqT X.K H a xs):∃its:Mo G1,Vals xs its/\IsTup s.heap a its.toArray/\xs.length<=sizeLine:=by
 rcases h with h | ⟨o,its,n,hk,hc,hs,hz,r⟩
 ·obtain⟨z,its,r,p⟩:=h.ok I.hok;exact%[its,r,p|z]
 ·refine%[its.toList,r,%[o,I.kIn a o hk,hc,n|by simpa using hs]|?_];have e:=r.length;simp only[LP]at e;omega
theorem Inv.list_inj(I:Inv X Mq σ H s)(h:SqL X.K H a xs)(h':SqL X.K H a ys):xs=ys:=by
 obtain⟨its,r,⟨o,n,e,_,_,d⟩,_⟩:=I.list h;obtain⟨its',r',⟨o',n',e',_,_,d'⟩,_⟩:=I.list h';rw[e]at e';cases e';rw[d]at d';injection d' with d1 _
 have:its=its':=by simpa using NE Array.toList d1
 subst this;exact r.inj r'
theorem Inv.tuple_inj(I:Inv X Mq σ H s)(h:SqT X.K H a xs)(h':SqT X.K H a ys):xs=ys:=by
 obtain⟨its,r,⟨o,e,_,n,d⟩,_⟩:=I.tuple h;obtain⟨its',r',⟨o',e',_,n',d'⟩,_⟩:=I.tuple h';rw[e]at e';cases e';rw[d]at d';injection d' with d1 _
 have:its=its':=by simpa using NE Array.toList d1
 subst this;exact r.inj r'
end
abbrev Cx.wish(X:Cx)(E:G1->F7->Prop):Cx:={ X with xe:=E }
abbrev Cx.nox(X:Cx):Cx:=X.wish λ _ _=>False
theorem Cx.Ok.wish{X:Cx}(ok:X.Ok)(E:G1->F7->Prop):(X.wish E).Ok :=
 %[ok.mod,ok.kind,ok.glob,ok.blt,ok.above,ok.inj,ok.has,ok.cab,ok.hd,ok.frames,ok.stk,ok.exf,ok.bs,ok.bsz,ok.noex,ok.exfs,ok.funs|ok.frf]
theorem Cx.Ok.unwish{X:Cx}{E:G1->F7->Prop}(ok:(X.wish E).Ok):X.Ok :=
 %[ok.mod,ok.kind,ok.glob,ok.blt,ok.above,ok.inj,ok.has,ok.cab,ok.hd,ok.frames,ok.stk,ok.exf,ok.bs,ok.bsz,ok.noex,ok.exfs,ok.funs|ok.frf]
section
variable{X:Cx}{Mq:Mo (Mi×Obj)}{σ:St}{H:Hp}{s:F7}{E:G1->F7->Prop}
theorem Inv.wish(I:Inv X Mq σ H s)(E:G1->F7->Prop):Inv (X.wish E) Mq σ H s:=%[I.ok.wish E,I.os,I.bare,I.base,I.loc,I.cell,I.free,I.freeC,I.pin,I.hok|I.len]
theorem Inv.unwish(I:Inv (X.wish E) Mq σ H s):Inv X Mq σ H s:=%[I.ok.unwish,I.os,I.bare,I.base,I.loc,I.cell,I.free,I.freeC,I.pin,I.hok|I.len]
theorem SP.unwish{D:Ends}{f:Flow}{s':F7}(h:SP (X.wish E) Mq D f s'):SP X Mq D f s':=by
 cases f with
 | next=>obtain⟨σ',H',I,q⟩:=h;exact%[σ',H',I.unwish|q]
 | brk=>obtain⟨σ',H',I,q⟩:=h;exact%[σ',H',I.unwish|q]
 | cont=>obtain⟨σ',H',I,q⟩:=h;exact%[σ',H',I.unwish|q]
 | ret u=>obtain⟨v,σ',H',I,r,q⟩:=h;exact%[v,σ',H',I.unwish,r|q]
theorem PSs.nox{st:Mo Stmt}{t:TS}(h:PSs X.nox st t):PSs X st t:=λ Mq s σ H D I hw=>
 Mz (h Mq s σ H D (I.wish _) hw) (λ _ _ q=>q.unwish) λ _ _ z=>E7 z
end
section
variable{X:Cx}{st:Stmt}{rest:Mo Stmt}{t u:TS}{e:Expr}{te:TE}{pos:Pos}
def DZ:TS:=λ D σ H=>D.nx σ H
def xi(t u:TS):TS:=λ D σ H=>t { D with nx:=u D } σ H
theorem av:PSs X [] DZ:=λ _ _ σ H _ I h=>NS %[σ,H,I|h]
theorem af(h1:PS X st t)(h2:PSs X rest u):PSs X (st :: rest) (xi t u):=by
 intro Mq s σ H D I h;refine wpAny_execs_cons (thn (h1 Mq s σ H { D with nx:=u D } I h) λ f s1 q=>?_);cases f with
 | next=>
  obtain⟨σ',H',I',q⟩:=q;exact h2 Mq s1 σ' H' D I' q
 | ret v=>exact q
 | brk=>exact q
 | cont=>exact q
theorem ai(h1:PS X st t):PSs X [st] t:=by
 intro Mq s σ H D I h;refine wpAny_execs_cons (thn (h1 Mq s σ H D I h) λ f s1 q=>?_);cases f with
 | next=>exact NS q
 | ret v=>exact q
 | brk=>exact q
 | cont=>exact q
theorem Inv.quiet{Mq:Mo (Mi×Obj)}{σ:St}{H:Hp}{s:F7}(I:Inv X Mq σ H s):interactive X.env=false:=by simp[interactive,I.ok.kind]
def Ea(te:TE):TS:=λ D σ H=>te σ H λ _ H1=>D.nx σ H1
theorem bq(he:PE X e te)(hs:swapsWith e none pos.line X.env=pure false:=by rfl):PS X (.Expr e pos) (Ea te):=by intro Mq s σ H D I h;exact wpAny_Expr_any (thn (he Mq s σ H _ I h) λ v s1 %[x,H1,I1,r1|q1]=>%[σ,H1,I1|q1]) I.quiet hs
def Jf(te:TE):TS:=λ D σ H=>te σ H D.rt
theorem au(he:PE X e te):PS X (.Return (some e) pos) (Jf te):=by intro Mq s σ H D I h;exact wpAny_Return_some (thn (he Mq s σ H _ I h) λ v s1 %[x,H1,I1,r1|q1]=>%[x,σ,H1,I1,r1|q1])
def Jg(c:TT)(t u:TS):TS:=λ D σ H=>c σ H λ b H1=>if b=true then t D σ H1 else u D σ H1
theorem aS{c:Expr}{a b:Mo Stmt}{tc:TT}(hc:PT X c tc)(ha:PSs X a t)(hb:PSs X b u):PS X (.If c a b pos) (Jg tc t u):=by
 intro Mq s σ H D I h;refine wpAny_If (thn (hc Mq s σ H _ I h) λ d s1 %[H1,I1|q1]=>?_);cases d with
 | true=>exact ha Mq s1 σ H1 D I1 q1
 | false=>exact hb Mq s1 σ H1 D I1 q1
def uB:TS:=λ _ _ _=>False
theorem bo:PS X st uB:=λ _ _ _ _ _ _ h=>h.elim
theorem gN{sts:Mo Stmt}:PSs X sts uB:=λ _ _ _ _ _ _ h=>h.elim
end
abbrev TG:=V->St->Hp->(St->Hp->Prop)->Prop
abbrev TGs:=Mo V->St->Hp->(St->Hp->Prop)->Prop
def PG(X:Cx)(target:Expr)(t:TG):Prop :=
 ∀(Mq:Mo (Mi×Obj))(s:F7)(σ:St)(H:Hp)(v:V)(u:G1)(Q:St->Hp->Prop),Inv X Mq σ H s->RelV v u->t v σ H Q ->
  wpAny (model X.prog X.w) X.A (assign target X.env u) (λ _ s'=>∃σ' H',Inv X Mq σ' H' s'/\Q σ' H') X.xe s
def PGs(X:Cx)(ts:Mo Expr)(t:TGs):Prop :=
 ∀(Mq:Mo (Mi×Obj))(s:F7)(σ:St)(H:Hp)(vs:Mo V)(us:Mo G1)(Q:St->Hp->Prop),Inv X Mq σ H s->Vals vs us->t vs σ H Q ->
  wpAny (model X.prog X.w) X.A (assignInOrder ((assignEach ts X.env).map (·.2)) us) (λ _ s'=>∃σ' H',Inv X Mq σ' H' s'/\Q σ' H') X.xe s
abbrev zx:=V->V->V->Hp->(Hp->Prop)->Prop
def Eb(X:Cx)(t:zx):Prop :=
 ∀(Mq:Mo (Mi×Obj))(s:F7)(σ:St)(H:Hp)(o i v:V)(ov iv u:G1)(Q:Hp->Prop),Inv X Mq σ H s->RelV o ov->RelV i iv->RelV v u->t o i v H Q ->
  wpAny (model X.prog X.w) X.A (setItem ov iv u) (λ _ s'=>∃H',Inv X Mq σ H' s'/\Q H') X.xe s
section
variable{X:Cx}{pos:Pos}
def im(i:Nat):TG:=λ v σ H Q=>Q (σ.set i (some v)) H
theorem am{i:Nat}{x:Str}(hN:X.N.Nodup)(hi:X.N[i]?=some x)(hx:Loc X.env.scope x)(hf:X.fn x=true\/X.env.scope.names.lookup x=some .local:=by first | exact .inl rfl | exact .inr rfl | assumption):PG X (.Name x pos) (im i):=by intro Mq s σ H v u Q I r h;exact wpAny_assign_Name (fY I hN hi hx r (λ s' I'=>%[_,H,I'|h]) hf)
def zy:TGs:=λ vs σ H Q=>vs=[]/\Q σ H
inductive gCons(t:TG)(u:TGs)(vs:Mo V)(σ:St)(H:Hp)(Q:St->Hp->Prop):Prop
|mk(v:V)(r:Mo V)(_:vs=v :: r)(_:t v σ H λ σ' H'=>u r σ' H' Q)
theorem bn:PGs X [] zy:=by intro Mq s σ H vs us Q I r h;obtain⟨e,h⟩:=h;subst e;cases r;exact assignInOrder_nil %[σ,H,I|h]
theorem ar{e:Expr}{es:Mo Expr}{t:TG}{u:TGs}(h1:PG X e t)(h2:PGs X es u)
  (hs:(assignEach (e :: es) X.env).map (·.2)=assign e X.env :: (assignEach es X.env).map (·.2):=by rfl):PGs X (e :: es) (gCons t u):=by
 intro Mq s σ H vs us Q I r h;obtain⟨v,vr,e1,h⟩:=h;subst e1;cases r with
 | cons r rr=>
  rw[hs];refine assignInOrder_cons (thn (h1 Mq s σ H _ _ _ I r h) λ _ s1 %[σ1,H1,I1|q1]=>?_);exact h2 Mq s1 σ1 H1 _ _ Q I1 rr q1
inductive gTup(K:C6)(n:Nat)(t:TGs)(v:V)(σ:St)(H:Hp)(Q:St->Hp->Prop):Prop
|mk(a:Mi)(xs:Mo V)(_:v=.ref a)(_:SqT K H a xs)(_:xs.length=n)(_:t xs σ H Q)
theorem bL{es:Mo Expr}{k:Nat}{t:TGs}{n:Nat}(hc:X.calm=true)(h:PGs X es t)
  (hn:(assignEach es X.env).length=n:=by rfl) (hst:(assignEach es X.env).findIdx? (·.1)=none:=by rfl):PG X (.Tuple es k pos) (gTup X.K n t):=by
 intro Mq s σ H v u Q I r hw;obtain⟨a,xs,e1,hq,hl,hw⟩:=hw;subst e1;cases r;obtain⟨its,rv,ht,hz⟩:=I.tuple hq;refine assign_Tuple_tuple (I.ok.hd hc) ht (by simp[hn,<- hl,rv.length]) hst λ h' hx=>?_;have I1:Inv X Mq σ H { s with heap:=h' }:=I.kept (t':=s.toks) λ b o e=>hx b o (C0 (A9 e)) e;exact h Mq _ σ H xs _ Q I1 (by simpa using rv) hw
def Jh(to ti:TE)(t:zx):TG:=λ v σ H Q=>to σ H λ o H1=>ti σ H1 λ i H2=>t o i v H2 λ H3=>Q σ H3
theorem dU{o i:Expr}{to ti:TE}{t:zx}(ho:PE X o to)(hi:PE X i ti)(hs:Eb X t)
  (ha:∀v,assign (.Subscript o i pos) X.env v=(do
   let ov<-holding [v] (eval o X.env)
   let iv<-holding [v,ov] (eval i X.env)
   standAt pos
   holding [v,ov,iv] (setItem ov iv v)
   release [v,ov,iv] []):=by intro _;rfl):PG X (.Subscript o i pos) (Jh to ti t):=by
 intro Mq s σ H v u Q I r h;rw[ha];refine A0 (M3 (thn (ho Mq s σ H _ I h) λ ov s1 %[x,H1,I1,r1|q1]=>?_));refine A0 (M3 (thn (hi Mq s1 σ H1 _ I1 q1) λ iv s2 %[y,H2,I2,r2|q2]=>?_));refine A0 (Nb (A0 (M3 (thn (hs Mq s2 σ H2 x y v ov iv u _ I2 r1 r2 r q2) λ _ s3 %[H3,I3|q3]=>?_))));exact wpAny_release %[σ,H3,I3|q3]
def zA(te:TE)(g:TG):TS:=λ D σ H=>te σ H λ x H1=>g x σ H1 D.nx
theorem bG{tg e:Expr}{te:TE}{g:TG}(he:PE X e te)(hg:PG X tg g)(hs:swapsWithSole [tg] e pos.line X.env=pure false:=by rfl)(hw:swappedStores [tg] e X.env=pure none:=by rfl)
  (h1:(assignEach [tg] X.env).map (·.2)=[assign tg X.env]:=by rfl):PS X (.Assign [tg] e pos) (zA te g):=by
 intro Mq s σ H D I h;refine wpAny_Assign_stores (thn (he Mq s σ H _ I h) λ v s1 %[x,H1,I1,r1|q1]=>?_) hs hw;rw[h1];exact thn (hg Mq s1 σ H1 x v _ I1 r1 q1) λ _ s2 q=>q
theorem aA{i:Nat}{x:Str}{e:Expr}{te:TE}{pos':Pos}(hN:X.N.Nodup)(hi:X.N[i]?=some x)(hx:Loc X.env.scope x)(he:PE X e te)(hs:swapsWith e (some (.Name x pos')) pos.line X.env=pure false:=by rfl)(hf:X.fn x=true\/X.env.scope.names.lookup x=some .local:=by first | exact .inl rfl | exact .inr rfl | assumption) :
  PS X (.Assign [.Name x pos'] e pos) (zA te (im i)):=by
 intro Mq s σ H D I h;refine wpAny_Assign_Name (thn (he Mq s σ H _ I h) λ v s1 %[y,H1,I1,r1|q1]=>?_) hs;exact fY I1 hN hi hx r1 (λ s2 I2=>%[_,H1,I2|q1]) hf
def zB(c:TT)(tb:TS):TS:=λ D σ H=>∃W:Nat->St->Hp->Prop,(∃m,W m σ H)/\∀m σ H,W m σ H ->
 c σ H λ b H1=>if b=true then∃N:St->Hp->Prop,(∀σ' H',N σ' H'->∃m',m' < m/\W m' σ' H')/\tb { D with nx:=N,ct:=N,bk:=D.nx } σ H1 else D.nx σ H1
theorem uC{c:Expr}{body:Mo Stmt}{tc:TT}{tb:TS}(hp:PassesOwn (model X.prog X.w) X.A X.env X.xe)(hc:PT X c tc)(hb:PSs X body tb):PS X (.While c body [] pos) (zB tc tb):=by
 intro Mq s σ H D I h;obtain⟨W,⟨m0,w0⟩,turn⟩:=h;refine wpAny_While (codeAny_whileLoop (λ n s'=>∃σ' H',Inv X Mq σ' H' s'/\W n σ' H') ?_ m0 %[σ,H,I|w0]);rintro n s1 ⟨σ1,H1,I1,w1⟩;refine Na hp (thn (hc Mq s1 σ1 H1 _ I1 (turn n σ1 H1 w1)) λ b s2 %[H2,I2|q2]=>?_);cases b with
 | true=>
  obtain⟨N,hN,q2⟩:=q2;rw[Mw rfl];refine Na hp (thn (hb Mq s2 σ1 H2 _ I2 q2) λ f s3 q3=>?_);cases f with
  | next=>
   obtain⟨σ3,H3,I3,n3⟩:=q3;obtain⟨m',hm,w3⟩:=hN σ3 H3 n3;exact%[m',hm,σ3,H3,I3|w3]
  | cont=>
   obtain⟨σ3,H3,I3,n3⟩:=q3;obtain⟨m',hm,w3⟩:=hN σ3 H3 n3;exact%[m',hm,σ3,H3,I3|w3]
  | brk=>exact q3
  | ret v=>exact q3
 | false=>
  rw[Mu B2];exact NS %[σ1,H2,I2|q2]
end
structure It where
 go:Nat->Hp->Prop
 yld:Nat->Hp->V->Hp->Prop
 stop:Nat->Hp->Prop
def FpOk(X:Cx)(Mq:Mo (Mi×Obj))(H:Hp)(b:Mi):Prop :=
 H b=none/\b≠X.env.locals/\b∉X.fs/\(b∈X.ex\/X.s₀.heap.objs.size<=b)/\(∀x c,X.env.cells.lookup x=some c->c≠b)/\∀p∈X.pn ++ Mq,p.1≠b
theorem Inv.fpOk{X:Cx}{Mq:Mo (Mi×Obj)}{σ:St}{H H':Hp}{s:F7}{b:Mi}(I:Inv X Mq σ H s)(hb:s.heap.objs.size<=b)(hn:H' b=none):FpOk X Mq H' b:=by
 refine%[hn,LJ (C3 I.lt hb),I.nofs hb,.inr (C7 I.sz hb),λ x c e z=>?_|λ p hp z=>?_]
 ·obtain⟨v,q⟩:=I.cell x c e;exact absurd (C3 q.lt (by rw[z];exact hb)) (E1 _)
 ·exact absurd (C3 (A9 (I.pin p hp).1) (by rw[z];exact hb)) (E1 _)
structure Turn(P:Program)(w:World)(K:C6)(tg:Expr)(J:It)(fp:Mo Mi)(it:Mi)(tn:Nat->Heap->Prop):Prop where
 mem:it∈fp
 obj:∀i h,tn i h->∀b∈fp,∃o,h.get? b=some o/\∀v,o.data≠.cell v
 keep:∀i h h',tn i h->(∀b∈fp,∀o,h.get? b=some o->h'.get? b=some o)->tn i h'
 item:∀(X:Cx),X.prog=P->X.w=w->X.K=K->X.calm=true->∀(i:Nat)(Mq:Mo (Mi×Obj))(s:F7)(σ:St)(H:Hp)(E:G1->F7->Prop),Inv X Mq σ H s->(∀b∈fp,FpOk X Mq H b)->tn i s.heap->J.go i H ->
  wpAny (model P w) X.A (pyNext (.ref it)) (λ r s1=>∃u,r=some u /\
   wpAny (model P w) X.A (letOwnedTupleGo tg (.ref it) u) (λ _ s2=>∃x H',Inv X Mq σ H' s2/\RelV x u/\J.yld i H x H'/\tn (i+1) s2.heap/\∀b∈fp,H' b=none) E s1) E s
 done:∀(X:Cx),X.prog=P->X.w=w->X.K=K->X.calm=true->∀(i:Nat)(Mq:Mo (Mi×Obj))(s:F7)(σ:St)(H:Hp)(E:G1->F7->Prop),Inv X Mq σ H s->(∀b∈fp,FpOk X Mq H b)->tn i s.heap->J.stop i H ->
  wpAny (model P w) X.A (pyNext (.ref it)) (λ r s1=>r=none/\Inv X Mq σ H s1) E s
 self:∀(A:Around)(i:Nat)(s:F7)(Q E:G1->F7->Prop),tn i s.heap->Q (.ref it) s->wpAny (model P w) A (pyIter (.ref it)) Q E s
abbrev TI:=St->Hp->(It->Hp->Prop)->Prop
def PIE(X:Cx)(Mq:Mo (Mi×Obj))(σ:St)(tg:Expr)(R:It->Hp->Prop)(itv:G1)(s2:F7):Prop :=
 ∃(it:Mi)(fp:Mo Mi)(tn:Nat->Heap->Prop)(J:It)(H':Hp),itv=.ref it/\Inv X Mq σ H' s2/\Turn X.prog X.w X.K tg J fp it tn/\tn 0 s2.heap/\(∀b∈fp,FpOk X Mq H' b)/\R J H'
def PI(X:Cx)(tg iter:Expr)(wi:TI):Prop :=
 ∀(Mq:Mo (Mi×Obj))(s:F7)(σ:St)(H:Hp)(R:It->Hp->Prop),Inv X Mq σ H s->wi σ H R ->
  wpAny (model X.prog X.w) X.A (eval iter X.env) (λ v s1=>wpAny (model X.prog X.w) X.A (pyIter v) (PIE X Mq σ tg R) X.xe s1) X.xe s
theorem mH{M:Model}{A:Around}{E:G1->F7->Prop}{s:F7}{tg:Expr}{it:Mi}{u:G1}{o:Obj}{n:String}{vs:Mm G1}{Q:Unit->F7->Prop}(ho:s.heap.get? it=some o)(hc:o.cls=.type n)(hd:o.data=.fields vs)
    (hn:["enumerate","zip","dict_itemiterator","dict_reverseitemiterator","odict_iterator","itertools.zip_longest","itertools.pairwise"].contains n=false) (hQ:Q () s):wpAny M A (letOwnedTupleGo tg (.ref it) u) Q E s:=by
  unfold letOwnedTupleGo;cases tg <;> first
    | exact A2 hQ
    | (cases u <;> first
        | exact A2 hQ
        | (refine A0 (wpAny_load ho ?_)
           rw[hc,hd];show wpAny M A (if (["enumerate","zip","dict_itemiterator","dict_reverseitemiterator","odict_iterator","itertools.zip_longest","itertools.pairwise"].contains n && vs[0]? == some (rawInt _))=true then _ else _) Q E s;rw[Mu (by intro h;rw[hn,Bool.false_and]at h;cases h)];exact A2 hQ))
def Itl(K:C6)(a:Mi):It :=
 %[λ i H=>∃xs x,SqL K H a xs/\xs[i]?=some x,λ i H x H'=>H'=H/\∀xs,SqL K H a xs->xs[i]?=some x|λ i H=>∃xs,SqL K H a xs/\xs.length<=i]
def Itt(K:C6)(a:Mi):It :=
 %[λ i H=>∃xs x,SqT K H a xs/\xs[i]?=some x,λ i H x H'=>H'=H/\∀xs,SqT K H a xs->xs[i]?=some x|λ i H=>∃xs,SqT K H a xs/\xs.length<=i]
def Itr(lo:Int)(n:Nat):It:=%[λ i _=>i < n,λ i H x H'=>H'=H/\x=.int (lo+i)|λ i _=>n<=i]
theorem rN{P:F8}{w:G0}{K:C6}{tg:Expr}(a it:Mi):Turn P w K tg (Itl K a) [it] it (λ i h=>h.IsListIter it a i) where
 mem:=by simp
 obj:=λ i h st b hb=>by
  have e:b=it:=by simpa using hb
  subst e;obtain⟨o,e,c,d⟩:=st;exact%[o,e|λ v z=>by rw[d]at z;cases z]
 keep:=λ i h h' st k=>st.at λ o e=>k it (by simp) o e
 item:=by intro X hP hw hK hc i Mq s σ H E I hf st hg;subst hP hw hK;obtain⟨xs,x,hq,hx⟩:=hg;obtain⟨its,rv,p,hz⟩:=I.list hq;obtain⟨u,hu,ru⟩:=rv.get hx;obtain⟨f0,f1,f2,f3,f4,f5⟩:=hf it (by simp);refine wpAny_pyNext_list_item st p.isList (x:=u) (by simpa using hu) λ h' st' sb=>?_;have I1:Inv X Mq σ H { s with heap:=h' }:=I.turned (t':=s.toks) (λ b o hb e=>(sb.2 b hb).trans e) f0 f1 f3 f4 f5;obtain⟨o,e,c,d⟩:=id st';exact%[u,O|mH (s:={ s with heap:=h' }) e c d ∅ %[x,H,I1,ru,%[O|λ ys hy=>by rw[I.list_inj hy hq];exact hx],st'|λ b hb=>(hf b hb).1]]
 done:=by intro X hP hw hK hc i Mq s σ H E I hf st hg;subst hP hw hK;obtain⟨xs,hq,hx⟩:=hg;obtain⟨its,rv,p,hz⟩:=I.list hq;obtain⟨f0,f1,f2,f3,f4,f5⟩:=hf it (by simp);have hl:=rv.length;exact wpAny_pyNext_list_end (I.ok.hd hc) st p.isList (by simp;omega) λ h' eb=>%[O|I.turned (t':=s.toks) (λ b o hb e=>eb b o hb e) f0 f1 f3 f4 f5]
 self:=λ _ _ _ _ _ st h=>wpAny_pyIter_listiter st h
theorem nY{P:F8}{w:G0}{K:C6}{tg:Expr}(a it:Mi):Turn P w K tg (Itt K a) [it] it (λ i h=>h.IsTupleIter it a i) where
 mem:=by simp
 obj:=λ i h st b hb=>by
  have e:b=it:=by simpa using hb
  subst e;obtain⟨o,e,c,d⟩:=st;exact%[o,e|λ v z=>by rw[d]at z;cases z]
 keep:=λ i h h' st k=>st.at λ o e=>k it (by simp) o e
 item:=by intro X hP hw hK hc i Mq s σ H E I hf st hg;subst hP hw hK;obtain⟨xs,x,hq,hx⟩:=hg;obtain⟨its,rv,p,hz⟩:=I.tuple hq;obtain⟨u,hu,ru⟩:=rv.get hx;obtain⟨f0,f1,f2,f3,f4,f5⟩:=hf it (by simp);refine wpAny_pyNext_tuple_item st (show s.heap.IsTuple a its.toArray from p) (x:=u) (by simpa using hu) λ h' st' sb=>?_;have I1:Inv X Mq σ H { s with heap:=h' }:=I.turned (t':=s.toks) (λ b o hb e=>(sb.2 b hb).trans e) f0 f1 f3 f4 f5;obtain⟨o,e,c,d⟩:=id st';exact%[u,O|mH (s:={ s with heap:=h' }) e c d ∅ %[x,H,I1,ru,%[O|λ ys hy=>by rw[I.tuple_inj hy hq];exact hx],st'|λ b hb=>(hf b hb).1]]
 done:=by intro X hP hw hK hc i Mq s σ H E I hf st hg;subst hP hw hK;obtain⟨xs,hq,hx⟩:=hg;obtain⟨its,rv,p,hz⟩:=I.tuple hq;obtain⟨f0,f1,f2,f3,f4,f5⟩:=hf it (by simp);have hl:=rv.length;exact wpAny_pyNext_tuple_end (I.ok.hd hc) st (show s.heap.IsTuple a its.toArray from p) (by simp;omega) λ h' eb=>%[O|I.turned (t':=s.toks) (λ b o hb e=>eb b o hb e) f0 f1 f3 f4 f5]
 self:=λ _ _ _ _ _ st h=>wpAny_pyIter_tupleiter st h
theorem cM{P:F8}{w:G0}{K:C6}{tg:Expr}(it:Mi)(lo:Int)(n:Nat):Turn P w K tg (Itr lo n) [it] it (λ i h=>IsRangeIter h it (lo+(i:Nat) * 1) ((n:Int) - (i:Nat)) 1) where
 mem:=by simp
 obj:=λ i h st b hb=>by
  have e:b=it:=by simpa using hb
  subst e;exact⟨_,st,λ v z=>by
   have z':Data.fields _=Data.cell v:=z;cases z'⟩
 keep:=λ i h h' st k=>k it (by simp) _ st
 item:=by intro X hP hw hK hc i Mq s σ H E I hf st hg;subst hP hw hK;obtain⟨f0,f1,f2,f3,f4,f5⟩:=hf it (by simp);have W:=Walks.range (prog:=X.prog) (w:=X.w) (I.ok.hd hc) it lo 1 n;refine W.item i s _ _ hg st λ v h' tk hv st' kk=>?_;obtain⟨t,rfl⟩:=hv;have I1:Inv X Mq σ H { s with heap:=h',toks:=tk }:=I.turned (λ b o hb e=>kk b o (by simpa using hb) e) f0 f1 f3 f4 f5;refine%[_,O|mH (s:={ s with heap:=h',toks:=tk }) (n := "range_iterator") st' rfl rfl ∅ %[.int (lo+i),H,I1,%[t|?_],%[O|O],st'|λ b hb=>(hf b hb).1]];rw[Int.mul_one]
 done:=by intro X hP hw hK hc i Mq s σ H E I hf st hg;subst hP hw hK;obtain⟨f0,f1,f2,f3,f4,f5⟩:=hf it (by simp);exact wpAny_pyNext_range_end (I.ok.hd hc) st (by have:n<=i:=hg;omega) λ h' eb=>%[O|I.turned (t':=s.toks) (λ b o hb e=>eb b o hb e) f0 f1 f3 f4 f5]
 self:=λ _ _ _ _ _ st h=>wpAny_pyIter_rangeiter st h
section
variable{X:Cx}{tg:Expr}
inductive iListA(K:C6)(R:It->Hp->Prop)(x:V)(H1:Hp):Prop
|mk(a:Mi)(_:x=.ref a)(_:(∃xs,SqL K H1 a xs))(_:R (Itl K a) H1)
def yV(K:C6)(tl:TE):TI:=λ σ H R=>tl σ H λ x H1=>iListA K R x H1
inductive iTupA(K:C6)(R:It->Hp->Prop)(x:V)(H1:Hp):Prop
|mk(a:Mi)(_:x=.ref a)(_:(∃xs,SqT K H1 a xs))(_:R (Itt K a) H1)
def Ec(K:C6)(tl:TE):TI:=λ σ H R=>tl σ H λ x H1=>iTupA K R x H1
theorem bE{l:Expr}{tl:TE}(hl:PE X l tl):PI X tg l (yV X.K tl):=by
 intro Mq s σ H R I h;refine thn (hl Mq s σ H _ I h) λ v s1 %[x,H1,I1,r1|q1]=>?_;obtain⟨a,e,⟨xs,hq⟩,q⟩:=q1;subst e;cases r1;obtain⟨its,rv,p,hz⟩:=I1.list hq;refine wpAny_pyIter_list p.isList ?_;refine%[s1.heap.objs.size,[s1.heap.objs.size],_,_,H1,O,I1.kept (t':=s1.toks) λ b o e=>A7 _ e,rN a _,%[_,A8 _ rfl,O|O],λ b hb=>?_|q];have e:b=s1.heap.objs.size:=by simpa using hb
 subst e;exact I1.fpOk (B3 _) (I1.hok.fresh (B3 _))
theorem lg{l:Expr}{tl:TE}(hl:PE X l tl):PI X tg l (Ec X.K tl):=by
 intro Mq s σ H R I h;refine thn (hl Mq s σ H _ I h) λ v s1 %[x,H1,I1,r1|q1]=>?_;obtain⟨a,e,⟨xs,hq⟩,q⟩:=q1;subst e;cases r1;obtain⟨its,rv,p,hz⟩:=I1.tuple hq;refine NW (show s1.heap.IsTuple a its.toArray from p) ?_;refine%[s1.heap.objs.size,[s1.heap.objs.size],_,_,H1,O,I1.kept (t':=s1.toks) λ b o e=>A7 _ e,nY a _,%[_,A8 _ rfl,O|O],λ b hb=>?_|q];have e:b=s1.heap.objs.size:=by simpa using hb
 subst e;exact I1.fpOk (B3 _) (I1.hok.fresh (B3 _))
theorem iX{Mq:Mo (Mi×Obj)}{σ:St}{H:Hp}{s:F7}{R:It->Hp->Prop}{E:G1->F7->Prop}{lo hi:Int}{t u v:Tok}{tk:Nat}(I:Inv X Mq σ H s)(h1:-(2 ^ 62)<=lo)(h2:lo < 2 ^ 62)(h3:-(2 ^ 62)<=hi)(h4:hi < 2 ^ 62)
  (q:R (Itr lo (hi - lo).toNat) H):wpAny (model X.prog X.w) X.A (pyIter (.ref s.heap.objs.size)) (PIE X Mq σ tg R) E { s with heap:=s.heap.push { cls:=.type "range",data:=.fields #[.int lo t,.int hi u,.int 1 v] },toks:=tk }:=by
 refine wpAny_pyIter_range (IsRange.new ..) (small_one h1 h2 h3 h4) ?_;have I1:Inv X Mq σ H { s with heap:=s.heap.push { cls:=.type "range",data:=.fields #[.int lo t,.int hi u,.int 1 v] },toks:=tk }:=I.kept λ b o e=>A7 _ e;refine⟨(s.heap.push { cls:=.type "range",data:=.fields #[.int lo t,.int hi u,.int 1 v] }).objs.size,[(s.heap.push { cls:=.type "range",data:=.fields #[.int lo t,.int hi u,.int 1 v] }).objs.size],_,_,H,O,
  I1.kept (t':=tk) λ b o e=>A7 _ e,cM _ lo (hi - lo).toNat,?_,λ b hb=>?_,q⟩
 ·have e1:lo+((0:Nat):Int) * 1=lo:=by simp
  have e2:(((hi - lo).toNat:Nat):Int) - ((0:Nat):Int)=Builtin.Range.rangeSize lo hi 1:=by rw[rangeSize_one];split <;> omega
  show IsRangeIter _ _ (lo+((0:Nat):Int) * 1) ((((hi - lo).toNat:Nat):Int) - ((0:Nat):Int)) 1;rw[e1,e2];exact A8 _ rfl
 ·have e:b=(s.heap.push { cls:=.type "range",data:=.fields #[.int lo t,.int hi u,.int 1 v] }).objs.size:=by simpa using hb
  subst e;exact I1.fpOk (B3 _) (I1.hok.fresh (B3 _))
def Ed(ta:TA):TI:=λ σ H R=>ta σ H λ vs H1=>∃j:Int,vs=[.int j]/\-(2 ^ 62)<=j/\j < 2 ^ 62/\R (Itr 0 j.toNat) H1
def Ee(ta:TA):TI:=λ σ H R=>ta σ H λ vs H1=>∃i j:Int,vs=[.int i,.int j]/\(-(2 ^ 62)<=i/\i < 2 ^ 62/\-(2 ^ 62)<=j/\j < 2 ^ 62)/\R (Itr i (j - i).toNat) H1
theorem dC{a:Expr}{ta:TA}{p pos:Pos}(hg:Gl X "range")(hm:X.mg "range" = none)(ha:PA X [a] ta)(hs:starEach [a] X.env=[(false,eval a X.env)]:=by rfl):PI X tg (.Call (.Name "range" p) [a] [] pos) (Ed ta):=by
 intro Mq s σ H R I h;refine Call_ (dS I hg hm boot_range (M7 (thn (ha pos Mq s σ H _ I h) λ us s1 %[vs,H1,I1,r1|q1]=>?_) hs rfl));obtain⟨j,e,q1,q2,q⟩:=q1;subst e;cases r1 with
 | cons r rr=>
  cases rr;obtain⟨t,rfl⟩:=r;exact call_range_1 (iX I1 ⋯ ⋯ q1 q2 (by simpa using q))
theorem kj{a b:Expr}{ta:TA}{p pos:Pos}(hg:Gl X "range")(hm:X.mg "range" = none)(ha:PA X [a,b] ta)(hs:starEach [a,b] X.env=[(false,eval a X.env),(false,eval b X.env)]:=by rfl)(hs2:starEach [b] X.env=[(false,eval b X.env)]:=by rfl) :
  PI X tg (.Call (.Name "range" p) [a,b] [] pos) (Ee ta):=by
 intro Mq s σ H R I h;refine Call_ (dS I hg hm boot_range (M7 (thn (ha pos Mq s σ H _ I h) λ us s1 %[vs,H1,I1,r1|q1]=>?_) (by rw[hs,hs2]) (by rw[hs2];rfl)));obtain⟨i,j,e,⟨q1,q2,q3,q4⟩,q⟩:=q1;subst e;cases r1 with
 | cons r rr=>
  cases rr with
  | cons r' rr=>
   cases rr;obtain⟨t,rfl⟩:=r;obtain⟨t',rfl⟩:=r';exact call_range_2 (iX I1 q1 q2 q3 q4 q)
def Ef(wi:TI)(g:TG)(tb:TS):TS:=λ D σ H=>wi σ H λ J H1=>∃W:Nat->Nat->St->Hp->Prop,(∃m,W 0 m σ H1)/\∀i m σ H,W i m σ H ->
 (J.stop i H/\D.nx σ H)\/(J.go i H/\∃N:St->Hp->Prop,(∀σ' H',N σ' H'->∃m',m' < m/\W (i+1) m' σ' H')/\∀x H',J.yld i H x H'->g x σ H' λ σ2 H2=>tb { D with nx:=N,ct:=N,bk:=D.nx } σ2 H2)
def fE(fp:Mo Mi)(h:Heap):Mo (Mi×Obj):=fp.filterMap λ b=>(h.get? b).map λ o=>(b,o)
theorem fF{fp:Mo Mi}{h:Heap}{b:Mi}{o:Obj}(hb:b∈fp)(e:h.get? b=some o):(b,o)∈fE fp h:=List.mem_filterMap.mpr %[b,hb|by rw[e];rfl]
theorem kn{fp:Mo Mi}{h:Heap}{p:Mi×Obj}(hp:p∈fE fp h):p.1∈fp/\h.get? p.1=some p.2:=by
 obtain⟨b,hb,e⟩:=List.mem_filterMap.mp hp;cases q:h.get? b with
 | none=>rw[q]at e;cases e
 | some o=>
  rw[q]at e;have e':(b,o)=p:=B9 e;subst e';exact%[hb|q]
theorem Inv.pinned{Mq:Mo (Mi×Obj)}{σ:St}{H:Hp}{s:F7}{fp:Mo Mi}(I:Inv X Mq σ H s)(hf:∀b∈fp,FpOk X Mq H b)(ho:∀b∈fp,∃o,s.heap.get? b=some o/\∀v,o.data≠.cell v):Inv X (Mq ++ fE fp s.heap) σ H s :=
 I.pins_of λ p hp=>(C4.mp hp).elim (λ z=>I.pin p (A5 _ z)) λ z=>by obtain⟨hb,e⟩:=kn z;obtain⟨f0,f1,f2,_⟩:=hf p.1 hb;obtain⟨o,e',d⟩:=ho p.1 hb;rw[e]at e';cases e';exact%[e,f0,f1,f2|d]
theorem Inv.unpinned{Mq pl:Mo (Mi×Obj)}{σ:St}{H:Hp}{s:F7}(I:Inv X (Mq ++ pl) σ H s):Inv X Mq σ H s:=I.pins_of λ p hp=>I.pin p (A5 _ (B7 _ hp))
theorem bU{iter:Expr}{body:Mo Stmt}{wi:TI}{g:TG}{tb:TS}{pos:Pos}(hp:PassesOwn (model X.prog X.w) X.A X.env X.xe)(hc:X.calm=true)(hi:PI X tg iter wi)(hg:PG X tg g)(hb:PSs X body tb)
  (hs:∀x,foldedSetIterable iter X.env x=pure x:=by intro _;rfl):PS X (.For tg iter body [] pos) (Ef wi g tb):=by
 intro Mq s σ H D I h;refine wpAny_For (thn (hi Mq s σ H _ I h) λ v s1 h1=>thn h1 λ itv s2 h2=>?_) hs;obtain⟨it,fp,tn,J,H2,e,I2,T,st2,f2,W,⟨m0,w0⟩,turn⟩:=h2;subst e;have stat:∀{H':Hp},(∀b∈fp,H' b=none)->∀b∈fp,FpOk X Mq H' b:=λ hn b hb=>%[hn b hb|(f2 b hb).2]
 refine codeAny_forLoop_any (λ n s'=>∃i σ' H',Inv X Mq σ' H' s'/\tn i s'.heap/\(∀b∈fp,H' b=none)/\W i n σ' H') ?_ m0 %[0,σ,H2,I2,st2,λ b hb=>(f2 b hb).1|w0];rintro n s3 ⟨i,σ3,H3,I3,st3,fr3,w3⟩;rcases turn i n σ3 H3 w3 with⟨stop,qn⟩ | ⟨go,N,hN,step⟩
 ·refine Na hp (thn (T.done X rfl rfl rfl hc i Mq s3 σ3 H3 X.xe I3 (stat fr3) st3 stop) λ r s4 %[hr|I4]=>?_);subst hr;exact NS %[σ3,H3,I4|qn]
 ·refine Na hp (thn (T.item X rfl rfl rfl hc i Mq s3 σ3 H3 X.xe I3 (stat fr3) st3 go) λ r s4 %[u,hr|h4]=>?_);subst hr;refine Na hp (thn h4 λ _ s5 %[x,H5,I5,r5,y5,st5|fr5]=>?_);have I5':=I5.pinned (stat fr5) (T.obj _ _ st5);refine Na hp (thn (hg _ s5 σ3 H5 x u _ I5' r5 (step x H5 y5)) λ _ s6 %[σ6,H6,I6|q6]=>?_);refine Na hp (thn (hb _ s6 σ6 H6 _ I6 q6) λ f s7 q7=>?_);have again:∀{σ7:St}{H7:Hp},Inv X (Mq ++ fE fp s5.heap) σ7 H7 s7->N σ7 H7->∃m,m < n/\∃i σ' H',Inv X Mq σ' H' s7/\tn i s7.heap/\(∀b∈fp,H' b=none)/\W i m σ' H':=λ {σ7 H7} I7 n7=>by obtain⟨m',hm,w7⟩:=hN σ7 H7 n7;refine%[m',hm,i+1,σ7,H7,I7.unpinned,T.keep _ _ _ st5 λ b hb o e=>(I7.pin (b,o) (A5 _ (A5 _ (fF hb e)))).1,λ b hb=>?_|w7];obtain⟨o,e,d⟩:=T.obj _ _ st5 b hb;exact(I7.pin (b,o) (A5 _ (A5 _ (fF hb e)))).2.1
  cases f with
  | next=>obtain⟨σ7,H7,I7,n7⟩:=q7;exact again I7 n7
  | cont=>obtain⟨σ7,H7,I7,n7⟩:=q7;exact again I7 n7
  | brk=>obtain⟨σ7,H7,I7,q7⟩:=q7;exact%[σ7,H7,I7.unpinned|q7]
  | ret v=>obtain⟨x7,σ7,H7,I7,r7,q7⟩:=q7;exact%[x7,σ7,H7,I7.unpinned,r7|q7]
end
theorem dD{K:C6}{a:Mi}{xs:Mo V}{g:TG}{tb:TS}{D:Ends}{σ:St}{H:Hp}(Pv:Nat->St->Hp->Prop)(h0:Pv 0 σ H)(hl:∀i σ H,i<=xs.length->Pv i σ H->SqL K H a xs)
  (hs:∀i x σ H,xs[i]?=some x->Pv i σ H->g x σ H λ σ2 H2=>tb { D with nx:=Pv (i+1),ct:=Pv (i+1),bk:=D.nx } σ2 H2) (hd:∀σ H,Pv xs.length σ H->D.nx σ H) :
  ∃W:Nat->Nat->St->Hp->Prop,(∃m,W 0 m σ H)/\∀i m σ H,W i m σ H ->
   ((Itl K a).stop i H/\D.nx σ H)\/((Itl K a).go i H/\∃N:St->Hp->Prop,(∀σ' H',N σ' H'->∃m',m' < m/\W (i+1) m' σ' H')/\∀x H',(Itl K a).yld i H x H'->g x σ H' λ σ2 H2=>tb { D with nx:=N,ct:=N,bk:=D.nx } σ2 H2):=by
 refine%[λ i m σ H=>m=xs.length - i/\i<=xs.length/\Pv i σ H,%[xs.length,by simp,E8 _|h0]|?_];rintro i m σ H ⟨rfl,hi,p⟩;have q:=hl i σ H hi p
 by_cases hlt:i < xs.length
 ·refine .inr %[%[xs,xs[i],q|by simp[hlt]],Pv (i+1),λ σ' H' p'=>%[xs.length - (i+1),⋯,O,hlt|p']|λ x H' y=>?_];obtain⟨e,y⟩:=y;subst e;exact hs i x σ _ (y xs q) p
 ·have e:i=xs.length:=⋯
  subst e;exact .inl %[%[xs,q|B3 _]|hd σ H p]
theorem xj{K:C6}{a:Mi}{xs:Mo V}{g:TG}{tb:TS}{D:Ends}{σ:St}{H:Hp}(Pv:Nat->St->Hp->Prop)(h0:Pv 0 σ H)(hl:∀i σ H,i<=xs.length->Pv i σ H->SqT K H a xs)
  (hs:∀i x σ H,xs[i]?=some x->Pv i σ H->g x σ H λ σ2 H2=>tb { D with nx:=Pv (i+1),ct:=Pv (i+1),bk:=D.nx } σ2 H2) (hd:∀σ H,Pv xs.length σ H->D.nx σ H) :
  ∃W:Nat->Nat->St->Hp->Prop,(∃m,W 0 m σ H)/\∀i m σ H,W i m σ H ->
   ((Itt K a).stop i H/\D.nx σ H)\/((Itt K a).go i H/\∃N:St->Hp->Prop,(∀σ' H',N σ' H'->∃m',m' < m/\W (i+1) m' σ' H')/\∀x H',(Itt K a).yld i H x H'->g x σ H' λ σ2 H2=>tb { D with nx:=N,ct:=N,bk:=D.nx } σ2 H2):=by
 refine%[λ i m σ H=>m=xs.length - i/\i<=xs.length/\Pv i σ H,%[xs.length,by simp,E8 _|h0]|?_];rintro i m σ H ⟨rfl,hi,p⟩;have q:=hl i σ H hi p
 by_cases hlt:i < xs.length
 ·refine .inr %[%[xs,xs[i],q|by simp[hlt]],Pv (i+1),λ σ' H' p'=>%[xs.length - (i+1),⋯,O,hlt|p']|λ x H' y=>?_];obtain⟨e,y⟩:=y;subst e;exact hs i x σ _ (y xs q) p
 ·have e:i=xs.length:=⋯
  subst e;exact .inl %[%[xs,q|B3 _]|hd σ H p]
theorem gO{lo:Int}{n:Nat}{g:TG}{tb:TS}{D:Ends}{σ:St}{H:Hp}(Pv:Nat->St->Hp->Prop)(h0:Pv 0 σ H)
  (hs:∀i σ H,i < n->Pv i σ H->g (.int (lo+i)) σ H λ σ2 H2=>tb { D with nx:=Pv (i+1),ct:=Pv (i+1),bk:=D.nx } σ2 H2) (hd:∀σ H,Pv n σ H->D.nx σ H) :
  ∃W:Nat->Nat->St->Hp->Prop,(∃m,W 0 m σ H)/\∀i m σ H,W i m σ H ->
   ((Itr lo n).stop i H/\D.nx σ H)\/((Itr lo n).go i H/\∃N:St->Hp->Prop,(∀σ' H',N σ' H'->∃m',m' < m/\W (i+1) m' σ' H')/\∀x H',(Itr lo n).yld i H x H'->g x σ H' λ σ2 H2=>tb { D with nx:=N,ct:=N,bk:=D.nx } σ2 H2):=by
 refine%[λ i m σ H=>m=n - i/\i<=n/\Pv i σ H,%[n,by simp,E8 _|h0]|?_];rintro i m σ H ⟨rfl,hi,p⟩
 by_cases hlt:i < n
 ·refine .inr %[hlt,Pv (i+1),λ σ' H' p'=>%[n - (i+1),⋯,O,hlt|p']|λ x H' y=>?_];obtain⟨e,y⟩:=y;subst e y;exact hs i σ _ hlt p
 ·have e:i=n:=⋯
  subst e;exact .inl %[B3 _|hd σ H p]
abbrev R2:=V->V->Hp->VK->Prop
def OpR(X:Cx)(f:G1->G1->Sem G1)(r:R2):Prop :=
 ∀(Mq:Mo (Mi×Obj))(s:F7)(σ:St)(H:Hp)(x y:V)(v u:G1)(Q:VK),Inv X Mq σ H s->RelV x v->RelV y u->r x y H Q ->
  wpAny (model X.prog X.w) X.A (f v u) (EP X Mq σ Q) X.xe s
def UnR(X:Cx)(f:G1->Sem G1)(r:V->Hp->VK->Prop):Prop :=
 ∀(Mq:Mo (Mi×Obj))(s:F7)(σ:St)(H:Hp)(x:V)(v:G1)(Q:VK),Inv X Mq σ H s->RelV x v->r x H Q ->
  wpAny (model X.prog X.w) X.A (f v) (EP X Mq σ Q) X.xe s
def bW(X:Cx)(f:G1)(r:Mo V->Hp->VK->Prop):Prop :=
 ∀(Mq:Mo (Mi×Obj))(s:F7)(σ:St)(H:Hp)(xs:Mo V)(us:Mo G1)(Q:VK),Inv X Mq σ H s->Vals xs us->r xs H Q ->
  wpAny (model X.prog X.w) X.A (call f us) (EP X Mq σ Q) X.xe s
def tOp(r:R2)(ta tb:TE):TE:=λ σ H Q=>ta σ H λ x H1=>tb σ H1 λ y H2=>r x y H2 Q
def tUn(r:V->Hp->VK->Prop)(ta:TE):TE:=λ σ H Q=>ta σ H λ x H1=>r x H1 Q
inductive rI(C:Int->Int->Prop)(g:Int->Int->V)(x:V)(y:V)(H:Hp)(Q:VK):Prop
|mk(i j:Int)(_:x=.int i)(_:y=.int j)(_:C i j)(_:Q (g i j) H)
inductive rI0(g:Int->Int->V)(x:V)(y:V)(H:Hp)(Q:VK):Prop
|mk(i j:Int)(_:x=.int i)(_:y=.int j)(_:Q (g i j) H)
def rU(g:Int->V):V->Hp->VK->Prop:=λ x H Q=>∃i,x=.int i/\Q (g i) H
section
variable{X:Cx}{a b c:Expr}{ta tb tc:TE}{pos:Pos}
theorem zC(ha:PE X a ta)(hb:PE X b tb){Mq:Mo (Mi×Obj)}{s:F7}{σ:St}{H:Hp}{R:V->V->Hp->Prop}(I:Inv X Mq σ H s)
  (h:ta σ H λ x H1=>tb σ H1 λ y H2=>R x y H2) {Q:G1->F7->Prop} {f:G1->G1->Sem G1}
  (hf:∀v u s2 x y H2,Inv X Mq σ H2 s2->RelV x v->RelV y u->R x y H2->wpAny (model X.prog X.w) X.A (f v u) Q X.xe s2) :
  wpAny (model X.prog X.w) X.A (eval a X.env) (λ v s₁=>wpAny (model X.prog X.w) X.A (eval b X.env) (λ u s₂=>wpAny (model X.prog X.w) X.A (f v u) Q X.xe s₂) X.xe s₁) X.xe s:=by
 refine thn (ha Mq s σ H _ I h) λ v s1 %[x,H1,I1,r1|q1]=>?_;refine thn (hb Mq s1 σ H1 _ I1 q1) λ u s2 %[y,H2,I2,r2|q2]=>?_;exact hf v u s2 x y H2 I2 r1 r2 q2
theorem ax{op:Operator}{r:R2}(ho:OpR X (binaryOp op) r)(ha:PE X a ta)(hb:PE X b tb):PE X (.BinOp a op b pos) (tOp r ta tb):=by intro Mq s σ H Q I h;exact wpAny_BinOp (zC ha hb I h λ v u s2 x y H2 I2 rx ry q=>ho Mq s2 σ H2 x y v u Q I2 rx ry q)
theorem yW{op:UnaryOp}{r:V->Hp->VK->Prop}(ho:UnR X (unaryOp op) r)(ha:PE X a ta):PE X (.UnaryOp op a pos) (tUn r ta):=by intro Mq s σ H Q I h;exact UnaryOp_ (thn (ha Mq s σ H _ I h) λ v s1 %[x,H1,I1,r1|q1]=>ho Mq s1 σ H1 x v Q I1 r1 q1)
theorem opI{f:G1->G1->Sem G1}{C:Int->Int->Prop}{g:Int->Int->Int}
  (rule:∀(i j:Int)(t u:Tok)(s:F7)(Q E:G1->F7->Prop),C i j->Q (.int (g i j) s.toks) { s with toks:=s.toks+1 }->wpAny (model X.prog X.w) X.A (f (.int i t) (.int j u)) Q E s) :
  OpR X f (rI C λ i j=>.int (g i j)):=by
 intro Mq s σ H x y v u Q I rx ry h;obtain⟨i,j,rfl,rfl,hc,q⟩:=h;obtain⟨t,rfl⟩:=rx;obtain⟨t',rfl⟩:=ry;exact rule i j t t' s _ _ hc %[.int (g i j),H,I.tok _,%[_|rfl]|q]
theorem Eg{f:G1->G1->Sem G1}{g:Int->Int->Int}
  (rule:∀(i j:Int)(t u:Tok)(s:F7)(Q E:G1->F7->Prop),Q (.int (g i j) s.toks) { s with toks:=s.toks+1 }->wpAny (model X.prog X.w) X.A (f (.int i t) (.int j u)) Q E s) :
  OpR X f (rI0 λ i j=>.int (g i j)):=by
 intro Mq s σ H x y v u Q I rx ry h;obtain⟨i,j,rfl,rfl,q⟩:=h;obtain⟨t,rfl⟩:=rx;obtain⟨t',rfl⟩:=ry;exact rule i j t t' s _ _ %[.int (g i j),H,I.tok _,%[_|rfl]|q]
theorem xk{f:G1->G1->Sem G1}{g:Int->Int->Bool}
  (rule:∀(i j:Int)(t u:Tok)(s:F7)(Q E:G1->F7->Prop),Q (.bool (g i j)) s->wpAny (model X.prog X.w) X.A (f (.int i t) (.int j u)) Q E s) :
  OpR X f (rI0 λ i j=>.bl (g i j)):=by
 intro Mq s σ H x y v u Q I rx ry h;obtain⟨i,j,rfl,rfl,q⟩:=h;obtain⟨t,rfl⟩:=rx;obtain⟨t',rfl⟩:=ry;exact rule i j t t' s _ _ %[.bl (g i j),H,I,rfl|q]
def Ji(i j:Int):Prop:=0 < j/\j < 1073741824
def Jj(i j:Int):Prop:=0<=j/\j<=1000000/\i.natAbs < 2 ^ 64
def CMul(i j:Int):Prop:=(-(2 ^ 64) < i/\i < 2 ^ 64)\/(-(2 ^ 64) < j/\j < 2 ^ 64)
theorem CMul.ok{i j:Int}(h:CMul i j):IntMulOk i j:=by
 rcases h with⟨h1,h2⟩ | ⟨h1,h2⟩
 ·exact .of_left (intBits_le_64 h1 h2)
 ·exact .of_right (intBits_le_64 h1 h2)
theorem bf:OpR X (binaryOp .Add) (rI0 λ i j=>.int (i+j)):=Eg λ _ _ _ _ _ _ _ q=>add_int q
theorem dv:OpR X (binaryOp .Sub) (rI0 λ i j=>.int (i - j)):=Eg λ _ _ _ _ _ _ _ q=>sub_int q
theorem gP:OpR X (binaryOp .Mult) (rI CMul λ i j=>.int (i * j)):=opI λ _ _ _ _ _ _ _ hc q=>mul_int q hc.ok
theorem eM:OpR X (binaryOp .Mod) (rI (λ _ j=>0 < j) λ i j=>.int (i % j)):=opI λ i j _ _ _ _ _ hc q=>by have h1:(0:Int) < j:=hc;exact mod_int' ⋯ (by rw[Int.fmod_eq_emod_of_nonneg i ⋯];exact q)
theorem lh:OpR X (binaryOp .Pow) (rI Jj λ i j=>.int (i ^ j.toNat)):=opI λ _ _ _ _ _ _ _ hc q=>pow_int_small hc.1 hc.2.1 hc.2.2 q
theorem unI{f:G1->Sem G1}{g:Int->Int}
  (rule:∀(i:Int)(t:Tok)(s:F7)(Q E:G1->F7->Prop),Q (.int (g i) s.toks) { s with toks:=s.toks+1 }->wpAny (model X.prog X.w) X.A (f (.int i t)) Q E s) :
  UnR X f (rU λ i=>.int (g i)):=by
 intro Mq s σ H x v Q I rx h;obtain⟨i,rfl,q⟩:=h;obtain⟨t,rfl⟩:=rx;exact rule i t s _ _ %[.int (g i),H,I.tok _,%[_|rfl]|q]
theorem uD:UnR X (unaryOp .USub) (rU λ i=>.int (-i)):=unI λ _ _ _ _ _ q=>neg_int q
inductive rz_op_add_ib(x:V)(y:V)(H:Hp)(Q:VK):Prop
|mk(i k:_)(_:x=.int i)(_:y=.bl k)(_:Q (.int (i+b2i k)) H)
end
def Eh:V->V->Bool
 | .non,.non=>true | .non,.int _=>true | .int _,.non=>true | .non,.bl _=>true | .bl _,.non=>true | .non,.str _=>true | .str _,.non=>true
 | .int _,.int _=>true | .bl _,.bl _=>true | .str _,.str _=>true | .byt _,.byt _=>true
 | .int _,.str _=>true | .str _,.int _=>true | .bl _,.str _=>true | .str _,.bl _=>true
 | _,_=>false
def rEq:R2:=λ x y H Q=>Eh x y=true/\Q (.bl (decide (x=y))) H
def rNe:R2:=λ x y H Q=>Eh x y=true/\Q (.bl (!decide (x=y))) H
theorem lj{i j:Int}:decide (V.int i=V.int j)=(i == j):=by rw[MN];simp
theorem uE{i j:Bool}:decide (V.bl i=V.bl j)=(i == j):=by rw[MN];simp
theorem qE{i j:Str}:decide (V.str i=V.str j)=(i == j):=by rw[MN];simp
theorem qF{i j:Mm UInt8}:decide (V.byt i=V.byt j)=(i.toList == j.toList):=by rw[MN];cases i;cases j;simp
section
variable{X:Cx}{a b c:Expr}{ta tb tc:TE}{pos:Pos}
theorem aM{Mq:Mo (Mi×Obj)}{σ:St}{H:Hp}{s:F7}{Q:VK}{k k':Bool}(I:Inv X Mq σ H s)(q:Q (.bl k) H)(e:k=k'):EP X Mq σ Q (.bool k') s:=by subst e;exact%[.bl k,H,I,O|q]
theorem cx:OpR X (compareOp .Eq) rEq:=by
 intro Mq s σ H x y v u Q I rx ry h;obtain⟨hs,q⟩:=h;cases x with
 | non=>
  cases rx;cases y with
  | non=>cases ry;exact PySem.EqNone.eq_none_none (aM I q (by simp))
  | bl j=>cases ry;exact PySem.EqNone.eq_none_bool (aM I q (by simp))
  | int j=>obtain⟨t',rfl⟩:=ry;exact PySem.EqNone.eq_none_int (aM I q (by simp))
  | str j=>obtain⟨t',rfl⟩:=ry;exact PySem.EqNone.eq_none_str (aM I q (by simp))
  | _=>exact absurd (show false=true from hs) B2
 | bl i=>
  cases rx;cases y with
  | non=>cases ry;exact PySem.EqNone.eq_bool_none (aM I q (by simp))
  | bl j=>cases ry;exact eq_bool (aM I q uE)
  | str j=>obtain⟨t',rfl⟩:=ry;exact PySem.EqMixed.eq_bool_str (aM I q (by simp))
  | _=>exact absurd (show false=true from hs) B2
 | int i=>
  obtain⟨t,rfl⟩:=rx;cases y with
  | non=>cases ry;exact PySem.EqNone.eq_int_none (aM I q (by simp))
  | int j=>obtain⟨t',rfl⟩:=ry;exact eq_int (aM I q lj)
  | str j=>obtain⟨t',rfl⟩:=ry;exact PySem.EqMixed.eq_int_str (aM I q (by simp))
  | _=>exact absurd (show false=true from hs) B2
 | str i=>
  obtain⟨t,rfl⟩:=rx;cases y with
  | non=>cases ry;exact PySem.EqNone.eq_str_none (aM I q (by simp))
  | bl j=>cases ry;exact PySem.EqMixed.eq_str_bool (aM I q (by simp))
  | int j=>obtain⟨t',rfl⟩:=ry;exact PySem.EqMixed.eq_str_int (aM I q (by simp))
  | str j=>obtain⟨t',rfl⟩:=ry;exact eq_str (aM I q qE)
  | _=>exact absurd (show false=true from hs) B2
 | byt i=>
  obtain⟨t,rfl⟩:=rx;cases y with
  | byt j=>obtain⟨t',rfl⟩:=ry;exact PySem.W.eq_bytes (aM I q qF)
  | _=>exact absurd (show false=true from hs) B2
 | _=>cases y <;> exact absurd (show false=true from hs) B2
theorem uF:OpR X (compareOp .NotEq) rNe:=by
 intro Mq s σ H x y v u Q I rx ry h;obtain⟨hs,q⟩:=h;cases x with
 | non=>
  cases rx;cases y with
  | non=>cases ry;exact PySem.EqNone.ne_none_none (aM I q (by simp))
  | bl j=>cases ry;exact PySem.EqNone.ne_none_bool (aM I q (by simp))
  | int j=>obtain⟨t',rfl⟩:=ry;exact PySem.EqNone.ne_none_int (aM I q (by simp))
  | str j=>obtain⟨t',rfl⟩:=ry;exact PySem.EqNone.ne_none_str (aM I q (by simp))
  | _=>exact absurd (show false=true from hs) B2
 | bl i=>
  cases rx;cases y with
  | non=>cases ry;exact PySem.EqNone.ne_bool_none (aM I q (by simp))
  | bl j=>cases ry;exact ne_bool (aM I q (NE not uE))
  | str j=>obtain⟨t',rfl⟩:=ry;exact PySem.EqMixed.ne_bool_str (aM I q (by simp))
  | _=>exact absurd (show false=true from hs) B2
 | int i=>
  obtain⟨t,rfl⟩:=rx;cases y with
  | non=>cases ry;exact PySem.EqNone.ne_int_none (aM I q (by simp))
  | int j=>obtain⟨t',rfl⟩:=ry;exact ne_int (aM I q (NE not lj))
  | str j=>obtain⟨t',rfl⟩:=ry;exact PySem.EqMixed.ne_int_str (aM I q (by simp))
  | _=>exact absurd (show false=true from hs) B2
 | str i=>
  obtain⟨t,rfl⟩:=rx;cases y with
  | non=>cases ry;exact PySem.EqNone.ne_str_none (aM I q (by simp))
  | bl j=>cases ry;exact PySem.EqMixed.ne_str_bool (aM I q (by simp))
  | int j=>obtain⟨t',rfl⟩:=ry;exact PySem.EqMixed.ne_str_int (aM I q (by simp))
  | str j=>obtain⟨t',rfl⟩:=ry;exact ne_str (aM I q (NE not qE))
  | _=>exact absurd (show false=true from hs) B2
 | byt i=>
  obtain⟨t,rfl⟩:=rx;cases y with
  | byt j=>obtain⟨t',rfl⟩:=ry;exact PySem.W.ne_bytes (aM I q (NE not qF))
  | _=>exact absurd (show false=true from hs) B2
 | _=>cases y <;> exact absurd (show false=true from hs) B2
theorem Ei:OpR X (compareOp .Lt) (rI0 λ i j=>.bl (decide (i < j))):=xk λ _ _ _ _ _ _ _ q=>lt_int q
theorem mI:OpR X (compareOp .LtE) (rI0 λ i j=>.bl (decide (i<=j))):=xk λ _ _ _ _ _ _ _ q=>le_int q
theorem ip:OpR X (compareOp .Gt) (rI0 λ i j=>.bl (decide (j < i))):=xk λ _ _ _ _ _ _ _ q=>gt_int q
theorem yX:OpR X (compareOp .GtE) (rI0 λ i j=>.bl (decide (j<=i))):=xk λ _ _ _ _ _ _ _ q=>ge_int q
inductive rz_op_lt_str(x:V)(y:V)(H:Hp)(Q:VK):Prop
|mk(i j:_)(_:x=.str i)(_:y=.str j)(_:Q (.bl (decide (i.cps.toList < j.cps.toList))) H)
inductive rz_op_in_str(x:V)(y:V)(H:Hp)(Q:VK):Prop
|mk(i j:_)(_:x=.str i)(_:y=.str j)(_:Q (.bl (!(Builtin.Str.occurrences j i 0 j.length 1).isEmpty)) H)
theorem zD:OpR X (compareOp .Is) (λ x y H Q=>y=.non/\Q (.bl (decide (x=.non))) H):=by
 intro Mq s σ H x y v u Q I rx ry h;obtain⟨rfl,q⟩:=h;cases ry;refine is_none_gen (aM I q ?_);cases x <;> first
  | (cases rx;rfl)
  | (obtain⟨t,rfl⟩:=rx;rfl)
theorem xn:OpR X (compareOp .IsNot) (λ x y H Q=>y=.non/\Q (.bl (!decide (x=.non))) H):=by
 intro Mq s σ H x y v u Q I rx ry h;obtain⟨rfl,q⟩:=h;cases ry;refine isnot_none_gen (aM I q ?_);cases x <;> first
  | (cases rx;rfl)
  | (obtain⟨t,rfl⟩:=rx;rfl)
inductive rz_op_notin_str(x:V)(y:V)(H:Hp)(Q:VK):Prop
|mk(i j:_)(_:x=.str i)(_:y=.str j)(_:Q (.bl (!(!(Builtin.Str.occurrences j i 0 j.length 1).isEmpty))) H)
def qG:HO->Bool
 | .lst _=>true
 | .ins _ _ _=>true
 | _=>false
inductive rz_op_is_ref(x:V)(y:V)(H:Hp)(Q:VK):Prop
|mk(a b oa ob:_)(_:x=.ref a)(_:y=.ref b)(_:H a=some oa)(_:qG oa=true)(_:H b=some ob)(_:qG ob=true)(_:Q (.bl (decide (a=b))) H)
inductive rz_op_isnot_ref(x:V)(y:V)(H:Hp)(Q:VK):Prop
|mk(a b oa ob:_)(_:x=.ref a)(_:y=.ref b)(_:H a=some oa)(_:qG oa=true)(_:H b=some ob)(_:qG ob=true)(_:Q (.bl (!decide (a=b))) H)
theorem ay(b:Expr){op:CmpOp}(h:op≠.In:=by decide)(h2:op≠.NotIn:=by decide):behindInMarks op b=false:=by
 have e1:(op == CmpOp.In)=false:=by cases op <;> first | rfl | exact absurd rfl h
 have e2:(op == CmpOp.NotIn)=false:=by cases op <;> first | rfl | exact absurd rfl h2
 cases b <;> simp[behindInMarks,e1,e2]
theorem bF{op:CmpOp}{r:R2}(ho:OpR X (compareOp op) r)(ha:PE X a ta)(hb:PE X b tb)(hm:behindInMarks op b=false):PE X (.Compare a [op] [b] pos) (tOp r ta tb):=by intro Mq s σ H Q I h;exact wpAny_Compare1 (zC ha hb I h λ v u s2 x y H2 I2 rx ry q=>ho Mq s2 σ H2 x y v u Q I2 rx ry q) hm
def yY(t:TE):TT:=λ σ H Q=>t σ H λ x H'=>IsB x λ k=>Q k H'
theorem aB{op:CmpOp}{r:R2}(ho:OpR X (compareOp op) r)(ha:PE X a ta)(hb:PE X b tb)(hm:behindInMarks op b=false):PT X (.Compare a [op] [b] pos) (yY (tOp r ta tb)):=by
 intro Mq s σ H Q I h;refine wpAny_isTrue_Compare1 (thn (ha Mq s σ H _ I h) λ v s1 %[x,H1,I1,r1|q1]=>thn (hb Mq s1 σ H1 _ I1 q1) λ u s2 %[y,H2,I2,r2|q2]=>
  thn (ho Mq s2 σ H2 x y v u _ I2 r1 r2 q2) λ c s3 %[z,H3,I3,r3,k,e|q3]=>?_) hm
 subst e;cases r3;exact F3 %[H3,I3|q3]
def zE(r r':R2)(ta tb tc:TE):TE:=λ σ H Q=>ta σ H λ x H1=>tb σ H1 λ y H2=>r x y H2 λ z H3=>∃k,z=.bl k /\
 (if k=true then tc σ H3 λ w' H4=>r' y w' H4 Q else Q (.bl false) H3)
theorem uG{op op':CmpOp}{r r':R2}(ho:OpR X (compareOp op) r)(ho':OpR X (compareOp op') r')(ha:PE X a ta)(hb:PE X b tb)(hc:PE X c tc)
  (hm:lastMarks [op,op'] [b,c]=false:=by with_unfolding_all rfl):PT X (.Compare a [op,op'] [b,c] pos) (yY (zE r r' ta tb tc)):=by
 intro Mq s σ H Q I h;refine isTrue_chain (thn (ha Mq s σ H _ I h) λ v s1 %[x,H1,I1,r1|q1]=>test_link (thn (hb Mq s1 σ H1 _ I1 q1) λ u s2 %[y,H2,I2,r2|q2]=>
  thn (ho Mq s2 σ H2 x y v u _ I2 r1 r2 q2) λ d s3 %[z,H3,I3,r3,k,e|q3]=>?_)) hm
 subst e;cases r3;refine F3 ?_;cases k with
 | false=>
  obtain⟨k',e',q'⟩:=q3;cases e';exact ite_ff %[H3,I3|q']
 | true=>
  refine ite_tt (test_last (thn (hc Mq s3 σ H3 _ I3 q3) λ w' s4 %[z',H4,I4,r4|q4]=>thn (ho' Mq s4 σ H4 y z' u w' _ I4 r2 r4 q4) λ d' s5 %[z2,H5,I5,r5,k2,e2|q5]=>?_));subst e2;cases r5;exact F3 %[H5,I5|q5]
theorem lp:(sizeLine:Nat) < 2 ^ 63:=by rw[sizeLine_eq];decide
inductive rz_op_add_str(x:V)(y:V)(H:Hp)(Q:VK):Prop
|mk(i j:_)(_:x=.str i)(_:y=.str j)(_:i.length+j.length<=sizeLine)(_:Q (.str (i ++ j)) H)
inductive rz_iop_add_str(x:V)(y:V)(H:Hp)(Q:VK):Prop
|mk(i j:_)(_:x=.str i)(_:y=.str j)(_:i.length+j.length<=sizeLine)(_:Q (.str (i ++ j)) H)
inductive rz_op_add_byt(x:V)(y:V)(H:Hp)(Q:VK):Prop
|mk(i j:_)(_:x=.byt i)(_:y=.byt j)(_:i.size+j.size<=16777216)(_:Q (.byt (i ++ j)) H)
theorem eD{x:V}{us:Mo G1}(r:Vals [x] us):∃u,us=[u]/\RelV x u:=by
 cases r with
 | cons r1 r2=>cases r2;exact%[_,O|r1]
theorem uH{x y:V}{us:Mo G1}(r:Vals [x,y] us):∃u w',us=[u,w']/\RelV x u/\RelV y w':=by
 cases r with
 | cons r1 r2=>
  cases r2 with
  | cons r3 r4=>cases r4;exact%[_,_,O,r1|r3]
inductive rz_call_abs(xs:Mo V)(H:Hp)(Q:VK):Prop
|mk(i:_)(_:xs=[.int i])(_:Q (.int (if i < 0 then -i else i)) H)
theorem mJ:bW X (.builtin "abs") (rz_call_abs):=by intro Mq s σ H xs us Q I r h;obtain⟨i,rfl,q⟩:=h;obtain⟨u,rfl,t,rfl⟩:=eD r;exact call_abs_int λ u tk=>%[.int (if i < 0 then -i else i),H,I.tok _,%[_|O]|q]
inductive rz_call_max2(xs:Mo V)(H:Hp)(Q:VK):Prop
|mk(i j:_)(_:xs=[.int i,.int j])(_:Q (.int (if j > i then j else i)) H)
theorem ko(hc:X.calm=true):bW X (.builtin "max") (rz_call_max2):=by
 intro Mq s σ H xs us Q I r h;obtain⟨i,j,rfl,q⟩:=h;obtain⟨u,w',rfl,⟨t,rfl⟩,⟨t',rfl⟩⟩:=uH r;refine max_two_ints (I.ok.hd hc) λ h' tk k=>%[_,H,I.kept k,?_|q]
 by_cases hj:j > i
 ·rw[Mw hj,Mw hj];exact%[_|O]
 ·rw[Mu hj,Mu hj];exact%[_|O]
inductive rz_call_min2(xs:Mo V)(H:Hp)(Q:VK):Prop
|mk(i j:_)(_:xs=[.int i,.int j])(_:Q (.int (if j < i then j else i)) H)
theorem gQ(hc:X.calm=true):bW X (.builtin "min") (rz_call_min2):=by
 intro Mq s σ H xs us Q I r h;obtain⟨i,j,rfl,q⟩:=h;obtain⟨u,w',rfl,⟨t,rfl⟩,⟨t',rfl⟩⟩:=uH r;refine min_two_ints (I.ok.hd hc) λ h' tk k=>%[_,H,I.kept k,?_|q]
 by_cases hj:j < i
 ·rw[Mw hj,Mw hj];exact%[_|O]
 ·rw[Mu hj,Mu hj];exact%[_|O]
theorem rO:bW X (.type "int") (λ xs H Q=>(∃i,xs=[.int i]/\Q (.int i) H)\/∃k,xs=[.bl k]/\Q (.int (if k then 1 else 0)) H):=by
 intro Mq s σ H xs us Q I r h;rcases h with⟨i,rfl,q⟩ | ⟨k,rfl,q⟩
 ·obtain⟨u,rfl,t,rfl⟩:=eD r;exact call_int_int %[.int i,H,I,%[_|rfl]|q]
 ·obtain⟨u,rfl,r1⟩:=eD r;cases r1;exact call_int_bool %[.int (if k then 1 else 0),H,I.tok _,%[_|rfl]|q]
inductive rz_call_str_int(xs:Mo V)(H:Hp)(Q:VK):Prop
|mk(i:_)(_:xs=[.int i])(_:i.natAbs.log2 < 1920)(_:Q (.str (toString i)) H)
inductive rz_call_ord(xs:Mo V)(H:Hp)(Q:VK):Prop
|mk(x:_)(_:xs=[.str x])(_:x.length=1)(_:Q (.int (x.cps.getD 0 0:Nat)) H)
inductive rz_call_chr(xs:Mo V)(H:Hp)(Q:VK):Prop
|mk(i:_)(_:xs=[.int i])(_:0<=i)(_:i<=1114111)(_:Q (.str ⟨#[i.toNat]⟩) H)
def Jk(K:C6)(x:V)(H:Hp)(n:Nat):Prop :=
 match x with
 | .str y=>y.length<=sizeLine/\n=y.length
 | .byt y=>y.size<=sizeLine/\n=y.size
 | .ref p=>(∃xs,SqL K H p xs/\n=xs.length)\/∃xs,SqT K H p xs/\n=xs.length
 | _=>False
inductive rz_call_len(K:C6)(xs:Mo V)(H:Hp)(Q:VK):Prop
|mk(x n:_)(_:xs=[x])(_:Jk K x H n)(_:Q (.int n) H)
inductive rz_call_divmod(xs:Mo V)(H:Hp)(Q:VK):Prop
|mk(i j:_)(_:xs=[.int i,.int j])(_:Ji i j)(_:∀p,H p=none->Q (.ref p) (upd H p (.tup [.int (i / j),.int (i % j)])))
end
structure ObjM(h:Heap)(x dx C:Mi)(mA:Str->Ml Value):Prop where
 obj:h.get? x=some (PySem.W.instObj C dx)
 ns:h.Ns1 dx mA
 ne:dx≠x
theorem rP{h:Heap}{dx:Mi}{mA:Str->Ml G1}(n:h.Ns1 dx mA):∃od,h.get? dx=some od/\∀name,PySem.W.lookIn name od=some (mA name):=by
 obtain⟨o,es,ep,ho,hd,hk,_,hm⟩:=n;refine%[o,ho|λ name=>?_];have e:=hm name;unfold nsFind findBy at e;rw[<- Array.find?_toList]at e;unfold PySem.W.lookIn;rw[hd];dsimp only
 split
 ·rename_i y q
  rw[q]at e;exact NE some e
 ·rename_i q
  rw[q]at e;have a:es.toList.any (·.refKey)=false:=by rw[List.any_eq_false];intro y hy;obtain⟨z,t,hkey⟩:=hk y (Array.mem_toList_iff.mp hy);simp[DictEntry.refKey,hkey]
  have a':¬ es.toList.any (·.refKey)=true:=by rw[a];exact B2
  rw[Mu a'];exact NE some e
theorem ObjM.look{h:Heap}{x dx C:Mi}{mA:Str->Ml G1}(I:ObjM h x dx C mA):∃od,PySem.W.InstAt h x (PySem.W.instObj C dx) C (some od)/\∀name,PySem.W.lookIn name od=some (mA name) :=
 let ⟨od,ho,hl⟩:=rP I.ns
 %[od,%[I.obj,rfl,rfl|ho]|hl]
section
variable{prog:F8}{w:G0}{A:Around}{E:G1->F7->Prop}{s:F7}{K:C6}{x dx C f:Mi}{mA:Str->Ml G1}{name:Str}{v:G1}
theorem xo{expr:Bool}{Q:G1->F7->Prop}(X:K.In s.heap)(I:ObjM s.heap x dx C mA)(hg:PySem.W.plainGet K C name=true)(hh:PySem.W.hasDictIn K C=true)
  (ha:PySem.W.findIn K (.ref C) name=some none) (hv:mA name=some v) (hv':PySem.W.handedIn v=true) (h:Q v { s with toks:=s.toks+1 }) :
  wpAny (model prog w) A (getAttr (.ref x) name expr) Q E s:=by
 obtain⟨od,J,hl⟩:=I.look;exact PySem.W.get_value X J (PySem.W.plainGet_of hg).1 (PySem.W.findObj_own hh ha rfl (by rw[hl,hv])) hv' h
theorem uI{pl:Sem Bool}{Q:G1×Mo G1->F7->Prop}(X:K.In s.heap)(I:ObjM s.heap x dx C mA)(hg:PySem.W.plainGet K C name=true)
  (hf:PySem.W.findIn K (.ref C) name=some (↑f)) (ht:PySem.W.isFn K (.ref f)=true) (hv:mA name=none) (h:Q (.ref f,[.ref x]) s) :
  wpAny (model prog w) A (getMethod (.ref x) name pl) Q E s:=by
 obtain⟨od,J,hl⟩:=I.look;exact PySem.W.method_fn X J (PySem.W.plainGet_of hg).1 (PySem.W.plainGet_of hg).2 hf (C5.mp ht) (by show(PySem.W.lookIn name od).map (·.isSome)=some false;rw[hl,hv];rfl) h
theorem xq{ns:Mo Str}{Q:Unit->F7->Prop}(X:K.In s.heap)(I:ObjM s.heap x dx C mA)
  (hs:PySem.W.findIn K (.ref C) "__setattr__" = some (some (.builtin "object.__setattr__"))) (hp:PySem.W.plainOver K C=true) (ht:PySem.W.takerIn K C name=some none) (hh:PySem.W.hasDictIn K C=true)
  (hw:PySem.Within mA ns) (hsz:ns.length<=sizeLine)
  (h:∀h',ObjM h' x dx C (λ y=>if y=name then some v else mA y)->Heap.SameBut dx s.heap h'->Q () { s with heap:=h',toks:=s.toks+2 }) :
  wpAny (model prog w) A (setAttr (.ref x) name v) Q E s:=by
 obtain⟨od,J,hl⟩:=I.look;refine PySem.W.set_plain X J hs (PySem.W.osa_open (s:={ s with toks:=s.toks+1 }) (r:=none) X J hp ht λ b=>?_);obtain⟨cd,hc,hd'⟩:=PySem.W.any_some hh;have hx:s.heap.get? x=some %[.ref C,some dx,.plain|#[]]:=I.obj;refine A0 (A2 (A0 (A0 (wpAny_loadPart hx (A0 (PySem.W.Looks.here (s:={ s with toks:=s.toks+1 }) (PySem.W.looks_clsIn X hc) ?_))))));rw[hd'];refine A2 (a:=some dx) (A0 (A2 (A0 ?_)));refine wpAny_nsSet1 (s:={ s with toks:=s.toks+1 }) I.ns λ h' hn2 hs2=>?_;obtain⟨oD,esD,epD,hoD,hdD,hcD⟩:=hn2.count (PySem.Within.cons name v hw);refine A0 (wpAny_lookBehind hoD (by rw[hdD];exact pastItsLine_dict (C7 hcD (by rw[List.length_cons];omega))) ?_);exact A2 (h _ %[(hs2.2 _ (Ne.symm I.ne)).trans I.obj,hn2|I.ne] hs2)
theorem uJ{R:Result->F7->Prop}{vs:Mo G1}{kw:Mo (Str×G1)}(X:K.In s.heap)(hm:PySem.W.makesIn K C=true)
  (hi:PySem.W.findIn K (.ref C) "__init__" = some (↑f)) (hf:PySem.W.typeIn K (.ref f)=some (.type "function"))
  (h:codeAny (model prog w) (A.under (.builtin "type.__call__" %[.ref C :: vs|kw])) (.call (.ref f) %[.ref (s.heap.objs.size+1) :: vs|kw]) (PySem.W.InitBack (s.heap.objs.size+1) R)
   { s with heap:=(s.heap.push PySem.W.emptyDict).push (PySem.W.instObj C s.heap.objs.size) }) :
  codeAny (model prog w) A (.call (.ref C) %[vs|kw]) R s:=by
 obtain⟨hh,g,d,t,os⟩:=s;exact PySem.W.make_core (PySem.W.makes_of X hm) (PySem.W.looks_findIn X hi) (λ self=>PySem.W.bind_fn X self hf) (.inl rfl) h
end
def cW(f:Str)(v:V):Mo (Str×V)->Mo (Str×V)
 | []=>[(f,v)]
 | (g,x) :: r=>if g=f then(g,v) :: r else(g,x) :: cW f v r
theorem bB(f g:Str)(v:V):∀fs:Mo (Str×V),(cW f v fs).lookup g=if g=f then some v else fs.lookup g
 | []=>by
  show List.lookup g [(f,v)]=_
  by_cases h:g=f
  ·have hb:(g == f)=true:=C5.mpr h;simp only[List.lookup,hb,Mw h]
  ·have hb:(g == f)=false:=NJ.mpr h;simp only[List.lookup,hb,Mu h]
 | (k,x) :: r=>by
  have ih:=bB f g v r;rw[show cW f v ((k,x) :: r)=(if k=f then(k,v) :: r else(k,x) :: cW f v r)from rfl]
  by_cases hk:k=f
  ·rw[Mw hk]
   by_cases h:g=k
   ·have hb:(g == k)=true:=C5.mpr h;simp only[List.lookup,hb,Mw (h.trans hk)]
   ·have hb:(g == k)=false:=NJ.mpr h;simp only[List.lookup,hb,Mu (λ e:g=f=>h (e.trans hk.symm))]
  ·rw[Mu hk]
   by_cases h:g=k
   ·have hb:(g == k)=true:=C5.mpr h;simp only[List.lookup,hb,Mu (λ e:g=f=>hk (h.symm.trans e))]
   ·have hb:(g == k)=false:=NJ.mpr h;simp only[List.lookup,hb];exact ih
theorem gR(f:Str)(v:V):∀fs:Mo (Str×V),f∈(cW f v fs).map (·.1)/\∀g,g∈fs.map (·.1)->g∈(cW f v fs).map (·.1)
 | []=>%[by simp[cW]|λ g h=>by simp at h]
 | (k,x) :: r=>by
  obtain⟨i1,i2⟩:=gR f v r;rw[show cW f v ((k,x) :: r)=(if k=f then(k,v) :: r else(k,x) :: cW f v r)from rfl]
  by_cases hk:k=f
  ·rw[Mw hk];subst hk;exact%[by simp|λ g h=>by simpa using h]
  ·rw[Mu hk];refine%[?_|λ g h=>?_]
   ·rw[G9];exact B5 _ i1
   ·rw[G9]at h ⊢;rcases G7.mp h with e | e
    ·exact G7.mpr (.inl e)
    ·exact B5 _ (i2 g e)
theorem eN(f:Str)(v:V):∀fs:Mo (Str×V),(cW f v fs).length<=fs.length+1
 | []=>by simp[cW]
 | (k,x) :: r=>by
  have ih:=eN f v r;rw[show cW f v ((k,x) :: r)=(if k=f then(k,v) :: r else(k,x) :: cW f v r)from rfl]
  by_cases hk:k=f
  ·rw[Mw hk,J4,J4];omega
  ·rw[Mu hk,J4,J4];omega
theorem RelO.some_of{v:V}{o:Ml G1}(r:RelO (some v) o):∃u,o=some u/\RelV v u:=by
 cases o with
 | none=>exact(show False from r).elim
 | some u=>exact%[u,O|r]
theorem RelO.none_of{o:Ml G1}(r:RelO none o):o=none:=by
 cases o with
 | none=>rfl
 | some u=>exact(show False from r).elim
theorem rQ{v:V}{u:G1}(r:RelV v u):PySem.W.handedIn u=true:=by
 cases v with
 | non=>cases(show u=Value.none from r);rfl
 | bl b=>cases(show u=Value.bool b from r);rfl
 | int i=>obtain⟨t,e⟩:=(show∃t,u=Value.int i t from r);cases e;rfl
 | str x=>obtain⟨t,e⟩:=(show∃t,u=Value.str x t from r);cases e;rfl
 | byt b=>obtain⟨t,e⟩:=(show∃t,u=Value.bytes b t from r);cases e;rfl
 | flt b=>obtain⟨t,e⟩:=(show∃t,u=Value.float b t from r);cases e;rfl
 | ref a=>cases(show u=Value.ref a from r);rfl
 | ty n=>cases(show u=Value.type n from r);rfl
section
variable{P:F8}{w:G0}{H H':Hp}{h h':Heap}{a C dx:Mi}{fs fs':Mo (Str×V)}
theorem fZ(hok:HOk P w H h)(e:H a=some (.ins C dx fs)):∃mA,ObjM h a dx C mA/\(∀f,RelO (fs.lookup f) (mA f))/\PySem.Within mA (fs.map (·.1))/\fs.length<=1000/\H dx=some (.own a):=by
 obtain⟨d,z,ne,ob,mA,n,r,q⟩:=(show ObjOk P w H h a (.ins C dx fs)from hok a _ e)
 exact%[mA,%[ob,n|ne],r,q,z|d]
end
structure Cls(K:C6)(C:Mi):Prop where
 pg:PySem.W.plainGet K C Str.empty=true
 hd:PySem.W.hasDictIn K C=true
 po:PySem.W.plainOver K C=true
 sa:PySem.W.findIn K (.ref C) "__setattr__" = some (some (.builtin "object.__setattr__"))
theorem Cls.get{K:C6}{C:Mi}(c:Cls K C)(f:Str):PySem.W.plainGet K C f=true:=c.pg
def NoAttr(K:C6)(C:Mi)(f:Str):Prop:=PySem.W.findIn K (.ref C) f=some none
theorem NoAttr.taker{K:C6}{C:Mi}{f:Str}(n:NoAttr K C f):PySem.W.takerIn K C f=some none:=by
 unfold PySem.W.takerIn;rw[show PySem.W.findIn K (.ref C) f=some none from n]
 rfl
structure Con(K:C6)(C:Mi)(f:Str)(v:V)(u:Value):Prop where
 at_:PySem.W.findIn K (.ref C) f=some (some u)
 rel:RelV v u
 get:PySem.W.specialIn K u "__get__" = some none
 cp:PySem.W.copiedNames.contains f=false
structure Meth(K:C6)(C:Mi)(m:Str)(f:Mi):Prop where
 at_:PySem.W.findIn K (.ref C) m=some (↑f)
 fn:PySem.W.isFn K (.ref f)=true
 kp:PySem.W.keepIn K (.ref f)=true
section
variable{X:Cx}{Mq:Mo (Mi×Obj)}{σ:St}{H:Hp}{s:F7}{a C dx:Mi}{fs:Mo (Str×V)}{f:Str}{v:V}{A:Around}{E:G1->F7->Prop}
theorem nZ{b:Bool}{Q:G1->F7->Prop}(I:Inv X Mq σ H s)(e:H a=some (.ins C dx fs))(c:Cls X.K C)(n:NoAttr X.K C f)(l:fs.lookup f=some v)
  (h:∀u s',Inv X Mq σ H s'->RelV v u->Q u s'):wpAny (model X.prog X.w) A (getAttr (.ref a) f b) Q E s:=by
 obtain⟨mA,OO0,r,_,_,_⟩:=fZ I.hok e;obtain⟨u,hu,ru⟩:=RelO.some_of (v:=v) (o:=mA f) (by rw[<- l];exact r f);exact xo I.kIn OO0 (c.get f) c.hd n hu (rQ ru) (h u _ (I.tok _) ru)
theorem fG{m:Str}{g:Mi}{pl:Sem Bool}{Q:G1×Mo G1->F7->Prop}(I:Inv X Mq σ H s)(e:H a=some (.ins C dx fs))(c:Cls X.K C)(k:Meth X.K C m g)(l:fs.lookup m=none)
  (h:Q (.ref g,[.ref a]) s):wpAny (model X.prog X.w) A (getMethod (.ref a) m pl) Q E s:=by
 obtain⟨mA,OO0,r,_,_,_⟩:=fZ I.hok e;have hn:mA m=none:=RelO.none_of (by rw[<- l];exact r m);exact uI I.kIn OO0 (c.get m) k.at_ k.fn hn h
theorem og{y:V}{u:G1}{Q:Unit->F7->Prop}(I:Inv X Mq σ H s)(e:H a=some (.ins C dx fs))(c:Cls X.K C)(n:NoAttr X.K C f)(hl:fs.length < 1000)(ry:RelV y u)
  (h:∀s',Inv X Mq σ (upd H a (.ins C dx (cW f y fs))) s'->Q () s'):wpAny (model X.prog X.w) A (setAttr (.ref a) f u) Q E s:=by
 obtain⟨mA,OO0,r,wi,_,ho⟩:=fZ I.hok e;have hz:(fs.map (·.1)).length<=sizeLine:=by rw[B4,sizeLine_eq];omega
 refine xq I.kIn OO0 c.sa c.po n.taker c.hd wi hz λ h' O' sb=>h _ ?_;have hd:∃o,h'.get? dx=some o:=let ⟨o,_,_,e',_⟩:=O'.ns;%[o|e']
 refine I.write (x:=a) (e:=dx) (by rw[e];exact True.intro) (.inr ho) (λ b q hb z=>(sb.2 b hb).trans z) hd ?_;refine%[by rw[aj OO0.ne];exact ho,?_,OO0.ne,O'.obj,_,O'.ns,λ g=>?_|λ g hg=>?_]
 ·have:=eN f y fs;omega
 ·show RelO ((cW f y fs).lookup g) (if g=f then some u else mA g);rw[bB]
  by_cases q:g=f
  ·rw[Mw q,Mw q];exact ry
  ·rw[Mu q,Mu q];exact r g
 ·by_cases q:g=f
  ·rw[q];exact(gR f y fs).1
  ·refine(gR f y fs).2 g (wi g λ z=>hg ?_);show(if g=f then some u else mA g)=none;rw[Mu q];exact z
theorem Inv.made(I:Inv X Mq σ H s):Inv X Mq σ (upd (upd H s.heap.objs.size (.own (s.heap.objs.size+1))) (s.heap.objs.size+1) (.ins C s.heap.objs.size []))
  { s with heap:=(s.heap.push PySem.W.emptyDict).push (PySem.W.instObj C s.heap.objs.size) }:=by
 have e1:(s.heap.push PySem.W.emptyDict).get? s.heap.objs.size=some PySem.W.emptyDict:=A8 s.heap rfl;have e2:((s.heap.push PySem.W.emptyDict).push (PySem.W.instObj C s.heap.objs.size)).get? (s.heap.objs.size+1)=some (PySem.W.instObj C s.heap.objs.size):=by have:=A8 (s.heap.push PySem.W.emptyDict) (o:=PySem.W.instObj C s.heap.objs.size) rfl;rwa [M6]at this
 have e3:(s.heap.push PySem.W.emptyDict).Ns s.heap.objs.size (λ _=>none):=%[PySem.W.emptyDict,#[],_,e1,O,(λ e he=>absurd he (by simp))|λ _=>rfl]
 have I1:=I.laid (a:=s.heap.objs.size) (o:=.own (s.heap.objs.size+1)) (h':=s.heap.push PySem.W.emptyDict) (t':=s.toks) (λ b u q=>A7 _ q) (B3 _) %[_|e1];refine I1.laid (a:=s.heap.objs.size+1) (o:=.ins C s.heap.objs.size []) (t':=s.toks) (λ b u q=>A7 _ q) (Nat.le_of_eq (M6 _ _)) ?_;have ne:s.heap.objs.size≠s.heap.objs.size+1:=C0 (F1 _);refine%[by rw[aj ne,ah],E8 _,ne,e2,λ _=>none,(Heap.Ns1.of_empty e3).at λ o q=>A7 _ q,λ _=>True.intro|λ y hy=>absurd rfl hy]
theorem xt{prog:F8}{w:G0}{env:Env}{e:Expr}{f:Str}{pos:Pos}{s:F7}{Q:G1->F7->Prop}(hb:attributeBase e f env (eval e env)=eval e env)
  (h:wpAny (model prog w) A (eval e env) (λ o s₁=>wpAny (model prog w) A (getAttr o f true) Q E s₁) E s):wpAny (model prog w) A (eval (.Attribute e f pos) env) Q E s :=
 Attribute_any_ h (by rw[arm_eval_Attribute,hb])
end
def Jl(K:C6)(ta:TE)(f:Str):TE:=λ σ H Q=>ta σ H λ x H1=>∃a C dx fs v,x=.ref a/\H1 a=some (.ins C dx fs)/\Cls K C/\NoAttr K C f/\fs.lookup f=some v/\Q v H1
def Ej(K:C6)(ta tv:TE)(f:Str):TS:=λ D σ H=>tv σ H λ y H1=>ta σ H1 λ x H2=>∃a C dx fs,x=.ref a/\H2 a=some (.ins C dx fs)/\Cls K C/\NoAttr K C f/\fs.length < 1000 /\
 D.nx σ (upd H2 a (.ins C dx (cW f y fs)))
section
variable{X:Cx}{o e value:Expr}{f:Str}{pos pos' tpos:Pos}{ta tv:TE}
theorem fH(he:PE X e ta)(hb:attributeBase e f X.env (eval e X.env)=eval e X.env):PE X (.Attribute e f pos) (Jl X.K ta f):=by intro Mq s σ H Q I h;refine xt hb (thn (he Mq s σ H _ I h) λ u s1 %[x,H1,I1,rx,a,C,dx,fs,v,ex,ea,c,n,l|q]=>?_);subst ex;obtain rfl:u=Value.ref a:=rx;exact nZ I1 ea c n l λ u' s2 I2 ru=>%[v,H1,I2,ru|q]
theorem uK(ha:PE X o ta)(hv:PE X value tv)(hs:swapsWith value (some (.Attribute o f pos')) pos.line X.env=pure false):PS X (.Assign [.Attribute o f pos'] value pos) (Ej X.K ta tv f):=by intro Mq s σ H D I h;refine plainObj_wpAny_Assign_Attribute (thn (hv Mq s σ H _ I h) λ u s1 %[y,H1,I1,ry|q]=>thn (ha Mq s1 σ H1 _ I1 q) λ ov s2 %[x,H2,I2,rx,a,C,dx,fs,ex,ea,c,n,l|q2]=>?_) hs;subst ex;obtain rfl:ov=Value.ref a:=rx;exact og I2 ea c n l ry λ s3 I3=>%[σ,_,I3|q2]
theorem yZ{pl:Sem Bool}{m:Str}{apos:Pos}{args:Mo Expr}{Mq:Mo (Mi×Obj)}{s:F7}{σ:St}{H:Hp}{Q:G1->F7->Prop}{te:TE}(he:PE X e te)(I:Inv X Mq σ H s)
  (h:te σ H λ x H1=>∃a C dx fs g,x=.ref a/\H1 a=some (.ins C dx fs)/\Cls X.K C/\Meth X.K C m g/\fs.lookup m=none /\
   ∀s1,Inv X Mq σ H1 s1->wpAny (model X.prog X.w) X.A (callWith pos (.ref g) [.ref a] (backTo pos (starEach args X.env)) (backToKw pos (keywordEach [] X.env))) Q X.xe s1)
  (ht:eval (.Call (.Attribute e m apos) args [] pos) X.env=(do
   let ov<-eval e X.env
   standAt apos.atName
   let (f,first)<-holding [ov] (getMethod ov m pl)
   callWith pos f first (backTo pos (starEach args X.env)) (backToKw pos (keywordEach [] X.env)))) :
  wpAny (model X.prog X.w) X.A (eval (.Call (.Attribute e m apos) args [] pos) X.env) Q X.xe s:=by
 refine PySem.W.methodCall_KW (pl:=pl) (thn (he Mq s σ H _ I h) λ u s1 %[x,H1,I1,rx,a,C,dx,fs,g,ex,ea,c,k,l|q]=>?_) ht;subst ex;obtain rfl:u=Value.ref a:=rx;exact fG I1 ea c k l (q s1 I1)
end
section
variable{X:Cx}{Mq:Mo (Mi×Obj)}{σ:St}{H:Hp}{s:F7}{A:Around}{E Q:G1->F7->Prop}{c:G1}{b:Bool}
inductive TyOf(K:C6)(H:Hp):V->Value->Prop where
 | non:TyOf K H .non (.type "NoneType")
 | bl (x:Bool):TyOf K H (.bl x) (.type "bool")
 | int (i:Int):TyOf K H (.int i) (.type "int")
 | str (x:Str):TyOf K H (.str x) (.type "str")
 | flt (x:UInt64):TyOf K H (.flt x) (.type "float")
 | lst {a:Mi} {xs:Mo V} (e:H a=↥xs):TyOf K H (.ref a) (.type "list")
 | frz {a:Mi} {o:Obj} {xs:Mo V} (e:H a=some (.frz o (.lst xs))):TyOf K H (.ref a) (.type "list")
 | tup {a:Mi} {xs:Mo V} (e:H a= ~~~xs):TyOf K H (.ref a) (.type "tuple")
 | dK {a:Mi} {kvs:Mo (Key×V)} (e:H a=some (.dK kvs)):TyOf K H (.ref a) (.type "dict")
 | dT {a:Mi} {kvs:Mo (Mo Key×V)} (e:H a=some (.dT kvs)):TyOf K H (.ref a) (.type "dict")
 | ext {a:Mi} {φ:Heap->Prop} (e:H a=some (.ext φ)) (c:∀h,φ h->∃o,h.get? a=some o/\o.cls=.type "dict"):TyOf K H (.ref a) (.type "dict")
 | ins {a C dx:Mi} {fs:Mo (Str×V)} (e:H a=some (.ins C dx fs)) (cl:Cls K C) (ha:PySem.W.findIn K (.ref C) "__class__" = some (some (.builtin "object.__class__")))
   (hn:PySem.W.specialIn K (.builtin "object.__class__") "__get__" = some (some (.builtin "getset_descriptor.__get__"))) (htk:PySem.W.takesIn K (.builtin "object.__class__")=some true)
   (hm:PySem.W.mroIn K C (.type "object")=some true):TyOf K H (.ref a) (.ref C)
theorem rR{x:V}{u t:G1}(I:Inv X Mq σ H s)(rx:RelV x u)(ty:TyOf X.K H x t)(e:PySem.W.kitOne X.K t c=some b)(h:∀tk,Q (.bool b) { s with toks:=tk }) :
  wpAny (model X.prog X.w) A (call (.builtin "isinstance") [u,c]) Q E s:=by
 cases ty with
 | non=>cases(show u=Value.none from rx);exact PySem.W.kia_one PySem.W.kitx_none I.kIn True.intro e (λ z=>nomatch z) h
 | bl y=>cases(show u=Value.bool y from rx);exact PySem.W.kia_one PySem.W.kitx_bool I.kIn True.intro e (λ z=>nomatch z) h
 | int i=>obtain⟨t,q⟩:=(show∃t,u=Value.int i t from rx);cases q;exact PySem.W.kia_one PySem.W.kitx_int I.kIn True.intro e (λ z=>nomatch z) h
 | str y=>obtain⟨t,q⟩:=(show∃t,u=Value.str y t from rx);cases q;exact PySem.W.kia_one PySem.W.kitx_str I.kIn True.intro e (λ z=>nomatch z) h
 | flt y=>obtain⟨t,q⟩:=(show∃t,u=Value.float y t from rx);cases q;exact PySem.W.kia_one PySem.W.kitx_float I.kIn True.intro e (λ z=>nomatch z) h
 | @lst a xs ea=>
  cases(show u=Value.ref a from rx);obtain⟨_,_,n,_,h1⟩:=(show ObjOk X.prog X.w H s.heap a (.lst xs)from I.hok a _ ea)
  exact PySem.W.kia_one PySem.W.kitx_list I.kIn %[_,h1|O] e (λ z=>nomatch z) h
 | @frz a ob xs ea=>
  cases(show u=Value.ref a from rx);obtain⟨_,_,_,n,_,h1⟩:=(show ObjOk X.prog X.w H s.heap a (.frz ob (.lst xs))from I.hok a _ ea)
  exact PySem.W.kia_one PySem.W.kitx_list I.kIn %[_,h1|O] e (λ z=>nomatch z) h
 | @tup a xs ea=>
  cases(show u=Value.ref a from rx);obtain⟨_,_,_,p⟩:=(show ObjOk X.prog X.w H s.heap a (.tup xs)from I.hok a _ ea)
  obtain⟨o,h1,h2,_⟩:=p;exact PySem.W.kia_one PySem.W.kitx_tuple I.kIn %[o,h1|h2] e (λ z=>nomatch z) h
 | @dK a kvs ea=>
  cases(show u=Value.ref a from rx);obtain⟨_,_,vs,_,p⟩:=(show ObjOk X.prog X.w H s.heap a (.dK kvs)from I.hok a _ ea)
  obtain⟨o,es,ep,h1,h2,_⟩:=p;exact PySem.W.kia_one PySem.W.kitx_dict I.kIn %[o,h1|h2.1] e (λ z=>nomatch z) h
 | @dT a kvs ea=>
  cases(show u=Value.ref a from rx);obtain⟨_,_,xs,_,o,es,ep,h1,h2,_⟩:=(show ObjOk X.prog X.w H s.heap a (.dT kvs)from I.hok a _ ea)
  exact PySem.W.kia_one PySem.W.kitx_dict I.kIn %[o,h1|h2.1] e (λ z=>nomatch z) h
 | @ext a φ ea c=>
  cases(show u=Value.ref a from rx);obtain⟨p,_,_⟩:=(show ObjOk X.prog X.w H s.heap a (.ext φ)from I.hok a _ ea)
  obtain⟨o,h1,h2⟩:=c _ p;exact PySem.W.kia_one PySem.W.kitx_dict I.kIn %[o,h1|h2] e (λ z=>nomatch z) h
 | @ins a C dx fs ea cl ha hn htk hm=>
  cases(show u=Value.ref a from rx);obtain⟨mA,OO0,_⟩:=fZ I.hok ea;obtain⟨od,J,_⟩:=OO0.look;exact PySem.W.kia_one (PySem.W.kitx_own (cl.get _) cl.hd ha hn htk hm) I.kIn J e (λ z=>nomatch z) h
end
structure Room(k:Nat)(A:Around):Prop where
 hd:A.handled=none
 dp:A.depth+3 * k+5 < recursionLimit
 un:A.units+16 * k+200 < cLine
 gd:A.guards=some []
theorem Room.mono{j k:Nat}{A:Around}(r:Room k A)(h:j<=k):Room j A:=%[r.hd,by have:=r.dp;omega,by have:=r.un;omega|r.gd]
theorem Room.deeper{k:Nat}{A:Around}(r:Room (k+1) A)(env:Env):Room k (A.deeper env) :=
 %[r.hd,by have:=r.dp;show A.depth+1+3 * k+5 < _;omega,by have:=r.un;show A.units+3+16 * k+200 < _;omega|r.gd]
theorem oj{A:Around}{C:Mi}{us:Mo G1}{kw:Mo (Str×G1)}:(A.under (.builtin "type.__call__" %[.ref C :: us|kw])).depth=A.depth+1:=by first | rfl | simp[Around.under,Code.weight,Code.isCreation,Code.isGuard,Code.isCaller,Code.frames,Code.isFrame,guardIds]
theorem oo{A:Around}{C:Mi}{us:Mo G1}{kw:Mo (Str×G1)}:(A.under (.builtin "type.__call__" %[.ref C :: us|kw])).units=A.units+1:=by first | rfl | simp[Around.under,Code.cUnits,Code.frames,Code.isFrame]
theorem mK{A:Around}{C:Mi}{us:Mo G1}{kw:Mo (Str×G1)}:(A.under (.builtin "type.__call__" %[.ref C :: us|kw])).guards=A.guards:=by
 have e:Code.guards (.builtin "type.__call__" %[.ref C :: us|kw])=[]:=by
  have:(Code.builtin "type.__call__" %[.ref C :: us|kw]).isGuard=false:=by show guardIds.contains "type.__call__" = false;decide +kernel
  simp[Code.guards,this]
 unfold Around.under;dsimp only;rw[e]
 rfl
theorem Room.make{k:Nat}{A:Around}(r:Room (k+1) A)(C:Mi)(us:Mo G1)(kw:Mo (Str×G1)):Room k (A.under (.builtin "type.__call__" %[.ref C :: us|kw])) :=
 %[r.hd,by have:=r.dp;rw[oj];omega,by have:=r.un;rw[oo];omega|by rw[mK];exact r.gd]
theorem Room.depth{k:Nat}{A:Around}(r:Room k A):A.depth < recursionLimit:=by have:=r.dp;omega
theorem Room.units{k:Nat}{A:Around}(r:Room k A):A.units+64 < cLine:=by have:=r.un;omega
def eI:TA:=λ _ H Q=>Q [] H
def uL(ta:TE)(tr:TA):TA:=λ σ H Q=>ta σ H λ x H1=>tr σ H1 λ xs H2=>Q (x :: xs) H2
section
variable{X:Cx}{e:Expr}{es:Mo Expr}{te:TE}{t:TA}{pos:Pos}
theorem ae:PA X [] eI:=λ _ _ _ _ H Q I h=>Calls.spliced_nil %[[],H,I,.nil|h]
theorem ad(ha:PE X e te)(hr:PA X es t)(hs:starEach (e :: es) X.env=(false,eval e X.env) :: starEach es X.env:=by rfl):PA X (e :: es) (uL te t):=by intro pos Mq s σ H Q I h;rw[hs];show wpAny _ _ (spliced ((false,eval e X.env) :: backTo pos (starEach es X.env))) _ _ s;refine Calls.spliced_cons (thn (ha Mq s σ H _ I h) λ u s1 %[x,H1,I1,r1|q1]=>?_);exact thn (hr pos Mq s1 σ H1 _ I1 q1) λ us s2 %[xs,H2,I2,r2|q2]=>%[x :: xs,H2,I2,.cons r1 r2|q2]
def Jm(t:TA):TE:=λ σ H Q=>t σ H λ xs H1=>xs.length<=sizeLine/\∀p,H1 p=none->Q (.ref p) (upd H1 p (.tup xs))
def Jn(t:TA):TE:=λ σ H Q=>t σ H λ xs H1=>xs.length<=sizeLine/\∀p,H1 p=none->Q (.ref p) (upd H1 p (.lst xs))
theorem aP{x1}(h:PA X es t):PE X (.Tuple es x1 pos) (Jm t):=by intro Mq s σ H Q I hq;refine wpAny_Tuple_spliced (thn (h pos Mq s σ H _ I hq) λ us s1 %[xs,H1,I1,r,z|q]=>%[by rw[<- r.length];exact z|?_]);have hf:H1 s1.heap.objs.size=none:=I1.hok.fresh (B3 _);refine%[.ref s1.heap.objs.size,upd H1 s1.heap.objs.size (.tup xs),I1.laid (t':=s1.toks) (λ b u e=>A7 _ e) (B3 _) ?_,O|q _ hf];exact%[z,us,r|%[_,A8 _ rfl,O,_|O]]
theorem aX(h:PA X es t):PE X (.List es pos) (Jn t):=by intro Mq s σ H Q I hq;refine wpAny_List_spliced (thn (h pos Mq s σ H _ I hq) λ us s1 %[xs,H1,I1,r,z|q]=>%[by rw[<- r.length];exact z|?_]);have hf:H1 s1.heap.objs.size=none:=I1.hok.fresh (B3 _);refine%[.ref s1.heap.objs.size,upd H1 s1.heap.objs.size (.lst xs),I1.laid (t':=s1.toks) (λ b u e=>A7 _ e) (B3 _) ?_,O|q _ hf];exact%[z,us,0,r|A8 _ rfl]
end
abbrev Sp:=Mo V->Hp->VK->XK->Prop
abbrev CXT:=Mo Env->Hp->F7->XK->G1->F7->Prop
structure Env0(P:Program)(w:World)(K:C6)(mg:Str->Ml Value)(base:Heap)(A:Around)(outer:Mo Env)(s:Shared)(H:Hp):Prop where
 frames:A.frames=some outer
 mod:Mod K mg base
 bs:∀b o,base.get? b=some o->s.heap.get? b=some o/\H b=none
 bsz:base.objs.size<=s.heap.objs.size
 funs:s.heap.FunFrames base outer
 frf:∀b∈frs outer,H b=none
 hok:HOk P w H s.heap
 bare:AllBare s.gens
def CE(outer:Mo Env)(P:F8)(w:G0)(H:Hp)(s:F7)(Q:VK)(u:G1)(s':F7):Prop :=
 ∃v H',s'.os=s.os/\AllBare s'.gens/\Un (frs outer) [] H H' s.heap s'.heap/\HOk P w H' s'.heap/\RelV v u/\Q v H'
def CR(CX:CXT)(outer:Mo Env)(P:F8)(w:G0)(H:Hp)(s:F7)(Q:VK)(E:XK)(r:Result)(s':F7):Prop :=
 match r with
 | .ok (.ret u)=>CE outer P w H s Q u s'
 | .ok _=>False
 | .error e=>CX outer H s E e s'
structure FnOk(P:Program)(w:World)(K:C6)(mg:Str->Ml Value)(base:Heap)(CX:CXT)(k:Nat)(f:Mi)(fd:FuncData)(ps:Mo Str)(sp:Sp):Prop where
 len:∀vs H Q E,sp vs H Q E->vs.length=ps.length
 run:∀(A:Around)(outer:Mo Env)(s:F7)(H:Hp)(args:Args)(us:Mo G1)(vs:Mo V)(Q:VK)(E:XK),Room k A->Env0 P w K mg base A outer s H->BindsTo s fd args (ps.zip us)->Vals vs us->sp vs H Q E ->
  codeAny (model P w) A (.call (.ref f) args) (CR CX outer P w H s Q E) s
theorem FnOk.mono{P:F8}{w:G0}{K:C6}{mg:Str->Ml G1}{base:Heap}{CX:CXT}{j k:Nat}{f:Mi}{fd:F9}{ps:Mo Str}{sp:Sp}(F:FnOk P w K mg base CX j f fd ps sp)(h:j<=k) :
  FnOk P w K mg base CX k f fd ps sp:=%[F.len|λ A outer s H args us vs Q E hr=>F.run A outer s H args us vs Q E (hr.mono h)]
theorem Env0.make{P:F8}{w:G0}{K:C6}{mg:Str->Ml G1}{base:Heap}{A:Around}{outer:Mo Env}{s:F7}{H:Hp}(e:Env0 P w K mg base A outer s H)(C:Mi)(us:Mo G1)(kw:Mo (Str×G1)) :
  Env0 P w K mg base (A.under (.builtin "type.__call__" %[.ref C :: us|kw])) outer s H:=⟨by first | exact e.frames | (simpa[Around.under,Code.envs,Code.isFrame,pushEnvs]using e.frames),e.mod,e.bs,e.bsz,e.funs,e.frf,e.hok,e.bare⟩
section
variable{X:Cx}{Mq:Mo (Mi×Obj)}{σ:St}{H:Hp}{s s':F7}
theorem Inv.env0(I:Inv X Mq σ H s):Env0 X.prog X.w X.K X.mg X.base X.A X.stack s H :=
 %[I.ok.frames,I.ok.mod,I.bs,C7 I.ok.bsz I.sz,I.stack,I.stkFree,I.hok|I.bare]
theorem Inv.after{Q:VK}{u:G1}(I:Inv X Mq σ H s)(h:CE X.stack X.prog X.w H s Q u s'):EP X Mq σ Q u s':=by obtain⟨v,H',os,bare,un,hok,r,q⟩:=h;obtain⟨hh,g,d,t,os'⟩:=s';obtain rfl:os'=s.os:=os;exact%[v,H',I.call (h':=hh) (g':=g) (d':=d) (t':=t) (ch:=[]) un hok bare (λ b z=>absurd z (by simp)),r|q]
end
def uM(sp:Sp)(dvs:Mo V)(E:XK)(t:TA):TE:=λ σ H Q=>t σ H λ vs H1=>sp (vs ++ dvs) H1 Q E
def qH(C:Mi)(m:Str)(sp:Sp)(dvs:Mo V)(E:XK)(ta:TE)(t:TA):TE:=λ σ H Q=>ta σ H λ x H1=>∃a dx fs,x=.ref a/\H1 a=some (.ins C dx fs)/\fs.lookup m=none /\
 t σ H1 λ vs H2=>sp (x :: (vs ++ dvs)) H2 Q E
def za(C:Mi)(sp:Sp)(dvs:Mo V)(E:XK)(t:TA):TE:=λ σ H Q=>t σ H λ vs H1=>∀x dx,H1 x=none->H1 dx=none->dx≠x ->
 sp (.ref x :: (vs ++ dvs)) (upd (upd H1 dx (.own x)) x (.ins C dx [])) (λ v H2=>v=.non/\Q (.ref x) H2) E
def Binds(K:C6)(fd:F9)(ps:Mo Str)(ds:Mo G1):Prop :=
 ∀(s:F7)(us:Mo G1),K.In s.heap->(us ++ ds).length=ps.length->BindsTo s fd %[us|[]] (ps.zip (us ++ ds))
theorem Binds.all{K:C6}{fd:F9}{ps:Mo Str}(h:∀us:Mo G1,us.length=ps.length->bindArgs fd %[us|[]]=pure (ps.zip us)):Binds K fd ps []:=λ s us _ hl=>by rw[K6]at hl ⊢;exact .of_eq (h us hl)
def fI(CX:CXT)(X:Cx)(E:XK):Prop:=∀(Mq:Mo (Mi×Obj))(σ:St)(H:Hp)(s:F7)(e:G1)(s':F7),Inv X Mq σ H s->CX X.stack H s E e s'->X.xe e s'
section
variable{X:Cx}{CX:CXT}{k:Nat}{f C:Mi}{fd:F9}{ps:Mo Str}{sp:Sp}{dvs:Mo V}{ds:Mo G1}{E:XK}{x m:Str}{p pos apos:Pos}{e o:Expr}{es:Mo Expr}{ta:TE}{t:TA}
theorem oq{Mq:Mo (Mi×Obj)}{σ:St}{H:Hp}{s:F7}{Q:VK}{us:Mo G1}{vs:Mo V}(F:FnOk X.prog X.w X.K X.mg X.base CX k f fd ps sp)(hr:Room k X.A)(hb:Binds X.K fd ps ds)(hd:Vals dvs ds)(hx:fI CX X E)
  (I:Inv X Mq σ H s) (r:Vals vs us) (h:sp (vs ++ dvs) H Q E):wpAny (model X.prog X.w) X.A (call (.ref f) us) (EP X Mq σ Q) X.xe s:=by
 have r2:Vals (vs ++ dvs) (us ++ ds):=r.append hd;have hl:(us ++ ds).length=ps.length:=by rw[<- r2.length];exact F.len _ _ _ _ h
 refine wpAny_call (Nk (F.run X.A X.stack s H %[us|[]] (us ++ ds) (vs ++ dvs) Q E hr I.env0 (hb s us I.kIn hl) r2 h) λ r s' hq=>?_);cases r with
 | error e=>exact hx Mq σ H s e s' I hq
 | ok fl=>
  cases fl with
  | ret u=>exact I.after hq
  | next=>exact E7 hq
  | brk=>exact E7 hq
  | cont=>exact E7 hq
theorem xu(F:FnOk X.prog X.w X.K X.mg X.base CX k f fd ps sp)(hr:Room k X.A)(hg:Gl X x)(hm:X.mg x=↑f)(hk:PySem.W.keepIn X.K (.ref f)=true)(hb:Binds X.K fd ps ds)(hd:Vals dvs ds)(hx:fI CX X E)
  (ha:PA X (e :: es) t) (hdb:(x == ("__debug__" : Str))=false:=by decide) (he:starEach (e :: es) X.env=(false,eval e X.env) :: starEach es X.env:=by rfl) (hpl:(backTo pos (starEach es X.env)).any (·.1)=false:=by rfl) :
  PE X (.Call (.Name x p) (e :: es) [] pos) (uM sp dvs E t):=by
 intro Mq s σ H Q I h;refine NX (dR I hg hm ?_ hdb);refine PySem.W.callWith_K (h₀:=X.base) I.ok.mod.kin hk (thn (ha pos Mq s σ H _ I h) λ us s1 %[vs,H1,I1,r|q]=>%[I1.kIn|?_]) he hpl;exact oq F hr hb hd hx I1 r q
theorem xw{pl:Sem Bool}(he:PE X o ta)(c:Cls X.K C)(hm:Meth X.K C m f)(F:FnOk X.prog X.w X.K X.mg X.base CX k f fd ps sp)(hr:Room k X.A)(hb:Binds X.K fd ps ds)(hd:Vals dvs ds)(hx:fI CX X E)(ha:PA X (e :: es) t)
  (hst:starEach (e :: es) X.env=(false,eval e X.env) :: starEach es X.env:=by rfl) (hpl:(backTo pos (starEach es X.env)).any (·.1)=false:=by rfl)
  (ht:eval (.Call (.Attribute o m apos) (e :: es) [] pos) X.env=(do
   let ov<-eval o X.env
   standAt apos.atName
   let (f,first)<-holding [ov] (getMethod ov m pl)
   callWith pos f first (backTo pos (starEach (e :: es) X.env)) (backToKw pos (keywordEach [] X.env))):=by rfl) :
  PE X (.Call (.Attribute o m apos) (e :: es) [] pos) (qH C m sp dvs E ta t):=by
 intro Mq s σ H Q I h;refine PySem.W.methodCall_KW (pl:=pl) (thn (he Mq s σ H _ I h) λ u s1 %[x,H1,I1,rx,a,dx,fs,ex,ea,l|q]=>?_) ht;subst ex;obtain rfl:u=Value.ref a:=rx;refine fG I1 ea c hm l ?_;refine PySem.W.callWith_K (first:=[.ref a]) (h₀:=X.base) I.ok.mod.kin hm.kp (thn (ha pos Mq s1 σ H1 _ I1 q) λ us s2 %[vs,H2,I2,r|q2]=>%[I2.kIn|?_]) hst hpl;exact oq (us:=.ref a :: us) (vs:=.ref a :: vs) F hr hb hd hx I2 (.cons rfl r) q2
theorem uN{pl:Sem Bool}(he:PE X o ta)(c:Cls X.K C)(hm:Meth X.K C m f)(F:FnOk X.prog X.w X.K X.mg X.base CX k f fd ps sp)(hr:Room k X.A)(hb:Binds X.K fd ps ds)(hd:Vals dvs ds)(hx:fI CX X E)
  (ht:eval (.Call (.Attribute o m apos) [] [] pos) X.env=(do
   let ov<-eval o X.env
   standAt apos.atName
   let (f,first)<-holding [ov] (getMethod ov m pl)
   callWith pos f first (backTo pos (starEach [] X.env)) (backToKw pos (keywordEach [] X.env))):=by rfl) :
  PE X (.Call (.Attribute o m apos) [] [] pos) (qH C m sp dvs E ta eI):=by
 intro Mq s σ H Q I h;refine PySem.W.methodCall_KW (pl:=pl) (thn (he Mq s σ H _ I h) λ u s1 %[x,H1,I1,rx,a,dx,fs,ex,ea,l|q]=>?_) ht;subst ex;obtain rfl:u=Value.ref a:=rx;refine fG I1 ea c hm l ?_;exact PySem.W.callWith_K0 (first:=[.ref a]) I1.kIn hm.kp (oq (us:=[.ref a]) (vs:=[.ref a]) F hr hb hd hx I1 (.cons rfl .nil) q)
structure Mk(K:C6)(C f:Mi):Prop where
 makes:PySem.W.makesIn K C=true
 init:PySem.W.findIn K (.ref C) "__init__" = some (↑f)
 fn:PySem.W.isFn K (.ref f)=true
 kp:PySem.W.keepIn K (.ref C)=true
theorem uO{Mq:Mo (Mi×Obj)}{σ:St}{H:Hp}{s:F7}{Q:VK}{us:Mo G1}{vs:Mo V}(M:Mk X.K C f)(F:FnOk X.prog X.w X.K X.mg X.base CX k f fd ps sp)(hr:Room (k+1) X.A)(hb:Binds X.K fd ps ds)(hd:Vals dvs ds)
  (hx:fI CX X E) (I:Inv X Mq σ H s) (r:Vals vs us)
  (h:∀x dx,H x=none->H dx=none->dx≠x->sp (.ref x :: (vs ++ dvs)) (upd (upd H dx (.own x)) x (.ins C dx [])) (λ v H2=>v=.non/\Q (.ref x) H2) E) :
  wpAny (model X.prog X.w) X.A (call (.ref C) us) (EP X Mq σ Q) X.xe s:=by
 have hq:=h (s.heap.objs.size+1) s.heap.objs.size (I.hok.fresh (Nat.le_succ _)) (I.hok.fresh (B3 _)) (C0 (F1 _));have I2:=Inv.made (C:=C) I;have r2:Vals (V.ref (s.heap.objs.size+1) :: (vs ++ dvs)) (Value.ref (s.heap.objs.size+1) :: (us ++ ds)):=.cons rfl (r.append hd);have hl:(Value.ref (s.heap.objs.size+1) :: us ++ ds).length=ps.length:=by have e:=r2.length;rw[F.len _ _ _ _ hq]at e;exact e.symm
 refine wpAny_call (uJ (f:=f) I.kIn M.makes M.init (C5.mp M.fn) (Nk (F.run _ X.stack _ _ %[Value.ref (s.heap.objs.size+1) :: us|[]] (Value.ref (s.heap.objs.size+1) :: (us ++ ds)) _ _ E (hr.make C us [])
  (I2.env0.make C us []) (hb _ (Value.ref (s.heap.objs.size+1) :: us) I2.kIn hl) r2 hq) λ r s' hq'=>?_))
 cases r with
 | error e=>exact hx Mq σ _ _ e s' I2 hq'
 | ok fl=>
  cases fl with
  | ret u=>
   obtain⟨v,H',I3,rv,ev,q3⟩:=I2.after hq';subst ev;exact%[rv|%[V.ref (s.heap.objs.size+1),H',I3,O|q3]]
  | next=>exact E7 hq'
  | brk=>exact E7 hq'
  | cont=>exact E7 hq'
theorem xx(M:Mk X.K C f)(F:FnOk X.prog X.w X.K X.mg X.base CX k f fd ps sp)(hr:Room (k+1) X.A)(hg:Gl X x)(hm:X.mg x=↑C)(hb:Binds X.K fd ps ds)(hd:Vals dvs ds)(hx:fI CX X E)
  (ha:PA X (e :: es) t) (hdb:(x == ("__debug__" : Str))=false:=by decide) (he:starEach (e :: es) X.env=(false,eval e X.env) :: starEach es X.env:=by rfl) (hpl:(backTo pos (starEach es X.env)).any (·.1)=false:=by rfl) :
  PE X (.Call (.Name x p) (e :: es) [] pos) (za C sp dvs E t):=by
 intro Mq s σ H Q I h;refine NX (dR I hg hm ?_ hdb);refine PySem.W.callWith_K (h₀:=X.base) I.ok.mod.kin M.kp (thn (ha pos Mq s σ H _ I h) λ us s1 %[vs,H1,I1,r|q]=>%[I1.kIn|?_]) he hpl;exact uO M F hr hb hd hx I1 r q
end
section
variable{X:Cx}{CX:CXT}{k:Nat}{f C:Mi}{fd:F9}{ps ks:Mo Str}{sp:Sp}{E:XK}{x m:Str}{p pos apos kpos:Pos}{e o:Expr}{es:Mo Expr}{kws:Mo Keyword}{te ta:TE}{t tk:TA}{nm:Ml Str}
structure KBinds(K:C6)(fd:FuncData)(ps ks:Mo Str)(g:Mo Value->Mo Value->Mo Value)(gV:Mo V->Mo V->Mo V):Prop where
 to:∀(s:F7)(us ws:Mo G1),K.In s.heap->(g us ws).length=ps.length->BindsTo s fd %[us|ks.zip ws] (ps.zip (g us ws))
 rel:∀{vs:Mo V}{us:Mo G1}{zs:Mo V}{ws:Mo G1},Vals vs us->Vals zs ws->Vals (gV vs zs) (g us ws)
variable{g:Mo G1->Mo G1->Mo G1}{gV:Mo V->Mo V->Mo V}
end
structure FnScope(N P:Mo Str)(sc:Scope):Prop where
 kind:sc.kind=.function
 co:sc.isCoroutine=false
 gen:sc.isGenerator=false
 nd:N.Nodup
 pre:N.take P.length=P
 par:∀x∈P,sc.names.lookup x=some .local\/sc.names.lookup x=some .cell
 nofree:∀y∈sc.names,y.2≠.free
theorem kq{kindOf:Str->Ml NameKind}{x:Str}:∀{binds:Mo (Str×G1)}{m:Str->Ml G1},(∀v,(x,v)∉binds)->bindL kindOf binds m x=m x
 | [],_,_=>rfl
 | (n,v) :: r,m,h=>by
  unfold bindL;rw[kq λ w hw=>h w (B5 _ hw)]
  split
  ·have:x≠n:=by rintro rfl;exact h v B8
   simp[this]
  ·rfl
theorem kr{kindOf:Str->Ml NameKind}{x:Str}:∀{binds:Mo (Str×G1)}{m:Str->Ml G1},(∀v,(x,v)∉binds)->bindC kindOf binds m x=m x
 | [],_,_=>rfl
 | (n,v) :: r,m,h=>by
  unfold bindC;rw[kr λ w hw=>h w (B5 _ hw)]
  split
  ·rfl
  ·have:x≠n:=by rintro rfl;exact h v B8
   simp[this]
theorem ky{kindOf:Str->Ml NameKind}{x:Str}{v:G1}:∀{P:Mo Str}{vs:Mo G1}{i:Nat}{m:Str->Ml G1},P.Nodup->P[i]?=some x->vs[i]?=some v->kindOf x=some .local ->
  bindL kindOf (P.zip vs) m x=some v
 | [],_,_,_,_,h,_,_=>by simp at h
 | _ :: _,[],_,_,_,_,h,_=>by simp at h
 | p :: P,w :: vs,0,m,nd,h1,h2,hk=>by simp at h1 h2;subst h1;subst h2;show bindL kindOf ((p,w) :: P.zip vs) m p=_;unfold bindL;rw[kq λ v hv=>(MA.mp nd).1 (Mf hv).1,Mw hk];simp
 | p :: P,w :: vs,i+1,m,nd,h1,h2,hk=>by show bindL kindOf ((p,w) :: P.zip vs) m x=_;unfold bindL;exact ky (i:=i) (MA.mp nd).2 (by simpa using h1) (by simpa using h2) hk
theorem kA{kindOf:Str->Ml NameKind}{x:Str}{v:G1}:∀{P:Mo Str}{vs:Mo G1}{i:Nat}{m:Str->Ml G1},P.Nodup->P[i]?=some x->vs[i]?=some v->kindOf x≠some .local ->
  bindC kindOf (P.zip vs) m x=some v
 | [],_,_,_,_,h,_,_=>by simp at h
 | _ :: _,[],_,_,_,_,h,_=>by simp at h
 | p :: P,w :: vs,0,m,nd,h1,h2,hk=>by simp at h1 h2;subst h1;subst h2;show bindC kindOf ((p,w) :: P.zip vs) m p=_;unfold bindC;rw[kr λ v hv=>(MA.mp nd).1 (Mf hv).1,Mu hk];simp
 | p :: P,w :: vs,i+1,m,nd,h1,h2,hk=>by show bindC kindOf ((p,w) :: P.zip vs) m x=_;unfold bindC;exact kA (i:=i) (MA.mp nd).2 (by simpa using h1) (by simpa using h2) hk
def dE(N:Mo Str)(vs:Mo V):St:=vs.map some ++ List.replicate (N.length - vs.length) none
def ft(CX:CXT)(P:F8)(w:G0)(K:C6)(mg:Str->Ml G1)(base:Heap)(N:Mo Str)(qual:Str)(scope:Scope)(f:Mi)(cd:G1)(A:Around)(outer:Mo Env)(s:F7)(H:Hp)(E:XK):Cx where
 prog:=P
 w:=w
 K:=K
 mg:=mg
 base:=base
 A:=A.deeper (envOfC qual scope s.heap.objs.size f cd)
 N:=N
 s₀:=s
 H₀:=H
 env:=envOfC qual scope s.heap.objs.size f cd
 outer:=outer
 stack:=envOfC qual scope s.heap.objs.size f cd :: outer
 ex:=[]
 calm:=true
 fn:=λ _=>true
 pn:=[]
 xe:=λ e s'=>wpAny (model P w) (A.deeper (envOfC qual scope s.heap.objs.size f cd)) (leaving (envOfC qual scope s.heap.objs.size f cd) e) (λ _ s''=>CX outer H s E e s'') (λ e' s''=>CX outer H s E e' s'') s'
theorem mL{sc:Scope}{n:Nat}{x:Str}(h:sc.names.lookup x=some .cell):∃c,(cellsFrom n sc.names []).lookup x=some c:=by have q:=PySem.W.cellsFrom_some sc.names n [] (.inl h);exact Option.isSome_iff_exists.mp q
theorem kB{CX:CXT}{P:F8}{w:G0}{K:C6}{mg:Str->Ml G1}{base:Heap}{N ps:Mo Str}{qual:Str}{scope:Scope}{f:Mi}{cd:G1}{A:Around}{outer:Mo Env}{s s1:F7}{H:Hp}{E:XK}{us:Mo G1}{vs:Mo V}
  (S:FnScope N ps scope) (hd:A.handled=none) (e0:Env0 P w K mg base A outer s H) (hl:vs.length=ps.length) (r:Vals vs us)
  (x:InCallC s s.heap.objs.size (bindL (envOfC qual scope s.heap.objs.size f cd).kindOf (ps.zip us) λ _=>none) (cellsFrom (s.heap.objs.size+1) scope.names []) (bindC (envOfC qual scope s.heap.objs.size f cd).kindOf (ps.zip us) λ _=>none) s1) :
  Inv (ft CX P w K mg base N qual scope f cd A outer s H E) [] (dE N vs) H s1:=by
 have hpl:ps.length<=N.length:=by have:=NE List.length S.pre;rw[K0]at this;omega
 obtain⟨h1,tk,rfl,hk⟩:=x.done;have noA:∀b:Mi,b∉(ft CX P w K mg base N qual scope f cd A outer s H E).ex:=λ b z=>absurd (show b∈([]:Mo Mi)from z) (by simp);refine⟨%[e0.mod,S.kind,O,O,B3 _,λ y z c h1 h2=>?_,λ y hy=>?_,λ y c _ h=>?_,λ _=>hd,Around.frames_deeper e0.frames,.inr %[O|O],λ b z=>absurd z (noA b),e0.bs,e0.bsz,λ b _ _=>noA b,λ b z=>absurd z (noA b),e0.funs|e0.frf],
  rfl,e0.bare,Un.kept hk,%[_,x.toInCall.ns|λ i y v h1 h2 h3=>?_],λ y c h=>%[_|x.cell y c h],e0.hok.fresh (B3 _),λ y c h=>?_,λ p hp=>absurd (show p∈([]:Mo (Mi×Obj))from hp) (by simp),e0.hok.kept hk,?_⟩
 ·exact name_of_addr x.apart (Ng h1) (Ng h2)
 ·have hy:scope.names.lookup y=some .cell\/scope.names.lookup y=some .free:=hy;rcases hy with hy | hy
  ·exact mL hy
  ·exact absurd rfl (S.nofree _ (Ng hy))
 ·exact C9 (x.above y c (Ng h))
 ·have hi:i < vs.length:=by
   unfold dE at h2
   by_cases hi:i < vs.length
   ·exact hi
   ·rw[List.getElem?_append_right (by simpa using hi)]at h2;rw[List.getElem?_replicate]at h2
    split at h2 <;> cases h2
  have ha:vs[i]?=some v:=by
   unfold dE at h2;rw[List.getElem?_append_left (by simpa using hi),G8]at h2;cases e:vs[i]? with
   | none=>rw[e]at h2;cases h2
   | some a=>rw[e]at h2;cases h2;rfl
  obtain⟨u,hu,rv⟩:=r.get ha;have hp:ps[i]?=some y:=by rw[<- S.pre,List.getElem?_take_of_lt ⋯];exact h1
  have ndP:ps.Nodup:=by rw[<- S.pre];exact S.nd.sublist (List.take_sublist _ _)
  refine%[u,rv|?_];rcases S.par y (B6 hp)with k | k
  ·exact .inl %[k|ky ndP hp hu k]
  ·obtain⟨c,e⟩:=mL (n:=s.heap.objs.size+1) k;refine .inr %[.inl k,c,e|?_];have q:=x.cell y c e;rw[kA ndP hp hu (by show scope.names.lookup y≠_;rw[k];decide)]at q;exact q
 ·exact e0.hok.fresh (C9 (x.above y c (Ng h)))
 ·unfold dE;show _=N.length;rw[J5,B4,K4];omega
theorem zb{CX:CXT}{P:F8}{w:G0}{K:C6}{mg:Str->Ml G1}{base:Heap}{k:Nat}{f:Mi}{name qual:Str}{params:Arguments}{body:Mo Stmt}{scope:Scope}{dV kV doc pm cdv ct oc:G1}{an od:Ml Mi}
  {osl:Mm (Ml G1)} {N ps:Mo Str} {sp:Sp} (lk:K.lookup f=some %[oc,od,.func (E6 name qual params body scope dV kV doc pm an cdv ct)|osl]) (hcd:PySem.W.codeIn K cdv qual=true) (S:FnScope N ps scope)
  (len:∀vs H Q E,sp vs H Q E->vs.length=ps.length)
  (hbody:∀(A:Around)(outer:Mo Env)(s:F7)(H:Hp)(vs:Mo V)(Q:VK)(E:XK),Room k (A.deeper (envOfC qual scope s.heap.objs.size f cdv))->sp vs H Q E ->
   ∃t,PSs (ft CX P w K mg base N qual scope f cdv A outer s H E) body t/\t { nx:=λ _ H'=>Q .non H',rt:=Q } (dE N vs) H) :
  FnOk P w K mg base CX (k+1) f (E6 name qual params body scope dV kV doc pm an cdv ct) ps sp:=by
 refine%[len|λ A outer s H args us vs Q E hr e0 hb r hsp=>?_];have hl:=len _ _ _ _ hsp;have KX:K.In s.heap:=e0.mod.kin.keeps λ b o e=>(e0.bs b o e).1;have lim:s.heap.NoLimit:=e0.mod.nolimit.keeps λ b o e=>(e0.bs b o e).1;have hkind:∀y∈ps.zip us,scope.names.lookup y.1=some .local\/(scope.names.lookup y.1=some .cell/\((cellsFrom (s.heap.objs.size+1) scope.names []).lookup y.1).isSome=true):=λ⟨n,v⟩ hy=>by
  rcases S.par n (Mf hy).1 with q | q
  ·exact .inl q
  ·exact .inr %[q|PySem.W.cellsFrom_some _ _ _ (.inl q)]
 refine codeAny_call_function hr.depth (KX _ _ lk) rfl S.co S.gen rfl (PySem.W.codeRec_of KX hcd) (hb _ _ _ _ ?_);refine wpAny_newFunctionEnv_cells S.kind hkind λ env he s1 x=>?_;subst he;refine%[lim.keeps x.toInCall.keep|codeAny_func ?_];obtain⟨t,ht,hq⟩:=hbody A outer s H vs Q E (hr.deeper _) hsp;have I:Inv (ft CX P w K mg base N qual scope f cdv A outer s H E) [] (dE N vs) H s1:=kB S hr.hd e0 hl r x;refine Mz (ht [] s1 (dE N vs) H _ I hq) (λ fl s' hs=>?_) λ e s' hs=>hs;have fin:∀{σ':St}{H':Hp}{v:V}{u:G1},Inv (ft CX P w K mg base N qual scope f cdv A outer s H E) [] σ' H' s'->RelV v u->Q v H'->CE outer P w H s Q u s' :=
  λ {σ' H' v u} J rv q=>%[v,H',J.os,J.bare,J.base,J.hok,rv|q]
 cases fl with
 | ret u=>
  obtain⟨v,σ',H',J,rv,q⟩:=hs;exact fin J rv q
 | next=>
  obtain⟨σ',H',J,q⟩:=hs;exact fin (v:=V.non) (u:=Value.none) J rfl q
 | brk=>
  obtain⟨_,_,_,q⟩:=hs;exact E7 q
 | cont=>
  obtain⟨_,_,_,q⟩:=hs;exact E7 q
section
variable{X:Cx}{x:Str}{p pos:Pos}{e:Expr}{es:Mo Expr}{t:TA}{id T:String}{r:Mo V->Hp->VK->Prop}
def tCB(r:Mo V->Hp->VK->Prop)(t:TA):TE:=λ σ H Q=>t σ H λ vs H1=>r vs H1 Q
theorem ap(hc:bW X (.builtin id) r)(hg:Gl X x)(hm:X.mg x=none)(hv:bootBuiltins x=some (.builtin id))(ha:PA X (e :: es) t)(hn:x ≠ "__name__" := by decide)(hdb:(x == ("__debug__" : Str))=false:=by decide)
  (he:starEach (e :: es) X.env=(false,eval e X.env) :: starEach es X.env:=by rfl) (hpl:(backTo pos (starEach es X.env)).any (·.1)=false:=by rfl):PE X (.Call (.Name x p) (e :: es) [] pos) (tCB r t):=by
 intro Mq s σ H Q I h;refine NX (dS I hg hm hv ?_ hn hdb);exact PyProof.Rows.callWith_builtin1 (thn (ha pos Mq s σ H _ I h) λ us s1 %[vs,H1,I1,r1|q1]=>hc Mq s1 σ H1 vs us Q I1 r1 q1) he hpl
theorem aT(hc:bW X (.type T) r)(hg:Gl X x)(hm:X.mg x=none)(hv:bootBuiltins x=some (.type T))(ha:PA X (e :: es) t)(hn:x ≠ "__name__" := by decide)(hdb:(x == ("__debug__" : Str))=false:=by decide)
  (he:starEach (e :: es) X.env=(false,eval e X.env) :: starEach es X.env:=by rfl) (hpl:(backTo pos (starEach es X.env)).any (·.1)=false:=by rfl):PE X (.Call (.Name x p) (e :: es) [] pos) (tCB r t):=by
 intro Mq s σ H Q I h;refine NX (dS I hg hm hv ?_ hn hdb);exact M7 (thn (ha pos Mq s σ H _ I h) λ us s1 %[vs,H1,I1,r1|q1]=>hc Mq s1 σ H1 vs us Q I1 r1 q1) he hpl
end
end L2
namespace HT
open PySem PyProof.Rows
section
variable{prog:F8}{w:G0}{A:Around}{E:G1->F7->Prop}{s:F7}
theorem cat_tup{t b:Mi}{vs ws:Mo G1}{Q:G1->F7->Prop}(ht:IsTup s.heap t vs.toArray)(hb:IsTup s.heap b ws.toArray)(hv:vs≠[])
  (h1:ws=[]->Q (.ref t) s) (h2:ws≠[]->Q (.ref s.heap.objs.size) { s with heap:=s.heap.push { cls:=.type "tuple",data:=.seq (vs ++ ws).toArray } })
  (hsz:vs.length+ws.length<=sizeLine):wpAny (model prog w) A (binaryOp .Add (.ref t) (.ref b)) Q E s:=by
 obtain⟨⟨cls,dd,data,sl⟩,ho,hc,n,hd⟩:=id ht;obtain⟨⟨cls2,dd2,data2,sl2⟩,ho2,hc2,n2,hd2⟩:=id hb;simp only at hc hd hc2 hd2;subst hc hd hc2 hd2;have e:vs.toArray ++ ws.toArray=(vs ++ ws).toArray:=by simp
 by_cases hw:ws=[]
 ·exact concat_meets %[_,ho|rfl] %[_,ho2|rfl] noFill_tuple_add seq_tuple_add PySem.F.slot_tuple_add PySem.F.entry_tuple_add (PySem.F.args_tuple_add_2 _ _)
   (tuple_addW1 t b vs.toArray ws.toArray n n2 dd dd2 sl sl2 (by simpa using hv) (by simp[hw])) %[ho,ho2|h1 hw]
 ·refine concat_meets %[_,ho|rfl] %[_,ho2|rfl] noFill_tuple_add seq_tuple_add PySem.F.slot_tuple_add PySem.F.entry_tuple_add (PySem.F.args_tuple_add_2 _ _)
   (tuple_addW2 t b vs.toArray ws.toArray n n2 dd dd2 sl sl2 (by simpa using hv) (by simpa using hw) (by rw[J6,J6];exact hsz)) %[ho,ho2|?_]
  rw[e];exact h2 hw
def sIx(n d:Nat):Ml Int->Nat
 | none=>d
 | some v=>if v < 0 then(v+(n:Int)).toNat else min v.toNat n
end
end HT
namespace L2
open PySem PySem.Spec PyProof.Rows
abbrev TO:=St->Hp->(Ml Int->Hp->Prop)->Prop
def PO(X:Cx)(e:Ml Expr)(t:TO):Prop :=
 ∀(Mq:Mo (Mi×Obj))(s:F7)(σ:St)(H:Hp)(Q:Ml Int->Hp->Prop),Inv X Mq σ H s->t σ H Q ->
  wpAny (model X.prog X.w) X.A (evalPart e X.env) (λ u s'=>∃o H',Inv X Mq σ H' s'/\IsPart u o/\Q o H') X.xe s
def xy:TO:=λ _ H Q=>Q none H
def Ek(t:TE):TO:=λ σ H Q=>t σ H λ x H1=>∃i,x=.int i/\Q (some i) H1
section
variable{X:Cx}{e:Expr}{te:TE}{lo hi:Ml Expr}{tl th:TO}{pos p2:Pos}
theorem qI:PO X none xy:=by intro Mq s σ H Q I h;rw[evalPart_none];exact A2 %[none,H,I,.none|h]
theorem qJ(h:PE X e te):PO X (some e) (Ek te):=by intro Mq s σ H Q I hw;rw[evalPart_some];refine thn (h Mq s σ H _ I hw) λ u s1 %[x,H1,I1,r1|q1]=>?_;obtain⟨i,rfl,q⟩:=q1;obtain⟨t,rfl⟩:=r1;exact%[some i,H1,I1,.int i t|q]
def SlR(X:Cx)(r:V->Ml Int->Ml Int->Hp->VK->Prop):Prop :=
 ∀(Mq:Mo (Mi×Obj))(s:F7)(σ:St)(H:Hp)(x:V)(v vl vu:G1)(lo hi:Ml Int)(sl:Mi)(Q:VK),Inv X Mq σ H s->RelV x v->s.heap.IsSliceOf sl vl vu .none->IsPart vl lo->IsPart vu hi->r x lo hi H Q ->
  ∃T id,typeLookup (.type T) "__getitem__" = pure (some (.builtin id))/\s.TypeIs v T/\wpAny (model X.prog X.w) X.A (getItem v (.ref sl)) (EP X Mq σ Q) X.xe s
def tSl(r:V->Ml Int->Ml Int->Hp->VK->Prop)(te:TE)(tl th:TO):TE:=λ σ H Q=>te σ H λ x H1=>tl σ H1 λ l H2=>th σ H2 λ u H3=>r x l u H3 Q
theorem mM{r:V->Ml Int->Ml Int->Hp->VK->Prop}(hr:SlR X r)(he:PE X e te)(hl:PO X lo tl)(hu:PO X hi th):PE X (.Subscript e (.Slice lo hi none p2) pos) (tSl r te tl th):=by intro Mq s σ H Q I h;refine Subscript_ (thn (he Mq s σ H _ I h) λ v s1 %[x,H1,I1,r1|q1]=>?_);refine wpAny_Slice (thn (hl Mq s1 σ H1 _ I1 q1) λ vl s2 %[l,H2,I2,pl|q2]=>thn (hu Mq s2 σ H2 _ I2 q2) λ vu s3 %[u,H3,I3,pu|q3]=>?_);rw[evalPart_none];refine A2 ?_;have I4:Inv X Mq σ H3 { s3 with heap:=s3.heap.push { cls:=.type "slice",data:=.fields #[vl,vu,.none] } }:=I3.kept (t':=s3.toks) λ b ob q=>A7 _ q;obtain⟨T,id,hT,ht,hg⟩:=hr Mq { s3 with heap:=s3.heap.push { cls:=.type "slice",data:=.fields #[vl,vu,.none] } } σ H3 x v vl vu l u s3.heap.objs.size Q I4 r1 (Heap.IsSliceOf.new ..) pl pu q3;show wpAny (model X.prog X.w) X.A (subscriptTail e (.Slice lo hi none p2) v (.ref s3.heap.objs.size)) (EP X Mq σ Q) X.xe { s3 with heap:=s3.heap.push { cls:=.type "slice",data:=.fields #[vl,vu,.none] } };exact tail_any (ops:=[.ref s3.heap.objs.size,v]) ht hT hg (by with_unfolding_all rfl)
def rS(xs:Mo V)(lo hi:Ml Int):Mo V:=(xs.drop (HT.sIx xs.length 0 lo)).take (HT.sIx xs.length xs.length hi - HT.sIx xs.length 0 lo)
theorem mO(xs:Mo V)(lo hi:Ml Int):(rS xs lo hi).length<=xs.length:=by unfold rS;rw[K0,List.length_drop];omega
def zc(K:C6):R2:=λ x y H Q=>∃a b xs ys,x=.ref a/\y=.ref b/\SqT K H a xs/\SqT K H b ys/\xs≠[]/\xs.length+ys.length<=sizeLine /\
 (ys=[]->Q (.ref a) H)/\(ys≠[]->∀p,H p=none->Q (.ref p) (upd H p (.tup (xs ++ ys))))
theorem Vals.nil_iff{xs:Mo V}{us:Mo G1}(r:Vals xs us):us=[]↔xs=[]:=by
 cases r with
 | nil=>simp
 | cons _ _=>simp
theorem xz:OpR X (binaryOp .Add) (zc X.K):=by intro Mq s σ H x y v u Q I rx ry h;obtain⟨a,b,xs,ys,rfl,rfl,ha,hb,hx,hz,q1,q2⟩:=h;cases rx;cases ry;obtain⟨its,r1,p1,_⟩:=I.tuple ha;obtain⟨its2,r2,p2,_⟩:=I.tuple hb;refine HT.cat_tup p1 p2 (λ z=>hx (r1.nil_iff.mp z)) (λ z=>%[.ref a,H,I,O|q1 (r2.nil_iff.mp z)]) (λ z=>?_) (by rw[<- r1.length,<- r2.length];exact hz);refine%[.ref s.heap.objs.size,_,I.laid (t':=s.toks) (o:=.tup (xs ++ ys)) (λ b ob q=>A7 _ q) (B3 _) ?_,O|q2 (λ w=>z (r2.nil_iff.mpr w)) _ (I.hok.fresh (B3 _))];exact%[by rw[J5];exact hz,_,r1.append r2|IsTup.new _ _]
inductive rz_call_tupleT(K:C6)(xs:Mo V)(H:Hp)(Q:VK):Prop
|mk(a ys:_)(_:xs=[.ref a])(_:SqT K H a ys)(_:Q (.ref a) H)
end
def ixN(n:Nat)(i:Int):Ml Nat:=if 0<=i then(if i < n then some i.toNat else none)else if -(n:Int)<=i then some (i+n).toNat else none
def atI{α:Type}(xs:Mo α)(i:Int):Ml α:=(ixN xs.length i).bind λ j=>xs[j]?
theorem qK{n:Nat}{i:Int}{j:Nat}(h:ixN n i=some j):seqIndex? i n=some j/\j < n/\-(n:Int)<=i/\i < n:=by
 unfold ixN at h
 by_cases h0:0<=i
 ·rw[Mw h0]at h
  by_cases h1:i < n
  ·rw[Mw h1]at h;have e:i.toNat=j:=B9 h;exact%[by rw[seqIndex_of h0 h1,e],⋯,⋯|h1]
  ·rw[Mu h1]at h;cases h
 ·rw[Mu h0]at h
  by_cases h1:-(n:Int)<=i
  ·rw[Mw h1]at h;have e:(i+n).toNat=j:=B9 h;exact%[by rw[seqIndex_neg ⋯ h1,e],⋯,h1|⋯]
  ·rw[Mu h1]at h;cases h
theorem qL{α:Type}{xs:Mo α}{i:Int}{v:α}(h:atI xs i=some v):∃j,seqIndex? i xs.length=some j/\xs[j]?=some v/\j < xs.length/\-(xs.length:Int)<=i/\i < xs.length:=by
 unfold atI at h;cases e:ixN xs.length i with
 | none=>rw[e]at h;cases h
 | some j=>
  rw[e]at h;obtain⟨h1,h2,h3,h4⟩:=qK e;exact%[j,h1,h,h2,h3|h4]
theorem bX{α:Type}{xs:Mo α}{j:Nat}{v:α}(h:xs[j]?=some v):atI xs (j:Int)=some v:=by
 have hj:j < xs.length:=(A6.mp h).1;have e:ixN xs.length (j:Int)=some j:=by unfold ixN;rw[Mw ⋯,Mw ⋯];simp
 unfold atI;rw[e];exact h
def xA(b:Expr):Prop:=∀o i,subscripted b false o i=operate [o,i] (getItem o i)
def IxR(X:Cx)(r:R2):Prop :=
 ∀(value slice:Expr)(Mq:Mo (Mi×Obj))(s:F7)(σ:St)(H:Hp)(x y:V)(v u:G1)(Q:VK),Inv X Mq σ H s->RelV x v->RelV y u->r x y H Q ->
  subscripted slice false v u=operate [v,u] (getItem v u)->wpAny (model X.prog X.w) X.A (subscriptTail value slice v u) (EP X Mq σ Q) X.xe s
def MtR(X:Cx)(id:String)(r:V->Mo V->Hp->VK->Prop):Prop :=
 ∀(Mq:Mo (Mi×Obj))(s:F7)(σ:St)(H:Hp)(x:V)(xs:Mo V)(v:G1)(us:Mo G1)(Q:VK),Inv X Mq σ H s->RelV x v->Vals xs us->r x xs H Q ->
  wpAny (model X.prog X.w) X.A (call (.builtin id) (v :: us)) (EP X Mq σ Q) X.xe s
section
variable{X:Cx}{a b:Expr}{ta tb:TE}{pos:Pos}
theorem aN{r:R2}(hr:IxR X r)(ha:PE X a ta)(hb:PE X b tb)(hs:xA b):PE X (.Subscript a b pos) (tOp r ta tb):=by intro Mq s σ H Q I h;exact Subscript_ (zC ha hb I h λ v u s2 x y H2 I2 rx ry q=>hr a b Mq s2 σ H2 x y v u Q I2 rx ry q (hs _ _))
inductive rIxL(K:C6)(x:V)(y:V)(H:Hp)(Q:VK):Prop
|mk(p:Mi)(xs:Mo V)(i:Int)(v:V)(_:x=.ref p)(_:y=.int i)(_:SqL K H p xs)(_:atI xs i=some v)(_:Q v H)
inductive rIxT(K:C6)(x:V)(y:V)(H:Hp)(Q:VK):Prop
|mk(p:Mi)(xs:Mo V)(i:Int)(v:V)(_:x=.ref p)(_:y=.int i)(_:SqT K H p xs)(_:atI xs i=some v)(_:Q v H)
theorem aD:IxR X (rIxL X.K):=by
 intro value slice Mq s σ H x y v u Q I rx ry h hs;obtain⟨p,xs,i,z,rfl,rfl,hq,he,q⟩:=h;cases rx;obtain⟨t,rfl⟩:=ry;obtain⟨its,r,pl,hz⟩:=I.list hq;obtain⟨j,h1,h2,h3,h4,h5⟩:=qL he;obtain⟨w,ew,rw'⟩:=r.get h2;have hl:=r.length;have hn:=lp;have fin:EP X Mq σ Q w s:=%[z,H,I,rw'|q]
 by_cases h0:0<=i
 ·have hj:i.toNat=j:=by rw[seqIndex_of h0 h5]at h1;exact B9 h1
  exact item_listR pl.isList h0 ⋯ (by rw[hj];simpa using ew) fin hs
 ·have hj:(i+(its.toArray.size:Int)).toNat=j:=by rw[seqIndex_neg ⋯ h4]at h1;rw[J6,<- hl];exact B9 h1
  exact subscriptTail_builtinR (x:=w) pl.isList.typeIs slot_list_getitem.lookup
   (wpAny_getItem_list_neg (Q:=λ r s'=>r=w/\EP X Mq σ Q r s') pl.isList ⋯ (by rw[J6] <;> omega) ⋯ (by rw[hj];simpa using ew) %[rfl|fin]) hs
theorem bY:IxR X (rIxT X.K):=by
 intro value slice Mq s σ H x y v u Q I rx ry h hs;obtain⟨p,xs,i,z,rfl,rfl,hq,he,q⟩:=h;cases rx;obtain⟨t,rfl⟩:=ry;obtain⟨its,r,pl,hz⟩:=I.tuple hq;obtain⟨j,h1,h2,h3,h4,h5⟩:=qL he;obtain⟨w,ew,rw'⟩:=r.get h2;have hl:=r.length;have hn:=lp;have fin:EP X Mq σ Q w s:=%[z,H,I,rw'|q]
 exact subscriptTail_builtinR (x:=w) pl.typeIs slot_tuple_getitem.lookup
  (getItem_tuple (j:=j) (Q:=λ r s'=>r=w/\EP X Mq σ Q r s') pl ⋯ ⋯ (by rw[J6,<- hl];exact h1) (by simpa using ew) %[rfl|fin]) hs
theorem ou(its:Mo G1)(n j:Nat)(u:G1):Obj.mapSeq (·.setIfInBounds j u) { cls:=.type "list",data:=.seq its.toArray n }={ cls:=.type "list",data:=.seq (its.set j u).toArray n }:=by simp[Obj.mapSeq]
theorem Inv.lst{Mq:Mo (Mi×Obj)}{σ:St}{H:Hp}{s:F7}{p:Mi}{xs:Mo V}(I:Inv X Mq σ H s)(h:H p=↥xs) :
  ∃(its:Mo G1)(n:Nat),Vals xs its/\s.heap.get? p=some { cls:=.type "list",data:=.seq its.toArray n }/\xs.length<=sizeLine:=by
 obtain⟨z,its,n,r,e⟩:=I.hok p _ h;exact%[its,n,r,e|z]
theorem Inv.lstUpd{Mq:Mo (Mi×Obj)}{σ:St}{H:Hp}{s:F7}{p:Mi}{xs ys:Mo V}{its its':Mo G1}{n n':Nat}{f:Obj->Obj}(I:Inv X Mq σ H s)(h:H p=↥xs)
  (ho:s.heap.get? p=some { cls:=.type "list",data:=.seq its.toArray n }) (hf:f { cls:=.type "list",data:=.seq its.toArray n }={ cls:=.type "list",data:=.seq its'.toArray n' }) (r:Vals ys its') (hz:ys.length<=sizeLine) (t:Nat) :
  Inv X Mq σ (upd H p (.lst ys)) { s with heap:=s.heap.update p f,toks:=t }:=by
 have e:(s.heap.update p f).get? p=some { cls:=.type "list",data:=.seq its'.toArray n' }:=by rw[NB f ho (by rw[hf] <;> rfl),hf]
 refine I.write (x:=p) (e:=p) (by rw[h];trivial) (.inl rfl) (λ b u hb q=>(NF _ _ (Ne.symm hb)).trans q) %[_|e] ?_;exact%[hz,its',n',r|e]
inductive rSetL(o:V)(i:V)(v:V)(H:Hp)(Q:Hp->Prop):Prop
|mk(p:Mi)(xs:Mo V)(k:Int)(j:Nat)(_:o=.ref p)(_:i=.int k)(_:H p=↥xs)(_:ixN xs.length k=some j)(_:Q (upd H p (.lst (xs.set j v))))
theorem bZ:Eb X rSetL:=by
 intro Mq s σ H o i v ov iv u Q I ro ri rv h;obtain⟨p,xs,k,j,rfl,rfl,hp,hj,q⟩:=h;cases ro;obtain⟨t,rfl⟩:=ri;obtain⟨its,n,r,ho,hz⟩:=I.lst hp;obtain⟨h1,h2,h3,h4⟩:=qK hj;have hl:=r.length;have hn:=lp;have I':Inv X Mq σ (upd H p (.lst (xs.set j v))) { s with heap:=s.heap.update p (Obj.mapSeq (·.setIfInBounds j u)) } :=
  I.lstUpd hp ho (ou its n j u) (r.set rv j) (by rw[MO];exact hz) s.toks
 by_cases h0:0<=k
 ·have hk:k.toNat=j:=by rw[seqIndex_of h0 h4]at h1;exact B9 h1
  exact PySem.W.ki_setAt ho h0 ⋯ (by rw[J6,<- hl];exact h4) (by rw[hk];exact%[_,I'|q])
 ·have hk:(k+(its.toArray.size:Int)).toNat=j:=by rw[seqIndex_neg ⋯ h3]at h1;rw[J6,<- hl];exact B9 h1
  exact PySem.W.ki_setBack ho ⋯ (by rw[J6,<- hl];exact h3) ⋯ (by rw[hk];exact%[_,I'|q])
theorem lq(lo hi:Ml Int)(n:Nat):(sliceBounds lo hi none n).1=((HT.sIx n 0 lo:Nat):Int)/\(sliceBounds lo hi none n).2.1=((HT.sIx n n hi:Nat):Int)/\(sliceBounds lo hi none n).2.2=1:=by
 refine%[?_,?_|O]
 ·cases lo with
  | none=>simp[sliceBounds,HT.sIx]
  | some i=>
   simp only[sliceBounds,HT.sIx,Option.getD_none,show(1:Int) > 0 by decide,Nj]
   by_cases h:i < 0
   ·simp only[h,Nj] <;> omega
   ·simp only[h,NK] <;> omega
 ·cases hi with
  | none=>simp[sliceBounds,HT.sIx]
  | some i=>
   simp only[sliceBounds,HT.sIx,Option.getD_none,show(1:Int) > 0 by decide,Nj]
   by_cases h:i < 0
   ·simp only[h,Nj] <;> omega
   ·simp only[h,NK] <;> omega
theorem jV(its:Mo G1)(lo hi:Ml Int):slicePick its.toArray lo hi none=((its.drop (HT.sIx its.length 0 lo)).take (HT.sIx its.length its.length hi - HT.sIx its.length 0 lo)).toArray:=by obtain⟨h1,h2,h3⟩:=lq lo hi its.toArray.size;unfold slicePick;rw[h1,h2,h3];simp only[sliceRange_one,pick_run,J6] <;> rfl
inductive rSlL(K:C6)(x:V)(lo:Ml Int)(hi:Ml Int)(H:Hp)(Q:VK):Prop
|mk(a:Mi)(xs:Mo V)(_:x=.ref a)(_:SqL K H a xs)(_:∀p,H p=none->Q (.ref p) (upd H p (.lst (rS xs lo hi))))
theorem qM:SlR X (rSlL X.K):=by intro Mq s σ H x v vl vu lo hi sl Q I rx hs pl pu h;obtain⟨a,xs,rfl,hx,q⟩:=h;cases rx;obtain⟨its,r,ht,hz⟩:=I.list hx;have Ms:=r.length;refine%["list",_,slot_list_getitem.lookup,ht.isList.typeIs|?_];refine wpAny_getItem_list_slice ht.isList hs pl pu .none (by simp) ?_ (by rw[J6] <;> omega);rw[jV,<- Ms];refine%[.ref s.heap.objs.size,_,I.laid (t':=s.toks) (o:=.lst (rS xs lo hi)) (λ b ob q=>A7 _ q) (B3 _) ?_,O|q _ (I.hok.fresh (B3 _))];exact%[C7 (mO xs lo hi) hz,_,0,(r.drop (HT.sIx xs.length 0 lo)).take (HT.sIx xs.length xs.length hi - HT.sIx xs.length 0 lo)|A8 _ rfl]
def iq:V->Bool
 | .non=>true
 | .bl _=>true
 | .int _=>true
 | .str _=>true
 | _=>false
def eqV:V->V->Bool
 | .non,.non=>true
 | .bl a,.bl b=>a == b
 | .bl a,.int b=>(if a then 1 else 0) == b
 | .int a,.bl b=>a == (if b then 1 else 0)
 | .int a,.int b=>a == b
 | .str a,.str b=>a == b
 | _,_=>false
theorem zF{A:Around}{s:F7}{y x:V}{u v:G1}(ry:RelV y u)(rx:RelV x v)(fy:iq y=true)(fx:iq x=true):SeqAt.EqAt A s u v (eqV y x):=by
 cases y with
 | non=>
  cases ry;cases x with
  | non=>cases rx;exact SeqAt.EqAt.same _
  | bl b=>cases rx;exact SeqAt.EqAt.none_bool b
  | int b=>obtain⟨t,rfl⟩:=rx;exact SeqAt.EqAt.none_int b t
  | str b=>obtain⟨t,rfl⟩:=rx;exact SeqAt.EqAt.none_str b t
  | _=>exact absurd (show false=true from fx) B2
 | bl a=>
  cases ry;cases x with
  | non=>cases rx;exact SeqAt.EqAt.bool_none a
  | bl b=>cases rx;exact SeqAt.EqAt.bool_bool a b
  | int b=>obtain⟨t,rfl⟩:=rx;exact SeqAt.EqAt.bool_int a b t
  | str b=>obtain⟨t,rfl⟩:=rx;exact SeqAt.EqAt.bool_str a b t
  | _=>exact absurd (show false=true from fx) B2
 | int a=>
  obtain⟨t',rfl⟩:=ry;cases x with
  | non=>cases rx;exact SeqAt.EqAt.int_none a t'
  | bl b=>cases rx;exact SeqAt.EqAt.int_bool a t' b
  | int b=>obtain⟨t,rfl⟩:=rx;exact SeqAt.EqAt.int_int a t' b t
  | str b=>obtain⟨t,rfl⟩:=rx;exact SeqAt.EqAt.int_str a t' b t
  | _=>exact absurd (show false=true from fx) B2
 | str a=>
  obtain⟨t',rfl⟩:=ry;cases x with
  | non=>cases rx;exact SeqAt.EqAt.str_none a t'
  | bl b=>cases rx;exact SeqAt.EqAt.str_bool a t' b
  | int b=>obtain⟨t,rfl⟩:=rx;exact SeqAt.EqAt.str_int a t' b t
  | str b=>obtain⟨t,rfl⟩:=rx;exact SeqAt.EqAt.str_str a t' b t
  | _=>exact absurd (show false=true from fx) B2
 | _=>exact absurd (show false=true from fy) B2
def eqU(x:V)(u:G1):Bool:=match u with
 | .none=>eqV .non x
 | .bool b=>eqV (.bl b) x
 | .int i _=>eqV (.int i) x
 | .str z _=>eqV (.str z) x
 | _=>false
theorem uP{x y:V}{u:G1}(r:RelV y u)(f:iq y=true):eqU x u=eqV y x:=by
 cases y with
 | non=>cases r;rfl
 | bl b=>cases r;rfl
 | int i=>obtain⟨t,rfl⟩:=r;rfl
 | str z=>obtain⟨t,rfl⟩:=r;rfl
 | _=>exact absurd (show false=true from f) B2
theorem lu{x:V}:∀{xs:Mo V}{us:Mo G1},Vals xs us->xs.all iq=true->us.any (eqU x)=xs.any λ y=>eqV y x
 | _,_,.nil,_=>rfl
 | y :: xs,u :: us,.cons r t,f=>by rw[List.all_cons,LQ]at f;rw[List.any_cons,List.any_cons,uP r f.1,lu t f.2]
theorem iY{A:Around}{s:F7}{x:V}{v:G1}(rx:RelV x v)(fx:iq x=true):∀{xs:Mo V}{us:Mo G1},Vals xs us->xs.all iq=true->∀u∈us,SeqAt.EqAt A s u v (eqU x u)
 | _,_,.nil,_=>λ u hu=>by cases hu
 | y :: xs,u :: us,.cons r t,f=>λ u' hu=>by
  rw[List.all_cons,LQ]at f;rcases G7.mp hu with rfl | hu
  ·rw[uP r f.1];exact zF r rx f.1 fx
  ·exact iY rx fx t f.2 u' hu
def inV(x:V)(xs:Mo V):Bool:=xs.any λ y=>eqV y x
def rIn(K:C6)(neg:Bool):R2:=λ x y H Q=>∃p xs,y=.ref p/\(SqL K H p xs\/SqT K H p xs)/\iq x=true/\xs.all iq=true/\Q (.bl (if neg then !inV x xs else inV x xs)) H
theorem rT:OpR X (compareOp .In) (rIn X.K false):=by
 intro Mq s σ H x y v u Q I rx ry h;obtain⟨p,xs,rfl,hq,fx,fs,q⟩:=h;cases ry;rcases hq with hq | hq
 ·obtain⟨its,r,pl,hz⟩:=I.list hq;refine SeqAt.in_listAt (eqU x) pl.isList (λ w hw=>iY rx fx r fs w (by simpa using hw)) %[.bl _,H,I,rfl|?_];rw[show its.toArray.any (eqU x)=its.any (eqU x)by simp,lu r fs];exact q
 ·obtain⟨its,r,pl,hz⟩:=I.tuple hq;refine SeqAt.in_tupleAt (eqU x) pl (λ w hw=>iY rx fx r fs w (by simpa using hw)) %[.bl _,H,I,rfl|?_];rw[show its.toArray.any (eqU x)=its.any (eqU x)by simp,lu r fs];exact q
inductive rz_op_notIn_str(x:V)(y:V)(H:Hp)(Q:VK):Prop
|mk(i j:_)(_:x=.str i)(_:y=.str j)(_:Q (.bl (!(!(Builtin.Str.occurrences j i 0 j.length 1).isEmpty))) H)
inductive rz_call_len_seq(K:C6)(xs:Mo V)(H:Hp)(Q:VK):Prop
|mk(p ys:_)(_:xs=[.ref p])(_:(SqL K H p ys\/SqT K H p ys))(_:Q (.int ys.length) H)
theorem aE:bW X (.builtin "len") (rz_call_len_seq X.K):=by
 intro Mq s σ H xs us Q I r h;obtain⟨p,ys,rfl,hq,q⟩:=h;obtain⟨u,rfl,rx⟩:=eD r;cases rx;have hn:=lp;rcases hq with hq | hq
 ·obtain⟨its,r',pl,hz⟩:=I.list hq;have Ms:=r'.length;exact Calls.call_len_list pl.isList (by simp only[J6] <;> omega) %[.int ys.length,H,I.tok _,%[s.toks+1|by rw[J6,Ms]]|q]
 ·obtain⟨its,r',pl,hz⟩:=I.tuple hq;have Ms:=r'.length;exact len_tuple pl (by simp only[J6] <;> omega) %[.int ys.length,H,I.tok _,%[s.toks+1|by rw[J6,Ms]]|q]
inductive rz_call_len_str(xs:Mo V)(H:Hp)(Q:VK):Prop
|mk(z:_)(_:xs=[.str z])(_:z.length<=sizeLine)(_:Q (.int z.length) H)
inductive rz_call_list_of(K:C6)(xs:Mo V)(H:Hp)(Q:VK):Prop
|mk(p ys:_)(_:xs=[.ref p])(_:(SqL K H p ys\/SqT K H p ys))(_:∀l,H l=none->Q (.ref l) (upd H l (.lst ys)))
theorem dW:bW X (.type "list") (rz_call_list_of X.K):=by
 intro Mq s σ H xs us Q I r h;obtain⟨p,ys,rfl,hq,q⟩:=h;obtain⟨u,rfl,rx⟩:=eD r;cases rx;have fin:∀(its:Mo G1),Vals ys its->ys.length<=sizeLine->∀(h':Heap)(c':Nat),(∀b o',s.heap.get? b=some o'->h'.get? b=some o') ->
   h'.get? s.heap.objs.size=some { cls:=.type "list",dict:=none,data:=.seq its.toArray c',slots:=#[] }->EP X Mq σ Q (.ref s.heap.objs.size) { s with heap:=h' }:=λ its r' hz h' c' kp e=>
  %[.ref s.heap.objs.size,_,I.laid (t':=s.toks) kp (B3 _) (show ObjOk X.prog X.w _ h' _ (.lst ys)from%[hz,its,c',r'|e]),rfl|q _ (I.hok.fresh (B3 _))]
 rcases hq with hq | hq
 ·obtain⟨its,r',pl,hz⟩:=I.list hq;have Ms:=r'.length;obtain⟨o,ho,hc,n,hd⟩:=pl.isList;exact call_list_seq p (.inl rfl) ho hc hd (λ h' c' kp e=>fin its r' hz h' c' kp e) (by simp only[J6] <;> omega)
 ·obtain⟨its,r',pl,hz⟩:=I.tuple hq;have Ms:=r'.length;obtain⟨o,ho,hc,n,hd⟩:=pl;exact call_list_seq p (.inr rfl) ho hc hd (λ h' c' kp e=>fin its r' hz h' c' kp e) (by simp only[J6] <;> omega)
inductive rz_call_tuple_of(K:C6)(xs:Mo V)(H:Hp)(Q:VK):Prop
|mk(p ys:_)(_:xs=[.ref p])(_:((SqL K H p ys/\∀l,H l=none->Q (.ref l) (upd H l (.tup ys)))\/(SqT K H p ys/\Q (.ref p) H)))
theorem aW:bW X (.type "tuple") (rz_call_tuple_of X.K):=by
 intro Mq s σ H xs us Q I r h;obtain⟨p,ys,rfl,h⟩:=h;obtain⟨u,rfl,rx⟩:=eD r;cases rx;rcases h with⟨hq,q⟩ | ⟨hq,q⟩
 ·obtain⟨its,r',pl,hz⟩:=I.list hq;have Ms:=r'.length;refine call_tuple_list pl.isList (λ h' kp=>?_) (by simp only[J6] <;> omega);have I1:Inv X Mq σ H { s with heap:=h' }:=I.kept (t':=s.toks) kp;have I2:Inv X Mq σ (upd H h'.objs.size (.tup ys)) { s with heap:=h'.push { cls:=.type "tuple",data:=.seq its.toArray } } :=
   I1.laid (t':=s.toks) (λ b o e=>A7 _ e) (B3 _) (show ObjOk X.prog X.w _ _ _ (.tup ys)from%[hz,its,r'|IsTup.new _ _])
  exact%[.ref h'.objs.size,_,I2,O|q _ (I1.hok.fresh (B3 _))]
 ·obtain⟨its,r',pl,hz⟩:=I.tuple hq;exact call_tuple_same pl %[.ref p,H,I,rfl|q]
def tyV(K:C6)(T:String)(x:V)(H:Hp):Prop:=match x with
 | .str _=>T = "str"
 | .int _=>T = "int"
 | .ref p=>(T = "list" /\ ∃xs,SqL K H p xs)\/(T = "tuple" /\ ∃o,K.lookup p=some o/\o.cls=.type "tuple" /\ o.dict=none) \/
   (T = "dict" /\ ((∃kvs,H p=some (.dK kvs))\/∃kvs,H p=some (.dT kvs)))\/(T = "set" /\ ∃S n,H p=some (.set S n))
 | _=>False
theorem zG{Mq:Mo (Mi×Obj)}{σ:St}{H:Hp}{s:F7}{T:String}{x:V}{v:G1}(I:Inv X Mq σ H s)(r:RelV x v)(ty:tyV X.K T x H) :
  s.TypeIs v T/\∀a,v=.ref a->∃ob,s.heap.get? a=some ob/\ob.dict=none:=by
 cases x with
 | str z=>
  obtain⟨t,rfl⟩:=r;cases(show T = "str" from ty);exact%[typeIs_str s z t|λ _ e=>nomatch e]
 | int i=>
  obtain⟨t,rfl⟩:=r;cases(show T = "int" from ty);exact%[typeIs_int s i t|λ _ e=>nomatch e]
 | ref p=>
  cases r;rcases ty with⟨rfl,xs,hq⟩ | ⟨rfl,o,hk,hc,hd⟩ | ⟨rfl,hk⟩ | ⟨rfl,S,n,hk⟩
  ·obtain⟨its,_,pl,_⟩:=I.list hq;refine%[pl.isList.typeIs|λ a e=>?_];cases e;obtain⟨o,n,e,c,hd,_⟩:=pl;exact%[o,e|hd]
  ·refine%[%[o,I.kIn p o hk|hc]|λ a e=>?_];cases e;exact%[o,I.kIn _ o hk|hd]
  ·have z:∃o,s.heap.get? p=some o/\o.ExactDict:=by
    rcases hk with⟨kvs,hk⟩ | ⟨kvs,hk⟩
    ·obtain⟨_,_,_,_,o,_,_,e,ex,_⟩:=I.hok p _ hk;exact%[o,e|ex]
    ·obtain⟨_,_,_,_,o,_,_,e,ex,_⟩:=I.hok p _ hk;exact%[o,e|ex]
   obtain⟨o,e,ex⟩:=z;refine%[%[o,e|ex.1]|λ a e2=>?_];cases e2;exact%[o,e|ex.2.1]
  ·obtain⟨o,_,_,_,e,ex,_⟩:=I.hok p _ hk;refine%[%[o,e|ex.1]|λ a e2=>?_];cases e2;exact%[o,e|ex.2.1]
 | _=>exact E7 ty
def tBM(K:C6)(T:String)(r:V->Mo V->Hp->VK->Prop)(to:TE)(t:TA):TE:=λ σ H Q=>to σ H λ x H1=>tyV K T x H1/\t σ H1 λ xs H2=>r x xs H2 Q
variable{o e:Expr}{es:Mo Expr}{to:TE}{t:TA}{name:Str}{apos cpos:Pos}{T id:String}{r:V->Mo V->Hp->VK->Prop}
theorem iZ(pa:PlainAttrs T)(slot:Slot T name id)(hty:typeOf (.builtin id)=pure (.type "method_descriptor"))(hm:MtR X id r)(ho:PE X o to)(ha:PA X (e :: es) t)
  (hbase:attributeBase o name X.env (eval o X.env)=eval o X.env:=by rfl)
  (hfew:((backTo cpos (starEach (e :: es) X.env)).all (λ x=>!x.1) && (backToKw cpos (keywordEach [] X.env)).all (λ x=>x.1.isSome)
   && decide ((e :: es).length+([]:Mo Keyword).length+(if ([]:Mo Keyword).isEmpty then 0 else 1) < 30))=true:=by rfl)
  (hline:(apos.endLine == cpos.line)=true:=by rfl) (hs:starEach (e :: es) X.env=(false,eval e X.env) :: starEach es X.env:=by rfl) (hplain:(backTo cpos (starEach es X.env)).any (·.1)=false:=by rfl) :
  PE X (.Call (.Attribute o name apos) (e :: es) [] cpos) (tBM X.K T r to t):=by
 intro Mq s σ H Q I h;refine wpAny_Call_method_late hbase hfew hline rfl (thn (ho Mq s σ H _ I h) λ v s1 %[x,H1,I1,r1,ty|q1]=>?_);obtain⟨h1,h2⟩:=zG I1 r1 ty;refine%[T,id,pa,slot,hty,h1,h2|?_];have hA:=ha cpos Mq s1 σ H1 _ I1 q1;rw[hs]at hA ⊢;refine Calls.callWith_builtin (by show(false || (backTo cpos (starEach es X.env)).any (·.1))=false;rw[hplain] <;> rfl) (Calls.evalArgs_plain ?_);exact thn hA λ us s2 %[vs,H2,I2,r2|q2]=>hm Mq s2 σ H2 x vs v us Q I2 r1 r2 q2
/- xs.append(e),list.index on a module's tuple .. are MtR facts of 06m -/
end
def MtM(X:Cx)(id:String)(r:V->Mo V->Hp->VK->Prop):Prop :=
 ∀(Mq:Mo (Mi×Obj))(s:F7)(σ:St)(H:Hp)(x:V)(xs:Mo V)(v:G1)(us:Mo G1)(Q:VK),Inv X Mq σ H s->RelV x v->Vals xs us->r x xs H Q ->
  wpAny (model X.prog X.w) X.A (call (.builtin id) (v :: us)) (EP X Mq σ Q) X.xe s
theorem Vals.one:∀{x:V}{us:Mo G1},Vals [x] us->∃u,us=[u]/\RelV x u
 | _,_,.cons r .nil=>%[_,O|r]
theorem Vals.dropLast{xs:Mo V}{us:Mo G1}(h:Vals xs us):Vals xs.dropLast us.dropLast:=by
 induction h with
 | nil=>exact .nil
 | cons r t ih=>
  cases t with
  | nil=>exact .nil
  | cons q t'=>exact .cons r ih
theorem zH{α:Type}(l:Mo α):l.eraseIdx (l.length - 1)=l.dropLast:=by
 induction l with
 | nil=>rfl
 | cons a r ih=>
  cases r with
  | nil=>rfl
  | cons b r=>
   have e:(a :: b :: r).length - 1=((b :: r).length - 1)+1:=by have h1:(a :: b :: r).length=r.length+2:=rfl;have h2:(b :: r).length=r.length+1:=rfl;omega
   rw[e,List.eraseIdx_cons_succ,ih]
   all_goals rfl
section
variable{X:Cx}{Mq:Mo (Mi×Obj)}{σ:St}{H:Hp}{s:F7}{l b:Mi}{xs ys zs:Mo V}
theorem Inv.lset{its its':Mo G1}{n:Nat}{f:Mm G1->Mm G1}{t':Nat}(I:Inv X Mq σ H s)(hH:H l=↥xs)
  (e:s.heap.get? l=some { cls:=.type "list",data:=.seq its.toArray n }) (hf:f its.toArray=its'.toArray) (hv:Vals ys its') (hz:ys.length<=sizeLine) :
  Inv X Mq σ (upd H l (.lst ys)) { s with heap:=s.heap.update l (Obj.mapSeq f),toks:=t' }:=by
 have q:=PySem.IsL.update e f;rw[hf]at q;refine I.write (x:=l) (e:=l) (by rw[hH];exact trivial) (.inl rfl) (λ b' u hb hu=>(NF s.heap (Obj.mapSeq f) (Ne.symm hb)).trans hu) %[_|q] ?_;exact%[hz,its',_,hv|q]
theorem Inv.lnew{its:Mo G1}{t':Nat}(I:Inv X Mq σ H s)(hv:Vals ys its)(hz:ys.length<=sizeLine) :
  Inv X Mq σ (upd H s.heap.objs.size (.lst ys)) { s with heap:=s.heap.push { cls:=.type "list",data:=.seq its.toArray },toks:=t' } :=
 I.laid (λ _ _ q=>A7 _ q) (B3 _) %[hz,its,0,hv|A8 _ rfl]
theorem Inv.fresh(I:Inv X Mq σ H s):H s.heap.objs.size=none:=I.hok.fresh (B3 _)
theorem Inv.lstM(I:Inv X Mq σ H s)(hH:H l=↥xs):xs.length<=sizeLine/\∃(its:Mo G1)(n:Nat),Vals xs its/\xs.length=its.length/\s.heap.get? l=some { cls:=.type "list",data:=.seq its.toArray n }:=by obtain⟨z,its,n,r,e⟩:=I.hok l _ hH;exact%[z,its,n,r,r.length|e]
theorem uQ{n:Nat}(h:n<=sizeLine):Builtin.List.listTooLong n=false:=by unfold Builtin.List.listTooLong;exact B1 ⋯
end
section
variable{X:Cx}
inductive rAppend(x:V)(vs:Mo V)(H:Hp)(Q:VK):Prop
|mk(l:Mi)(xs:Mo V)(y:V)(_:x=.ref l)(_:vs=[y])(_:H l=↥xs)(_:xs.length < sizeLine)(_:Q .non (upd H l (.lst (xs ++ [y]))))
theorem fc:MtM X "list.append" rAppend:=by intro Mq s σ H x vs v us Q I rx rv h;obtain⟨l,xs,y,rfl,rfl,hH,hz,q⟩:=h;cases rx;obtain⟨u,rfl,ru⟩:=rv.one;obtain⟨z,its,n,r,hl,e⟩:=I.lstM hH;refine call_meets F.slot_list_append %[_,e|O] F.entry_list_append (F.args_list_append_2 _ _) (PySem.list_append l its.toArray n u (by rw[J6];omega)) %[e|?_];refine%[.non,_,I.lset (its':=its ++ [u]) hH e (by simp) (r.append (.cons ru .nil)) ?_,O|q];rw[J5,List.length_singleton];omega
def xB:V->Mo V->Hp->VK->Prop:=λ x vs H Q=>∃l b xs zs,x=.ref l/\vs=[.ref b]/\H l=↥xs/\H b=↥zs/\xs.length+zs.length<=sizeLine/\Q .non (upd H l (.lst (xs ++ zs)))
theorem DV:MtM X "list.extend" xB:=by
 intro Mq s σ H x vs v us Q I rx rv h;obtain⟨l,b,xs,zs,rfl,rfl,hH,hB,hz,q⟩:=h;cases rx;obtain⟨u,rfl,ru⟩:=rv.one;cases ru;obtain⟨z,its,n,r,hl,e⟩:=I.lstM hH;obtain⟨z2,its2,n2,r2,hl2,e2⟩:=I.lstM hB;have hsz:its.toArray.size+its2.toArray.size<=sizeLine:=by rw[J6,J6];omega
 have hlong:¬ (!its.toArray.isEmpty && Builtin.List.listTooLong (its.toArray.size+its2.toArray.size))=true:=by rw[uQ hsz,Bool.and_false];exact B2
 refine call_meets F.slot_list_extend %[_,e|O] F.entry_list_extend (F.args_list_extend_2 _ _)
  (AutoSeq1.list_extend_list_list_0 l its.toArray n b its2.toArray n2 hlong (by rw[J6];omega) ⋯) %[e,e2|?_]
 refine%[.non,_,I.lset (its':=its ++ its2) hH e (by simp) (r.append r2) ?_,O|q];rw[J5];omega
inductive rCat(x:V)(y:V)(H:Hp)(Q:VK):Prop
|mk(l b:Mi)(xs zs:Mo V)(_:x=.ref l)(_:y=.ref b)(_:H l=↥xs)(_:H b=↥zs)(_:xs.length+zs.length<=sizeLine)(_:∀p,H p=none->Q (.ref p) (upd H p (.lst (xs ++ zs))))
theorem eO:OpR X (binaryOp .Add) rCat:=by
 intro Mq s σ H x y v u Q I rx ry h;obtain⟨l,b,xs,zs,rfl,rfl,hH,hB,hz,q⟩:=h;cases rx;cases ry;obtain⟨z,its,n,r,hl,e⟩:=I.lstM hH;obtain⟨z2,its2,n2,r2,hl2,e2⟩:=I.lstM hB;refine PySem.P.add_list e e2 ?_ (by rw[J6,J6];omega);have ea:its.toArray ++ its2.toArray=(its ++ its2).toArray:=by simp
 rw[ea];exact%[.ref _,_,I.lnew (t':=s.toks) (r.append r2) (by rw[J5];omega),O|q _ I.fresh]
end
end L2
namespace Att
open PySem PySem.W PySem.Calls PyProof.Rows
theorem iI{P:Params}{h:Heap}:∀(ns:Mo Int)(vs:Mo G1),WellAll P h vs (ns.map WData.int)->IntsAre vs ns:=by
 intro ns
 induction ns with
 | nil=>
  intro vs w;rw[LN]at w;cases w;exact .nil
 | cons n ns ih=>
  intro vs w;rw[G9]at w;cases w with
  | cons a b=>
   cases a;exact .cons _ _ (ih _ b)
theorem rV{l:OpenLaw}{n:Nat}(hn:l.most=some n){P:Params}{h:Heap}{args:Mo WData}{vals:Mo G1}
  (hpre:l.row.toRowW.claim.pre args=true) (hwl:WellAll P h vals args) :
  ∃a vs ns,vals=[Value.ref a]/\args=[WData.list (ns.map WData.int)]/\h.get? a=some { cls:=.type "list",data:=.seq vs.toArray }/\IntsAre vs ns/\ns.length<=n:=by
 have hsh:WShape.hasAll [] args [.list .int]=true:=(pre_splitW hpre).1;have hc:l.pre.holds [] { args:=args }=true:=(pre_splitW hpre).2;obtain⟨d,r,rfl,h1,h2⟩:=hasAllW_cons hsh;obtain rfl:=hasAllW_nil h2;obtain⟨xs,rfl,h3⟩:=hasW_list h1;obtain⟨ns,rfl⟩:=items_int h3;have Ms:ns.length<=n:=by
  unfold OpenLaw.pre at hc;have h4:(WTm.not (.lt (.lit (.int (n:Int))) (.len (.arg 0)))).holds [] { args:=[.list (ns.map .int)] }=true:=by have h4:=(holds_andW hc).1;rw[hn]at h4;exact h4
  have h5:=condW_of h4 (w_not (w_lt w_lit (w_len_list (w_arg rfl))));rw[B4]at h5;refine Nat.le_of_not_lt λ q=>?_;have q':(n:Int) < ((ns.length:Nat):Int):=⋯
  first
   | (rw[Mx q']at h5;exact absurd h5 ∅)
   | (simp at h5;omega)
 cases hwl with
 | cons w1 w2=>
  cases w2;cases w1 with
  | list ho hall=>exact%[_,_,ns,O,O,ho,iI ns _ hall|Ms]
theorem rW(l:OpenLaw)(args:Mo WData):l.row.toRowW.claim.post args (.bool true) args=true :=
 postW_of (r:=l.row.toRowW) (X:=(true == true))
  (show WShape.has [] (.bool true) .bool=true by first | rfl | decide | simp[WShape.has,WShape.arms,WShape.armsAll])
  (show(WTm.eq .res (.lit (.bool true))).value [] { args:=args,res:=some (.bool true),after:=args }=some (.bool (true == true))from w_eq_bool (w_res rfl) w_lit) rfl
theorem attach_call{l:OpenLaw}{n:Nat}{q:F8}{loose:Mo Str}{XP:(Str->Ml G1)->Heap->Prop}{YP:G0->Heap->Prop}{d:DefRec}
  (hn:l.most=some n) (hdf:d.params.defaults=[])
  (call:∀(w:G0)(s₀ s₁:F7)(mg mb:Str->Ml G1)(fa:Mi)(o:Obj)(pm cd doc:G1)(a:Mi)(vs:Mo G1)(ns:Mo Int),
   Ground q loose [] XP w s₀ mg mb s₁.heap->YP w s₁.heap ->
   s₁.heap.get? fa=some o->o.data=.func (docDef d.name d.params d.body d.scope pm cd doc)->s₁.heap.CodeRec cd d.name->mg d.name=↑fa ->
   s₁.heap.get? a=some { cls:=.type "list",data:=.seq vs.toArray }->IntsAre vs ns->ns.length<=n->s₁.gens=#[] ->
   codeAny (model l.prog w) callerA (.call (.ref fa) %[[.ref a]|[]]) (λ r s'=>r=.ok (.ret (.bool true))/\OldK s₁.heap s'.heap/\s'.os=s₁.os/\AllBare s'.gens) s₁) :
  WalkO q loose XP YP l.row.toRowW d [] (λ f vs=>PySem.call f vs):=by
 intro w s₀ s₁ mg mb G Y fa o pm cd doc dV kV ho hd hcd hD hmg hg args vals as hpre hlay hrd hwl hlo;obtain rfl:dV=.none:=Dflts.none hD hdf;obtain rfl:kV=.none:=Dflts.noKw hD;obtain⟨a,vs,ns,rfl,rfl,hobj,hints,Ms⟩:=rV hn hpre hwl;refine enter_call (Nk (call w s₀ s₁ mg mb fa o pm cd doc a vs ns G Y ho (fd_plain hd) hcd hmg hobj hints Ms hg) λ r s' hq=>?_);obtain⟨rfl,h2,h3,h4⟩:=hq;exact%[.inl %[.bool true,.bool true,[],O,λ _=>rfl,.bool true,rW l _|λ _=>%[List.Pairwise.nil|λ _ hm=>(nomatch hm)]],h2,h3|h4]
section
variable{prog:F8}{w:G0}{A:Around}{E:G1->F7->Prop}{s:F7}{K:Frag}
def Jo(h:Heap)(L d:Mi):Mo (Mi×Obj):=(List.range h.objs.size).filterMap λ a=>if a=L\/a=d then none else(h.get? a).map λ o=>(a,o)
end
end Att
namespace L2
open PySem PySem.Spec PyProof.Rows
theorem kC:∀{vs:Mo G1}{ns:Mo Int},IntsAre vs ns->Vals (ns.map V.int) vs
 | _,_,.nil=>.nil
 | _,_,.cons n t h=>.cons %[t|O] (kC h)
def zI(H:Hp):Prop:=∀b,H b=none\/∃o xs,H b=some (.frz o (.lst xs))
theorem uR{P:F8}{w:G0}{K:C6}{mg mb:Str->Ml G1}{CX:CXT}{k:Nat}{fa a:Mi}{fd:F9}{x:Str}{sp:Sp}{s₁:F7}{vs:Mo G1}{ns:Mo Int}
  (KX:K.In s₁.heap) (hns:s₁.heap.Ns Mp mg) (hb:s₁.heap.Ns builtinsNs mb) (hbb:∀x:Str,x ≠ "__name__" -> mb x=bootBuiltins x) (hlim:s₁.heap.NoLimit) (hg:s₁.gens=#[])
  (ha:s₁.heap.get? a=some { cls:=.type "list",data:=.seq vs.toArray }) (hi:IntsAre vs ns) (hl:ns.length<=sizeLine) (hr:Room k callerA)
  (F:∀base:Heap,K.In base->base.Ns Mp mg->FnOk P w K mg base CX k fa fd [x] sp) (hbind:∀(s:F7)(u:G1),BindsTo s fd %[[u]|[]] [(x,u)])
  (hsp:∀H:Hp,zI H->SqL K H a (ns.map V.int)->sp [.ref a] H (λ v _=>v=.bl true) λ _ _ _=>False)
  (hCX:∀H e s',CX [] H s₁ (λ _ _ _=>False) e s'->False) :
  codeAny (model P w) callerA (.call (.ref fa) %[[.ref a]|[]]) (λ r s'=>r=.ok (.ret (.bool true))/\OldK s₁.heap s'.heap/\s'.os=s₁.os/\AllBare s'.gens) s₁:=by
 have rv:=kC hi;have lenV:=hi.length;have core:∀H:Hp,zI H->SqL K H a (ns.map V.int)->HOk P w H s₁.heap->(∀b,H b≠none->b=a)->(H a≠none->K.lookup a=none) ->
   codeAny (model P w) callerA (.call (.ref fa) %[[.ref a]|[]]) (λ r s'=>r=.ok (.ret (.bool true))/\OldK s₁.heap s'.heap/\s'.os=s₁.os/\AllBare s'.gens) s₁:=by
  intro H hO hS hok hA hK;have base_of:∀{b:Mi}{o:Obj},s₁.heap.get? b=some o->H b=none->(lf s₁.heap H).get? b=some o:=λ e n=>uy e n;have noA:∀{b:Mi}{o:Obj}{es:Mm DictEntry}{ep:Nat},s₁.heap.get? b=some o->o.data=.dict es ep->H b=none:=λ {b o es ep} e d=>by
   cases q:H b with
   | none=>rfl
   | some u=>
    have e':b=a:=hA b (by rw[q];simp);subst e';rw[ha]at e;cases e;have d':Data.seq vs.toArray _=Data.dict es ep:=d;cases d'
  have nsK:∀{b:Mi}{m:Str->Ml G1},s₁.heap.Ns b m->(lf s₁.heap H).Ns b m:=λ {b m} ⟨o,es,ep,e,d,r⟩=>%[o,es,ep,base_of e (noA e d),d|r]
  have hKb:K.In (lf s₁.heap H):=λ b o e=>base_of (KX b o e) (by
   cases q:H b with
   | none=>rfl
   | some u=>
    have e':b=a:=hA b (by rw[q];simp);subst e';rw[hK (by rw[q];simp)]at e;cases e)
  have hM:Mod K mg (lf s₁.heap H):=%[hKb,nsK hns,%[mb,nsK hb|hbb]|let ⟨mc,h1,h2⟩:=hlim;%[mc,nsK h1|h2]]
  have e0:Env0 P w K mg (lf s₁.heap H) callerA [] s₁ H:=%[O,hM,λ b o e=>xg e,Nat.le_of_eq (rM _ _),trivial,λ b hb=>absurd (show b∈([]:Mo Mi)from hb) (by simp),hok|.of_eq hg]
  refine Nk ((F _ hKb (nsK hns)).run callerA [] s₁ H %[[.ref a]|[]] [.ref a] [.ref a] _ _ hr e0 (hbind s₁ (.ref a)) (.cons rfl .nil) (hsp H hO hS)) λ r s' h=>?_;cases r with
  | error e=>exact(hCX H e s' h).elim
  | ok fl=>
   cases fl with
   | next=>exact E7 h
   | brk=>exact E7 h
   | cont=>exact E7 h
   | ret u=>
    obtain⟨v,H',os,bare,un,hok',r',q⟩:=h;have q':v=.bl true:=q;subst q';obtain rfl:u=Value.bool true:=r';refine%[O,OldK.of_keep λ b o e=>?_,os|bare];cases q:H b with
    | none=>exact un.keep b o e q (by intro z;exact absurd (show b∈([]:Mo Mi)from z) (by simp)) (by simp)
    | some u=>
     rcases hO b with z | ⟨ob,xs,z⟩
     ·rw[q]at z;cases z
     ·have z2:=un.frzs b ob _ z;obtain⟨e1,_⟩:=hok b _ z;obtain⟨e2,_⟩:=hok' b _ z2;rw[e]at e1;cases e1;exact e2
 cases hk:K.lookup a with
 | some o=>
  have e:=KX a o hk;rw[ha]at e;cases e;refine core (λ _=>none) (λ _=>.inl rfl) (.inr %[_,vs.toArray,_,hk,O,O,O,by rw[J6,lenV];exact hl|by simpa using rv]) (λ b u z=>by have z':(none:Ml HO)=some u:=z;cases z') (λ b z=>absurd rfl z) λ z=>absurd rfl z
 | none=>
  refine core (λ b=>if b=a then some (.frz { cls:=.type "list",data:=.seq vs.toArray } (.lst (ns.map V.int)))else none) (λ b=>?_) (.inl (.inr %[{ cls:=.type "list",data:=.seq vs.toArray }|Mw rfl])) (λ b u z=>?_) (λ b z=>?_) λ _=>hk
  ·by_cases hb:b=a
   ·exact .inr %[_,_|Mw hb]
   ·exact .inl (Mu hb)
  ·by_cases hb:b=a
   ·have z':=(Mw hb).symm.trans z;cases z';subst hb;exact%[ha,by rw[B4];exact hl,vs,_,rv|ha]
   ·have z':=(Mu hb).symm.trans z;cases z'
  ·by_cases hb:b=a
   ·exact hb
   ·exact absurd (Mu hb) z
theorem walk_of{l:PySem.W.OpenLaw}{n k:Nat}{q:F8}{loose:Mo Str}{XP:(Str->Ml G1)->Heap->Prop}{YP:G0->Heap->Prop}{d:DefRec}{K:Params->C6}{CX:G0->CXT}{sp:G0->Sp}{x:Str}
  (hn:l.most=some n) (hn2:n<=sizeLine) (hdf:d.params.defaults=[]) (hr:Room k callerA)
  (hY:∀(w:G0)(h:Heap),YP w h->(K w.params).In h)
  (F:∀(w:G0)(mg:Str->Ml G1)(fa:Mi)(h:Heap),(K w.params).In h->h.Ns Mp mg->mg d.name=↑fa ->
   ∃fd:F9,(∀(s:F7)(u:G1),BindsTo s fd %[[u]|[]] [(x,u)]) /\
    ∀base:Heap,(K w.params).In base->base.Ns Mp mg->FnOk l.prog w (K w.params) mg base (CX w) k fa fd [x] (sp w))
  (hsp:∀(w:G0)(H:Hp)(a:Mi)(ns:Mo Int),ns.length<=n->zI H->SqL (K w.params) H a (ns.map V.int)->sp w [.ref a] H (λ v _=>v=.bl true) λ _ _ _=>False)
  (hCX:∀(w:G0)(H:Hp)(s:F7)(e:G1)(s':F7),CX w [] H s (λ _ _ _=>False) e s'->False) :
  PySem.W.WalkO q loose XP YP l.row.toRowW d [] (λ f vs=>PySem.call f vs):=by
 refine Att.attach_call hn hdf λ w s₀ s₁ mg mb fa o pm cd doc a vs ns G Y ho hd hcd hmg hobj hints Ms hg=>?_;have KX:=hY w _ Y;obtain⟨fd,hb,hF⟩:=F w mg fa _ KX G.T.g hmg;exact uR KX G.T.g G.T.b G.T.builtins G.T.nolimit hg hobj hints (C7 Ms hn2) hr hF hb (λ H hO hS=>hsp w H a ns Ms hO hS) λ H e s'=>hCX w H s₁ e s'
def inClass(s:Stmt)(j:Nat):Stmt:=match s with
 | .ClassDef _ _ _ body _ _ _ _ _ _ _=>body.getD j (.Pass %[0,0,0|0])
 | _=>.Pass %[0,0,0|0]
def defArgs(s:Stmt):Arguments:=match s with
 | .FunctionDef _ a _ _ _ _ _ _ _ _=>a
 | _=>{ posonlyargs:=[],args:=[],vararg:=none,kwonlyargs:=[],kw_defaults:=[],kwarg:=none,defaults:=[] }
def defBody(s:Stmt):Mo Stmt:=match s with
 | .FunctionDef _ _ b _ _ _ _ _ _ _=>b
 | _=>[]
def defScope(s:Stmt):Scope:=match s with
 | .FunctionDef _ _ _ _ _ _ sc _ _ _=>sc
 | _=>{ kind:=.function,names:=[],isGenerator:=false,isCoroutine:=false }
abbrev CX0:CXT:=λ _ _ _ _ _ _=>False
abbrev E0:XK:=λ _ _ _=>False
theorem qN{X:Cx}:fI CX0 X E0:=λ _ _ _ _ _ _ _ h=>h.elim
structure Fun(K:C6)(x qual:Str)(st:Stmt)(f:Mi)(fd:FuncData):Prop where
 ex:∃(oc:G1)(od:Ml Mi)(kV doc pm:G1)(an:Ml Mi)(cdv ct:G1)(osl:Mm (Ml G1)),
  fd=E6 x qual (defArgs st) (defBody st) (defScope st) .none kV doc pm an cdv ct/\K.lookup f=some %[oc,od,.func fd|osl]/\PySem.W.codeIn K cdv qual=true
 kp:PySem.W.keepIn K (.ref f)=true
section
variable{P:F8}{w:G0}{K:C6}{mg:Str->Ml G1}{base:Heap}
theorem Fun.ok{x qual:Str}{st:Stmt}{f:Mi}{fd:F9}{N ps:Mo Str}{k:Nat}{sp:Sp}(F:Fun K x qual st f fd)(S:FnScope N ps (defScope st))(len:∀vs H Q E,sp vs H Q E->vs.length=ps.length)
  (hbody:∀(cdv:G1)(A:Around)(outer:Mo Env)(s:F7)(H:Hp)(vs:Mo V)(Q:VK)(E:XK),Room k (A.deeper (envOfC qual (defScope st) s.heap.objs.size f cdv))->sp vs H Q E ->
   ∃t,PSs (ft CX0 P w K mg base N qual (defScope st) f cdv A outer s H E).nox (defBody st) t/\t { nx:=λ _ H'=>Q .non H',rt:=Q } (dE N vs) H):FnOk P w K mg base CX0 (k+1) f fd ps sp:=by
 obtain⟨oc,od,kV,doc,pm,an,cdv,ct,osl,rfl,lk,hcd⟩:=F.ex;refine zb lk hcd S len λ A outer s H vs Q E hr hsp=>?_;obtain⟨t,h,q⟩:=hbody cdv A outer s H vs Q E hr hsp;exact%[t,h.nox|q]
theorem Fun.binds{x qual:Str}{st:Stmt}{f:Mi}{fd:F9}{ps:Mo Str}(F:Fun K x qual st f fd)
  (h:∀(kV doc pm:G1)(an:Ml Mi)(cdv ct:G1)(us:Mo G1),us.length=ps.length->bindArgs (E6 x qual (defArgs st) (defBody st) (defScope st) .none kV doc pm an cdv ct) %[us|[]]=pure (ps.zip us)):Binds K fd ps []:=by
 obtain⟨oc,od,kV,doc,pm,an,cdv,ct,osl,rfl,lk,hcd⟩:=F.ex;exact .all (h kV doc pm an cdv ct)
theorem oz{x qual:Str}{st:Stmt}{f:Mi}{oc:G1}{od an:Ml Mi}{osl:Mm (Ml G1)}{kV doc pm cdv ct:G1}(l:K.lookup f=some %[oc,od,.func (E6 x qual (defArgs st) (defBody st) (defScope st) .none kV doc pm an cdv ct)|osl])
  (c:PySem.W.codeIn K cdv qual=true) (k:PySem.W.keepIn K (.ref f)=true):Fun K x qual st f (E6 x qual (defArgs st) (defBody st) (defScope st) .none kV doc pm an cdv ct):=%[%[oc,od,kV,doc,pm,an,cdv,ct,osl,O,l|c]|k]
end
section
variable{X:Cx}
theorem pv(i:Nat){x:Str}{pos:Pos}(hN:X.N[i]?=some x:=by rfl)(hv:Vis X.env.scope x:=by first | exact Or.inl rfl | exact Or.inr (Or.inl rfl) | exact Or.inr (Or.inr rfl))(hd:(x == ("__debug__" : Str))=false:=by decide)
  (hcd:(x == ("__classdict__" : Str))=false:=by decide):PE X (.Name x pos) (tVar i):=zv hN hv hd hcd
end
theorem aZ{A B:Prop}(h:B):if false=true then A else B:=by rw[Mu B2];exact h
theorem bM{A B:Prop}(h:A):if true=true then A else B:=by rw[Mw rfl];exact h
theorem cX{c A B:Prop}[Decidable c](h1:c->A)(h2:¬ c->B):if c then A else B:=by
 by_cases h:c
 ·rw[Mw h];exact h1 h
 ·rw[Mu h];exact h2 h
def Same(H H':Hp):Prop:=∀b o,H b=some o->H' b=some o
theorem Same.refl(H:Hp):Same H H:=λ _ _ h=>h
theorem Same.trans{H H1 H2:Hp}(a:Same H H1)(b:Same H1 H2):Same H H2:=λ c o h=>b c o (a c o h)
theorem Same.free{H H':Hp}(e:Same H H'){l:Mi}(h:H' l=Option.none):H l=Option.none:=by
 cases q:H l with
 | none=>rfl
 | some o=>
  rw[e l o q]at h;cases h
theorem Same.seq{K:C6}{H H':Hp}{a:Mi}{xs:Mo V}(e:Same H H')(h:SqL K H a xs):SqL K H' a xs:=by
 rcases h with(h | ⟨o,h⟩) | h
 ·exact .inl (.inl (e _ _ h))
 ·exact .inl (.inr %[o|e _ _ h])
 ·exact .inr h
def bv(env:Env):Mo (Str×NameKind)->Mo (Str×Mi)->Mo (Str×Mi)
 | [],acc=>acc
 | (n,k) :: r,acc=>bv env r (if (k == NameKind.free)=true then(n,(env.cells.lookup n).getD 0) :: acc else acc)
theorem dY(env:Env):∀(names:Mo (Str×NameKind))(acc:Mo (Str×Mi))(x:Str)(c:Mi),(∀y∈names,y.2=.free->∃c,env.cells.lookup y.1=some c) ->
  (∀x c,acc.lookup x=some c->env.cells.lookup x=some c)->(bv env names acc).lookup x=some c->env.cells.lookup x=some c
 | [],acc,x,c,_,h,e=>h x c e
 | (n,k) :: r,acc,x,c,hf,h,e=>by
  refine dY env r _ x c (λ y hy=>hf y (B5 _ hy)) (λ x c e'=>?_) e
  by_cases hk:(k == NameKind.free)=true
  ·rw[Mw hk]at e';obtain⟨c0,hc0⟩:=hf (n,k) B8 (by simpa using hk);have hc0':env.cells.lookup n=some c0:=hc0;rw[K3]at e';cases hx:x == n with
   | true=>
    rw[hx]at e';have:x=n:=by simpa using hx
    subst this;rw[hc0']at e' ⊢;simpa using e'
   | false=>rw[hx]at e';exact h x c e'
  ·rw[Mu hk]at e';exact h x c e'
theorem ja(env:Env):∀(names:Mo (Str×NameKind))(acc:Mo (Str×Mi))(x:Str),(∃c,acc.lookup x=some c)->∃c,(bv env names acc).lookup x=some c
 | [],acc,x,h=>h
 | (n,k) :: r,acc,x,h=>by
  refine ja env r _ x ?_
  by_cases hk:(k == NameKind.free)=true
  ·rw[Mw hk,K3];cases hx:x == n with
   | true=>exact%[_|O]
   | false=>exact h
  ·rw[Mu hk];exact h
theorem gS(env:Env):∀(names:Mo (Str×NameKind))(acc:Mo (Str×Mi))(x:Str),(x,NameKind.free)∈names->∃c,(bv env names acc).lookup x=some c
 | [],acc,x,h=>by simp at h
 | (n,k) :: r,acc,x,h=>by
  rcases G7.mp h with e | e
  ·have e1:x=n:=NE Prod.fst e;have e2:NameKind.free=k:=NE Prod.snd e;subst e1;subst e2;refine ja env r _ x ?_;rw[Mw (by simp),K3];simp
  ·exact gS env r _ x e
theorem cN{env:Env}{scope:Scope}(hf:∀y∈scope.names,y.2=.free->∃c,env.cells.lookup y.1=some c):closureFor scope env=pure (bv env scope.names []):=by
 have key:∀(names:Mo (Str×NameKind))(acc:Mo (Str×Mi)),(∀y∈names,y.2=.free->∃c,env.cells.lookup y.1=some c) ->
   (forIn names acc (λ (x:Str×NameKind)(r:Mo (Str×Mi))=>(if (x.2 == NameKind.free)=true then do
    let a<-cellOf env x.1
    pure (ForInStep.yield ((x.1,a) :: r))else pure (ForInStep.yield r)) ):Sem (Mo (Str×Mi)))=pure (bv env names acc):=by
  intro names
  induction names with
  | nil=>intro acc _;rfl
  | cons y r ih=>
   intro acc h;obtain⟨n,k⟩:=y;have ih':=λ acc=>ih acc λ z hz=>h z (B5 _ hz);rw[List.forIn_cons]
   by_cases hk:(k == NameKind.free)=true
   ·obtain⟨c,hc⟩:=h (n,k) B8 (by simpa using hk);have hc':env.cells.lookup n=some c:=hc;have e1:cellOf env n=pure c:=by unfold cellOf;rw[hc']
    have e2:bv env ((n,k) :: r) acc=bv env r ((n,c) :: acc):=by show bv env r _=_;rw[Mw hk,hc'];rfl
    rw[Mw hk,e2,<- ih'];show((cellOf env n >>= λ a=>pure (ForInStep.yield ((n,a) :: acc))) >>= _)=_;rw[e1]
    rfl
   ·have e2:bv env ((n,k) :: r) acc=bv env r acc:=by show bv env r _=_;rw[Mu hk]
    rw[Mu hk,e2,<- ih']
    rfl
 have:=key scope.names [] hf;simp only[closureFor];exact(NE (λ m=>m >>= λ r=>(pure r:Sem _)) this).trans rfl
section
variable{M:Model}{A:Around}{E:G1->F7->Prop}{s:F7}
theorem xC{scope:Scope}{globals:Mi}{closure:Mo (Str×Mi)}{qual:Str}{func:Ml Mi}{code:G1}{env:Env}{builtins:Mi}{Q:Env->F7->Prop}
  (hQ:Q (newEnv scope s.heap.objs.size globals (cellsFrom (s.heap.objs.size+1) scope.names closure) qual func code (some env) builtins) { s with heap:=pushCells (s.heap.push { cls:=.type "dict",data:=.dict #[] }) scope.names }) :
  wpAny M A (newFunctionEnv scope globals closure [] qual func code (some env) builtins) Q E s:=by
 simp only[newFunctionEnv,Option.isSome_some,Nj];refine A0 (wpAny_alloc ?_);refine A0 (wpAny_layCells _ (λ name kind cells=>by cases hkc:kind == NameKind.cell <;> simp[hkc]) _ _ _ _ ?_);rw[show({ s with heap:=s.heap.push { cls:=.type "dict",data:=.dict #[] } }:F7).heap.objs.size=s.heap.objs.size+1 from M6 ..];exact A0 (A2 (A2 hQ))
end
theorem kD:∀(names:Mo (Str×NameKind))(n:Nat)(acc:Mo (Str×Mi))(x:Str)(c:Mi),(cellsFrom n names acc).lookup x=some c->acc.lookup x=some c\/n<=c
 | [],n,acc,x,c,e=>.inl e
 | (y,k) :: r,n,acc,x,c,e=>by
  unfold cellsFrom at e
  split at e
  ·rcases kD r _ _ x c e with z | z
   ·rw[K3]at z;cases hx:x == y with
    | true=>rw[hx]at z;cases z;exact .inr (B3 _)
    | false=>rw[hx]at z;exact .inl z
   ·exact .inr ⋯
  ·exact kD r _ _ x c e
theorem oA:∀(names:Mo (Str×NameKind))(n:Nat)(acc:Mo (Str×Mi)),(∀x c,acc.lookup x=some c->c < n)->(∀x y c,acc.lookup x=some c->acc.lookup y=some c->x=y) ->
  ∀x y c,(cellsFrom n names acc).lookup x=some c->(cellsFrom n names acc).lookup y=some c->x=y
 | [],_,_,_,h=>h
 | (z,k) :: r,n,acc,hl,h=>by
  unfold cellsFrom
  split
  ·refine oA r _ _ (λ x c e=>?_) (λ x y c e1 e2=>?_)
   ·rw[K3]at e;cases hx:x == z with
    | true=>rw[hx]at e;cases e;exact F1 _
    | false=>rw[hx]at e;exact MP (hl x c e)
   ·rw[K3]at e1 e2;cases hx:x == z with
    | true=>
     rw[hx]at e1;cases e1;cases hy:y == z with
     | true=>rw[beq_iff_eq.mp hx,beq_iff_eq.mp hy]
     | false=>rw[hy]at e2;exact absurd (hl y _ e2) (E1 _)
    | false=>
     rw[hx]at e1;cases hy:y == z with
     | true=>rw[hy]at e2;cases e2;exact absurd (hl x _ e1) (E1 _)
     | false=>rw[hy]at e2;exact h x y c e1 e2
  ·exact oA r n acc hl h
theorem lw:∀(names:Mo (Str×NameKind))(h:Heap)(acc:Mo (Str×Mi)),(∀x c,acc.lookup x=some c->∃v,h.IsCell c v)->∀x c,(cellsFrom h.objs.size names acc).lookup x=some c->∃v,(pushCells h names).IsCell c v
 | [],_,_,ha=>ha
 | (z,k) :: r,h,acc,ha=>by
  unfold cellsFrom pushCells
  split
  ·have:=lw r (h.push { cls:=.type "cell",data:=.cell none }) ((z,h.objs.size) :: acc) λ x c e=>by
    rw[K3]at e;cases hx:x == z with
    | true=>rw[hx]at e;cases e;exact%[none,_,A8 _ rfl|O]
    | false=>
     rw[hx]at e;obtain⟨v,z⟩:=ha x c e;exact%[v|z.keeps λ b o e=>A7 _ e]
   rw[M6]at this;exact this
  ·exact lw r h acc ha
theorem lA:∀(names:Mo (Str×NameKind))(n:Nat)(acc:Mo (Str×Mi))(x:Str),(x,NameKind.cell)∉names->(cellsFrom n names acc).lookup x=acc.lookup x
 | [],_,_,_,_=>rfl
 | (z,k) :: r,n,acc,x,h=>by
  unfold cellsFrom
  split
  ·rename_i hk
   rw[lA r _ _ x λ q=>h (B5 _ q),K3];cases hx:x == z with
   | true=>
    have e1:x=z:=C5.mp hx;have e2:k=.cell:=C5.mp hk;exact absurd (by rw[e1,e2];exact B8) h
   | false=>rfl
  ·exact lA r n acc x λ q=>h (B5 _ q)
theorem oB:∀(names:Mo (Str×NameKind))(n:Nat)(acc:Mo (Str×Mi))(x:Str),((x,NameKind.cell)∈names\/∃c,acc.lookup x=some c)->∃c,(cellsFrom n names acc).lookup x=some c
 | [],_,_,x,h=>h.elim (λ z=>by simp at z) id
 | (z,k) :: r,n,acc,x,h=>by
  unfold cellsFrom
  split
  ·rename_i hk
   refine oB r _ _ x ?_;cases hx:x == z with
   | true=>exact .inr %[n|by rw[K3,hx]]
   | false=>
    rcases h with h | ⟨c,h⟩
    ·rcases G7.mp h with q | q
     ·have:x=z:=NE Prod.fst q;rw[this]at hx;simp at hx
     ·exact .inl q
    ·exact .inr %[c|by rw[K3,hx];exact h]
  ·rename_i hk
   refine oB r _ _ x ?_;rcases h with h | h
   ·rcases G7.mp h with q | q
    ·have:k=.cell:=(NE Prod.snd q).symm;rw[this]at hk;exact absurd rfl hk
    ·exact .inl q
   ·exact .inr h
theorem kF(env:Env):∀(names:Mo (Str×NameKind))(acc:Mo (Str×Mi))(x:Str)(c:Mi),(bv env names acc).lookup x=some c->acc.lookup x=some c\/(x,NameKind.free)∈names
 | [],acc,x,c,e=>.inl e
 | (n,k) :: r,acc,x,c,e=>by
  rcases kF env r _ x c e with z | z
  ·by_cases hk:(k == NameKind.free)=true
   ·rw[Mw hk,K3]at z;cases hx:x == n with
    | true=>exact .inr (by rw[beq_iff_eq.mp hx,show k=.free from beq_iff_eq.mp hk];exact B8)
    | false=>rw[hx]at z;exact .inl z
   ·rw[Mu hk]at z;exact .inl z
  ·exact .inr (B5 _ z)
theorem lB{env:Env}{scope:Scope}{x:Str}:((relabel scope env).names.lookup x=some .cell\/(relabel scope env).names.lookup x=some .free)->(x,NameKind.free)∈scope.names\/(x,NameKind.cell)∈scope.names:=by
  have key:∀names:Mo (Str×NameKind),∀k,(names.map λ(n,k)=>if (k == NameKind.free && env.scope.kind == .function && env.kindOf n == some .cell)then(n,NameKind.cell)else(n,k)).lookup x=some k ->
      (k=.cell\/k=.free)->(x,NameKind.free)∈names\/(x,NameKind.cell)∈names:=by
    intro names
    induction names with
    | nil=>intro k h _;simp at h
    | cons y r ih=>
      obtain⟨n,k'⟩:=y;intro k h hk;have up:((x,NameKind.free)∈r\/(x,NameKind.cell)∈r)->((x,NameKind.free)∈(n,k') :: r\/(x,NameKind.cell)∈(n,k') :: r):=λ z=>z.imp (B5 _) (B5 _);rw[G9]at h
      by_cases hb:(k' == NameKind.free && env.scope.kind == .function && env.kindOf n == some .cell)=true
      . have hb':k'=.free:=by simp at hb;exact hb.1.1
        dsimp only at h;rw[Mw hb,K3]at h;cases hx:x == n with
        | true=>have:x=n:=(by simpa using hx);subst this;subst hb';exact .inl B8
        | false=>rw[hx]at h;exact up (ih k h hk)
      . dsimp only at h
        rw[Mu hb,K3]at h;cases hx:x == n with
        | true=>
          rw[hx]at h;have:x=n:=by simpa using hx
          subst this;have e:k'=k:=by simpa using h
          rcases hk with q | q
          . rw[e,q];exact .inr B8
          . rw[e,q];exact .inl B8
        | false=>rw[hx]at h;exact up (ih k h hk)
  rintro(h | h)
  . exact key _ _ h (.inl rfl)
  . exact key _ _ h (.inr rfl)
def aF(X:Cx)(Mq:Mo (Mi×Obj))(s2:F7)(H2:Hp)(scope:Scope)(C:Mi)(N':Mo Str)(fp:Mo Mi):Cx where
 prog:=X.prog
 w:=X.w
 K:=X.K
 mg:=X.mg
 base:=X.base
 A:=X.A
 N:=N'
 s₀:=s2
 H₀:=H2
 env:=compEnvC scope (cellsFrom (C+1) scope.names (bv X.env scope.names [])) C X.env
 outer:=X.stack
 stack:=X.stack
 ex:=fp
 fn:=λ x=>scope.names.lookup x == some .cell
 calm:=X.calm
 pn:=X.pn ++ Mq
 xe:=λ _ _=>False
def aV(σ:St)(cap:Mo Nat)(k:Nat):St:=List.replicate k none ++ cap.map λ j=>(σ[j]?).join
def leS(σ σ':St):Prop:=σ'.length=σ.length/\∀ (i:Nat) v,σ[i]?=some (some v)->σ'[i]?=some (some v)
theorem leS.set{σ:St}{i:Nat}{v:V}(h:σ[i]?=some none):leS σ (σ.set i (some v)):=by
 refine%[by simp|λ j w e=>?_]
 by_cases hj:j=i
 ·subst hj;rw[h]at e;cases e
 ·rw[List.getElem?_set_ne (Ne.symm hj)];exact e
structure CompOk(X:Cx)(scope:Scope)(own:Mo Str)(cs:Mo Str)(cap:Mo Nat):Prop where
 kind:scope.kind=.function
 names:∀y∈scope.names,y.2=.local->scope.names.lookup y.1=some .local
 free:∀y∈scope.names,y.2=.free->X.env.kindOf y.1=some .cell\/X.env.kindOf y.1=some .free
 caps:∀ (i:Nat) y,cs[i]?=some y->∃j,cap[i]?=some j/\X.N[j]?=some y/\(y,NameKind.free)∈scope.names
 len:cs.length=cap.length
 free2:∀y,(y,NameKind.free)∈scope.names->scope.names.lookup y=some .local->False
 free3:∀y,(y,NameKind.free)∈scope.names->scope.names.lookup y=some .cell->False
 free4:∀y,(y,NameKind.free)∈scope.names->(y,NameKind.cell)∉scope.names
def gc(X:Cx)(ifs:Mo Expr)(tt:TT):Prop :=
 ∀(Mq:Mo (Mi×Obj))(s:F7)(σ:St)(H:Hp)(Q:Bool->Hp->Prop),Inv X Mq σ H s->tt σ H Q ->
  wpAny (model X.prog X.w) X.A (forIn ifs true λ c r=>if r=true then do let ok<-isTrue c X.env (eval c X.env);pure (ForInStep.yield ok)else pure (ForInStep.yield r)) (TP X Mq σ Q) X.xe s
def El:TT:=λ _ H Q=>Q true H
theorem aJ{X:Cx}:gc X [] El:=λ _ _ _ H _ I h=>wpAny_tests_nil %[H,I|h]
theorem jb{X:Cx}{c:Expr}{tt:TT}(h:PT X c tt):gc X [c] tt:=λ Mq s σ H Q I q=>wpAny_tests_one (h Mq s σ H Q I q)
def eE(σ:St)(cap:Mo Nat)(k:Nat)(J:It)(g:TG)(tt:TT)(te:TE)(Q:Mo V->Hp->Prop)(W:Nat->Nat->Mo V->Hp->Prop):Prop :=
 ∀i m ys H,W i m ys H->(J.stop i H/\ys.length<=sizeLine/\Q ys H) \/
  (J.go i H/\ys.length < sizeLine/\∀x H',J.yld i H x H'->g x (aV σ cap k) H' λ σ2 H2=>leS (aV σ cap k) σ2/\tt σ2 H2 λ ok H3=>
   if ok=true then te σ2 H3 (λ v H4=>∃m',m' < m/\W (i+1) m' (ys ++ [v]) H4)else∃m',m' < m/\W (i+1) m' ys H3)
theorem HOk.but{P:F8}{w:G0}{H:Hp}{h h':Heap}{C:Mi}(x:HOk P w H h)(n:H C=none)(k:Heap.SameBut C h h'):HOk P w H h':=λ b ob e=>by
 refine(x b ob e).stay (λ c w' hc q=>(k.2 c ?_).trans q) (λ _ q=>q) λ _ _ q=>q;rintro rfl;rcases hc with rfl | hc
 ·rw[n]at e;cases e
 ·rw[n]at hc;cases hc
theorem HOk.add{P:F8}{w:G0}{H:Hp}{h:Heap}{a:Mi}{o:HO}(x:HOk P w H h)(n:H a=none)(new:ObjOk P w (upd H a o) h a o):HOk P w (upd H a o) h:=λ b u e=>by
 by_cases hb:b=a
 ·subst hb;rw[ah]at e;cases e;exact new
 ·rw[aj hb]at e;exact(x b u e).stay (λ c v _ q=>q) (λ c q=>by rw[aj (ak q n)];exact q) λ c xs q=>by rw[aj (ak q n)];exact q
section
variable{X:Cx}{Mq:Mo (Mi×Obj)}{σ:St}{H2:Hp}{s2:F7}{scope:Scope}{own cs:Mo Str}{cap:Mo Nat}{fp:Mo Mi}
theorem rX{h1:Heap}{C:Mi}{tk:Nat}(I:Inv X Mq σ H2 s2)(ok:CompOk X scope own cs cap)(hf:∀b∈fp,FpOk X Mq H2 b)(hfl:∀b∈fp,b < s2.heap.objs.size)
  (hC:s2.heap.objs.size<=C) (hns:h1.Ns C (λ _=>none)) (hcl:∀x c,(cellsFrom (C+1) scope.names (bv X.env scope.names [])).lookup x=some c->∃v,h1.IsCell c v) (old:∀b o,s2.heap.get? b=some o->h1.get? b=some o) :
  Inv (aF X Mq s2 H2 scope C (own ++ cs) fp) [] (aV σ cap own.length) H2 { s2 with heap:=h1,toks:=tk }:=by
 have hfr:∀y∈scope.names,y.2=.free->∃c,X.env.cells.lookup y.1=some c:=λ y hy e=>I.ok.has y.1 (ok.free y hy e);have sub:∀x c,(bv X.env scope.names []).lookup x=some c->X.env.cells.lookup x=some c:=λ x c e=>dY X.env scope.names [] x c hfr (λ _ _ z=>by simp at z) e;have clt:∀x c,(bv X.env scope.names []).lookup x=some c->c < s2.heap.objs.size:=λ x c e=>by obtain⟨v,o,ho,_⟩:=I.cell x c (sub x c e);exact A9 ho
 refine⟨%[I.ok.mod,ok.kind,I.ok.glob,I.ok.blt,hC,λ y z c h1 h2=>oA _ _ _ (λ x c e=>MP (C3 (clt x c e) hC)) (λ x y c h1 h2=>I.ok.inj x y c (sub x c h1) (sub y c h2)) y z c h1 h2,λ y hy=>?_,λ y c z e=>?_,I.ok.hd,I.ok.frames,.inl rfl,λ b hb=>?_,I.bs,C7 I.ok.bsz I.sz,λ b o e hb=>?_,λ b hb z=>?_,I.stack|I.stkFree],
  rfl,I.bare,Un.kept old,%[_,hns|λ i y v e1 e2 e3=>?_],hcl,I.hok.fresh hC,λ y c e=>?_,λ p hp=>?_,I.hok.kept old,?_⟩
 ·refine oB _ _ _ y ?_;rcases lB hy with hm | hm
  ·exact .inr (gS X.env scope.names [] y hm)
  ·exact .inl hm
 ·have z:(scope.names.lookup y == some .cell)=true:=z;rcases kD _ _ _ _ _ e with q | q
  ·rcases kF X.env scope.names [] y c q with q | q
   ·simp at q
   ·exact(ok.free3 y q (C5.mp z)).elim
  ·show s2.heap.objs.size<=c;omega
 ·refine%[C0 (C3 (hfl b hb) hC)|λ x c e=>?_];rcases kD _ _ _ _ _ e with q | q
  ·exact(hf b hb).2.2.2.2.1 x c (sub x c q)
  ·exact Ne.symm (C0 (C3 (hfl b hb) (C7 hC (Nat.le_of_succ_le q))))
 ·rcases(hf b hb).2.2.2.1 with z | z
  ·exact I.ok.noex b o e z
  ·exact absurd (C3 (A9 (I.ok.bs b o e).1) z) (E1 _)
 ·rcases G7.mp (I.stkSub b z)with q | q
  ·exact(hf b hb).2.1 q
  ·exact(hf b hb).2.2.1 q
 ·have hi:own.length<=i:=by
   refine Nat.le_of_not_lt λ q=>?_;unfold aV at e2;rw[List.getElem?_append_left (by simpa using q),List.getElem?_replicate]at e2
   split at e2 <;> cases e2
  have e1':cs[i - own.length]?=some y:=by have e1:(own ++ cs)[i]?=some y:=e1;rwa [List.getElem?_append_right hi]at e1
  obtain⟨j,hj,hN,hm⟩:=ok.caps _ y e1';have hk:=ok.free _ hm rfl;have e2':σ[j]?=some (some v):=by
   unfold aV at e2;rw[List.getElem?_append_right (by simpa using hi),K4,G8,hj]at e2;have e2:(σ[j]?).join=some v:=by simpa using e2
   cases q:σ[j]? with
   | none=>rw[q]at e2;cases e2
   | some w=>rw[q]at e2;have:w=some v:=e2;rw[this]
  obtain⟨m,hn,hl⟩:=I.loc;obtain⟨u,ru,l⟩:=hl j y v hN e2' (by rcases hk with q | q;exact .inr (.inl q);exact .inr (.inr q));refine%[u,ru|.inr ?_];obtain⟨c,hc0⟩:=gS X.env scope.names [] y hm;have hc':=sub y c hc0;have hc:(cellsFrom (C+1) scope.names (bv X.env scope.names [])).lookup y=some c:=by rw[lA _ _ _ y (ok.free4 y hm)];exact hc0
  have cellu:h1.IsCell c (some u):=by
   rcases l with⟨k,_⟩ | ⟨k,c',e,o,ho,hd⟩
   ·rcases hk with q | q <;> (have z:X.env.kindOf y=_:=q;rw[k]at z;cases z)
   ·rw[hc']at e;cases e;exact%[o,old _ _ ho|hd]
  refine%[?_,c,hc|cellu];rcases e3 with z | z | z
  ·exfalso;have key:∀names:Mo (Str×NameKind),True:=λ _=>trivial;have z:(relabel scope X.env).names.lookup y=some .local:=z;have zz:scope.names.lookup y=some .local:=by
    unfold relabel at z;dsimp only at z;revert z;generalize scope.names=names
    induction names with
    | nil=>intro z;simp at z
    | cons q r ih=>
     obtain⟨n,k⟩:=q;intro z;rw[G9]at z
     by_cases hb:(k == NameKind.free && X.env.scope.kind == .function && X.env.kindOf n == some .cell)=true
     ·dsimp only at z;rw[Mw hb,K3]at z;rw[K3];cases hx:y == n with
      | true=>rw[hx]at z;cases z
      | false=>rw[hx]at z;exact ih z
     ·dsimp only at z;rw[Mu hb,K3]at z;rw[K3];cases hx:y == n with
      | true=>rw[hx]at z;exact z
      | false=>rw[hx]at z;exact ih z
   have:=ok.free2 y hm zz;exact this
  ·exact .inl z
  ·exact .inr z
 ·rcases kD _ _ _ _ _ e with q | q
  ·exact I.freeC y c (sub y c q)
  ·exact I.hok.fresh ⋯
 ·have hp':p∈X.pn ++ Mq:=by have:p∈(X.pn ++ Mq) ++ []:=hp;simpa using this
  obtain⟨e,n,ne,nf,d⟩:=I.pin p hp';refine%[old _ _ e,n,C0 (C3 (A9 e) hC),λ z=>?_|d];rcases G7.mp (I.stkSub p.1 z)with q | q
  ·exact ne q
  ·exact nf q
 ·show(aV σ cap own.length).length=(own ++ cs).length;unfold aV;rw[J5,K4,B4,J5,ok.len]
end
structure TurnY(Y:Cx)(tg:Expr)(J:It)(fp:Mo Mi)(it:Mi)(tn:Nat->Heap->Prop)(qh:Hp->Prop):Prop where
 obj:∀i h,tn i h->∀b∈fp,∃o,h.get? b=some o/\∀v,o.data≠.cell v
 keep:∀i h h',tn i h->(∀b∈fp,∀o,h.get? b=some o->h'.get? b=some o)->tn i h'
 item:∀(i:Nat)(Mq:Mo (Mi×Obj))(s:F7)(σ:St)(H:Hp)(E:G1->F7->Prop),qh H->Inv Y Mq σ H s->(∀b∈fp,FpOk Y Mq H b)->tn i s.heap->J.go i H ->
  wpAny (model Y.prog Y.w) Y.A (pyNext (.ref it)) (λ r s1=>∃u,r=some u /\
   wpAny (model Y.prog Y.w) Y.A (letOwnedTupleGo tg (.ref it) u) (λ _ s2=>∃x H',Inv Y Mq σ H' s2/\RelV x u/\J.yld i H x H'/\tn (i+1) s2.heap/\∀b∈fp,H' b=none) E s1) E s
 done:∀(i:Nat)(Mq:Mo (Mi×Obj))(s:F7)(σ:St)(H:Hp)(E:G1->F7->Prop),qh H->Inv Y Mq σ H s->(∀b∈fp,FpOk Y Mq H b)->tn i s.heap->J.stop i H ->
  wpAny (model Y.prog Y.w) Y.A (pyNext (.ref it)) (λ r s1=>r=none/\Inv Y Mq σ H s1) E s
 self:∀(s:F7)(Q E:G1->F7->Prop),tn 0 s.heap->Q (.ref it) s->wpAny (model Y.prog Y.w) Y.A (pyIter (.ref it)) Q E s
theorem Turn.y{Y:Cx}{tg:Expr}{J:It}{fp:Mo Mi}{it:Mi}{tn:Nat->Heap->Prop}(T:Turn Y.prog Y.w Y.K tg J fp it tn)(hc:Y.calm=true):TurnY Y tg J fp it tn (λ _=>True) :=
 %[T.obj,T.keep,λ i Mq s σ H E _=>T.item Y rfl rfl rfl hc i Mq s σ H E,λ i Mq s σ H E _=>T.done Y rfl rfl rfl hc i Mq s σ H E|T.self _ 0]
theorem Inv.sub{Y:Cx}{P Q:Mo (Mi×Obj)}{σ:St}{H:Hp}{s:F7}(I:Inv Y P σ H s)(h:∀p∈Q,p∈P):Inv Y Q σ H s:=I.pins_of λ p hp=>I.pin p (A5 _ (h p hp))
theorem FpOk.sub{Y:Cx}{P Q:Mo (Mi×Obj)}{H H':Hp}{b:Mi}(f:FpOk Y P H b)(n:H' b=none)(h:∀p∈Q,p∈P\/p.1≠b):FpOk Y Q H' b :=
 %[n,f.2.1,f.2.2.1,f.2.2.2.1,f.2.2.2.2.1|λ p hp=>(C4.mp hp).elim (λ z=>f.2.2.2.2.2 p (B7 _ z)) λ z=>(h p z).elim (λ z=>f.2.2.2.2.2 p (A5 _ z)) id]
section
variable{ρ:Type}{Y:Cx}{P5:Mo (Mi×Obj)}{σ:St}{H0:Hp}{s0:F7}{D it:Mi}{o0:Obj}{fp:Mo Mi}{tn:Nat->Heap->Prop}{J:It}{g:TG}{tt:TT}{qh:Hp->Prop}{node tg:Expr}{ifs:Mo Expr}{lvl:Nat}{ipos:Pos}{body:Sem Unit}
 {Acc:Mo ρ->Obj->Prop} {W:Nat->Nat->Mo ρ->Hp->Prop} {B:Nat->Nat->Mo ρ->St->Hp->Prop} {Fin:Mo ρ->Hp->Prop} {Z:Mo ρ->Prop} {R:Result->F7->Prop} {ys0:Mo ρ}
def uS(node:Expr)(lvl:Nat)(ipos:Pos)(tg:Expr)(ifs:Mo Expr)(it acc:G1)(env:Env)(body:Sem Unit):Sem PySem.Fin:=do
 standAt ipos
 match<-pyNext it with
 | none=>pure (.done .next)
 | some v=>
  letOwnedTupleGo tg it v
  assign tg env v
  let mut ok:=true
  for c in ifs do
   if ok then ok<-isTrue c env (eval c env)
  if ok then body
  again (.compLoop node lvl it acc env)
def Em(σ:St)(J:It)(g:TG)(tt:TT)(qh:Hp->Prop)(Z:Mo ρ->Prop)(B:Nat->Nat->Mo ρ->St->Hp->Prop)(Fin:Mo ρ->Hp->Prop)(W:Nat->Nat->Mo ρ->Hp->Prop):Prop :=
 ∀i m ys H,W i m ys H->qh H/\((J.stop i H/\Fin ys H)\/(J.go i H/\Z ys/\∀x H',J.yld i H x H'->g x σ H' λ σ3 H2=>leS σ σ3/\tt σ3 H2 λ ok H3=>if ok=true then B i m ys σ3 H3 else∃m',m' < m/\W (i+1) m' ys H3))
def qO(Y:Cx)(P5:Mo (Mi×Obj))(σ:St)(D:Mi)(body:Sem Unit)(Acc:Mo ρ->Obj->Prop)(Z:Mo ρ->Prop)(B:Nat->Nat->Mo ρ->St->Hp->Prop)(W:Nat->Nat->Mo ρ->Hp->Prop):Prop :=
 ∀i m ys o σ3 H3 s3 Q5,Z ys->B i m ys σ3 H3->leS σ σ3->Acc ys o->FpOk Y (P5 ++ Q5) H3 D->Inv Y (P5 ++ Q5) σ3 H3 s3->s3.heap.get? D=some o ->
  wpAny (model Y.prog Y.w) Y.A body (λ _ s4=>∃H4 ys' o',Inv Y (P5 ++ Q5) σ3 H4 s4/\s4.heap.get? D=some o'/\Acc ys' o'/\H4 D=none/\∃m',m' < m/\W (i+1) m' ys' H4) (λ _ _=>False) s3
theorem fe(hx:Y.xe=λ _ _=>False)(T:TurnY Y tg J fp it tn qh)(hg:PG Y tg g)(hi:gc Y ifs tt)
  (hturn:(model Y.prog Y.w).den (.compLoop node lvl (.ref it) (.ref D) Y.env)=(uS node lvl ipos tg ifs (.ref it) (.ref D) Y.env body).onRaise (λ x=>do noteFrame x Y.env;theTreesLotGoes x)) (hund:Y.A.under (.compLoop node lvl (.ref it) (.ref D) Y.env)=Y.A) (nc:∀ys o,Acc ys o->∀v,o.data≠.cell v)
  (turn:Em σ J g tt qh Z B Fin W) (hb:qO Y P5 σ D body Acc Z B W)
  (I0:Inv Y P5 σ H0 s0) (hD:FpOk Y P5 H0 D) (hf:∀b∈fp,FpOk Y P5 H0 b) (df:∀b∈fp,D≠b) (st:tn 0 s0.heap) (e0:s0.heap.get? D=some o0) (a0:Acc ys0 o0) (w0:∃m,W 0 m ys0 H0)
  (hR:∀s' H' ys o,Inv Y P5 σ H' s'->s'.heap.get? D=some o->Acc ys o->H' D=none->Fin ys H'->R (.ok .next) s') :
  codeAny (model Y.prog Y.w) Y.A (.compLoop node lvl (.ref it) (.ref D) Y.env) R s0:=by
 obtain⟨m0,w0⟩:=w0;refine codeAny_loop rfl (λ n s'=>∃i H' ys o,Inv Y P5 σ H' s'/\tn i s'.heap/\(∀b∈fp,H' b=none)/\s'.heap.get? D=some o/\Acc ys o/\H' D=none/\W i n ys H') ?_ m0 %[0,H0,ys0,o0,I0,st,λ b hb=>(hf b hb).1,e0,a0,hD.1|w0];rintro n s3 ⟨i,H3,ys,o,I3,st3,fr3,pl3,ac,hD3,w3⟩;rw[hturn,hund];refine wpAny_noted ?_;unfold uS;refine A0 (Nb (A0 ?_));have one:∀{p:Mi×Obj},p∈[(D,o)]->p=(D,o):=λ hp=>by simpa using hp
 have I3':Inv Y (P5 ++ [(D,o)]) σ H3 s3:=I3.pins_of λ p hp=>(C4.mp hp).elim (λ z=>I3.pin p (A5 _ z)) λ z=>by rw[one z];exact%[pl3,hD3,hD.2.1,hD.2.2.1|nc _ _ ac]
 have stat:∀{H':Hp},(∀b∈fp,H' b=none)->∀b∈fp,FpOk Y (P5 ++ [(D,o)]) H' b:=λ {H'} hn b hb=>(hf b hb).sub (hn b hb) λ p hp=>(C4.mp hp).imp id λ z=>by rw[one z];exact df b hb
 obtain⟨hq,tu⟩:=turn i n ys H3 w3;rcases tu with⟨stop,qf⟩ | ⟨go,hz,step⟩
 ·refine thn (T.done i _ s3 _ H3 _ hq I3' (stat fr3) st3 stop) λ r s4 %[hr|I4]=>?_;subst hr;have p4:=I4.pin (D,o) (A5 _ (A5 _ (E2.mpr rfl)));exact A2 (hR _ _ _ _ (I4.sub λ p hp=>B7 _ hp) p4.1 ac p4.2.1 qf)
 ·refine thn (T.item i _ s3 _ H3 _ hq I3' (stat fr3) st3 go) λ r s4 %[u,hr|h4]=>?_;subst hr;refine A0 (thn h4 λ _ s5 %[x,H5,I5,r5,y5,st5|fr5]=>?_);have I5':=I5.pinned (stat fr5) (T.obj _ _ st5);have ms:=λ b hb=>T.obj _ _ st5 b hb;have mp:∀b∈fp,∀o,s5.heap.get? b=some o->(b,o)∈fE fp s5.heap:=λ b hb o e=>fF hb e;have mf:∀p∈fE fp s5.heap,p.1∈fp:=λ p hp=>(kn hp).1;generalize fE fp s5.heap=Q5 at I5' mp mf;have hx':∀{v:G1}{s':F7}{Z:Prop},Y.xe v s'->Z:=λ z=>by rw[hx]at z;exact z.elim
  refine A0 (Mz (hg _ s5 _ H5 x u _ I5' r5 (step x H5 y5)) (λ _ s6 ⟨σ6,H6,I6,le6,q6⟩=>?_) λ _ _ z=>hx' z);refine A0 (Mz (hi _ s6 σ6 H6 _ I6 q6) (λ b s7 ⟨H7,I7,q7⟩=>?_) λ _ _ z=>hx' z);have p7:=I7.pin (D,o) (A5 _ (B7 _ (A5 _ (E2.mpr rfl))));have I7':Inv Y (P5 ++ Q5) σ6 H7 s7:=I7.sub λ p hp=>(C4.mp hp).elim (λ z=>B7 _ (B7 _ z)) λ z=>A5 _ z;have fin:∀{s8:F7}{H8:Hp}{o8:Obj}{ys8:Mo ρ}{m':Nat},Inv Y (P5 ++ Q5) σ6 H8 s8->s8.heap.get? D=some o8->Acc ys8 o8->H8 D=none->m' < n->W (i+1) m' ys8 H8 ->
    wpAny (model Y.prog Y.w) Y.A (again (.compLoop node lvl (.ref it) (.ref D) Y.env)) (λ fin s'=>match fin with
     | .done f=>R (.ok f) s'
     | .again c'=>c'=.compLoop node lvl (.ref it) (.ref D) Y.env/\∃m,m < n/\∃i H' ys o,Inv Y P5 σ H' s'/\tn i s'.heap/\(∀b∈fp,H' b=none)/\s'.heap.get? D=some o/\Acc ys o/\H' D=none/\W i m ys H')
     (notedBy (model Y.prog Y.w) Y.A Y.env λ e s'=>R (.error e) s') s8:=λ {s8 H8 o8 ys8 m'} I8 e8 a8 d8 hm w8=>
   A2 ⟨rfl,m',hm,i+1,H8,ys8,o8,(I8.sub λ p hp=>B7 _ hp).weak le6.1.symm λ i v e=>le6.2 i v e,
    T.keep _ _ _ st5 λ b hb o e=>(I8.pin (b,o) (A5 _ (A5 _ (mp b hb o e)))).1,
    λ b hb=>by obtain⟨o,e,d⟩:=ms b hb;exact(I8.pin (b,o) (A5 _ (A5 _ (mp b hb o e)))).2.1,e8,a8,d8,w8⟩
  cases b with
  | false=>
   rw[Mu B2]at q7;obtain⟨m',hm,w7⟩:=q7;exact fin I7' p7.1 ac p7.2.1 hm w7
  | true=>
   rw[Mw rfl]at q7;refine A0 (Mz (hb i n ys o σ6 H7 s7 Q5 hz q7 le6 ac (hD.sub p7.2.1 λ p hp=>(C4.mp hp).imp id λ z=>λ e=>df _ (mf p z) e.symm) I7' p7.1) (λ _ s8 ⟨H8,ys8,o8,I8,e8,a8,d8,m',hm,w8⟩=>fin I8 e8 a8 d8 hm w8) λ _ _ z=>z.elim)
end
section
variable{ρ:Type}{X:Cx}{Mq:Mo (Mi×Obj)}{σ:St}{H2:Hp}{s2:F7}{scope:Scope}{own cs:Mo Str}{cap:Mo Nat}{fp:Mo Mi}{it:Mi}{tn:Nat->Heap->Prop}
 {node tg:Expr} {J:It} {qh:Hp->Prop} {E:G1->F7->Prop} {mk:Sem G1} {o0:Obj} {ho:Mo ρ->HO} {Acc:Mo ρ->Obj->Prop} {Fin:Mo ρ->Hp->Prop}
theorem fJ{RR:G1->Mi->Result->F7->Prop}(I:Inv X Mq σ H2 s2)(ok:CompOk X scope own cs cap)(T:∀C,TurnY (aF X Mq s2 H2 scope C (own ++ cs) fp) tg J fp it tn qh)(st:tn 0 s2.heap)(hf:∀b∈fp,FpOk X Mq H2 b)
  (fr:o0.isFreed=false) (hmk:∀{Q E:G1->F7->Prop},Q (.ref s2.heap.objs.size) { s2 with heap:=s2.heap.push o0 }->wpAny (model X.prog X.w) X.A mk Q E s2)
  (hstart:∀{D:Mi}{env:Env}{R:Result->F7->Prop}{s:F7},codeAny (model X.prog X.w) X.A (.compLoop node 0 (.ref it) (.ref D) env) R s->wpAny (model X.prog X.w) X.A (pyIter (.ref it)) (λ it' s'=>codeAny (model X.prog X.w) X.A (.compLoop node 0 it' (.ref D) env) R s') (notedBy (model X.prog X.w) X.A env λ x s'=>R (.error x) s') s ->
   codeAny (model X.prog X.w) X.A (.compStart node 0 (.ref it) (.ref D) env) R s)
  (loop:∀(Y:Cx)(D C:Mi)(s':F7)(R:Result->F7->Prop),Y=aF X Mq s2 H2 scope C (own ++ cs) fp->Inv Y [] (aV σ cap own.length) H2 s'->FpOk Y [] H2 D->(∀b∈fp,FpOk Y [] H2 b)->(∀b∈fp,D≠b)->tn 0 s'.heap->s'.heap.get? D=some o0 ->
   (∀s' H' ys o,Inv Y [] (aV σ cap own.length) H' s'->s'.heap.get? D=some o->Acc ys o->H' D=none->Fin ys H'->R (.ok .next) s')->codeAny (model Y.prog Y.w) Y.A (.compLoop node 0 (.ref it) (.ref D) Y.env) R s')
  (hok:∀{D:Mi}{ys:Mo ρ}{o:Obj}{H':Hp}{s':F7},(D == sysModules)=false->Acc ys o->Fin ys H'->H' D=none->s'.heap.get? D=some o->ObjOk X.prog X.w (upd H' D (ho ys)) s'.heap D (ho ys))
  (hRR:∀D C s' ys H',H' D=none->Fin ys H'->Inv X Mq σ (upd H' D (ho ys)) s'->FpOk X Mq (upd H' D (ho ys)) C->(∃m,s'.heap.Ns C m)->RR (.ref D) C (.ok .next) s') :
  wpAny (model X.prog X.w) X.A mk (λ acc s₃=>wpAny (model X.prog X.w) X.A (newFunctionEnv scope X.env.globals (bv X.env scope.names []) [] X.env.qual none .none (some X.env)) (λ cenv s₄=>
   codeAny (model X.prog X.w) X.A (.compStart node 0 (.ref it) acc { cenv with scope:=relabel scope X.env }) (RR acc cenv.locals) s₄) E s₃) E s2:=by
 refine hmk (xC ?_);dsimp only;generalize hHH:s2.heap.push o0=HH;have hCs:HH.objs.size=s2.heap.objs.size+1:=by rw[<- hHH,M6]
 have hDC:s2.heap.objs.size≠HH.objs.size:=by rw[hCs];exact C0 (F1 _)
 have hCle:s2.heap.objs.size<=HH.objs.size:=by rw[hCs];exact Nat.le_succ _
 have hsys:(s2.heap.objs.size == sysModules)=false:=NJ.mpr (LJ (Nat.lt_trans ∅ (I.mod.glob.keeps I.bk).lt));have hfl:∀b∈fp,b < s2.heap.objs.size:=λ b hb=>by obtain⟨o,e,_⟩:=(T 0).obj 0 _ st b hb;exact A9 e
 have hpk:∀b o,HH.get? b=some o->(pushCells (HH.push { cls:=.type "dict",data:=.dict #[] }) scope.names).get? b=some o:=λ b o e=>pushCells_keeps _ _ b o (A7 _ e);have hns₁:(pushCells (HH.push { cls:=.type "dict",data:=.dict #[] }) scope.names).Ns HH.objs.size (λ _=>none):=(Heap.Ns.new HH (.type "dict")).keeps (pushCells_keeps _ _);have old:∀b o,s2.heap.get? b=some o->(pushCells (HH.push { cls:=.type "dict",data:=.dict #[] }) scope.names).get? b=some o:=λ b o e=>hpk b o (hHH ▸ A7 _ e);have hacc:(pushCells (HH.push { cls:=.type "dict",data:=.dict #[] }) scope.names).get? s2.heap.objs.size=some o0:=hpk _ _ (hHH ▸ A8 _ fr);have sub:∀x c,(bv X.env scope.names []).lookup x=some c->X.env.cells.lookup x=some c:=λ x c e=>dY X.env scope.names [] x c (λ y hy e=>I.ok.has y.1 (ok.free y hy e)) (λ _ _ z=>by simp at z) e;have hcl₁:∀x c,(cellsFrom (HH.objs.size+1) scope.names (bv X.env scope.names [])).lookup x=some c->∃v,(pushCells (HH.push { cls:=.type "dict",data:=.dict #[] }) scope.names).IsCell c v:=by
  have:=lw scope.names (HH.push { cls:=.type "dict",data:=.dict #[] }) (bv X.env scope.names []) λ x c e=>by obtain⟨v,o,ho,hd⟩:=I.cell x c (sub x c e);exact%[v,o,A7 _ (hHH ▸ A7 _ ho)|hd]
  rw[M6]at this;exact this
 generalize pushCells (HH.push { cls:=.type "dict",data:=.dict #[] }) scope.names=h₁ at *;generalize hD:s2.heap.objs.size=D at *;generalize hCC:HH.objs.size=C at *;have I0:Inv (aF X Mq s2 H2 scope C (own ++ cs) fp) [] (aV σ cap own.length) H2 { s2 with heap:=h₁ } :=
  rX I ok hf (λ b hb=>by rw[hD];exact hfl b hb) (by rw[hD];exact hCle) hns₁ hcl₁ old
 have Dn:H2 D=none:=I.hok.fresh (by rw[hD];exact B3 _);have FD:FpOk (aF X Mq s2 H2 scope C (own ++ cs) fp) [] H2 D:=by
  refine%[Dn,hDC,λ hb=>?_,.inr (by show s2.heap.objs.size<=D;rw[hD];exact B3 _),λ x c e=>?_|λ p hp=>?_]
  ·obtain⟨_,o,ho,_⟩:=I.stack.mem hb;exact absurd (A9 ho) (by rw[hD];exact E1 _)
  ·rcases kD _ _ _ _ _ e with q | q
   ·obtain⟨v,o,ho,_⟩:=I.cell x c (sub x c q);exact C0 (hD ▸ A9 ho)
   ·exact Ne.symm (C0 (C8 hCle (Nat.lt_of_succ_le q)))
  ·have hp':p∈X.pn ++ Mq:=by have:p∈(X.pn ++ Mq) ++ []:=hp;simpa using this
   exact C0 (hD ▸ A9 (I.pin p hp').1)
 have st1:tn 0 h₁:=(T 0).keep 0 _ _ st λ b _ o e=>old b o e;have main:=loop _ D C { s2 with heap:=h₁ } (RR (.ref D) C) rfl I0 FD (λ b hb=>by
   have q:=I0.ok.exf b hb;refine%[(hf b hb).1,q.1,I0.ok.exfs b hb,.inl hb,q.2|λ p hp=>?_];have:p∈(X.pn ++ Mq) ++ []:=hp;exact(hf b hb).2.2.2.2.2 p (by simpa using this)) (λ b hb z=>absurd (hfl b hb) (by rw[<- z];exact E1 _)) st1 hacc λ s4 H3 ys o I4 pl4 ac hD3 qf=>by
  have u4:=I4.base;have Ds2:s2.heap.get? D=none:=Heap.get?_none_of_le (by rw[hD];exact B3 _);have CH:(upd H3 D (ho ys)) C=none:=by rw[aj (Ne.symm hDC)];exact I4.free
  refine hRR D C s4 ys H3 hD3 qf ?_ (I.fpOk (H':=upd H3 D (ho ys)) (by rw[hD];exact hCle) CH) (let ⟨m,hn,_⟩:=I4.loc;%[m|hn]);refine I.call' (s':=s4) (ch:=fp) I4.os %[u4.keep,u4.slot,λ b o e n hx=>?_,u4.there,λ b xs e=>?_,λ b o u e=>?_|λ b ps e=>?_] ?_ I4.bare λ b hb=>%[(hf b hb).2.2.2.1,(hf b hb).2.1,(hf b hb).2.2.2.2.1|(hf b hb).2.2.2.2.2]
  ·rw[aj (λ z=>by rw[z,Ds2]at e;cases e)];exact u4.free b o e n hx
  ·have:=u4.tups b xs e;rw[aj (ak this hD3)];exact this
  ·have:=u4.frzs b o u e;rw[aj (ak this hD3)];exact this
  ·obtain⟨more,e'⟩:=u4.tbls b ps e;exact%[more|by rw[aj (ak e' hD3)];exact e']
  ·exact I4.hok.add hD3 (hok hsys ac qf hD3 pl4)
 exact hstart main ((T C).self _ _ _ st1 main)
end
def AccL(ys:Mo V)(o:Obj):Prop:=∃its nn,o={ cls:=.type "list",data:=.seq (its:Mo G1).toArray nn }/\Vals ys its
theorem AccL.nc:∀ys o,AccL ys o->∀v,o.data≠.cell v:=by rintro _ _ ⟨its,nn,rfl,_⟩ v z;cases z
def BL(te:TE)(W:Nat->Nat->Mo V->Hp->Prop):Nat->Nat->Mo V->St->Hp->Prop:=λ i m ys σ3 H3=>te σ3 H3 (λ v H4=>∃m',m' < m/\W (i+1) m' (ys ++ [v]) H4)
theorem kG{Y:Cx}{P5:Mo (Mi×Obj)}{σ:St}{D:Mi}{elt:Expr}{te:TE}{W:Nat->Nat->Mo V->Hp->Prop}(hx:Y.xe=λ _ _=>False)(he:PE Y elt te) :
  qO Y P5 σ D (do let _<-call (.builtin "list.append") [.ref D,<- eval elt Y.env]) AccL (λ ys=>ys.length < sizeLine) (BL te W) W:=by
 rintro i m ys o σ3 H3 s3 Q5 hz hq le ⟨its,nn,rfl,rv⟩ fD I3 e3;have I3':Inv Y ((P5 ++ Q5) ++ [(D,{ cls:=.type "list",data:=.seq its.toArray nn })]) σ3 H3 s3:=I3.pins_of λ p hp=>(C4.mp hp).elim (λ z=>I3.pin p (A5 _ z)) λ z=>by
  obtain rfl:p=_:=by simpa using z
  exact%[e3,fD.1,fD.2.1,fD.2.2.1|λ v z=>by cases z]
 refine A0 (Mz (he _ s3 σ3 H3 _ I3' hq) (λ y s8 ⟨v,H8,I8,r8,m',hm,w8⟩=>?_) λ _ _ z=>by rw[hx]at z;exact z.elim);have pD:=I8.pin (D,{ cls:=.type "list",data:=.seq its.toArray nn }) (A5 _ (A5 _ (E2.mpr rfl)));have Ms:=rv.length;refine A0 (wpAny_list_append_plain (hsz:=by rw[J6];omega) %[nn|pD.1] λ h9 %[n9|pl9] sb9=>A2 ?_);refine%[H8,ys ++ [v],_,(I8.sub λ p hp=>B7 _ hp).turned (t':=s8.toks) (λ b o hb e=>sb9.extBut b o hb e) pD.2.1 fD.2.1 fD.2.2.2.1 fD.2.2.2.2.1 fD.2.2.2.2.2,pl9,%[its ++ [y],n9,by simp|rv.append (.cons r8 .nil)],pD.2.1,m',hm|w8]
section
variable{X:Cx}{Mq:Mo (Mi×Obj)}{σ:St}{H2:Hp}{s2:F7}{scope:Scope}{own cs:Mo Str}{cap:Mo Nat}{fp:Mo Mi}{it:Mi}{tn:Nat->Heap->Prop}
 {elt tg iter:Expr} {ifs:Mo Expr} {pos:Pos} {J:It} {g:TG} {tt:TT} {te:TE} {qh:Hp->Prop} {E:G1->F7->Prop} {W:Nat->Nat->Mo V->Hp->Prop} {Qf:Mo V->Hp->Prop}
theorem jc{RR:G1->Mi->Result->F7->Prop}(I:Inv X Mq σ H2 s2)(ok:CompOk X scope own cs cap)(T:∀C,TurnY (aF X Mq s2 H2 scope C (own ++ cs) fp) tg J fp it tn qh)(st:tn 0 s2.heap)(hf:∀b∈fp,FpOk X Mq H2 b)
  (hg:∀C,PG (aF X Mq s2 H2 scope C (own ++ cs) fp) tg g) (hi:∀C,gc (aF X Mq s2 H2 scope C (own ++ cs) fp) ifs tt) (he:∀C,PE (aF X Mq s2 H2 scope C (own ++ cs) fp) elt te)
  (w0:∃m,W 0 m [] H2) (hq:∀i m ys H,W i m ys H->qh H) (turn:eE σ cap own.length J g tt te Qf W)
  (hRR:∀D C s' ys H',H' D=none->(ys.length<=sizeLine/\Qf ys H')->Inv X Mq σ (upd H' D (.lst ys)) s'->FpOk X Mq (upd H' D (.lst ys)) C->(∃m,s'.heap.Ns C m)->RR (.ref D) C (.ok .next) s') :
  wpAny (model X.prog X.w) X.A (newList []) (λ acc s₃=>wpAny (model X.prog X.w) X.A (newFunctionEnv scope X.env.globals (bv X.env scope.names []) [] X.env.qual none .none (some X.env)) (λ cenv s₄=>
   codeAny (model X.prog X.w) X.A (.compStart (.ListComp elt [%[tg,iter,ifs|0]] scope pos) 0 (.ref it) acc { cenv with scope:=relabel scope X.env }) (RR acc cenv.locals) s₄) E s₃) E s2:=by
 refine fJ (Acc:=AccL) (Fin:=λ ys H=>ys.length<=sizeLine/\Qf ys H) (ho:=.lst) I ok T st hf rfl (λ h=>F5 h) codeAny_compStart_list (λ Y D C s' R hY I0 hD hf' df st0 e0 hR=>?_) (λ _ ⟨its,nn,e,rv⟩ q _ p=>%[q.1,its,nn,rv|e ▸ p]) hRR;subst hY;exact fe (ipos:=iter.pos) (body:=do let _<-call (.builtin "list.append") [.ref D,<-eval elt (aF X Mq s2 H2 scope C (own ++ cs) fp).env]) rfl (T C) (hg C) (hi C) rfl rfl AccL.nc (λ i m ys H w=>%[hq _ _ _ _ w|turn i m ys H w]) (kG rfl (he C)) I0 hD hf' df st0 e0 %[[],_,rfl|.nil] w0 hR
def uT(wi:TI)(cap:Mo Nat)(k:Nat)(g:TG)(tt:TT)(te:TE):TE:=λ σ H Q=>wi σ H λ J H1=>
 ∃W:Nat->Nat->Mo V->Hp->Prop,(∃m,W 0 m [] H1)/\eE σ cap k J g tt te (λ ys H'=>∀p,H' p=none->Q (.ref p) (upd H' p (.lst ys))) W
theorem br{wi:TI}(hc:X.calm=true)(hit:PI X tg iter wi)(ok:CompOk X scope own cs cap)
  (hg:∀Mq s2 H2 C fp,PG (aF X Mq s2 H2 scope C (own ++ cs) fp) tg g) (hi:∀Mq s2 H2 C fp,gc (aF X Mq s2 H2 scope C (own ++ cs) fp) ifs tt) (he:∀Mq s2 H2 C fp,PE (aF X Mq s2 H2 scope C (own ++ cs) fp) elt te)
  (hs:∀x,foldedSetIterable iter X.env x=pure x:=by intro _;rfl):PE X (.ListComp elt [%[tg,iter,ifs|0]] scope pos) (uT wi cap own.length g tt te):=by
 intro Mq s σ H Q I h;rw[eval_ListComp];refine NM (use:=none) rfl hs (cN λ y hy e=>I.ok.has y.1 (ok.free y hy e)) ok.kind ok.names (thn (hit Mq s σ H _ I h) λ v s1 h1=>thn h1 λ itv s2 h2=>?_);obtain⟨it,fp,tn,J,H2,e,I2,T,st2,f2,W,w0,turn⟩:=h2;subst e;refine jc (RR:=λ acc C=>compPost (model X.prog X.w) X.A X.xe none (EP X Mq σ Q) acc C) I2 ok (λ C=>Turn.y (Y:=aF X Mq s2 H2 scope C (own ++ cs) fp) T hc) st2 f2 (λ C=>hg _ _ _ _ _) (λ C=>hi _ _ _ _ _) (λ C=>he _ _ _ _ _) w0 (λ _ _ _ _ _=>trivial) turn λ D C s' ys H' hD %[_|q] I' fp' %[m|hn]=>?_;obtain⟨f0,f1,f2',f3,f4,f5⟩:=fp';exact%[m,hn|λ h' sb=>%[.ref D,_,I'.turned (t':=s'.toks) (λ b o hb e=>sb.extBut b o hb e) f0 f1 f3 f4 f5,O|q D hD]]
theorem ff{wi:TI}{i:Nat}{y:Str}{py spos:Pos}(hc:X.calm=true)(hN:X.N.Nodup)(hiy:X.N[i]?=some y)(hy:X.env.scope.names.lookup y=some .local)
  (hsw:swapsWith (.ListComp elt [%[tg,iter,ifs|0]] scope pos) (some (.Name y py)) spos.line X.env=pure true) (hit:PI X tg iter wi) (ok:CompOk X scope own cs cap)
  (hg:∀Mq s2 H2 C fp,PG (aF X Mq s2 H2 scope C (own ++ cs) fp) tg g) (hi:∀Mq s2 H2 C fp,gc (aF X Mq s2 H2 scope C (own ++ cs) fp) ifs tt) (he:∀Mq s2 H2 C fp,PE (aF X Mq s2 H2 scope C (own ++ cs) fp) elt te)
  (hs:∀x,foldedSetIterable iter X.env x=pure x:=by intro _;rfl):PS X (.Assign [.Name y py] (.ListComp elt [%[tg,iter,ifs|0]] scope pos) spos) (zA (uT wi cap own.length g tt te) (im i)):=by
 intro Mq s σ H D0 I h;rw[exec_Assign_Name_used _ _ _ _ hsw];refine A0 (Nb (A0 ?_));show wpAny _ X.A (do let _<-comprehension (.ListComp elt [%[tg,iter,ifs|0]] scope pos) scope X.env _ (newList []) false (eval iter X.env) (some (assign (.Name y py) X.env))) _ _ s;refine A0 (Mz (NM (use:=some (assign (.Name y py) X.env)) (Q:=λ _ s'=>SP X Mq D0 .next s') rfl hs (cN λ y hy e=>I.ok.has y.1 (ok.free y hy e)) ok.kind ok.names
  (thn (hit Mq s σ H _ I h) λ v s1 h1=>thn h1 λ itv s2 h2=>?_)) (λ _ s' hq=>A2 (A2 hq)) λ _ _ e=>e)
 obtain⟨it,fp,tn,J,H2,e,I2,T,st2,f2,W,w0,turn⟩:=h2;subst e;refine jc (RR:=λ acc C=>compPost (model X.prog X.w) X.A X.xe (some (assign (.Name y py) X.env)) (λ _ s'=>SP X Mq D0 .next s') acc C) I2 ok (λ C=>Turn.y (Y:=aF X Mq s2 H2 scope C (own ++ cs) fp) T hc) st2 f2 (λ C=>hg _ _ _ _ _) (λ C=>hi _ _ _ _ _) (λ C=>he _ _ _ _ _) w0 (λ _ _ _ _ _=>trivial) turn λ D C s' ys H' hD %[_|q] I' fp' %[m|hn]=>?_;obtain⟨f0,f1,f2',f3,f4,f5⟩:=fp';show wpAny _ X.A (assign (.Name y py) X.env (.ref D)) _ _ _;refine wpAny_assign_Name (ki I' hN hiy (.inl hy) (v:=.ref D) rfl (λ s3 I3 ⟨a,sb,ha⟩=>?_) (.inr hy));have hCa:C≠a:=by
  rcases ha with z | z
  ·rw[z];exact f1
  ·exactλ q=>f4 y a z q.symm
 refine%[m,hn.sameBut sb hCa|λ h' sb'=>%[_,_,I3.turned (t':=s3.toks) (λ b o hb e=>sb'.extBut b o hb e) f0 f1 f3 f4 f5|q D hD]]
end
def CDivB(i j:Int):Prop:=0 < j/\j<=10 ^ 60
theorem CDivB.np{i j:Int}(h:CDivB i j):Builtin.divisionGoesByPylong i j=false:=by
 refine PyProof.noPylong_of_log2 ?_;have h1:j.natAbs < 2 ^ 200:=by obtain⟨a,b⟩:=h;omega
 have h2:j.natAbs.log2 < 200:=(Nat.log2_lt (by have:=h.1;omega)).mpr h1;omega
section
variable{X:Cx}
theorem uU:OpR X (binaryOp .FloorDiv) (rI CDivB λ i j=>.int (i / j)):=opI λ i j _ _ _ _ _ hc q=>by refine floordiv_int (by have:=hc.1;omega) ?_ (.inl hc.np);rw[Int.fdiv_eq_ediv_of_nonneg _ (by have:=hc.1;omega)];exact q
theorem Inv.kitx{Mq:Mo (Mi×Obj)}{σ:St}{H:Hp}{s:F7}{x:V}{u t:G1}(I:Inv X Mq σ H s)(rx:RelV x u)(ty:TyOf X.K H x t) :
  ∃P:Heap->Prop,PySem.W.KitX X.K u t P/\P s.heap/\u≠.builtin "__main__.__loader__#opaque" := by
 cases ty with
 | non=>cases(show u=Value.none from rx);exact%[_,PySem.W.kitx_none,True.intro|λ z=>nomatch z]
 | bl y=>cases(show u=Value.bool y from rx);exact%[_,PySem.W.kitx_bool,True.intro|λ z=>nomatch z]
 | int i=>obtain⟨t,q⟩:=(show∃t,u=Value.int i t from rx);cases q;exact%[_,PySem.W.kitx_int,True.intro|λ z=>nomatch z]
 | str y=>obtain⟨t,q⟩:=(show∃t,u=Value.str y t from rx);cases q;exact%[_,PySem.W.kitx_str,True.intro|λ z=>nomatch z]
 | flt y=>obtain⟨t,q⟩:=(show∃t,u=Value.float y t from rx);cases q;exact%[_,PySem.W.kitx_float,True.intro|λ z=>nomatch z]
 | @lst a xs ea=>
  cases(show u=Value.ref a from rx);obtain⟨_,_,n,_,h1⟩:=(show ObjOk X.prog X.w H s.heap a (.lst xs)from I.hok a _ ea)
  exact%[_,PySem.W.kitx_list,%[_,h1|O]|λ z=>nomatch z]
 | @frz a ob xs ea=>
  cases(show u=Value.ref a from rx);obtain⟨_,_,_,n,_,h1⟩:=(show ObjOk X.prog X.w H s.heap a (.frz ob (.lst xs))from I.hok a _ ea)
  exact%[_,PySem.W.kitx_list,%[_,h1|O]|λ z=>nomatch z]
 | @tup a xs ea=>
  cases(show u=Value.ref a from rx);obtain⟨_,_,_,p⟩:=(show ObjOk X.prog X.w H s.heap a (.tup xs)from I.hok a _ ea)
  obtain⟨o,h1,h2,_⟩:=p;exact%[_,PySem.W.kitx_tuple,%[o,h1|h2]|λ z=>nomatch z]
 | @dK a kvs ea=>
  cases(show u=Value.ref a from rx);obtain⟨_,_,vs,_,p⟩:=(show ObjOk X.prog X.w H s.heap a (.dK kvs)from I.hok a _ ea)
  obtain⟨o,es,ep,h1,h2,_⟩:=p;exact%[_,PySem.W.kitx_dict,%[o,h1|h2.1]|λ z=>nomatch z]
 | @dT a kvs ea=>
  cases(show u=Value.ref a from rx);obtain⟨_,_,xs,_,o,es,ep,h1,h2,_⟩:=(show ObjOk X.prog X.w H s.heap a (.dT kvs)from I.hok a _ ea)
  exact%[_,PySem.W.kitx_dict,%[o,h1|h2.1]|λ z=>nomatch z]
 | @ext a φ ea c=>
  cases(show u=Value.ref a from rx);obtain⟨p,_,_⟩:=(show ObjOk X.prog X.w H s.heap a (.ext φ)from I.hok a _ ea)
  obtain⟨o,h1,h2⟩:=c _ p;exact%[_,PySem.W.kitx_dict,%[o,h1|h2]|λ z=>nomatch z]
 | @ins a C dx fs ea cl ha hn htk hm=>
  cases(show u=Value.ref a from rx);obtain⟨mA,OO0,_⟩:=fZ I.hok ea;obtain⟨od,J,_⟩:=OO0.look;exact%[_,PySem.W.kitx_own (cl.get _) cl.hd ha hn htk hm,J|λ z=>nomatch z]
def clV:V->Ml Value
 | .ty T=>some (.type T)
 | .ref C=>↑C
 | _=>none
theorem clV.rel{v:V}{u c:G1}(e:clV v=some c)(r:RelV v u):u=c:=by
 cases v with
 | ty T=>have e':Value.type T=c:=B9 e;rw[<- e'];exact r
 | ref C=>have e':Value.ref C=c:=B9 e;rw[<- e'];exact r
 | _=>cases e
def clVs:Mo V->Ml (Mo G1)
 | []=>some []
 | v :: r=>match clV v,clVs r with
  | some c,some cs=>some (c :: cs)
  | _,_=>none
theorem clVs.rel:∀{vs:Mo V}{us cs:Mo G1},clVs vs=some cs->Vals vs us->us=cs
 | [],_,_,e,.nil=>B9 e
 | v :: r,_,_,e,.cons r1 r2=>by
  unfold clVs at e
  split at e
  ·rename_i c cs' e1 e2
   cases e;rw[clV.rel e1 r1,clVs.rel e2 r2]
  ·cases e
inductive rz_call_isinst(K:C6)(xs:Mo V)(H:Hp)(Q:VK):Prop
|mk(x cv t c b:_)(_:xs=[x,cv])(_:TyOf K H x t)(_:clV cv=some c)(_:PySem.W.kitOne K t c=some b)(_:Q (.bl b) H)
theorem eQ:bW X (.builtin "isinstance") (rz_call_isinst X.K):=by
 intro Mq s σ H xs us Q I rv h;obtain⟨x,cv,t,c,b,rfl,ty,e1,e2,q⟩:=h;cases rv with
 | cons r1 rr=>
  cases rr with
  | cons r2 rr=>
   cases rr;rw[clV.rel e1 r2];exact rR I r1 ty e2 λ tk=>%[.bl b,H,I.tok tk,O|q]
inductive rz_call_isinstT(K:C6)(xs:Mo V)(H:Hp)(Q:VK):Prop
|mk(x p t cvs cs b:_)(_:xs=[x,.ref p])(_:TyOf K H x t)(_:H p= ~~~cvs)(_:clVs cvs=some cs)(_:PySem.W.kitAny K t cs=some b)(_:Q (.bl b) H)
theorem lC:bW X (.builtin "isinstance") (rz_call_isinstT X.K):=by
 intro Mq s σ H xs us Q I rv h;obtain⟨x,p,t,cvs,cs,b,rfl,ty,hp,e1,e2,q⟩:=h;cases rv with
 | cons r1 rr=>
  cases rr with
  | cons r2 rr=>
   cases rr;cases r2;obtain⟨_,its,rits,o,ho,hc,n,hd⟩:=I.hok p _ hp;obtain⟨P,Z,p1,p2⟩:=I.kitx r1 ty;obtain⟨oc,od,dt,osl⟩:=o
   replace hc:oc=.type "tuple" := hc
   replace hd:dt=.seq its.toArray n:=hd
   subst hc hd;have e3:=clVs.rel e1 rits;subst e3;exact PySem.W.kia_tup Z I.kIn p1 ho e2 p2 λ tk=>%[.bl b,H,I.tok tk,O|q]
end
mutual
inductive DatV(K:C6)(H:Hp):V->PyData->Prop
 | non:DatV K H .non .none
 | bl (b:Bool):DatV K H (.bl b) (.bool b)
 | int (i:Int):DatV K H (.int i) (.int i)
 | str (x:Str):DatV K H (.str x) (.str x)
 | lst {a:Mi} {xs:Mo V} {ds:Mo PyData}:SqL K H a xs->DatVs K H xs ds->DatV K H (.ref a) (.list ds)
 | tup {a:Mi} {xs:Mo V} {ds:Mo PyData}:SqT K H a xs->DatVs K H xs ds->DatV K H (.ref a) (.tuple ds)
inductive DatVs(K:C6)(H:Hp):Mo V->Mo PyData->Prop
 | nil:DatVs K H [] []
 | cons {x:V} {d:PyData} {xs:Mo V} {ds:Mo PyData}:DatV K H x d->DatVs K H xs ds->DatVs K H (x :: xs) (d :: ds)
end
section
variable{X:Cx}{Mq:Mo (Mi×Obj)}{σ:St}{H:Hp}{s:F7}
mutual
theorem Inv.reads(I:Inv X Mq σ H s):∀{v:V}{d:PyData},DatV X.K H v d->∀{u:G1},RelV v u->∃as,Reads s.heap u d as
 | _,_,.non,u,r=>by cases(show u=Value.none from r);exact%[_|.none]
 | _,_,.bl b,u,r=>by cases(show u=Value.bool b from r);exact%[_|.bool b]
 | _,_,.int i,u,r=>by obtain⟨t,e⟩:=(show∃t,u=Value.int i t from r);subst e;exact%[_|.int i t]
 | _,_,.str x,u,r=>by obtain⟨t,e⟩:=(show∃t,u=Value.str x t from r);subst e;exact%[_|.str x t]
 | _,_,.lst (a:=a) h hs,u,r=>by cases(show u=Value.ref a from r);obtain⟨its,rv,⟨o,n,e,c,_,d⟩,_⟩:=I.list h;obtain⟨as,ra⟩:=I.readsAll hs rv;exact%[_|.list e c d (by simpa using ra)]
 | _,_,.tup (a:=a) h hs,u,r=>by cases(show u=Value.ref a from r);obtain⟨its,rv,⟨o,e,c,n,d⟩,_⟩:=I.tuple h;obtain⟨as,ra⟩:=I.readsAll hs rv;exact%[_|.tuple e c d (by simpa using ra)]
theorem Inv.readsAll(I:Inv X Mq σ H s):∀{vs:Mo V}{ds:Mo PyData},DatVs X.K H vs ds->∀{us:Mo G1},Vals vs us->∃as,ReadsAll s.heap us ds as
 | _,_,.nil,_,.nil=>%[_|.nil]
 | _,_,.cons h hs,_,.cons r rs=>by obtain⟨as,ra⟩:=I.reads h r;obtain⟨bs,rb⟩:=I.readsAll hs rs;exact%[_|.cons ra rb]
end
end
section
variable{X:Cx}
inductive rz_op_neD(K:C6)(x:V)(y:V)(H:Hp)(Q:VK):Prop
|mk(da db:_)(_:DatV K H x da)(_:DatV K H y db)(_:SeqAt.shaped da=true)(_:SeqAt.shaped db=true)(_:Q (.bl (!PyData.eqv da db)) H)
theorem zJ(hu:X.A.units+64 < cLine):OpR X (compareOp .NotEq) (rz_op_neD X.K):=by intro Mq s σ H x y v u Q I rx ry h;obtain⟨da,db,hx,hy,s1,s2,q⟩:=h;obtain⟨as,ra⟩:=I.reads hx rx;obtain⟨bs,rb⟩:=I.reads hy ry;exact ne_dataH ra rb s1 s2 hu %[.bl _,H,I,rfl|q]
inductive rz_op_eqD(K:C6)(x:V)(y:V)(H:Hp)(Q:VK):Prop
|mk(da db:_)(_:DatV K H x da)(_:DatV K H y db)(_:SeqAt.shaped da=true)(_:SeqAt.shaped db=true)(_:Q (.bl (PyData.eqv da db)) H)
end
section
variable{prog:F8}{w:G0}{A:Around}{E:G1->F7->Prop}
theorem jd{it l:Mi}{items:Mm G1}(hne:l≠it):∀(n i:Nat)(s:F7)(Q:Mo G1->F7->Prop),s.heap.IsListIter it l i->s.heap.IsList l items->i+n<=items.size ->
  (∀h',h'.IsListIter it l (i+n)->Heap.SameBut it s.heap h'->Q ((items.toList.drop i).take n) { s with heap:=h' })->wpAny (model prog w) A (draw (.ref it) n) Q E s
 | 0,i,s,Q,hit,_,_,hQ=>by show wpAny _ _ (pure []) Q E s;exact A2 (by simpa using hQ s.heap hit (Heap.SameBut.refl ..))
 | n+1,i,s,Q,hit,ht,hle,hQ=>by
  have hlt:i < items.size:=⋯
  show wpAny _ _ (pyNext (.ref it) >>= _) Q E s;refine A0 (wpAny_pyNext_list_item hit ht (x:=items[i]) (by simp[hlt]) λ h₁ hit₁ hs₁=>?_);refine A0 (M3 (jd hne n (i+1) _ _ hit₁ (ht.extBut hs₁.extBut hne) ⋯ λ h₂ hit₂ hs₂=>A2 ?_));have hd:items.toList.drop i=items[i] :: items.toList.drop (i+1):=by simp[List.drop_eq_getElem_cons,hlt]
  have q:=hQ h₂ (by rw[show i+(n+1)=i+1+n by omega];exact hit₂) (hs₁.trans hs₂);rw[hd,List.take_succ_cons]at q;exact q
theorem ge{s:F7}{l:Mi}{items:Mm G1}{Q:Mo G1->F7->Prop}(hh:A.handled=none)(ht:s.heap.IsList l items)
  (hQ:∀h',Heap.ExtBut s.heap.objs.size s.heap h'->Q items.toList { s with heap:=h' }):wpAny (model prog w) A (unpackItems (.ref l) items.size none) Q E s:=by
 have hlt:l≠s.heap.objs.size:=by obtain⟨o,ho,_⟩:=ht;exact C0 (A9 ho)
 have hp:(s.heap.push { cls:=.type "list_iterator",data:=.fields #[.ref l,.int 0 0] }).IsList l items:=by obtain⟨o,ho,r⟩:=ht;exact%[o,A7 _ ho|r]
 unfold unpackItems;refine A0 ?_
 ·unfold notIterableAtAll;refine A0 (wpAny_specialOf ht.typeIs PySem.slot_list_iter.lookup ?_);refine A2 ?_;simp only[K8,NK];refine A0 (M3 (wpAny_pyIter_list ht ?_));refine A0 (M3 (jd hlt items.size 0 _ _ %[_,A8 _ rfl,rfl|rfl] hp ⋯ λ h₁ hit₁ hs₁=>?_));have hall:List.take items.size (List.drop 0 items.toList)=items.toList:=by rw[List.drop_zero];exact K2 (by simp)
  rw[hall];rw[Mu (by simp)];have ht₁:h₁.IsList l items:=hp.extBut hs₁.extBut hlt;refine A0 (M3 (wpAny_pyNext_list_end hh hit₁ ht₁ (by simp) λ h₂ he₂=>?_));simp only[Option.isSome_none,K8,if_false];refine A2 (hQ h₂ λ b o hb e=>he₂ b o hb (hs₁.extBut b o hb (A7 _ e)))
theorem fK{s:F7}{env:Env}{elts:Mo Expr}{x1}{pos:Pos}{l:Mi}{items:Mm G1}{Q:Unit->F7->Prop}(hh:A.handled=none)(ht:s.heap.IsList l items)
  (hn:(assignEach elts env).length=items.size) (hstar:(assignEach elts env).findIdx? (·.1)=none)
  (h:∀h',Heap.ExtBut s.heap.objs.size s.heap h'->wpAny (model prog w) A (assignInOrder ((assignEach elts env).map (·.2)) items.toList) Q E { s with heap:=h' }) :
  wpAny (model prog w) A (assign (.Tuple elts x1 pos) env (.ref l)) Q E s:=by
 rw[assign_Tuple];refine A0 (Nb ?_);unfold unpack;rw[hn,hstar];exact A0 (M3 (ge hh ht h))
end
section
variable{X:Cx}{pos:Pos}
def Jp(K:C6)(n:Nat)(t:TGs):TG:=λ v σ H Q=>∃a xs,v=.ref a/\(SqL K H a xs\/SqT K H a xs)/\xs.length=n/\t xs σ H Q
theorem uV{es:Mo Expr}{k:Nat}{t:TGs}{n:Nat}(hc:X.calm=true)(h:PGs X es t)
  (hn:(assignEach es X.env).length=n:=by rfl) (hst:(assignEach es X.env).findIdx? (·.1)=none:=by rfl):PG X (.Tuple es k pos) (Jp X.K n t):=by
 intro Mq s σ H v u Q I r hw;obtain⟨a,xs,e1,hq,hl,hw⟩:=hw;rcases hq with hq | hq
 ·subst e1;cases r;obtain⟨its,rv,ht,hz⟩:=I.list hq;refine fK (I.ok.hd hc) ht.isList (by simp[hn,<- hl,rv.length]) hst λ h' hx=>?_;have I1:Inv X Mq σ H { s with heap:=h' }:=I.kept (t':=s.toks) λ b o e=>hx b o (C0 (A9 e)) e;exact h Mq _ σ H xs _ Q I1 (by simpa using rv) hw
 ·exact bL hc h hn hst Mq s σ H v u Q I r %[a,xs,e1,hq,hl|hw]
end
section
variable{X:Cx}
theorem Inv.turnedN{Mq:Mo (Mi×Obj)}{σ:St}{H:Hp}{s:F7}{h':Heap}{t':Nat}{ch:Mo Mi}(I:Inv X Mq σ H s)(hf:∀b∈ch,FpOk X Mq H b)(k:∀b o,b∉ch->s.heap.get? b=some o->h'.get? b=some o):Inv X Mq σ H { s with heap:=h',toks:=t' }:=by
 have hLc:X.env.locals∉ch:=λ z=>(hf _ z).2.1 rfl;have nt:∀b u,H b=some u->b∉ch:=λ b u e z=>by rw[(hf b z).1]at e;cases e
 refine I.step (g':=s.gens) (d':=s.drawn) (ch:=ch) (λ b hb=>%[(hf b hb).2.2.2.1,(hf b hb).2.1,(hf b hb).2.2.2.2.1|(hf b hb).2.2.2.2.2]) (λ b o _ _ hc e _=>k b o hc e) (λ b o _ _ hc e _=>%[o.slots|k b o hc e]) (λ _ _ _ _ n=>n)
  (λ b o hc e=>%[o|k b o hc e]) (λ _ _ e=>e) (λ _ _ _ e=>e) (λ b ps e=>%[#[]|by rw[e];simp]) (λ m hm=>?_) (λ b u e=>?_) I.bare
 ·obtain⟨o,es,ep,ho,r⟩:=hm;exact%[o,es,ep,k _ o hLc ho|r]
 ·refine(I.hok b u e).stay (λ c v hc q=>k c v ?_ q) (λ _ q=>q) λ _ _ q=>q;rcases hc with z | z
  ·rw[z];exact nt b u e
  ·exact nt c _ z
theorem Inv.track{Mq:Mo (Mi×Obj)}{σ:St}{H:Hp}{s:F7}{a:Mi}{o:HO}(I:Inv X Mq σ H s)(hf:FpOk X Mq H a)(fa:X.s₀.heap.objs.size<=a)(new:ObjOk X.prog X.w (upd H a o) s.heap a o):Inv X Mq σ (upd H a o) s:=by
 obtain⟨f0,f1,f2,f3,f4,f5⟩:=hf;have s0:∀b o,X.s₀.heap.get? b=some o->b≠a:=λ b o e=>C0 (C3 (A9 e) fa);refine%[I.ok,I.os,I.bare,%[I.base.keep,I.base.slot,λ b o e n hx=>?_,I.base.there,λ b xs e=>?_,λ b o u e=>?_|λ b ps e=>?_],I.loc,I.cell,?_,λ x c e=>?_,λ p hp=>?_,I.hok.add f0 new|I.len]
 ·rw[aj (s0 b o e)];exact I.base.free b o e n hx
 ·have q:=I.base.tups b xs e;rw[aj (ak q f0)];exact q
 ·have q:=I.base.frzs b o u e;rw[aj (ak q f0)];exact q
 ·obtain⟨more,q⟩:=I.base.tbls b ps e;exact%[more|by rw[aj (ak q f0)];exact q]
 ·rw[aj (Ne.symm f1)];exact I.free
 ·rw[aj (f4 x c e)];exact I.freeC x c e
 ·obtain⟨e,n,r⟩:=I.pin p hp;exact%[e,by rw[aj (f5 p hp)];exact n|r]
end
structure ZipAp(z TI TO i1 i2:Mi):Prop where
 nd:[z,TI,TO,i1,i2].Nodup
end L2
namespace L2
open PySem PySem.Spec PyProof.Rows
def Dn(P:F8)(w:G0)(K:C6)(mg:Str->Ml G1)(base:Heap)(x:Str)(ps:Mo Str)(k:Nat)(sp:Sp):Prop :=
 ∃(f:Mi)(fd:F9),FnOk P w K mg base CX0 k f fd ps sp/\Binds K fd ps []/\PySem.W.keepIn K (.ref f)=true/\mg x=↑f
theorem aq{X:Cx}{k:Nat}{ps:Mo Str}{sp:Sp}{x:Str}{p pos:Pos}{e:Expr}{es:Mo Expr}{t:TA}(D:Dn X.prog X.w X.K X.mg X.base x ps k sp)(hr:Room k X.A)(hg:Gl X x)(ha:PA X (e :: es) t)
  (hdb:(x == ("__debug__" : Str))=false:=by decide) (he:starEach (e :: es) X.env=(false,eval e X.env) :: starEach es X.env:=by rfl) (hpl:(backTo pos (starEach es X.env)).any (·.1)=false:=by rfl) :
  PE X (.Call (.Name x p) (e :: es) [] pos) (uM sp [] E0 t):=by
 obtain⟨f,fd,F,hb,hk,hm⟩:=D;exact xu F hr hg hm hk hb .nil qN ha hdb he hpl
def lD(sc:Scope)(N:Mo Str)(scope:Scope)(own cs:Mo Str)(cap:Mo Nat):Bool :=
 decide (scope.kind=.function) && scope.names.all (λ y=>decide (y.2=.local->scope.names.lookup y.1=some .local)) &&
 scope.names.all (λ y=>decide (y.2=.free->sc.names.lookup y.1=some .cell\/sc.names.lookup y.1=some .free)) &&
 decide (cs.length=cap.length) && (cs.zip cap).all (λ y=>decide (N[y.2]?=some y.1) && decide ((y.1,NameKind.free)∈scope.names)) && scope.names.all (λ y=>decide (y.2=.free->scope.names.lookup y.1≠some .local)) && scope.names.all (λ y=>decide (y.2=.free->scope.names.lookup y.1≠some .cell)) && scope.names.all (λ y=>decide (y.2=.free->(y.1,NameKind.cell)∉scope.names))
theorem az{X:Cx}{sc:Scope}{N:Mo Str}{scope:Scope}{own cs:Mo Str}{cap:Mo Nat}(h1:X.env.scope=sc)(h2:X.N=N)(h:lD sc N scope own cs cap=true):CompOk X scope own cs cap:=by
 subst h1 h2;unfold lD at h;simp only[LQ,MT,NR]at h;obtain⟨⟨⟨⟨⟨⟨⟨a1,a3⟩,a4⟩,a6⟩,a7⟩,a8⟩,a9⟩,a10⟩:=h;refine%[a1,a3,a4,λ i y e=>?_,a6,λ y hy e=>a8 _ hy rfl e,λ y hy e=>a9 _ hy rfl e|λ y hy=>a10 _ hy rfl];have hi:i < cs.length:=(A6.mp e).1;have hj:i < cap.length:=by rw[<- a6];exact hi
 refine%[cap[i],F2 hj|?_];have hm:(y,cap[i])∈cs.zip cap:=by
  have:(cs.zip cap)[i]?=some (y,cap[i]):=by rw[List.getElem?_zip_eq_some];exact%[e|F2 hj]
  exact B6 this
 exact a7 _ hm
theorem aK{σ:St}{H:Hp}{A B:Hp->Prop}(h:A H):El σ H (λ ok H3=>if ok=true then A H3 else B H3):=by show(if (true:Bool)=true then A H else B H);rw[Mw rfl];exact h
section
variable{X:Cx}{tg:Expr}
def zK(K:C6)(tl:TE):TI:=λ σ H R=>yV K tl σ H R\/Ec K tl σ H R
theorem uW{l:Expr}{tl:TE}(hl:PE X l tl):PI X tg l (zK X.K tl):=by
 intro Mq s σ H R I h;rcases h with h | h
 ·exact bE hl Mq s σ H R I h
 ·exact lg hl Mq s σ H R I h
end
def bh:Mo String:=["NoneType","bool","int","str","list","tuple","dict"]
theorem xD{K:C6}:∀T∈bh,PySem.W.kitOne K (.type T) (.type "int")=some (T == "int" || T == "bool"):=by intro T h;simp only[bh,G7,C2,NG]at h;rcases h with rfl | rfl | rfl | rfl | rfl | rfl | rfl <;> kernel_rfl
theorem mQ{K:C6}:∀T∈bh,PySem.W.kitOne K (.type T) (.type "bool")=some (T == "bool"):=by intro T h;simp only[bh,G7,C2,NG]at h;rcases h with rfl | rfl | rfl | rfl | rfl | rfl | rfl <;> kernel_rfl
theorem uX{K:C6}:∀T∈bh,PySem.W.kitOne K (.type T) (.type "list")=some (T == "list"):=by intro T h;simp only[bh,G7,C2,NG]at h;rcases h with rfl | rfl | rfl | rfl | rfl | rfl | rfl <;> kernel_rfl
theorem rY{K:C6}:∀T∈bh,PySem.W.kitOne K (.type T) (.type "tuple")=some (T == "tuple"):=by intro T h;simp only[bh,G7,C2,NG]at h;rcases h with rfl | rfl | rfl | rfl | rfl | rfl | rfl <;> kernel_rfl
theorem xE{K:C6}:∀T∈bh,PySem.W.kitAny K (.type T) [.type "list",.type "tuple"]=some (T == "list" || T == "tuple"):=by
 intro T h;have h1:=uX (K:=K) T h;have h2:=rY (K:=K) T h;unfold PySem.W.kitAny;rw[h1];cases e:(T == "list")with
 | true=>rfl
 | false=>
  show PySem.W.kitAny K (.type T) [.type "tuple"]=_;unfold PySem.W.kitAny;rw[h2];cases e2:(T == "tuple") <;> rfl
def Ty(K:C6)(H:Hp)(x:V)(T:String):Prop:=T∈bh/\TyOf K H x (.type T)
theorem Ty.int{K:C6}{H:Hp}{i:Int}:Ty K H (.int i) "int" := %[by simp[bh]|.int i]
theorem Ty.bl{K:C6}{H:Hp}{b:Bool}:Ty K H (.bl b) "bool" := %[by simp[bh]|.bl b]
theorem Ty.non{K:C6}{H:Hp}:Ty K H .non "NoneType" := %[by simp[bh]|.non]
theorem Ty.str{K:C6}{H:Hp}{x:Str}:Ty K H (.str x) "str" := %[by simp[bh]|.str x]
theorem Ty.lst{K:C6}{H:Hp}{a:Mi}{xs:Mo V}(e:H a=↥xs):Ty K H (.ref a) "list" := %[by simp[bh]|.lst e]
theorem Ty.tup{K:C6}{H:Hp}{a:Mi}{xs:Mo V}(e:H a= ~~~xs):Ty K H (.ref a) "tuple" := %[by simp[bh]|.tup e]
def aQ:V->Int->Bool
 | .int i,l=>decide (l<=i)
 | _,_=>false
def rZ:V->Bool
 | .bl _=>true
 | _=>false
theorem zL{K:C6}{H:Hp}{x:V}{T:String}(t:TyOf K H x (.type T))(h:T∈bh):(T == "int")=true->∃i,x=.int i:=by
 intro e;have e':T = "int" := by simpa using e
 subst e';generalize hv:Value.type "int" = tv at t;cases t with
 | int i=>exact%[i|O]
 | _=>exact absurd hv (by simp)
theorem qQ{K:C6}{H:Hp}{x:V}{T:String}(t:TyOf K H x (.type T)):(T == "bool")=rZ x:=by
 generalize hv:Value.type T=tv at t;cases t with
 | bl b=>cases hv;rfl
 | non=>cases hv;rfl
 | int i=>cases hv;rfl
 | str i=>cases hv;rfl
 | flt i=>cases hv;rfl
 | lst i=>cases hv;rfl
 | frz i=>cases hv;rfl
 | tup i=>cases hv;rfl
 | dK i=>cases hv;rfl
 | dT i=>cases hv;rfl
 | ext i _=>cases hv;rfl
 | ins=>cases hv
end L2
local macro_rules|`($a ^^^ $b)=>`(@L2.ad _ _ _ _ _ $a $b rfl)
local macro_rules|`($a<<<$b)=>`(@L2.af _ _ _ _ _ $a $b)
local macro_rules|`($a>>>$b)=>`(@L2.af _ _ _ _ _ $a (@L2.ai _ _ _ $b))
local macro_rules|`($a⁻¹)=>`(@L2.ai _ _ _ (@L2.au _ _ _ _ $a))
local macro_rules|`($a∩$b)=>`(@L2.aq _ _ _ _ _ _ _ _ _ _ $a (($(Lean.mkIdent `hr)).mono ∅) rfl $b ∅ rfl rfl)
local macro_rules|`($a∪$b)=>`(@L2.aq _ _ _ _ _ _ _ _ _ _ $a $(Lean.mkIdent `hr) rfl $b ∅ rfl rfl)
local macro_rules|`($a∣$b)=>`(@L2.aA _ _ $a _ _ _ _ $(Lean.mkIdent `nd) rfl (Or.inl rfl) $b rfl (Or.inl rfl))
local macro_rules|`($a&&&$o&&&$b)=>`(@L2.aN _ _ _ _ _ _ _ $o $a $b (fun _ _=>rfl))
local macro_rules|`($a|||$o|||$b)=>`(@L2.ax _ _ _ _ _ _ _ _ $o $a $b)
local macro_rules|`($a•$b)=>`(L2.ar (L2.am (i:=$a) $(Lean.mkIdent `nd) rfl (Or.inl rfl)) $b)
local macro_rules|`($a<*>$o<*>$b)=>`(@L2.aB _ _ _ _ _ _ _ _ $o $a $b (L2.ay _))
local macro_rules|`($a<|>$b<|>$c)=>`(@L2.aS _ _ _ _ _ _ _ _ $a $b $c)
namespace Pc
open PySem L2
structure Pot(a b:Int):Prop where
 a0:0<=a
 b0:0<=b
 b1:b < 2147483629
def But(p:Mi)(H H':Hp):Prop:=∀b o,b≠p->H b=some o->H' b=some o
theorem But.trans{p:Mi}{H H1 H2:Hp}(a:But p H H1)(b:But p H1 H2):But p H H2:=λ c o n e=>b c o n (a c o n e)
theorem But.upd{p:Mi}{H:Hp}{o:HO}:But p H (upd H p o):=λ b u n e=>by rw[aj n];exact e
theorem But.new{p q:Mi}{H:Hp}{o:HO}(h:H q=none):But p H (L2.upd H q o):=λ b u n e=>by rw[aj (ak e h)];exact e
structure Kd where
 w:Int
 h:Int
 wo:Int
 wa:Int
 tu:Bool
def kdV(k:Kd):Mo V:=[.int k.w,.int k.h,.int k.wo,.int k.wa,.bl k.tu]
def kdD(k:Kd):PyData:=.tuple [.int k.w,.int k.h,.int k.wo,.int k.wa,.bool k.tu]
structure Good(k:Kd):Prop where
 w:1<=k.w
 h:1<=k.h
 wo:0<=k.wo
 wa:0<=k.wa
 w':k.w < 10 ^ 60
 h':k.h < 10 ^ 60
 wo':k.wo < 10 ^ 60
 wa':k.wa < 10 ^ 60
def TupAt(H:Hp)(v:V)(k:Kd):Prop:=∃a,v=.ref a/\H a= ~~~(kdV k)
def je(H:Hp)(v:V)(k:Kd):Prop:=∃a,v=.ref a/\H a=↥(kdV k)
def RowAt(H:Hp)(v:V)(k:Kd):Prop:=TupAt H v k\/je H v k
abbrev Tups(H:Hp):Mo V->Mo Kd->Prop:=Paired (TupAt H)
theorem Tups.keep{H H':Hp}(k:∀b xs,H b= ~~~xs->H' b= ~~~xs):∀{xs:Mo V}{ks:Mo Kd},Tups H xs ks->Tups H' xs ks:=λ r=>
 G5 r λ v kd %[a,e|h]=>%[a,e|k a _ h]
structure ToldAt(H:Hp)(t l:Mi)(bl:Int)(xs:Mo V)(ks:Mo Kd):Prop where
 t:H t= ~~~[.int bl,.ref l]
 l:H l=↥xs
 r:Tups H xs ks
 b0:0<=bl
 b1:bl < 10 ^ 60
 g:∀k∈ks,Good k
 n0:1<=xs.length
 n1:xs.length<=8
def dZ(K:C6):Sp:=λ vs H Q _=>∃(x:V)(T:String)(l:Int),vs=[x,.int l]/\Ty K H x T/\Q (.bl (aQ x l)) H
def lE(K:C6):Sp:=λ vs H Q _=>∃(x:V)(T:String),vs=[x]/\Ty K H x T/\Q (.bl (rZ x)) H
def uY(K:C6):Sp:=λ vs H Q _=>∃(x:V)(T:String),vs=[x]/\Ty K H x T/\∀H',Same H H'->Q (.bl (T == "list" || T == "tuple")) H'
def kH:Mo V->Bool
 | [w,h,wo,wa,tu]=>aQ w 1 && aQ h 1 && aQ wo 0 && aQ wa 0 && rZ tu
 | _=>false
def jf(K:C6):Sp:=λ vs H Q _=>∃(x:V)(T:String),vs=[x]/\Ty K H x T /\ 
 ((T ≠ "list" /\ T ≠ "tuple" /\ ∀H',Same H H'->Q (.bl false) H')\/∃(a:Mi)(xs:Mo V),x=.ref a/\(H a=↥xs\/H a= ~~~xs)/\(∀y∈xs,∃U,Ty K H y U)/\∀H',Same H H'->Q (.bl (kH xs)) H')
theorem jg{k:Kd}(g:Good k):kH (kdV k)=true:=by
 show(decide (1<=k.w) && decide (1<=k.h) && decide (0<=k.wo) && decide (0<=k.wa) && true)=true;rw[Mx g.w,Mx g.h,Mx g.wo,Mx g.wa]
 rfl
theorem Ty.same{K:C6}{H H':Hp}{x:V}{T:String}(s:Same H H')(t:Ty K H x T):Ty K H' x T:=by
 refine%[t.1|?_];have t2:=t.2;generalize hv:Value.type T=tv at t2 ⊢;cases t2 with
 | non=>exact .non
 | bl b=>exact .bl b
 | int b=>exact .int b
 | str b=>exact .str b
 | flt b=>exact .flt b
 | lst e=>exact .lst (s _ _ e)
 | frz e=>exact .frz (s _ _ e)
 | tup e=>exact .tup (s _ _ e)
 | dK e=>exact .dK (s _ _ e)
 | dT e=>exact .dT (s _ _ e)
 | ext e c=>exact .ext (s _ _ e) c
 | ins=>cases hv
end Pc
namespace L2
open PySem PySem.Spec PyProof.Rows
abbrev uZ(K:C6):Mo V->Hp->VK->Prop:=rz_call_tuple_of K
theorem vb{K:C6}{j:Nat}{a:Mi}{xs:Mo V}{g:TG}{tb:TS}{D:Ends}{σ:St}{H:Hp}(hσ:σ[j]?=some (↑a))(hs:H a=↥xs\/H a= ~~~xs)(Pv:Nat->St->Hp->Prop)(h0:Pv 0 σ H)
  (hk:∀i σ H',i<=xs.length->Pv i σ H'->∀o,H a=some o->H' a=some o)
  (ht:∀i x σ H,xs[i]?=some x->Pv i σ H->g x σ H λ σ2 H2=>tb { D with nx:=Pv (i+1),ct:=Pv (i+1),bk:=D.nx } σ2 H2) (hd:∀σ H,Pv xs.length σ H->D.nx σ H):Ef (zK K (tVar j)) g tb D σ H:=by
 rcases hs with z | z
 ·exact .inl %[_,hσ,a,O,%[xs|G4 z]|dD (xs:=xs) Pv h0 (λ i σ H' hi p=>G4 (hk i σ H' hi p _ z)) ht hd]
 ·exact .inr %[_,hσ,a,O,%[xs|G3 z]|xj (xs:=xs) Pv h0 (λ i σ H' hi p=>G3 (hk i σ H' hi p _ z)) ht hd]
def Nx(n:Nat)(Pv:Nat->Mo V->Hp->Prop)(i:Nat)(ys:Mo V)(H:Hp):Prop:=∃m',m' < n - i/\m'=n - (i+1)/\i+1<=n/\Pv (i+1) ys H
theorem Nx.of{n:Nat}{Pv:Nat->Mo V->Hp->Prop}{i:Nat}{ys:Mo V}{H:Hp}(h:i < n)(p:Pv (i+1) ys H):Nx n Pv i ys H:=%[n - (i+1),⋯,O,h|p]
theorem bI{K:C6}{a:Mi}{xs:Mo V}{σ:St}{cap:Mo Nat}{k:Nat}{g:TG}{tt:TT}{te:TE}{Q:Mo V->Hp->Prop}{H:Hp}(hs:H a=↥xs\/H a= ~~~xs)(Pv:Nat->Mo V->Hp->Prop)
  (hk:∀i ys H',i<=xs.length->Pv i ys H'->∀o,H a=some o->H' a=some o) (h0:Pv 0 [] H)
  (ht:∀i x ys H',xs[i]?=some x->Pv i ys H'->ys.length < sizeLine/\g x (aV σ cap k) H' λ σ2 H2=>leS (aV σ cap k) σ2/\tt σ2 H2 λ ok H3=>if ok=true then te σ2 H3 (λ v H4=>Nx xs.length Pv i (ys ++ [v]) H4)else Nx xs.length Pv i ys H3)
  (hd:∀ys H',Pv xs.length ys H'->ys.length<=sizeLine/\Q ys H') :
  (H a=↥xs->∃W,(∃m,W 0 m [] H)/\eE σ cap k (Itl K a) g tt te Q W)/\(H a= ~~~xs->∃W,(∃m,W 0 m [] H)/\eE σ cap k (Itt K a) g tt te Q W):=by
 refine%[λ z=>%[λ i m ys H'=>m=xs.length - i/\i<=xs.length/\Pv i ys H',%[_,O,E8 _|h0]|?_]|λ z=>%[λ i m ys H'=>m=xs.length - i/\i<=xs.length/\Pv i ys H',%[_,O,E8 _|h0]|?_]]
 ·rintro i m ys H' ⟨rfl,hi,p⟩;have z':=hk i ys H' hi p _ z
  by_cases hin:i < xs.length
  ·obtain⟨e,hg⟩:=ht i xs[i] ys H' (by simp[hin]) p;refine .inr %[%[xs,xs[i],G4 z'|by simp[hin]],e|λ x H2 yl=>?_];obtain⟨e1,e2⟩:=yl;have e3:=e2 xs (G4 z');have e4:x=xs[i]:=by simpa[hin]using e3.symm
   subst e1 e4;exact hg
  ·have e:i=xs.length:=⋯
   subst e;obtain⟨a1,a2⟩:=hd ys H' p;exact .inl %[%[xs,G4 z'|B3 _],a1|a2]
 ·rintro i m ys H' ⟨rfl,hi,p⟩;have z':=hk i ys H' hi p _ z
  by_cases hin:i < xs.length
  ·obtain⟨e,hg⟩:=ht i xs[i] ys H' (by simp[hin]) p;refine .inr %[%[xs,xs[i],G3 z'|by simp[hin]],e|λ x H2 yl=>?_];obtain⟨e1,e2⟩:=yl;have e3:=e2 xs (G3 z');have e4:x=xs[i]:=by simpa[hin]using e3.symm
   subst e1 e4;exact hg
  ·have e:i=xs.length:=⋯
   subst e;obtain⟨a1,a2⟩:=hd ys H' p;exact .inl %[%[xs,G3 z'|B3 _],a1|a2]
theorem sd{K:C6}{j:Nat}{a:Mi}{xs:Mo V}{σ:St}{cap:Mo Nat}{k:Nat}{g:TG}{tt:TT}{te:TE}{Q:VK}{H:Hp}(hσ:σ[j]?=some (↑a))(hs:H a=↥xs\/H a= ~~~xs)(Pv:Nat->Mo V->Hp->Prop)
  (hk:∀i ys H',i<=xs.length->Pv i ys H'->∀o,H a=some o->H' a=some o) (h0:Pv 0 [] H)
  (ht:∀i x ys H',xs[i]?=some x->Pv i ys H'->ys.length < sizeLine/\g x (aV σ cap k) H' λ σ2 H2=>leS (aV σ cap k) σ2/\tt σ2 H2 λ ok H3=>if ok=true then te σ2 H3 (λ v H4=>Nx xs.length Pv i (ys ++ [v]) H4)else Nx xs.length Pv i ys H3)
  (hd:∀ys H',Pv xs.length ys H'->ys.length<=sizeLine/\∀p,H' p=none->Q (.ref p) (upd H' p (.lst ys))):uT (zK K (tVar j)) cap k g tt te σ H Q:=by
 obtain⟨c1,c2⟩:=bI (K:=K) (σ:=σ) (cap:=cap) (k:=k) (g:=g) (tt:=tt) (te:=te) hs Pv hk h0 ht hd;rcases hs with z | z
 ·exact .inl %[_,hσ,a,O,%[xs|G4 z]|c1 z]
 ·exact .inr %[_,hσ,a,O,%[xs|G3 z]|c2 z]
end L2
namespace Pc
open PySem L2
def oC(b:Int)(r:Mi):Mo (Str×V):=cW "kind_rows" (.ref r) (cW "blade_width" (.int b) [])
theorem kbw:¬ (("blade_width" : Str) = "kind_rows"):=∅
theorem oE(b:Int)(r:Mi):(oC b r).lookup ("blade_width" : Str)=⇑b:=by unfold oC;rw[bB,Mu kbw,bB,Mw rfl]
theorem cK(b:Int)(r:Mi):(oC b r).lookup ("kind_rows" : Str)=↑r:=by unfold oC;rw[bB,Mw rfl]
theorem bi(b:Int)(r:Mi){m:Str}(h1:¬ m = "kind_rows")(h2:¬ m = "blade_width"):(oC b r).lookup m=none:=by
 unfold oC;rw[bB,Mu h1,bB,Mu h2]
 all_goals rfl
def ShopAt(C:Mi)(H:Hp)(x:Mi)(b:Int)(ks:Mo Kd):Prop:=∃dx r rs,H x=some (.ins C dx (oC b r))/\H r= ~~~rs/\Tups H rs ks
theorem ShopAt.keep{C:Mi}{H H':Hp}{x:Mi}{b:Int}{ks:Mo Kd}(s:ShopAt C H x b ks)(k1:∀b xs,H b= ~~~xs->H' b= ~~~xs)(k2:∀b C dx fs,H b=some (.ins C dx fs)->H' b=some (.ins C dx fs)):ShopAt C H' x b ks:=by obtain⟨dx,r,rs,h1,h2,h3⟩:=s;exact%[dx,r,rs,k2 _ _ _ _ h1,k1 _ _ h2|Tups.keep k1 h3]
def oF(C:Mi):Sp:=λ vs H Q _=>∃(x dx ks:Mi)(b:Int)(rs:Mo V)(kds:Mo Kd),vs=[.ref x,.int b,.ref ks]/\H x=some (.ins C dx [])/\0<=b/\(H ks=↥rs\/H ks= ~~~rs)/\Paired (RowAt H) rs kds/\(∀k∈kds,Good k)/\1<=rs.length/\rs.length<=8 /\
 ∀H':Hp,ShopAt C H' x b kds->(∀c o,c≠x->H c=some o->H' c=some o)->Q .non H'
def iO(C:Mi):Sp:=λ vs H Q _=>∃(x:Mi)(b:Int)(ks:Mo Kd),vs=[.ref x]/\ShopAt C H x b ks/\Q (.int b) H
def lF(C:Mi):Sp:=λ vs H Q _=>∃(x:Mi)(b:Int)(ks:Mo Kd),vs=[.ref x]/\ShopAt C H x b ks/\∀(l:Mi)(rs:Mo V),H l=none->Tups H rs ks->Q (.ref l) (upd H l (.lst rs))
theorem qR{K:C6}{H:Hp}{k:Kd}:∀y∈kdV k,∃U,Ty K H y U:=by
 intro y hy;simp only[kdV,G7,C2,NG]at hy;rcases hy with rfl | rfl | rfl | rfl | rfl
 ·exact%[_|.int]
 ·exact%[_|.int]
 ·exact%[_|.int]
 ·exact%[_|.int]
 ·exact%[_|.bl]
theorem Paired.getR{α β:Type}{F:α->β->Prop}:∀{l₁:Mo α}{l₂:Mo β}{i:Nat}{x:α},Paired F l₁ l₂->l₁[i]?=some x->∃y,l₂[i]?=some y/\F x y
 | _,_,_,_,.nil,e=>by simp at e
 | _,_,0,_,.cons h _,e=>by simp at e;subst e;exact%[_,O|h]
 | _,_,i+1,x,.cons _ t,e=>by obtain⟨y,h1,h2⟩:=Paired.getR (i:=i) (x:=x) t (by simpa using e);exact%[y,by simpa using h1|h2]
abbrev G6:=@Paired.getR
theorem RowAt.same{H H':Hp}{v:V}{k:Kd}(s:Same H H')(r:RowAt H v k):RowAt H' v k:=by
 rcases r with⟨a,e,h⟩ | ⟨a,e,h⟩
 ·exact .inl %[a,e|s _ _ h]
 ·exact .inr %[a,e|s _ _ h]
theorem se{K:C6}{H:Hp}{v:V}{k:Kd}{Q:VK}{E:XK}(r:RowAt H v k)(g:Good k)(q:∀H',Same H H'->Q (.bl true) H'):jf K [v] H Q E:=by
 rcases r with⟨a,rfl,h⟩ | ⟨a,rfl,h⟩
 ·exact%[_,_,O,.tup h|.inr %[a,_,O,.inr h,qR|λ H' s=>by rw[jg g];exact q H' s]]
 ·exact%[_,_,O,.lst h|.inr %[a,_,O,.inl h,qR|λ H' s=>by rw[jg g];exact q H' s]]
structure ShopTxt(K:C6)(C:Mi):Prop where
 cl:Cls K C
 nB:NoAttr K C "blade_width"
 nK:NoAttr K C "kind_rows"
end Pc
namespace L2
open PySem PySem.Spec PyProof.Rows
def Mn(P:F8)(w:G0)(K:C6)(mg:Str->Ml G1)(base:Heap)(C:Mi)(m:Str)(ps:Mo Str)(k:Nat)(sp:Sp):Prop :=
 ∃(f:Mi)(fd:F9),FnOk P w K mg base CX0 k f fd ps sp/\Binds K fd ps []/\Meth K C m f
theorem cF{X:Cx}{k:Nat}{C:Mi}{ps:Mo Str}{sp:Sp}{m:Str}{o:Expr}{ta:TE}{apos pos:Pos}{pl:Sem Bool}(he:PE X o ta)(c:Cls X.K C)(D:Mn X.prog X.w X.K X.mg X.base C m ps k sp)(hr:Room k X.A)
  (ht:eval (.Call (.Attribute o m apos) [] [] pos) X.env=(do
   let ov<-eval o X.env
   standAt apos.atName
   let (f,first)<-holding [ov] (getMethod ov m pl)
   callWith pos f first (backTo pos (starEach [] X.env)) (backToKw pos (keywordEach [] X.env))):=by rfl):PE X (.Call (.Attribute o m apos) [] [] pos) (qH C m sp [] E0 ta eI):=by
 obtain⟨f,fd,F,hb,hm⟩:=D;exact uN he c hm F hr hb .nil qN ht
def Kn(P:F8)(w:G0)(K:C6)(mg:Str->Ml G1)(base:Heap)(x:Str)(C:Mi)(ps:Mo Str)(k:Nat)(sp:Sp):Prop :=
 ∃(f:Mi)(fd:F9),Mk K C f/\FnOk P w K mg base CX0 k f fd ps sp/\Binds K fd ps []/\mg x=↑C
theorem En{X:Cx}{k:Nat}{C:Mi}{ps:Mo Str}{sp:Sp}{x:Str}{p pos:Pos}{e:Expr}{es:Mo Expr}{t:TA}(D:Kn X.prog X.w X.K X.mg X.base x C ps k sp)(hr:Room (k+1) X.A)(hg:Gl X x)(ha:PA X (e :: es) t)
  (hdb:(x == ("__debug__" : Str))=false:=by decide) (he:starEach (e :: es) X.env=(false,eval e X.env) :: starEach es X.env:=by rfl) (hpl:(backTo pos (starEach es X.env)).any (·.1)=false:=by rfl) :
  PE X (.Call (.Name x p) (e :: es) [] pos) (za C sp [] E0 t):=by
 obtain⟨f,fd,M,F,hb,hm⟩:=D;exact xx M F hr hg hm hb .nil qN ha hdb he hpl
end L2
namespace Pc
open PySem L2
theorem Paired.app{α β:Type}{F:α->β->Prop}:∀{l₁ m₁:Mo α}{l₂ m₂:Mo β},Paired F l₁ l₂->Paired F m₁ m₂->Paired F (l₁ ++ m₁) (l₂ ++ m₂)
 | _,_,_,_,.nil,s=>s
 | _,_,_,_,.cons r t,s=>.cons r (Paired.app t s)
theorem Same.new{q:Mi}{H:Hp}{o:HO}(h:H q=none):Same H (upd H q o):=λ b u e=>by rw[aj (ak e h)];exact e
abbrev G2:=@Same.new
end Pc
namespace L2
open PySem PySem.Spec PyProof.Rows
def RI(M:Model)(Γ:PySem.Ctx)(p:Pos)(s:F7)(e:End)(s':F7):Sem Fin->Prop
 | .pure (.done f)=>e=.ret (.ok f)/\s=s'
 | .pure (.again c)=>Runs M (Γ.goto c) p (M.den c) [] s e s'
 | .raise x=>e=.ret (.error x)/\s=s'
 | .rule _ k=>Runs M Γ p (k ()) [] s e s'
 | .at p' k=>Runs M Γ p' (k ()) [] s e s'
 | .load a _ k=>∃o,s.heap.get? a=some o/\Runs M Γ p (k o) [] s e s'
 | .update a _ f k=>Runs M Γ p (k ()) [] { s with heap:=s.heap.update a f } e s'
 | .loadIfAlive a k=>Runs M Γ p (k (s.heap.get? a)) [] s e s'
 | .point _ k=>Runs M Γ p (k ()) [] s e s'
 | .alloc o k=>Runs M Γ p (k s.heap.objs.size) [] { s with heap:=s.heap.push o } e s'
 | .fresh k=>Runs M Γ p (k s.toks) [] { s with toks:=s.toks+1 } e s'
 | .ask k=>Runs M Γ p (k %[M.prog|M.w.params]) [] s e s'
 | .choose src n k=>Runs M Γ p (k (M.w.draws src (s.drawn.get src) % n)) [] { s with drawn:=s.drawn.bump src } e s'
 | .os q _ k=>Runs M Γ p (k (Os.step s.os q).2) [] { s with os:=(Os.step s.os q).1 } e s'
 | .handled own k=>Runs M Γ p (k (if own then Γ.own else Γ.handled)) [] s e s'
 | .genState g k=>∃st,s.gens[g]?=some st/\Runs M Γ p (k st.seen) [] s e s'
 | .stack k=>Runs M Γ p (k ((Γ.code,p) :: Γ.below)) [] s e s'
 | .thread k=>Runs M Γ p (k 0) [] s e s'
 | .newGen c k=>Runs M Γ p (k s.gens.size) [] { s with gens:=s.gens.push (.fresh c) } e s'
 | .yield v g l k=>e=.susp v g l k Γ.code p []/\s=s'
 | .call c h g l k=>(∃r s₁,Runs M (Γ.enter c h p) p (M.den c) [] s (.ret r) s₁/\Runs M Γ p (k r) [] s₁ e s') \/
   (∃v g₀ l₀ k₀ c₀ p₀ fs,Runs M (Γ.enter c h p) p (M.den c) [] s (.susp v g₀ l₀ k₀ c₀ p₀ fs) s'/\e=.susp v g₀ l₀ k₀ c₀ p₀ (fs ++ [.ret k h g l Γ.code p []]))
 | .resume g r _ k=>(∃c e₁ s₁,r=.send .none/\s.gens[g]?=some (.fresh c)/\Runs M (Γ.wake c p) p (M.den c) [] (s.setGen g .running) e₁ s₁/\Runs M Γ p (k e₁.result) [] (s₁.setGen g e₁.genState) e s') \/
   (∃k₀ l₀ c₀ p₀ fs cl e₁ s₁,s.gens[g]?=some (.suspended k₀ l₀ c₀ p₀ fs cl)/\Runs M (Γ.wake c₀ p) p₀ (k₀ r) fs (s.setGen g .running) e₁ s₁/\Runs M Γ p (k e₁.result) [] (s₁.setGen g e₁.genState) e s') \/
   (∃c v,r=.send v/\v≠.none/\s.gens[g]?=some (.fresh c)/\Runs M Γ p (k .justStarted) [] s e s') \/
   (∃c x,r=.throw x/\s.gens[g]?=some (.fresh c)/\Runs M Γ p (k (.raised x)) [] (s.setGen g .finished) e s') \/
   (s.gens[g]?=some .running/\Runs M Γ p (k .running) [] s e s')\/(s.gens[g]?=some .finished/\Runs M Γ p (k .finished) [] s e s')
 | _=>True
def RJ(M:Model)(Γ:PySem.Ctx)(p:Pos)(t:Sem Fin)(s:F7)(e:End)(s':F7):Mo Frame->Prop
 | []=>RI M Γ p s e s' t
 | F :: fs=>(∃k h g l c₁ p₁ kp r s₁,F=.ret k h g l c₁ p₁ kp/\Runs M (Γ.over (F :: fs)) p t [] s (.ret r) s₁/\Runs M (Γ.goto c₁) p₁ (k r) fs s₁ e s') \/
   (∃g k l c₁ p₁ r s₁,F=.gen g k l c₁ p₁/\Runs M (Γ.over (F :: fs)) p t [] s (.ret r) s₁/\Runs M (Γ.goto c₁) p₁ (k (End.ret r).result) fs (s₁.setGen g .finished) e s') \/
   (∃v g₀ l₀ k₀ c₀ p₀ fs₀,splitAtGen (F :: fs)=none/\Runs M (Γ.over (F :: fs)) p t [] s (.susp v g₀ l₀ k₀ c₀ p₀ fs₀) s'/\e=.susp v g₀ l₀ k₀ c₀ p₀ (fs₀ ++ F :: fs)) \/
   (∃pre g k c₁ p₁ rest v g₀ l₀ k₀ c₀ p₀ fs₀ s₁,splitAtGen (F :: fs)=some (pre,(g,k,c₁,p₁),rest)/\Runs M (Γ.over (F :: fs)) p t [] s (.susp v g₀ l₀ k₀ c₀ p₀ fs₀) s₁/\Runs M (Γ.goto c₁) p₁ (k (.yielded v)) rest (s₁.setGen g (End.susp v g₀ l₀ k₀ c₀ p₀ (fs₀ ++ pre)).genState) e s')
theorem bC{M:Model}{Γ:PySem.Ctx}{p:Pos}{t:Sem Fin}{fs:Mo Frame}{s s':F7}{e:End}(h:Runs M Γ p t fs s e s'):RJ M Γ p t s e s' fs:=by
 cases h with
 | done=>exact%[O|O]
 | raise=>exact%[O|O]
 | again _ b=>exact b
 | rule b=>exact b
 | «at» b=>exact b
 | load a b=>exact%[_,a|b]
 | update _ b=>exact b
 | loadIfAlive b=>exact b
 | point b=>exact b
 | alloc b=>exact b
 | fresh b=>exact b
 | ask b=>exact b
 | choose _ b=>exact b
 | os b=>exact b
 | handled b=>exact b
 | genState a b=>exact%[_,a|b]
 | stack b=>exact b
 | thread b=>exact b
 | newGen b=>exact b
 | call a b=>exact .inl %[_,_,a|b]
 | callSusp a=>exact .inr %[_,_,_,_,_,_,_,a|O]
 | yield=>exact%[O|O]
 | resumeFresh a b _ c=>exact .inl %[_,_,_,O,a,b|c]
 | resumeSuspended a b _ c=>exact .inr (.inl %[_,_,_,_,_,_,_,_,a,b|c])
 | resumeJustStarted a b c=>exact .inr (.inr (.inl %[_,_,O,b,a|c]))
 | resumeThrowFresh a b=>exact .inr (.inr (.inr (.inl %[_,_,O,a|b])))
 | resumeRunning a b=>exact .inr (.inr (.inr (.inr (.inl %[a|b]))))
 | resumeFinished a b=>exact .inr (.inr (.inr (.inr (.inr %[a|b]))))
 | segRet a b=>exact .inl %[_,_,_,_,_,_,_,_,_,O,a|b]
 | segGen a b=>exact .inr (.inl %[_,_,_,_,_,_,_,O,a|b])
 | segSuspOut a b=>exact .inr (.inr (.inl %[_,_,_,_,_,_,_,a,b|O]))
 | segSuspGen a b _ c=>exact .inr (.inr (.inr %[_,_,_,_,_,_,_,_,_,_,_,_,_,_,a,b|c]))
theorem jh{M:Model}{Γ:PySem.Ctx}{p:Pos}{t:Sem Fin}{fs:Mo Frame}{s s':F7}{e:End}(h:Runs M Γ p t fs s e s'):∀{e2:End}{s2:F7},Runs M Γ p t fs s e2 s2->e=e2/\s'=s2:=by
 induction h with
 | done=>exactλ h2=>%[(bC h2).1.symm|(bC h2).2]
 | raise=>exactλ h2=>%[(bC h2).1.symm|(bC h2).2]
 | again _ _ ih=>exactλ h2=>ih (bC h2)
 | rule _ ih=>exactλ h2=>ih (bC h2)
 | «at» _ ih=>exactλ h2=>ih (bC h2)
 | load he _ ih=>
  intro e2 s2 h2;obtain⟨o,b1,b2⟩:=bC h2;rw[he]at b1;cases b1;exact ih b2
 | update _ _ ih=>exactλ h2=>ih (bC h2)
 | loadIfAlive _ ih=>exactλ h2=>ih (bC h2)
 | point _ ih=>exactλ h2=>ih (bC h2)
 | alloc _ ih=>exactλ h2=>ih (bC h2)
 | fresh _ ih=>exactλ h2=>ih (bC h2)
 | ask _ ih=>exactλ h2=>ih (bC h2)
 | choose _ _ ih=>exactλ h2=>ih (bC h2)
 | os _ ih=>exactλ h2=>ih (bC h2)
 | handled _ ih=>exactλ h2=>ih (bC h2)
 | genState he _ ih=>
  intro e2 s2 h2;obtain⟨o,b1,b2⟩:=bC h2;rw[he]at b1;cases b1;exact ih b2
 | stack _ ih=>exactλ h2=>ih (bC h2)
 | thread _ ih=>exactλ h2=>ih (bC h2)
 | newGen _ ih=>exactλ h2=>ih (bC h2)
 | call _ _ ih1 ih2=>
  intro e2 s2 h2;rcases bC h2 with⟨r,s1,a,b⟩ | ⟨_,_,_,_,_,_,_,a,_⟩
  ·obtain⟨q1,q2⟩:=ih1 a;cases q1;subst q2;exact ih2 b
  ·obtain⟨q1,_⟩:=ih1 a;cases q1
 | callSusp _ ih1=>
  intro e2 s2 h2;rcases bC h2 with⟨r,s1,a,b⟩ | ⟨_,_,_,_,_,_,_,a,b⟩
  ·obtain⟨q1,_⟩:=ih1 a;cases q1
  ·obtain⟨q1,q2⟩:=ih1 a;cases q1;exact%[b.symm|q2]
 | yield=>exactλ h2=>%[(bC h2).1.symm|(bC h2).2]
 | resumeFresh hg _ _ _ ih1 ih2=>
  intro e2 s2 h2;rcases bC h2 with⟨_,_,_,_,g,a,b⟩ | ⟨_,_,_,_,_,_,_,_,g,_⟩ | ⟨_,v,rv,n,_⟩ | ⟨_,_,rv,_⟩ | ⟨g,_⟩ | ⟨g,_⟩
  ·rw[hg]at g;cases g;obtain⟨q1,q2⟩:=ih1 a;subst q1 q2;exact ih2 b
  ·rw[hg]at g;cases g
  ·cases rv;exact absurd rfl n
  ·cases rv
  ·rw[hg]at g;cases g
  ·rw[hg]at g;cases g
 | resumeSuspended hg _ _ _ ih1 ih2=>
  intro e2 s2 h2;rcases bC h2 with⟨_,_,_,_,g,a,b⟩ | ⟨_,_,_,_,_,_,_,_,g,a,b⟩ | ⟨_,v,rv,n,g,_⟩ | ⟨_,_,rv,g,_⟩ | ⟨g,_⟩ | ⟨g,_⟩
  ·rw[hg]at g;cases g
  ·rw[hg]at g;cases g;obtain⟨q1,q2⟩:=ih1 a;subst q1 q2;exact ih2 b
  ·rw[hg]at g;cases g
  ·rw[hg]at g;cases g
  ·rw[hg]at g;cases g
  ·rw[hg]at g;cases g
 | resumeJustStarted hg n _ ih=>
  intro e2 s2 h2;rcases bC h2 with⟨_,_,_,rv,_⟩ | ⟨_,_,_,_,_,_,_,_,g,a,b⟩ | ⟨_,v,rv,_,g,b⟩ | ⟨_,_,rv,g,_⟩ | ⟨g,_⟩ | ⟨g,_⟩
  ·cases rv;exact absurd rfl n
  ·rw[hg]at g;cases g
  ·exact ih b
  ·cases rv
  ·rw[hg]at g;cases g
  ·rw[hg]at g;cases g
 | resumeThrowFresh hg _ ih=>
  intro e2 s2 h2;rcases bC h2 with⟨_,_,_,rv,_⟩ | ⟨_,_,_,_,_,_,_,_,g,a,b⟩ | ⟨_,v,rv,_,g,b⟩ | ⟨_,_,rv,g,b⟩ | ⟨g,_⟩ | ⟨g,_⟩
  ·cases rv
  ·rw[hg]at g;cases g
  ·cases rv
  ·cases rv;exact ih b
  ·rw[hg]at g;cases g
  ·rw[hg]at g;cases g
 | resumeRunning hg _ ih=>
  intro e2 s2 h2;rcases bC h2 with⟨_,_,_,_,g,_⟩ | ⟨_,_,_,_,_,_,_,_,g,a,b⟩ | ⟨_,v,rv,_,g,b⟩ | ⟨_,_,rv,g,b⟩ | ⟨g,b⟩ | ⟨g,_⟩
  ·rw[hg]at g;cases g
  ·rw[hg]at g;cases g
  ·rw[hg]at g;cases g
  ·rw[hg]at g;cases g
  ·exact ih b
  ·rw[hg]at g;cases g
 | resumeFinished hg _ ih=>
  intro e2 s2 h2;rcases bC h2 with⟨_,_,_,_,g,_⟩ | ⟨_,_,_,_,_,_,_,_,g,a,b⟩ | ⟨_,v,rv,_,g,b⟩ | ⟨_,_,rv,g,b⟩ | ⟨g,b⟩ | ⟨g,b⟩
  ·rw[hg]at g;cases g
  ·rw[hg]at g;cases g
  ·rw[hg]at g;cases g
  ·rw[hg]at g;cases g
  ·rw[hg]at g;cases g
  ·exact ih b
 | segRet _ _ ih1 ih2=>
  intro e2 s2 h2;rcases bC h2 with⟨_,_,_,_,_,_,_,_,_,z,a,b⟩ | ⟨_,_,_,_,_,_,_,z,_⟩ | ⟨_,_,_,_,_,_,_,_,a,_⟩ | ⟨_,_,_,_,_,_,_,_,_,_,_,_,_,_,_,a,_⟩
  ·cases z;obtain⟨q1,q2⟩:=ih1 a;cases q1;subst q2;exact ih2 b
  ·cases z
  ·obtain⟨q1,_⟩:=ih1 a;cases q1
  ·obtain⟨q1,_⟩:=ih1 a;cases q1
 | segGen _ _ ih1 ih2=>
  intro e2 s2 h2;rcases bC h2 with⟨_,_,_,_,_,_,_,_,_,z,a,b⟩ | ⟨_,_,_,_,_,_,_,z,a,b⟩ | ⟨_,_,_,_,_,_,_,_,a,_⟩ | ⟨_,_,_,_,_,_,_,_,_,_,_,_,_,_,_,a,_⟩
  ·cases z
  ·cases z;obtain⟨q1,q2⟩:=ih1 a;cases q1;subst q2;exact ih2 b
  ·obtain⟨q1,_⟩:=ih1 a;cases q1
  ·obtain⟨q1,_⟩:=ih1 a;cases q1
 | segSuspOut hn _ ih1=>
  intro e2 s2 h2;rcases bC h2 with⟨_,_,_,_,_,_,_,_,_,z,a,b⟩ | ⟨_,_,_,_,_,_,_,z,a,b⟩ | ⟨_,_,_,_,_,_,_,_,a,z⟩ | ⟨_,_,_,_,_,_,_,_,_,_,_,_,_,_,hs,a,_⟩
  ·obtain⟨q1,_⟩:=ih1 a;cases q1
  ·obtain⟨q1,_⟩:=ih1 a;cases q1
  ·obtain⟨q1,q2⟩:=ih1 a;cases q1;exact%[z.symm|q2]
  ·rw[hn]at hs;cases hs
 | segSuspGen hs _ _ _ ih1 ih2=>
  intro e2 s2 h2;rcases bC h2 with⟨_,_,_,_,_,_,_,_,_,z,a,b⟩ | ⟨_,_,_,_,_,_,_,z,a,b⟩ | ⟨_,_,_,_,_,_,_,hn,a,z⟩ | ⟨_,_,_,_,_,_,_,_,_,_,_,_,_,_,hs',a,b⟩
  ·obtain⟨q1,_⟩:=ih1 a;cases q1
  ·obtain⟨q1,_⟩:=ih1 a;cases q1
  ·rw[hn]at hs;cases hs
  ·rw[hs]at hs';cases hs';obtain⟨q1,q2⟩:=ih1 a;cases q1;subst q2;exact ih2 b
theorem xF{α:Type}(M:Model)(Γ:PySem.Ctx)(t:Sem α):∀(Q Q':α->Pos->F7->Prop)(E E':G1->Pos->F7->Prop)(p:Pos)(s:F7),Sem.wp M Γ t Q E p s->Sem.wp M Γ t Q' E' p s ->
  Sem.wp M Γ t (λ a p' s'=>Q a p' s'/\Q' a p' s') (λ e p' s'=>E e p' s'/\E' e p' s') p s:=by
 have det:∀{Δ:PySem.Ctx}{p:Pos}{s:F7}{r r':Result}{s1 s2:F7},Returns M Δ p s r s1->Returns M Δ p s r' s2->r=r'/\s1=s2:=by intro Δ p s r r' s1 s2 h1 h2;obtain⟨q1,q2⟩:=jh h1 h2;cases q1;exact%[O|q2]
 have detW:∀{Δ:PySem.Ctx}{p:Pos}{g:Nat}{r:Resume}{s:F7}{x x':GenResult}{s1 s2:F7},Wakes M Δ p g r s x s1->Wakes M Δ p g r s x' s2->x=x'/\s1=s2:=by
  intro Δ p g r s x x' s1 s2 h1 h2;unfold Wakes at h1 h2
  split at h1
  ·exact h1.elim
  ·split at h1
   ·obtain⟨e1,t1,a1,_,rfl,rfl⟩:=h1
    rename_i hg _ _
    simp only[hg]at h2;obtain⟨e2,t2,a2,_,rfl,rfl⟩:=h2;obtain⟨q1,q2⟩:=jh a1 a2;subst q1 q2;exact%[O|O]
   ·rename_i hg _ _ hn
    simp only[hg]at h2;obtain⟨rfl,rfl⟩:=h1;obtain⟨rfl,rfl⟩:=h2;exact%[O|O]
   ·rename_i hg _ _
    simp only[hg]at h2;obtain⟨rfl,rfl⟩:=h1;obtain⟨rfl,rfl⟩:=h2;exact%[O|O]
  ·rename_i hg
   simp only[hg]at h2;obtain⟨e1,t1,a1,_,rfl,rfl⟩:=h1;obtain⟨e2,t2,a2,_,rfl,rfl⟩:=h2;obtain⟨q1,q2⟩:=jh a1 a2;subst q1 q2;exact%[O|O]
  ·rename_i hg
   simp only[hg]at h2;obtain⟨rfl,rfl⟩:=h1;obtain⟨rfl,rfl⟩:=h2;exact%[O|O]
  ·rename_i hg
   simp only[hg]at h2;obtain⟨rfl,rfl⟩:=h1;obtain⟨rfl,rfl⟩:=h2;exact%[O|O]
 induction t with
 | pure a=>intro Q Q' E E' p s h h';exact%[h|h']
 | raise e=>intro Q Q' E E' p s h h';exact%[h|h']
 | unsupported _=>intro Q Q' E E' p s h _;exact h
 | finish _=>intro Q Q' E E' p s h _;exact h
 | rule _ k ih=>intro Q Q' E E' p s h h';exact ih () _ _ _ _ p s h h'
 | «at» p' k ih=>intro Q Q' E E' p s h h';exact ih () _ _ _ _ p' s h h'
 | load a _ k ih=>
  intro Q Q' E E' p s h h';obtain⟨o,ho,h⟩:=h;obtain⟨o',ho',h'⟩:=h';rw[ho]at ho';cases ho';exact%[o,ho|ih o _ _ _ _ p s h h']
 | update a _ f k ih=>intro Q Q' E E' p s h h';exact%[h.1|ih () _ _ _ _ p _ h.2 h'.2]
 | loadIfAlive a k ih=>intro Q Q' E E' p s h h';exact ih _ _ _ _ _ p s h h'
 | point _ k ih=>intro Q Q' E E' p s h h';exact ih () _ _ _ _ p s h h'
 | register _ _=>intro Q Q' E E' p s h _;exact h
 | alloc o k ih=>intro Q Q' E E' p s h h';exact ih _ _ _ _ _ p _ h h'
 | fresh k ih=>intro Q Q' E E' p s h h';exact ih _ _ _ _ _ p _ h h'
 | ask k ih=>intro Q Q' E E' p s h h';exact ih _ _ _ _ _ p s h h'
 | choose src m k ih=>intro Q Q' E E' p s h h';exact%[h.1|ih _ _ _ _ _ p _ h.2 h'.2]
 | os q _ k ih=>intro Q Q' E E' p s h h';exact ih _ _ _ _ _ p _ h h'
 | call c hd _ _ k ih=>
  intro Q Q' E E' p s h h';obtain⟨r,s',hr,h⟩:=h;obtain⟨r',s'',hr',h'⟩:=h';obtain⟨rfl,rfl⟩:=det hr hr';exact%[r,s',hr|ih r _ _ _ _ p s' h h']
 | handled own k ih=>intro Q Q' E E' p s h h';exact ih _ _ _ _ _ p s h h'
 | genState g k ih=>
  intro Q Q' E E' p s h h';obtain⟨st,hs,h⟩:=h;obtain⟨st',hs',h'⟩:=h';rw[hs]at hs';cases hs';exact%[st,hs|ih _ _ _ _ _ p s h h']
 | newGen c k ih=>intro Q Q' E E' p s h h';exact ih _ _ _ _ _ p _ h h'
 | resume g r _ k ih=>
  intro Q Q' E E' p s h h';obtain⟨x,s',hw,h⟩:=h;obtain⟨x',s'',hw',h'⟩:=h';obtain⟨rfl,rfl⟩:=detW hw hw';exact%[x,s',hw|ih x _ _ _ _ p s' h h']
 | yield _ _ _ _=>intro Q Q' E E' p s h _;exact h
 | stack k ih=>intro Q Q' E E' p s h h';exact ih _ _ _ _ _ p s h h'
 | fork _ _=>intro Q Q' E E' p s h _;exact h
 | thread k ih=>intro Q Q' E E' p s h h';exact ih _ _ _ _ _ p s h h'
 | await _ _ _ _ _=>intro Q Q' E E' p s h _;exact h
theorem cO{α:Type}{M:Model}{A:Around}{t:Sem α}{Q Q':α->F7->Prop}{E E':G1->F7->Prop}{s:F7}(h:wpAny M A t Q E s)(h':wpAny M A t Q' E' s) :
  wpAny M A t (λ a s'=>Q a s'/\Q' a s') (λ e s'=>E e s'/\E' e s') s:=λ Γ p hΓ=>xF M Γ t _ _ _ _ p s (h Γ p hΓ) (h' Γ p hΓ)
def Q2(e:Mi)(h:Heap):Prop:=∃oe vs,h.get? e=some oe/\oe.data=.fields vs/\vs[2]?=some .none
section
variable{M:Model}{A:Around}{E:G1->F7->Prop}{s:F7}{base:Heap}{env:Env}{outer l:Mo Env}{L e:Mi}{cls a0 fl:G1}{Q:Unit->F7->Prop}
theorem Q2.set{e c:Mi}{h:Heap}{i:Nat}{v:G1}(hi:i≠2)(q:Q2 e h):Q2 e (h.update c (Obj.mapFields (·.setIfInBounds i v))):=by
 obtain⟨oe,vs,he,hd,h2⟩:=q
 by_cases z:c=e
 ·subst z;have hd':=NY hd (·.setIfInBounds i v);exact%[_,_,NB _ he (NZ hd'),hd'|by rw[Array.getElem?_setIfInBounds_ne hi];exact h2]
 ·exact%[oe,vs,(NF _ _ z).trans he,hd|h2]
theorem Q2.push{e:Mi}{h:Heap}{o:Obj}(q:Q2 e h):Q2 e (h.push o):=let ⟨oe,vs,he,r⟩:=q;%[oe,vs,A7 _ he|r]
theorem vc{head:G1}{nx:Bool}(hfr:A.frames=some (env :: outer))(hl:s.heap.FunFrames base (env :: outer))(hf:env.frame=some L)(q:Q2 e s.heap)
  (h:∀h₁ o ts,Q2 e h₁->o.data=.fields ts->3 < ts.size->Q () { s with heap:=(h₁.push o).update e (Obj.mapFields (·.setIfInBounds 1 (Value.ref h₁.objs.size))) }) :
  wpAny M A (do let a<-frameOf env;let pl<-entryPlaceOf L nx;let b<-EntryCells.newEntry head a .none (rawInt L) .none pl;setField (.ref e) 1 b) Q E s:=by
 obtain⟨oe,vs,he,hd,h2⟩:=q;have hene:e∉(env :: outer).filterMap (·.frame):=λ hm=>by obtain⟨_,o,ho,hnf⟩:=hl.mem hm;rw[he]at ho;injection ho with ho;subst ho;exact hnf vs hd
 refine A0 (wpAny_frameOf_fun hfr hl hf λ h₁ hs₁=>?_);refine A0 (wpAny_entryPlaceOf λ pl hpl=>?_);unfold EntryCells.newEntry newFields;refine A0 (F5 ?_ (hpl.sizeOk5 _ _ _ _ _));have he₁:h₁.get? e=some oe:=(hs₁.2.1 e hene).trans he;have h2s:2 < vs.size:=(MF.mp h2).1;exact NH (A7 _ he₁) hd ⋯ (h h₁ _ _ %[oe,vs,he₁,hd|h2] rfl (by simp only[J6,J5,J4,MZ];omega))
theorem lG(tr:s.heap.TracedAtW base e cls a0 fl)(q:Q2 e s.heap):wpAny M A (setFlight (.ref e) none) (λ _ s'=>Q2 e s'.heap) E s:=by obtain⟨oe,vs,T,oT,ts,he,hcls,hd,h1,hnT,hTe,hT,hdT,h3⟩:=tr;unfold setFlight;refine A0 (M5 he hd h1 ?_);rw[Mw (show(Value.ref T != Value.none)=true from by simp)];exact NH hT hdT (MF.mp h3).1 (q.set ∅)
theorem Eo(hfr:A.frames=some (env :: outer))(hf:env.frame=some L)(f:Heap.FlyingW base (env :: outer) e cls a0 s.heap)(q:Q2 e s.heap):wpAny M A (noteFrame (.ref e) env) (λ _ s'=>Q2 e s'.heap) E s:=by obtain⟨hkb,hen,hl,oe,vs,T,oT,ts,he,hcls,hd,h1,hnT,hTe,hT,hdT,h3⟩:=f;unfold noteFrame;simp only[hf];refine A0 (M5 he hd h1 ?_);rw[Mw (show(Value.ref T != Value.none)=true from by simp)];refine A0 (M5 hT hdT h3 ?_);rw[Mu (show¬ ((Value.none == rawInt L)=true)from by simp[rawInt])];refine A0 (NH hT hdT (MF.mp h3).1 ?_);refine vc (s:={ s with heap:=s.heap.update T (Obj.mapFields (·.setIfInBounds 3 Value.none)) }) hfr (hl.of_keeps λ b o hb hnf=>%[o,(NF _ _ (λ z=>?_)).trans hb|O]) hf (q.set ∅) λ h₁ o _ q1 _ _=>q1.push.set ∅;rw[<- z,hT]at hb;injection hb with hb;subst hb;exact hnf ts hdT
theorem zM{h:Heap}{args:Mo G1}(hfr:A.frames=some (env :: outer))(hf:env.frame=some L)(hl:h.FunFrames base (env :: outer))(hx:Heap.MadeExcOf h s.heap e cls args):wpAny M A (leaving env (.ref e)) (λ _ s'=>Q2 e s'.heap) E s:=by
 obtain⟨t,he,htn,ht⟩:=hx.there;have q:Q2 e s.heap:=%[_,_,he,O|O]
 unfold leaving noteFrame;simp only[hf];refine A0 (A0 (M5 he rfl (x:=.none) rfl ?_));rw[Mu ∅];refine vc (base:=base) hfr (hl.of_keeps λ b o hb _=>%[o,hx.keeps b o hb|O]) hf q λ h₁ o ts q1 ho h3=>?_;obtain⟨oe1,vs1,he1,hd1,h21⟩:=q1;have hTe:h₁.objs.size≠e:=LJ (A9 he1);have hd3:=NY hd1 (·.setIfInBounds 1 (Value.ref h₁.objs.size));have he3:=NB (Obj.mapFields (·.setIfInBounds 1 (Value.ref h₁.objs.size))) (A7 o he1) (NZ hd3);have h2s:2 < vs1.size:=(MF.mp h21).1;have hT:=(NF (h₁.push o) (Obj.mapFields (·.setIfInBounds 1 (Value.ref h₁.objs.size))) (Ne.symm hTe)).trans (A8 h₁ (NZ ho));unfold setFlight;refine A0 (M5 he3 hd3 (x:=.ref h₁.objs.size) (by rw[Array.getElem?_setIfInBounds_self_of_lt ⋯]) ?_);rw[Mw (show(Value.ref h₁.objs.size != Value.none)=true from by simp)];exact NH hT ho h3 ((Q2.push (o:=o) %[oe1,vs1,he1,hd1|h21]).set (i:=1) ∅ |>.set ∅)
theorem lH{h:Heap}{args:Mo G1}(hfr:A.frames=some (env :: outer))(hf:env.frame=some L)(hkb:base.StaysIn h)(hl:h.FunFrames base (env :: outer))(hx:Heap.MadeExcOf h s.heap e cls args)
  (hQ:∀h' t,Heap.FlyingW base outer e cls (.ref t) h'->h'.TupAt t args->base.get? t=none->s.heap.UpToSlots h'->Q2 e h'->Q () { s with heap:=h' }):wpAny M A (leaving env (.ref e)) Q E s :=
 Mz (cO (zM (E:=E) hfr hf hl hx) (wpAny_leaves_madeW (Q:=λ _ s'=>Q2 e s'.heap->Q () s') (E:=E) hfr hf hkb hl hx λ h' t a b c d q=>hQ h' t a b c d q)) (λ _ _ z=>z.2 z.1) λ _ _ z=>z.1
theorem kI(hfr:A.frames=some (env :: outer))(hf:env.frame=some L)(f:Heap.FlyingW base (env :: outer) e cls a0 s.heap)(q:Q2 e s.heap)
  (hQ:∀h',Heap.HeldW base (env :: outer) e cls a0 L h'->s.heap.UpToSlots h'->Q2 e h'->Q () { s with heap:=h' }):wpAny M A (noteFrame (.ref e) env) Q E s :=
 Mz (cO (Eo (E:=E) hfr hf f q) (wpAny_looks_onW (Q:=λ _ s'=>Q2 e s'.heap->Q () s') (E:=E) hfr hf f λ h' a b q=>hQ h' a b q)) (λ _ _ z=>z.2 z.1) λ _ _ z=>z.1
theorem zN(hh:Heap.HeldW base l e cls a0 L s.heap)(q:Q2 e s.heap)(hQ:∀h',Heap.FlyingW base l e cls a0 h'->s.heap.UpToSlots h'->Q2 e h'->Q () { s with heap:=h' }):wpAny M A (setFlight (.ref e) none) Q E s :=
 Mz (cO (lG (E:=E) hh.2.2.2 q) (wpAny_landsW (Q:=λ _ s'=>Q2 e s'.heap->Q () s') (E:=E) hh λ h' a b q=>hQ h' a b q)) (λ _ _ z=>z.2 z.1) λ _ _ z=>z.1
theorem lI(hh:Heap.FlyingW base l e cls a0 s.heap)(q:Q2 e s.heap)(hQ:∀h',Heap.FlyingW base l e cls a0 h'->s.heap.UpToSlots h'->Q2 e h'->Q () { s with heap:=h' }):wpAny M A (setFlight (.ref e) none) Q E s :=
 Mz (cO (lG (E:=E) hh.2.2.2.at q) (lands_againW (Q:=λ _ s'=>Q2 e s'.heap->Q () s') (E:=E) hh λ h' a b q=>hQ h' a b q)) (λ _ _ z=>z.2 z.1) λ _ _ z=>z.1
end
theorem ObjOk.ex{P:F8}{w:G0}{H:Hp}{h:Heap}{a:Mi}{o:HO}(x:ObjOk P w H h a o):∃ob,h.get? a=some ob:=by
 cases o with
 | lst xs=>obtain⟨_,_,_,_,e⟩:=x;exact%[_|e]
 | tup xs=>obtain⟨_,_,_,o,e,_⟩:=x;exact%[_|e]
 | dK kvs=>obtain⟨_,_,_,_,o,_,_,e,_⟩:=x;exact%[_|e]
 | dT kvs=>obtain⟨_,_,_,_,o,_,_,e,_⟩:=x;exact%[_|e]
 | set S n=>obtain⟨o,_,_,_,e,_⟩:=x;exact%[_|e]
 | ins C dx fs=>obtain⟨_,_,_,e,_⟩:=x;exact%[_|e]
 | own y=>exact x
 | xd fs=>obtain⟨_,⟨_,_,_,e,_⟩,_⟩:=x;exact%[_|e]
 | rng lo hi=>obtain⟨_,_,_,e⟩:=x;exact%[_|e]
 | frz ob u=>exact%[_|x.1]
 | tbl ps=>exact%[_|(show h.get? a=some _ from x)]
 | met f y=>exact%[_|(show h.get? a=some _ from x)]
 | ext φ=>exact x.2.1
structure Flew(P:Program)(w:World)(outer:Mo Env)(H:Hp)(s:Shared)(ea:Mi)(C:Value)(H':Hp)(B:Heap)(s':Shared):Prop where
 os:s'.os=s.os
 bare:AllBare s'.gens
 un:Un (frs outer) [] H H' s.heap s'.heap
 hok:HOk P w H' s'.heap
 fly:∃a0,Heap.FlyingW B outer ea C a0 s'.heap
 ctx:Q2 ea s'.heap
 cov:∀b o,b∉frs outer->(H' b≠none\/∃o',s.heap.get? b=some o')->s'.heap.get? b=some o->B.get? b=some o
 new:s.heap.get? ea=none/\H' ea=none
def CXx(P:F8)(w:G0):CXT:=λ outer H s E e s'=>∃ea C H' B,e=Value.ref ea/\Flew P w outer H s ea C H' B s'/\E C none H'
section
variable{X:Cx}{Mq:Mo (Mi×Obj)}{σ:St}{H:Hp}{s:F7}
theorem Inv.raised{h2:Heap}{ea:Mi}{C:G1}{vs:Mo G1}{M:Model}{E:G1->F7->Prop}{Q:Unit->F7->Prop}(I:Inv X Mq σ H s)(hst:X.stack=X.env :: X.outer)(hfr:X.env.frame=some X.env.locals)(hex:X.ex=[])
  (hx:Heap.MadeExcOf s.heap h2 ea C vs) (hQ:∀B h',Flew X.prog X.w X.outer X.H₀ X.s₀ ea C H B { s with heap:=h' }->Q () { s with heap:=h' }) :
  wpAny M X.A (leaving X.env (.ref ea)) Q E { s with heap:=h2 }:=by
 have fS:frs X.stack=X.env.locals :: X.fs:=by rw[hst];unfold frs;rw[MC,hfr];rfl
 have st:s.heap.FunFrames X.base (X.env :: X.outer):=by rw[<- hst];exact I.stack
 have hin:∀env∈(X.env :: X.outer),∀b,env.frame=some b->b∈frs X.stack:=λ env he b hb=>by rw[hst];exact List.mem_filterMap.mpr %[env,he|hb]
 have s0L:∀b o,X.s₀.heap.get? b=some o->b≠X.env.locals:=λ b o e=>C0 (C3 (A9 e) I.ok.above);have Ubase:Un X.fs [] X.H₀ H X.s₀.heap s.heap:=by have:=I.base;rw[hex]at this;exact this
 have trk:∀b u,H b=some u->b∉frs X.stack:=λ b u e hb=>by rw[I.stkFree b hb]at e;cases e
 have ofd:∀b,b∈X.fs->∃o,s.heap.get? b=some o/\∀vs,o.data≠.fields vs:=λ b hb=>by obtain⟨_,o,ho,hd⟩:=I.funs.mem hb;exact%[o,ho|hd]
 refine lH (base:=PySem.W.hideAll s.heap (frs X.stack)) (h:=s.heap) (by rw[<- hst];exact I.ok.frames) hfr (λ b o q=>PySem.W.of_hideAll _ q) (PySem.W.funFrames_hide st hin) hx λ h' t fl tup hbt sm q2=>hQ (PySem.W.hideAll s.heap (frs X.stack)) h' ?_;have toB:∀b o,b∉frs X.stack->s.heap.get? b=some o->h'.get? b=some o:=λ b o nb e=>fl.1 _ _ (PySem.W.hideAll_get _ e nb);have nfs:∀b o,X.s₀.heap.get? b=some o->b∉X.fs->b∉frs X.stack:=λ b o e nb z=>by
  rw[fS]at z;rcases G7.mp z with q | q
  ·exact s0L b o e q
  ·exact nb q
 have slot1:∀b o,b∈X.fs->s.heap.get? b=some o->∃sl,h'.get? b=some { o with slots:=sl }:=λ b o hb e=>by obtain⟨o',e',hd⟩:=ofd b hb;rw[e]at e';cases e';exact sm b o (hx.keeps _ _ e) hd
 refine%[I.os,I.bare,%[λ b o e n hb _=>?_,λ b o e n hb _=>?_,λ b o e n _=>Ubase.free b o e n (by simp),λ b o e _=>?_,Ubase.tups,Ubase.frzs|Ubase.tbls],λ b u e=>?_,%[_|fl],q2,λ b o nb hh e=>?_,?_|?_]
 ·exact toB b o (nfs b o e hb) (Ubase.keep b o e n hb (by simp))
 ·obtain⟨sl,e1⟩:=Ubase.slot b o e n hb (by simp);obtain⟨sl',e2⟩:=slot1 b _ hb e1;exact%[sl'|e2]
 ·obtain⟨o',e1⟩:=Ubase.there b o e (by simp)
  by_cases hb:b∈X.fs
  ·obtain⟨sl,e2⟩:=slot1 b _ hb e1;exact%[_|e2]
  ·exact%[o'|toB b o' (nfs b o e hb) e1]
 ·refine(I.hok b u e).stay (λ c v hc q=>toB c v ?_ q) (λ _ q=>q) λ _ _ q=>q;rcases hc with z | z
  ·rw[z];exact trk b u e
  ·exact trk c _ z
 ·rcases hh with z | ⟨o',z⟩
  ·cases q:H b with
   | none=>exact absurd q z
   | some u=>
    obtain⟨ob,eb⟩:=(I.hok b u q).ex;have eB:=PySem.W.hideAll_get _ eb (trk b u q);have:=fl.1 _ _ eB;rw[e]at this;cases this;exact eB
  ·obtain⟨o'',e1⟩:=Ubase.there b o' z (by simp);have eB:=PySem.W.hideAll_get _ e1 (nfs b o' z nb);have:=fl.1 _ _ eB;rw[e]at this;cases this;exact eB
 ·cases q:X.s₀.heap.get? ea with
  | none=>rfl
  | some o=>
   obtain⟨o',e1⟩:=Ubase.there ea o q (by simp);rw[hx.new]at e1;cases e1
 ·cases q:H ea with
  | none=>rfl
  | some u=>
   obtain⟨ob,eb⟩:=(I.hok ea u q).ex;rw[hx.new]at eb;cases eb
theorem Flew.inv{ea:Mi}{C:G1}{H':Hp}{B h6:Heap}{s':F7}{t:Nat}(I:Inv X Mq σ H s)(f:Flew X.prog X.w X.stack H s ea C H' B s')(hB:B.StaysIn h6)(sm:s'.heap.UpToSlots h6):Inv X Mq σ H' { s' with heap:=h6,toks:=t }:=by
 have trk:∀b u,H' b=some u->b∉frs X.stack:=λ b u e hb=>by
  obtain⟨o,ho⟩:∃o,s.heap.get? b=some o:=let ⟨_,o,ho,_⟩:=I.stack.mem hb;%[o|ho]
  have:=f.un.free b o ho (I.stkFree b hb) (by simp);rw[this]at e;cases e
 have slot1:∀b o,b∈frs X.stack->s'.heap.get? b=some o->∃sl,h6.get? b=some { o with slots:=sl }:=λ b o hb e=>by obtain⟨a0,fl⟩:=f.fly;obtain⟨_,o',e',hd⟩:=fl.2.2.1.mem hb;rw[e]at e';cases e';exact sm b o e hd
 refine I.call' (ch:=[]) f.os %[λ b o e n hb _=>?_,λ b o e n hb _=>?_,λ b o e n _=>f.un.free b o e n (by simp),λ b o e _=>?_,f.un.tups,f.un.frzs|f.un.tbls] (λ b u e=>?_) f.bare (λ b z=>absurd z (by simp))
 ·exact hB _ _ (f.cov b o hb (.inr %[o|e]) (f.un.keep b o e n hb (by simp)))
 ·obtain⟨sl,e1⟩:=f.un.slot b o e n hb (by simp);obtain⟨sl',e2⟩:=slot1 b _ hb e1;exact%[sl'|e2]
 ·obtain⟨o',e1⟩:=f.un.there b o e (by simp)
  by_cases hb:b∈frs X.stack
  ·obtain⟨sl,e2⟩:=slot1 b _ hb e1;exact%[_|e2]
  ·exact%[o'|hB _ _ (f.cov b o' hb (.inr %[o|e]) e1)]
 ·refine(f.hok b u e).stay (λ c v hc q=>?_) (λ _ q=>q) λ _ _ q=>q;have hc':H' c≠none:=by
   rcases hc with z | z
   ·rw[z,e];exactλ z=>nomatch z
   ·rw[z];exactλ z=>nomatch z
  have nc:c∉frs X.stack:=by
   cases q':H' c with
   | none=>exact absurd q' hc'
   | some u'=>exact trk c u' q'
  exact hB _ _ (f.cov c v nc (.inl hc') q)
end
@[inline]def bmVE:Mo G1:=[.type "ValueError",.type "Exception",.type "BaseException",.type "object"]
def ExcC(K:C6)(C:Mi):Prop:=PySem.W.excIn K C bmVE "ValueError.__new__" = true
theorem ExcC.obj{K:C6}{C:Mi}{h:Heap}(X:K.In h)(q:ExcC K C):∃bm N nm qn bs hdct sn sub ab col dd k0 k1 k2 k3 k5 mN,
  h.get? C=some (excClassObj nm qn C N bs bm hdct sn sub ab col dd k0 k1 k2 k3 k5 "ValueError.__new__")/\h.Ns N mN/\mN "__init__" = none/\OwnTail h bmVE bm:=by
 unfold ExcC PySem.W.excIn at q
 split at q
 ·rename_i dd cd sl ho
  split at q
  ·rename_i C' bm k0 k1 k2 k3 n k5 hm hs
   simp only[LQ,beq_iff_eq,Bool.not_eq_true']at q;obtain⟨⟨⟨⟨⟨e1,e2⟩,e3⟩,e4⟩,e5⟩,e6⟩:=q;obtain⟨nm,bs,mro,ns,qn,hd,sn,sub,ab,col,del⟩:=cd;dsimp only at hm e3 e5 e6;subst e1 e2 hm e3;obtain⟨l⟩:=sl;simp only at hs;subst hs;exact%[bm,ns,nm,qn,bs,hd,sn,sub,ab,col,dd,k0,k1,k2,k3,k5,_,X _ _ ho,.of_isNs (PySem.W.isNs_of_in X e5),PySem.W.nsMap_none_of_in X e5 e6|PySem.W.tail_of_in X e4]
  ·cases q
 ·cases q
section
variable{X:Cx}{x:Str}{C:Mi}{e0:Expr}{np cpos pos:Pos}{t:TA}
def vd(R:G1->Hp->Prop)(C:Mi)(t:TA):TS:=λ _ σ H=>t σ H λ vs H1=>vs.length<=sizeLine/\R (.ref C) H1
theorem jj{R:G1->Hp->Prop}(hc:X.calm=true)(hg:Gl X x)(hm:X.mg x=↑C)(ec:ExcC X.K C)(ha:PA X [e0] t)
  (hR:∀Mq σ H s h2 ea vs,Inv X Mq σ H s->Heap.MadeExcOf s.heap h2 ea (.ref C) vs->R (.ref C) H->X.xe (.ref ea) { s with heap:=h2 })
  (he:starEach [e0] X.env=[(false,eval e0 X.env)]:=by rfl) (hd:(x == ("__debug__" : Str))=false:=by decide) :
  PS X (.Raise (some (.Call (.Name x np) [e0] [] cpos)) none pos) (vd R C t):=by
 intro Mq s σ H D I h;obtain⟨bm,N,nm,qn,bs,hdct,sn,sub,ab,col,dd,k0,k1,k2,k3,k5,mN,hC,hN,hni,T⟩:=ec.obj I.ok.mod.kin;refine wpAny_Raise_call_subT (C:=C) (nm:=nm) (q:=qn) (N:=N) (bs:=bs) (bm:=bm) (hdct:=hdct) (sn:=sn) (sub:=sub) (ab:=ab) (col:=col) (dd:=dd) (k0:=k0) (k1:=k1) (k2:=k2) (k3:=k3) (k5:=k5)
  PySem.F.excBase_ValueError (mN:=mN) (T.hasType PySem.F.excBase_ValueError.hasBase) (I.ok.hd hc) (by rw[he];rfl) hni (dR I hg hm %[rfl|?_] hd)
 have h2:=ha cpos Mq s σ H _ I h;rw[he]at h2 ⊢;refine Calls.evalArgs_plain (thn h2 λ us s2 %[vs,H1,I1,rv,hl|q]=>%[O,by rw[<- rv.length];exact hl,I1.bk _ _ hC,hN.keeps I1.bk,T.keeps I1.bk|λ h' ea hx=>?_]);exact hR Mq σ H1 s2 h' ea us I1 hx q
end
section
variable{P:F8}{w:G0}{K:C6}{mg:Str->Ml G1}{base:Heap}
theorem fL{N:Mo Str}{qual:Str}{scope:Scope}{f:Mi}{cd:G1}{A:Around}{outer:Mo Env}{s₀:F7}{H₀:Hp}{E:XK}{C:Mi} :
  ∀Mq σ H s h2 ea vs,Inv (ft (CXx P w) P w K mg base N qual scope f cd A outer s₀ H₀ E) Mq σ H s->Heap.MadeExcOf s.heap h2 ea (.ref C) vs->(λ c H=>E c none H) (Value.ref C) H ->
   (ft (CXx P w) P w K mg base N qual scope f cd A outer s₀ H₀ E).xe (.ref ea) { s with heap:=h2 }:=λ Mq σ H s h2 ea vs I hx q=>
 I.raised (E:=λ e' s''=>CXx P w outer H₀ s₀ E e' s'') rfl rfl rfl hx λ B h' f=>%[ea,_,H,B,O,f|q]
theorem Fun.okX{x qual:Str}{st:Stmt}{f:Mi}{fd:F9}{N ps:Mo Str}{k:Nat}{sp:Sp}(F:Fun K x qual st f fd)(S:FnScope N ps (defScope st))(len:∀vs H Q E,sp vs H Q E->vs.length=ps.length)
  (hbody:∀(cdv:G1)(A:Around)(outer:Mo Env)(s:F7)(H:Hp)(vs:Mo V)(Q:VK)(E:XK),Room k (A.deeper (envOfC qual (defScope st) s.heap.objs.size f cdv))->sp vs H Q E ->
   ∃t,PSs (ft (CXx P w) P w K mg base N qual (defScope st) f cdv A outer s H E) (defBody st) t/\t { nx:=λ _ H'=>Q .non H',rt:=Q } (dE N vs) H):FnOk P w K mg base (CXx P w) (k+1) f fd ps sp:=by
 obtain⟨oc,od,kV,doc,pm,an,cdv,ct,osl,rfl,lk,hcd⟩:=F.ex;exact zb lk hcd S len λ A outer s H vs Q E hr hsp=>hbody cdv A outer s H vs Q E hr hsp
end
def XP(X:Cx)(Mq:Mo (Mi×Obj))(σ:St)(E:XK)(v:G1)(s':F7):Prop:=∃ea C H H' B s0,v=Value.ref ea/\Inv X Mq σ H s0/\Flew X.prog X.w X.stack H s0 ea C H' B s'/\E C none H'
abbrev TX:=St->Hp->VK->XK->Prop
def PEx(X:Cx)(e:Expr)(t:TX):Prop :=
 ∀(Mq:Mo (Mi×Obj))(s:F7)(σ:St)(H:Hp)(Q:VK)(E:XK),Inv X Mq σ H s->t σ H Q E->wpAny (model X.prog X.w) X.A (eval e X.env) (EP X Mq σ Q) (XP X Mq σ E) s
section
variable{X:Cx}{k:Nat}{f C:Mi}{fd:F9}{ps:Mo Str}{sp:Sp}{x m:Str}{p pos apos:Pos}{e o:Expr}{es:Mo Expr}{ta:TE}{t:TA}
theorem xG{Mq:Mo (Mi×Obj)}{σ:St}{H:Hp}{s:F7}{Q:VK}{E:XK}{us:Mo G1}{vs:Mo V}(F:FnOk X.prog X.w X.K X.mg X.base (CXx X.prog X.w) k f fd ps sp)(hr:Room k X.A)(hb:Binds X.K fd ps [])
  (I:Inv X Mq σ H s) (r:Vals vs us) (h:sp vs H Q E):wpAny (model X.prog X.w) X.A (call (.ref f) us) (EP X Mq σ Q) (XP X Mq σ E) s:=by
 have hl:(us ++ []).length=ps.length:=by rw[K6,<- r.length];exact F.len _ _ _ _ h
 have b:=hb s us I.kIn hl;rw[K6]at b;refine wpAny_call (Nk (F.run X.A X.stack s H %[us|[]] us vs Q E hr I.env0 b r h) λ r s' hq=>?_);cases r with
 | error e=>
  obtain⟨ea,C,H',B,e1,fl,q⟩:=hq;exact%[ea,C,H,H',B,s,e1,I,fl|q]
 | ok fl=>
  cases fl with
  | ret u=>exact I.after hq
  | next=>exact E7 hq
  | brk=>exact E7 hq
  | cont=>exact E7 hq
end
def Cx.marked(X:Cx)(ea:Mi):Cx:={ X with A:=X.A.mark (↑ea),calm:=false,xe:=λ _ _=>False }
section
variable{X:Cx}{Mq:Mo (Mi×Obj)}{σ:St}{H:Hp}{s:F7}
theorem Inv.mark(I:Inv X Mq σ H s)(ea:Mi):Inv (X.marked ea) Mq σ H s :=
 ⟨%[I.ok.mod,I.ok.kind,I.ok.glob,I.ok.blt,I.ok.above,I.ok.inj,I.ok.has,I.ok.cab,λ z=>absurd (show false=true from z) B2,I.ok.frames,I.ok.stk,I.ok.exf,I.ok.bs,I.ok.bsz,I.ok.noex,I.ok.exfs,I.ok.funs|I.ok.frf],
  I.os,I.bare,I.base,I.loc,I.cell,I.free,I.freeC,I.pin,I.hok,I.len⟩
theorem Inv.unmark{ea:Mi}(ok:X.Ok)(I:Inv (X.marked ea) Mq σ H s):Inv X Mq σ H s :=
 %[ok,I.os,I.bare,I.base,I.loc,I.cell,I.free,I.freeC,I.pin,I.hok|I.len]
theorem Inv.track2{a:Mi}{o:HO}(I:Inv X Mq σ H s)(f0:H a=none)(f1:a≠X.env.locals)(hna:X.s₀.heap.get? a=none)(f4:∀x c,X.env.cells.lookup x=some c->c≠a)(f5:∀p∈X.pn ++ Mq,p.1≠a)
  (new:ObjOk X.prog X.w (upd H a o) s.heap a o):Inv X Mq σ (upd H a o) s:=by
 have s0:∀b o,X.s₀.heap.get? b=some o->b≠a:=λ b o e z=>by rw[z,hna]at e;cases e
 refine%[I.ok,I.os,I.bare,%[I.base.keep,I.base.slot,λ b o e n hx=>?_,I.base.there,λ b xs e=>?_,λ b o u e=>?_|λ b ps e=>?_],I.loc,I.cell,?_,λ x c e=>?_,λ p hp=>?_,I.hok.add f0 new|I.len]
 ·rw[aj (s0 b o e)];exact I.base.free b o e n hx
 ·have q:=I.base.tups b xs e;rw[aj (ak q f0)];exact q
 ·have q:=I.base.frzs b o u e;rw[aj (ak q f0)];exact q
 ·obtain⟨more,q⟩:=I.base.tbls b ps e;exact%[more|by rw[aj (ak q f0)];exact q]
 ·rw[aj (Ne.symm f1)];exact I.free
 ·rw[aj (f4 x c e)];exact I.freeC x c e
 ·obtain⟨e,n,r⟩:=I.pin p hp;exact%[e,by rw[aj (f5 p hp)];exact n|r]
theorem fg{M:Model}{A:Around}{E:G1->F7->Prop}{i:Nat}{x:Str}{pos:Pos}{Q:Unit->F7->Prop}(I:Inv X Mq σ H s)(hN:X.N.Nodup)(hi:X.N[i]?=some x)(hk:X.env.scope.names.lookup x=some .local)
  (h:∀s',Inv X Mq (σ.set i none) H s'->Q () s'):wpAny M A (do bindName X.env x .none;unbindBehindTheSuite X.env x pos) Q E s:=by
 obtain⟨m,hn,hl⟩:=id I.loc;have hcls:(X.env.scope.kind == .class || (X.env.scope.kind == .module && X.env.locals != X.env.globals))=false:=by rw[I.ok.kind];rfl
 refine wpAny_nameGoes_keeps hk hn hcls λ h' v hn' hs=>h _ ?_;obtain⟨oL,_,_,hoL,_⟩:=id hn;have cne:=I.cne;have hok:HOk X.prog X.w H h':=I.hok.but I.free hs;refine%[I.ok,I.os,I.bare,%[λ b o e n hb hx=>?_,λ b o e n hb hx=>?_,I.base.free,λ b o e hx=>?_,I.base.tups,I.base.frzs|I.base.tbls],%[_,hn'|λ j y v' e1 e2 e3=>?_],λ y c e=>?_,I.free,I.freeC,λ p hp=>?_,hok|by simpa using I.len]
 ·exact(hs.2 b (C0 (C3 (A9 e) I.ok.above))).trans (I.base.keep b o e n hb hx)
 ·obtain⟨sl,e1⟩:=I.base.slot b o e n hb hx;exact%[sl|(hs.2 b (C0 (C3 (A9 e) I.ok.above))).trans e1]
 ·obtain⟨o',e1⟩:=I.base.there b o e hx;exact%[o'|(hs.2 b (C0 (C3 (A9 e) I.ok.above))).trans e1]
 ·have hj:j≠i:=λ z=>by
   subst z;have hiσ:j < σ.length:=by rw[I.len];exact(A6.mp hi).1
   rw[MU hiσ]at e2;cases e2
  rw[List.getElem?_set_ne (Ne.symm hj)]at e2;obtain⟨u',r',q⟩:=hl j y v' e1 e2 e3;refine%[u',r'|?_];rcases q with⟨k,e⟩ | ⟨k,c,e,z⟩
  ·refine .inl %[k|?_];have:y≠x:=λ e=>hj (iV hN e1 (e ▸ hi));simp[this,e]
  ·exact .inr %[k,c,e|z.sameBut hs (cne y c e)]
 ·obtain⟨v',z⟩:=I.cell y c e;exact%[v'|z.sameBut hs (cne y c e)]
 ·obtain⟨e,n,ne,nf,d⟩:=I.pin p hp;exact%[(hs.2 p.1 ne).trans e,n,ne,nf|d]
end
def IsA(a:Mi)(C:G1)(h:Heap):Prop:=∃o,h.get? a=some o/\o.cls=C/\∃vs,o.data=.fields vs/\vs[2]?=some .none
theorem IsA.of{a:Mi}{C:G1}{h:Heap}(x:∃o,h.get? a=some o/\o.cls=C)(q:Q2 a h):IsA a C h:=by obtain⟨o,e,c⟩:=x;obtain⟨o',vs,e',d,n⟩:=q;rw[e]at e';cases e';exact%[o,e,c,vs,d|n]
theorem IsA.obj{P:F8}{w:G0}{H:Hp}{h:Heap}{a:Mi}{C:G1}(x:IsA a C h):ObjOk P w H h a (.ext (IsA a C)):=by obtain⟨o,e,c⟩:=id x;exact%[x,%[o|e]|λ h1 h2 ⟨o',e',c'⟩ k=>%[o',k o' e'|c']]
structure RoomH(k:Nat)(A:Around):Prop where
 dp:A.depth+3 * k+5 < recursionLimit
 un:A.units+16 * k+200 < cLine
theorem Room.h{k:Nat}{A:Around}(r:Room k A)(v:Ml G1):RoomH k (A.mark v):=%[r.dp|r.un]
theorem RoomH.deeper{k:Nat}{A:Around}(r:RoomH (k+1) A)(env:Env):RoomH k (A.deeper env) :=
 %[by have:=r.dp;show A.depth+1+3 * k+5 < _;omega|by have:=r.un;show A.units+3+16 * k+200 < _;omega]
structure FnH(P:Program)(w:World)(K:C6)(mg:Str->Ml Value)(base:Heap)(k:Nat)(f:Mi)(fd:FuncData)(ps:Mo Str)(sp:Sp):Prop where
 len:∀vs H Q E,sp vs H Q E->vs.length=ps.length
 run:∀(A:Around)(outer:Mo Env)(s:F7)(H:Hp)(args:Args)(us:Mo G1)(vs:Mo V)(Q:VK)(E:XK),RoomH k A->Env0 P w K mg base A outer s H->BindsTo s fd args (ps.zip us)->Vals vs us->sp vs H Q E ->
  codeAny (model P w) A (.call (.ref f) args) (CR CX0 outer P w H s Q E) s
def cxH(P:F8)(w:G0)(K:C6)(mg:Str->Ml G1)(base:Heap)(N:Mo Str)(qual:Str)(scope:Scope)(f:Mi)(cd:G1)(A:Around)(outer:Mo Env)(s:F7)(H:Hp):Cx :=
 { ft CX0 P w K mg base N qual scope f cd A outer s H E0 with calm:=false,xe:=λ _ _=>False }
end L2
namespace PySem
open Sem (wp)
open PySem.W (Frag Looks looks_findIn looks_subIn)
structure ExK(K:Frag)(C:Mi):Prop where
 lkC:PySem.W.findIn K (.ref C) "__class__" = some (some (.builtin "object.__class__"))
 lkG:PySem.W.findIn K (.ref C) "__getattribute__" = some (some (.builtin "BaseException.__getattribute__"))
 lkA:PySem.W.findIn K (.ref C) "__getattr__" = some none
 subB:PySem.W.subIn K (.ref C) (.type "BaseException")=some true
 subO:PySem.W.subIn K (.ref C) (.type "object")=some true
 cls:(PySem.W.clsIn K C).isSome=true
section
variable{prog:F8}{w:G0}{A:Around}{E:G1->F7->Prop}{h:Heap}{g:Mm GenState}{d:Drawn}{t:Nat}{os:OsState}{a:Mi}{o:Obj}{K:Frag}{C:Mi}
theorem oG{R:Result->F7->Prop}(X:K.In h)(F0:ExK K C)(hx:h.get? a=some o)(hc:o.cls=.ref C)(hq:R (.ok (.ret (.ref C))) %[h,g,d,t|os]) :
  codeAny (model prog w) A (.call (.builtin "getset_descriptor.__get__") %[[.builtin "object.__class__",.ref a,.ref C]|[]]) R %[h,g,d,t|os]:=by
 have hT5:(%[h,g,d,t|os]:F7).TypeIs (.builtin "object.__class__") "getset_descriptor" := F.typeOf_object_class;have L:Looks (model prog w) h (isSubtype (.ref C) (.type (".".intercalate ("object.__class__".cutAt '.').dropLast))) true:=by rw[F.owner_object_class];exact looks_subIn X F0.subO
 refine codeAny_call_builtin F.slot_gs_get.plain F.entry_gs_get (F.slot_gs_get.check _ _ _ _ _ _ _ _ hT5 (F.args_gs_get _ _ _) ?_)
 repeat (any_goals (first | assumption | (with_reducible refine wpAny_loadPart_at hx ?_;rw[hc]) | (with_reducible refine Looks.at L ?_) | wp_step))
 refine%[Code.quiet_builtin _ ∅|codeAny_builtin F.entry_object_class ?_]
 repeat (any_goals (first | assumption | (with_reducible refine wpAny_loadPart_at hx ?_;rw[hc]) | wp_step))
theorem lJ{tk:Tok}{Q:Fin->F7->Prop}(X:K.In h)(F0:ExK K C)(hx:h.get? a=some o)(hc:o.cls=.ref C)(hq:Q (.done (.ret (.ref C))) %[h,g,d,t|os]) :
  wpAny (model prog w) A (Builtin.«object.__getattribute__» %[[.ref a,.str "__class__" tk]|[]]) Q E %[h,g,d,t|os]:=by
 have hT5:(%[h,g,d,t|os]:F7).TypeIs (.builtin "object.__class__") "getset_descriptor" := F.typeOf_object_class;have f5:=F.typeOf_object_class;have f6:=F.slot_gs_get.lookup;have f7:=F.slot_gs_set.lookup;have L:Looks (model prog w) h (typeLookup (.ref C) "__class__") _:=looks_findIn X F0.lkC
 repeat (any_goals (first | assumption | (with_reducible refine wpAny_loadPart_at hx ?_;rw[hc]) | (with_reducible refine Looks.at L ?_) | wp_step))
 refine oG X F0 hx hc ?_
 repeat (any_goals (first | assumption | wp_step))
theorem si{nameV:G1}{Q:Unit->F7->Prop}(X:K.In h)(F0:ExK K C)(hx:h.get? a=some o)(hc:o.cls=.ref C)(hq:Q () %[h,g,d,t|os]) :
  wpAny (model prog w) A (checkBuiltinCall "BaseException.__getattribute__" %[[.ref a,nameV]|[]]) Q E %[h,g,d,t|os]:=by
 have hk:builtinKind "BaseException.__getattribute__" = some .slot:=∅
 have hsplit:splitId "BaseException.__getattribute__" = some ("BaseException","__getattribute__"):=∅
 have L:Looks (model prog w) h (isSubtype (.ref C) (.type "BaseException")) true:=looks_subIn X F0.subB;have ha:=F.args_bexc_ga (.ref a) nameV;simp only[checkBuiltinCall,hk,hsplit];refine A0 ?_
 ·unfold isInstance
  repeat (first | (with_reducible refine wpAny_loadPart_at hx ?_;rw[hc]) | (with_reducible refine Looks.at L ?_) | wp_step)
  exact hq
theorem mR{tk:Tok}{R:Result->F7->Prop}(X:K.In h)(F0:ExK K C)(hx:h.get? a=some o)(hc:o.cls=.ref C)(hq:R (.ok (.ret (.ref C))) %[h,g,d,t|os]) :
  codeAny (model prog w) A (.call (.builtin "BaseException.__getattribute__") %[[.ref a,.str "__class__" tk]|[]]) R %[h,g,d,t|os] :=
 codeAny_call_builtin F.attrBase_ValueError.ga.plain F.entry_bexc_ga (si X F0 hx hc (lJ X F0 hx hc hq))
theorem sj{tk:Tok}{Q:G1->F7->Prop}(X:K.In h)(F0:ExK K C)(hx:h.get? a=some o)(hc:o.cls=.ref C)(hq:Q (.ref C) %[h,g,d,t|os]) :
  wpAny (model prog w) A (getAttrBy (.ref a) (.str "__class__" tk) false) Q E %[h,g,d,t|os]:=by
 have LG:Looks (model prog w) h (typeLookup (.ref C) "__getattribute__") _:=looks_findIn X F0.lkG;have LA:Looks (model prog w) h (typeLookup (.ref C) "__getattr__") _:=looks_findIn X F0.lkA;have f3:=F.attrBase_ValueError.ga.bind (.ref a);have hx2:(Value.builtin "BaseException.__getattribute__" == Value.builtin "object.__getattribute__")=false:=∅
 have hx1:(onTheHeap (Value.ref C) && Value.builtin "BaseException.__getattribute__" == Value.builtin "object.__getattribute__")=false:=by rw[hx2];rfl
 repeat (any_goals (first | assumption | (with_reducible refine wpAny_loadPart_at hx ?_;rw[hc]) | (with_reducible refine Looks.at LG ?_) | (with_reducible refine Looks.at LA ?_) | wp_step))
 refine mR X F0 hx hc ?_
 repeat (any_goals (first | assumption | wp_step))
theorem mS{Q:Ml G1->F7->Prop}(X:K.In h)(F0:ExK K C)(hx:h.get? a=some o)(hc:o.cls=.ref C)(hq:Q (↑C) %[h,g,d,t+1|os]) :
  wpAny (model prog w) A (getAttr? (.ref a) "__class__") Q E %[h,g,d,t|os]:=by
 unfold getAttr? getAttrBy?
 repeat (any_goals (first | assumption | with_reducible apply sj X F0 hx hc | wp_step))
end
end PySem
namespace L2
open PySem PySem.Spec PyProof.Rows
theorem xH{K:C6}{x C:Mi}(F0:ExK K C):PySem.W.KitX K (.ref x) (.ref C) (IsA x (.ref C)) where
 ty:=λ M h _ ⟨o,e,c,_⟩=>by have L:PySem.W.Looks M h (typeOf (.ref x)) o.cls:=(PySem.W.Looks.ld e).andThen .now;rw[c]at L;exact L
 it:=λ _ _ X _=>by
  have z:=F0.cls;unfold PySem.W.clsIn at z
  split at z
  ·rename_i c' d' cd' sl' ho
   intro A' Q' E' s' k q;unfold isType loadHead;exact A0 (wpAny_loadPart (k _ _ (X _ _ ho)) (A2 q))
  ·cases z
 ne:=λ h tp dd its n sl X htp=>by
  have z:=F0.cls;refine Bool.eq_false_iff.mpr λ q=>?_;have e:C=tp:=Value.ref.inj (C5.mp q);subst e;unfold PySem.W.clsIn at z
  split at z
  ·rename_i c' d' cd' sl' ho
   have z:=(X _ _ ho).symm.trans htp;cases z
  ·cases z
 ca:=λ {_ _ _ _ _ s} X p k=>by obtain⟨h,g,d,t,os⟩:=s;obtain⟨o,e,c,_⟩:=p;exact mS X F0 e c k
section
variable{X:Cx}
theorem aG{C:Mi}(F0:ExK X.K C):bW X (.builtin "isinstance") (λ xs H Q=>∃a cv c b,xs=[.ref a,cv]/\H a=some (.ext (IsA a (.ref C)))/\clV cv=some c/\PySem.W.kitOne X.K (.ref C) c=some b/\Q (.bl b) H):=by
 intro Mq s σ H xs us Q I rv h;obtain⟨a,cv,c,b,rfl,ha,e1,e2,q⟩:=h;cases rv with
 | cons r1 rr=>
  cases rr with
  | cons r2 rr=>
   cases rr;cases r1;rw[clV.rel e1 r2];exact PySem.W.kia_one (xH F0) I.kIn (I.hok a _ ha).1 e2 (λ z=>nomatch z) λ tk=>%[.bl b,H,I.tok tk,O|q]
end
end L2
namespace PySem
open Sem (wp)
open AutoSeq1 (wpAny_loadPart')
section
variable{prog:F8}{w:G0}{A:Around}{E:G1->F7->Prop}{s:F7}
theorem eF{it t:Mi}{i:Nat}{items}{x:G1}{Q:G1->F7->Prop}(hit:s.heap.IsTupleIter it t i)
  (ht:s.heap.IsTuple t items) (hx:items[i]?=some x)
  (hQ:∀h',h'.IsTupleIter it t (i+1)->Heap.SameBut it s.heap h'->Q x { s with heap:=h' }) :
  wpAny (model prog w) A (Builtin.SmallTypes.nextOf (.ref it)) Q E s:=by
 obtain⟨o,ho,hc,hd⟩:=id hit;obtain⟨ol,hol,_,nl,hdl⟩:=ht;unfold Builtin.SmallTypes.nextOf;refine A0 (wpAny_callSpecial?_slot (name:=Str.ofString "__next__") hit.typeIs F.slot_tuple_iterator_next
  (F4 F.slot_tuple_iterator_next hit.typeIs F.entry_tuple_iterator_next ?_ (F.args_tuple_iterator_next_1 _)))
 show wpAny _ _ (field (.ref it) 0 >>= _) _ _ s;refine A0 (M5 ho hd (x:=.ref t) rfl ?_);show wpAny _ _ (if (Value.ref t == Value.none)=true then _ else _) _ _ s;rw[Mu (show¬ ((Value.ref t == Value.none)=true)from B2)];show wpAny _ _ (field (.ref it) 1 >>= _) _ _ s;refine A0 (M5 ho hd (x:=.int i 0) rfl ?_);show wpAny _ _ (seqItems? (.ref t) >>= _) _ _ s;refine A0 (wpAny_seqItems hol hdl ?_);simp only[LS,hx];refine A0 (NH ho hd (by simp) (A2 %[x,rfl|A2 (hQ _ ?_ (NA ..))]));exact⟨_,NB _ ho (NZ (NY hd _)),(Obj.cls_mapFields ..).trans hc,by
  rw[NY hd];simp[rawInt]⟩
theorem cP{it t:Mi}{i:Nat}{items}{Q:G1->F7->Prop}(hh:A.handled=none)
  (hit:s.heap.IsTupleIter it t i) (ht:s.heap.IsTuple t items) (hx:items[i]?=none)
  (hE:∀h' e,Heap.ExtBut it s.heap h'->(∃o,h'.get? e=some o/\o.cls=.type "StopIteration")->E (.ref e) { s with heap:=h' }) :
  wpAny (model prog w) A (Builtin.SmallTypes.nextOf (.ref it)) Q E s:=by
 obtain⟨o,ho,hc,hd⟩:=id hit;obtain⟨ol,hol,_,nl,hdl⟩:=ht;unfold Builtin.SmallTypes.nextOf;refine A0 (wpAny_callSpecial?_slot (name:=Str.ofString "__next__") hit.typeIs F.slot_tuple_iterator_next
  (F4 F.slot_tuple_iterator_next hit.typeIs F.entry_tuple_iterator_next ?_ (F.args_tuple_iterator_next_1 _)))
 show wpAny _ _ (field (.ref it) 0 >>= _) _ _ s;refine A0 (M5 ho hd (x:=.ref t) rfl ?_);show wpAny _ _ (if (Value.ref t == Value.none)=true then _ else _) _ _ s;rw[Mu (show¬ ((Value.ref t == Value.none)=true)from B2)];show wpAny _ _ (field (.ref it) 1 >>= _) _ _ s;refine A0 (M5 ho hd (x:=.int i 0) rfl ?_);show wpAny _ _ (seqItems? (.ref t) >>= _) _ _ s;refine A0 (wpAny_seqItems hol hdl ?_);simp only[LS,hx];refine A0 (Ni (A0 (NH ho hd (by simp) ?_)));show wpAny _ _ (newExc (.type "StopIteration") [] >>= _) _ _ _;refine A0 ?_;simp only[newExc,newTuple];refine A0 (F5 ?_ (by size_fits));refine A0 (m:=firstArgMember _ _) (wpAny_of_eq (a:=Value.none) (by first | rfl | (simp only[firstArgMember];rfl)) ?_);refine F5 ?_ (by size_fits);simp only[raiseNew];refine A0 (wpAny_handled ?_)
 first | rw[show A.in1.handled=none from hh] | rw[hh]
 refine A0 (A2 (wpAny_throw ?_));exact hE _ _ (((NA ..).extBut.push _).push _) %[_,A8 _ rfl|rfl]
end
theorem ve{prog:F8}{w:G0}{A:Around}(hh:A.handled=none)(it l:Mi)(hne:l≠it)(items:Mm G1) :
  Draws prog w A it [it,l] items.size (λ i v=>items[i]?=some v) (λ i h=>h.IsTupleIter it l i/\h.IsTuple l items) where
 live:=λ _ _ st=>let ⟨o,ho,_⟩:=st.1;%[o|ho]
 frame:=λ _ _ _ st hk=>%[st.1.at λ o e=>hk it (by simp) o e|let ⟨o,ho,r⟩:=st.2;%[o,hk l (by simp) o ho|r]]
 item:=λ i s Q E hi st hQ=>by refine eF st.1 st.2 (x:=items[i]) (by simp[hi]) λ h' hit' hs'=>?_;exact hQ _ h' s.toks (by simp[hi]) %[hit'|st.2.extBut hs'.extBut hne] hs'
 done:=λ s Q E st hE=>cP hh st.1 st.2 (by simp) hE
theorem jk(l:Mi)(items:Mm G1)(n:Nat)(dct:Ml Mi)(sl:Mm (Ml G1)) :
  Meets (Builtin.«enumerate.__new__» %[[.type "enumerate",.ref l]|[]]) (λ _ R s=>s.heap.get? l=some { cls:=.type "tuple",dict:=dct,data:=.seq items n,slots:=sl } /\
   R (.ok (.ret (.ref (s.heap.push { cls:=.type "tuple_iterator",data:=.fields #[.ref l,.int 0 0] }).objs.size)))
    { s with heap:=(s.heap.push { cls:=.type "tuple_iterator",data:=.fields #[.ref l,.int 0 0] }).push { cls:=.type "enumerate",data:=.fields #[.none,.bool false,.ref s.heap.objs.size,rawInt 0,.none,.none] } }) :=
 .of_wp λ prog w A R s h=>by
  obtain⟨hp,g,d,tk,os⟩:=s;obtain⟨hl,h⟩:=h;have hsub:=sub_enumerate;have hL:Heap.IsTuple (Shared.heap %[hp,g,d,tk|os]) l items:=%[_,hl,O,n|O]
  wp_walk using wpAny_loadPart' hl
  refine wpAny_stack_any λ st=>A2 ?_
  split
  ·rename_i c _ _ _ _ _
   cases(c == Value.type "enumerate")
   ·wp_walk using wpAny_loadPart' hl,NW hL
    exact%[_,O|h]
   ·wp_walk using wpAny_loadPart' hl,NW hL
    exact%[_,O|h]
  ·wp_walk using wpAny_loadPart' hl,NW hL
   exact%[_,O|h]
section
variable{prog:F8}{w:G0}{A:Around}{E:G1->F7->Prop}{s:F7}
theorem fM{l:Mi}{items:Mm G1}{Q:G1->F7->Prop}(hL:s.heap.IsTuple l items)
  (h:∀h',IsEnum h' (s.heap.objs.size+1) s.heap.objs.size 0 .none->h'.IsTupleIter s.heap.objs.size l 0->h'.objs.size=s.heap.objs.size+2 ->
   (∀b o,s.heap.get? b=some o->h'.get? b=some o)->Q (.ref (s.heap.objs.size+1)) { s with heap:=h' }) :
  wpAny (model prog w) A (call (.type "enumerate") [.ref l]) Q E s:=by
 obtain⟨⟨c,dct,dt,sl⟩,hl,hc,n,hd⟩:=hL
 replace hc:c=.type "tuple" := hc
 replace hd:dt=.seq items n:=hd
 subst hc hd;refine callType_new F.called_enumerate ∅ (F.typeCall_enumerate_1 _) (F.newCall_enumerate_1 _) (λ obj=>F.args_object_init_2 obj _) F.entry_enumerate_new
  (jk l items n dct sl) %[hl|?_]
 have hz:(s.heap.push { cls:=.type "tuple_iterator",data:=.fields #[.ref l,.int 0 0] }).objs.size=s.heap.objs.size+1:=M6 ..;show _/\_;rw[hz];have he:IsEnum ((s.heap.push { cls:=.type "tuple_iterator",data:=.fields #[.ref l,.int 0 0] }).push
   { cls:=.type "enumerate",data:=.fields #[.none,.bool false,.ref s.heap.objs.size,rawInt 0,.none,.none] }) (s.heap.objs.size+1) s.heap.objs.size 0 .none:=by
  have:=A8 (s.heap.push { cls:=.type "tuple_iterator",data:=.fields #[.ref l,.int 0 0] })
   (o:={ cls:=.type "enumerate",data:=.fields #[.none,.bool false,.ref s.heap.objs.size,rawInt 0,.none,.none] }) rfl
  rw[hz]at this;exact this
 refine%[%[_,he|O]|h _ he %[_,A7 _ (A8 _ rfl),O|O] (by rw[M6,hz]) λ b o x=>A7 _ (A7 _ x)]
end
end PySem
namespace L2
open PySem PySem.Spec PyProof.Rows
def Ite(f:Mo V->HO)(l:Mi):It :=
  ⟨λ i H=>∃xs x,H l=some (f xs)/\xs[i]?=some x,
   λ i H v H'=>∃p xs x,H p=none/\v=.ref p/\H'=upd H p (.tup [.int i,x])/\H l=some (f xs)/\xs[i]?=some x,
   λ i H=>∃xs,H l=some (f xs)/\xs.length<=i⟩
section
variable{X:Cx}{Mq:Mo (Mi×Obj)}{σ:St}{H:Hp}{s:F7}
theorem kJ{f:Mo V->HO}{tn:Nat->Heap->Prop}{es:Mo Expr}{kk:Nat}{tp:Pos}{e it l:Mi}{i:Nat}{xs:Mo V}{x:V}{u:G1}{tk:Nat}{h':Heap}{E:G1->F7->Prop}(hne:e≠it)(I:Inv X Mq σ H s)(hf:∀b∈[e,it],FpOk X Mq H b)(hl:H l=some (f xs))(hx:xs[i]?=some x)
  (ho:∀b∈[e,it],b < s.heap.objs.size) (r:RelV x u) (b1:IsEnumOut h' e it ((i:Int)+1) u s.heap.objs.size) (b3:h'.get? s.heap.objs.size=some { cls:=.type "tuple",data:=.seq #[.int i tk,u] })
  (bk:∀b o,b≠e->b≠it->s.heap.get? b=some o->h'.get? b=some o) (hn:∀h'',IsEnum h'' e it ((i+1:Nat):Int) u->Heap.SameBut e h' h''->tn (i+1) h'') :
  wpAny (model X.prog X.w) X.A (letOwnedTupleGo (.Tuple es kk tp) (.ref e) (.ref s.heap.objs.size)) (λ _ s2=>∃x H',Inv X Mq σ H' s2/\RelV x (.ref s.heap.objs.size)/\(Ite f l).yld i H x H'/\tn (i+1) s2.heap/\∀b∈[e,it],H' b=none) E { s with heap:=h',toks:=tk+1 }:=by
 refine wpAny_letOwnedTupleGo_enum b1 λ h'' c1 cs=>?_;have es':e < s.heap.objs.size:=ho e (by simp);have k2:∀b o,b∉[e,it]->s.heap.get? b=some o->h''.get? b=some o:=λ b o hb q=>by simp only[G7,C2,NG,not_or]at hb;exact cs.extBut b o hb.1 (bk b o hb.1 hb.2 q)
 have I1:Inv X Mq σ H { s with heap:=h'',toks:=tk+1 }:=I.turnedN (t':=tk+1) hf k2;have hp:h''.get? s.heap.objs.size=some { cls:=.type "tuple",data:=.seq #[.int i tk,u] }:=cs.extBut _ _ (LJ es') b3;have hn0:H s.heap.objs.size=none:=I.hok.fresh (B3 _);have fpk:=I.fpOk (H':=H) (B3 _) hn0;have I2:Inv X Mq σ (upd H s.heap.objs.size (.tup [.int i,x])) { s with heap:=h'',toks:=tk+1 }:=I1.track fpk I.sz %[by show 2<=sizeLine;decide,[.int i tk,u],.cons %[tk|O] (.cons r .nil),_,hp,O,_|O];refine%[.ref s.heap.objs.size,_,I2,O,%[_,xs,x,hn0,O,O,hl|hx],hn h'' c1 cs|λ b hb=>?_];rw[aj (C0 (ho b hb))];exact(hf b hb).1
end
theorem oH{P:F8}{w:G0}{K:C6}{es:Mo Expr}{kk:Nat}{tp:Pos}(l e it:Mi)(hne:e≠it) :
  Turn P w K (.Tuple es kk tp) (Ite .lst l) [e,it] e (λ i h=>(∃old,IsEnum h e it i old)/\h.IsListIter it l i) where
 mem:=by simp
 obj:=λ i h st b hb=>by
  obtain⟨⟨old,a1⟩,⟨o2,a2,_,d2⟩⟩:=st;simp only[G7,C2,NG]at hb;rcases hb with rfl | rfl
  ·exact%[_,a1|λ v q=>by cases q]
  ·exact%[_,a2|λ v q=>by rw[d2]at q;cases q]
 keep:=λ i h h' st k=>by obtain⟨⟨old,a1⟩,a2⟩:=st;exact%[%[old|k e (by simp) _ a1]|a2.at λ o q=>k it (by simp) o q]
 item:=by
  intro X hP hw hK hc i Mq s σ H E I hf st hg;subst hP hw hK;obtain⟨⟨old,a1⟩,a2⟩:=st;obtain⟨xs,x,e1,ex⟩:=hg;obtain⟨its,rv,p1,_⟩:=I.list (G4 e1);obtain⟨u,hu,r⟩:=rv.get ex;have ho:∀b∈[e,it],b < s.heap.objs.size:=λ b hb=>by
   obtain⟨o2,a2',_⟩:=a2;simp only[G7,C2,NG]at hb;rcases hb with rfl | rfl
   ·exact A9 a1
   ·exact A9 a2'
  refine wpAny_pyNext_enum_item a1 a2 p1.isList (x:=u) (by simpa using hu) hne λ h' b1 b2 b3 b4 bk=>%[_,O|?_]
  exact kJ (tn:=λ i h=>(∃old,IsEnum h e it i old)/\h.IsListIter it l i) hne I hf e1 ex ho r b1 b3 bk λ h'' c1 cs=>%[%[u|c1]|b2.extBut cs.extBut (Ne.symm hne)]
 done:=by
  intro X hP hw hK hc i Mq s σ H E I hf st hg;subst hP hw hK;obtain⟨⟨old,a1⟩,a2⟩:=st;obtain⟨xs,e1,ex⟩:=hg;obtain⟨its,rv,p1,_⟩:=I.list (G4 e1);have lv:=rv.length;refine wpAny_pyNext_enum_end (I.ok.hd hc) a1 a2 p1.isList (by simp;omega) λ h' bk=>%[O|?_]
  exact I.turnedN (t':=s.toks) hf λ b o hb q=>by simp only[G7,C2,NG,not_or]at hb;exact bk b o hb.2 q
 self:=λ _ _ _ _ _ st h=>by obtain⟨⟨old,a1⟩,_⟩:=st;exact wpAny_pyIter_enum a1 h
theorem oI{P:F8}{w:G0}{K:C6}{es:Mo Expr}{kk:Nat}{tp:Pos}(l e it:Mi)(hne:e≠it) :
  Turn P w K (.Tuple es kk tp) (Ite .tup l) [e,it] e (λ i h=>(∃old,IsEnum h e it i old)/\h.IsTupleIter it l i) where
 mem:=by simp
 obj:=λ i h st b hb=>by
  obtain⟨⟨old,a1⟩,⟨o2,a2,_,d2⟩⟩:=st;simp only[G7,C2,NG]at hb;rcases hb with rfl | rfl
  ·exact%[_,a1|λ v q=>by cases q]
  ·exact%[_,a2|λ v q=>by rw[d2]at q;cases q]
 keep:=λ i h h' st k=>by obtain⟨⟨old,a1⟩,a2⟩:=st;exact%[%[old|k e (by simp) _ a1]|a2.at λ o q=>k it (by simp) o q]
 item:=by
  intro X hP hw hK hc i Mq s σ H E I hf st hg;subst hP hw hK;obtain⟨⟨old,a1⟩,a2⟩:=st;obtain⟨xs,x,e1,ex⟩:=hg;obtain⟨its,rv,p1,_⟩:=I.tuple (G3 e1);obtain⟨u,hu,r⟩:=rv.get ex;have lt:i < its.toArray.size:=by simp;exact(A6.mp hu).1
  have ho:∀b∈[e,it],b < s.heap.objs.size:=λ b hb=>by
   obtain⟨o2,a2',_⟩:=a2;simp only[G7,C2,NG]at hb;rcases hb with rfl | rfl
   ·exact A9 a1
   ·exact A9 a2'
  have nl:∀b∈[e,it],l≠b:=λ b hb q=>by rw[q,(hf b hb).1]at e1;cases e1
  have p1':s.heap.IsTuple l its.toArray:=p1;have DD:Draws X.prog X.w X.A.in1 it [it,l] its.toArray.size (λ i v=>its.toArray[i]?=some v) (λ i h=>h.IsTupleIter it l i/\h.IsTuple l its.toArray):=ve (show X.A.in1.handled=none from I.ok.hd hc) it l (nl it (by simp)) its.toArray;refine wpAny_pyNext_enum_itemD DD a1 %[a2|p1'] lt hne (by simp only[G7,C2,NG,not_or];exact%[hne|Ne.symm (nl e (by simp))]) λ x' h' tk px b1 b2 b3 b4 bk=>%[_,O|?_]
  have hu':its.toArray[i]?=some u:=by simpa using hu
  have eu:u=x':=B9 (hu'.symm.trans px);subst eu;exact kJ (tn:=λ i h=>(∃old,IsEnum h e it i old)/\h.IsTupleIter it l i) hne I hf e1 ex ho r b1 b3 bk λ h'' c1 cs=>%[%[u|c1]|b2.1.extBut cs.extBut (Ne.symm hne)]
 done:=by
  intro X hP hw hK hc i Mq s σ H E I hf st hg;subst hP hw hK;obtain⟨⟨old,a1⟩,a2⟩:=st;obtain⟨xs,e1,ex⟩:=hg;obtain⟨its,rv,p1,_⟩:=I.tuple (G3 e1);have lv:=rv.length;have p1':s.heap.IsTuple l its.toArray:=p1;have hT:s.TypeIs (.ref e) "enumerate" := %[_,a1|O]
  unfold pyNext;refine A0 (Nc (wpAny_callSpecial?_slot (name:=Str.ofString "__next__") hT F.slot_enumerate_next
   (F4 F.slot_enumerate_next hT F.entry_enumerate_next ?_ (F.args_enumerate_next_1 _))))
  show wpAny _ _ (field (.ref e) 2 >>= _) _ _ _;refine A0 (M5 a1 rfl (x:=.ref it) rfl ?_);refine A0 (cP (I.ok.hd hc) a2 p1' (by simp;omega) λ h' x he' hx'=>?_);obtain⟨o,ho,hc⟩:=hx';refine A0 (Nh (T := "StopIteration") (b:=true) %[o,ho|hc] isSubtype_stop ?_);refine A2 %[rfl|?_];exact I.turnedN (t':=s.toks) hf λ b o hb q=>by simp only[G7,C2,NG,not_or]at hb;exact he' b o hb.2 q
 self:=λ _ _ _ _ _ st h=>by obtain⟨⟨old,a1⟩,_⟩:=st;exact wpAny_pyIter_enum a1 h
def Ep(ta:TA):TI:=λ σ H R=>ta σ H λ vs H1=>∃l xs,vs=[.ref l]/\((H1 l=↥xs/\R (Ite .lst l) H1)\/(H1 l= ~~~xs/\R (Ite .tup l) H1))
theorem qS{X:Cx}{a:Expr}{ta:TA}{p pos tp:Pos}{es:Mo Expr}{kk:Nat}(hg:Gl X "enumerate")(hm:X.mg "enumerate" = none)(ha:PA X [a] ta)
  (hs:starEach [a] X.env=[(false,eval a X.env)]:=by rfl) :
  PI X (.Tuple es kk tp) (.Call (.Name "enumerate" p) [a] [] pos) (Ep ta):=by
 intro Mq s σ H R I h;refine Call_ (dS I hg hm PyProof.Rows.boot_enumerate (M7 (thn (ha pos Mq s σ H _ I h) λ us s1 %[vs,H1,I1,r1|q1]=>?_) (by rw[hs];rfl) (by rfl)));obtain⟨l,xs,rfl,q⟩:=q1;cases r1 with
 | cons r rr=>
  cases rr;cases r;rcases q with⟨e1,q⟩ | ⟨e1,q⟩
  ·obtain⟨its1,rv1,p1,_⟩:=I1.list (G4 e1);refine call_enumerate_list p1.isList λ h' z1 z2 sz keep=>?_;have I2:Inv X Mq σ H1 { s1 with heap:=h' }:=I1.kept (t':=s1.toks) keep;refine wpAny_pyIter_enum z1 %[s1.heap.objs.size+1,[s1.heap.objs.size+1,s1.heap.objs.size],_,_,H1,rfl,I2,oH l _ _ (Nat.succ_ne_self _),%[%[_|z1]|z2],λ b hb=>?_|q];have hb':s1.heap.objs.size<=b:=by simp only[G7,C2,NG]at hb;rcases hb with rfl | rfl <;> omega
   exact I1.fpOk hb' (I1.hok.fresh hb')
  ·obtain⟨its1,rv1,p1,_⟩:=I1.tuple (G3 e1);have p1':s1.heap.IsTuple l its1.toArray:=p1;refine fM p1' λ h' z1 z2 sz keep=>?_;have I2:Inv X Mq σ H1 { s1 with heap:=h' }:=I1.kept (t':=s1.toks) keep;refine wpAny_pyIter_enum z1 %[s1.heap.objs.size+1,[s1.heap.objs.size+1,s1.heap.objs.size],_,_,H1,rfl,I2,oI l _ _ (Nat.succ_ne_self _),%[%[_|z1]|z2],λ b hb=>?_|q];have hb':s1.heap.objs.size<=b:=by simp only[G7,C2,NG]at hb;rcases hb with rfl | rfl <;> omega
   exact I1.fpOk hb' (I1.hok.fresh hb')
theorem vf{f:Mo V->HO}(hf:∀xs ys,f xs=f ys->xs=ys){l:Mi}{xs:Mo V}{g:TG}{tb:TS}{D:Ends}{σ:St}{H:Hp}(Pv:Nat->St->Hp->Prop)(h0:Pv 0 σ H)(hk:∀i σ H',Pv i σ H'->H' l=some (f xs))
  (ht:∀i x p σ H,xs[i]?=some x->H p=none->Pv i σ H->g (.ref p) σ (upd H p (.tup [.int i,x])) λ σ2 H2=>tb { D with nx:=Pv (i+1),ct:=Pv (i+1),bk:=D.nx } σ2 H2) (hd:∀σ H,Pv xs.length σ H->D.nx σ H) :
  ∃W:Nat->Nat->St->Hp->Prop,(∃m,W 0 m σ H)/\∀i m σ H,W i m σ H ->
   ((Ite f l).stop i H/\D.nx σ H)\/((Ite f l).go i H/\∃N:St->Hp->Prop,(∀σ' H',N σ' H'->∃m',m' < m/\W (i+1) m' σ' H')/\∀x H',(Ite f l).yld i H x H'->g x σ H' λ σ2 H2=>tb { D with nx:=N,ct:=N,bk:=D.nx } σ2 H2):=by
 refine%[λ i m σ H=>m=xs.length - i/\i<=xs.length/\Pv i σ H,%[xs.length,by simp,E8 _|h0]|?_];rintro i m σ H ⟨rfl,hi,p⟩;have e1:=hk i σ H p
 by_cases hlt:i < xs.length
 ·refine .inr %[%[xs,xs[i],e1|by simp[hlt]],Pv (i+1),λ σ' H' p'=>%[xs.length - (i+1),⋯,O,hlt|p']|λ v H' y=>?_];obtain⟨q,xs',x,hq,rfl,rfl,e1',ex⟩:=y;rw[e1]at e1';cases hf _ _ (B9 e1');exact ht i x q σ H ex hq p
 ·have e:i=xs.length:=⋯
  subst e;exact .inl %[%[xs,e1|B3 _]|hd σ H p]
end L2
namespace Pc
open PySem L2
def bJ(k:Kd):Bool:=k.tu && !decide (k.w=k.h)
def lyT(i:Nat)(k:Kd):Mo (Nat×Bool):=(i,false) :: if bJ k=true then[(i,true)]else[]
def lyK:Mo Kd->Nat->Mo (Nat×Bool)
 | [],_=>[]
 | k :: r,i=>lyT i k ++ lyK r (i+1)
theorem mU(k:Kd):∀(ks:Mo Kd)(i:Nat),lyK (ks ++ [k]) i=lyK ks i ++ lyT (i+ks.length) k
 | [],i=>by simp[lyK]
 | c :: r,i=>by show lyT i c ++ lyK (r ++ [k]) (i+1)=(lyT i c ++ lyK r (i+1)) ++ _;rw[mU k r (i+1),List.append_assoc];congr 2;simp only[J4];congr 1;omega
theorem xI(i:Nat)(k:Kd):(lyT i k).length<=2:=by unfold lyT;split <;> simp
theorem lK:∀(ks:Mo Kd)(i:Nat),(lyK ks i).length<=2 * ks.length
 | [],i=>by simp[lyK]
 | c :: r,i=>by have:=lK r (i+1);have:=xI i c;simp only[lyK,J5,J4];omega
def Jq(H:Hp)(v:V)(p:Nat×Bool):Prop:=∃a,v=.ref a/\H a= ~~~[.int p.1,.bl p.2]
abbrev Lys(H:Hp):Mo V->Mo (Nat×Bool)->Prop:=Paired (Jq H)
theorem Lys.keep{H H':Hp}(k:∀b xs,H b= ~~~xs->H' b= ~~~xs){xs:Mo V}{ps:Mo (Nat×Bool)}(r:Lys H xs ps):Lys H' xs ps :=
 G5 r λ v kd %[a,e|h]=>%[a,e|k a _ h]
theorem vg{H H3:Hp}{l t:Mi}{ys:Mo V}{ps:Mo (Nat×Bool)}{i:Nat}{b:Bool}(hl:H l=none)(s3:Same H H3)(l3:H3 l=↥ys)(y3:Lys H3 ys ps)(ht:H3 t=none) :
  Same H (upd (upd H3 t (.tup [.int (i:Int),.bl b])) l (.lst (ys ++ [.ref t])))/\(upd (upd H3 t (.tup [.int (i:Int),.bl b])) l (.lst (ys ++ [.ref t]))) l=↥(ys ++ [.ref t]) /\
   Lys (upd (upd H3 t (.tup [.int (i:Int),.bl b])) l (.lst (ys ++ [.ref t]))) (ys ++ [.ref t]) (ps ++ [(i,b)]):=by
 have lt:l≠t:=ak l3 ht;refine%[λ c o e=>?_,ah|Paired.snoc (Lys.keep (λ c xs e=>?_) y3) %[t,O|by rw[aj (Ne.symm lt),ah]]]
 ·have e3:=s3 c o e;rw[aj (ak e hl),aj (ak e3 ht)];exact e3
 ·have cl:c≠l:=λ z=>by rw[z,l3]at e;cases e
  rw[aj cl,aj (ak e ht)];exact e
def jm(K:C6):Sp:=λ vs H Q _=>∃(a:Mi)(k:Kd),vs=[.ref a]/\H a= ~~~(kdV k)/\Q (.bl (bJ k)) H
def jn(C:Mi):Sp:=λ vs H Q _=>∃(x:Mi)(b:Int)(ks:Mo Kd),vs=[.ref x]/\ShopAt C H x b ks/\ks.length<=8 /\
 ∀(l:Mi)(ys:Mo V)(H':Hp),H l=none->H' l=↥ys->Lys H' ys (lyK ks 0)->Same H H'->Q (.ref l) H'
def gT(ks:Mo Kd)(x t:V):Bool:=match x,t with
 | .int i,.bl b=>decide (0<=i) && match ks[i.toNat]? with
  | some k=>!b || bJ k
  | none=>false
 | _,_=>false
def fh(K:C6)(C:Mi):Sp:=λ vs H Q _=>∃(s:Mi)(b:Int)(ks:Mo Kd)(x t:V)(T U:String),vs=[.ref s,x,t]/\ShopAt C H s b ks/\Ty K H x T/\Ty K H t U/\Q (.bl (gT ks x t)) H
end Pc
namespace L2
open PySem PySem.Spec PyProof.Rows
section
variable{X:Cx}
inductive rz_op_inD(K:C6)(x:V)(y:V)(H:Hp)(Q:VK):Prop
|mk(d xs:_)(_:DatV K H x d)(_:DatV K H y (.list xs))(_:SeqAt.shaped (.list xs)=true)(_:SeqAt.shaped d=true)(_:(∀y∈xs,SeqAt.noMix y d=true))(_:Q (.bl (decide (countIn d xs≠0))) H)
theorem vh{k:Nat}{C:Mi}{ps:Mo Str}{sp:Sp}{m:Str}{o:Expr}{e:Expr}{es:Mo Expr}{ta:TE}{t:TA}{apos pos:Pos}{pl:Sem Bool}(he:PE X o ta)(c:Cls X.K C)(D:Mn X.prog X.w X.K X.mg X.base C m ps k sp)(hr:Room k X.A)(ha:PA X (e :: es) t)
  (hst:starEach (e :: es) X.env=(false,eval e X.env) :: starEach es X.env:=by rfl) (hpl:(backTo pos (starEach es X.env)).any (·.1)=false:=by rfl)
  (ht:eval (.Call (.Attribute o m apos) (e :: es) [] pos) X.env=(do
   let ov<-eval o X.env
   standAt apos.atName
   let (f,first)<-holding [ov] (getMethod ov m pl)
   callWith pos f first (backTo pos (starEach (e :: es) X.env)) (backToKw pos (keywordEach [] X.env))):=by rfl):PE X (.Call (.Attribute o m apos) (e :: es) [] pos) (qH C m sp [] E0 ta t):=by
 obtain⟨f,fd,F,hb,hm⟩:=D;exact xw he c hm F hr hb .nil qN ha hst hpl ht
end
section
variable{K:C6}{C X:Mi}
theorem lL(h:ExcC K C):(PySem.W.clsIn K C).isSome=true/\PySem.W.typeIn K (.ref C)=some (.type "type"):=by
 unfold ExcC PySem.W.excIn at h
 split at h
 ·rename_i e
  refine%[?_|?_]
  ·unfold PySem.W.clsIn;rw[e]
   rfl
  ·show Option.map (λ x=>x.cls) (List.lookup C K)=_;rw[e]
   rfl
 ·cases h
theorem kL{t:G1}{b:Bool}(hx:ExcC K X)(s:PySem.W.subIn K t (.ref X)=some b):PySem.W.kitCls K t (.ref X)=some b:=by
 obtain⟨h1,h2⟩:=lL hx;unfold PySem.W.kitCls;simp only[h1,h2,s]
 rfl
theorem mV:PySem.W.kitOne K (.ref C) (.ref C)=some true:=by unfold PySem.W.kitOne;rw[Mw (by simp)]
theorem zO{b:Bool}(hx:ExcC K X)(ne:¬ X=C)(s:PySem.W.subIn K (.ref C) (.ref X)=some b):PySem.W.kitOne K (.ref C) (.ref X)=some b:=by unfold PySem.W.kitOne;rw[Mu (λ z=>ne (Value.ref.inj (beq_iff_eq.mp z)).symm)];exact kL hx s
theorem bc(s0:PySem.W.subIn K (.ref C) (.ref C)=some true)(hx:ExcC K X)(s:PySem.W.subIn K (.ref C) (.ref X)=some false):PySem.W.kitOne K (.ref C) (.ref X)=some false :=
 zO hx (λ z=>by rw[z,s0]at s;cases s) s
theorem vi(s:PySem.W.subIn K (.ref C) (.type "ValueError")=some true):PySem.W.kitOne K (.ref C) (.type "ValueError")=some true:=by unfold PySem.W.kitOne;rw[Mu (λ z=>by cases(beq_iff_eq.mp z))];show(if PySem.W.kitMeta "ValueError" = true then PySem.W.subIn K (.ref C) (.type "ValueError")else none)=_;rw[Mw (show PySem.W.kitMeta "ValueError" = true by decide +kernel)];exact s
theorem vj(hx:ExcC K X)(b:PySem.W.subIn K (.ref X) (.type "BaseException")=some true)(s:PySem.W.subIn K (.ref C) (.ref X)=some true):PySem.W.exmOne K (.ref C) (.ref X)=some true:=by unfold PySem.W.exmOne;rw[b,Mw (show((some true == some true)=true)from rfl)];exact kL hx s
end
section
variable{X:Cx}
inductive rz_call_int_text(xs:Mo V)(H:Hp)(Q:VK):Prop
|mk(z n:_)(_:xs=[.str z])(_:intText? z=some n)(_:z.length<=640)(_:Q (.int n) H)
abbrev TJ:=St->Hp->Str->(Str->Hp->Prop)->Prop
def PJ(X:Cx)(es:Mo Expr)(t:TJ):Prop:=∀(Mq:Mo (Mi×Obj))(s:F7)(σ:St)(H:Hp)(out:Str)(Q:Str->Hp->Prop),Inv X Mq σ H s->t σ H out Q ->
 wpAny (model X.prog X.w) X.A (joinParts out (evalEach es X.env)) (EP X Mq σ λ v H'=>∃z,v=.str z/\Q z H') X.xe s
theorem vk:PJ X [] (λ _ H out Q=>out.length<=sizeLine/\Q out H):=λ Mq s σ H out Q I h=>
 joinParts_nil %[.str out,H,I.tok _,%[_|rfl],out,rfl|h.2] h.1
def tJC(z:Str)(t:TJ):TJ:=λ σ H out Q=>(out ++ z).length<=sizeLine/\t σ H (out ++ z) Q
theorem oJ{z:Str}{j:Nat}{pos:Pos}{es:Mo Expr}{t:TJ}(hr:PJ X es t):PJ X (.Constant (.str z) j pos :: es) (tJC z t):=λ Mq s σ H out Q I h=>by show wpAny _ _ (joinParts out (eval (.Constant (.str z) j pos) X.env :: evalEach es X.env)) _ _ s;exact joinParts_cons (Calls.Constant_str %[h.1|hr Mq _ σ H _ Q (I.tok _) h.2])
def tJF(te:TE)(t:TJ):TJ:=λ σ H out Q=>te σ H λ v H1=>∃z,((∃i:Int,v=.int i/\i.natAbs.log2 < 1920/\z=Str.ofString (toString i))\/(v=.str z/\z.length<=sizeLine))/\(out ++ z).length<=sizeLine/\t σ H1 (out ++ z) Q
theorem vm{e:Expr}{pos:Pos}{es:Mo Expr}{te:TE}{t:TJ}(he:PE X e te)(hr:PJ X es t):PJ X (.FormattedValue e (-1) none pos :: es) (tJF te t):=λ Mq s σ H out Q I h=>by
 show wpAny _ _ (joinParts out (eval (.FormattedValue e (-1) none pos) X.env :: evalEach es X.env)) _ _ s;refine joinParts_cons (FormattedValue_plain (thn (he Mq s σ H _ I h) λ u s1 %[v,H1,I1,r,z,hz,hl|q]=>?_));rcases hz with⟨i,rfl,hi,rfl⟩ | ⟨rfl,hz⟩
 ·obtain⟨tk,rfl⟩:=r;exact formatField_int_small hi %[hl|hr Mq _ σ H1 _ Q (I1.tok _) q]
 ·obtain⟨tk,rfl⟩:=r;exact formatField_str (λ t' k=>%[hl|hr Mq _ σ H1 _ Q (I1.tok _) q]) hz
theorem kM{v₁ v₂:Expr}{es:Mo Expr}{pos:Pos}{t:TJ}(h:PJ X (v₁ :: v₂ :: es) t):PE X (.JoinedStr (v₁ :: v₂ :: es) pos) (λ σ H Q=>t σ H Str.empty λ z H'=>Q (.str z) H'):=λ Mq s σ H Q I hq=>by refine JoinedStr_many ?_;show wpAny _ _ (joinParts Str.empty (evalEach (v₁ :: v₂ :: es) X.env)) _ _ s;exact thn (h Mq s σ H Str.empty _ I hq) λ u s1 %[v,H1,I1,r,z,e|q]=>%[v,H1,I1,r|by rw[e];exact q]
end
theorem qU:∀{ns:Mo Int}{its:Mo G1},Vals (ns.map V.int) its->IntsAre its ns
 | [],_,r=>by cases r;exact .nil
 | n :: ns,_,r=>by
  cases r with
  | cons r1 r2=>
   obtain⟨t,e⟩:=r1;subst e;exact .cons n t (qU r2)
section
variable{X:Cx}
inductive rz_call_divmodB(xs:Mo V)(H:Hp)(Q:VK):Prop
|mk(i j:_)(_:xs=[.int i,.int j])(_:CDivB i j)(_:∀p,H p=none->Q (.ref p) (upd H p (.tup [.int (i / j),.int (i % j)])))
theorem lM:bW X (.builtin "divmod") (rz_call_divmodB):=by intro Mq s σ H xs us Q I r h;obtain⟨i,j,rfl,hc,q⟩:=h;have h1:=hc.1;obtain⟨u,w',rfl,⟨t,rfl⟩,⟨t',rfl⟩⟩:=uH r;refine divmod_int ⋯ ?_ (.inl hc.np);rw[Int.fdiv_eq_ediv_of_nonneg i ⋯,Int.fmod_eq_emod_of_nonneg i ⋯];have hn:H s.heap.objs.size=none:=I.hok.fresh (B3 _);refine%[.ref s.heap.objs.size,_,?_,O|q _ hn];refine I.laid (λ b o e=>A7 _ e) (B3 _) %[by simp only[J4,MZ];rw[sizeLine_eq];decide,[.int (i / j) s.toks,.int (i % j) (s.toks+1)],.cons %[_|rfl] (.cons %[_|rfl] .nil)|?_];exact%[_,A8 s.heap rfl,O,0|O]
inductive rz_call_sortedI(K:C6)(xs:Mo V)(H:Hp)(Q:VK):Prop
|mk(p:Mi)(ns:Mo Int)(_:xs=[.ref p])(_:SqL K H p (ns.map V.int))(_:ns.length < 64)(_:∀(l:Mi)(ns':Mo Int),H l=none->ns'.Perm ns->ns'.Pairwise (·<=·)->Q (.ref l) (upd H l (.lst (ns'.map V.int))))
inductive rz_call_sumI(K:C6)(xs:Mo V)(H:Hp)(Q:VK):Prop
|mk(p:Mi)(ns:Mo Int)(_:xs=[.ref p])(_:SqL K H p (ns.map V.int))(_:Q (.int ns.sum) H)
theorem jo:∀{bs:Mo Bool}{its:Mo G1},Vals (bs.map V.bl) its->its=bs.map Value.bool
 | [],_,r=>by cases r;rfl
 | b :: bs,_,r=>by
  cases r with
  | cons r1 r2=>
   have e:_=Value.bool b:=r1;subst e;rw[G9,jo r2]
theorem sk(bs:Mo Bool):(List.range bs.length).all (λ i=>bs.getD i false)=bs.all id:=by
 rw[MN,MT,MT];constructor
 ·intro h b hb;obtain⟨i,hi,e⟩:=List.getElem_of_mem hb;have:=h i (LM.mpr hi);rw[LR,F2 hi]at this;simpa[e]using this
 ·intro h i hi;have hi':=LM.mp hi;rw[LR,F2 hi'];exact h _ (Mc hi')
inductive rz_call_allB(K:C6)(xs:Mo V)(H:Hp)(Q:VK):Prop
|mk(p:Mi)(bs:Mo Bool)(_:xs=[.ref p])(_:SqL K H p (bs.map V.bl))(_:Q (.bl (bs.all id)) H)
theorem gU(hc:X.calm=true):bW X (.builtin "all") (rz_call_allB X.K):=by
 intro Mq s σ H xs us Q I r h;obtain⟨p,bs,rfl,hs,q⟩:=h;obtain⟨u,rfl,rfl⟩:=eD r;obtain⟨its,rv,pl,_⟩:=I.list hs;have e:=jo rv;subst e;have hlt:p < s.heap.objs.size:=by obtain⟨_,_,e,_⟩:=pl;exact A9 e
 refine call_all_walk (wpAny_pyIter_list pl.isList ?_);refine%[_,_,_,_,_,_,λ i=>bs.getD i false,O,Walks.list (A:=X.A.in1) (I.ok.hd hc) _ p (C0 hlt) _,%[%[_,A8 _ rfl,O|O]|pl.isList.push _],λ i v s' Q' E' hP hQ'=>?_|λ h' tk hk=>?_]
 ·have hP':(bs.map Value.bool)[i]?=some v:=by simpa using hP
  rw[G8]at hP';cases hb:bs[i]? with
  | none=>rw[hb]at hP';cases hP'
  | some b=>
   rw[hb]at hP';cases hP';have hQ2:Q' (bs.getD i false) s':=hQ';rw[LR,hb]at hQ2;exact F3 hQ2
 ·have e2:((bs.map Value.bool).toArray.size)=bs.length:=by simp
  rw[e2,sk];refine%[.bl (bs.all id),H,I.kept (h':=h') (t':=tk) (λ b o e=>hk b o ?_ (A7 _ e)),O|q];intro z;rw[E2.mp z]at e;exact absurd (A9 e) (E1 _)
inductive rz_call_repr(K:C6)(xs:Mo V)(H:Hp)(Q:VK):Prop
|mk(a d:_)(_:xs=[.ref a])(_:DatV K H (.ref a) d)(_:d.showable=true)(_:d.hasDict=false)(_:d.depth<=64)(_:d.shown.length<=sizeLine)(_:Q (.str d.shown) H)
def CMulB(i j:Int):Prop:=i.natAbs < 2 ^ 4096/\j.natAbs < 2 ^ 4096
theorem qV{k:Int}(h:k.natAbs < 2 ^ 4096):Builtin.Int.intBits k<=2 ^ 20:=by
 have e:(2:Nat) ^ 20=1048576:=∅
 unfold Builtin.Int.intBits
 split
 ·exact E8 _
 ·have:k.natAbs.log2 < 4096:=by
   rcases Nat.eq_zero_or_pos k.natAbs with h0 | hp
   ·rw[h0];decide
   ·exact(Nat.log2_lt (LJ hp)).mpr h
  omega
theorem CMulB.ok{i j:Int}(h:CMulB i j):IntMulOk i j:=.of_bits (qV h.1) (qV h.2)
theorem xJ:OpR X (binaryOp .Mult) (rI CMulB λ i j=>.int (i * j)):=opI λ _ _ _ _ _ _ _ hc q=>mul_int q hc.ok
end
theorem qW{α:Type}{xs:Mo α}{i:Int}{v:α}(h0:0<=i)(h:xs[i.toNat]?=some v):atI xs i=some v:=by
 have e:i=((i.toNat:Nat):Int):=⋯
 have z:atI xs ((i.toNat:Nat):Int)=some v:=bX h;rw[<- e]at z;exact z
end L2
namespace Pc
open PySem L2
def PotB(H:Hp)(p:Mi):Prop:=∃a b:Int,0<=a/\0<=b/\b < 2147483648/\H p=↥[.int a,.int b]
theorem PotB.new{H:Hp}{p q:Mi}{o:HO}(x:PotB H p)(h:H q=none):PotB (upd H q o) p:=by obtain⟨a,b,h1,h2,h3,e⟩:=x;exact%[a,b,h1,h2,h3|by rw[aj (ak e h)];exact e]
theorem PotB.same{H H':Hp}{p:Mi}(x:PotB H p)(s:Same H H'):PotB H' p:=by obtain⟨a,b,h1,h2,h3,e⟩:=x;exact%[a,b,h1,h2,h3|s _ _ e]
theorem PotB.some{H:Hp}{p:Mi}(x:PotB H p):H p≠none:=by obtain⟨a,b,h1,h2,h3,e⟩:=x;rw[e];exactλ z=>by cases z
theorem PotB.ne{H:Hp}{p q:Mi}(x:PotB H p)(h:H q=none):p≠q:=λ z=>x.some (z ▸ h)
def vn(K:C6):Sp:=λ vs H Q _=>∃(a:Mi)(ns:Mo Int)(n:Int),vs=[.ref a,.int n]/\SqL K H a (ns.map V.int)/\0<=n/\∀c:Int,Q (.int c) H
def vo:Sp:=λ vs H Q _=>∃(c:Int),vs=[.int c]/\∀(p:Mi)(H':Hp),H p=none->PotB H' p->Same H H'->Q (.ref p) H'
def fj:Sp:=λ vs H Q _=>∃(p:Mi)(m:Int),vs=[.ref p,.int m]/\PotB H p/\0 < m/\m<=10 ^ 60/\∀(r:Int)(H':Hp),0<=r->r < m->PotB H' p->But p H H'->Q (.int r) H'
def gh:Sp:=λ vs H Q _=>∃(p:Mi),vs=[.ref p]/\PotB H p/\∀(r:Int)(H':Hp),0<=r->r < 10 ^ 58->PotB H' p->But p H H'->Q (.int r) H'
end Pc
namespace L2
open PySem
theorem Room.units66{k:Nat}{A:Around}(r:Room k A):A.units+66 < cLine:=by have:=r.un;omega
end L2
namespace Pc
open PySem L2
theorem zP{K:C6}{H:Hp}:∀ns:Mo Int,DatVs K H (ns.map V.int) (ns.map PyData.int)
 | []=>.nil
 | n :: r=>.cons (.int n) (zP r)
def Short(i:Int):Prop:=i.natAbs < 10 ^ 62
theorem Short.log{i:Int}(h:Short i):i.natAbs.log2 < 1920:=by
 unfold Short at h;rcases Nat.eq_zero_or_pos i.natAbs with h0 | hp
 ·rw[h0];decide
 ·refine(Nat.log2_lt (LJ hp)).mpr (Nat.lt_trans h ?_)
  decide +kernel
theorem Short.len{i:Int}(h:Short i):(PyData.shown (.int i)).length<=63:=by show(Str.ofString (toString i)).length<=63;rw[ofString_length];exact int_text_length_le10 ∅ h
end Pc
namespace L2
open PySem PySem.Spec PyProof.Rows
mutual
inductive DatD(K:C6)(H:Hp):V->PyData->Prop
 | non:DatD K H .non .none
 | bl (b:Bool):DatD K H (.bl b) (.bool b)
 | int (i:Int):DatD K H (.int i) (.int i)
 | str (x:Str):DatD K H (.str x) (.str x)
 | lst {a:Mi} {xs:Mo V} {ds:Mo PyData}:SqL K H a xs->DatDs K H xs ds->DatD K H (.ref a) (.list ds)
 | tup {a:Mi} {xs:Mo V} {ds:Mo PyData}:SqT K H a xs->DatDs K H xs ds->DatD K H (.ref a) (.tuple ds)
 | dct {a:Mi} {kv:Mo (Int×Int)}:H a=some (.dK (kv.map λ p=>(Sum.inl p.1,V.int p.2)))->DatD K H (.ref a) (.dict (kv.map λ p=>(.int p.1,.int p.2)))
inductive DatDs(K:C6)(H:Hp):Mo V->Mo PyData->Prop
 | nil:DatDs K H [] []
 | cons {x:V} {d:PyData} {xs:Mo V} {ds:Mo PyData}:DatD K H x d->DatDs K H xs ds->DatDs K H (x :: xs) (d :: ds)
end
def SysIn(K:C6):Prop:=∃o,K.lookup sysModules=some o/\o.cls=.type "dict"
section
variable{X:Cx}{Mq:Mo (Mi×Obj)}{σ:St}{H:Hp}{s:F7}
theorem jp{h:Heap}{P:F8}{w:G0}:∀{es:Mo DictEntry}{kv:Mo (Int×Int)}{vs:Mo (Key×G1)},KV (kv.map λ p=>((Sum.inl p.1:Key),V.int p.2)) vs->Pairs (aO P w) es vs ->
  ReadsAll h (es.map (·.key)) ((kv.map λ p=>(PyData.int p.1,PyData.int p.2)).map (·.1)) []/\ReadsAll h (es.map (·.val)) ((kv.map λ p=>(PyData.int p.1,PyData.int p.2)).map (·.2)) []
 | es,[],vs,k,p=>by cases k;cases p;exact%[.nil|.nil]
 | es,(i,j) :: kv,vs,k,p=>by
  cases k with
  | @cons _ q _ l2 k1 k2=>
   obtain⟨e1,t,e2⟩:=k1;cases p with
   | @cons e _ es' vs' p1 p2 p3=>
    obtain⟨q1,q2⟩:=q;have e1':(Sum.inl i:Key)=q1:=e1;subst e1';obtain⟨t',ek⟩:=Value.isInt_shape (k:=i) (v:=e.key) p1;have e2':q2=Value.int j t:=e2;obtain⟨r1,r2⟩:=jp (h:=h) k2 p3;have ev:e.val=Value.int j t:=by rw[p2];exact e2'
    refine%[?_|?_]
    ·simp only[G9];rw[ek];exact .cons (as:=[]) (.int i t') r1
    ·simp only[G9];rw[ev];exact .cons (as:=[]) (.int j t) r2
mutual
theorem Inv.readsD(I:Inv X Mq σ H s)(sm:SysIn X.K):∀{v:V}{d:PyData},DatD X.K H v d->∀{u:G1},RelV v u->∃as,Reads s.heap u d as/\sysModules∉as
 | _,_,.non,u,r=>by cases(show u=Value.none from r);exact%[_,.none|by simp]
 | _,_,.bl b,u,r=>by cases(show u=Value.bool b from r);exact%[_,.bool b|by simp]
 | _,_,.int i,u,r=>by obtain⟨t,e⟩:=(show∃t,u=Value.int i t from r);subst e;exact%[_,.int i t|by simp]
 | _,_,.str x,u,r=>by obtain⟨t,e⟩:=(show∃t,u=Value.str x t from r);subst e;exact%[_,.str x t|by simp]
 | _,_,.lst (a:=a) h hs,u,r=>by
  cases(show u=Value.ref a from r);obtain⟨its,rv,⟨o,n,e,c,_,d⟩,_⟩:=I.list h;obtain⟨as,ra,na⟩:=I.readsAllD sm hs rv;refine%[_,.list e c d (by simpa using ra)|?_];intro z;rcases G7.mp z with z | z
  ·obtain⟨o',k1,k2⟩:=sm;have k3:=I.kIn _ _ k1;rw[z,e]at k3;cases k3;rw[c]at k2;simp at k2
  ·exact na z
 | _,_,.tup (a:=a) h hs,u,r=>by cases(show u=Value.ref a from r);obtain⟨its,rv,⟨o,e,c,n,d⟩,_⟩:=I.tuple h;obtain⟨as,ra,na⟩:=I.readsAllD sm hs rv;exact%[_,.tuple e c d (by simpa using ra)|na]
 | _,_,.dct (a:=a) (kv:=kv) h,u,r=>by
  cases(show u=Value.ref a from r);obtain⟨_,ne,vs,kv',o,es,ep,h1,h2,h3,_,h5,_⟩:=I.hok a _ h;obtain⟨r1,r2⟩:=jp (h:=s.heap) kv' h5;refine%[_,.dict h1 h2.1 h3 r1 r2|?_];intro z;have z':sysModules=a:=by simpa using z
  rw[z']at ne;simp at ne
theorem Inv.readsAllD(I:Inv X Mq σ H s)(sm:SysIn X.K):∀{vs:Mo V}{ds:Mo PyData},DatDs X.K H vs ds->∀{us:Mo G1},Vals vs us->∃as,ReadsAll s.heap us ds as/\sysModules∉as
 | _,_,.nil,_,.nil=>%[_,.nil|by simp]
 | _,_,.cons h hs,_,.cons r rs=>by obtain⟨as,ra,na⟩:=I.readsD sm h r;obtain⟨bs,rb,nb⟩:=I.readsAllD sm hs rs;exact%[_,.cons ra rb|λ z=>(C4.mp z).elim na nb]
end
inductive rz_call_reprD(K:C6)(xs:Mo V)(H:Hp)(Q:VK):Prop
|mk(a d:_)(_:xs=[.ref a])(_:DatD K H (.ref a) d)(_:d.showable=true)(_:d.depth<=64)(_:d.shown.length<=sizeLine)(_:Q (.str d.shown) H)
theorem jq(sm:SysIn X.K)(hg:X.A.guards=some [])(hu:X.A.units+66 < cLine):bW X (.builtin "repr") (rz_call_reprD X.K):=by intro Mq s σ H xs us Q I r h;obtain⟨a,d,rfl,hd,h1,h3,h4,q⟩:=h;obtain⟨u,rfl,rfl⟩:=eD r;obtain⟨as,ra,na⟩:=I.readsD sm hd (u:=.ref a) rfl;exact repr_of_reads' ra h1 (λ _=>na) hg ⋯ (λ _ _ e=>e) (λ h' u tk hk=>%[.str d.shown,H,I.kept hk,%[_|O]|q]) h4
end
end L2
namespace L2
open PySem PySem.Spec PyProof.Rows
section
variable{X:Cx}{k:Nat}{ps:Mo Str}{sp:Sp}{x:Str}{p pos:Pos}{e:Expr}{es:Mo Expr}{t:TA}
def DnX(P:F8)(w:G0)(K:C6)(mg:Str->Ml G1)(base:Heap)(x:Str)(ps:Mo Str)(k:Nat)(sp:Sp):Prop :=
 ∃(f:Mi)(fd:F9),FnOk P w K mg base (CXx P w) k f fd ps sp/\Binds K fd ps []/\PySem.W.keepIn K (.ref f)=true/\mg x=↑f
def zQ(sp:Sp)(t:TA):TX:=λ σ H Q E=>t σ H λ vs H1=>sp vs H1 Q E
theorem gW(D:DnX X.prog X.w X.K X.mg X.base x ps k sp)(hr:Room k X.A)(hg:Gl X x)(ha:PA X.nox (e :: es) t)
  (hdb:(x == ("__debug__" : Str))=false:=by decide) (he:starEach (e :: es) X.env=(false,eval e X.env) :: starEach es X.env:=by rfl) (hpl:(backTo pos (starEach es X.env)).any (·.1)=false:=by rfl) :
  PEx X (.Call (.Name x p) (e :: es) [] pos) (zQ sp t):=by
 obtain⟨f,fd,F,hb,hk,hm⟩:=D;intro Mq s σ H Q E I h;refine NX (dR I hg hm ?_ hdb);refine PySem.W.callWith_K (h₀:=X.base) I.ok.mod.kin hk (Mz (ha pos Mq s σ H _ (I.wish _) h) (λ us s1 ⟨vs,H1,I1,r,q⟩=>%[I1.kIn|?_]) λ _ _ z=>E7 z) he hpl;exact xG F hr hb I1.unwish r q
end
theorem jW:entryFor table "proto.unchain" = some Builtin.«proto.unchain» := by exact entryFor_of_tree (by kernel_rfl)
section
variable{prog:F8}{w:G0}{A:Around}{E:G1->F7->Prop}{s:F7}
theorem lN{e:G1}{ea:Mi}{Q:G1->F7->Prop}(q:Q2 ea s.heap)(h:Q .none s):wpAny (model prog w) A (runValue (.builtin "proto.unchain" %[[e,.ref ea,.ref ea,.bool false]|[]])) Q E s:=by obtain⟨oe,vs,he,hd,h2⟩:=q;refine runValue_entry jW ?_;show wpAny _ _ (field (.ref ea) 2 >>= _) _ _ s;refine A0 (M5 he hd h2 ?_);show wpAny _ _ (ret .none) _ _ s;exact A2 %[_,rfl|h]
theorem oK{it ea:Mi}{x left step:Int}{Q:Ml G1->F7->Prop}(hh:A.handled=↑ea)(q2:Q2 ea s.heap)(hit:IsRangeIter s.heap it x left step)(hleft:left<=0)
  (hQ:∀h',Heap.ExtBut it s.heap h'->Q none { s with heap:=h' }):wpAny (model prog w) A (pyNext (.ref it)) Q E s:=by
 have hT:s.TypeIs (.ref it) "range_iterator" := %[_,hit|O]
 unfold pyNext;refine A0 (Nc (wpAny_callSpecial?_slot (name:=Str.ofString "__next__") hT F.slot_range_iterator_next
  (F4 F.slot_range_iterator_next hT F.entry_range_iterator_next ?_ (F.args_range_iterator_next_1 _))))
 show wpAny _ _ (field (.ref it) 0 >>= _) _ _ s;refine A0 (M5 hit rfl (x:=rawInt x) rfl ?_);show wpAny _ _ (field (.ref it) 1 >>= _) _ _ s;refine A0 (M5 hit rfl (x:=rawInt left) rfl ?_);show wpAny _ _ (field (.ref it) 2 >>= _) _ _ s;refine A0 (M5 hit rfl (x:=rawInt step) rfl ?_);show wpAny _ _ (if left<=0 then _ else _) _ _ s;rw[Mw hleft];refine A0 (Ni ?_);refine A0 ?_;show wpAny _ _ (newExc (.type "StopIteration") [] >>= _) _ _ _;refine A0 ?_;simp only[newExc,newTuple];refine A0 (F5 ?_ (by size_fits));refine A0 (m:=firstArgMember _ _) (wpAny_of_eq (a:=Value.none) (by first | rfl | (simp only[firstArgMember];rfl)) ?_);refine F5 ?_ (by size_fits);simp only[raiseNew];refine A0 (wpAny_handled ?_);rw[show A.in1.handled=↑ea from hh];dsimp only;obtain⟨oe,vs,he,hd,h2⟩:=id q2;generalize hB:s.heap.push { cls:=.type "tuple",dict:=none,data:=.seq ([]:Mo G1).toArray }=B;have q3:Q2 ea B:=hB ▸ q2.push;have hne:(Value.ref ea != Value.ref B.objs.size)=true:=by obtain⟨oe,vs,he,hd,h2⟩:=id q3;exact bne_iff_ne.mpr λ z=>C0 (A9 he) (Value.ref.inj z)
 rw[Mw hne];refine A0 (M3 (lN q3.push ?_));have hE:=A8 (h:=B) (o:={ cls:=.type "StopIteration",data:=.fields (#[.ref s.heap.objs.size,.none,.none,.none,.bool false,Value.none] ++ ownMembersOf (.type "StopIteration") []) }) rfl;refine A0 (NH hE rfl (show 2 < 6 by decide) (wpAny_throw ?_));refine A0 (Nh (T := "StopIteration") (b:=true) %[_,NB _ hE rfl|rfl] isSubtype_stop ?_);refine A2 (hQ _ λ b o hb e=>?_);have e1:B.get? b=some o:=hB ▸ A7 _ e;exact(NF _ _ (LJ (A9 e1))).trans (A7 _ e1)
end
def QH(A:Around)(H:Hp):Prop:=∃ea c,A.handled=↑ea/\H ea=some (.ext (IsA ea c))
theorem mW{X:Cx}{tg:Expr}(it:Mi)(lo:Int)(n:Nat):TurnY X tg (Itr lo n) [it] it (λ i h=>IsRangeIter h it (lo+(i:Nat) * 1) ((n:Int) - (i:Nat)) 1) (QH X.A) where
 obj:=(cM (P:=X.prog) (w:=X.w) (K:=X.K) (tg:=tg) it lo n).obj
 keep:=(cM (P:=X.prog) (w:=X.w) (K:=X.K) (tg:=tg) it lo n).keep
 item:=by
  intro i Mq s σ H E qh I hf st hg;obtain⟨f0,f1,f2,f3,f4,f5⟩:=hf it (by simp);have hg:i < n:=hg;refine wpAny_pyNext_range_item st ⋯ λ h' st' sb=>?_;have I1:Inv X Mq σ H { s with heap:=h',toks:=s.toks+1 }:=I.turned (λ b o hb e=>sb.extBut b o hb e) f0 f1 f3 f4 f5;have e1:lo+((i+1:Nat):Int) * 1=lo+(i:Int) * 1+1:=by push_cast;omega
  have e2:(n:Int) - ((i+1:Nat):Int)=(n:Int) - (i:Int) - 1:=by push_cast;omega
  rw[<- e1,<- e2]at st';refine%[_,O|mH (s:={ s with heap:=h',toks:=s.toks+1 }) (n := "range_iterator") st' rfl rfl ∅ %[.int (lo+i),H,I1,%[s.toks|?_],%[O|O],st'|λ b hb=>(hf b hb).1]];rw[Int.mul_one]
 done:=by intro i Mq s σ H E qh I hf st hg;obtain⟨f0,f1,f2,f3,f4,f5⟩:=hf it (by simp);obtain⟨ea,c,hh,he⟩:=qh;obtain⟨o,eo,_,vs,hd,h2⟩:=(I.hok ea _ he).1;exact oK hh %[o,vs,eo,hd|h2] st (by have:n<=i:=hg;omega) λ h' eb=>%[O|I.turned (t':=s.toks) (λ b o hb e=>eb b o hb e) f0 f1 f3 f4 f5]
 self:=(cM (P:=X.prog) (w:=X.w) (K:=X.K) (tg:=tg) it lo n).self X.A 0
section
variable{X:Cx}{Mq:Mo (Mi×Obj)}{σ:St}{H2:Hp}{s2:F7}{scope:Scope}{own cs:Mo Str}{cap:Mo Nat}{fp:Mo Mi}{it:Mi}{tn:Nat->Heap->Prop}
 {elt tg iter:Expr} {ifs:Mo Expr} {pos:Pos} {J:It} {g:TG} {tt:TT} {te:TE} {E:G1->F7->Prop} {W:Nat->Nat->Mo V->Hp->Prop} {Qf:Mo V->Hp->Prop}
def zR(A:Around)(ta:TA)(cap:Mo Nat)(k:Nat)(g:TG)(tt:TT)(te:TE):TE:=λ σ H Q=>ta σ H λ vs H1=>∃j:Int,vs=[.int j]/\-(2 ^ 62)<=j/\j < 2 ^ 62 /\
 ∃W:Nat->Nat->Mo V->Hp->Prop,(∃m,W 0 m [] H1)/\(∀i m ys H,W i m ys H->QH A H)/\eE σ cap k (Itr 0 j.toNat) g tt te (λ ys H'=>∀p,H' p=none->Q (.ref p) (upd H' p (.lst ys))) W
theorem vp{a:Expr}{ta:TA}{p rpos:Pos}(hgr:Gl X "range")(hm:X.mg "range" = none)(ha:PA X [a] ta)(ok:CompOk X scope own cs cap)
  (hg:∀Mq s2 H2 C fp,PG (aF X Mq s2 H2 scope C (own ++ cs) fp) tg g) (hi:∀Mq s2 H2 C fp,gc (aF X Mq s2 H2 scope C (own ++ cs) fp) ifs tt) (he:∀Mq s2 H2 C fp,PE (aF X Mq s2 H2 scope C (own ++ cs) fp) elt te)
  (hst:starEach [a] X.env=[(false,eval a X.env)]:=by rfl)
  (hs:∀x,foldedSetIterable (.Call (.Name "range" p) [a] [] rpos) X.env x=pure x:=by intro _;rfl):PE X (.ListComp elt [%[tg,.Call (.Name "range" p) [a] [] rpos,ifs|0]] scope pos) (zR X.A ta cap own.length g tt te):=by
 intro Mq s σ H Q I h;rw[eval_ListComp];refine NM (use:=none) rfl hs (cN λ y hy e=>I.ok.has y.1 (ok.free y hy e)) ok.kind ok.names ?_;refine Call_ (dS I hgr hm boot_range (M7 (thn (ha rpos Mq s σ H _ I h) λ us s1 %[vs,H1,I1,r1|q1]=>?_) hst rfl));obtain⟨j,e,q1,q2,W,w0,hq,turn⟩:=q1;subst e;cases r1 with
 | cons r rr=>
  cases rr;obtain⟨t,rfl⟩:=r;refine call_range_1 ?_;refine wpAny_pyIter_range (IsRange.new ..) (small_one ⋯ ⋯ q1 q2) ?_;generalize hB:s1.heap.push { cls:=Value.type "range",data:=Data.fields #[Value.int 0 s1.toks,Value.int j t,Value.int 1 (s1.toks+1)] }=B;have I2:Inv X Mq σ H1 { s1 with heap:=B,toks:=s1.toks+1+1 }:=I1.kept λ b o e=>hB ▸ A7 _ e;have I3:Inv X Mq σ H1 { s1 with heap:=B.push { cls:=Value.type "range_iterator",data:=Data.fields #[rawInt 0,rawInt (Builtin.Range.rangeSize 0 j 1),rawInt 1] },toks:=s1.toks+1+1 }:=I2.kept (t':=s1.toks+1+1) λ b o e=>A7 _ e;have st3:IsRangeIter (B.push { cls:=Value.type "range_iterator",data:=Data.fields #[rawInt 0,rawInt (Builtin.Range.rangeSize 0 j 1),rawInt 1] }) B.objs.size (0+((0:Nat):Int) * 1) ((j.toNat:Int) - ((0:Nat):Int)) 1:=by
   have e1:(0:Int)+((0:Nat):Int) * 1=0:=by simp
   have e2:((j.toNat:Nat):Int) - ((0:Nat):Int)=Builtin.Range.rangeSize 0 j 1:=by rw[rangeSize_one];split <;> omega
   rw[e1,e2];exact A8 _ rfl
  refine jc (RR:=λ acc C=>compPost (model X.prog X.w) X.A X.xe none (EP X Mq σ Q) acc C) I3 ok (λ C=>mW B.objs.size 0 j.toNat) st3 (λ b hb=>?_) (λ C=>hg _ _ _ _ _) (λ C=>hi _ _ _ _ _) (λ C=>he _ _ _ _ _) w0 hq turn λ D C s' ys H' hD %[_|q] I' fp' %[m|hn]=>?_
  ·have e:b=B.objs.size:=by simpa using hb
   subst e;exact I2.fpOk (B3 _) (I2.hok.fresh (B3 _))
  ·obtain⟨f0,f1,f2',f3,f4,f5⟩:=fp';exact%[m,hn|λ h' sb=>%[.ref D,_,I'.turned (t':=s'.toks) (λ b o hb e=>sb.extBut b o hb e) f0 f1 f3 f4 f5,O|q D hD]]
end
structure FnQ(P:Program)(w:World)(K:C6)(mg:Str->Ml Value)(base:Heap)(k:Nat)(f:Mi)(fd:FuncData)(ps:Mo Str)(sp:Sp):Prop where
 len:∀vs H Q E,sp vs H Q E->vs.length=ps.length
 run:∀(A:Around)(outer:Mo Env)(s:F7)(H:Hp)(args:Args)(us:Mo G1)(vs:Mo V)(Q:VK)(E:XK),RoomH k A->QH A H->Env0 P w K mg base A outer s H->BindsTo s fd args (ps.zip us)->Vals vs us->sp vs H Q E ->
  codeAny (model P w) A (.call (.ref f) args) (CR CX0 outer P w H s Q E) s
theorem zS{P:F8}{w:G0}{K:C6}{mg:Str->Ml G1}{base:Heap}{k:Nat}{f:Mi}{x qual:Str}{st:Stmt}{fd:F9}{N ps:Mo Str}{sp:Sp}(F:Fun K x qual st f fd)(S:FnScope N ps (defScope st))
  (len:∀vs H Q E,sp vs H Q E->vs.length=ps.length)
  (hbody:∀(cdv:G1)(A:Around)(outer:Mo Env)(s:F7)(H:Hp)(vs:Mo V)(Q:VK)(E:XK),RoomH k (A.deeper (envOfC qual (defScope st) s.heap.objs.size f cdv))->QH (A.deeper (envOfC qual (defScope st) s.heap.objs.size f cdv)) H->sp vs H Q E ->
   ∃t,PSs (cxH P w K mg base N qual (defScope st) f cdv A outer s H) (defBody st) t/\t { nx:=λ _ H'=>Q .non H',rt:=Q } (dE N vs) H):FnQ P w K mg base (k+1) f fd ps sp:=by
 obtain⟨oc,od,kV,doc,pm,an,cdv,ct,osl,rfl,lk,hcd⟩:=F.ex;refine%[len|λ A outer s H args us vs Q E hr hqh e0 hb r hsp=>?_];have hl:=len _ _ _ _ hsp;have KX:K.In s.heap:=e0.mod.kin.keeps λ b o e=>(e0.bs b o e).1;have lim:s.heap.NoLimit:=e0.mod.nolimit.keeps λ b o e=>(e0.bs b o e).1;have hkind:∀y∈ps.zip us,(defScope st).names.lookup y.1=some .local\/((defScope st).names.lookup y.1=some .cell/\((cellsFrom (s.heap.objs.size+1) (defScope st).names []).lookup y.1).isSome=true):=λ⟨n,v⟩ hy=>by
  rcases S.par n (Mf hy).1 with q | q
  ·exact .inl q
  ·exact .inr %[q|PySem.W.cellsFrom_some _ _ _ (.inl q)]
 have dep:A.depth < recursionLimit:=by have:=hr.dp;omega
 refine codeAny_call_function dep (KX _ _ lk) rfl S.co S.gen rfl (PySem.W.codeRec_of KX hcd) (hb _ _ _ _ ?_);refine wpAny_newFunctionEnv_cells S.kind hkind λ env he s1 x=>?_;subst he;refine%[lim.keeps x.toInCall.keep|codeAny_func ?_];obtain⟨t,ht,hq⟩:=hbody cdv A outer s H vs Q E (hr.deeper _) (by obtain⟨ea,c,h1,h2⟩:=hqh;exact%[ea,c,h1|h2]) hsp;have e0':Env0 P w K mg base { A with handled:=none } outer s H:=%[e0.frames,e0.mod,e0.bs,e0.bsz,e0.funs,e0.frf,e0.hok|e0.bare]
 have J:Inv (ft CX0 P w K mg base N qual (defScope st) f cdv { A with handled:=none } outer s H E0) [] (dE N vs) H s1:=kB S rfl e0' hl r x;have I:Inv (cxH P w K mg base N qual (defScope st) f cdv A outer s H) [] (dE N vs) H s1 :=
  ⟨%[J.ok.mod,J.ok.kind,J.ok.glob,J.ok.blt,J.ok.above,J.ok.inj,J.ok.has,J.ok.cab,λ z=>absurd (show false=true from z) B2,Around.frames_deeper e0.frames,J.ok.stk,J.ok.exf,J.ok.bs,J.ok.bsz,J.ok.noex,J.ok.exfs,J.ok.funs|J.ok.frf],
   J.os,J.bare,J.base,J.loc,J.cell,J.free,J.freeC,J.pin,J.hok,J.len⟩
 refine Mz (ht [] s1 (dE N vs) H _ I hq) (λ fl s' hs=>?_) λ e s' hs=>E7 hs;have fin:∀{σ':St}{H':Hp}{v:V}{u:G1},Inv (cxH P w K mg base N qual (defScope st) f cdv A outer s H) [] σ' H' s'->RelV v u->Q v H'->CE outer P w H s Q u s' :=
  λ {σ' H' v u} J rv q=>%[v,H',J.os,J.bare,J.base,J.hok,rv|q]
 cases fl with
 | ret u=>
  obtain⟨v,σ',H',J,rv,q⟩:=hs;exact fin J rv q
 | next=>
  obtain⟨σ',H',J,q⟩:=hs;exact fin (v:=V.non) (u:=Value.none) J rfl q
 | brk=>
  obtain⟨_,_,_,q⟩:=hs;exact E7 q
 | cont=>
  obtain⟨_,_,_,q⟩:=hs;exact E7 q
def DnQ(P:F8)(w:G0)(K:C6)(mg:Str->Ml G1)(base:Heap)(x:Str)(ps:Mo Str)(k:Nat)(sp:Sp):Prop :=
 ∃(f:Mi)(fd:F9),FnQ P w K mg base k f fd ps sp/\Binds K fd ps []/\PySem.W.keepIn K (.ref f)=true/\mg x=↑f
theorem Er{X:Cx}{k:Nat}{ps:Mo Str}{sp:Sp}{x:Str}{p pos:Pos}{e:Expr}{es:Mo Expr}{t:TA}(D:DnQ X.prog X.w X.K X.mg X.base x ps k sp)(hr:RoomH k X.A)(hg:Gl X x)(ha:PA X (e :: es) t)
  (hdb:(x == ("__debug__" : Str))=false:=by decide) (he:starEach (e :: es) X.env=(false,eval e X.env) :: starEach es X.env:=by rfl) (hpl:(backTo pos (starEach es X.env)).any (·.1)=false:=by rfl) :
  PE X (.Call (.Name x p) (e :: es) [] pos) (uM (λ vs H1 Q E=>QH X.A H1/\sp vs H1 Q E) [] E0 t):=by
 obtain⟨f,fd,F,hb,hk,hm⟩:=D;intro Mq s σ H Q I h;refine NX (dR I hg hm ?_ hdb);refine PySem.W.callWith_K (h₀:=X.base) I.ok.mod.kin hk (thn (ha pos Mq s σ H _ I h) λ us s1 %[vs,H1,I1,r|q]=>%[I1.kIn|?_]) he hpl;have q:QH X.A H1/\sp (vs ++ []) H1 Q E0:=q;rw[K6]at q;have hl:(us ++ []).length=ps.length:=by rw[K6,<- r.length];exact F.len _ _ _ _ q.2
 have b:=hb s1 us I1.kIn hl;rw[K6]at b;refine wpAny_call (Nk (F.run X.A X.stack s1 H1 %[us|[]] us vs Q E0 hr q.1 I1.env0 b r q.2) λ r s' hq=>?_);cases r with
 | error e=>exact E7 hq
 | ok fl=>
  cases fl with
  | ret u=>exact I1.after hq
  | next=>exact E7 hq
  | brk=>exact E7 hq
  | cont=>exact E7 hq
theorem FnQ.or{P:F8}{w:G0}{K:C6}{mg:Str->Ml G1}{base:Heap}{k:Nat}{f:Mi}{fd:F9}{ps:Mo Str}{sp sp':Sp}(a:FnQ P w K mg base k f fd ps sp)(b:FnQ P w K mg base k f fd ps sp') :
  FnQ P w K mg base k f fd ps (λ vs H Q E=>sp vs H Q E\/sp' vs H Q E) :=
 %[λ vs H Q E h=>h.elim (a.len vs H Q E) (b.len vs H Q E)|λ A outer s H args us vs Q E hr hq e0 hb r hsp=>hsp.elim (a.run A outer s H args us vs Q E hr hq e0 hb r) (b.run A outer s H args us vs Q E hr hq e0 hb r)]
section
variable{κ:Type}[DecidableEq κ]
def cG(kvs:Mo (κ×V))(k:κ):Ml V:=(kvs.find? λ kv=>decide (kv.1=k)).map (·.2)
def dF(kvs:Mo (κ×V))(k:κ)(v:V):Mo (κ×V) :=
 if (kvs.any λ kv=>decide (kv.1=k))=true then kvs.map (λ kv=>if kv.1=k then(kv.1,v)else kv)else kvs ++ [(k,v)]
theorem dG{p:κ×V}{r:Mo (κ×V)}{k:κ}(e:p.1=k):cG (p :: r) k=some p.2:=by simp[cG,Ma,e]
theorem cz{p:κ×V}{r:Mo (κ×V)}{k:κ}(e:¬ p.1=k):cG (p :: r) k=cG r k:=by simp[cG,Ma,e]
theorem jr(k:κ):∀kvs:Mo (κ×V),(kvs.any λ kv=>decide (kv.1=k))=(cG kvs k).isSome
 | []=>rfl
 | p :: r=>by
  rw[List.any_cons]
  by_cases e:p.1=k
  ·simp only[dG e,Mx e,Bool.true_or,Option.isSome_some]
  ·rw[cz e,M0 e,Bool.false_or];exact jr k r
theorem eR(kvs:Mo (κ×V))(k:κ)(v:V):(dF kvs k v).length<=kvs.length+1:=by
 unfold dF
 split
 ·rw[B4];omega
 ·rw[J5,J4,MZ];omega
theorem mX{kvs:Mo (κ×V)}{k:κ}(v:V)(h:cG kvs k=none):dF kvs k v=kvs ++ [(k,v)]:=by unfold dF;rw[jr,h];exact Mu ∅
theorem RelO.isSome_eq{o:Ml V}{u:Ml G1}(r:RelO o u):o.isSome=u.isSome:=by
 cases o with
 | none=>cases u with
  | none=>rfl
  | some _=>exact(show False from r).elim
 | some _=>cases u with
  | none=>exact(show False from r).elim
  | some _=>rfl
theorem KV.val{kvs:Mo (κ×V)}{vs:Mo (κ×G1)}(r:KV kvs vs)(k:κ):RelO (cG kvs k) (valueAt vs k):=by
 unfold KV at r
 induction r with
 | nil=>exact True.intro
 | @cons p q ps qs h t ih=>
  obtain⟨h1,h2⟩:=h
  by_cases e:p.1=k
  ·have e':q.1=k:=h1.symm.trans e;have b:valueAt (q :: qs) k=some q.2:=by simp[valueAt,Ma,e']
   rw[dG e,b];exact h2
  ·have e':¬ q.1=k:=λ z=>e (h1.trans z);have b:valueAt (q :: qs) k=valueAt qs k:=by simp[valueAt,Ma,e']
   rw[cz e,b];exact ih
theorem KV.any{kvs:Mo (κ×V)}{vs:Mo (κ×G1)}(r:KV kvs vs)(k:κ):(kvs.any λ kv=>decide (kv.1=k))=vs.any λ kv=>decide (kv.1=k):=by
 unfold KV at r
 induction r with
 | nil=>rfl
 | cons h t ih=>rw[List.any_cons,List.any_cons,ih,h.1]
theorem KV.repl{kvs:Mo (κ×V)}{vs:Mo (κ×G1)}(r:KV kvs vs)(k:κ){y:V}{u:G1}(ry:RelV y u) :
  KV (kvs.map λ kv=>if kv.1=k then(kv.1,y)else kv) (vs.map λ kv=>if kv.1=k then(kv.1,u)else kv):=by
 unfold KV at r ⊢
 induction r with
 | nil=>exact .nil
 | @cons p q ps qs h t ih=>
  rw[G9,G9];refine .cons ?_ ih;obtain⟨h1,h2⟩:=h
  by_cases e:p.1=k
  ·rw[Mw e,Mw (h1.symm.trans e)];exact%[h1|ry]
  ·rw[Mu e,Mu (λ z=>e (h1.trans z))];exact%[h1|h2]
theorem KV.put{kvs:Mo (κ×V)}{vs:Mo (κ×G1)}(r:KV kvs vs)(k:κ){y:V}{u:G1}(ry:RelV y u):KV (dF kvs k y) (stored vs k u):=by
 unfold dF stored;rw[r.any k]
 by_cases e:(vs.any λ kv=>decide (kv.1=k))=true
 ·rw[Mw e,Mw e];exact r.repl k ry
 ·rw[Mu e,Mu e];exact Paired.snoc r %[rfl|ry]
theorem KV.length{kvs:Mo (κ×V)}{vs:Mo (κ×G1)}(r:KV kvs vs):kvs.length=vs.length:=E3 r
end
theorem qX{P:F8}{w:G0}{k:Key}{u:G1}(r:RelV (kV k) u):(aO P w).is k u=true:=by
 cases k with
 | inl i=>obtain⟨t,e⟩:=(show∃t,u=Value.int i t from r);subst e;exact mE P w i t
 | inr x=>obtain⟨t,e⟩:=(show∃t,u=Value.str x t from r);subst e;exact mF P w x t
theorem kN{P:F8}{w:G0}:∀{ks:Mo Key}{us:Mo G1},Vals (ks.map kV) us->ItemsAre (aO P w) ks us
 | [],_,r=>by rw[LN]at r;cases r;exact .nil
 | k :: ks,_,r=>by
  rw[G9]at r;cases r with
  | cons h t=>exact .cons (qX h) (kN t)
abbrev KT(H:Hp):Mo (Mo Key×V)->Mo (Mo Key×Mi×G1)->Prop:=Paired λ p q=>p.1=q.1/\H q.2.1= ~~~(p.1.map kV)/\RelV p.2 q.2.2
theorem KT.val{H:Hp}{kvs:Mo (Mo Key×V)}{xs:Mo (Mo Key×Mi×G1)}(r:KT H kvs xs)(k:Mo Key):RelO (cG kvs k) ((atKey xs k).map (·.2)):=by
 induction r with
 | nil=>exact True.intro
 | @cons p q ps qs h t ih=>
  obtain⟨h1,_,h2⟩:=h
  by_cases e:p.1=k
  ·have e':q.1=k:=h1.symm.trans e;have b:atKey (q :: qs) k=some q.2:=by simp[atKey,Ma,e']
   rw[dG e,b];exact h2
  ·have e':¬ q.1=k:=λ z=>e (h1.trans z);have b:atKey (q :: qs) k=atKey qs k:=by simp[atKey,Ma,e']
   rw[cz e,b];exact ih
theorem KT.repl{H:Hp}{kvs:Mo (Mo Key×V)}{xs:Mo (Mo Key×Mi×G1)}(r:KT H kvs xs)(k:Mo Key){y:V}{u:G1}(ry:RelV y u) :
  KT H (kvs.map λ kv=>if kv.1=k then(kv.1,y)else kv) (xs.map (putAt k u)):=by
 induction r with
 | nil=>exact .nil
 | @cons p q ps qs h t ih=>
  rw[G9,G9];refine .cons ?_ ih;obtain⟨h1,h2,h3⟩:=h;unfold putAt
  by_cases e:p.1=k
  ·rw[Mw e,Mw (h1.symm.trans e)];exact%[h1,h2|ry]
  ·rw[Mu e,Mu (λ z=>e (h1.trans z))];exact%[h1,h2|h3]
theorem KT.put{H:Hp}{kvs:Mo (Mo Key×V)}{xs:Mo (Mo Key×Mi×G1)}(r:KT H kvs xs)(k:Mo Key){b:Mi}{y:V}{u:G1}(hb:H b= ~~~(k.map kV))(ry:RelV y u) :
  KT H (dF kvs k y) (storedH xs k b u):=by
 have e:(kvs.any λ kv=>decide (kv.1=k))=(atKey xs k).isSome:=by rw[jr,(r.val k).isSome_eq,Option.isSome_map]
 unfold dF storedH;rw[e]
 by_cases q:(atKey xs k).isSome=true
 ·rw[Mw q,Mw q];exact r.repl k ry
 ·rw[Mu q,Mu q];exact Paired.snoc r %[rfl,hb|ry]
theorem KT.keeps{H H':Hp}{kvs:Mo (Mo Key×V)}{xs:Mo (Mo Key×Mi×G1)}(r:KT H kvs xs)(ht:∀b ys,H b= ~~~ys->H' b= ~~~ys):KT H' kvs xs :=
 G5 r λ _ _ z=>%[z.1,ht _ _ z.2.1|z.2.2]
section
variable{P:F8}{w:G0}{H:Hp}{h:Heap}{a:Mi}
theorem zd{u:HO}(ok:HOk P w H h)(e:Rd H a u):ObjOk P w H h a u:=e.ok ok
theorem qY{kvs:Mo (Key×V)}(ok:HOk P w H h)(e:Rd H a (.dK kvs)):kvs.length<=sizeLine/\(a == sysModules)=false/\∃vs,KV kvs vs/\h.DictOf (aO P w) a vs :=
 show ObjOk P w H h a (.dK kvs)from zd ok e
theorem Es{kvs:Mo (Key×V)}(ok:HOk P w H h)(e:H a=some (.dK kvs)):kvs.length<=sizeLine/\(a == sysModules)=false/\∃vs,KV kvs vs/\h.DictOf (aO P w) a vs:=qY ok (.inl e)
theorem eS{ks:Mo Key}(ok:HOk P w H h)(e:H a= ~~~(ks.map kV)):(tupleKind (aO P w)).is h ks a:=by
 obtain⟨_,its,r,o,h1,h2,n,h3⟩:=(show ObjOk P w H h a (.tup (ks.map kV))from ok a _ e)
 exact%[o,its.toArray,n,h1,h2,h3|by simpa using kN r]
theorem kO{kvs:Mo (Mo Key×V)}(ok:HOk P w H h)(e:Rd H a (.dT kvs)):kvs.length<=sizeLine/\(a == sysModules)=false /\
  ∃xs,KT H kvs xs/\h.DictOfH (tupleKind (aO P w)) a xs:=by
 obtain⟨z,y,xs,r,o,es,ep,h1,h2,h3,h4,h5⟩:=(show ObjOk P w H h a (.dT kvs)from zd ok e)
 refine%[z,y,xs,r,o,es,ep,h1,h2,h3,h4,λ x hx=>?_|h5];have all:∀{l:Mo (Mo Key×V)}{m:Mo (Mo Key×Mi×G1)},KT H l m->∀x∈m,(tupleKind (aO P w)).is h x.1 x.2.1:=by
  intro l m q
  induction q with
  | nil=>intro x hx;exact nomatch hx
  | @cons p q ps qs hq t ih=>
   intro x hx;rcases G7.mp hx with e | hx
   ·subst e;exact eS ok (by rw[<- hq.1];exact hq.2.1)
   ·exact ih x hx
 exact all r x hx
theorem vq{kvs:Mo (Mo Key×V)}(ok:HOk P w H h)(e:H a=some (.dT kvs)):kvs.length<=sizeLine/\(a == sysModules)=false /\
  ∃xs,KT H kvs xs/\h.DictOfH (tupleKind (aO P w)) a xs:=kO ok (.inl e)
end
def DGet(H:Hp)(a:Mi)(y:V)(r:Ml V):Prop :=
 (∃kvs k,Rd H a (.dK kvs)/\y=kV k/\r=cG kvs k)\/∃kvs k b,Rd H a (.dT kvs)/\y=.ref b/\H b= ~~~(k.map kV)/\r=cG kvs k
def DPut(H:Hp)(a:Mi)(y v:V)(H':Hp):Prop :=
 (∃kvs k,H a=some (.dK kvs)/\y=kV k/\kvs.length < sizeLine/\H'=upd H a (.dK (dF kvs k v))) \/
 ∃kvs k b,H a=some (.dT kvs)/\y=.ref b/\H b= ~~~(k.map kV)/\kvs.length < sizeLine/\H'=upd H a (.dT (dF kvs k v))
theorem DGet.t{H:Hp}{a b:Mi}{kvs:Mo (Mo Key×V)}{k:Mo Key}(e:H a=some (.dT kvs))(eb:H b= ~~~(k.map kV)):DGet H a (.ref b) (cG kvs k):=.inr %[kvs,k,b,.inl e,O,eb|O]
theorem DPut.t{H:Hp}{a b:Mi}{kvs:Mo (Mo Key×V)}{k:Mo Key}{v:V}(e:H a=some (.dT kvs))(eb:H b= ~~~(k.map kV))(hl:kvs.length < sizeLine) :
  DPut H a (.ref b) v (upd H a (.dT (dF kvs k v))):=.inr %[kvs,k,b,e,O,eb,hl|O]
section
variable{X:Cx}{Mq:Mo (Mi×Obj)}{σ:St}{H:Hp}{s:F7}{a:Mi}{y v:V}{u r:G1}{o:Ml V}{A:Around}{E:G1->F7->Prop}
theorem Inv.big(I:Inv X Mq σ H s):sysModules < s.heap.objs.size:=by have h:Mp < s.heap.objs.size:=(I.mod.glob.keeps I.bk).lt;exact Nat.lt_trans ∅ h
theorem so{Q:G1->F7->Prop}(hu:A.units+1 < cLine)(I:Inv X Mq σ H s)(g:DGet H a y (some v))(ry:RelV y u)(h:∀w' s',Inv X Mq σ H s'->RelV v w'->Q w' s') :
  wpAny (model X.prog X.w) A (getItem (.ref a) u) Q E s:=by
 rcases g with⟨kvs,k,e,ey,l⟩ | ⟨kvs,k,b,e,ey,eb,l⟩
 ·subst ey;obtain⟨z,hd,vs,rel,dd⟩:=qY I.hok e;obtain⟨w',hw,rw'⟩:=RelO.some_of (v:=v) (o:=valueAt vs k) (by rw[l];exact rel.val k);exact wpAny_getItem_of (qX ry) dd.mapOf hw (h w' _ (I.tok _) rw')
 ·subst ey;cases(show u=Value.ref b from ry);obtain⟨z,hd,xs,rel,dd⟩:=kO I.hok e;obtain⟨w',hw,rw'⟩:=RelO.some_of (v:=v) (o:=(atKey xs k).map (·.2)) (by rw[l];exact rel.val k);obtain⟨p,hp,hp2⟩:=J7.mp hw;refine wpAny_getItem_heap (tupleKind_room_in1 hu) (eS I.hok eb) dd hp ?_;rw[hp2];exact h w' _ (I.tok _) rw'
theorem xK{Q:G1->F7->Prop}(hu:A.units+1 < cLine)(I:Inv X Mq σ H s)(g:DGet H a y o)(ry:RelV y u)(h:∀s',Inv X Mq σ H s'->Q (.bool (!o.isSome)) s') :
  wpAny (model X.prog X.w) A (compareOp .NotIn u (.ref a)) Q E s:=by
 rcases g with⟨kvs,k,e,ey,l⟩ | ⟨kvs,k,b,e,ey,eb,l⟩
 ·subst ey;obtain⟨z,hd,vs,rel,dd⟩:=qY I.hok e;refine wpAny_notIn_of (qX ry) hd dd.mapOf ?_;rw[<- (rel.val k).isSome_eq,<- l];exact h _ (I.tok _)
 ·subst ey;cases(show u=Value.ref b from ry);obtain⟨z,hd,xs,rel,dd⟩:=kO I.hok e;refine wpAny_notIn_heap (tupleKind_room_in1 hu) (eS I.hok eb) hd dd ?_;have q:=(rel.val k).isSome_eq;rw[Option.isSome_map]at q;rw[<- q,<- l];exact h _ (I.tok _)
theorem lO{h':Heap}{t':Nat}{ob:HO}(I:Inv X Mq σ H s)(mu:Mut (H a))(hs:Heap.SameBut a s.heap h')(he:∃q,h'.get? a=some q)(new:ObjOk X.prog X.w (upd H a ob) h' a ob) :
  Inv X Mq σ (upd H a ob) { s with heap:=h',toks:=t' } :=
 I.write (x:=a) (e:=a) mu (.inl rfl) (λ b q hb z=>(hs.2 b hb).trans z) he new
theorem zT{P:F8}{w:G0}{H':Hp}{h':Heap}{kvs:Mo (Key×V)}{vs:Mo (Key×G1)}(z:kvs.length<=sizeLine)(hd:(a == sysModules)=false)(rel:KV kvs vs)(dd:h'.DictOf (aO P w) a vs) :
  ObjOk P w H' h' a (.dK kvs):=%[z,hd,vs,rel|dd]
theorem sr{H':Hp}{Q:Unit->F7->Prop}(hu:A.units+1 < cLine)(I:Inv X Mq σ H s)(g:DPut H a y v H')(ry:RelV y u)(rv:RelV v r)(h:∀s',Inv X Mq σ H' s'->Q () s') :
  wpAny (model X.prog X.w) A (setItem (.ref a) u r) Q E s:=by
 rcases g with⟨kvs,k,e,ey,l,eH⟩ | ⟨kvs,k,b,e,ey,eb,l,eH⟩
 ·subst ey eH;obtain⟨z,hd,vs,rel,dd⟩:=Es I.hok e;have hz:vs.length<=sizeLine:=by rw[<- rel.length];exact z
  have hl:(dF kvs k v).length<=sizeLine:=by have:=eR kvs k v;omega
  refine wpAny_setItem_pairs (hsz:=hz) (qX ry) dd λ h' dd' hs=>h _ ?_;have he:∃q,h'.get? a=some q:=let ⟨q,_,_,hq,_⟩:=dd';%[q|hq]
  exact lO I (by rw[e];exact True.intro) hs he (zT hl hd (rel.put k rv) dd')
 ·subst ey eH;cases(show u=Value.ref b from ry);obtain⟨z,hd,xs,rel,dd⟩:=vq I.hok e;have hz:xs.length<=sizeLine:=by rw[<- Paired.length rel];exact z
  have hl:(dF kvs k v).length<=sizeLine:=by have:=eR kvs k v;omega
  refine wpAny_setItem_heap (hsz:=hz) (tupleKind_room_in1 hu) (eS I.hok eb) dd λ h' dd' hs=>h _ ?_;obtain⟨q,es,ep,hq,h2,h3,h4,_,h5⟩:=dd';refine lO I (by rw[e];exact True.intro) hs %[q|hq] %[hl,hd,_,(rel.put k eb rv).keeps λ c ys ec=>?_,q,es,ep,hq,h2,h3,h4|h5];rw[aj (yT ec e (λ z=>nomatch z))];exact ec
end
def Et(i:Expr):Prop:=∀ov iv,subscripted i false ov iv=operate [ov,iv] (getItem ov iv)
theorem xL{prog:F8}{w:G0}{A:Around}{E:G1->F7->Prop}{s:F7}{env:Env}{value slice:Expr}{pos:Pos}{T id:String}{Q:G1->F7->Prop}
  (hl:typeLookup (.type T) "__getitem__" = pure (some (.builtin id))) (hs:Et slice)
  (h:wpAny (model prog w) A (eval value env) (λ o s₁=>wpAny (model prog w) A (eval slice env) (λ i s₂=>s₂.TypeIs o T/\wpAny (model prog w) A (getItem o i) Q E s₂) E s₁) E s) :
  wpAny (model prog w) A (eval (.Subscript value slice pos) env) Q E s:=by
 refine Subscript_ (Mz h (λ o s₁ h₁=>Mz h₁ (λ i s₂ h₂=>?_) λ _ _ x=>x) λ _ _ x=>x);obtain⟨hT,h₂⟩:=h₂;unfold subscriptTail;refine A0 ?_;rw[getitemInPython_of_ne hT.not_modules];refine A0 (wpAny_specialOf hT hl ?_);have fin:wpAny (model prog w) A (subscripted slice false o i) (λ r s₃=>wpAny (model prog w) A (letTemporaryGo value o r >>= λ _=>pure r) Q E s₃) E s₂:=by rw[hs o i];exact wpAny_operating (Mz h₂ (λ r s₃ h₃=>A0 (wpAny_letTemporaryGo (A2 h₃))) λ _ _ x=>x)
 first
  | exact A2 (A0 fin)
  | exact A0 (A2 (A0 fin))
  | exact A0 fin
theorem mY{X:Cx}{Mq:Mo (Mi×Obj)}{σ:St}{H:Hp}{s:F7}{a:Mi}{y:V}{o:Ml V}(I:Inv X Mq σ H s)(g:DGet H a y o):s.TypeIs (.ref a) "dict" := by
 rcases g with⟨kvs,k,e,_,_⟩ | ⟨kvs,k,b,e,_,_,_⟩
 ·obtain⟨_,_,vs,_,dd⟩:=qY I.hok e;exact dd.typeIs
 ·obtain⟨_,_,xs,_,dd⟩:=kO I.hok e;exact dd.typeIs
def Eu(td ty:TE):TE:=λ σ H Q=>td σ H λ x H1=>ty σ H1 λ y H2=>∃a v,x=.ref a/\DGet H2 a y (some v)/\Q v H2
def xM(ty td:TE):TE:=λ σ H Q=>ty σ H λ y H1=>td σ H1 λ x H2=>∃a o,x=.ref a/\DGet H2 a y o/\Q (.bl (!o.isSome)) H2
def Ev(td ty tv:TE):TS:=λ D σ H=>tv σ H λ v H1=>td σ H1 λ x H2=>ty σ H2 λ y H3=>∃a H4,x=.ref a/\DPut H3 a y v H4/\D.nx σ H4
section
variable{X:Cx}{o i e value:Expr}{pos pos' tpos:Pos}{td ty tv:TE}
theorem cZ(hu:X.A.units+1 < cLine)(ho:PE X o td)(hi:PE X i ty)(hs:Et i):PE X (.Subscript o i pos) (Eu td ty):=by intro Mq s σ H Q I h;refine xL PySem.F.slot_dict_getitem.lookup hs (thn (ho Mq s σ H _ I h) λ u s1 %[x,H1,I1,rx|q1]=>thn (hi Mq s1 σ H1 _ I1 q1) λ iv s2 %[y,H2,I2,ry,a,v,ex,g|q2]=>?_);subst ex;obtain rfl:u=Value.ref a:=rx;exact%[mY I2 g|so hu I2 g ry λ w' s3 I3 rw'=>%[v,H2,I3,rw'|q2]]
theorem sC(hu:X.A.units+1 < cLine)(hi:PE X i ty)(ho:PE X o td):PC X .NotIn i o (xM ty td):=by intro Mq s σ H Q I h;refine thn (hi Mq s σ H _ I h) λ iv s1 %[y,H1,I1,ry|q1]=>thn (ho Mq s1 σ H1 _ I1 q1) λ u s2 %[x,H2,I2,rx,a,ov,ex,g|q2]=>?_;subst ex;obtain rfl:u=Value.ref a:=rx;exact xK hu I2 g ry λ s3 I3=>%[.bl (!ov.isSome),H2,I3,O|q2]
theorem xN(hu:X.A.units+1 < cLine)(ho:PE X o td)(hi:PE X i ty)(hv:PE X value tv)(hs:swapsWith value (some (.Subscript o i pos')) pos.line X.env=pure false) :
  PS X (.Assign [.Subscript o i pos'] value pos) (Ev td ty tv):=by
 intro Mq s σ H D I h;refine wpAny_Assign_Subscript (thn (hv Mq s σ H _ I h) λ r s1 %[v,H1,I1,rv|q1]=>thn (ho Mq s1 σ H1 _ I1 q1) λ u s2 %[x,H2,I2,rx|q2]=>thn (hi Mq s2 σ H2 _ I2 q2) λ iv s3 %[y,H3,I3,ry,a,H4,ex,g|q3]=>?_) hs;subst ex;obtain rfl:u=Value.ref a:=rx;exact sr hu I3 g ry rv λ s4 I4=>%[σ,H4,I4|q3]
end
theorem mZ{P:F8}{w:G0}{H:Hp}(h:Heap)(hb:sysModules < h.objs.size):ObjOk P w H (h.push { cls:=.type "dict",data:=.dict #[] }) h.objs.size (.dT []) :=
 %[E8 _,NJ.mpr (Ne.symm (C0 hb)),[],.nil,_,#[],0,A8 _ rfl,%[rfl,rfl|rfl],rfl,rfl|Mb]
def zU:TE:=λ _ H Q=>∀p,H p=none->Q (.ref p) (upd H p (.dT []))
section
variable{X:Cx}{pos:Pos}
theorem nh:PE X (.Dict [] [] pos) zU:=λ Mq s σ H Q I h=>
 wpAny_Dict_empty %[.ref s.heap.objs.size,_,I.laid (a:=s.heap.objs.size) (o:=.dT []) (t':=s.toks) (λ _ _ q=>A7 _ q) (B3 _) (mZ s.heap I.big),rfl|h _ (I.hok.fresh (B3 _))]
end
structure M1(X:Cx)(o:Expr)(m:Str)(apos:Pos)(e:Expr)(cpos:Pos):Prop where
 base:attributeBase o m X.env (eval o X.env)=eval o X.env
 few:((backTo cpos (starEach [e] X.env)).all (λ x=>!x.1) && (backToKw cpos (keywordEach [] X.env)).all (λ x=>x.1.isSome)
  && decide (([e]:Mo Expr).length+([]:Mo Keyword).length+(if ([]:Mo Keyword).isEmpty then 0 else 1) < 30))=true
 line:(apos.endLine == cpos.line)=true
 trees:backTo cpos (starEach [e] X.env)=[(false,eval e X.env)]
structure M2(X:Cx)(o:Expr)(m:Str)(apos:Pos)(e f:Expr)(cpos:Pos):Prop where
 base:attributeBase o m X.env (eval o X.env)=eval o X.env
 few:((backTo cpos (starEach [e,f] X.env)).all (λ x=>!x.1) && (backToKw cpos (keywordEach [] X.env)).all (λ x=>x.1.isSome)
  && decide (([e,f]:Mo Expr).length+([]:Mo Keyword).length+(if ([]:Mo Keyword).isEmpty then 0 else 1) < 30))=true
 line:(apos.endLine == cpos.line)=true
 trees:backTo cpos (starEach [e,f] X.env)=[(false,eval e X.env),(false,eval f X.env)]
end L2
/- THE LAST THEOREM (shape;LID,My.* are yours):
   My.Adr: a structure of the addresses that your layer names (classes,functions);My.Txt K t: a structure (Prop) of the equations over K;
   My.txt_mk : {K} {implicit addresses ..} (e1 : nsIn K Mp "law" = some (↑f)) (e2 : K.lookup f=some %[oc,od,.func (fnOf "law" "law" params body scope dV kV doc pm an cdv ct)|sl]) (e3 : codeIn K cdv "law" = true) .. : ∃ t,My.Txt K t
(the tactic k_is has no namespace: write k_is) -/
namespace L2
open PySem PySem.Spec PyProof.Rows
section
variable{X:Cx}
inductive rz_call_lenD(xs:Mo V)(H:Hp)(Q:VK):Prop
|mk(a kvs:_)(_:xs=[V.ref a])(_:H a=some (.dK kvs))(_:Q (.int kvs.length) H)
end
theorem eU{X:Cx}(K:C6){x y:Str}{px py pos:Pos}{k:Nat}(hK:X.K=K)(hc:X.calm=true)(hN:X.N.Nodup)(h0:X.N[0]?=some x)(h1:X.N[1]?=some y)(l0:X.env.scope.names.lookup x=some .local)(l1:X.env.scope.names.lookup y=some .local) :
  PG X (.Tuple [.Name x px,.Name y py] k pos) (gTup K 2 (gCons (im 0) (gCons (im 1) zy))) :=
 hK ▸ bL hc (ar (am hN h0 (.inl l0) (.inr l0)) (ar (am hN h1 (.inl l1) (.inr l1)) bn))
theorem vw{X:Cx}(K:C6){x y z:Str}{px py pz pos:Pos}{k:Nat}(hK:X.K=K)(hc:X.calm=true)(hN:X.N.Nodup)(h0:X.N[0]?=some x)(h1:X.N[1]?=some y)(h2:X.N[2]?=some z)(l0:X.env.scope.names.lookup x=some .local)(l1:X.env.scope.names.lookup y=some .local)(l2:X.env.scope.names.lookup z=some .local) :
  PG X (.Tuple [.Name x px,.Name y py,.Name z pz] k pos) (gTup K 3 (gCons (im 0) (gCons (im 1) (gCons (im 2) zy)))) :=
 hK ▸ bL hc (ar (am hN h0 (.inl l0) (.inr l0)) (ar (am hN h1 (.inl l1) (.inr l1)) (ar (am hN h2 (.inl l2) (.inr l2)) bn)))
section
variable{X:Cx}
inductive rz_call_maxI(K:C6)(xs:Mo V)(H:Hp)(Q:VK):Prop
|mk(p:Mi)(ns:Mo Int)(_:xs=[.ref p])(_:SqL K H p (ns.map V.int))(_:ns≠[])(_:∀m,m∈ns->(∀x∈ns,x<=m)->Q (.int m) H)
end
end L2
namespace PySem
def SqA:Bool->Heap->Mi->Mm G1->Prop
 | true,h,l,xs=>h.IsTuple l xs
 | false,h,l,xs=>h.IsList l xs
def ItA:Bool->Heap->Mi->Mi->Nat->Prop
 | true,h,a,l,k=>h.IsTupleIter a l k
 | false,h,a,l,k=>h.IsListIter a l k
abbrev ni(h:Heap)(T:Mi)(vs:Mo G1):Prop:=h.get? T=some { cls:=.type "tuple",data:=.seq vs.toArray }
theorem SqA.at{b:Bool}{h h':Heap}{l:Mi}{xs:Mm G1}(x:SqA b h l xs)(e:∀o,h.get? l=some o->h'.get? l=some o):SqA b h' l xs:=by cases b <;> (obtain⟨o,ho,r⟩:=x;exact%[o,e _ ho|r])
theorem ItA.at{b:Bool}{h h':Heap}{a l:Mi}{k:Nat}(x:ItA b h a l k)(e:∀o,h.get? a=some o->h'.get? a=some o):ItA b h' a l k:=by cases b <;> (obtain⟨o,ho,r⟩:=x;exact%[o,e _ ho|r])
theorem ItA.obj{b:Bool}{h:Heap}{a l:Mi}{k:Nat}(x:ItA b h a l k):∃o,h.get? a=some o/\∀v,o.data≠.cell v:=by cases b <;> (obtain⟨o,ho,_,d⟩:=x;exact%[o,ho|λ v q=>by rw[d]at q;cases q])
abbrev fpZ(z TI TO:Mi)(its:Mo (Bool×Mi×Mi)):Mo Mi:=z :: TI :: TO :: its.map (·.2.1)
def StZ(f:G1)(z TI TO:Mi)(its:Mo (Bool×Mi×Mi))(i:Nat)(h:Heap):Prop :=
 IsZip h z TI TO f/\ni h TI (its.map λ p=>.ref p.2.1)/\(∃os,os.length=its.length/\ni h TO os)/\∀p∈its,ItA p.1 h p.2.1 p.2.2 i
section
variable{prog:F8}{w:G0}{A:Around}{E:G1->F7->Prop}{s:F7}
theorem vy{α:Type}{vs os:Mo α}{n:Nat}{y:α}(hy:vs[n]?=some y)(ho:n < os.length):(vs.take n ++ os.drop n).set n y=vs.take (n+1) ++ os.drop (n+1):=by
 have h:=(A6.mp hy).1;have hl:(vs.take n).length=n:=by simp;omega
 rw[List.drop_eq_getElem_cons ho,List.set_append_right _ _ ⋯,hl,Nat.sub_self,List.set_cons_zero,List.take_succ,hy];simp
theorem sD{b:Bool}{it l:Mi}{i:Nat}{items}{Q:G1->F7->Prop}(hh:A.handled=none)(hit:ItA b s.heap it l i)(hl:SqA b s.heap l items)
  (hQ:∀x,items[i]?=some x->∀h',ItA b h' it l (i+1)->Heap.SameBut it s.heap h'->Q x { s with heap:=h' }) (hE:items[i]?=none->∀h' e,Heap.ExtBut it s.heap h'->(∃o,h'.get? e=some o/\o.cls=.type "StopIteration")->E (.ref e) { s with heap:=h' }) :
  wpAny (model prog w) A (Builtin.SmallTypes.nextOf (.ref it)) Q E s:=by
 cases hx:items[i]? with
 | none=>cases b;exact wpAny_nextOf_list_end hh hit hl hx (hE hx);exact cP hh hit hl hx (hE hx)
 | some x=>cases b;exact wpAny_nextOf_list_item hit hl hx (hQ x hx);exact eF hit hl hx (hQ x hx)
theorem iA{z TI TO:Mi}{its:Mo (Bool×Mi×Mi)}{k:Nat}{vs:Mo G1}{Q:Ml G1->F7->Prop}(hh:A.handled=none)(nd:(fpZ z TI TO its).Nodup)(n0:its≠[])(hl:its.length<=9)(st:StZ .none z TI TO its k s.heap)(ha:∀p∈its,p.2.2∉fpZ z TI TO its)(hvl:vs.length<=its.length)
  (hv:∀ (j:Nat) p,its[j]?=some p->∃xs,SqA p.1 s.heap p.2.2 xs/\(j<=vs.length->xs[k]?=vs[j]?))
  (hQ:vs.length=its.length->∀h',StZ (rawInt s.heap.objs.size) z TI TO its (k+1) h'->ni h' s.heap.objs.size vs->(∀c o,c∉fpZ z TI TO its->s.heap.get? c=some o->h'.get? c=some o)->Q (↑s.heap.objs.size) { s with heap:=h' })
  (hE:vs.length < its.length->∀h',(∀c o,c∉fpZ z TI TO its->s.heap.get? c=some o->h'.get? c=some o)->Q none { s with heap:=h' }):wpAny (model prog w) A (pyNext (.ref z)) Q E s:=by
 obtain⟨hz,hTI,⟨os,ho,hTO⟩,hi⟩:=st;have hT:s.TypeIs (.ref z) "zip" := %[_,hz|O]
 unfold pyNext;refine A0 (Nc (wpAny_callSpecial?_slot (name:=Str.ofString "__next__") hT F.slot_zip_next
  (F4 F.slot_zip_next hT F.entry_zip_next ?_ (F.args_zip_next_1 _))))
 show wpAny _ _ (field (.ref z) 2 >>= _) _ _ _;refine A0 (M5 hz rfl (x:=.bool false) rfl ?_);show wpAny _ _ (field (.ref z) 3 >>= _) _ _ _;refine A0 (M5 hz rfl (x:=.ref TI) rfl ?_);refine A0 (wpAny_seqItems hTI rfl ?_);have em:(its.map λ p=>Value.ref p.2.1).toArray.isEmpty=false:=by cases its with | nil=>exact absurd rfl n0 | cons a t=>simp
 dsimp only;rw[em];show wpAny _ _ (Builtin.SmallTypes.ownedTupleIsFree (.ref z) >>= _) _ _ _;refine A0 ?_;unfold Builtin.SmallTypes.ownedTupleIsFree;refine A0 (M5 hz rfl (x:=.none) rfl (A2 ?_));simp only[Nj];refine A0 (Ni ?_);refine A0 (M5 hz rfl (x:=.ref TO) rfl ?_);refine A0 (NC hz (by simp) λ h₁ hz₁ hs₁=>?_)
 replace hz₁:IsZip h₁ z TI TO .ellipsis:=hz₁
 simp only[MA,G7,not_or]at nd;obtain⟨⟨n1,n2,n3⟩,⟨n4,n5⟩,n6,n7⟩:=nd;refine A0 (wpAny_forIn_list _ (λ rest b s'=>b.1=none/\∃n h',rest=((its.map λ p=>Value.ref p.2.1).zipIdx).drop n/\n<=vs.length/\s'={ s with heap:=h' }/\IsZip h' z TI TO .ellipsis/\ni h' TO (vs.take n ++ os.drop n)/\(∀ (j:Nat) p,its[j]?=some p->ItA p.1 h' p.2.1 p.2.2 (if j < n then k+1 else k))/\h'.objs.size=s.heap.objs.size/\∀c o,c≠z->c≠TO->c∉its.map (·.2.1)->s.heap.get? c=some o->h'.get? c=some o) _ ?_ ?_ _ _ ?_)
 ·rintro x rest b s' ⟨hb,n,h',hr,hn,rfl,hz',hTO',hi',hsz,hk⟩;obtain⟨b1,b2⟩:=b;cases(show b1=none from hb);have hnl:n < its.length:=by
   rcases Md n its.length with h | h
   ·exact h
   ·rw[List.drop_of_length_le (by simpa using h)]at hr;cases hr
  have hp:its[n]?=some its[n]:=by simp[hnl]
  generalize its[n]=p at hp;have hm:p∈its:=B6 hp;have hx:x=(Value.ref p.2.1,n)/\rest=((its.map λ p=>Value.ref p.2.1).zipIdx).drop (n+1):=by
   have e:((its.map λ p=>Value.ref p.2.1).zipIdx)[n]?=some (Value.ref p.2.1,n):=by simp[hp]
   rw[List.drop_eq_getElem_cons (by simpa using hnl)]at hr;cases hr;exact%[by simpa[F2 (show n < ((its.map λ p=>Value.ref p.2.1).zipIdx).length by simpa using hnl)]using e|O]
  obtain⟨rfl,rfl⟩:=hx;obtain⟨xs,sq,ex⟩:=hv n p hp;have A1:=ha p hm;simp only[G7,not_or]at A1;have sq':SqA p.1 h' p.2.2 xs:=sq.at λ o e=>hk _ o A1.1 A1.2.2.1 A1.2.2.2 e;have it':=hi' n p hp;rw[Mu (E1 n)]at it';have mi:p.2.1∈its.map (·.2.1):=LV hm;have iz:p.2.1≠z:=λ e=>n3 (e ▸ mi);have iT:p.2.1≠TO:=λ e=>n6 (e ▸ mi);have ne:∀ (j:Nat) q,its[j]?=some q->j≠n->q.2.1≠p.2.1:=λ j q hj h e=>h ((List.getElem?_inj (by have:=(A6.mp hj).1;simpa using this) n7).mp (by simp[hj,hp,e]));dsimp only;refine A0 (wpAny_onRaise ?_);show wpAny _ _ (Builtin.SmallTypes.nextOf (.ref p.2.1) >>= _) _ _ _;refine A0 (sD hh it' sq' (λ y hy h₂ i₂ hs₂=>A2 ?_) λ hy h₂ e hs₂ he=>?_)
  ·have hnv:n < vs.length:=by
    rcases Md n vs.length with h | h
    ·exact h
    ·rw[ex hn,MG h]at hy;cases hy
   rw[ex hn]at hy;have hTO₂:=hs₂.extBut _ _ (Ne.symm iT) hTO';refine A0 (wpAny_seqItems hTO₂ rfl ?_);refine A0 (wpAny_updateSeq hTO₂ rfl ?_ ?_ ?_)
   ·refine A0 (wpAny_letGo (A2 ?_));have hs₃:=NA h₂ TO (Obj.mapSeq λ x=>x.setIfInBounds n y);refine%[O,n+1,_,O,hnv,O,hs₃.extBut _ _ n2 (hs₂.extBut _ _ (Ne.symm iz) hz'),?_,λ j q hj=>?_,by rw[hs₃.1,hs₂.1,hsz]|λ c o c1 c2 c3 e=>hs₃.extBut _ _ c2 (hs₂.extBut _ _ (λ e'=>c3 (e' ▸ mi)) (hk c o c1 c2 c3 e))]
    ·show Heap.get? _ _=_;rw[NB _ hTO₂ rfl,<- vy hy ⋯];simp[Obj.mapSeq]
    ·have qT:q.2.1≠TO:=λ e=>n6 (e ▸ LV (B6 hj));rcases Nat.lt_trichotomy j n with h | h | h
     ·have:=hi' j q hj;rw[Mw h]at this;rw[Mw ⋯];exact this.at λ o e=>hs₃.extBut _ _ qT (hs₂.extBut _ _ (ne j q hj ⋯) e)
     ·subst h;rw[hp]at hj;cases hj;rw[Mw (F1 _)];exact i₂.at λ o e=>hs₃.extBut _ _ qT e
     ·have:=hi' j q hj;rw[Mu ⋯]at this;rw[Mu ⋯];exact this.at λ o e=>hs₃.extBut _ _ qT (hs₂.extBut _ _ (ne j q hj ⋯) e)
   ·exact C7 (by simp;omega) (show 9<=sizeLine by decide)
   ·exact C7 (by simp;omega) (show 9<=sizeLine+1 by decide)
  ·have hnv:vs.length<=n:=by rw[ex hn]at hy;exact List.getElem?_eq_none_iff.mp hy
   obtain⟨oe,hoe,hce⟩:=he;have hz₂:=hs₂ _ _ (Ne.symm iz) hz';have hez:e≠z:=λ x=>by subst x;rw[hz₂]at hoe;cases hoe;simp at hce
   refine NC hz₂ (by simp) λ h₃ _ hs₃=>A0 (Nh (T := "StopIteration") (b:=true) %[oe,hs₃.extBut _ _ hez hoe|hce] isSubtype_stop (A2 (hE ⋯ h₃ λ c o hc q=>?_)));simp only[G7,not_or]at hc;exact hs₃.extBut _ _ hc.1 (hs₂ _ _ (λ e'=>hc.2.2.2 (e' ▸ mi)) (hk c o hc.1 hc.2.2.1 hc.2.2.2 q))
 ·rintro⟨b1,b2⟩ s' ⟨hb,n,h',hr,hn,rfl,hz',hTO',hi',hsz,hk⟩;cases(show b1=none from hb);have hnl:its.length<=n:=by
   rcases Md n its.length with h | h
   ·have:=NE List.length hr;simp at this;omega
   ·exact h
  have e1:vs.take n ++ os.drop n=vs:=by rw[List.drop_of_length_le ⋯,K2 ⋯,K6]
  rw[e1]at hTO';refine A0 (wpAny_seqItems hTO' rfl ?_);refine A0 (wpAny_newTuple ?_ (C7 (by simp;omega) (show 9<=sizeLine by decide)));have hzl:z < h'.objs.size:=A9 hz';show wpAny _ _ (Builtin.SmallTypes.ownedTupleHandOut (.ref z) (.ref h'.objs.size) >>= _) _ _ _;refine A0 ?_;unfold Builtin.SmallTypes.ownedTupleHandOut;refine A0 (NC (A7 _ hz') (by simp) λ h₇ hz₇ hs₇=>?_);refine NC hz₇ (by simp) λ h₈ hz₈ hs₈=>?_
  replace hz₈:IsZip h₈ z TI TO (rawInt h'.objs.size):=hz₈
  have up:∀c o,c≠z->h'.get? c=some o->h₈.get? c=some o:=λ c o c1 e=>hs₈.extBut _ _ c1 (hs₇.extBut _ _ c1 (A7 _ e));have hT₈:ni h₈ h'.objs.size vs:=hs₈.extBut _ _ (LJ hzl) (hs₇.extBut _ _ (LJ hzl) (A8 _ rfl));refine A2 %[_,rfl|?_];refine A2 ?_;rw[hsz]at hz₈ hT₈ ⊢;refine hQ ⋯ h₈ %[hz₈,up _ _ (Ne.symm n1) (hk _ _ (Ne.symm n1) n4 n5 hTI),%[vs,⋯|up _ _ (Ne.symm n2) hTO']|λ p hp=>?_] hT₈ λ c o hc e=>?_
  ·obtain⟨j,hj⟩:=List.getElem?_of_mem hp;have:=hi' j p hj;rw[Mw (by have:=(A6.mp hj).1;omega)]at this;exact this.at λ o e=>up _ o (λ e'=>n3 (e' ▸ LV hp)) e
  ·simp only[G7,not_or]at hc;exact up c o hc.1 (hk c o hc.1 hc.2.2.1 hc.2.2.2 e)
 ·exact%[O,0,h₁,O,E8 _,O,hz₁,hs₁.extBut _ _ (Ne.symm n2) hTO,λ j p e=>by rw[Mu (E9 _)];exact(hi p (B6 e)).at λ o q=>hs₁.extBut _ _ (λ e'=>n3 (e' ▸ LV (B6 e))) q,hs₁.1|λ c o c1 _ _ e=>hs₁.extBut _ _ c1 e]
structure ZIts(h h':Heap)(its:Mo (Bool×Mi×Mi)):Prop where
 nd:(its.map (·.2.1)).Nodup
 it:∀p∈its,h.objs.size<=p.2.1/\p.2.1 < h'.objs.size/\ItA p.1 h' p.2.1 p.2.2 0
 keep:∀c o,h.get? c=some o->h'.get? c=some o
 le:h.objs.size<=h'.objs.size
theorem ZIts.push{h h':Heap}{its:Mo (Bool×Mi×Mi)}(Z:ZIts h h' its)(o:Obj):ZIts h (h'.push o) its :=
 %[Z.nd,λ p hp=>let ⟨a1,a2,a3⟩:=Z.it p hp;%[a1,by rw[M6];exact MP a2|a3.at λ o e=>A7 _ e],λ c o e=>A7 _ (Z.keep c o e)|by rw[M6];have:=Z.le;omega]
theorem ZIts.add{h h':Heap}{its:Mo (Bool×Mi×Mi)}(Z:ZIts h h' its){o:Obj}{b:Bool}{l:Mi}(i:ItA b (h'.push o) h'.objs.size l 0):ZIts h (h'.push o) (its ++ [(b,h'.objs.size,l)]):=by
 have P:=Z.push o;refine%[?_,λ p hp=>?_,P.keep|P.le]
 ·rw[J3,MQ];refine%[P.nd,by simp|λ a ha c hc e=>?_];obtain⟨p,hp,rfl⟩:=J0.mp ha;simp at hc;exact C0 (Z.it p hp).2.1 (e.trans hc)
 ·rcases C4.mp hp with hp | hp
  ·exact P.it p hp
  ·cases E2.mp hp;exact%[Z.le,by rw[M6];exact F1 _|i]
theorem oM{ls:Mo (Bool×Mi)}{Q:Mo G1->F7->Prop}(hs:∀p∈ls,∃xs,SqA p.1 s.heap p.2 xs)
  (hQ:∀(h':Heap)(its:Mo (Bool×Mi×Mi)),its.map (λ p=>(p.1,p.2.2))=ls->ZIts s.heap h' its->Q (its.map λ p=>.ref p.2.1) { s with heap:=h' }) :
  wpAny (model prog w) A (Builtin.SmallTypes.iterAll (ls.map λ p=>.ref p.2)) Q E s:=by
 unfold Builtin.SmallTypes.iterAll;refine A0 (wpAny_forIn_list _ (λ rest b s'=>∃(its:Mo (Bool×Mi×Mi))(ls':Mo (Bool×Mi))(h':Heap),b=(its.map λ p=>Value.ref p.2.1).toArray/\rest=(ls'.map λ p=>Value.ref p.2)/\its.map (λ p=>(p.1,p.2.2)) ++ ls'=ls/\s'={ s with heap:=h' }/\ZIts s.heap h' its) _ ?_ ?_ _ _ %[[],ls,s.heap,rfl,rfl,rfl,rfl,.nil,by simp,λ _ _ e=>e|B3 _])
 ·rintro x rest b s' ⟨its,ls',h',rfl,hr,he,rfl,Z⟩;cases ls' with
  | nil=>cases hr
  | cons p t=>
   obtain⟨b,l⟩:=p;cases hr;obtain⟨xs,sq⟩:=hs (b,l) (by rw[<- he];simp);have sq':SqA b h' l xs:=sq.at λ o e=>Z.keep _ o e;refine A0 (M3 ?_);cases b
   ·exact wpAny_pyIter_list sq' (A2 %[its ++ [(false,h'.objs.size,l)],t,_,by simp,rfl,by rw[<- he];simp,rfl|Z.add %[_,A8 _ rfl,rfl|rfl]])
   ·exact NW sq' (A2 %[its ++ [(true,h'.objs.size,l)],t,_,by simp,rfl,by rw[<- he];simp,rfl|Z.add %[_,A8 _ rfl,rfl|rfl]])
 ·rintro b s' ⟨its,ls',h',rfl,hr,he,rfl,Z⟩;cases ls' with
  | cons p t=>cases hr
  | nil=>exact A2 (by simpa using hQ h' its (by simpa using he) Z)
structure ZipNew(h h':Heap)(ls:Mo (Bool×Mi))(z TI TO:Mi)(its:Mo (Bool×Mi×Mi)):Prop where
 src:its.map (λ p=>(p.1,p.2.2))=ls
 nd:(fpZ z TI TO its).Nodup
 old:∀a∈fpZ z TI TO its,h.objs.size<=a
 st:StZ .none z TI TO its 0 h'
 keep:∀c o,h.get? c=some o->h'.get? c=some o
theorem vz(ls:Mo (Bool×Mi))(hl:ls.length<=9) :
  Meets (Builtin.«zip.__new__» %[.type "zip" :: ls.map λ p=>.ref p.2|[]]) (λ _ R s=>(∀p∈ls,∃xs,SqA p.1 s.heap p.2 xs) /\
   ∀h' z TI TO its,ZipNew s.heap h' ls z TI TO its->R (.ok (.ret (.ref z))) { s with heap:=h' }) :=
 .of_wp λ prog w A R s h=>by
  obtain⟨hs,h⟩:=h;have nine:9<=sizeLine:=∅
  unfold Builtin.«zip.__new__» Builtin.SmallTypes.newClass;simp only[isType,sub_zip,pure_bind];show wpAny _ _ (Builtin.SmallTypes.iterAll (ls.map λ p=>.ref p.2) >>= _) _ _ _;refine A0 (oM hs λ h' its e Z=>?_);have len:its.length<=sizeLine:=by rw[<- e,B4]at hl;omega
  refine A0 (wpAny_newTuple ?_ (by simpa using len));refine A0 (wpAny_newTuple ?_ (by simpa using len));generalize h1:h'.push _=g;have e1:g.objs.size=h'.objs.size+1:=by rw[<- h1,M6]
  generalize h2:g.push _=g2;have e2:g2.objs.size=h'.objs.size+2:=by rw[<- h2,M6,e1]
  show wpAny _ _ (newObj (.type "zip") (.fields #[.none,.bool false,.bool false,.ref h'.objs.size,.ref g.objs.size]) >>= _) _ _ _;refine A0 (F5 ?_);have Z2:ZIts s.heap g2 its:=h2 ▸ (h1 ▸ Z.push _:ZIts s.heap g its).push _;have g1:ni g h'.objs.size (its.map λ p=>.ref p.2.1):=h1 ▸ A8 _ rfl;have gi:ni g2 h'.objs.size (its.map λ p=>.ref p.2.1):=h2 ▸ A7 _ g1;have go:ni g2 g.objs.size ((its.map λ p=>Value.ref p.2.1).map λ _=>.none):=h2 ▸ A8 _ rfl;rw[LO]at go;have Z3:=Z2.push { cls:=.type "zip",data:=.fields #[.none,.bool false,.bool false,.ref h'.objs.size,.ref g.objs.size] };have lt:∀a∈its.map (·.2.1),s.heap.objs.size<=a/\a < h'.objs.size:=λ a ha=>by obtain⟨p,hp,rfl⟩:=J0.mp ha;exact%[(Z.it p hp).1|(Z.it p hp).2.1]
  refine A2 %[_,rfl|h _ g2.objs.size h'.objs.size g.objs.size its %[e,?_,λ a ha=>?_,%[A8 _ rfl,A7 _ gi,%[_,by simp|A7 _ go]|λ p hp=>(Z3.it p hp).2.2]|Z3.keep]]
  ·simp only[MA,G7,not_or];exact%[%[LJ ⋯,LJ ⋯|λ x=>by have:=(lt _ x).2;omega],%[C0 ⋯|λ x=>by have:=(lt _ x).2;omega],λ x=>by have:=(lt _ x).2;omega|Z.nd]
  ·have le:=Z.le;simp only[G7]at ha;rcases ha with rfl | rfl | rfl | ha
   ·omega
   ·omega
   ·omega
   ·exact(lt _ ha).1
theorem sE{ls:Mo (Bool×Mi)}{Q:G1->F7->Prop}(hl:ls.length<=9)(hct:checkTypeCall "zip" %[ls.map λ p=>.ref p.2|[]]=pure ())(hcn:checkBuiltinCall "zip.__new__" %[.type "zip" :: ls.map λ p=>.ref p.2|[]]=pure ())
  (hok:∀obj,argsOk "object.__init__" %[obj :: ls.map λ p=>.ref p.2|[]]) (hs:∀p∈ls,∃xs,SqA p.1 s.heap p.2 xs) (h:∀h' z TI TO its,ZipNew s.heap h' ls z TI TO its->Q (.ref z) { s with heap:=h' }) :
  wpAny (model prog w) A (call (.type "zip") (ls.map λ p=>.ref p.2)) Q E s :=
 callType_new F.called_zip ∅ hct hcn hok F.entry_zip_new (vz ls hl) %[hs|λ h' z TI TO its Z=>show _/\_ from%[%[_,Z.st.1|rfl]|h h' z TI TO its Z]]
end
end PySem
namespace L2
open PySem PySem.Spec PyProof.Rows
def sqO:Bool->Mo V->HO
 | true,xs=>.tup xs
 | false,xs=>.lst xs
theorem Inv.sq{X:Cx}{Mq:Mo (Mi×Obj)}{σ:St}{H:Hp}{s:F7}(I:Inv X Mq σ H s){b:Bool}{l:Mi}{xs:Mo V}(e:H l=some (sqO b xs)):∃its:Mo G1,Vals xs its/\SqA b s.heap l its.toArray:=by
 cases b
 ·obtain⟨its,r,p,_⟩:=I.list (G4 e);exact%[its,r|p.isList]
 ·obtain⟨its,r,p,_⟩:=I.tuple (G3 e);exact%[its,r|p]
def RowN(H:Hp)(i:Nat):Mo (Bool×Mi)->Mo V->Prop
 | [],vs=>vs=[]
 | p :: ls,[]=>(∃xs,H p.2=some (sqO p.1 xs)/\xs.length<=i)/\∀q∈ls,∃xs,H q.2=some (sqO q.1 xs)
 | p :: ls,v :: vs=>(∃xs,H p.2=some (sqO p.1 xs)/\xs[i]?=some v)/\RowN H i ls vs
def xO(ls:Mo (Bool×Mi)):It :=
 %[λ i H=>∃vs,RowN H i ls vs/\vs.length=ls.length,λ i H v H'=>∃p vs,H p=none/\v=.ref p/\H'=upd H p (.tup vs)/\RowN H i ls vs/\vs.length=ls.length|λ i H=>∃vs,RowN H i ls vs/\vs.length < ls.length]
section
variable{X:Cx}{Mq:Mo (Mi×Obj)}{σ:St}{H:Hp}{s:F7}
theorem RowN.src{i:Nat}:∀{ls:Mo (Bool×Mi)}{vs:Mo V},RowN H i ls vs->∀p∈ls,∃xs,H p.2=some (sqO p.1 xs)
 | [],_,_,p,hp=>by cases hp
 | q :: ls,[],h,p,hp=>by
  rcases G7.mp hp with rfl | hp
  ·obtain⟨xs,e,_⟩:=h.1;exact%[xs|e]
  ·exact h.2 p hp
 | q :: ls,v :: vs,h,p,hp=>by
  rcases G7.mp hp with rfl | hp
  ·obtain⟨xs,e,_⟩:=h.1;exact%[xs|e]
  ·exact RowN.src h.2 p hp
theorem RowN.vals(I:Inv X Mq σ H s){i:Nat}:∀{ls:Mo (Bool×Mi)}{vs:Mo V},RowN H i ls vs->∃us,Vals vs us/\∀ (j:Nat) p,ls[j]?=some p->∃xs,SqA p.1 s.heap p.2 xs/\(j<=us.length->xs[i]?=us[j]?)
 | [],vs,h=>by cases h;exact%[[],.nil|λ j p e=>by simp at e]
 | q :: ls,[],h=>by
  refine%[[],.nil|λ j p e=>?_];cases j with
  | zero=>
   cases e;obtain⟨xs,e,l⟩:=h.1;obtain⟨its,rv,p⟩:=I.sq e;exact%[_,p|λ _=>by simpa using by rw[<- rv.length];exact l]
  | succ j=>
   obtain⟨xs,e⟩:=h.2 p (B6 (by simpa using e));obtain⟨its,rv,p⟩:=I.sq e;exact%[_,p|λ h=>absurd h (by simp)]
 | q :: ls,v :: vs,h=>by
  obtain⟨xs,e,ev⟩:=h.1;obtain⟨us,r1,r3⟩:=RowN.vals I h.2;obtain⟨its,rv,p⟩:=I.sq e;obtain⟨u,hu,ru⟩:=rv.get ev;refine%[u :: us,.cons ru r1|λ j p' e'=>?_];cases j with
  | zero=>cases e';exact%[_,p|λ _=>by simpa using hu]
  | succ j=>
   obtain⟨ys,y1,y2⟩:=r3 j p' (by simpa using e');exact%[ys,y1|λ h=>by simpa using y2 (by simpa using h)]
end
theorem sG{P:F8}{w:G0}{K:C6}{es:Mo Expr}{kk:Nat}{tp:Pos}{ls:Mo (Bool×Mi)}{z TI TO:Mi}{its:Mo (Bool×Mi×Mi)}(src:its.map (λ p=>(p.1,p.2.2))=ls)(nd:(fpZ z TI TO its).Nodup)(n0:its≠[])(hl:its.length<=9) :
  Turn P w K (.Tuple es kk tp) (xO ls) (fpZ z TI TO its) z (StZ .none z TI TO its) where
 mem:=by simp
 obj:=λ i h st b hb=>by
  obtain⟨a1,a2,⟨os,_,a3⟩,a4⟩:=st;simp only[G7]at hb;rcases hb with rfl | rfl | rfl | hb
  ·exact%[_,a1|λ v q=>by cases q]
  ·exact%[_,a2|λ v q=>by cases q]
  ·exact%[_,a3|λ v q=>by cases q]
  ·obtain⟨p,hp,rfl⟩:=J0.mp hb;exact(a4 p hp).obj
 keep:=λ i h h' st k=>by obtain⟨a1,a2,⟨os,l,a3⟩,a4⟩:=st;exact%[k z (by simp) _ a1,k TI (by simp) _ a2,%[os,l|k TO (by simp) _ a3]|λ p hp=>(a4 p hp).at λ o e=>k _ (by simp only[G7];exact .inr (.inr (.inr (LV hp)))) o e]
 item:=by
  intro X hP hw hK hc i Mq s σ H E I hf st ⟨vs,row,hvl⟩;subst hP hw hK src;obtain⟨a1,a2,⟨os,ol,a3⟩,a4⟩:=id st;obtain⟨us,rv,hu⟩:=row.vals I;have ul:=rv.length;rw[B4]at hvl;refine iA (I.ok.hd hc) nd n0 hl st (λ p hp hb=>?_) (vs:=us) ⋯ (λ j p e=>hu j (p.1,p.2.2) (by simp[e])) (λ _ h' ⟨b1,b2,⟨ot,ol',b3⟩,b4⟩ b5 bk=>%[_,O|?_]) λ h=>⋯
  ·obtain⟨xs,e⟩:=row.src (p.1,p.2.2) (LV (f:=λ p=>(p.1,p.2.2)) hp);rw[(hf _ hb).1]at e;cases e
  ·refine wpAny_letOwnedTupleGo_zip b1 λ h'' c1 cs=>?_;have zs:z < s.heap.objs.size:=A9 a1;have ne:∀b∈TI :: TO :: its.map (·.2.1),b≠z:=λ b hb e=>(MA.mp nd).1 (e ▸ hb);have I1:Inv X Mq σ H { s with heap:=h'' }:=I.turnedN (t':=s.toks) hf λ b o hb e=>cs.extBut b o (λ e'=>hb (by simp[e'])) (bk b o hb e);have hn:H s.heap.objs.size=none:=I.hok.fresh (B3 _);have I2:Inv X Mq σ (upd H s.heap.objs.size (.tup vs)) { s with heap:=h'' }:=I1.track (I.fpOk (H':=H) (B3 _) hn) I.sz %[C7 ⋯ (show 9<=sizeLine by decide),us,rv,_,cs.extBut _ _ (LJ zs) b5,O,_|O];have tn:StZ .none z TI TO its (i+1) h'':=%[c1,cs.extBut _ _ (ne TI (by simp)) b2,%[ot,ol'|cs.extBut _ _ (ne TO (by simp)) b3]|λ p hp=>(b4 p hp).at λ o e=>cs.extBut _ _ (ne _ (by simp only[G7];exact .inr (.inr (LV hp)))) e]
   refine%[.ref s.heap.objs.size,_,I2,O,%[_,vs,hn,O,O,row|by simpa using hvl],tn|λ b hb=>?_];have hbl:b < s.heap.objs.size:=by
    simp only[G7]at hb;rcases hb with rfl | rfl | rfl | hb
    ·exact zs
    ·exact A9 a2
    ·exact A9 a3
    ·obtain⟨p,hp,rfl⟩:=J0.mp hb;obtain⟨o,ho,_⟩:=(a4 p hp).obj;exact A9 ho
   rw[aj (C0 hbl)];exact(hf b hb).1
 done:=by
  intro X hP hw hK hc i Mq s σ H E I hf st ⟨vs,row,hvl⟩;subst hP hw hK src;obtain⟨us,rv,hu⟩:=row.vals I;have ul:=rv.length;rw[B4]at hvl;refine iA (I.ok.hd hc) nd n0 hl st (λ p hp hb=>?_) (vs:=us) ⋯ (λ j p e=>hu j (p.1,p.2.2) (by simp[e])) (λ h=>⋯) λ _ h' bk=>%[O|I.turnedN (t':=s.toks) hf bk]
  obtain⟨xs,e⟩:=row.src (p.1,p.2.2) (LV (f:=λ p=>(p.1,p.2.2)) hp);rw[(hf _ hb).1]at e;cases e
 self:=λ _ _ _ _ _ st h=>wpAny_pyIter_zip st.1 h
theorem Turn.conv{P:F8}{w:G0}{K:C6}{tg:Expr}{J J':It}{fp:Mo Mi}{it:Mi}{tn:Nat->Heap->Prop}(T:Turn P w K tg J fp it tn)(h1:∀i H,J'.go i H->J.go i H)(h2:∀i H v H',J.yld i H v H'->J'.yld i H v H')(h3:∀i H,J'.stop i H->J.stop i H):Turn P w K tg J' fp it tn :=
 %[T.mem,T.obj,T.keep,λ X a b c d i Mq s σ H E I hf t g=>Mz (T.item X a b c d i Mq s σ H E I hf t (h1 _ _ g)) (λ r s1 ⟨u,e,z⟩=>%[u,e|Mz z (λ _ s2 ⟨x,H',q1,q2,q3,q4⟩=>%[x,H',q1,q2,h2 _ _ _ _ q3|q4]) λ _ _ z=>z]) λ _ _ z=>z,λ X a b c d i Mq s σ H E I hf t g=>T.done X a b c d i Mq s σ H E I hf t (h3 _ _ g)|T.self]
theorem qZ:∀{ls:Mo (Bool×Mi)}{us:Mo G1},Vals (ls.map λ p=>V.ref p.2) us->us=ls.map λ p=>Value.ref p.2
 | [],_,.nil=>rfl
 | _ :: _,_,.cons r rr=>by cases r;exact NE _ (qZ rr)
theorem rc{X:Cx}{a:Expr}{as:Mo Expr}{ta:TA}{p pos tp:Pos}{es:Mo Expr}{kk:Nat}{C:Mo V->Hp->(It->Hp->Prop)->Prop}(hg:Gl X "zip")(hm:X.mg "zip" = none)(ha:PA X (a :: as) ta)
  (hs:starEach (a :: as) X.env=(false,eval a X.env) :: starEach as X.env) (hp:(backTo pos (starEach as X.env)).any (·.1)=false) (n:Nat) (hn:n < 9) (hct:∀vs:Mo G1,vs.length=n+1->checkTypeCall "zip" %[vs|[]]=pure ()/\checkBuiltinCall "zip.__new__" %[.type "zip" :: vs|[]]=pure ()/\∀obj,argsOk "object.__init__" %[obj :: vs|[]])
  (hw:∀vs H1 R,C vs H1 R->∃(ls:Mo (Bool×Mi))(J:It),ls.length=n+1/\vs=ls.map (λ p=>.ref p.2)/\(∀p∈ls,∃xs,H1 p.2=some (sqO p.1 xs))/\R J H1/\(∀i H,J.go i H->(xO ls).go i H)/\(∀i H v H',(xO ls).yld i H v H'->J.yld i H v H')/\∀i H,J.stop i H->(xO ls).stop i H) :
  PI X (.Tuple es kk tp) (.Call (.Name "zip" p) (a :: as) [] pos) (λ σ H R=>ta σ H λ vs H1=>C vs H1 R):=by
 intro Mq s σ H R I h;refine Call_ (dS I hg hm PyProof.Rows.boot_zip (M7 (thn (ha pos Mq s σ H _ I h) λ us s1 %[vs,H1,I1,r1|q1]=>?_) hs hp));obtain⟨ls,J,ln,rfl,sq,q,c1,c2,c3⟩:=hw _ _ _ q1;have e:=qZ r1;subst e;obtain⟨d1,d2,d3⟩:=hct (ls.map λ p=>Value.ref p.2) (by simpa using ln);refine sE ⋯ d1 d2 d3 (λ p hp=>?_) λ h' z TI TO its Z=>?_
 ·obtain⟨xs,e⟩:=sq p hp;obtain⟨_,_,q⟩:=I1.sq e;exact%[_|q]
 ·have il:its.length=n+1:=by rw[<- ln,<- Z.src,B4]
  exact wpAny_pyIter_zip Z.st.1 ⟨z,_,_,J,H1,O,I1.kept (t':=s1.toks) Z.keep,(sG Z.src Z.nd (λ e=>by rw[e]at il;cases il) ⋯).conv c1 c2 c3,Z.st,λ b hb=>I1.fpOk (Z.old b hb) (I1.hok.fresh (Z.old b hb)),q⟩
theorem fN(a b c d:G1):argsOk "object.__init__" %[[a,b,c,d]|[]]:=by unfold argsOk;rw[signature?_of (id := "object.__init__") (n:=['_','_','t','i','n','i','_','_']) (o:=['t','c','e','j','b','o']) (by kernel_rfl) F.owner_object];kernel_rfl
section
variable{M:Model}{A:Around}{E:G1->F7->Prop}{s:F7}{base:Heap}{env:Env}{outer:Mo Env}{L e:Mi}{cls a0:G1}{Q:Unit->F7->Prop}
theorem zV(hfr:A.frames=some (env :: outer))(hf:env.frame=some L)(f:Heap.FlyingW base (env :: outer) e cls a0 s.heap)(q:Q2 e s.heap):wpAny M A (leaving env (.ref e)) (λ _ s'=>Q2 e s'.heap) E s:=by unfold leaving;exact A0 (kI hfr hf f q λ h4 held4 sm4 q4=>lG held4.2.2.2 q4)
theorem oN(hfr:A.frames=some (env :: outer))(hf:env.frame=some L)(f:Heap.FlyingW base (env :: outer) e cls a0 s.heap)(q:Q2 e s.heap)
  (hQ:∀h',Heap.FlyingW base outer e cls a0 h'->s.heap.UpToSlots h'->Q2 e h'->Q () { s with heap:=h' }):wpAny M A (leaving env (.ref e)) Q E s :=
 Mz (cO (zV (E:=E) hfr hf f q) (wpAny_leaves_onW (Q:=λ _ s'=>Q2 e s'.heap->Q () s') (E:=E) hfr hf f λ h' a b q=>hQ h' a b q)) (λ _ _ z=>z.2 z.1) λ _ _ z=>z.1
end
section
variable{P:F8}{w:G0}{K:C6}{mg:Str->Ml G1}{base:Heap}{N:Mo Str}{qual:Str}{scope:Scope}{f:Mi}{cd:G1}{A:Around}{outer:Mo Env}{s₀:F7}{H₀:Hp}{E:XK}
theorem xP{Mq:Mo (Mi×Obj)}{σ:St}{v:G1}{s1:F7}(hx:XP (ft (CXx P w) P w K mg base N qual scope f cd A outer s₀ H₀ E) Mq σ E v s1):(ft (CXx P w) P w K mg base N qual scope f cd A outer s₀ H₀ E).xe v s1:=by
 obtain⟨ea,C,H0,H',B,s0,rfl,I0,fl,q⟩:=hx;obtain⟨a0,fw⟩:=fl.fly;have I0':=I0;show wpAny (model P w) (A.deeper (envOfC qual scope s₀.heap.objs.size f cd)) (leaving (envOfC qual scope s₀.heap.objs.size f cd) (.ref ea)) _ _ s1;refine oN I0.ok.frames rfl fw fl.ctx λ h' fw' sm q2=>%[ea,C,H',B,O,?_|q]
 have J:Inv (ft (CXx P w) P w K mg base N qual scope f cd A outer s₀ H₀ E) Mq σ H' { s1 with heap:=h' }:=fl.inv (t:=s1.toks) I0 fw'.1 sm;have newE:s₀.heap.get? ea=none:=by
  cases z:s₀.heap.get? ea with
  | none=>rfl
  | some o=>
   obtain⟨o',e1⟩:=I0.base.there ea o z (by show ea∉([]:Mo Mi);simp);have:=fl.new.1;rw[e1]at this;cases this
 refine%[J.os,J.bare,J.base,J.hok,%[a0|fw'],q2,λ b o nb hh e=>?_|%[newE|fl.new.2]];have nbs:b∉frs (envOfC qual scope s₀.heap.objs.size f cd :: outer):=λ z=>by
  have z':b=s₀.heap.objs.size\/b∈frs outer:=by unfold frs at z ⊢;rw[MC]at z;exact G7.mp z
  rcases z' with z | z
  ·subst z;rcases hh with hh | ⟨o',hh⟩
   ·exact hh J.free
   ·exact absurd (A9 hh) (E1 _)
  ·exact nb z
 have key:∃o1,s1.heap.get? b=some o1/\(H' b≠none\/∃o',s0.heap.get? b=some o'):=by
  rcases hh with hh | ⟨o',hh⟩
  ·cases z:H' b with
   | none=>exact absurd z hh
   | some u=>
    obtain⟨ob,eb⟩:=(fl.hok b u z).ex;exact%[ob,eb|.inl (by rw[<- z]at *;exact hh)]
  ·obtain⟨o1,e1⟩:=I0.base.there b o' hh (by show b∉([]:Mo Mi);simp);obtain⟨o2,e2⟩:=fl.un.there b o1 e1 (by simp);exact%[o2,e2|.inr %[o1|e1]]
 obtain⟨o1,e1,hh'⟩:=key;have eB:=fl.cov b o1 nbs hh' e1;have:=fw'.1 b o1 eB;rw[e]at this;cases this;exact eB
end
end L2
namespace PyProof.Rows
set_option autoImplicit false
open PySem
structure SBaseT(κ0:SortKind)(a₀:Mm Mj)(st:SortSt):Prop where
 perm:(arrOf st).Perm a₀
 kind:kindOf st=κ0
 failed:failedOf st=none
 pend:pendingOf st=#[]
theorem SBaseT.size{κ0:SortKind}{a₀:Mm Mj}{st:SortSt}(h:SBaseT κ0 a₀ st):(arrOf st).size=a₀.size:=h.perm.size_eq
theorem SBaseT.setArr{κ0:SortKind}{a₀:Mm Mj}{st:SortSt}(h:SBaseT κ0 a₀ st){xs:Mm Mj}(hp:xs.Perm (arrOf st)):SBaseT κ0 a₀ (setArr st xs) :=
 %[hp.trans h.perm,h.kind,h.failed|h.pend]
theorem SBaseT.atK{κ:KeyKind}{κ0:SortKind}{a₀:Mm Mj}{st:SortSt}(h:SBaseT κ0 a₀ st)(h0:KeysOf κ a₀){i:Nat}(hi:i < a₀.size) :
  ∃x p a,(arrOf st)[i]?=some (x,p)/\κ.keyOf x=some a/\KK κ (arrOf st) i=a:=by
 have hi':i < (arrOf st).size:=by rw[h.size];exact hi
 have hm:(arrOf st)[i]∈a₀.toList:=(Array.perm_iff_toList_perm.mp h.perm).mem_iff.mp (by simp);obtain⟨a,ha⟩:=h0 _ hm;have e:(arrOf st)[i]?=some (arrOf st)[i]:=getElem?_pos _ i hi';refine%[(arrOf st)[i].1,(arrOf st)[i].2,a,by rw[e],ha|?_];unfold KK;rw[e];simp[ha]
def cH(prog:F8)(w:G0)(A:Around)(s:F7)(κ0:SortKind)(κ:KeyKind):Prop :=
 ∀(E:G1->F7->Prop)(x y:G1)(a b:κ.α)(Q:Bool->F7->Prop),κ.keyOf x=some a->κ.keyOf y=some b->Q (κ.blt a b) s->wpAny (model prog w) A (keyLt' κ0 x y) Q E s
section
variable{prog:F8}{w:G0}{A:Around}{E:G1->F7->Prop}{s:F7}{a₀:Mm Mj}{κ:KeyKind}{κ0:SortKind}
theorem oO(hO:cH prog w A s κ0 κ){st:SortSt}{i j:Nat}{x y:G1}{a b:κ.α}{p q:G1}{Q:Ml Bool->SortSt->Prop}(hk:kindOf st=κ0)
  (hi:(arrOf st)[i]?=some (x,p)) (hj:(arrOf st)[j]?=some (y,q)) (ha:κ.keyOf x=some a) (hb:κ.keyOf y=some b) (h:Q (some (κ.blt a b)) st) :
  wpS (model prog w) A E s (ltAt' i j) Q st:=by
 rw[ltAt'_eq];refine A3 (wpS_get ?_);show wpS _ _ _ _ (do let x<-elem' (arrOf st) i;let y<-elem' (arrOf st) j;lt' x y) Q st;rw[elem'_eq,elem'_eq,hi,hj];refine A3 (A4 (A3 (A4 ?_)));rw[lt'_eq];refine A3 (wpS_get ?_);rw[hk];refine A3 (wpS_lift (Nc (hO _ x y a b _ ha hb %[rfl|?_])));exact A4 h
theorem dI{st:SortSt}{i j:Nat}{Q:Ml Bool->SortSt->Prop}(hO:cH prog w A s κ0 κ)(hB:SBaseT κ0 a₀ st)(h0:KeysOf κ a₀)(hi:i < a₀.size)(hj:j < a₀.size)
  (h:Q (some (κ.blt (KK κ (arrOf st) i) (KK κ (arrOf st) j))) st):wpS (model prog w) A E s (ltAt' i j) Q st:=by
 obtain⟨x,p,a,e1,ha,ka⟩:=hB.atK h0 hi;obtain⟨y,q,b,e2,hb,kb⟩:=hB.atK h0 hj;rw[ka,kb]at h;exact oO hO hB.kind e1 e2 ha hb h
theorem gX{st:SortSt}{n ok:Nat}{Q:Bool->SortSt->Prop}(hO:cH prog w A s κ0 κ)(h0:KeysOf κ a₀)(hn:n<=a₀.size)(hok:ok<=n)(hB:SBaseT κ0 a₀ st)(hs:SortedToK κ (arrOf st) ok)
  (h:∀st',SBaseT κ0 a₀ st'->SortedToK κ (arrOf st') n->Q true st'):wpS (model prog w) A E s (binarySort' 0 n ok) Q st:=by
 rw[binarySort'_eq];simp only[Nat.zero_add];refine A3 (wpS_mono (wpS_forRange (I:=λ k c st'=>c=(none,())/\SBaseT κ0 a₀ st'/\SortedToK κ (arrOf st') (min k n))
  (Q:=λ c st'=>c=(none,())/\SBaseT κ0 a₀ st'/\SortedToK κ (arrOf st') n) ?step ?fin ?init) ?post)
 case post=>
  rintro c st' ⟨rfl,hB',hs'⟩;exact A4 (h st' hB' hs')
 case init=>
  refine%[O,hB|λ i j hij hj=>?_]
  by_cases h1:ok=0
  ·have:i=j:=⋯
   subst this;exact ND _
  ·exact hs i j hij ⋯
 case fin=>
  rintro c st' ⟨hc,hB',hs'⟩;refine%[hc,hB'|?_];rwa [show min (max (max ok 1) n) n=n by omega]at hs'
 case step=>
  rintro k c st' hak hkn ⟨rfl,hB',hs'⟩;rw[show min k n=k by omega]at hs';have hk:k < a₀.size:=⋯
  refine A3 (wpS_mono (wpS_forRange (I:=λ x c st''=>st''=st'/\∃l r,c=(none,l,r)/\l<=r/\r<=k/\r - l<=k - x /\
    (∀i,i < l->κ.kle (KK κ (arrOf st') i) (KK κ (arrOf st') k))/\(∀i,r<=i->i < k->κ.klt (KK κ (arrOf st') k) (KK κ (arrOf st') i)))
   (Q:=λ c st''=>st''=st'/\∃l r,c=(none,l,r)/\l<=k /\
    (∀i,i < l->κ.kle (KK κ (arrOf st') i) (KK κ (arrOf st') k))/\(∀i,l<=i->i < k->κ.klt (KK κ (arrOf st') k) (KK κ (arrOf st') i))) ?istep ?ifin ?iinit) ?ipost)
  case iinit=>exact%[O,0,k,O,⋯,⋯,⋯,λ i hi=>⋯|λ i h1 h2=>⋯]
  case ifin=>
   rintro c st'' ⟨rfl,l,r,rfl,hlr,hrk,hm,hlo,hhi⟩;have:l=r:=⋯
   subst this;exact%[O,l,l,O,hrk,hlo|hhi]
  case istep=>
   rintro x c st'' _ hxk ⟨rfl,l,r,rfl,hlr,hrk,hm,hlo,hhi⟩;dsimp only
   by_cases hge:l≥r
   ·rw[Mw hge];have:l=r:=⋯
    subst this;exact A4 %[rfl,l,l,rfl,hrk,hlo|hhi]
   ·rw[Mu hge];refine A3 (dI hO hB' h0 hk ⋯ ?_);cases hless:κ.blt (KK κ (arrOf st'') k) (KK κ (arrOf st'') ((l+r) / 2))
    case true=>
     simp only[Nj];refine A4 %[rfl,l,(l+r) / 2,rfl,⋯,⋯,⋯,hlo|λ i h1 h2=>?_];exact KeyOrd.klt_of_klt_of_kle hless (hs' _ _ h1 h2)
    case false=>
     simp only[K8,NK];refine A4 %[rfl,(l+r) / 2+1,r,rfl,⋯,⋯,⋯,λ i h1=>?_|hhi];exact KeyOrd.kle_trans (hs' i ((l+r) / 2) ⋯ ⋯) (show κ.kle _ _ from hless)
  case ipost=>
   rintro c st'' ⟨rfl,l,r,rfl,hlk,hlo,hhi⟩;show wpS _ _ _ _ (do moveDown' k l;pure (ForInStep.yield (none,()))) _ _;rw[moveDown'_eq];refine A3 (wpS_modify (A4 %[rfl,hB'.setArr (bubble_perm _ _ _)|?_]));rw[show min (k+1) n=k+1 by omega];have hks:k < (arrOf st'').size:=by rw[hB'.size];exact hk
   intro i j hij hj;show κ.kle (KK κ (bubble (arrOf st'') k (k - l)) i) (KK κ (bubble (arrOf st'') k (k - l)) j);rw[KK_bubble hks ⋯,KK_bubble hks ⋯,show k - (k - l)=l by omega]
   repeat' split
   all_goals first
    | (exfalso;omega)
    | exact ND _
    | exact hlo _ ⋯
    | exact KeyOrd.kle_of_klt (hhi _ ⋯ ⋯)
    | exact hs' _ _ ⋯ ⋯
theorem fz{st:SortSt}{a nrem:Nat}{Q:AscSt->SortSt->Prop}(hO:cH prog w A s κ0 κ)(h0:KeysOf κ a₀)(hn:nrem<=a₀.size)(ha:1<=a)(han:a<=nrem)(hB:SBaseT κ0 a₀ st)
  (hs:SortedToK κ (arrOf st) a)
  (h:∀n,a<=n->n<=nrem->SortedToK κ (arrOf st) n->(n=nrem\/κ.klt (KK κ (arrOf st) n) (KK κ (arrOf st) (n - 1)))->Q (none,n) st) :
  wpS (model prog w) A E s (ascLoop a nrem) Q st:=by
 unfold ascLoop;refine wpS_forRange (I:=λ x c st'=>st'=st/\c=(none,x)/\SortedToK κ (arrOf st) x) ?step ?fin %[rfl,rfl|hs]
 case fin=>
  rintro c st' ⟨rfl,rfl,hs'⟩;rw[show max a nrem=nrem by omega]at hs' ⊢;exact h nrem han (B3 _) hs' (.inl rfl)
 case step=>
  rintro x c st' hax hxn ⟨rfl,rfl,hs'⟩;dsimp only;refine A3 (dI hO hB h0 ⋯ ⋯ ?_);cases hless:κ.blt (KK κ (arrOf st') x) (KK κ (arrOf st') (x - 1))
  case true=>
   simp only[Nj];exact A4 (h x hax ⋯ hs' (.inr hless))
  case false=>
   simp only[K8,NK];refine A4 %[rfl,rfl|λ i j hij hj=>?_]
   by_cases hjx:j < x
   ·exact hs' i j hij hjx
   ·have hj':j=x:=⋯
    subst hj'
    by_cases hi':i=j
    ·subst hi';exact ND _
    ·exact KeyOrd.kle_trans (hs' i (j - 1) ⋯ ⋯) hless
theorem iB{st:SortSt}{n nrem:Nat}{Q:Ml Nat->SortSt->Prop}(hO:cH prog w A s κ0 κ)(h0:KeysOf κ a₀)(hn:nrem<=a₀.size)(h1:1<=n)(hnn:n<=nrem)(hB:SBaseT κ0 a₀ st)
  (hs:NonIncK κ (arrOf st) n) (h:∀m st',SBaseT κ0 a₀ st'->1<=m->m<=nrem->SortedToK κ (arrOf st') m->Q (some m) st') :
  wpS (model prog w) A E s (tail3 n nrem) Q st:=by
 unfold tail3;have hsz:n<=(arrOf st).size:=by rw[hB.size];omega
 refine A3 (wpS_reverse ?_);have hB':SBaseT κ0 a₀ (setArr st (mirror (arrOf st) 0 n ((n - 0) / 2))):=hB.setArr (mirror_perm _ _ _ _);refine A3 (fz hO h0 hn h1 hnn hB' ?_ λ m hm1 hm2 hsm _=>A4 (h m _ hB' ⋯ hm2 hsm));intro i j hij hj;show κ.kle (KK κ (mirror (arrOf st) 0 n ((n - 0) / 2)) i) (KK κ (mirror (arrOf st) 0 n ((n - 0) / 2)) j);rw[KK_mirror hsz,KK_mirror hsz,Mw ⋯,Mw ⋯];exact hs _ _ ⋯ ⋯
theorem js{st:SortSt}{n nrem:Nat}{Q:DescSt->SortSt->Prop}(hO:cH prog w A s κ0 κ)(h0:KeysOf κ a₀)(hn:nrem<=a₀.size)(h1:1<=n)(hnn:n<=nrem)(hB:SBaseT κ0 a₀ st)
  (hs:NonIncK κ (arrOf st) n)
  (h:∀m neq st',SBaseT κ0 a₀ st'->n<=m->m<=nrem->NonIncK κ (arrOf st') m->neq+1<=m->(∀i,m - (neq+1)<=i->i < m->KK κ (arrOf st') i=KK κ (arrOf st') (m - 1))->Q (none,m,neq) st') :
  wpS (model prog w) A E s (descLoop n nrem) Q st:=by
 unfold descLoop;refine wpS_forRange (I:=λ x c st'=>∃neq,c=(none,x,neq)/\SBaseT κ0 a₀ st'/\NonIncK κ (arrOf st') x/\neq+1<=x /\
   (∀i,x - (neq+1)<=i->i < x->KK κ (arrOf st') i=KK κ (arrOf st') (x - 1))) ?step ?fin %[0,rfl,hB,hs,⋯|λ i h1 h2=>by congr 1;omega]
 case fin=>
  rintro c st' ⟨neq,rfl,hB',hs',hq,he⟩;rw[show max n nrem=nrem by omega]at hs' hq he ⊢;exact h nrem neq st' hB' hnn (B3 _) hs' hq he
 case step=>
  rintro x c st' hax hxn ⟨neq,rfl,hB',hs',hq,he⟩;dsimp only;have hsz:x<=(arrOf st').size:=by rw[hB'.size];omega
  refine A3 (dI hO hB' h0 ⋯ ⋯ ?_);cases hless:κ.blt (KK κ (arrOf st') x) (KK κ (arrOf st') (x - 1))
  case true=>
   simp only[Nj];have step1:∀xs:Mm Mj,(∀k,KK κ xs k=KK κ (arrOf st') k)->NonIncK κ xs (x+1):=by
    intro xs hk i j hij hj;rw[hk,hk]
    by_cases hjx:j < x
    ·exact hs' i j hij hjx
    ·have hj':j=x:=⋯
     subst hj'
     by_cases hi':i=j
     ·subst hi';exact ND _
     ·exact KeyOrd.kle_trans (KeyOrd.kle_of_klt hless) (hs' i (j - 1) ⋯ ⋯)
   by_cases hneq:neq > 0
   ·rw[Mw hneq];refine A3 (wpS_reverse (A4 %[0,rfl,hB'.setArr (mirror_perm _ _ _ _),step1 _ (KK_mirror_equal hsz he),⋯|λ i h1 h2=>by congr 1;omega]))
   ·rw[Mu hneq];exact A4 %[0,rfl,hB',step1 _ (λ _=>rfl),⋯|λ i h1 h2=>by congr 1;omega]
  case false=>
   simp only[K8,NK];refine A3 (dI hO hB' h0 ⋯ ⋯ ?_);cases hlarger:κ.blt (KK κ (arrOf st') (x - 1)) (KK κ (arrOf st') x)
   case true=>
    simp only[Nj];exact A4 (h x neq st' hB' hax ⋯ hs' hq he)
   case false=>
    simp only[K8,NK];have heqx:KK κ (arrOf st') x=KK κ (arrOf st') (x - 1):=KeyOrd.kle_antisymm hlarger hless;refine A4 %[neq+1,rfl,hB',λ i j hij hj=>?_,⋯|λ i h1 h2=>?_]
    ·by_cases hjx:j < x
     ·exact hs' i j hij hjx
     ·have hj':j=x:=⋯
      subst hj'
      by_cases hi':i=j
      ·subst hi';exact ND _
      ·rw[heqx];exact hs' i (j - 1) ⋯ ⋯
    ·rw[show x+1 - 1=x by omega]
     by_cases hix:i=x
     ·subst hix;rfl
     ·rw[heqx];exact he i ⋯ ⋯
theorem eV{st:SortSt}{n nrem:Nat}{Q:Ml Nat->SortSt->Prop}(hO:cH prog w A s κ0 κ)(h0:KeysOf κ a₀)(hn:nrem<=a₀.size)(hnn:n+1<=nrem)(hB:SBaseT κ0 a₀ st)
  (hs:NonIncK κ (arrOf st) (n+1)) (h:∀m st',SBaseT κ0 a₀ st'->1<=m->m<=nrem->SortedToK κ (arrOf st') m->Q (some m) st') :
  wpS (model prog w) A E s (descPart n nrem) Q st:=by
 unfold descPart;refine A3 (wpS_lift (Ni %[rfl|?_]));refine A3 (js hO h0 hn ⋯ hnn hB hs λ m neq st' hB' hm1 hm2 hs' hq he=>?_);dsimp only;have hsz:m<=(arrOf st').size:=by rw[hB'.size];omega
 by_cases hneq:neq > 0
 ·rw[Mw hneq];refine A3 (wpS_reverse (iB hO h0 hn ⋯ hm2 (hB'.setArr (mirror_perm _ _ _ _)) ?_ h));intro i j hij hj;show κ.kle (KK κ (mirror (arrOf st') _ _ _) j) (KK κ (mirror (arrOf st') _ _ _) i);rw[KK_mirror_equal hsz he,KK_mirror_equal hsz he];exact hs' i j hij hj
 ·rw[Mu hneq];exact iB hO h0 hn ⋯ hm2 hB' hs' h
theorem jt{st:SortSt}{nrem:Nat}{Q:Ml Nat->SortSt->Prop}(hO:cH prog w A s κ0 κ)(h0:KeysOf κ a₀)(hn:nrem<=a₀.size)(h1:1<=nrem)(hB:SBaseT κ0 a₀ st)
  (h:∀m st',SBaseT κ0 a₀ st'->1<=m->m<=nrem->SortedToK κ (arrOf st') m->Q (some m) st') :
  wpS (model prog w) A E s (countRun' 0 nrem) Q st:=by
 rw[countRun0_eq];refine A3 (fz hO h0 hn (B3 1) h1 hB (λ i j hij hj=>by have:i=j:=⋯;subst this;exact ND _) λ n hn1 hn2 hsn hor=>?_);dsimp only
 by_cases hnn:n=nrem
 ·rw[Mw (by simpa using hnn)];exact A4 (h n st hB hn1 hn2 hsn)
 ·rw[Mu (by simpa using hnn)];have hlt:κ.klt (KK κ (arrOf st) n) (KK κ (arrOf st) (n - 1)):=hor.resolve_left hnn
  by_cases hgt:n > 1
  ·rw[Mw hgt];refine A3 (dI hO hB h0 ⋯ ⋯ ?_);cases hrose:κ.blt (KK κ (arrOf st) 0) (KK κ (arrOf st) (n - 1))
   case true=>
    simp only[Nj];exact A4 (h n st hB hn1 hn2 hsn)
   case false=>
    simp only[K8,NK];have hsz:n<=(arrOf st).size:=by rw[hB.size];omega
    have hall:∀k,0<=k->k < n->KK κ (arrOf st) k=KK κ (arrOf st) (n - 1):=by intro k _ hk;have a1:=hsn 0 k ⋯ hk;have a2:=hsn k (n - 1) ⋯ ⋯;exact KeyOrd.kle_antisymm a2 (KeyOrd.kle_trans hrose a1)
    refine A3 (wpS_reverse (eV hO h0 hn ⋯ (hB.setArr (mirror_perm _ _ _ _)) ?_ h));intro i j hij hj;show κ.kle (KK κ (mirror (arrOf st) _ _ _) j) (KK κ (mirror (arrOf st) _ _ _) i);rw[KK_mirror_equal hsz hall,KK_mirror_equal hsz hall]
    by_cases hjn:j < n
    ·rw[hall i ⋯ ⋯,hall j ⋯ hjn];exact ND _
    ·have hj':j=n:=⋯
     subst hj'
     by_cases hi':i=j
     ·subst hi';exact ND _
     ·rw[hall i ⋯ ⋯];exact KeyOrd.kle_of_klt hlt
  ·rw[Mu hgt];have hn1':n=1:=⋯
   subst hn1';refine eV hO h0 hn ⋯ hB ?_ h;intro i j hij hj
   by_cases hi':i=j
   ·subst hi';exact ND _
   ·have hi0:i=0:=⋯
    have hj1:j=1:=⋯
    subst hi0;subst hj1;exact KeyOrd.kle_of_klt hlt
theorem SBaseT.doneK{st:SortSt}(hB:SBaseT κ0 a₀ st)(hs:SortedToK κ (arrOf st) a₀.size):SDoneK κ a₀ (setPending st ((pendingOf st).push (0,a₀.size,0))) :=
 %[hB.perm,hB.failed,by show(pendingOf st).push _=_;rw[hB.pend];rfl|hs]
theorem ju{st:SortSt}{Q:Unit->SortSt->Prop}(hO:cH prog w A s κ0 κ)(h0:KeysOf κ a₀)(hB:SBaseT κ0 a₀ st)(h2:2<=a₀.size)(h64:a₀.size < 64)
  (h:∀st',(arrOf st').Perm a₀->failedOf st'=none->SortedToK κ (arrOf st') a₀.size->Q () st'):wpS (model prog w) A E s sortRuns' Q st:=by
 rw[sortRuns'_eq];refine A3 (wpS_get ?_);dsimp only;have hmr:minRun' a₀.size a₀.size 0=a₀.size:=by
  obtain⟨f,hf⟩:∃f,a₀.size=f+1:=%[a₀.size - 1|⋯]
  have:minRun' (f+1) a₀.size 0=a₀.size:=by rw[minRun'_succ,Mw h64];rfl
  rwa [<- hf]at this
 simp only[hB.size,hmr];refine A3 (wpS_mono (wpS_forRange
  (I:=λ x c st'=>(x=0/\c=(none,0)/\SBaseT κ0 a₀ st')\/(1<=x/\c=(none,a₀.size)/\SDoneK κ a₀ st'))
  (Q:=λ c st'=>c=(none,a₀.size)/\SDoneK κ a₀ st') ?step ?fin (.inl %[O,O|hB])) ?post)
 case fin=>
  rintro c st' (⟨hx,_,_⟩ | ⟨_,hc,hD⟩)
  ·omega
  ·exact%[hc|hD]
 case step=>
  rintro x c st' _ hx (⟨rfl,rfl,hB'⟩ | ⟨hx1,rfl,hD⟩)
  ·dsimp only;rw[Mu ⋯];simp only[Nat.sub_zero,Nat.min_self,Nat.zero_add];refine A3 (jt hO h0 (B3 _) ⋯ hB' λ m st2 hB2 hm1 hm2 hs2=>?_);dsimp only
   by_cases hlt:m < a₀.size
   ·rw[Mw hlt];refine A3 (wpS_lift (Ni %[rfl|?_]));refine A3 (gX hO h0 (B3 _) hm2 hB2 hs2 λ st3 hB3 hs3=>?_);simp only[Bool.not_true,K8,NK];refine A3 (wpS_get ?_);have hb:(pendingOf st3).back?=none:=by rw[hB3.pend];rfl
    rw[hb];dsimp only;exact A3 (wpS_modify (A4 (.inr %[⋯,O|hB3.doneK hs3])))
   ·rw[Mu hlt];have hm:m=a₀.size:=⋯
    subst hm;refine A3 (wpS_get ?_);have hb:(pendingOf st2).back?=none:=by rw[hB2.pend];rfl
    rw[hb];dsimp only;exact A3 (wpS_modify (A4 (.inr %[⋯,O|hB2.doneK hs2])))
  ·dsimp only;rw[Mw (B3 _)];exact A4 %[rfl|hD]
 case post=>
  rintro c st' ⟨rfl,hD⟩;dsimp only;refine A3 (wpS_mono (wpS_forRange (I:=λ _ c st''=>st''=st'/\c=(none,())) (Q:=λ c st''=>st''=st'/\c=(none,())) ?_ (λ _ _ hh=>hh) %[rfl|rfl]) ?_)
  ·rintro x c st'' _ _ ⟨rfl,rfl⟩;refine A3 (wpS_get ?_);rw[Mw (by rw[hD.2.2.1];exact B3 1)];exact A4 %[rfl|rfl]
  ·rintro c st'' ⟨rfl,rfl⟩;exact A4 (h _ hD.1 hD.2.1 hD.2.2.2)
end
section
variable{prog:F8}{w:G0}{A:Around}{E:G1->F7->Prop}{s:F7}
theorem iJ{κ:KeyKind}{κ0:SortKind}{a:Mi}{vs:Mo G1}{n:Nat}{P:Fin->F7->Prop}(ho:s.heap.get? a=some (seqObj "list" vs.toArray n))
  (h0:KeysOf κ (pairsOf vs)) (hkk:∀s':F7,(∀b o,b≠a->s.heap.get? b=some o->s'.heap.get? b=some o)->cH prog w A s' κ0 κ/\∀v₁ v₂ rest,vs=v₁ :: v₂ :: rest->∀(Q:SortKind->F7->Prop),Q κ0 s'->wpAny (model prog w) A (keyKind' (v₁ :: v₂ :: rest).toArray) Q E s') (h64:vs.length < 64)
  (h:∀st':SortSt,(arrOf st').Perm (pairsOf vs)->SortedToK κ (arrOf st') (pairsOf vs).size->P (.done (.ret .none)) { s with heap:=sortedHeap s.heap a vs ((arrOf st').map (·.2)) }) :
  wpAny (model prog w) A (Builtin.«list.sort» %[[.ref a]|[]]) P E s:=by
 rw[list_sort_plain];have ha:a < s.heap.objs.size:=A9 ho;refine A0 (listItems_at ho rfl ?_);refine A0 (listUpdate_at ho rfl ?_);obtain⟨e1,ho1⟩:∃e1,(s.heap.update a (Obj.mapSeq λ _=>#[])).get? a=some (seqObj "list" #[] e1):=%[_|get?_update_seq ho (λ _=>#[])]
 refine A0 (seqEpoch_at ho1 rfl ?_);refine A0 (wpAny_newTuple ?_);refine A0 (wpAny_newList ?_);refine M3 ?_;have ho6:(((s.heap.update a (Obj.mapSeq λ _=>#[])).push (seqObj "tuple" vs.toArray 0)).push (seqObj "list" #[] 0)).get? a=some (seqObj "list" #[] e1):=by rw[Heap.get?_push_ne _ _ _ (by rw[size_push',Heap.size_update];exact C0 (MP ha)),Heap.get?_push_ne _ _ _ (by rw[Heap.size_update];exact C0 ha)];exact ho1
 show wpAny (model prog w) A _ P E { s with heap:=((s.heap.update a (Obj.mapSeq λ _=>#[])).push (seqObj "tuple" vs.toArray 0)).push (seqObj "list" #[] 0) };dsimp only;have hsz:vs.toArray.size=vs.length:=by simp
 have fin:=h
 by_cases h2:vs.toArray.size < 2
 ·rw[Mw h2,Mw h2];refine A0 (A2 ?_);rw[StateT.run_pure];refine A0 (A2 ?_);dsimp only;refine A0 (seqEpoch_at ho6 rfl ?_);refine A0 (listUpdate_at ho6 rfl ?_ (hsz2:=by rw[Array.size_map];show(pairsOf vs).size<=_;rw[pairsOf_size,sizeLine_eq];omega));simp only[bne_self_eq_false,K8,NK];refine A2 (fin (SortSt.mk' general' (vs.toArray.zip vs.toArray) #[] 7 none) (Array.Perm.refl _) ?_);intro i j hij hj;have:i=j:=by rw[pairsOf_size]at hj;omega
  subst this;exact ND _
 ·rw[Mu h2,Mu h2];obtain⟨v₁,v₂,rest,rfl⟩:∃v₁ v₂ rest,vs=v₁ :: v₂ :: rest:=by
   match vs,hsz,h2 with
   | [],_,h2=>simp at h2
   | [_],_,h2=>simp at h2
   | v₁ :: v₂ :: rest,_,_=>exact%[v₁,v₂,rest|O]
  have kp:∀b o,b≠a->s.heap.get? b=some o->(((s.heap.update a (Obj.mapSeq λ _=>#[])).push (seqObj "tuple" (v₁ :: v₂ :: rest).toArray 0)).push (seqObj "list" #[] 0)).get? b=some o:=λ b o nb e=>
   A7 _ (A7 _ (by rw[Heap.get?_update_ne _ _ _ _ nb];exact e))
  obtain⟨hO,hK⟩:=hkk { s with heap:=((s.heap.update a (Obj.mapSeq λ _=>#[])).push (seqObj "tuple" (v₁ :: v₂ :: rest).toArray 0)).push (seqObj "list" #[] 0) } kp;refine A0 (hK _ _ _ rfl _ ?_);refine A0 (Mz (ju (κ:=κ) (κ0:=κ0) hO (a₀:=pairsOf (v₁ :: v₂ :: rest)) (st:=SortSt.mk' κ0 ((v₁ :: v₂ :: rest).toArray.zip (v₁ :: v₂ :: rest).toArray) #[] 7 none)
   (Q:=λ _ st'=>(arrOf st').Perm (pairsOf (v₁ :: v₂ :: rest))/\failedOf st'=none/\SortedToK κ (arrOf st') (pairsOf (v₁ :: v₂ :: rest)).size)
   h0 %[Array.Perm.refl _,rfl,rfl|rfl] (by rw[pairsOf_size];simp) (by rw[pairsOf_size];exact h64) λ st' a1 a2 a3=>%[a1,a2|a3]) ?_ λ _ _ e=>e)
  rintro⟨⟨⟩,st'⟩ s' ⟨rfl,hp,hf,hs⟩;dsimp only;refine A0 (seqEpoch_at ho6 rfl ?_);refine A0 (listUpdate_at ho6 rfl ?_ (hsz2:=by refine C7 (Nat.le_of_eq ((Array.size_map ..).trans (hp.size_eq.trans (pairsOf_size _)))) ?_;rw[sizeLine_eq];omega));rw[hf];simp only[bne_self_eq_false,K8,NK];exact A2 (fin st' hp hs)
end
end PyProof.Rows
namespace L2
open PySem PySem.Spec PyProof.Rows
def cb:Mo Bool->Mo G1->Ml (Mo Int)
 | [],[]=>some []
 | false :: r,.int i _ :: vs=>(cb r vs).map (i :: ·)
 | true :: r,.bool b :: vs=>(cb r vs).map ((if b=true then 1 else 0) :: ·)
 | _,_=>none
def gj:Mo Bool->Mo V->Ml (Mo Int)
 | [],[]=>some []
 | false :: r,.int i :: vs=>(gj r vs).map (i :: ·)
 | true :: r,.bl b :: vs=>(gj r vs).map ((if b=true then 1 else 0) :: ·)
 | _,_=>none
theorem oP:∀{sh:Mo Bool}{vs:Mo V}{us:Mo G1}{k:Mo Int},Vals vs us->gj sh vs=some k->cb sh us=some k
 | [],[],_,_,r,h=>by cases r;exact h
 | [],_ :: _,_,_,_,h=>by cases h
 | false :: r,v :: vs,us,k,rv,h=>by
  cases rv with
  | cons r1 r2=>
   cases v with
   | int i=>
    obtain⟨t,rfl⟩:=r1;have h:(gj r vs).map (i :: ·)=some k:=h;show(cb r _).map (i :: ·)=some k;cases e:gj r vs with
    | none=>rw[e]at h;cases h
    | some k'=>rw[e]at h;rw[oP r2 e];exact h
   | _=>cases h
 | true :: r,v :: vs,us,k,rv,h=>by
  cases rv with
  | cons r1 r2=>
   cases v with
   | bl b=>
    cases(show _=Value.bool b from r1);have h:(gj r vs).map ((if b=true then 1 else 0) :: ·)=some k:=h;show(cb r _).map ((if b=true then 1 else 0) :: ·)=some k;cases e:gj r vs with
    | none=>rw[e]at h;cases h
    | some k'=>rw[e]at h;rw[oP r2 e];exact h
   | _=>cases h
 | false :: _,[],_,_,_,h=>by cases h
 | true :: _,[],_,_,_,h=>by cases h
def bT:Mo Int->Mo Int->Bool
 | [],[]=>false
 | [],_ :: _=>true
 | _ :: _,[]=>false
 | a :: r,b :: t=>if a=b then bT r t else decide (a < b)
theorem fO:∀a,bT a a=false
 | []=>rfl
 | a :: r=>by rw[bT,Mw rfl];exact fO r
theorem gY:∀a b c,bT a b=true->bT b c=true->bT a c=true
 | [],[],_,h,_=>by cases h
 | [],_ :: _,[],_,h=>by cases h
 | [],_ :: _,_ :: _,_,_=>rfl
 | _ :: _,[],_,h,_=>by cases h
 | _ :: _,_ :: _,[],_,h=>by cases h
 | a :: r,b :: t,c :: u,h1,h2=>by
  rw[bT]at h1 h2 ⊢
  by_cases e1:a=b
  ·rw[Mw e1]at h1
   by_cases e2:b=c
   ·rw[Mw e2]at h2;rw[Mw (e1.trans e2)];exact gY r t u h1 h2
   ·rw[Mu e2]at h2;rw[Mu (by rw[e1];exact e2),e1];exact h2
  ·rw[Mu e1]at h1;have h1:=C1 h1
   by_cases e2:b=c
   ·rw[Mu ⋯];exact B0 ⋯
   ·rw[Mu e2]at h2;have h2:=C1 h2;rw[Mu ⋯];exact B0 ⋯
theorem lP:∀a b c,bT a c=true->bT a b=true\/bT b c=true
 | [],[],_,h=>.inr h
 | [],_ :: _,_,_=>.inl rfl
 | _ :: _,_,[],h=>by cases h
 | _ :: _,[],_ :: _,_=>.inr rfl
 | a :: r,b :: t,c :: u,h=>by
  rw[bT]at h;rw[bT,bT]
  by_cases e1:a=b
  ·rw[Mw e1]
   by_cases e2:b=c
   ·rw[Mw (e1.trans e2)]at h;rw[Mw e2];exact lP r t u h
   ·rw[Mu (by rw[e1];exact e2)]at h;rw[Mu e2];exact .inr (by rw[<- e1];exact h)
  ·rw[Mu e1]
   by_cases e3:a=c
   ·rw[Mu ⋯]
    by_cases z:a < b
    ·exact .inl (B0 z)
    ·exact .inr (B0 ⋯)
   ·rw[Mu e3]at h;have h:=C1 h
    by_cases z:a < b
    ·exact .inl (B0 z)
    ·rw[Mu ⋯];exact .inr (B0 ⋯)
theorem gZ:∀a b,bT a b=false->bT b a=false->a=b
 | [],[],_,_=>rfl
 | [],_ :: _,h,_=>by cases h
 | _ :: _,[],_,h=>by cases h
 | a :: r,b :: t,h1,h2=>by
  rw[bT]at h1 h2
  by_cases e:a=b
  ·rw[Mw e]at h1;rw[Mw e.symm]at h2;rw[e,gZ r t h1 h2]
  ·rw[Mu e]at h1;rw[Mu (Ne.symm e)]at h2;have:=of_decide_eq_false h1;have:=of_decide_eq_false h2;exact absurd (show a=b by omega) e
def sH(h:Heap)(sh:Mo Bool):KeyKind where
 α:=Mo Int
 blt:=bT
 irrefl:=fO
 trans:=gY
 negTrans:=lP
 total:=gZ
 keyOf:=λ v=>match v with
  | .ref a=>match h.get? a with
   | some o=>match o.data with
    | .seq xs _=>cb sh xs.toList
    | _=>none
   | none=>none
  | _=>none
 dflt:=[]
theorem re{h:Heap}{sh:Mo Bool}{v:G1}{k:Mo Int}(e:(sH h sh).keyOf v=some k):∃a o xs n,v=.ref a/\h.get? a=some o/\o.data=.seq xs n/\cb sh xs.toList=some k:=by
 cases v with
 | ref a=>
  have e:(match h.get? a with
   | some o=>match o.data with
    | .seq xs _=>cb sh xs.toList
    | _=>none
   | none=>none)=some k:=e
  cases h1:h.get? a with
  | none=>rw[h1]at e;cases e
  | some o=>
   rw[h1]at e;cases h2:o.data with
   | seq xs n=>
    have e:(match o.data with
     | .seq xs _=>cb sh xs.toList
     | _=>none)=some k:=e
    rw[h2]at e;exact%[a,o,xs,n,O,h1,h2|e]
   | _=>
    have e:(match o.data with
     | .seq xs _=>cb sh xs.toList
     | _=>none)=some k:=e
    rw[h2]at e;cases e
 | _=>cases e
theorem gn:∀{sh:Mo Bool}{us:Mo G1}{k:Mo Int},cb sh us=some k->us.length=sh.length
 | [],[],_,_=>rfl
 | [],_ :: _,_,h=>by cases h
 | false :: r,[],_,h=>by cases h
 | true :: r,[],_,h=>by cases h
 | false :: r,v :: vs,k,h=>by
  cases v with
  | int i t=>
   have h:(cb r vs).map (i :: ·)=some k:=h;cases e:cb r vs with
   | none=>rw[e]at h;cases h
   | some k'=>rw[J4,J4,gn e]
  | _=>cases h
 | true :: r,v :: vs,k,h=>by
  cases v with
  | bool b=>
   have h:(cb r vs).map ((if b=true then 1 else 0) :: ·)=some k:=h;cases e:cb r vs with
   | none=>rw[e]at h;cases h
   | some k'=>rw[J4,J4,gn e]
  | _=>cases h
section
variable{prog:F8}{w:G0}{A:Around}{E:G1->F7->Prop}{s:F7}
theorem nj{a b:Bool}{Q:Bool->F7->Prop}(h:Q (a == b) s):wpAny (model prog w) A (eqBool (.bool a) (.bool b)) Q E s:=by
 unfold eqBool;show wpAny _ _ (if (Value.bool a == Value.bool b)=true then _ else _) Q E s
 by_cases hab:(Value.bool a == Value.bool b)=true
 ·rw[Mw hab];have e:a=b:=by have:=eq_of_beq hab;injection this
  subst e;exact A0 (Ni (A2 (by simpa using h)))
 ·rw[Mu hab];exact A0 (eq_bool (F3 h))
theorem lQ{bb:Bool}{Q:Bool->F7->Prop}:∀(sh:Mo Bool)(xs ys:Mo G1)(a c:Mo Int)(i:Nat),cb sh xs=some a->cb sh ys=some c->((bb && i == 0)=true->sh.head?=some false\/sh=[])->Q (bT a c) s->PySem.W.KatLex prog w A bb false Q (xs.zip ys) i s
 | [],[],[],a,c,i,h1,h2,_,q=>by cases h1;cases h2;exact PySem.W.kat_nil q
 | [],_ :: _,_,_,_,_,h,_,_,_=>by cases h
 | [],[],_ :: _,_,_,_,_,h,_,_=>by cases h
 | false :: r,[],_,_,_,_,h,_,_,_=>by cases h
 | true :: r,[],_,_,_,_,h,_,_,_=>by cases h
 | false :: r,_ :: _,[],_,_,_,_,h,_,_=>by cases h
 | true :: r,_ :: _,[],_,_,_,_,h,_,_=>by cases h
 | false :: r,v :: vs,u :: us,a,c,i,h1,h2,hb,q=>by
  cases v with
  | int p t=>cases u with
   | int p' t'=>
    have h1:(cb r vs).map (p :: ·)=some a:=h1;have h2:(cb r us).map (p' :: ·)=some c:=h2;cases e1:cb r vs with
    | none=>rw[e1]at h1;cases h1
    | some a'=>
     cases e2:cb r us with
     | none=>rw[e2]at h2;cases h2
     | some c'=>
      rw[e1]at h1;rw[e2]at h2;cases h1;cases h2;rw[bT]at q;refine PySem.W.kat_cons (wpAny_eqBool_int (PySem.W.kat_go (λ e=>PySem.W.kat_yes ?_) (λ e=>PySem.W.kat_no ?_)))
      ·rw[Mw (by simpa using e)]at q;exact lQ r vs us a' c' (i+1) e1 e2 (λ z=>by simp at z) q
      ·rw[Mu (by simpa using e)]at q;cases z:(bb && i == 0)with
       | true=>exact oneLt_int q
       | false=>exact PySem.W.kat_one _ _ (PyProof.Rows.lt_int q)
   | _=>cases h2
  | _=>cases h1
 | true :: r,v :: vs,u :: us,a,c,i,h1,h2,hb,q=>by
  cases v with
  | bool p=>cases u with
   | bool p'=>
    have h1:(cb r vs).map ((if p=true then 1 else 0) :: ·)=some a:=h1;have h2:(cb r us).map ((if p'=true then 1 else 0) :: ·)=some c:=h2;cases e1:cb r vs with
    | none=>rw[e1]at h1;cases h1
    | some a'=>
     cases e2:cb r us with
     | none=>rw[e2]at h2;cases h2
     | some c'=>
      rw[e1]at h1;rw[e2]at h2;cases h1;cases h2;rw[bT]at q;refine PySem.W.kat_cons (nj (PySem.W.kat_go (λ e=>PySem.W.kat_yes ?_) (λ e=>PySem.W.kat_no ?_)))
      ·have e:p=p':=by simpa using e
       rw[Mw (by rw[e])]at q;exact lQ r vs us a' c' (i+1) e1 e2 (λ z=>by simp at z) q
      ·have e:p≠p':=by simpa using e
       rw[Mu (by cases p <;> cases p' <;> simp_all)]at q;cases z:(bb && i == 0)with
       | true=>rcases hb z with z | z <;> cases z
       | false=>
        refine PySem.W.kat_one _ _ (PyProof.Rows.lt_bool ?_);show Q (decide (b2i p < b2i p')) s;rw[show decide (b2i p < b2i p')=decide ((if p=true then(1:Int)else 0) < (if p'=true then 1 else 0))by cases p <;> cases p' <;> rfl];exact q
   | _=>cases h2
  | _=>cases h1
theorem sI{h:Heap}{sh:Mo Bool}(h0:sh.head?=some false)(k:∀b o,h.get? b=some o->s.heap.get? b=some o):cH prog w A s (tuples' true) (sH h sh):=by intro E x y a b Q ha hb q;obtain⟨x',ox,xs,n,rfl,hx,dx,fx⟩:=re ha;obtain⟨y',oy,ys,m,rfl,hy,dy,fy⟩:=re hb;have l1:=gn fx;have l2:=gn fy;refine PySem.W.kat_lt (k _ _ hx) dx (k _ _ hy) dy ?_;rw[show decide (xs.size < ys.size)=false from M0 (by rw[<- LP,<- LP];omega)];exact lQ sh _ _ a b 0 fx fy (λ _=>.inl h0) q
end
theorem hG:∀as:Mo Mi,Vals (as.map V.ref) (as.map Value.ref)
 | []=>.nil
 | a :: as=>.cons rfl (hG as)
theorem vA{α β:Type}{f:α->β}(g:β->Ml α)(hg:∀a,g (f a)=some a){l:Mo β}{as:Mo α}(h:l.Perm (as.map f)):∃as':Mo α,l=as'.map f/\as'.Perm as:=by
 refine%[l.filterMap g,?_|?_]
 ·have all:∀x∈l,∃a,f a=x:=λ x hx=>by obtain⟨a,_,e⟩:=J0.mp (h.mem_iff.mp hx);exact%[a|e]
  clear h
  induction l with
  | nil=>rfl
  | cons x r ih=>
   obtain⟨a,rfl⟩:=all x B8;rw[MC,hg a,G9,<- ih λ y hy=>all y (B5 _ hy)]
 ·have:=h.filterMap g;rw[List.filterMap_map,show(g∘f)=some from funext hg,List.filterMap_some]at this;exact this
theorem iC{h:Heap}{sh:Mo Bool}{key:Mi->Mo Int}(h0:sh.head?=some false):∀(as:Mo Mi),(∀a∈as,∃o us n,h.get? a=some o/\o.cls=.type "tuple" /\ o.data=.seq (List.toArray us) n/\cb sh us=some (key a))->∃fs,PySem.W.KatTups h (as.map Value.ref) fs/\fs.length=as.length/\∀v∈fs,∃i t,v=Value.int i t
 | [],_=>%[[],trivial,O|λ v hv=>by cases hv]
 | a :: as,H=>by
  obtain⟨fs,h1,h2,h3⟩:=iC h0 as λ b hb=>H b (B5 _ hb);obtain⟨o,us,n,e,c,d,f⟩:=H a B8;obtain⟨r,hr⟩:∃r,sh=false :: r:=by
   cases sh with
   | nil=>cases h0
   | cons x r=>cases h0;exact%[r|O]
  subst hr;cases us with
  | nil=>cases f
  | cons u us=>
   cases u with
   | int i t=>exact%[.int i t :: fs,PySem.W.KatTups.cons e c d (by simp) h1,by rw[J4,J4,h2]|λ v hv=>(G7.mp hv).elim (λ z=>%[i,t|z]) (h3 v)]
   | _=>cases f
end L2
namespace PySem
open Spec
section
variable{prog:F8}{w:G0}{A:Around}{E:G1->F7->Prop}{s:F7}{l:Mi}{xs:Mm (Int×Tok)}
theorem nq{Q:G1->F7->Prop}(hh:A.handled=none)(hl:s.heap.IsTuple l (intItems xs))
  (h:∀h' tk t',(∀b o,s.heap.get? b=some o->h'.get? b=some o)->Q (.int (preSum (numAt xs) xs.size) t') { s with heap:=h',toks:=tk }) :
  wpAny (model prog w) A (call (.builtin "sum") [.ref l]) Q E s:=by
 have hlt:l < s.heap.objs.size:=by obtain⟨_,e,_⟩:=hl;exact A9 e
 refine call_sum_walkG (NW hl %[_,_,_,_,_,_,numAt xs,rfl,Walks.tuple (A:=A.in1) hh _ l (C0 hlt) (intItems xs),%[%[_,A8 _ rfl,rfl|rfl]|?_],λ b hb=>?_,(λ _ _=>intItems_at)|λ h' tk t' hk=>?_])
 ·obtain⟨o,e,r⟩:=hl;exact%[o,A7 _ e|r]
 ·show b < (s.heap.push _).objs.size;rw[M6];rcases G7.mp hb with rfl | hb
  ·exact F1 _
  ·rcases G7.mp hb with rfl | hb
   ·exact MP hlt
   ·cases hb
 ·have:=h h' tk t' λ b o e=>hk b o (λ hm=>by
   have:b=s.heap.objs.size:=by simpa using hm
   subst this;exact absurd (A9 e) (E1 _)) (A7 _ e)
  simpa[intItems]using this
end
end PySem
namespace L2
open PySem PySem.Spec PyProof.Rows
section
variable{X:Cx}
inductive rz_call_sumT(K:C6)(xs:Mo V)(H:Hp)(Q:VK):Prop
|mk(p:Mi)(ns:Mo Int)(_:xs=[.ref p])(_:SqT K H p (ns.map V.int))(_:Q (.int ns.sum) H)
theorem hJ(hc:X.calm=true):bW X (.builtin "sum") (rz_call_sumT X.K):=by
 intro Mq s σ H xs us Q I r h;obtain⟨p,ns,rfl,hs,q⟩:=h;obtain⟨u,rfl,rfl⟩:=eD r;obtain⟨its,rv,pl,_⟩:=I.tuple hs;have hi:=qU rv;obtain⟨xs,e⟩:=hi.allInts.items;rw[e]at pl;refine nq (I.ok.hd hc) pl λ h' tk t' hk=>?_;have e2:preSum (numAt xs) xs.size=ns.sum:=by rw[preSum_eq,K2 (by simp),<- nums_intItems,<- e,show its.toArray.toList=its from rfl,hi.numsOf]
 rw[e2];exact%[.int ns.sum,H,I.kept hk,%[_|O]|q]
inductive rz_mt_extendT(K:C6)(x:V)(vs:Mo V)(H:Hp)(Q:VK):Prop
|mk(l b xs zs:_)(_:x=.ref l)(_:vs=[.ref b])(_:H l=↥xs)(_:SqT K H b zs)(_:xs.length+zs.length<=sizeLine)(_:Q .non (upd H l (.lst (xs ++ zs))))
theorem gp{lo:Int}{n:Nat}{σ:St}{cap:Mo Nat}{k:Nat}{g:TG}{tt:TT}{te:TE}{Q:Mo V->Hp->Prop}{H:Hp}(Pv:Nat->Mo V->Hp->Prop)(h0:Pv 0 [] H)
  (ht:∀i ys H',i < n->Pv i ys H'->ys.length < sizeLine/\g (.int (lo+i)) (aV σ cap k) H' λ σ2 H2=>leS (aV σ cap k) σ2/\tt σ2 H2 λ ok H3=>if ok=true then te σ2 H3 (λ v H4=>Nx n Pv i (ys ++ [v]) H4)else Nx n Pv i ys H3)
  (hd:∀ys H',Pv n ys H'->ys.length<=sizeLine/\Q ys H'):∃W,(∃m,W 0 m [] H)/\eE σ cap k (Itr lo n) g tt te Q W:=by
 refine%[λ i m ys H'=>m=n - i/\i<=n/\Pv i ys H',%[_,O,E8 _|h0]|?_];rintro i m ys H' ⟨rfl,hi,p⟩
 by_cases hin:i < n
 ·obtain⟨e,hg⟩:=ht i ys H' hin p;refine .inr %[hin,e|λ x H2 yl=>?_];obtain⟨e1,e2⟩:=yl;subst e1 e2;exact hg
 ·have e:i=n:=⋯
  subst e;obtain⟨a1,a2⟩:=hd ys H' p;exact .inl %[B3 _,a1|a2]
end
end L2
namespace PySem
theorem Paired.getL{α β:Type}{F:α->β->Prop}:∀{l₁:Mo α}{l₂:Mo β}{i:Nat}{y:β},Paired F l₁ l₂->l₂[i]?=some y->∃x,l₁[i]?=some x/\F x y
 | _,_,_,_,.nil,e=>by simp at e
 | _,_,0,_,.cons h _,e=>by simp at e;subst e;exact%[_,O|h]
 | _,_,i+1,y,.cons _ t,e=>by obtain⟨x,h1,h2⟩:=Paired.getL (i:=i) t (by simpa using e);exact%[x,by simpa using h1|h2]
end PySem
namespace L2
open PySem PySem.Spec PyProof.Rows
theorem vB:type_of% @ff:=@ff
theorem oQ{X:Cx}{sc:Scope}{N:Mo Str}{scope:Scope}{own cs:Mo Str}{cap:Mo Nat}(h1:X.env.scope=sc)(h2:X.N=N)(h:lD sc N scope own cs cap=true):CompOk X scope own cs cap:=az h1 h2 h
abbrev vC(K:C6):Mo V->Hp->VK->Prop:=rz_call_len_seq K
theorem lR(elt tg iter:Expr)(ifs:Mo Expr)(tg2 Mt:Expr)(ifs2:Mo Expr)(scope:Scope)(pos:Pos)(it acc:G1)(env:Env) :
  compTurn (.ListComp elt [%[tg,iter,ifs|0],%[tg2,Mt,ifs2|0]] scope pos) 0 it acc env=(do
   standAt iter.pos
   match<-pyNext it with
   | none=>pure (.done .next)
   | some v=>
    letOwnedTupleGo tg it v
    assign tg env v
    let mut ok:=true
    for c in ifs do
     if ok then ok<-isTrue c env (eval c env)
    if ok then
     let x<-eval Mt env
     standAt Mt.pos
     let x<-foldedSetIterable Mt env x
     let i2<-holding [x] (pyIter x)
     let _<-runOwn (.compStart (.ListComp elt [%[tg,iter,ifs|0],%[tg2,Mt,ifs2|0]] scope pos) 1 i2 acc env) env
    again (.compLoop (.ListComp elt [%[tg,iter,ifs|0],%[tg2,Mt,ifs2|0]] scope pos) 0 it acc env)):=by rfl
theorem eJ{prog:F8}{w:G0}{A:Around}{R:Result->F7->Prop}{s:F7}{elt tg iter tg2 Mt:Expr}{ifs ifs2:Mo Expr}{scope:Scope}{pos:Pos}{it acc:G1}{env:Env}
  (h0:codeAny (model prog w) A (.compLoop (.ListComp elt [%[tg,iter,ifs|0],%[tg2,Mt,ifs2|0]] scope pos) 1 it acc env) R s)
  (h:wpAny (model prog w) A (pyIter it) (λ it' s'=>codeAny (model prog w) A (.compLoop (.ListComp elt [%[tg,iter,ifs|0],%[tg2,Mt,ifs2|0]] scope pos) 1 it' acc env) R s')
   (notedBy (model prog w) A env λ x s'=>R (.error x) s') s) :
  codeAny (model prog w) A (.compStart (.ListComp elt [%[tg,iter,ifs|0],%[tg2,Mt,ifs2|0]] scope pos) 1 it acc env) R s:=by
 refine codeAny_of_tree ?_;show wpAny _ _ ((compStart (.ListComp elt [%[tg,iter,ifs|0],%[tg2,Mt,ifs2|0]] scope pos) 1 it acc env).onRaise (λ x=>do noteFrame x env;standAt theWindowsPlace)) _ _ s;refine wpAny_notedAt ?_;unfold compStart;show wpAny _ _ (ask >>= _) _ _ s;refine A0 (wpAny_askSetting (wpAny_ite ?_))
 split
 ·first
   | exact A0 (A2 (A2 (And.intro rfl h0)))
   | exact A2 (And.intro rfl h0)
 ·first
   | exact A0 (Ni (A0 (Nb (A0 (Mz h (λ it' s' h'=>A2 (And.intro rfl h')) λ _ _ x=>x)))))
   | (refine A0 (Ni ?_);show wpAny _ _ (standAt Mt.pos >>= _) _ _ s;exact A0 (Nb (A0 (Mz h (λ it' s' h'=>A2 (And.intro rfl h')) λ _ _ x=>x))))
def jv(σ2:St)(J:It)(g:TG)(tt:TT)(te:TE)(N:Mo V->Hp->Prop)(W:Nat->Nat->Mo V->Hp->Prop):Prop :=
 ∀i m ys H,W i m ys H->(J.stop i H/\N ys H) \/
  (J.go i H/\ys.length < sizeLine/\∀x H',J.yld i H x H'->g x σ2 H' λ σ3 H2=>leS σ2 σ3/\tt σ3 H2 λ ok H3=>
   if ok=true then te σ3 H3 (λ v H4=>∃m',m' < m/\W (i+1) m' (ys ++ [v]) H4)else∃m',m' < m/\W (i+1) m' ys H3)
def lS(σ:St)(cap:Mo Nat)(k:Nat)(J:It)(g:TG)(tt:TT)(wi2:TI)(g2:TG)(tt2:TT)(te:TE)(Q:Mo V->Hp->Prop)(W:Nat->Nat->Mo V->Hp->Prop):Prop :=
 ∀i m ys H,W i m ys H->(J.stop i H/\ys.length<=sizeLine/\Q ys H) \/
  (J.go i H/\∀x H',J.yld i H x H'->g x (aV σ cap k) H' λ σ2 H2=>leS (aV σ cap k) σ2/\tt σ2 H2 λ ok H3=>
   if ok=true then wi2 σ2 H3 (λ J2 H4=>∃W2:Nat->Nat->Mo V->Hp->Prop,(∃m2,W2 0 m2 ys H4)/\jv σ2 J2 g2 tt2 te (λ zs H5=>∃m',m' < m/\W (i+1) m' zs H5) W2)else∃m',m' < m/\W (i+1) m' ys H3)
section
variable{X:Cx}{Mq:Mo (Mi×Obj)}{σ:St}{H2:Hp}{s2:F7}{scope:Scope}{own cs:Mo Str}{cap:Mo Nat}{fp:Mo Mi}{it:Mi}{tn:Nat->Heap->Prop}
 {elt tg iter tg2 Mt:Expr} {ifs ifs2:Mo Expr} {pos:Pos} {J:It} {g g2:TG} {tt tt2:TT} {te:TE} {wi2:TI} {E:G1->F7->Prop} {W:Nat->Nat->Mo V->Hp->Prop} {Qf:Mo V->Hp->Prop}
theorem vD{Y:Cx}{P5:Mo (Mi×Obj)}{σ:St}{D:Mi}(hx:Y.xe=λ _ _=>False)(hc:Y.calm=true)
  (hit2:PI Y tg2 Mt wi2) (hs2:∀x,foldedSetIterable Mt Y.env x=pure x) (hg2:PG Y tg2 g2) (hi2:gc Y ifs2 tt2) (he:PE Y elt te)
  (hu:∀it2,Y.A.under (.compLoop (.ListComp elt [%[tg,iter,ifs|0],%[tg2,Mt,ifs2|0]] scope pos) 1 (.ref it2) (.ref D) Y.env)=Y.A) :
  qO Y P5 σ D (do
   let x<-eval Mt Y.env
   standAt Mt.pos
   let x<-foldedSetIterable Mt Y.env x
   let i2<-holding [x] (pyIter x)
   let _<-runOwn (.compStart (.ListComp elt [%[tg,iter,ifs|0],%[tg2,Mt,ifs2|0]] scope pos) 1 i2 (.ref D) Y.env) Y.env) AccL (λ _=>True)
   (λ i m ys σ2 H3=>wi2 σ2 H3 (λ J2 H4=>∃W2:Nat->Nat->Mo V->Hp->Prop,(∃m2,W2 0 m2 ys H4)/\jv σ2 J2 g2 tt2 te (λ zs H5=>∃m',m' < m/\W (i+1) m' zs H5) W2)) W:=by
 rintro i m ys o σ3 H3 s3 Q5 hz hq le ac fD I3 e3;have hx':∀{v:G1}{s':F7}{Z:Prop},Y.xe v s'->Z:=λ z=>by rw[hx]at z;exact z.elim
 have one:∀{p:Mi×Obj},p∈[(D,o)]->p=(D,o):=λ hp=>by simpa using hp
 have I3':Inv Y ((P5 ++ Q5) ++ [(D,o)]) σ3 H3 s3:=I3.pins_of λ p hp=>(C4.mp hp).elim (λ z=>I3.pin p (A5 _ z)) λ z=>by rw[one z];exact%[e3,fD.1,fD.2.1,fD.2.2.1|AccL.nc _ _ ac]
 refine A0 (Mz (hit2 _ s3 σ3 H3 _ I3' hq) (λ xv s8 h8=>?_) λ _ _ z=>hx' z);refine A0 (Nb (A0 (wpAny_of_eq (hs2 xv) ?_)));refine A0 (M3 (Mz h8 (λ itv s9 h9=>?_) λ _ _ z=>hx' z));obtain⟨it2,fp2,tn2,J2,H9,rfl,I9,T2,st9,f9,W2,w20,turn2⟩:=h9;have pD:=I9.pin (D,o) (A5 _ (A5 _ (E2.mpr rfl)));have inner:=λ(R:Result->F7->Prop) hR=>fe (R:=R) (Fin:=λ zs H5=>∃m',m' < m/\W (i+1) m' zs H5) (ipos:=Mt.pos) (node:=.ListComp elt [%[tg,iter,ifs|0],%[tg2,Mt,ifs2|0]] scope pos) (lvl:=1) (body:=do let _<-call (.builtin "list.append") [.ref D,<-eval elt Y.env]) hx (T2.y hc) hg2 hi2 rfl (hu it2) AccL.nc
  (λ i m ys H w=>%[trivial|turn2 i m ys H w]) (kG hx he) (I9.sub λ p hp=>B7 _ hp) (fD.sub pD.2.1 λ _ h=>.inl h) (λ b hb=>(f9 b hb).sub (f9 b hb).1 λ p hp=>.inl (B7 _ hp))
  (λ b hb=>(f9 b hb).2.2.2.2.2 (D,o) (A5 _ (A5 _ (E2.mpr rfl)))) st9 pD.1 ac w20 hR
 refine A0 (wpAny_runOwn ((λ h=>eJ h (T2.self _ 0 _ _ _ st9 h)) (inner _ ?_)));exactλ s' H' ys o a b c d e=>A2 %[H',ys,o,a,b,c,d|e]
theorem sJ{RR:G1->Mi->Result->F7->Prop}(I:Inv X Mq σ H2 s2)(ok:CompOk X scope own cs cap)(hc:X.calm=true)(T:Turn X.prog X.w X.K tg J fp it tn)(st:tn 0 s2.heap)(hf:∀b∈fp,FpOk X Mq H2 b)
  (hg:∀C,PG (aF X Mq s2 H2 scope C (own ++ cs) fp) tg g) (hi:∀C,gc (aF X Mq s2 H2 scope C (own ++ cs) fp) ifs tt) (hit2:∀C,PI (aF X Mq s2 H2 scope C (own ++ cs) fp) tg2 Mt wi2) (hs2:∀C x,foldedSetIterable Mt (aF X Mq s2 H2 scope C (own ++ cs) fp).env x=pure x) (hg2:∀C,PG (aF X Mq s2 H2 scope C (own ++ cs) fp) tg2 g2) (hi2:∀C,gc (aF X Mq s2 H2 scope C (own ++ cs) fp) ifs2 tt2) (he:∀C,PE (aF X Mq s2 H2 scope C (own ++ cs) fp) elt te)
  (w0:∃m,W 0 m [] H2) (turn:lS σ cap own.length J g tt wi2 g2 tt2 te Qf W)
  (hRR:∀D C s' ys H',H' D=none->(ys.length<=sizeLine/\Qf ys H')->Inv X Mq σ (upd H' D (.lst ys)) s'->FpOk X Mq (upd H' D (.lst ys)) C->(∃m,s'.heap.Ns C m)->RR (.ref D) C (.ok .next) s') :
  wpAny (model X.prog X.w) X.A (newList []) (λ acc s₃=>wpAny (model X.prog X.w) X.A (newFunctionEnv scope X.env.globals (bv X.env scope.names []) [] X.env.qual none .none (some X.env)) (λ cenv s₄=>
   codeAny (model X.prog X.w) X.A (.compStart (.ListComp elt [%[tg,iter,ifs|0],%[tg2,Mt,ifs2|0]] scope pos) 0 (.ref it) acc { cenv with scope:=relabel scope X.env }) (RR acc cenv.locals) s₄) E s₃) E s2:=by
 refine fJ (Acc:=AccL) (Fin:=λ ys H=>ys.length<=sizeLine/\Qf ys H) (ho:=.lst) I ok (λ C=>Turn.y (Y:=aF X Mq s2 H2 scope C (own ++ cs) fp) T hc) st hf rfl (λ h=>F5 h) codeAny_compStart_list (λ Y D C s' R hY I0 hD hf' df st0 e0 hR=>?_) (λ _ ⟨its,nn,e,rv⟩ q _ p=>%[q.1,its,nn,rv|e ▸ p]) hRR;subst hY;have hb:=vD (Y:=aF X Mq s2 H2 scope C (own ++ cs) fp) (tg:=tg) (iter:=iter) (ifs:=ifs) (scope:=scope) (pos:=pos) (P5:=[]) (σ:=aV σ cap own.length) (W:=W) (D:=D) rfl hc (hit2 C) (hs2 C) (hg2 C) (hi2 C) (he C) λ _=>rfl;exact fe (ipos:=iter.pos) rfl (Turn.y (Y:=aF X Mq s2 H2 scope C (own ++ cs) fp) T hc) (hg C) (hi C) (by
   show Sem.onRaise (compTurn _ _ _ _ _) _=_;rw[lR];unfold uS;simp only[bind_assoc,pure_bind] <;> rfl) rfl AccL.nc
  (λ i m ys H w=>%[trivial|(turn i m ys H w).imp id λ h=>%[h.1,trivial|h.2]]) hb I0 hD hf' df st0 e0 %[[],_,rfl|.nil] w0 hR
def zW(wi:TI)(cap:Mo Nat)(k:Nat)(g:TG)(tt:TT)(wi2:TI)(g2:TG)(tt2:TT)(te:TE):TE:=λ σ H Q=>wi σ H λ J H1=>
 ∃W:Nat->Nat->Mo V->Hp->Prop,(∃m,W 0 m [] H1)/\lS σ cap k J g tt wi2 g2 tt2 te (λ ys H'=>∀p,H' p=none->Q (.ref p) (upd H' p (.lst ys))) W
theorem vE{wi:TI}(hc:X.calm=true)(hit:PI X tg iter wi)(ok:CompOk X scope own cs cap)
  (hg:∀Mq s2 H2 C fp,PG (aF X Mq s2 H2 scope C (own ++ cs) fp) tg g) (hi:∀Mq s2 H2 C fp,gc (aF X Mq s2 H2 scope C (own ++ cs) fp) ifs tt)
  (hit2:∀Mq s2 H2 C fp,PI (aF X Mq s2 H2 scope C (own ++ cs) fp) tg2 Mt wi2) (hg2:∀Mq s2 H2 C fp,PG (aF X Mq s2 H2 scope C (own ++ cs) fp) tg2 g2) (hi2:∀Mq s2 H2 C fp,gc (aF X Mq s2 H2 scope C (own ++ cs) fp) ifs2 tt2)
  (he:∀Mq s2 H2 C fp,PE (aF X Mq s2 H2 scope C (own ++ cs) fp) elt te)
  (hs:∀x,foldedSetIterable iter X.env x=pure x:=by intro _;rfl) (hs2:∀Mq s2 H2 C fp x,foldedSetIterable Mt (aF X Mq s2 H2 scope C (own ++ cs) fp).env x=pure x:=by intro _ _ _ _ _ _;rfl):PE X (.ListComp elt [%[tg,iter,ifs|0],%[tg2,Mt,ifs2|0]] scope pos) (zW wi cap own.length g tt wi2 g2 tt2 te):=by
 intro Mq s σ H Q I h;rw[eval_ListComp];refine NM (use:=none) rfl hs (cN λ y hy e=>I.ok.has y.1 (ok.free y hy e)) ok.kind ok.names (thn (hit Mq s σ H _ I h) λ v s1 h1=>thn h1 λ itv s2 h2=>?_);obtain⟨it,fp,tn,J,H2,e,I2,T,st2,f2,W,w0,turn⟩:=h2;subst e;refine sJ (RR:=λ acc C=>compPost (model X.prog X.w) X.A X.xe none (EP X Mq σ Q) acc C) I2 ok hc T st2 f2 (λ C=>hg _ _ _ _ _) (λ C=>hi _ _ _ _ _) (λ C=>hit2 _ _ _ _ _) (λ C=>hs2 _ _ _ _ _) (λ C=>hg2 _ _ _ _ _) (λ C=>hi2 _ _ _ _ _) (λ C=>he _ _ _ _ _) w0 turn λ D C s' ys H' hD %[_|q] I' fp' %[m|hn]=>?_;obtain⟨f0,f1,f2',f3,f4,f5⟩:=fp';exact%[m,hn|λ h' sb=>%[.ref D,_,I'.turned (t':=s'.toks) (λ b o hb e=>sb.extBut b o hb e) f0 f1 f3 f4 f5,O|q D hD]]
end
end L2
namespace PySem
open Sem (wp)
section
variable{prog:F8}{w:G0}{A:Around}{E:G1->F7->Prop}{s:F7}
theorem bu{d:Mi}{es:Mm DictEntry}{ep:Nat}{Q:G1->F7->Prop}(hd:(d == sysModules)=false)(hm:(∃o,s.heap.get? d=some o/\o.ExactDict/\o.data=.dict es ep))
  (hQ:Q (.ref s.heap.objs.size) { s with heap:=s.heap.push { cls:=.type "dict_keyiterator",data:=.fields #[.ref d,.int 0 0,.int es.size 0,.int ep 0] } }) :
  wpAny (model prog w) A (pyIter (.ref d)) Q E s:=by
 obtain⟨o,ho,hc,hdat⟩:=id hm;have hT:s.TypeIs (.ref d) "dict" := %[_,ho|hc.1]
 refine wpAny_pyIter_slot hT F.slot_dict_iter (F4 F.slot_dict_iter hT F.entry_dict_iter ?_ (F.args_dict_iter_1 _));unfold Builtin.«dict.__iter__»;refine A0 ?_;unfold Builtin.Dict.dictSlotNone;refine A0 (wpAny_notOrdered_dict hT ?_);show wpAny _ _ (pure (Value.ref d)) _ _ s;refine A2 ?_;show wpAny _ _ (Builtin.Dict.showsAll d >>= _) _ _ s;unfold Builtin.Dict.showsAll;rw[Mu (by rw[hd];exact B2)];refine A0 (A2 ?_);refine A0 (M9 ho hdat ?_);refine A0 (NT ho hdat ?_);have hsz:es.size=es.size:=rfl;refine A0 (F5 (A2 %[_,rfl,"dict_keyiterator",_,%[_,A8 _ rfl|rfl],F.slot_dict_keyiterator_next.lookup|?_]));simpa[rawInt,hsz]using hQ
theorem bN{it d:Mi}{i ep:Nat}{es:Mm DictEntry}{en:DictEntry}{Q:Ml G1->F7->Prop}(hit:s.heap.IsKeyIter it d i es.size ep)
  (hm:(∃o,s.heap.get? d=some o/\o.ExactDict/\o.data=.dict es ep)) (hx:es[i]?=some en)
  (hQ:∀h',h'.IsKeyIter it d (i+1) es.size ep->Heap.SameBut it s.heap h'->Q (some en.key) { s with heap:=h' }) :
  wpAny (model prog w) A (pyNext (.ref it)) Q E s:=by
 obtain⟨o,ho,hc,hd⟩:=id hit;obtain⟨od,hod,hcd,hdd⟩:=id hm;unfold pyNext;refine A0 (Nc (wpAny_callSpecial?_slot (name:=Str.ofString "__next__") hit.typeIs NU
  (F4 NU hit.typeIs F.entry_dict_keyiterator_next ?_ (F.args_dict_keyiterator_next_1 _))))
 refine A0 (A2 ?_);refine A0 ?_;refine A0 ?_
 first | refine A0 (NO hit.typeIs (A2 ?_)) | refine A0 (wpAny_typeNameOf_keyiter hit.typeIs (A2 ?_))
 refine A0 (wpAny_fieldsOf ho hd ?_);have hown:Builtin.Dict_items.ownsTuple "dict_keyiterator" = false:=∅
 simp only[hown,K8,NK];show wpAny _ _ (if (Value.ref d == Value.none)=true then _ else _) _ _ s;rw[Mu (show¬ ((Value.ref d == Value.none)=true)from B2)];refine A0 (A2 ?_);refine A0 (M9 hod hdd ?_);have hsz:es.size=es.size:=rfl;rw[Mu (by simp)];refine A0 (A2 ?_);refine A0 (NT hod hdd ?_);rw[Mu (by simp)];refine A2 ?_;have hlt:i < es.size:=by
  rcases Md i es.size with h | h
  ·exact h
  ·rw[LK h]at hx;cases hx
 have hlt':i < es.size:=by rw[hsz];exact hlt
 have hkey:es[i]=en:=by rw[K9 hlt']at hx;exact B9 hx
 simp only[show¬ ((i:Int) < 0)from by omega,NK,LS,K9 hlt'];refine A0 ?_
 first | refine A0 (NO hit.typeIs (A2 ?_)) | refine A0 (wpAny_typeNameOf_keyiter hit.typeIs (A2 ?_))
 refine A0 (wpAny_isOneOf_keyiter hit.typeIs ?_);show wpAny _ _ (setField (.ref it) 1 (rawInt ((i:Int)+1)) >>= _) _ _ s;refine A0 (NH ho hd (by simp) ?_);have hit':(s.heap.update it (Obj.mapFields (·.setIfInBounds 1 (rawInt ((i:Int)+1))))).IsKeyIter it d (i+1) es.size ep :=
  %[_,NB _ ho (NZ (NY hd _)),(Obj.cls_mapFields ..).trans hc|by rw[NY hd];simp[rawInt]]
 refine A0 (M3 ?_);refine A0 (wpAny_isOneOf_keyiter (s:={ s with heap:=s.heap.update it (Obj.mapFields (·.setIfInBounds 1 (rawInt ((i:Int)+1)))) }) hit'.typeIs ?_);show wpAny _ _ (pure es[i].key) _ _ _;exact A2 (A2 %[_,rfl|A2 (by rw[hkey];exact hQ _ hit' (NA ..))])
theorem cf{it d:Mi}{i ep:Nat}{es:Mm DictEntry}{Q:Ml G1->F7->Prop}(hh:A.handled=none)(hit:s.heap.IsKeyIter it d i es.size ep)
  (hm:(∃o,s.heap.get? d=some o/\o.ExactDict/\o.data=.dict es ep)) (hx:es[i]?=none)
  (hQ:∀h',Heap.ExtBut it s.heap h'->Q none { s with heap:=h' }):wpAny (model prog w) A (pyNext (.ref it)) Q E s:=by
 obtain⟨o,ho,hc,hd⟩:=id hit;obtain⟨od,hod,hcd,hdd⟩:=id hm;unfold pyNext;refine A0 (Nc (wpAny_callSpecial?_slot (name:=Str.ofString "__next__") hit.typeIs NU
  (F4 NU hit.typeIs F.entry_dict_keyiterator_next ?_ (F.args_dict_keyiterator_next_1 _))))
 refine A0 (A2 ?_);refine A0 ?_;refine A0 ?_
 first | refine A0 (NO hit.typeIs (A2 ?_)) | refine A0 (wpAny_typeNameOf_keyiter hit.typeIs (A2 ?_))
 refine A0 (wpAny_fieldsOf ho hd ?_);have hown:Builtin.Dict_items.ownsTuple "dict_keyiterator" = false:=∅
 simp only[hown,K8,NK];show wpAny _ _ (if (Value.ref d == Value.none)=true then _ else _) _ _ s;rw[Mu (show¬ ((Value.ref d == Value.none)=true)from B2)];refine A0 (A2 ?_);refine A0 (M9 hod hdd ?_);have hsz:es.size=es.size:=rfl;rw[Mu (by simp)];refine A0 (A2 ?_);refine A0 (NT hod hdd ?_);rw[Mu (by simp)];refine A2 ?_;have hge:es.size<=i:=by simpa using hx
 simp only[show¬ ((i:Int) < 0)from by omega,NK,LS,LK hge];refine A0 ?_
 first | refine A0 (NO hit.typeIs (A2 ?_)) | refine A0 (wpAny_typeNameOf_keyiter hit.typeIs (A2 ?_))
 show wpAny _ _ (setField (.ref it) 0 .none >>= _) _ _ s;refine A0 (NH ho hd (by simp) ?_);show wpAny _ _ (newExc (.type "StopIteration") [] >>= _) _ _ _;refine A0 ?_;simp only[newExc,newTuple];refine A0 (F5 ?_ (by size_fits));refine A0 (m:=firstArgMember _ _) (wpAny_of_eq (a:=Value.none) (by first | rfl | (simp only[firstArgMember];rfl)) ?_);refine F5 ?_ (by size_fits);simp only[raiseNew];refine A0 (wpAny_handled ?_);rw[show A.in1.handled=none from hh];refine A0 (A2 (wpAny_throw ?_));refine A0 (Nh (T := "StopIteration") (b:=true) %[_,A8 _ rfl|rfl] isSubtype_stop ?_);exact A2 (hQ _ (((NA ..).extBut.push _).push _))
end
end PySem
namespace L2
open PySem PySem.Spec PyProof.Rows
def Itd(a:Mi)(ob:Obj)(kvs:Mo (Mo Key×V)):It :=
 %[λ i H=>i < kvs.length/\H a=some (.frz ob (.dT kvs)),λ i H x H'=>H'=H/\∃q k v,kvs[i]?=some (k,v)/\x=.ref q/\H q= ~~~(k.map kV)|λ i H=>i=kvs.length/\H a=some (.frz ob (.dT kvs))]
theorem iD{α β:Type}{F:α->β->Prop}:∀{l₁:Mo α}{l₂:Mo β}{i:Nat}{x:α},Paired F l₁ l₂->l₁[i]?=some x->∃y,l₂[i]?=some y/\F x y
 | _,_,0,_,.cons h _,e=>%[_,O|by cases e;exact h]
 | _,_,i+1,_,.cons _ r,e=>iD (i:=i) r (by simpa using e)
 | _,_,_,_,.nil,e=>by simp at e
theorem rf{α β:Type}{F G:α->β->Prop}:∀{l₁:Mo α}{l₂:Mo β},Paired F l₁ l₂->(∀x y,F x y->G x y)->Paired G l₁ l₂
 | _,_,.nil,_=>.nil
 | _,_,.cons h r,f=>.cons (f _ _ h) (rf r f)
theorem fA{α β:Type}{F:α->β->Prop}:∀{l₁:Mo α}{l₂:Mo β},Paired F l₁ l₂->l₁.length=l₂.length
 | _,_,.nil=>rfl
 | _,_,.cons _ r=>by rw[J4,J4,fA r]
theorem fP{P:F8}{w:G0}{K:C6}{tg:Expr}(a it:Mi)(ob:Obj)(kvs:Mo (Mo Key×V))(es:Mm DictEntry)(ep:Nat)(hx:ob.ExactDict)(hd:ob.data=.dict es ep)(hn:es.size=kvs.length) :
  Turn P w K tg (Itd a ob kvs) [it] it (λ i h=>h.IsKeyIter it a i es.size ep) where
 mem:=by simp
 obj:=λ i h st b hb=>by
  have e:b=it:=by simpa using hb
  subst e;obtain⟨o,e,c,d⟩:=st;exact%[o,e|λ v z=>by rw[d]at z;cases z]
 keep:=λ i h h' st k=>st.at λ o e=>k it (by simp) o e
 item:=by
  intro X hP hw hK hc i Mq s σ H E I hf st hg;subst hP hw hK;obtain⟨hi,hH⟩:=hg;obtain⟨h1,_,_,xs,pr,o,es',ep',h2,_,h3,h4,_⟩:=(show ObjOk X.prog X.w H s.heap a (.frz ob (.dT kvs))from I.hok a _ hH)
  rw[h1]at h2;cases h2;rw[hd]at h3;cases h3;have hk:kvs[i]?=some kvs[i]:=F2 hi;obtain⟨⟨k',q,v'⟩,hy,e1,e2,e3⟩:=iD pr hk;have hen:es[i]?=some (entryOfKey (tupleKind (aO X.prog X.w)) (k',q,v')):=by rw[<- LX,h4,G8,hy];rfl
  obtain⟨f0,f1,f2,f3,f4,f5⟩:=hf it (by simp);refine bN st %[ob,h1,hx|hd] hen λ h' st' sb=>?_;have I1:Inv X Mq σ H { s with heap:=h' }:=I.turned (t':=s.toks) (λ b o hb e=>(sb.2 b hb).trans e) f0 f1 f3 f4 f5;obtain⟨o,e,c,d⟩:=id st';exact%[_,O|mH (s:={ s with heap:=h' }) e c d ∅ %[.ref q,H,I1,O,%[O,q,kvs[i].1,kvs[i].2,hk,O|e2],st'|λ b hb=>(hf b hb).1]]
 done:=by
  intro X hP hw hK hc i Mq s σ H E I hf st hg;subst hP hw hK;obtain⟨hi,hH⟩:=hg;obtain⟨h1,_⟩:=(show ObjOk X.prog X.w H s.heap a (.frz ob (.dT kvs))from I.hok a _ hH)
  obtain⟨f0,f1,f2,f3,f4,f5⟩:=hf it (by simp);exact cf (I.ok.hd hc) st %[ob,h1,hx|hd] (by rw[LK];omega) λ h' eb=>%[O|I.turned (t':=s.toks) (λ b o hb e=>eb b o hb e) f0 f1 f3 f4 f5]
 self:=λ _ _ _ _ _ st h=>wpAny_pyIter_keyiter st h
section
variable{X:Cx}{tg:Expr}
def zX(tl:TE):TI:=λ σ H R=>tl σ H λ x H1=>∃a kvs,x=.ref a/\H1 a=some (.dT kvs)/\∀ob,R (Itd a ob kvs) (upd H1 a (.frz ob (.dT kvs)))
theorem vF{l:Expr}{tl:TE}(hl:PE X l tl):PI X tg l (zX tl):=by
 intro Mq s σ H R I h;refine thn (hl Mq s σ H _ I h) λ v s1 %[x,H1,I1,r1|q1]=>?_;obtain⟨a,kvs,e,hH,q⟩:=q1;subst e;cases r1;obtain⟨hz,hs,xs,pr,o,es,ep,h1,h2,h3,h4,h5⟩:=(show ObjOk X.prog X.w H1 s1.heap a (.dT kvs)from I1.hok a _ hH)
 have hn:es.size=kvs.length:=by rw[fA pr,<- LP,h4,B4]
 have I2:Inv X Mq σ (upd H1 a (.frz o (.dT kvs))) s1:=by
  have:=I1.write (x:=a) (e:=a) (o:=.frz o (.dT kvs)) (h':=s1.heap) (t':=s1.toks) (by rw[hH];trivial) (.inl rfl) (λ b u _ e=>e) %[o|h1] %[h1,hz,hs,xs,?_,o,es,ep,h1,h2,h3,h4|h5]
  ·exact this
  ·refine rf pr λ p q %[e1,e2|e3]=>%[e1,?_|e3]
   rw[aj (λ z=>by rw[z,hH]at e2;cases e2)];exact e2
 refine bu hs %[o,h1,h2|h3] ?_;refine%[s1.heap.objs.size,[s1.heap.objs.size],_,_,_,O,I2.kept (t':=s1.toks) λ b o e=>A7 _ e,fP a _ o kvs es ep h2 h3 hn,%[_,A8 _ rfl,O|O],λ b hb=>?_|q o];have e:b=s1.heap.objs.size:=by simpa using hb
 subst e;exact I2.fpOk (B3 _) (I2.hok.fresh (B3 _))
end
theorem jw{a:Mi}{ob:Obj}{kvs:Mo (Mo Key×V)}{g:TG}{tb:TS}{D:Ends}{σ:St}{H:Hp}(Pv:Nat->St->Hp->Prop)(h0:Pv 0 σ H)(hl:∀i σ H,i<=kvs.length->Pv i σ H->H a=some (.frz ob (.dT kvs)))
  (hs:∀i k v q σ H,kvs[i]?=some (k,v)->H q= ~~~(k.map kV)->Pv i σ H->g (.ref q) σ H λ σ2 H2=>tb { D with nx:=Pv (i+1),ct:=Pv (i+1),bk:=D.nx } σ2 H2) (hd:∀σ H,Pv kvs.length σ H->D.nx σ H) :
  ∃W:Nat->Nat->St->Hp->Prop,(∃m,W 0 m σ H)/\∀i m σ H,W i m σ H ->
   ((Itd a ob kvs).stop i H/\D.nx σ H)\/((Itd a ob kvs).go i H/\∃N:St->Hp->Prop,(∀σ' H',N σ' H'->∃m',m' < m/\W (i+1) m' σ' H')/\∀x H',(Itd a ob kvs).yld i H x H'->g x σ H' λ σ2 H2=>tb { D with nx:=N,ct:=N,bk:=D.nx } σ2 H2):=by
 refine%[λ i m σ H=>m=kvs.length - i/\i<=kvs.length/\Pv i σ H,%[kvs.length,by simp,E8 _|h0]|?_];rintro i m σ H ⟨rfl,hi,p⟩;have q:=hl i σ H hi p
 by_cases hlt:i < kvs.length
 ·refine .inr %[%[hlt|q],Pv (i+1),λ σ' H' p'=>%[_,⋯,O,hlt|p']|λ x H' y=>?_];obtain⟨e,qa,k,v,e1,e2,e3⟩:=y;subst e e2;exact hs i k v qa σ _ e1 e3 p
 ·have e:i=kvs.length:=⋯
  subst e;exact .inl %[%[O|q]|hd σ H p]
theorem sK{lo:Int}{n:Nat}{σ:St}{cap:Mo Nat}{k:Nat}{g g2:TG}{tt tt2:TT}{te:TE}{wi2:TI}{Q:Mo V->Hp->Prop}{H:Hp}(Pv:Nat->Mo V->Hp->Prop)(h0:Pv 0 [] H)
  (ht:∀i ys H',i < n->Pv i ys H'->g (.int (lo+i)) (aV σ cap k) H' λ σ2 H2=>leS (aV σ cap k) σ2/\tt σ2 H2 λ ok H3=>if ok=true then wi2 σ2 H3 (λ J2 H4=>∃W2:Nat->Nat->Mo V->Hp->Prop,(∃m2,W2 0 m2 ys H4)/\jv σ2 J2 g2 tt2 te (λ zs H5=>Nx n Pv i zs H5) W2)else Nx n Pv i ys H3)
  (hd:∀ys H',Pv n ys H'->ys.length<=sizeLine/\Q ys H'):∃W,(∃m,W 0 m [] H)/\lS σ cap k (Itr lo n) g tt wi2 g2 tt2 te Q W:=by
 refine%[λ i m ys H'=>m=n - i/\i<=n/\Pv i ys H',%[_,O,E8 _|h0]|?_];rintro i m ys H' ⟨rfl,hi,p⟩
 by_cases hin:i < n
 ·refine .inr %[hin|λ x H2 yl=>?_];obtain⟨e1,e2⟩:=yl;subst e1 e2;exact ht i ys _ hin p
 ·have e:i=n:=⋯
  subst e;obtain⟨a1,a2⟩:=hd ys H' p;exact .inl %[B3 _,a1|a2]
theorem zY{lo:Int}{n:Nat}{σ2:St}{g2:TG}{tt2:TT}{te:TE}{N:Mo V->Hp->Prop}{H:Hp}{ys:Mo V}(Pv:Nat->Mo V->Hp->Prop)(h0:Pv 0 ys H)
  (ht:∀i zs H',i < n->Pv i zs H'->zs.length < sizeLine/\g2 (.int (lo+i)) σ2 H' λ σ3 H2=>leS σ2 σ3/\tt2 σ3 H2 λ ok H3=>if ok=true then te σ3 H3 (λ v H4=>Nx n Pv i (zs ++ [v]) H4)else Nx n Pv i zs H3)
  (hd:∀zs H',Pv n zs H'->N zs H'):∃W2:Nat->Nat->Mo V->Hp->Prop,(∃m2,W2 0 m2 ys H)/\jv σ2 (Itr lo n) g2 tt2 te N W2:=by
 refine%[λ i m zs H'=>m=n - i/\i<=n/\Pv i zs H',%[_,O,E8 _|h0]|?_];rintro i m zs H' ⟨rfl,hi,p⟩
 by_cases hin:i < n
 ·obtain⟨e,hg⟩:=ht i zs H' hin p;refine .inr %[hin,e|λ x H2 yl=>?_];obtain⟨e1,e2⟩:=yl;subst e1 e2;exact hg
 ·have e:i=n:=⋯
  subst e;exact .inl %[B3 _|hd zs H' p]
theorem oR{P:F8}{w:G0}{K:C6}{tg:Expr}(it:Mi)(lo left:Int)(h0:left<=0):Turn P w K tg (Itr lo 0) [it] it (λ i h=>IsLongIter h it lo left 1) where
 mem:=by simp
 obj:=λ i h st b hb=>by
  have e:b=it:=by simpa using hb
  subst e;exact⟨_,st,λ v z=>by
   have z':Data.fields _=Data.cell v:=z;cases z'⟩
 keep:=λ i h h' st k=>k it (by simp) _ st
 item:=by intro X hP hw hK hc i Mq s σ H E I hf st hg;exact absurd hg (E9 _)
 done:=by intro X hP hw hK hc i Mq s σ H E I hf st hg;subst hP hw hK;obtain⟨f0,f1,f2,f3,f4,f5⟩:=hf it (by simp);exact wpAny_pyNext_long_end (I.ok.hd hc) st h0 λ h' eb=>%[O|I.turned (t':=s.toks) (λ b o hb e=>eb b o hb e) f0 f1 f3 f4 f5]
 self:=λ _ _ _ _ _ st h=>wpAny_pyIter_longiter st h
section
variable{X:Cx}{tg:Expr}
def zZ(ta:TA):TI:=λ σ H R=>ta σ H λ vs H1=>∃i j:Int,vs=[.int i,.int j]/\(-(2 ^ 62)<=i/\i < 2 ^ 62/\j < 2 ^ 62)/\R (Itr i (j - i).toNat) H1
theorem jx{a b:Expr}{ta:TA}{p pos:Pos}(hg:Gl X "range")(hm:X.mg "range" = none)(ha:PA X [a,b] ta)(hs:starEach [a,b] X.env=[(false,eval a X.env),(false,eval b X.env)]:=by rfl)(hs2:starEach [b] X.env=[(false,eval b X.env)]:=by rfl) :
  PI X tg (.Call (.Name "range" p) [a,b] [] pos) (zZ ta):=by
 intro Mq s σ H R I h;refine Call_ (dS I hg hm boot_range (M7 (thn (ha pos Mq s σ H _ I h) λ us s1 %[vs,H1,I1,r1|q1]=>?_) (by rw[hs,hs2]) (by rw[hs2];rfl)));obtain⟨i,j,e,⟨q1,q2,q4⟩,q⟩:=q1;subst e;cases r1 with
 | cons r rr=>
  cases rr with
  | cons r' rr=>
   cases rr;obtain⟨t,rfl⟩:=r;obtain⟨t',rfl⟩:=r'
   by_cases q3:-(2 ^ 62)<=j
   ·exact call_range_2 (iX I1 q1 q2 q3 q4 q)
   refine call_range_2 ?_;have z0:(j - i).toNat=0:=⋯
   rw[z0]at q;have I2:Inv X Mq σ H1 { s1 with heap:=s1.heap.push { cls:=.type "range",data:=.fields #[.int i t,.int j t',.int 1 s1.toks] },toks:=s1.toks+1 }:=I1.kept λ b o e=>A7 _ e;have rs0:Builtin.Range.rangeSize i j 1=0:=by rw[rangeSize_one,Mu ⋯]
   cases hsm:Builtin.Range.small i j 1 with
   | false=>
    refine wpAny_pyIter_longrange (IsRange.new ..) hsm ?_;refine%[_,[(s1.heap.push { cls:=.type "range",data:=.fields #[.int i t,.int j t',.int 1 s1.toks] }).objs.size],_,_,H1,O,I2.kept (t':=s1.toks+1) λ b o e=>A7 _ e,oR _ i 0 (E5 _),?_,λ b hb=>?_|q]
    ·rw[rs0];exact A8 _ rfl
    ·have e:b=(s1.heap.push { cls:=.type "range",data:=.fields #[.int i t,.int j t',.int 1 s1.toks] }).objs.size:=by simpa using hb
     subst e;exact I2.fpOk (B3 _) (I2.hok.fresh (B3 _))
   | true=>
    refine wpAny_pyIter_range (IsRange.new ..) hsm ?_;refine%[_,[(s1.heap.push { cls:=.type "range",data:=.fields #[.int i t,.int j t',.int 1 s1.toks] }).objs.size],_,_,H1,O,I2.kept (t':=s1.toks+1) λ b o e=>A7 _ e,cM _ i 0,?_,λ b hb=>?_|q]
    ·rw[rs0];show IsRangeIter _ _ (i+((0:Nat):Int) * 1) (((0:Nat):Int) - ((0:Nat):Int)) 1;have e1:i+((0:Nat):Int) * 1=i:=by simp
     have e2:((0:Nat):Int) - ((0:Nat):Int)=0:=rfl;rw[e1,e2];exact A8 _ rfl
    ·have e:b=(s1.heap.push { cls:=.type "range",data:=.fields #[.int i t,.int j t',.int 1 s1.toks] }).objs.size:=by simpa using hb
     subst e;exact I2.fpOk (B3 _) (I2.hok.fresh (B3 _))
def Aa(tl:TE):TI:=λ σ H R=>tl σ H λ x H1=>∃a kvs,x=.ref a/\((H1 a=some (.dT kvs)/\∀ob,R (Itd a ob kvs) (upd H1 a (.frz ob (.dT kvs))))\/∃ob,H1 a=some (.frz ob (.dT kvs))/\R (Itd a ob kvs) H1)
theorem vG{l:Expr}{tl:TE}(hl:PE X l tl):PI X tg l (Aa tl):=by
 intro Mq s σ H R I h;refine thn (hl Mq s σ H _ I h) λ v s1 %[x,H1,I1,r1|q1]=>?_;obtain⟨a,kvs,e,q⟩:=q1;subst e;cases r1;rcases q with⟨hH,q⟩ | ⟨ob,hH,q⟩
 ·obtain⟨hz,hs,xs,pr,o,es,ep,h1,h2,h3,h4,h5⟩:=(show ObjOk X.prog X.w H1 s1.heap a (.dT kvs)from I1.hok a _ hH)
  have hn:es.size=kvs.length:=by rw[fA pr,<- LP,h4,B4]
  have I2:Inv X Mq σ (upd H1 a (.frz o (.dT kvs))) s1:=by
   have:=I1.write (x:=a) (e:=a) (o:=.frz o (.dT kvs)) (h':=s1.heap) (t':=s1.toks) (by rw[hH];trivial) (.inl rfl) (λ b u _ e=>e) %[o|h1] %[h1,hz,hs,xs,?_,o,es,ep,h1,h2,h3,h4|h5]
   ·exact this
   ·refine rf pr λ p q %[e1,e2|e3]=>%[e1,?_|e3]
    rw[aj (λ z=>by rw[z,hH]at e2;cases e2)];exact e2
  refine bu hs %[o,h1,h2|h3] ?_;refine%[s1.heap.objs.size,[s1.heap.objs.size],_,_,_,O,I2.kept (t':=s1.toks) λ b o e=>A7 _ e,fP a _ o kvs es ep h2 h3 hn,%[_,A8 _ rfl,O|O],λ b hb=>?_|q o];have e:b=s1.heap.objs.size:=by simpa using hb
  subst e;exact I2.fpOk (B3 _) (I2.hok.fresh (B3 _))
 ·obtain⟨h0,hz,hs,xs,pr,o,es,ep,h1,h2,h3,h4,h5⟩:=(show ObjOk X.prog X.w H1 s1.heap a (.frz ob (.dT kvs))from I1.hok a _ hH)
  rw[h0]at h1;cases h1;have hn:es.size=kvs.length:=by rw[fA pr,<- LP,h4,B4]
  refine bu hs %[ob,h0,h2|h3] ?_;refine%[s1.heap.objs.size,[s1.heap.objs.size],_,_,_,O,I1.kept (t':=s1.toks) λ b o e=>A7 _ e,fP a _ ob kvs es ep h2 h3 hn,%[_,A8 _ rfl,O|O],λ b hb=>?_|q];have e:b=s1.heap.objs.size:=by simpa using hb
  subst e;exact I1.fpOk (B3 _) (I1.hok.fresh (B3 _))
end
theorem sL{a:Mi}{ob:Obj}{kvs:Mo (Mo Key×V)}{σ:St}{cap:Mo Nat}{k:Nat}{g:TG}{tt:TT}{te:TE}{Q:Mo V->Hp->Prop}{H:Hp}(Pv:Nat->Mo V->Hp->Prop)(h0:Pv 0 [] H)
  (hl:∀i ys H',i<=kvs.length->Pv i ys H'->H' a=some (.frz ob (.dT kvs)))
  (ht:∀i kk v q ys H',kvs[i]?=some (kk,v)->H' q= ~~~(kk.map kV)->Pv i ys H'->g (.ref q) (aV σ cap k) H' λ σ2 H2=>leS (aV σ cap k) σ2/\tt σ2 H2 λ ok H3=>if ok=true then te σ2 H3 (λ v H4=>Nx kvs.length Pv i (ys ++ [v]) H4)else Nx kvs.length Pv i ys H3)
  (hz:∀i ys H',i < kvs.length->Pv i ys H'->ys.length < sizeLine) (hd:∀ys H',Pv kvs.length ys H'->ys.length<=sizeLine/\Q ys H'):∃W,(∃m,W 0 m [] H)/\eE σ cap k (Itd a ob kvs) g tt te Q W:=by
 refine%[λ i m ys H'=>m=kvs.length - i/\i<=kvs.length/\Pv i ys H',%[_,O,E8 _|h0]|?_];rintro i m ys H' ⟨rfl,hi,p⟩;have q:=hl i ys H' hi p
 by_cases hin:i < kvs.length
 ·refine .inr %[%[hin|q],hz i ys H' hin p|λ x H2 yl=>?_];obtain⟨e,qa,k',v',e1,e2,e3⟩:=yl;subst e e2;exact ht i k' v' qa ys _ e1 e3 p
 ·have e:i=kvs.length:=⋯
  subst e;obtain⟨a1,a2⟩:=hd ys H' p;exact .inl %[%[O|q],a1|a2]
end L2
namespace PySem
open Sem (wp)
section
variable{prog:F8}{w:G0}{A:Around}{E:G1->F7->Prop}{s:F7}
theorem fu{v d:Mi}{es:Mm DictEntry}{ep:Nat}{Q:G1->F7->Prop}(hv:s.heap.IsItemsView v d)(hm:(∃o,s.heap.get? d=some o/\o.ExactDict/\o.data=.dict es ep))
  (hQ:Q (.ref s.heap.objs.size) { s with heap:=s.heap.push { cls:=.type "dict_itemiterator",data:=.fields #[.none,.bool false,.ref d,.int 0 0,.int es.size 0,.int ep 0,.none,.none] } }) :
  wpAny (model prog w) A (pyIter (.ref v)) Q E s:=by
 obtain⟨ov,hov,hcv,hdv⟩:=id hv;obtain⟨o,ho,hc,hdat⟩:=id hm;refine wpAny_pyIter_slot hv.typeIs F.slot_dict_items_iter (F4 F.slot_dict_items_iter hv.typeIs F.entry_dict_items_iter ?_ (F.args_dict_items_iter_1 _));unfold Builtin.«dict_items.__iter__»;refine A0 (A2 ?_);refine A0 ?_;unfold Builtin.Dict_items.dictOf;refine A0 (M5 hov hdv (x:=.ref d) rfl (A2 ?_));refine A0 ?_;unfold Builtin.Dict_items.newIterator;refine A0 (M9 ho hdat ?_);refine A0 (NT ho hdat ?_);have hsz:es.size=es.size:=rfl;have hown:Builtin.Dict_items.ownsTuple "dict_itemiterator" = true:=∅
 simp only[hown,Nj];refine F5 (A2 %[_,rfl,"dict_itemiterator",_,%[_,A8 _ rfl|rfl],F.slot_dict_itemiterator_next.lookup|?_])
  (by simp only[sizeOk,Builtin.Dict_items.ownedTupleFields,J6,J5,J4,MZ,sizeLine_eq];omega)
 simpa[rawInt,hsz,Builtin.Dict_items.ownedTupleFields]using hQ
theorem dw{it d:Mi}{i ep:Nat}{es:Mm DictEntry}{en:DictEntry}{ok ov:G1}{Q:Ml G1->F7->Prop}(hit:IsItemIter s.heap it d i es.size ep ok ov)
  (hm:(∃o,s.heap.get? d=some o/\o.ExactDict/\o.data=.dict es ep)) (hx:es[i]?=some en)
  (hQ:∀h',IsItemIterOut h' it d (i+1) es.size ep en.key en.val s.heap.objs.size ->
   h'.get? s.heap.objs.size=some { cls:=.type "tuple",data:=.seq #[en.key,en.val] }->h'.objs.size=s.heap.objs.size+1 ->
   (∀b o,b≠it->s.heap.get? b=some o->h'.get? b=some o)->Q (↑s.heap.objs.size) { s with heap:=h' }) :
  wpAny (model prog w) A (pyNext (.ref it)) Q E s:=by
 obtain⟨hp,g,dr,tk,os⟩:=s;obtain⟨od,hod,hcd,hdd⟩:=id hm;have hT:Shared.TypeIs %[hp,g,dr,tk|os] (.ref it) "dict_itemiterator" := %[_,hit|O]
 unfold pyNext;refine A0 (Nc (wpAny_callSpecial?_slot (name:=Str.ofString "__next__") hT NQ
  (F4 NQ hT F.entry_dict_itemiterator_next ?_ (F.args_dict_itemiterator_next_1 _))))
 refine A0 (A2 ?_);refine A0 ?_;refine A0 ?_
 first | refine A0 (NL hT (A2 ?_)) | refine A0 (wpAny_typeNameOf_itemiter hT (A2 ?_))
 refine A0 (wpAny_fieldsOf hit rfl ?_);have hown:Builtin.Dict_items.ownsTuple "dict_itemiterator" = true:=∅
 simp only[hown,Nj];show wpAny _ _ (if (Value.ref d == Value.none)=true then _ else _) _ _ _;rw[Mu (show¬ ((Value.ref d == Value.none)=true)from B2)];refine A0 (A2 ?_);refine A0 (M9 hod hdd ?_);have hsz:es.size=es.size:=rfl;rw[Mu (by simp)];refine A0 (A2 ?_);refine A0 (NT hod hdd ?_);rw[Mu (by simp)];refine A2 ?_;have hlt:i < es.size:=by
  rcases Md i es.size with h | h
  ·exact h
  ·rw[LK h]at hx;cases hx
 have hlt':i < es.size:=hlt;have hkey:es[i]=en:=by rw[K9 hlt']at hx;exact B9 hx
 subst hkey;simp only[show¬ ((i:Int) < 0)from by omega,NK,LS,K9 hlt'];refine A0 ?_
 first | refine A0 (NL hT (A2 ?_)) | refine A0 (wpAny_typeNameOf_itemiter hT (A2 ?_))
 refine A0 (wpAny_isOneOf_itemiter hT ?_);show wpAny _ _ (setField (.ref it) 3 (rawInt ((i:Int)+1)) >>= _) _ _ %[hp,g,dr,tk|os];refine A0 (NC hit (by simp) λ h₁ he₁ hs₁=>?_)
 replace hs₁:Heap.SameBut it hp h₁:=hs₁
 replace he₁:IsItemIter h₁ it d (i+1) es.size ep ok ov:=by
  have e:((i+1:Nat):Int)=(i:Int)+1:=⋯
  unfold IsItemIter;rw[e];simpa[rawInt]using he₁
 have hT₁:Shared.TypeIs %[h₁,g,dr,tk|os] (.ref it) "dict_itemiterator" := %[_,he₁|O]
 refine A0 (M3 ?_);refine A0 (wpAny_isOneOf_itemiter hT₁ ?_);refine A0 (wpAny_isOneOf_itemiter hT₁ ?_);show wpAny _ _ (Builtin.Dict_items.pairFromOwner (.ref it) 6 es[i].key es[i].val) _ _ %[h₁,g,dr,tk|os];unfold Builtin.Dict_items.pairFromOwner;refine A0 (wpAny_newTuple ?_);have he₂:IsItemIter (h₁.push { cls:=.type "tuple",data:=.seq #[es[i].key,es[i].val] }) it d (i+1) es.size ep ok ov:=A7 _ he₁;generalize hh₂:h₁.push { cls:=.type "tuple",data:=.seq #[es[i].key,es[i].val] }=h₂ at he₂;have hz₁:h₁.objs.size=hp.objs.size:=hs₁.1;have hil:it < hp.objs.size:=A9 hit;have ht₂:h₂.get? hp.objs.size=some { cls:=.type "tuple",data:=.seq #[es[i].key,es[i].val] }:=by rw[<- hh₂,<- hz₁];exact A8 _ rfl
 have hz₂:h₂.objs.size=hp.objs.size+1:=by rw[<- hh₂,M6,hz₁]
 have hk₂:∀b o,b≠it->hp.get? b=some o->h₂.get? b=some o:=λ b o hb e=>by rw[<- hh₂];exact A7 _ (hs₁.extBut b o hb e)
 show wpAny _ _ (Builtin.Dict_items.ownedTupleIsFree (.ref it) >>= _) _ _ %[h₂,g,dr,tk|os];rw[hz₁];clear hh₂ he₁ hs₁ hT₁ hz₁ h₁;refine A0 ?_;unfold Builtin.Dict_items.ownedTupleIsFree;refine A0 (M5 he₂ rfl (x:=.none) rfl (A2 ?_));simp only[Nj];refine A0 (M5 he₂ rfl (x:=ok) rfl ?_);refine A0 (M5 he₂ rfl (x:=ov) rfl ?_);refine A0 (NC he₂ (by simp) λ h₃ he₃ hs₃=>?_)
 replace hs₃:Heap.SameBut it h₂ h₃:=hs₃
 replace he₃:IsItemIter h₃ it d (i+1) es.size ep es[i].key ov:=he₃
 refine A0 (NC he₃ (by simp) λ h₄ he₄ hs₄=>?_)
 replace hs₄:Heap.SameBut it h₃ h₄:=hs₄
 replace he₄:IsItemIter h₄ it d (i+1) es.size ep es[i].key es[i].val:=he₄
 refine A0 (NC he₄ (by simp) λ h₅ he₅ hs₅=>?_)
 replace hs₅:Heap.SameBut it h₄ h₅:=hs₅
 replace he₅:IsItemIterOut h₅ it d (i+1) es.size ep es[i].key es[i].val hp.objs.size:=he₅
 refine A0 (NC he₅ (by simp) λ h₆ he₆ hs₆=>?_)
 replace hs₆:Heap.SameBut it h₅ h₆:=hs₆
 replace he₆:IsItemIterOut h₆ it d (i+1) es.size ep es[i].key es[i].val hp.objs.size:=he₆
 refine A0 (wpAny_letGo (A2 (A2 %[_,rfl|A2 (hQ h₆ he₆ ?_ ?_ ?_)])))
 ·exact hs₆.extBut _ _ (LJ hil) (hs₅.extBut _ _ (LJ hil) (hs₄.extBut _ _ (LJ hil) (hs₃.extBut _ _ (LJ hil) ht₂)))
 ·show h₆.objs.size=hp.objs.size+1;rw[hs₆.1,hs₅.1,hs₄.1,hs₃.1,hz₂]
 ·exactλ b o hb e=>hs₆.extBut b o hb (hs₅.extBut b o hb (hs₄.extBut b o hb (hs₃.extBut b o hb (hk₂ b o hb e))))
theorem dJ{it d:Mi}{i ep:Nat}{es:Mm DictEntry}{ok ov:G1}{Q:Ml G1->F7->Prop}(hh:A.handled=none)(hit:IsItemIter s.heap it d i es.size ep ok ov)
  (hm:(∃o,s.heap.get? d=some o/\o.ExactDict/\o.data=.dict es ep)) (hx:es[i]?=none)
  (hQ:∀h',Heap.ExtBut it s.heap h'->Q none { s with heap:=h' }):wpAny (model prog w) A (pyNext (.ref it)) Q E s:=by
 obtain⟨od,hod,hcd,hdd⟩:=id hm;have hT:s.TypeIs (.ref it) "dict_itemiterator" := %[_,hit|O]
 unfold pyNext;refine A0 (Nc (wpAny_callSpecial?_slot (name:=Str.ofString "__next__") hT NQ
  (F4 NQ hT F.entry_dict_itemiterator_next ?_ (F.args_dict_itemiterator_next_1 _))))
 refine A0 (A2 ?_);refine A0 ?_;refine A0 ?_
 first | refine A0 (NL hT (A2 ?_)) | refine A0 (wpAny_typeNameOf_itemiter hT (A2 ?_))
 refine A0 (wpAny_fieldsOf hit rfl ?_);have hown:Builtin.Dict_items.ownsTuple "dict_itemiterator" = true:=∅
 simp only[hown,Nj];show wpAny _ _ (if (Value.ref d == Value.none)=true then _ else _) _ _ s;rw[Mu (show¬ ((Value.ref d == Value.none)=true)from B2)];refine A0 (A2 ?_);refine A0 (M9 hod hdd ?_);have hsz:es.size=es.size:=rfl;rw[Mu (by simp)];refine A0 (A2 ?_);refine A0 (NT hod hdd ?_);rw[Mu (by simp)];refine A2 ?_;have hge:es.size<=i:=by simpa using hx
 simp only[show¬ ((i:Int) < 0)from by omega,NK,LS,LK hge];refine A0 ?_
 first | refine A0 (NL hT (A2 ?_)) | refine A0 (wpAny_typeNameOf_itemiter hT (A2 ?_))
 show wpAny _ _ (setField (.ref it) 2 .none >>= _) _ _ s;refine A0 (NH hit rfl (by simp) ?_);show wpAny _ _ (newExc (.type "StopIteration") [] >>= _) _ _ _;refine A0 ?_;simp only[newExc,newTuple];refine A0 (F5 ?_ (by size_fits));refine A0 (m:=firstArgMember _ _) (wpAny_of_eq (a:=Value.none) (by first | rfl | (simp only[firstArgMember];rfl)) ?_);refine F5 ?_ (by size_fits);simp only[raiseNew];refine A0 (wpAny_handled ?_);rw[show A.in1.handled=none from hh];refine A0 (A2 (wpAny_throw ?_));refine A0 (Nh (T := "StopIteration") (b:=true) %[_,A8 _ rfl|rfl] isSubtype_stop ?_);exact A2 (hQ _ (((NA ..).extBut.push _).push _))
theorem jy:entryFor table "dict_itemiterator.__iter__" = some Builtin.«dict_keyiterator.__iter__» :=
 entryFor_alias (id' := "dict_keyiterator.__iter__") (by kernel_rfl) rfl ∅ (by kernel_rfl)
theorem ee{it d:Mi}{i n ep:Nat}{ok ov:G1}{Q:G1->F7->Prop}(hit:IsItemIter s.heap it d i n ep ok ov)(h:Q (.ref it) s):wpAny (model prog w) A (pyIter (.ref it)) Q E s:=by
 have hT:s.TypeIs (.ref it) "dict_itemiterator" := %[_,hit|O]
 refine wpAny_pyIter_slot hT F.slot_dict_itemiterator_iter (F4 F.slot_dict_itemiterator_iter hT jy ?_ (F.args_dict_itemiterator_iter_1 _));show wpAny _ _ (ret (.ref it)) _ _ s;exact A2 %[_,rfl,"dict_itemiterator",_,hT,F.slot_dict_itemiterator_next.lookup|h]
theorem Ab{d:Mi}{o:Obj}{Q:G1->F7->Prop}(ho:s.heap.get? d=some o)(hc:o.ExactDict)(hz:(d == sysModules)=false)(h:Q (.ref s.heap.objs.size) { s with heap:=s.heap.push { cls:=.type "dict_items",data:=.fields #[.ref d] } }) :
  wpAny (model prog w) A (call (.builtin "dict.items") [.ref d]) Q E s:=by
 have ty:s.TypeIs (.ref d) "dict" := %[o,ho|hc.1]
 refine call_meetsIn (S:=λ _ R s'=>s'=s/\R (.ok (.ret (.ref s.heap.objs.size))) { s with heap:=s.heap.push { cls:=.type "dict_items",data:=.fields #[.ref d] } }) PySem.F.slot_dict_items ty PySem.F.entry_dict_items (PySem.F.args_dict_items_1 _) (.of_wp λ A R s' %[e|h]=>?_) %[rfl|h];subst e;unfold Builtin.«dict.items»;refine A0 ?_;unfold Builtin.Dict.noArgs;refine A0 (wpAny_notOrdered_dict ty ?_);show wpAny _ _ (pure d) _ _ s';refine A2 ?_;show wpAny _ _ (Builtin.Dict.showsAll d >>= _) _ _ s';unfold Builtin.Dict.showsAll;rw[Mu (by rw[hz];exact B2)];refine A0 (A2 ?_);exact A0 (F5 (A2 %[_,rfl|h]))
end
end PySem
namespace L2
open PySem PySem.Spec PyProof.Rows
def Iti(a:Mi)(ob:Obj)(kvs:Mo (Mo Key×V)):It :=
 %[λ i H=>i < kvs.length/\H a=some (.frz ob (.dT kvs)),λ i H x H'=>∃p q k v,kvs[i]?=some (k,v)/\H p=none/\H q= ~~~(k.map kV)/\x=.ref p/\H'=upd H p (.tup [.ref q,v])|λ i H=>i=kvs.length/\H a=some (.frz ob (.dT kvs))]
theorem oS{P:F8}{w:G0}{K:C6}{el:Mo Expr}{kk:Nat}{tp:Pos}(a it:Mi)(ob:Obj)(kvs:Mo (Mo Key×V))(es:Mm DictEntry)(ep:Nat)(hx:ob.ExactDict)(hd:ob.data=.dict es ep)(hn:es.size=kvs.length) :
  Turn P w K (.Tuple el kk tp) (Iti a ob kvs) [it] it (λ i h=>∃ok ov,IsItemIter h it a i es.size ep ok ov) where
 mem:=by simp
 obj:=λ i h st b hb=>by
  have e:b=it:=by simpa using hb
  subst e;obtain⟨ok,ov,st⟩:=st;exact%[_,st|λ v z=>by cases z]
 keep:=λ i h h' ⟨ok,ov,st⟩ k=>%[ok,ov|k it (by simp) _ st]
 item:=by
  intro X hP hw hK hc i Mq s σ H E I hf st hg;subst hP hw hK;obtain⟨hi,hH⟩:=hg;obtain⟨ok,ov,st⟩:=st;obtain⟨h1,_,_,xs,pr,o,es',ep',h2,_,h3,h4,_⟩:=(show ObjOk X.prog X.w H s.heap a (.frz ob (.dT kvs))from I.hok a _ hH)
  rw[h1]at h2;cases h2;rw[hd]at h3;cases h3;have hk:kvs[i]?=some kvs[i]:=F2 hi;obtain⟨⟨k',q,v'⟩,hy,e1,e2,e3⟩:=iD pr hk;have hen:es[i]?=some (entryOfKey (tupleKind (aO X.prog X.w)) (k',q,v')):=by rw[<- LX,h4,G8,hy];rfl
  have il:it < s.heap.objs.size:=A9 st;refine dw st %[ob,h1,hx|hd] hen λ h' b1 b2 b3 bk=>%[_,O|?_]
  refine wpAny_letOwnedTupleGo_items (s:={ s with heap:=h' }) b1 λ h'' c1 cs=>?_;have cs:Heap.SameBut it h' h'':=cs;have k2:∀b o,b∉[it]->s.heap.get? b=some o->h''.get? b=some o:=λ b o hb q=>by
   have hb:b≠it:=by simpa using hb
   exact cs.extBut b o hb (bk b o hb q)
  have I1:Inv X Mq σ H { s with heap:=h'' }:=I.turnedN (t':=s.toks) hf k2;have hp:=cs.extBut _ _ (LJ il) b2;have hn0:H s.heap.objs.size=none:=I.hok.fresh (B3 _);have fpk:=I.fpOk (H':=H) (B3 _) hn0;have I2:Inv X Mq σ (upd H s.heap.objs.size (.tup [.ref q,kvs[i].2])) { s with heap:=h'' }:=I1.track fpk I.sz %[by show 2<=sizeLine;decide,[.ref q,v'],.cons rfl (.cons e3 .nil),_,hp,O,_|O];refine%[.ref s.heap.objs.size,_,I2,O,%[_,q,_,_,hk,hn0,e2,O|O],%[_,_|c1]|λ b hb=>?_];have e:b=it:=by simpa using hb
  subst e;rw[aj (C0 il)];exact(hf b hb).1
 done:=by
  intro X hP hw hK hc i Mq s σ H E I hf st hg;subst hP hw hK;obtain⟨hi,hH⟩:=hg;obtain⟨ok,ov,st⟩:=st;obtain⟨h1,_⟩:=(show ObjOk X.prog X.w H s.heap a (.frz ob (.dT kvs))from I.hok a _ hH)
  obtain⟨f0,f1,f2,f3,f4,f5⟩:=hf it (by simp);exact dJ (I.ok.hd hc) st %[ob,h1,hx|hd] (by rw[LK];omega) λ h' eb=>%[O|I.turned (t':=s.toks) (λ b o hb e=>eb b o hb e) f0 f1 f3 f4 f5]
 self:=λ A i s Q E ⟨ok,ov,st⟩ h=>ee st h
section
variable{X:Cx}
def Ac(tl:TE):TI:=λ σ H R=>tl σ H λ x H1=>∃a kvs,x=.ref a/\H1 a=some (.dT kvs)/\∀ob,R (Iti a ob kvs) (upd H1 a (.frz ob (.dT kvs)))
theorem nr{l:Expr}{tl:TE}{apos cpos tp:Pos}{el:Mo Expr}{kk:Nat}(hl:PE X l tl)
  (hbase:attributeBase l "items" X.env (eval l X.env)=eval l X.env:=by rfl) (hline:(apos.endLine == cpos.line)=true:=by rfl):PI X (.Tuple el kk tp) (.Call (.Attribute l "items" apos) [] [] cpos) (Ac tl):=by
 intro Mq s σ H R I h;refine wpAny_Call_method0_late hbase hline (thn (hl Mq s σ H _ I h) λ v s1 %[x,H1,I1,r1,a,kvs,e,hH|q]=>?_);subst e;cases r1;obtain⟨hz,hs,xs,pr,o,es,ep,h1,h2,h3,h4,h5⟩:=(show ObjOk X.prog X.w H1 s1.heap a (.dT kvs)from I1.hok a _ hH)
 have hn:es.size=kvs.length:=by rw[fA pr,<- LP,h4,B4]
 have I2:Inv X Mq σ (upd H1 a (.frz o (.dT kvs))) s1:=by
  have:=I1.write (x:=a) (e:=a) (o:=.frz o (.dT kvs)) (h':=s1.heap) (t':=s1.toks) (by rw[hH];trivial) (.inl rfl) (λ b u _ e=>e) %[o|h1] %[h1,hz,hs,xs,?_,o,es,ep,h1,h2,h3,h4|h5]
  ·exact this
  ·refine rf pr λ p q %[e1,e2|e3]=>%[e1,?_|e3]
   rw[aj (λ z=>by rw[z,hH]at e2;cases e2)];exact e2
 refine⟨"dict","dict.items",PySem.F.plainAttrs_dict,PySem.F.slot_dict_items,PySem.F.type_dict_items,%[o,h1|h2.1],(λ b e2=>by cases e2;exact%[o,h1|h2.2.1]),Calls.callWith_builtin rfl (PySem.evalArgs_none (Ab h1 h2 hs ?_))⟩;have h1':(s1.heap.push { cls:=.type "dict_items",data:=.fields #[.ref a] }).get? a=some o:=A7 _ h1;refine fu (d:=a) (es:=es) (ep:=ep) %[_,A8 _ rfl,rfl|rfl] %[o,h1',h2|h3] ?_;refine%[_,[_],_,_,_,O,I2.kept (t':=s1.toks) λ b o e=>A7 _ (A7 _ e),oS a _ o kvs es ep h2 h3 hn,%[_,_|A8 _ rfl],λ b hb=>?_|q o];have e:b=(s1.heap.push { cls:=.type "dict_items",data:=.fields #[.ref a] }).objs.size:=by simpa using hb
 have hb':s1.heap.objs.size<=b:=by rw[e,M6];omega
 exact I2.fpOk hb' (I2.hok.fresh hb')
end
section
variable{P:F8}{w:G0}{K:C6}{mg:Str->Ml G1}{base:Heap}
theorem FnOk.weak{k:Nat}{f:Mi}{fd:F9}{ps:Mo Str}{sp:Sp}(F:FnOk P w K mg base CX0 k f fd ps sp):FnOk P w K mg base (CXx P w) k f fd ps sp :=
 ⟨F.len,λ A outer s H args us vs Q E hr he hb hv hs=>Nk (F.run A outer s H args us vs Q E hr he hb hv hs) λ r s' h=>by
  cases r with
  | ok r=>cases r <;> exact h
  | error e=>exact E7 h⟩
theorem FnOk.or{CX:CXT}{k:Nat}{f:Mi}{fd:F9}{ps:Mo Str}{sp sp':Sp}(F:FnOk P w K mg base CX k f fd ps sp)(G:FnOk P w K mg base CX k f fd ps sp'):FnOk P w K mg base CX k f fd ps (λ vs H Q E=>sp vs H Q E\/sp' vs H Q E) :=
 %[λ vs H Q E h=>h.elim (F.len vs H Q E) (G.len vs H Q E)|λ A outer s H args us vs Q E hr he hb hv hs=>hs.elim (F.run A outer s H args us vs Q E hr he hb hv) (G.run A outer s H args us vs Q E hr he hb hv)]
variable{N:Mo Str}{qual:Str}{scope:Scope}{f:Mi}{cd:G1}{A:Around}{outer:Mo Env}{s₀:F7}{H₀:Hp}{E:XK}
theorem iP{e:Expr}{tx:TX}(he:PEx (ft (CXx P w) P w K mg base N qual scope f cd A outer s₀ H₀ E) e tx):PE (ft (CXx P w) P w K mg base N qual scope f cd A outer s₀ H₀ E) e (λ σ H Q=>tx σ H Q E) :=
 λ Mq s σ H Q I h=>Mz (he Mq s σ H Q E I h) (λ _ _ z=>z) λ v s1 hx=>xP hx
end
theorem sM{f:Mo V->HO}(hf:∀xs ys,f xs=f ys->xs=ys){l:Mi}{xs:Mo V}{σ:St}{cap:Mo Nat}{k:Nat}{g:TG}{tt:TT}{te:TE}{Q:Mo V->Hp->Prop}{H:Hp}(Pv:Nat->Mo V->Hp->Prop)
  (hk:∀i zs H',Pv i zs H'->H' l=some (f xs)) (h0:Pv 0 [] H)
  (hz:∀i zs H',i < xs.length->Pv i zs H'->zs.length < sizeLine)
  (ht:∀i x p zs H',xs[i]?=some x->H' p=none->Pv i zs H'->g (.ref p) (aV σ cap k) (upd H' p (.tup [.int i,x])) λ σ2 H2=>leS (aV σ cap k) σ2/\tt σ2 H2 λ ok H3=>if ok=true then te σ2 H3 (λ v H4=>Nx xs.length Pv i (zs ++ [v]) H4)else Nx xs.length Pv i zs H3)
  (hd:∀zs H',Pv xs.length zs H'->zs.length<=sizeLine/\Q zs H'):∃W,(∃m,W 0 m [] H)/\eE σ cap k (Ite f l) g tt te Q W:=by
 refine%[λ i m zs H'=>m=xs.length - i/\i<=xs.length/\Pv i zs H',%[_,O,E8 _|h0]|?_];rintro i m zs H' ⟨rfl,hi,p⟩;have e1:=hk i zs H' p
 by_cases hlt:i < xs.length
 ·have hx:xs[i]?=some xs[i]:=by simp[hlt]
  refine .inr %[%[xs,_,e1|hx],hz i zs H' hlt p|λ v H2 yl=>?_]
  ·obtain⟨q,xs',x,hq,rfl,rfl,e1',ex⟩:=yl;rw[e1]at e1';have e2:=hf _ _ (B9 e1');subst e2;exact ht i x q zs H' ex hq p
 ·have e:i=xs.length:=⋯
  subst e;obtain⟨a1,a2⟩:=hd zs H' p;exact .inl %[%[xs,e1|B3 _],a1|a2]
end L2
namespace L2
open PySem PySem.Spec PyProof.Rows PySem.SeqAt
section
variable{X:Cx}
inductive rz_op_neN(K:C6)(x:V)(y:V)(H:Hp)(Q:VK):Prop
|mk(da db:_)(_:DatV K H x da)(_:DatV K H y db)(_:da.canLay0=true)(_:db.canLay0=true)(_:da.depth<=210)(_:Q (.bl (!PyData.eqv da db)) H)
theorem lT(hu:X.A.units+220 < cLine):OpR X (compareOp .NotEq) (rz_op_neN X.K):=by intro Mq s σ H x y v u Q I rx ry h;obtain⟨da,db,hx,hy,s1,s2,dz,q⟩:=h;obtain⟨as,ra⟩:=I.reads hx rx;obtain⟨bs,rb⟩:=I.reads hy ry;exact compareNe_reads ra rb s1 s2 (by have:min da.depth db.depth<=da.depth:=Nat.min_le_left _ _;omega) %[.bl _,H,I,rfl|q]
end
end L2
namespace PySem
open PySem.W
section
variable{prog:F8}{w:G0}{A:Around}{E:G1->F7->Prop}{s:F7}{d a:Mi}{K:Type}[DecidableEq K]{knd:HeapKind prog w K}{k:K}{xs:Mo (K×Mi×G1)}
theorem xQ{x:G1}{Q:G1->F7->Prop}(hu:knd.room A.in1)(hkey:knd.is s.heap k a)(hS:(d == sysModules)=false)(hm:s.heap.DictOfH knd d xs)(hsz:xs.length<=sizeLine)
  (h1:∀p,atKey xs k=some p->Q p.2 { s with toks:=s.toks+knd.draws k })
  (h2:atKey xs k=none->∀h',h'.DictOfH knd d (storedH xs k a x)->Heap.SameBut d s.heap h'->Q x { s with heap:=h',toks:=s.toks+knd.draws k }) :
  wpAny (model prog w) A (call (.builtin "dict.setdefault") [.ref d,.ref a,x]) Q E s:=by
 have ty:=hm.typeIs;refine call_meetsIn (S:=λ A' R s'=>A'=A/\s'=s/\(∀p,atKey xs k=some p->R (.ok (.ret p.2)) { s with toks:=s.toks+knd.draws k })/\(atKey xs k=none->∀h',h'.DictOfH knd d (storedH xs k a x)->Heap.SameBut d s.heap h'->R (.ok (.ret x)) { s with heap:=h',toks:=s.toks+knd.draws k })) NV ty PySem.F.entry_dict_setdefault (PySem.F.args_dict_setdefault_3 _ _ _) (.of_wp λ A' R s' %[e0,e,g1|g2]=>?_) %[rfl,rfl,λ p hp=>h1 p hp|λ hn h' a1 a2=>h2 hn h' a1 a2];subst e e0;obtain⟨o,es,ep,ho,hc,hd,he,his,hn⟩:=hm;unfold Builtin.«dict.setdefault»;refine A0 ?_;unfold Builtin.Dict.keyAndDefault;refine A0 (wpAny_notOrdered_dict ty ?_);show wpAny _ _ (pure (d,Value.ref a,some x)) _ _ s';refine A2 ?_;show wpAny _ _ (if (d == sysModules)=true then _ else(dictSetDefault d (.ref a) x >>= _)) _ _ s';rw[Mu (by rw[hS];exact B2)];refine A0 ?_;unfold dictSetDefault
 try with_reducible refine M3 ?_
 refine A0 (knd.pyHash hu hkey ?_);refine A0 (wpAny_dictFind_heap (s:={ s' with toks:=s'.toks+knd.draws k }) hu hkey ho hd he his hn ?_ ?_)
 ·intro hno;have hnot:k∉xs.map (·.1):=not_mem_keys_of_get hno;refine A0 (Ni (A0 (wpAny_updateDictKeys (hz:=by have e:=size_of_entries he;omega) (s:={ s' with toks:=s'.toks+knd.draws k }) ho hd (A2 (A2 ⟨x,rfl,g2 (atKey_none_of_get hno) _ ⟨_,_,ep+1,NB _ ho (Obj.isFreed_of_dict (Obj.data_mapDictKeys hd _)),
   hc.mapDictKeys _,Obj.data_mapDictKeys hd _,?_,?_,?_⟩ (NA ..)⟩)))))
  ·rw[storedH_new (atKey_none_of_get hno)];simp[he,entryOfKey]
  ·rw[storedH_new (atKey_none_of_get hno)];intro x hx;rcases C4.mp hx with hx | hx
   ·exact knd.keeps (his x hx) ho hd (NA ..)
   ·simp only[E2]at hx;subst hx;exact knd.keeps hkey ho hd (NA ..)
  ·rw[storedH_new (atKey_none_of_get hno)];rw[J3,MQ];refine%[hn,by simp|?_];intro x hx y hy;simp only[G9,LN,E2]at hy;subst hy;exactλ e=>hnot (e ▸ hx)
 ·intro j p hj;refine A0 (M9 (s:={ s' with toks:=s'.toks+knd.draws k }) ho hd ?_);rw[entry_at he j,hj];exact A0 (Ni (A2 (A2 %[p.2,rfl|g1 p (atKey_of_get hn hj)])))
end
end PySem
namespace L2
open PySem PySem.Spec PyProof.Rows
section
variable{X:Cx}
def vH:V->Mo V->Hp->VK->Prop:=λ x ys H Q=>∃(a b:Mi)(v:V)(kvs:Mo (Mo Key×V))(k:Mo Key),x=.ref a/\ys=[.ref b,v]/\H a=some (.dT kvs)/\H b= ~~~(k.map kV)/\kvs.length < sizeLine /\
 (∀v',cG kvs k=some v'->Q v' H)/\(cG kvs k=none->Q v (upd H a (.dT (dF kvs k v))))
theorem fQ(hu:X.A.units+1 < cLine):MtR X "dict.setdefault" vH:=by
 intro Mq s σ H x ys v us Q I rx rv h;obtain⟨a,b,v',kvs,k,rfl,rfl,hH,hb,hl,q1,q2⟩:=h;cases rx;obtain⟨u,us',rfl,ru,rv'⟩:∃u us',us=u :: us'/\RelV (.ref b) u/\Vals [v'] us':=by
  cases rv with
  | cons r1 r2=>exact%[_,_,O,r1|r2]
 obtain⟨u2,rfl,r2⟩:=rv'.one;cases ru;obtain⟨z,hd,xs,rel,dd⟩:=vq I.hok hH;have hz:xs.length<=sizeLine:=by rw[<- Paired.length rel];exact z
 have hlp:(dF kvs k v').length<=sizeLine:=by have:=eR kvs k v';omega
 have rv:=rel.val k;refine xQ (tupleKind_room_in1 hu) (eS I.hok hb) hd dd hz (λ p hp=>?_) (λ hn h' dd' hs=>?_)
 ·rw[hp]at rv;cases hv:cG kvs k with
  | none=>rw[hv]at rv;exact E7 rv
  | some y=>rw[hv]at rv;exact%[y,H,I.tok _,rv|q1 y hv]
 ·rw[hn]at rv;cases hv:cG kvs k with
  | some y=>rw[hv]at rv;exact E7 rv
  | none=>
   refine%[v',upd H a (.dT (dF kvs k v')),?_,r2|q2 hv];obtain⟨q,es,ep,hq,h2,h3,h4,_,h5⟩:=dd';refine lO I (by rw[hH];exact True.intro) hs %[q|hq] %[hlp,hd,_,(rel.put k hb r2).keeps λ c ys ec=>?_,q,es,ep,hq,h2,h3,h4|h5];rw[aj (yT ec hH (λ z=>nomatch z))];exact ec
end
end L2
namespace PySem
open PySem.W PyProof.Rows
section
variable{prog:F8}{w:G0}{A:Around}{E:G1->F7->Prop}{s:F7}{d:Mi}{es:Mm DictEntry}{ep:Nat}
def OKE(d:Mi)(es:Mm DictEntry)(ep:Nat)(h:Heap):Prop:=∃o,h.get? d=some o/\o.ExactDict/\o.data=.dict es ep
theorem Ad(hh:A.handled=none)(I d:Mi)(hne:d≠I)(es:Mm DictEntry)(ep:Nat) :
  Walks prog w A I [I,d] [I] es.size (λ i v=>∃en,es[i]?=some en/\en.key=v) (λ i h=>h.IsKeyIter I d i es.size ep/\OKE d es ep h) where
 sub:=λ b hb=>by simp at hb;simp[hb]
 frame:=λ _ _ _ st hk=>%[st.1.at λ o e=>hk I (by simp) o e|let ⟨o,e,x⟩:=st.2;%[o,hk d (by simp) o e|x]]
 item:=λ i s Q E hi st hQ=>by
  obtain⟨en,hx⟩:∃en,es[i]?=some en:=%[es[i]|K9 hi]
  refine bN st.1 st.2 hx λ h' hit' hs'=>?_;exact hQ en.key h' s.toks %[en,hx|O] %[hit'|let ⟨o,e,x⟩:=st.2;%[o,hs'.extBut d o hne e|x]] λ b o hb e=>hs'.extBut b o (λ h=>hb (by simp[h])) e
 done:=λ s Q E st hQ=>cf hh st.1 st.2 (LK (B3 _)) λ h' he'=>hQ h' s.toks λ b o hb e=>he' b o (λ h=>hb (by simp[h])) e
 self:=λ _ _ _ _ st hQ=>wpAny_pyIter_keyiter st.1 hQ
theorem Ew(lo:(d == sysModules)=false):KdlSrc prog w "dict" d d es.size (λ i v=>∃en,es[i]?=some en/\en.key=v) (OKE d es ep) where
 type:=λ _ ⟨o,e,c,_⟩=>%[o,e|c.1]
 there:=λ _ ⟨o,e,_⟩=>%[A9 e|A9 e]
 keep:=λ _ _ ⟨o,e,x⟩ hk=>%[o,hk d (.inl rfl) o e|x]
 notList:=∅
 notTuple:=∅
 hint:=λ _ _ _ _ ⟨o,e,c,_⟩ hq=>kdl_hint_dict %[o,e|c.1] hq
 iter:=λ _ _ hh hm=>%[_,_,(λ _ _ hq=>bu lo hm hq),Ad hh _ d (let ⟨_,e,_⟩:=hm;C0 (A9 e)) es ep|%[%[_,A8 _ rfl,O|O]|let ⟨o,e,x⟩:=hm;%[o,A7 _ e|x]]]
theorem vI{Q:Mo G1->F7->Prop}(lo:(d == sysModules)=false)(hh:A.handled=none)(hm:OKE d es ep s.heap)(hn:es.size<=sizeLine)
  (h:∀h' tk,(∀b o,s.heap.get? b=some o->h'.get? b=some o)->s.heap.objs.size<=h'.objs.size->Q (es.toList.map (·.key)) { s with heap:=h',toks:=tk }):wpAny (model prog w) A (collect (.ref d)) Q E s:=by
 unfold collect;refine A0 (wpAny_runValue (codeAny_builtin F.entry_proto_collect ?_));rw[Around.under_plainId F.plain_proto_collect _];show wpAny _ A.in1 (newList [] >>= λ l=>again (.builtin "list.__iadd__" %[[l,.ref d]|[]])) _ _ s;refine A0 (F5 ?_);refine A2 %[plainId_quiet F.plain_list_iadd _|codeAny_builtin F.entry_list_iadd ?_];rw[Around.under_plainId F.plain_list_iadd _];show wpAny _ A.in1 (Builtin.List.listExtendWith (.ref s.heap.objs.size) (.ref d) (.ref s.heap.objs.size)) _ _ { s with heap:=s.heap.push (seqObj "list" #[] 0) };have dl:d < s.heap.objs.size:=let ⟨_,e,_⟩:=hm;A9 e
 have hS:(s.heap.push (seqObj "list" #[] 0)).get? s.heap.objs.size=some (seqObj "list" #[] 0):=A8 _ rfl;refine kdl_extend (R:=λ r s'=>match r with
  | .ok (.ret v)=>wpAny (model prog w) A (match v with
   | .ref a=>do match (<- load a).data with
    | .seq xs _=>pure xs.toList
    | _=>unsupported "internal:collect"
   | _=>unsupported "internal:collect") Q E s'
  | .ok _=>False
  | .error e=>E e s') (s:={ s with heap:=s.heap.push (seqObj "list" #[] 0) }) (Ew lo) (by exact hh) (let ⟨o,e,x⟩:=hm;%[o,A7 _ e|x]) s.heap.objs.size (LJ dl) (LJ dl) (.ref s.heap.objs.size) 0 hS (λ h' tk acc' c' hk hS' hacc=>?_) hn
 have ea:acc'.toList=es.toList.map (·.key):=by
  refine List.ext_getElem? λ j=>?_;rw[G8,LX,LX]
  by_cases c:j < es.size
  ·have c2:j < acc'.size:=by rw[hacc.1];exact c
   obtain⟨en,e1,e2⟩:=hacc.2 j acc'[j] (K9 c2);rw[e1,K9 c2,<- e2]
   rfl
  ·rw[LK (by rw[hacc.1];omega),LK ⋯]
   rfl
 show wpAny (model prog w) A (do
   let o<-load s.heap.objs.size
   match o.data with
   | .seq xs _=>pure xs.toList
   | _=>unsupported "internal:collect") Q E { s with heap:=h',toks:=tk }
 refine A0 (wpAny_load hS' ?_);show wpAny _ _ (pure acc'.toList) Q E _;rw[ea];exact A2 (h h' tk (λ b o e=>hk b o (C0 (A9 e)) (A7 _ e)) (C9 (A9 hS')))
end
end PySem
namespace L2
open PySem PySem.Spec PyProof.Rows
theorem iE{α β:Type}(f:α->β){l l':Mo β}(h:l.Perm l'):∀xs:Mo α,l'=xs.map f->∃xs':Mo α,l=xs'.map f/\xs'.Perm xs:=by
 induction h with
 | nil=>intro xs e;cases xs with
  | nil=>exact%[[],O|.nil]
  | cons _ _=>cases e
 | cons x _ ih=>intro xs e;cases xs with
  | nil=>cases e
  | cons y ys=>
   rw[G9]at e;injection e with e1 e2
   obtain⟨xs',a,b⟩:=ih ys e2;exact%[y :: xs',by rw[G9,<- e1,<- a]|b.cons y]
 | swap x y l=>intro xs e;cases xs with
  | nil=>cases e
  | cons u us=>cases us with
   | nil=>injection e with _ e;cases e
   | cons v vs=>
    rw[G9,G9]at e;injection e with e1 e
    injection e with e2 e3
    exact%[v :: u :: vs,by rw[G9,G9,<- e1,<- e2,<- e3]|List.Perm.swap _ _ _]
 | trans _ _ i1 i2=>intro xs e;obtain⟨ys,a,b⟩:=i2 xs e;obtain⟨zs,c,d⟩:=i1 ys a;exact%[zs,c|d.trans b]
section
variable{X:Cx}
def jz(H:Hp)(sh:Mo Bool)(a:Mi):Mo Int:=match H a with
 | some (.tup vs)=>(gj sh vs).getD []
 | _=>[]
theorem xR{H:Hp}{sh:Mo Bool}{a:Mi}{vs:Mo V}{k:Mo Int}(h:H a= ~~~vs)(f:gj sh vs=some k):jz H sh a=k:=by unfold jz;rw[h];dsimp only;rw[f];rfl
end
abbrev Rw:=Mi×Mo Key×V
def kvR(Mr:Mo Rw):Mo (Mo Key×V):=Mr.map (·.2)
def RowD(Mr:Mo Rw)(xs:Mo (Mo Key×Mi×G1)):Prop:=Paired (λ (r:Rw)(x:Mo Key×Mi×G1)=>x.1=r.2.1/\x.2.1=r.1/\RelV r.2.2 x.2.2) Mr xs
theorem RowD.len{Mr:Mo Rw}{xs:Mo (Mo Key×Mi×G1)}(h:RowD Mr xs):Mr.length=xs.length:=E3 h
theorem RowD.keys{Mr:Mo Rw}{xs:Mo (Mo Key×Mi×G1)}(h:RowD Mr xs):xs.map (·.1)=Mr.map (·.2.1):=by
 unfold RowD at h
 induction h with
 | nil=>rfl
 | cons a _ ih=>rw[G9,G9,ih,a.1]
theorem RowD.nodup{Mr:Mo Rw}{xs:Mo (Mo Key×Mi×G1)}(h:RowD Mr xs)(n:(Mr.map (·.2.1)).Nodup):(xs.map (·.1)).Nodup:=by rw[h.keys];exact n
theorem RowD.of_mem{Mr:Mo Rw}{xs:Mo (Mo Key×Mi×G1)}(h:RowD Mr xs){x:Mo Key×Mi×G1}(hx:x∈xs):∃r∈Mr,x.1=r.2.1/\x.2.1=r.1:=by
 unfold RowD at h
 induction h with
 | nil=>cases hx
 | @cons r y rs ys a _ ih=>
  rcases G7.mp hx with rfl | hx
  ·exact%[r,B8,a.1|a.2.1]
  ·obtain⟨r',m,e⟩:=ih hx;exact%[r',B5 _ m|e]
theorem rg{α β:Type}{F:α->β->Prop}:∀{a c:Mo α}{b d:Mo β},Paired F a b->Paired F c d->Paired F (a ++ c) (b ++ d)
 | _,_,_,_,.nil,h=>h
 | _,_,_,_,.cons x r,h=>.cons x (rg r h)
theorem RowD.snoc{Mr:Mo Rw}{xs:Mo (Mo Key×Mi×G1)}(h:RowD Mr xs){b:Mi}{k:Mo Key}{v:V}{u:G1}(r:RelV v u):RowD (Mr ++ [(b,k,v)]) (xs ++ [(k,b,u)]):=rg h (.cons %[O,O|r] .nil)
theorem RowD.no{Mr:Mo Rw}{xs:Mo (Mo Key×Mi×G1)}(h:RowD Mr xs){k:Mo Key}(n:k∉Mr.map (·.2.1)):atKey xs k=none:=by refine atKey_none_of_get λ j p e=>n ?_;rw[<- h.keys];exact J0.mpr %[_,B6 e|O]
theorem RowD.kt{H:Hp}{D:Mi}{ob:HO}{Mr:Mo Rw}{xs:Mo (Mo Key×Mi×G1)}(h:RowD Mr xs)(kept:∀r∈Mr,H r.1= ~~~(r.2.1.map kV))(hD:H D=none):KT (upd H D ob) (kvR Mr) xs:=by
 unfold RowD at h
 induction h with
 | nil=>exact .nil
 | @cons r y rs ys a _ ih=>
  refine .cons %[a.1.symm,?_|a.2.2] (ih λ r hr=>kept r (B5 _ hr));have e:=kept r B8;rw[a.2.1,aj (ak e hD)];exact e
def rh(σ:St)(cap:Mo Nat)(k:Nat)(J:It)(g:TG)(tt:TT)(tk tv:TE)(Qf:Mo Rw->Hp->Prop)(W:Nat->Nat->Mo Rw->Hp->Prop):Prop:=∀i m Mr H,W i m Mr H->(∀r∈Mr,H r.1= ~~~(r.2.1.map kV)) /\
 ((J.stop i H/\Mr.length<=sizeLine/\Qf Mr H) \/
  (J.go i H/\Mr.length < sizeLine/\∀x H',J.yld i H x H'->g x (aV σ cap k) H' λ σ2 H2=>leS (aV σ cap k) σ2/\tt σ2 H2 λ ok H3=>
   if ok=true then tk σ2 H3 (λ kv H4=>tv σ2 H4 λ v H5=>∃b ks,kv=.ref b/\H5 b= ~~~(ks.map kV)/\ks∉Mr.map (·.2.1)/\∃m',m' < m/\W (i+1) m' (Mr ++ [(b,ks,v)]) H5)else∃m',m' < m/\W (i+1) m' Mr H3))
def Ex(P:F8)(w:G0)(Mr:Mo Rw)(o:Obj):Prop:=∃xs es ep,o.ExactDict/\o.data=.dict es ep/\es.toList=xs.map (entryOfKey (tupleKind (aO P w)))/\RowD Mr xs/\(Mr.map (·.2.1)).Nodup
section
variable{X:Cx}{Mq:Mo (Mi×Obj)}{σ:St}{H2:Hp}{s2:F7}{scope:Scope}{own cs:Mo Str}{cap:Mo Nat}{fp:Mo Mi}{it:Mi}{tn:Nat->Heap->Prop}
 {kx vx tg iter:Expr} {ifs:Mo Expr} {pos:Pos} {J:It} {g:TG} {tt:TT} {tk tv:TE} {E:G1->F7->Prop} {W:Nat->Nat->Mo Rw->Hp->Prop} {Qf:Mo Rw->Hp->Prop}
theorem sN{Y:Cx}{P5:Mo (Mi×Obj)}{σ:St}{D:Mi}(hx:Y.xe=λ _ _=>False)(hu:Y.A.units+1 < cLine)(hk:PE Y kx tk)(he:PE Y vx tv)(kept:∀i m Mr H,W i m Mr H->∀r∈Mr,H r.1= ~~~(r.2.1.map kV)) :
  qO Y P5 σ D (do
      let kv<-eval kx Y.env
      let vv<-holding [kv] (eval vx Y.env)
      standAt { kx.pos with endLine:=vx.pos.endLine,endCol:=vx.pos.endCol }
      holding [kv,vv] (dictSet D kv vv)) (Ex Y.prog Y.w) (λ ys=>ys.length < sizeLine)
   (λ i m Mr σ2 H3=>tk σ2 H3 (λ kv H4=>tv σ2 H4 λ v H5=>∃b ks,kv=.ref b/\H5 b= ~~~(ks.map kV)/\ks∉Mr.map (·.2.1)/\∃m',m' < m/\W (i+1) m' (Mr ++ [(b,ks,v)]) H5)) W:=by
 rintro i m Mr o σ3 H3 s3 Q5 hz hq le ⟨xs,es,ep,ex3,dt3,ee3,rv3,nd3⟩ fD I3 e3;have I3':Inv Y ((P5 ++ Q5) ++ [(D,o)]) σ3 H3 s3:=I3.pins_of λ p hp=>(C4.mp hp).elim (λ z=>I3.pin p (A5 _ z)) λ z=>by
  obtain rfl:p=_:=by simpa using z
  exact%[e3,fD.1,fD.2.1,fD.2.2.1|λ v z=>by rw[dt3]at z;cases z]
 refine A0 (Mz (hk _ s3 σ3 H3 _ I3' hq) (λ y s8 ⟨v,H8,I8,r8,q8⟩=>?_) λ _ _ z=>by rw[hx]at z;exact z.elim);refine A0 (M3 (Mz (he _ s8 σ3 H8 _ I8 q8) (λ y2 s9 ⟨v2,H9,I9,r9,bb,kk,ev,hb9,new,m',hm,w9⟩=>?_) λ _ _ z=>by rw[hx]at z;exact z.elim));subst ev;obtain rfl:y=Value.ref bb:=r8;have pD:=I9.pin (D,o) (A5 _ (A5 _ (E2.mpr rfl)));have his:∀x∈xs,(tupleKind (aO Y.prog Y.w)).is s9.heap x.1 x.2.1:=λ x hx=>by obtain⟨r,hr,e1,e2⟩:=rv3.of_mem hx;rw[e1,e2];exact eS I9.hok (kept _ _ _ _ w9 r (B7 _ hr))
 have hno:atKey xs kk=none:=rv3.no new;refine A0 (Nb (M3 (wpAny_dictSet_heap (hsz:=by rw[<- rv3.len];omega) (xs:=xs) (show Y.A.units < cLine from Nat.lt_of_succ_lt hu) (eS I9.hok hb9) %[o,es,ep,pD.1,ex3,dt3,ee3,his|rv3.nodup nd3] λ h9 dd sb9=>?_)));rw[storedH_new hno]at dd;obtain⟨o9,es9,ep9,hq9,ex9,dt9,ee9,_,nd9⟩:=dd;refine%[H9,Mr ++ [(bb,kk,v2)],o9,(I9.sub λ p hp=>B7 _ hp).turned (t':=_) (λ b o hb e=>sb9.extBut b o hb e) pD.2.1 fD.2.1 fD.2.2.2.1 fD.2.2.2.2.1 fD.2.2.2.2.2,hq9,%[_,es9,ep9,ex9,dt9,ee9,rv3.snoc r9|?_],pD.2.1,m',hm|w9];rw[J3,MQ];refine%[nd3,by simp|?_];intro x hx y hy;simp only[G9,LN,E2]at hy;subst hy;exactλ e=>new (e ▸ hx)
theorem sO{RR:G1->Mi->Result->F7->Prop}(I:Inv X Mq σ H2 s2)(ok:CompOk X scope own cs cap)(hc:X.calm=true)(hu:X.A.units+1 < cLine)(T:Turn X.prog X.w X.K tg J fp it tn)(st:tn 0 s2.heap)(hf:∀b∈fp,FpOk X Mq H2 b)
  (hg:∀C,PG (aF X Mq s2 H2 scope C (own ++ cs) fp) tg g) (hi:∀C,gc (aF X Mq s2 H2 scope C (own ++ cs) fp) ifs tt) (hk:∀C,PE (aF X Mq s2 H2 scope C (own ++ cs) fp) kx tk) (he:∀C,PE (aF X Mq s2 H2 scope C (own ++ cs) fp) vx tv)
  (w0:∃m,W 0 m [] H2) (turn:rh σ cap own.length J g tt tk tv Qf W)
  (hRR:∀D C s' ys H',H' D=none->(ys.length<=sizeLine/\Qf ys H'/\∀r∈ys,H' r.1= ~~~(r.2.1.map kV))->Inv X Mq σ (upd H' D (.dT (kvR ys))) s'->FpOk X Mq (upd H' D (.dT (kvR ys))) C->(∃m,s'.heap.Ns C m)->RR (.ref D) C (.ok .next) s') :
  wpAny (model X.prog X.w) X.A newDict (λ acc s₃=>wpAny (model X.prog X.w) X.A (newFunctionEnv scope X.env.globals (bv X.env scope.names []) [] X.env.qual none .none (some X.env)) (λ cenv s₄=>
   codeAny (model X.prog X.w) X.A (.compStart (.DictComp kx vx [%[tg,iter,ifs|0]] scope pos) 0 (.ref it) acc { cenv with scope:=relabel scope X.env }) (RR acc cenv.locals) s₄) E s₃) E s2:=by
 refine fJ (Acc:=Ex X.prog X.w) (Fin:=λ ys H=>ys.length<=sizeLine/\Qf ys H/\∀r∈ys,H r.1= ~~~(r.2.1.map kV)) (ho:=λ ys=>.dT (kvR ys)) I ok (λ C=>Turn.y (Y:=aF X Mq s2 H2 scope C (own ++ cs) fp) T hc) st hf rfl (λ h=>F5 h) codeAny_compStart_dict (λ Y D C s' R hY I0 hD hf' df st0 e0 hR=>?_)
  (λ hs ⟨xs,es,ep,a,b,c,d,e⟩ q n p=>%[by rw[kvR,B4];exact q.1,hs,xs,d.kt q.2.2 n,_,es,ep,p,a,b,c|d.nodup e]) hRR
 subst hY;have hb:=sN (Y:=aF X Mq s2 H2 scope C (own ++ cs) fp) (P5:=[]) (σ:=aV σ cap own.length) (W:=W) (D:=D) rfl hu (hk C) (he C) λ i m ys H w=>(turn i m ys H w).1;exact fe (ipos:=iter.pos) rfl (Turn.y (Y:=aF X Mq s2 H2 scope C (own ++ cs) fp) T hc) (hg C) (hi C) rfl rfl (by rintro _ _ ⟨_,_,_,_,e,_⟩ v z;rw[e]at z;cases z)
  (λ i m ys H w=>%[trivial|(turn i m ys H w).2.imp (λ h=>%[h.1,h.2.1,h.2.2|(turn i m ys H w).1]) id]) hb I0 hD hf' df st0 e0 %[[],#[],0,%[rfl,rfl|rfl],rfl,rfl,.nil|Mb] w0 hR
def Ae(wi:TI)(cap:Mo Nat)(k:Nat)(g:TG)(tt:TT)(tk tv:TE):TE:=λ σ H Q=>wi σ H λ J H1=>
 ∃W:Nat->Nat->Mo Rw->Hp->Prop,(∃m,W 0 m [] H1)/\rh σ cap k J g tt tk tv (λ Mr H'=>∀p,H' p=none->Q (.ref p) (upd H' p (.dT (kvR Mr)))) W
theorem nu{wi:TI}(hc:X.calm=true)(hu:X.A.units+1 < cLine)(hit:PI X tg iter wi)(ok:CompOk X scope own cs cap)
  (hg:∀Mq s2 H2 C fp,PG (aF X Mq s2 H2 scope C (own ++ cs) fp) tg g) (hi:∀Mq s2 H2 C fp,gc (aF X Mq s2 H2 scope C (own ++ cs) fp) ifs tt) (hk:∀Mq s2 H2 C fp,PE (aF X Mq s2 H2 scope C (own ++ cs) fp) kx tk) (he:∀Mq s2 H2 C fp,PE (aF X Mq s2 H2 scope C (own ++ cs) fp) vx tv)
  (hs:∀x,foldedSetIterable iter X.env x=pure x:=by intro _;rfl):PE X (.DictComp kx vx [%[tg,iter,ifs|0]] scope pos) (Ae wi cap own.length g tt tk tv):=by
 intro Mq s σ H Q I h;rw[arm_eval_DictComp];refine NM (use:=none) rfl hs (cN λ y hy e=>I.ok.has y.1 (ok.free y hy e)) ok.kind ok.names (thn (hit Mq s σ H _ I h) λ v s1 h1=>thn h1 λ itv s2 h2=>?_);obtain⟨it,fp,tn,J,H2,e,I2,T,st2,f2,W,w0,turn⟩:=h2;subst e;refine sO (RR:=λ acc C=>compPost (model X.prog X.w) X.A X.xe none (EP X Mq σ Q) acc C) I2 ok hc hu T st2 f2 (λ C=>hg _ _ _ _ _) (λ C=>hi _ _ _ _ _) (λ C=>hk _ _ _ _ _) (λ C=>he _ _ _ _ _) w0 turn λ D C s' ys H' hD %[_,q|_] I' fp' %[m|hn]=>?_;obtain⟨f0,f1,f2',f3,f4,f5⟩:=fp';exact%[m,hn|λ h' sb=>%[.ref D,_,I'.turned (t':=s'.toks) (λ b o hb e=>sb.extBut b o hb e) f0 f1 f3 f4 f5,O|q D hD]]
end
section
variable{X:Cx}
inductive rz_call_listT(xs:Mo V)(H:Hp)(Q:VK):Prop
|mk(a kvs:_)(_:xs=[V.ref a])(_:Rd H a (.dT kvs))(_:∀l as,H l=none->Paired (λ (b:Mi)(kv:Mo Key×V)=>H b= ~~~(kv.1.map kV)) as kvs->Q (.ref l) (upd H l (.lst (as.map V.ref))))
theorem jA(hc:X.calm=true):bW X (.type "list") (rz_call_listT):=by
 intro Mq s σ H xs us Q I r h;obtain⟨a,kvs,rfl,ha,q⟩:=h;obtain⟨u,rfl,ru⟩:=eD r;cases ru;obtain⟨hz,hs,ys,pr,o,es,ep,h1,h2,h3,h4,h5⟩:=(show ObjOk X.prog X.w H s.heap a (.dT kvs)from ha.ok I.hok)
 have yl:kvs.length=ys.length:=fA pr;have el:es.size=kvs.length:=by rw[yl,<- LP,h4,B4]
 refine PySem.W.kdl_call (Ew (d:=a) (es:=es) (ep:=ep) hs) (I.ok.hd hc) %[o,h1,h2|h3] ⋯ λ h' tk acc c hk hL hacc=>?_;have ea:acc.toList=(ys.map (·.2.1)).map Value.ref:=by
  refine List.ext_getElem? λ j=>?_;rw[G8,G8,LX]
  by_cases cc:j < es.size
  ·have c2:j < acc.size:=by rw[hacc.1];exact cc
   obtain⟨en,e1,e2⟩:=hacc.2 j acc[j] (K9 c2);rw[<- LX,h4,G8]at e1;cases ey:ys[j]? with
   | none=>rw[ey]at e1;cases e1
   | some y=>
    rw[ey]at e1;cases e1;rw[K9 c2,<- e2]
    rfl
  ·rw[LK (by rw[hacc.1];omega),MG ⋯]
   rfl
 have pk:Paired (λ (b:Mi)(kv:Mo Key×V)=>H b= ~~~(kv.1.map kV)) (ys.map (·.2.1)) kvs:=by
  clear ea hacc hL h4 yl el q h5 hz ha
  induction pr with
  | nil=>exact .nil
  | cons x _ ih=>exact .cons x.2.1 ih
 refine%[.ref s.heap.objs.size,_,I.laid (t':=tk) hk (B3 _) (show ObjOk X.prog X.w _ h' _ (.lst ((ys.map (·.2.1)).map V.ref))from%[by rw[B4,B4];omega,acc.toList,c,?_|by rw[Array.toArray_toList];exact hL]),O|q _ _ (I.hok.fresh (B3 _)) pk];rw[ea];exact hG _
end
def NxD(n:Nat)(Pv:Nat->Mo Rw->Hp->Prop)(i:Nat)(Mr:Mo Rw)(H:Hp):Prop:=∃m',m' < n - i/\m'=n - (i+1)/\i+1<=n/\Pv (i+1) Mr H
theorem NxD.of{n i:Nat}{Pv:Nat->Mo Rw->Hp->Prop}{Mr:Mo Rw}{H:Hp}(h:i < n)(p:Pv (i+1) Mr H):NxD n Pv i Mr H:=%[n - (i+1),⋯,O,h|p]
theorem oU{K:C6}{a:Mi}{xs:Mo V}{σ:St}{cap:Mo Nat}{k:Nat}{g:TG}{tt:TT}{tk tv:TE}{Q:Mo Rw->Hp->Prop}{H:Hp}(hs:H a=↥xs)(Pv:Nat->Mo Rw->Hp->Prop)
  (hk:∀i Mr H',i<=xs.length->Pv i Mr H'->H' a=↥xs/\∀r∈Mr,H' r.1= ~~~(r.2.1.map kV)) (h0:Pv 0 [] H)
  (ht:∀i x Mr H',xs[i]?=some x->Pv i Mr H'->Mr.length < sizeLine/\g x (aV σ cap k) H' λ σ2 H2=>leS (aV σ cap k) σ2/\tt σ2 H2 λ ok H3=>if ok=true then tk σ2 H3 (λ kv H4=>tv σ2 H4 λ v H5=>∃b ks,kv=.ref b/\H5 b= ~~~(ks.map kV)/\ks∉Mr.map (·.2.1)/\NxD xs.length Pv i (Mr ++ [(b,ks,v)]) H5)else NxD xs.length Pv i Mr H3)
  (hd:∀Mr H',Pv xs.length Mr H'->Mr.length<=sizeLine/\Q Mr H') :
  ∃W,(∃m,W 0 m [] H)/\rh σ cap k (Itl K a) g tt tk tv Q W:=by
 refine%[λ i m Mr H'=>m=xs.length - i/\i<=xs.length/\Pv i Mr H',%[_,O,E8 _|h0]|?_];rintro i m Mr H' ⟨rfl,hi,p⟩;obtain⟨z',kp⟩:=hk i Mr H' hi p;refine%[kp|?_]
 by_cases hin:i < xs.length
 ·obtain⟨e,hg⟩:=ht i xs[i] Mr H' (by simp[hin]) p;refine .inr %[%[xs,xs[i],G4 z'|by simp[hin]],e|λ x H2 yl=>?_];obtain⟨e1,e2⟩:=yl;have e3:=e2 xs (G4 z');have e4:x=xs[i]:=by simpa[hin]using e3.symm
  subst e1 e4;exact hg
 ·have e:i=xs.length:=⋯
  subst e;obtain⟨a1,a2⟩:=hd Mr H' p;exact .inl %[%[xs,G4 z'|B3 _],a1|a2]
theorem nv{a:Mi}{ob:Obj}{kvs:Mo (Mo Key×V)}{σ:St}{cap:Mo Nat}{k:Nat}{g:TG}{tt:TT}{tk tv:TE}{Q:Mo Rw->Hp->Prop}{H:Hp}(Pv:Nat->Mo Rw->Hp->Prop)(h0:Pv 0 [] H)
  (hl:∀i Mr H',i<=kvs.length->Pv i Mr H'->H' a=some (.frz ob (.dT kvs))/\∀r∈Mr,H' r.1= ~~~(r.2.1.map kV))
  (ht:∀i kk v p q Mr H',kvs[i]?=some (kk,v)->H' p=none->H' q= ~~~(kk.map kV)->Pv i Mr H'->g (.ref p) (aV σ cap k) (upd H' p (.tup [.ref q,v])) λ σ2 H2=>leS (aV σ cap k) σ2/\tt σ2 H2 λ ok H3=>if ok=true then tk σ2 H3 (λ kv H4=>tv σ2 H4 λ v H5=>∃b ks,kv=.ref b/\H5 b= ~~~(ks.map kV)/\ks∉Mr.map (·.2.1)/\NxD kvs.length Pv i (Mr ++ [(b,ks,v)]) H5)else NxD kvs.length Pv i Mr H3)
  (hz:∀i Mr H',i < kvs.length->Pv i Mr H'->Mr.length < sizeLine) (hd:∀Mr H',Pv kvs.length Mr H'->Mr.length<=sizeLine/\Q Mr H'):∃W,(∃m,W 0 m [] H)/\rh σ cap k (Iti a ob kvs) g tt tk tv Q W:=by
 refine%[λ i m Mr H'=>m=kvs.length - i/\i<=kvs.length/\Pv i Mr H',%[_,O,E8 _|h0]|?_];rintro i m Mr H' ⟨rfl,hi,p⟩;obtain⟨z',kp⟩:=hl i Mr H' hi p;refine%[kp|?_]
 by_cases hin:i < kvs.length
 ·refine .inr %[%[hin|z'],hz i Mr H' hin p|λ x H2 yl=>?_];obtain⟨pa,q,k',v',e1,e2,e3,e4,e5⟩:=yl;subst e4 e5;exact ht i k' v' pa q Mr _ e1 e2 e3 p
 ·have e:i=kvs.length:=⋯
  subst e;obtain⟨a1,a2⟩:=hd Mr H' p;exact .inl %[%[O|z'],a1|a2]
section
variable{X:Cx}
def xS(tk tv:TE):TE:=λ σ H Q=>∀p,H p=none->tk σ (upd H p (.dT [])) λ x H1=>tv σ H1 λ y H2=>H2 p=some (.dT [])/\∃b ks,x=.ref b/\H2 b= ~~~(ks.map kV)/\Q (.ref p) (upd H2 p (.dT [(ks,y)]))
theorem kP{kx vx:Expr}{tk tv:TE}{pos:Pos}(hu:X.A.units < cLine)(hk:PE X kx tk)(hv:PE X vx tv):PE X (.Dict [some kx] [vx] pos) (xS tk tv):=by
 intro Mq s σ H Q I h;have hb:sysModules < s.heap.objs.size:=Nat.lt_trans (show sysModules < Mp by decide) (I.mod.glob.keeps I.bk).lt;have hn:=I.hok.fresh (B3 s.heap.objs.size);have hd:(s.heap.objs.size == sysModules)=false:=NJ.mpr (LJ hb);have I1:Inv X Mq σ (upd H s.heap.objs.size (.dT [])) { s with heap:=s.heap.push { cls:=.type "dict",data:=.dict #[] } } :=
  I.laid (a:=s.heap.objs.size) (o:=.dT []) (t':=s.toks) (λ _ _ q=>A7 _ q) (B3 _) (mZ s.heap I.big)
 refine wpAny_Dict_any rfl rfl (by simp) (by show 1<=15;decide) (pairTrees_cons_walk (thn (hk Mq _ σ _ _ I1 (h _ hn)) λ u s1 %[x,H1,J1,rx|q1]=>thn (hv Mq s1 σ H1 _ J1 q1) λ w2 s2 %[y,H2,J2,ry,e,kt,ks,ex,ek|q2]=>pairTrees_nil_walk ?_));subst ex;cases rx;obtain⟨_,_,xs,rel,dm⟩:=vq J2.hok e;cases rel;have ne:kt≠s.heap.objs.size:=λ z=>by rw[z,e]at ek;cases ek
 unfold storeAll;refine wpAny_forIn_list _ (λ rest (_:PUnit) s'=>(rest=[(Value.ref kt,w2)]/\s'=s2)\/(rest=[]/\∃v H,Inv X Mq σ H s'/\RelV v (.ref s.heap.objs.size)/\Q v H)) _ ?_ ?_ _ _ (.inl %[O|O])
 ·rintro x rest b s' (⟨e1,rfl⟩ | ⟨e1,_⟩)
  ·cases e1;refine A0 (wpAny_dictSet_heap (knd:=tupleKind (aO X.prog X.w)) (hsz:=E8 _) hu (eS J2.hok ek) dm λ h' dd' hs=>A2 (.inr %[O|?_]));refine%[.ref s.heap.objs.size,_,?_,O|q2];obtain⟨o',es',ep',g0',g1',g2',g3',_,g4'⟩:=dd';refine J2.write (x:=s.heap.objs.size) (e:=s.heap.objs.size) (by rw[e];exact True.intro) (.inl rfl) (λ b q hb z=>(hs.2 b hb).trans z) %[_|g0'] ?_;exact%[by show 1<=sizeLine;decide,hd,[(ks,kt,w2)],.cons %[O,by rw[aj ne];exact ek|ry] .nil,o',es',ep',g0',g1',g2',g3'|g4']
  ·cases e1
 ·rintro b s' (⟨e1,_⟩ | ⟨_,r⟩)
  ·cases e1
  ·exact r
end
def Ey(l1 l2 l3:Mi):It :=
  ⟨λ i H=>∃xs ys zs x y w,H l1= ~~~xs/\H l2= ~~~ys/\H l3= ~~~zs/\xs[i]?=some x/\ys[i]?=some y/\zs[i]?=some w,
   λ i H v H'=>∃p xs ys zs x y w,H p=none/\v=.ref p/\H'=upd H p (.tup [x,y,w])/\H l1= ~~~xs/\H l2= ~~~ys/\H l3= ~~~zs/\xs[i]?=some x/\ys[i]?=some y/\zs[i]?=some w,
   λ i H=>∃xs ys zs,H l1= ~~~xs/\H l2= ~~~ys/\H l3= ~~~zs/\xs.length<=i⟩
def Af(ta:TA):TI:=λ σ H R=>ta σ H λ vs H1=>∃l1 l2 l3 xs ys zs,vs=[.ref l1,.ref l2,.ref l3]/\H1 l1= ~~~xs/\H1 l2= ~~~ys/\H1 l3= ~~~zs/\R (Ey l1 l2 l3) H1
theorem vJ{X:Cx}{a b c:Expr}{ta:TA}{p pos tp:Pos}{es:Mo Expr}{kk:Nat}(hg:Gl X "zip")(hm:X.mg "zip" = none)(ha:PA X [a,b,c] ta)
  (hs:starEach [a,b,c] X.env=[(false,eval a X.env),(false,eval b X.env),(false,eval c X.env)]:=by rfl) (hs2:starEach [b,c] X.env=[(false,eval b X.env),(false,eval c X.env)]:=by rfl) :
  PI X (.Tuple es kk tp) (.Call (.Name "zip" p) [a,b,c] [] pos) (Af ta):=by
 refine rc hg hm ha (by rw[hs,hs2]) (by rw[hs2];rfl) 2 ⋯ (λ vs hv=>?_) λ vs H1 R %[l1,l2,l3,xs,ys,zs,e,e1,e2,e3|q]=>%[[(true,l1),(true,l2),(true,l3)],_,O,e,?_,q,?_,?_|?_]
 ·match vs,hv with
  | [x,y,z],_=>exact%[by kernel_rfl,by kernel_rfl|λ obj=>fN obj _ _ _]
 ·simp only[G7,C2,NG];rintro p (rfl | rfl | rfl)
  ·exact%[_|e1]
  ·exact%[_|e2]
  ·exact%[_|e3]
 ·rintro i H ⟨xs,ys,zs,x,y,z,a1,a2,a3,b1,b2,b3⟩;exact%[[x,y,z],%[%[_,a1|b1],%[_,a2|b2],%[_,a3|b3]|O]|O]
 ·rintro i H v H' ⟨p,vs,a0,rfl,rfl,r,hl⟩
  match vs,r,hl with
  | [x,y,z],⟨⟨xs,a1,b1⟩,⟨ys,a2,b2⟩,⟨zs,a3,b3⟩,_⟩,_=>exact%[p,xs,ys,zs,x,y,z,a0,O,O,a1,a2,a3,b1,b2|b3]
 ·rintro i H ⟨xs,ys,zs,a1,a2,a3,h⟩;refine%[[],%[%[_,a1|h]|?_]|by simp];simp only[G7,C2,NG];rintro q (rfl | rfl)
  ·exact%[_|a2]
  ·exact%[_|a3]
theorem oV{l1 l2 l3:Mi}{xs ys zs:Mo V}{σ:St}{cap:Mo Nat}{k:Nat}{g:TG}{tt:TT}{te:TE}{Q:Mo V->Hp->Prop}{H:Hp}(Pv:Nat->Mo V->Hp->Prop)(hn:xs.length=ys.length)(hn':xs.length=zs.length)
  (hk:∀i us H',Pv i us H'->H' l1= ~~~xs/\H' l2= ~~~ys/\H' l3= ~~~zs) (h0:Pv 0 [] H)
  (hz:∀i us H',i < xs.length->Pv i us H'->us.length < sizeLine)
  (ht:∀i x y w p us H',xs[i]?=some x->ys[i]?=some y->zs[i]?=some w->H' p=none->Pv i us H'->g (.ref p) (aV σ cap k) (upd H' p (.tup [x,y,w])) λ σ2 H2=>leS (aV σ cap k) σ2/\tt σ2 H2 λ ok H3=>if ok=true then te σ2 H3 (λ v H4=>Nx xs.length Pv i (us ++ [v]) H4)else Nx xs.length Pv i us H3)
  (hd:∀us H',Pv xs.length us H'->us.length<=sizeLine/\Q us H'):∃W,(∃m,W 0 m [] H)/\eE σ cap k (Ey l1 l2 l3) g tt te Q W:=by
 refine%[λ i m us H'=>m=xs.length - i/\i<=xs.length/\Pv i us H',%[_,O,E8 _|h0]|?_];rintro i m us H' ⟨rfl,hi,p⟩;obtain⟨e1,e2,e3⟩:=hk i us H' p
 by_cases hlt:i < xs.length
 ·have hx:xs[i]?=some xs[i]:=by simp[hlt]
  have hy:ys[i]?=some (ys[i]'⋯):=by simp[show i < ys.length by omega]
  have hw:zs[i]?=some (zs[i]'⋯):=by simp[show i < zs.length by omega]
  refine .inr %[%[xs,ys,zs,_,_,_,e1,e2,e3,hx,hy|hw],hz i us H' hlt p|λ v H2 yl=>?_]
  ·obtain⟨q,xs',ys',zs',x,y,w,hq,rfl,rfl,e1',e2',e3',ex,ey,ew⟩:=yl;rw[e1]at e1';cases e1';rw[e2]at e2';cases e2';rw[e3]at e3';cases e3';exact ht i x y w q us H' ex ey ew hq p
 ·have e:i=xs.length:=⋯
  subst e;obtain⟨a1,a2⟩:=hd us H' p;exact .inl %[%[xs,ys,zs,e1,e2,e3|B3 _],a1|a2]
def Ez(l1 l2:Mi):It :=
  ⟨λ i H=>∃xs ys x y,H l1= ~~~xs/\H l2= ~~~ys/\xs[i]?=some x/\ys[i]?=some y,
   λ i H v H'=>∃p xs ys x y,H p=none/\v=.ref p/\H'=upd H p (.tup [x,y])/\H l1= ~~~xs/\H l2= ~~~ys/\xs[i]?=some x/\ys[i]?=some y,
   λ i H=>∃xs ys,H l1= ~~~xs/\H l2= ~~~ys/\xs.length<=i⟩
def Ag(ta:TA):TI:=λ σ H R=>ta σ H λ vs H1=>∃l1 l2 xs ys,vs=[.ref l1,.ref l2]/\H1 l1= ~~~xs/\H1 l2= ~~~ys/\R (Ez l1 l2) H1
theorem jB{X:Cx}{a b:Expr}{ta:TA}{p pos tp:Pos}{es:Mo Expr}{kk:Nat}(hg:Gl X "zip")(hm:X.mg "zip" = none)(ha:PA X [a,b] ta)
  (hs:starEach [a,b] X.env=[(false,eval a X.env),(false,eval b X.env)]:=by rfl) (hs2:starEach [b] X.env=[(false,eval b X.env)]:=by rfl) :
  PI X (.Tuple es kk tp) (.Call (.Name "zip" p) [a,b] [] pos) (Ag ta):=by
 refine rc hg hm ha (by rw[hs,hs2]) (by rw[hs2];rfl) 1 ⋯ (λ vs hv=>?_) λ vs H1 R %[l1,l2,xs,ys,e,e1,e2|q]=>%[[(true,l1),(true,l2)],_,O,e,?_,q,?_,?_|?_]
 ·match vs,hv with
  | [x,y],_=>exact%[F.typeCall_zip_2 _ _,F.newCall_zip_2 _ _|λ obj=>F.args_object_init_3 obj _ _]
 ·simp only[G7,C2,NG];rintro p (rfl | rfl)
  ·exact%[_|e1]
  ·exact%[_|e2]
 ·rintro i H ⟨xs,ys,x,y,a1,a2,b1,b2⟩;exact%[[x,y],%[%[_,a1|b1],%[_,a2|b2]|O]|O]
 ·rintro i H v H' ⟨p,vs,a0,rfl,rfl,r,hl⟩
  match vs,r,hl with
  | [x,y],⟨⟨xs,a1,b1⟩,⟨ys,a2,b2⟩,_⟩,_=>exact%[p,xs,ys,x,y,a0,O,O,a1,a2,b1|b2]
 ·rintro i H ⟨xs,ys,a1,a2,h⟩;refine%[[],%[%[_,a1|h]|?_]|by simp];simp only[G7,C2,NG];rintro q rfl;exact%[_|a2]
theorem fR{l1 l2:Mi}{xs ys:Mo V}{σ:St}{cap:Mo Nat}{k:Nat}{g:TG}{tt:TT}{te:TE}{Q:Mo V->Hp->Prop}{H:Hp}(Pv:Nat->Mo V->Hp->Prop)(hn:xs.length=ys.length)
  (hk:∀i us H',Pv i us H'->H' l1= ~~~xs/\H' l2= ~~~ys) (h0:Pv 0 [] H)
  (hz:∀i us H',i < xs.length->Pv i us H'->us.length < sizeLine)
  (ht:∀i x y p us H',xs[i]?=some x->ys[i]?=some y->H' p=none->Pv i us H'->g (.ref p) (aV σ cap k) (upd H' p (.tup [x,y])) λ σ2 H2=>leS (aV σ cap k) σ2/\tt σ2 H2 λ ok H3=>if ok=true then te σ2 H3 (λ v H4=>Nx xs.length Pv i (us ++ [v]) H4)else Nx xs.length Pv i us H3)
  (hd:∀us H',Pv xs.length us H'->us.length<=sizeLine/\Q us H'):∃W,(∃m,W 0 m [] H)/\eE σ cap k (Ez l1 l2) g tt te Q W:=by
 refine%[λ i m us H'=>m=xs.length - i/\i<=xs.length/\Pv i us H',%[_,O,E8 _|h0]|?_];rintro i m us H' ⟨rfl,hi,p⟩;obtain⟨e1,e2⟩:=hk i us H' p
 by_cases hlt:i < xs.length
 ·have hx:xs[i]?=some xs[i]:=by simp[hlt]
  have hy:ys[i]?=some (ys[i]'⋯):=by simp[show i < ys.length by omega]
  refine .inr %[%[xs,ys,_,_,e1,e2,hx|hy],hz i us H' hlt p|λ v H2 yl=>?_]
  ·obtain⟨q,xs',ys',x,y,hq,rfl,rfl,e1',e2',ex,ey⟩:=yl;rw[e1]at e1';cases e1';rw[e2]at e2';cases e2';exact ht i x y q us H' ex ey hq p
 ·have e:i=xs.length:=⋯
  subst e;obtain⟨a1,a2⟩:=hd us H' p;exact .inl %[%[xs,ys,e1,e2|B3 _],a1|a2]
section
variable{X:Cx}
theorem sP(bs:Mo Bool):(List.range bs.length).any (λ i=>bs.getD i false)=bs.any id:=by
 rw[MN,List.any_eq_true,List.any_eq_true];constructor
 ·rintro⟨i,hi,e⟩;have hi':=LM.mp hi;rw[LR,F2 hi']at e;exact%[_,Mc hi'|e]
 ·rintro⟨b,hb,e⟩;obtain⟨i,hi,e2⟩:=List.getElem_of_mem hb;refine%[i,LM.mpr hi|?_];rw[LR,F2 hi];show bs[i]=true;rw[e2];exact e
def EA(K:C6):Mo V->Hp->VK->Prop:=λ xs H Q=>∃(p:Mi)(bs:Mo Bool),xs=[.ref p]/\SqL K H p (bs.map V.bl)/\Q (.bl (bs.any id)) H
theorem sQ(hc:X.calm=true):bW X (.builtin "any") (EA X.K):=by
 intro Mq s σ H xs us Q I r h;obtain⟨p,bs,rfl,hs,q⟩:=h;obtain⟨u,rfl,rfl⟩:=eD r;obtain⟨its,rv,pl,_⟩:=I.list hs;have e:=jo rv;subst e;have hlt:p < s.heap.objs.size:=by obtain⟨_,_,e,_⟩:=pl;exact A9 e
 refine call_any_walk (wpAny_pyIter_list pl.isList ?_);refine%[_,_,_,_,_,_,λ i=>bs.getD i false,O,Walks.list (A:=X.A.in1) (I.ok.hd hc) _ p (C0 hlt) _,%[%[_,A8 _ rfl,O|O]|pl.isList.push _],λ i v s' Q' E' hP hQ'=>?_|λ h' tk hk=>?_]
 ·have hP':(bs.map Value.bool)[i]?=some v:=by simpa using hP
  rw[G8]at hP';cases hb:bs[i]? with
  | none=>rw[hb]at hP';cases hP'
  | some b=>
   rw[hb]at hP';cases hP';have hQ2:Q' (bs.getD i false) s':=hQ';rw[LR,hb]at hQ2;exact F3 hQ2
 ·have e2:((bs.map Value.bool).toArray.size)=bs.length:=by simp
  rw[e2,sP];refine%[.bl (bs.any id),H,I.kept (h':=h') (t':=tk) (λ b o e=>hk b o ?_ (A7 _ e)),O|q];intro z;rw[E2.mp z]at e;exact absurd (A9 e) (E1 _)
end
abbrev Tps(H H':Hp):Prop:=∀a xs,H a= ~~~xs->H' a= ~~~xs
theorem Same.tps{H H':Hp}(s:Same H H'):Tps H H':=λ _ _ e=>s _ _ e
def Sf(F:Mi->Prop)(H H':Hp):Prop:=∀b o,H b=some o->H' b=some o\/(F b/\∃ob kvs,o=.dT kvs/\H' b=some (.frz ob (.dT kvs)))
theorem Same.sf{F:Mi->Prop}{H H':Hp}(s:Same H H'):Sf F H H':=λ b o e=>.inl (s b o e)
theorem Sf.trans{F:Mi->Prop}{H H1 H2:Hp}(a:Sf F H H1)(b:Sf F H1 H2):Sf F H H2:=λ c o e=>by
 rcases a c o e with h | ⟨f,ob,kvs,rfl,h⟩
 ·exact b c o h
 ·rcases b c _ h with h | ⟨_,_,_,z,_⟩
  ·exact .inr %[f,ob,kvs,O|h]
  ·cases z
theorem Sf.mono{F G:Mi->Prop}{H H':Hp}(h:∀a,F a->G a)(s:Sf F H H'):Sf G H H':=λ b o e=>(s b o e).imp id λ%[f|r]=>%[h b f|r]
theorem Sf.not{F:Mi->Prop}{H H':Hp}(s:Sf F H H'){b:Mi}{o:HO}(n:¬ F b)(e:H b=some o):H' b=some o:=(s b o e).resolve_right λ%[f|_]=>n f
theorem Sf.tps{F:Mi->Prop}{H H':Hp}(s:Sf F H H'):Tps H H':=λ b xs e=>(s b _ e).resolve_right λ%[_,_,_,z|_]=>by cases z
theorem Sf.lst{F:Mi->Prop}{H H':Hp}(s:Sf F H H'){b:Mi}{xs:Mo V}(e:H b=↥xs):H' b=↥xs:=(s b _ e).resolve_right λ%[_,_,_,z|_]=>by cases z
theorem Sf.frz{F:Mi->Prop}{H H':Hp}(s:Sf F H H'){b:Mi}{ob:Obj}{u:HO}(e:H b=some (.frz ob u)):H' b=some (.frz ob u):=(s b _ e).resolve_right λ%[_,_,_,z|_]=>by cases z
theorem Sf.rd{F:Mi->Prop}{H H':Hp}(s:Sf F H H'){b:Mi}{kvs:Mo (Mo Key×V)}(e:Rd H b (.dT kvs)):Rd H' b (.dT kvs):=by
 rcases e with e | ⟨ob,e⟩
 ·rcases s b _ e with h | ⟨_,ob,kvs',z,h⟩
  ·exact .inl h
  ·cases z;exact .inr %[ob|h]
 ·exact .inr %[ob|s.frz e]
theorem Sf.free{F:Mi->Prop}{H H':Hp}(s:Sf F H H'){b:Mi}(h:H' b=none):H b=none:=by
 cases e:H b with
 | none=>rfl
 | some o=>rcases s b o e with z | ⟨_,_,_,_,z⟩ <;> rw[h]at z <;> cases z
theorem Sf.same{F:Mi->Prop}{H H0 H':Hp}(s0:Same H H0)(s:Sf F H0 H')(n:∀a,F a->H a=none):Same H H':=λ b o e=>s.not (λ f=>by rw[n b f]at e;cases e) (s0 _ _ e)
theorem xT{a:Mi}{H:Hp}{kvs:Mo (Mo Key×V)}{R:It->Hp->Prop}(rd:Rd H a (.dT kvs))(h:∀ob H',H' a=some (.frz ob (.dT kvs))->Sf (· = a) H H'->R (Itd a ob kvs) H') :
  (H a=some (.dT kvs)/\∀ob,R (Itd a ob kvs) (upd H a (.frz ob (.dT kvs))))\/∃ob,H a=some (.frz ob (.dT kvs))/\R (Itd a ob kvs) H:=by
 rcases rd with e | ⟨ob,e⟩
 ·refine .inl %[e|λ ob=>h ob _ ah λ b o eb=>?_]
  by_cases z:b=a
  ·subst z;rw[e]at eb;cases eb;exact .inr %[O,ob,kvs,O|ah]
  ·rw[aj z];exact .inl eb
 ·exact .inr %[ob,e|h ob H e (Same.sf (Same.refl _))]
theorem DGet.r{H:Hp}{a b:Mi}{kvs:Mo (Mo Key×V)}{k:Mo Key}(e:Rd H a (.dT kvs))(eb:H b= ~~~(k.map kV)):DGet H a (.ref b) (cG kvs k):=.inr %[kvs,k,b,e,O,eb|O]
def Sg(F:Mi->Prop)(st:Mi)(H H':Hp):Prop:=∀b o,H b=some o->H' b=some o\/(F b/\∃ob kvs,o=.dT kvs/\H' b=some (.frz ob (.dT kvs)))\/(b=st/\∃kvs kvs',o=.dT kvs/\Rd H' b (.dT kvs'))
theorem Sf.sg{F:Mi->Prop}{st:Mi}{H H':Hp}(s:Sf F H H'):Sg F st H H':=λ b o e=>(s b o e).imp id .inl
theorem Same.sg{F:Mi->Prop}{st:Mi}{H H':Hp}(s:Same H H'):Sg F st H H':=λ b o e=>.inl (s b o e)
theorem Sg.refl{F:Mi->Prop}{st:Mi}(H:Hp):Sg F st H H:=λ _ _ e=>.inl e
theorem Sg.put{F:Mi->Prop}{st:Mi}{H:Hp}{kvs kvs':Mo (Mo Key×V)}(h:H st=some (.dT kvs)):Sg F st H (upd H st (.dT kvs')):=λ b o e=>by
 by_cases z:b=st
 ·subst z;rw[h]at e;cases e;exact .inr (.inr %[O,kvs,kvs',O|.inl ah])
 ·rw[aj z];exact .inl e
theorem Sg.trans{F:Mi->Prop}{st:Mi}{H H1 H2:Hp}(a:Sg F st H H1)(b:Sg F st H1 H2):Sg F st H H2:=λ c o e=>by
 rcases a c o e with h | ⟨f,ob,kvs,rfl,h⟩ | ⟨rfl,kvs,kvs',rfl,h⟩
 ·exact b c o h
 ·rcases b c _ h with h | ⟨_,_,_,z,_⟩ | ⟨_,_,_,z,_⟩
  ·exact .inr (.inl %[f,ob,kvs,O|h])
  ·cases z
  ·cases z
 ·refine .inr (.inr %[O,kvs|?_]);rcases h with h | ⟨ob,h⟩
  ·rcases b c _ h with h | ⟨_,ob,k2,z,h⟩ | ⟨_,_,k2,z,h⟩
   ·exact%[kvs',O|.inl h]
   ·exact%[k2,O|.inr %[ob|h]]
   ·exact%[k2,O|h]
  ·rcases b c _ h with h | ⟨_,_,_,z,_⟩ | ⟨_,_,_,z,_⟩
   ·exact%[kvs',O|.inr %[ob|h]]
   ·cases z
   ·cases z
theorem Sg.keep{F:Mi->Prop}{st:Mi}{H H':Hp}(s:Sg F st H H'){b:Mi}{o:HO}(n:∀kvs,o≠.dT kvs)(e:H b=some o):H' b=some o:=by
 rcases s b o e with h | ⟨_,_,kvs,z,_⟩ | ⟨_,kvs,_,z,_⟩
 ·exact h
 ·exact absurd z (n kvs)
 ·exact absurd z (n kvs)
theorem Sg.tps{F:Mi->Prop}{st:Mi}{H H':Hp}(s:Sg F st H H'):Tps H H':=λ _ _ e=>s.keep (λ _ z=>by cases z) e
theorem Sg.lst{F:Mi->Prop}{st:Mi}{H H':Hp}(s:Sg F st H H'){b:Mi}{xs:Mo V}(e:H b=↥xs):H' b=↥xs:=s.keep (λ _ z=>by cases z) e
theorem Sg.ins{F:Mi->Prop}{st:Mi}{H H':Hp}(s:Sg F st H H'){b C d:Mi}{fs:Mo (Str×V)}(e:H b=some (.ins C d fs)):H' b=some (.ins C d fs):=s.keep (λ _ z=>by cases z) e
theorem Sg.frz{F:Mi->Prop}{st:Mi}{H H':Hp}(s:Sg F st H H'){b:Mi}{ob:Obj}{u:HO}(e:H b=some (.frz ob u)):H' b=some (.frz ob u):=s.keep (λ _ z=>by cases z) e
theorem Sg.rd{F:Mi->Prop}{st:Mi}{H H':Hp}(s:Sg F st H H'){b:Mi}(n:b≠st){kvs:Mo (Mo Key×V)}(e:Rd H b (.dT kvs)):Rd H' b (.dT kvs):=by
 rcases e with e | ⟨ob,e⟩
 ·rcases s b _ e with h | ⟨_,ob,k2,z,h⟩ | ⟨z,_⟩
  ·exact .inl h
  ·cases z;exact .inr %[ob|h]
  ·exact absurd z n
 ·exact .inr %[ob|s.frz e]
theorem Sg.not{F:Mi->Prop}{st:Mi}{H H':Hp}(s:Sg F st H H'){b:Mi}{o:HO}(n:b≠st)(nf:¬ F b)(e:H b=some o):H' b=some o:=by
 rcases s b _ e with h | ⟨f,_⟩ | ⟨z,_⟩
 ·exact h
 ·exact absurd f nf
 ·exact absurd z n
theorem Sg.sf{F:Mi->Prop}{st:Mi}{H H':Hp}(s:Sg F st H H')(n:H st=none):Sf F H H':=λ b o e=>by
 rcases s b _ e with h | f | ⟨z,_⟩
 ·exact .inl h
 ·exact .inr f
 ·rw[z,n]at e;cases e
section
variable{X:Cx}
def vK(tl:TE):TI:=λ σ H R=>tl σ H λ x H1=>∃a kvs,x=.ref a/\Rd H1 a (.dT kvs)/\∀ob H',H' a=some (.frz ob (.dT kvs))->Sf (· = a) H1 H'->R (Itd a ob kvs) H'
theorem jC{tg l:Expr}{tl:TE}(hl:PE X l tl):PI X tg l (vK tl):=by
 intro Mq s σ H R I h;have h2:PE X l (λ σ' H' Q=>∃Q1:VK,tl σ' H' Q1/\∀x H1,Q1 x H1->Q x H1):=by intro Mq s σ H Q I ⟨Q1,h1,h2⟩;refine thn (hl Mq s σ H Q1 I h1) λ v s1 z=>?_;obtain⟨x,H1,a1,a2,a3⟩:=z;exact%[x,H1,a1,a2|h2 _ _ a3]
 refine vG h2 Mq s σ H R I %[_,h|λ x H1 z=>?_];obtain⟨a,kvs,e,rd,hh⟩:=z;exact%[a,kvs,e|xT rd hh]
theorem sR{tg l:Expr}{tl:TE}(K:C6)(hK:X.K=K)(hl:PE X l tl):PI X tg l (vK tl):=jC hl
end
theorem sS{a:Mi}{ob:Obj}{kvs:Mo (Mo Key×V)}{g:TG}{tb:TS}{D:Ends}{σ:St}{H:Hp}(Pv:Nat->St->Hp->Prop)(h0:Pv 0 σ H)(hl:∀i σ H,i<=kvs.length->Pv i σ H->H a=some (.frz ob (.dT kvs)))
  (hs:∀i k v p q σ H,kvs[i]?=some (k,v)->H p=none->H q= ~~~(k.map kV)->Pv i σ H->g (.ref p) σ (upd H p (.tup [.ref q,v])) λ σ2 H2=>tb { D with nx:=Pv (i+1),ct:=Pv (i+1),bk:=D.nx } σ2 H2) (hd:∀σ H,Pv kvs.length σ H->D.nx σ H) :
  ∃W:Nat->Nat->St->Hp->Prop,(∃m,W 0 m σ H)/\∀i m σ H,W i m σ H ->
   ((Iti a ob kvs).stop i H/\D.nx σ H)\/((Iti a ob kvs).go i H/\∃N:St->Hp->Prop,(∀σ' H',N σ' H'->∃m',m' < m/\W (i+1) m' σ' H')/\∀x H',(Iti a ob kvs).yld i H x H'->g x σ H' λ σ2 H2=>tb { D with nx:=N,ct:=N,bk:=D.nx } σ2 H2):=by
 refine%[λ i m σ H=>m=kvs.length - i/\i<=kvs.length/\Pv i σ H,%[kvs.length,by simp,E8 _|h0]|?_];rintro i m σ H ⟨rfl,hi,p⟩;have q:=hl i σ H hi p
 by_cases hin:i < kvs.length
 ·refine .inr %[%[hin|q],Pv (i+1),λ σ' H' p'=>%[kvs.length - (i+1),⋯,O,hin|p']|λ x H' y=>?_];obtain⟨pa,q,k',v',e1,e2,e3,e4,e5⟩:=y;subst e4 e5;exact hs i k' v' pa q σ _ e1 e2 e3 p
 ·have e:i=kvs.length:=⋯
  subst e;exact .inl %[%[O|q]|hd σ H p]
end L2
namespace L2
open PySem PySem.Spec PyProof.Rows PySem.SeqAt
section
variable{X:Cx}
open Classical in
inductive rz_op_eqN(K:C6)(x:V)(y:V)(H:Hp)(Q:VK):Prop
|mk(da db:_)(_:DatV K H x da)(_:DatV K H y db)(_:da.canLay0=true)(_:db.canLay0=true)(_:da.depth<=210)(_:Q (.bl (PyData.eqv da db)) H)
theorem Ah(hu:X.A.units+220 < cLine):OpR X (compareOp .Eq) (rz_op_eqN X.K):=by intro Mq s σ H x y v u Q I rx ry h;obtain⟨da,db,hx,hy,s1,s2,dz,q⟩:=h;obtain⟨as,ra⟩:=I.reads hx rx;obtain⟨bs,rb⟩:=I.reads hy ry;exact compareEq_reads ra rb s1 s2 (by have:min da.depth db.depth<=da.depth:=Nat.min_le_left _ _;omega) %[.bl _,H,I,rfl|q]
end
end L2
namespace L2
open PySem PySem.Spec PyProof.Rows
abbrev TXZ:=St->Hp->(St->Hp->Prop)->XK->Prop
def PSz(X:Cx)(b:Mo Stmt)(t:TXZ):Prop :=
 ∀(Mq:Mo (Mi×Obj))(s:F7)(σ:St)(H:Hp)(N:St->Hp->Prop)(E:XK),Inv X Mq σ H s->t σ H N E->wpAny (model X.prog X.w) X.A (execs b X.env) (λ fl s'=>fl=Flow.next/\∃σ' H',Inv X Mq σ' H' s'/\N σ' H') (XP X Mq σ E) s
section
variable{X:Cx}{e c:Expr}{a b:Mo Stmt}{tx:TX}{ta tb:TXZ}{tt:TT}{pos mp:Pos}{m:Str}{j:Nat}
theorem rm(he:PEx X e tx)(hN:X.N.Nodup)(hj:X.N[j]?=some m)(hl:X.env.scope.names.lookup m=some .local)(hs:swapsWith e (some (.Name m mp)) pos.line X.env=pure false:=by rfl):PSz X [.Assign [.Name m mp] e pos] (λ σ H N E=>tx σ H (λ v H1=>N (σ.set j (some v)) H1) E):=by intro Mq s σ H N E I h;exact wpAny_execs_cons (wpAny_Assign_Name (Mz (he Mq s σ H _ _ I h) (λ v s1 ⟨x,H1,I1,r1,q1⟩=>fY I1 hN hj (.inl hl) r1 (λ s2 I2=>NS %[rfl,_,H1,I2|q1]) (.inr hl)) λ v s1 hx=>hx) hs)
theorem Ai(hc:PT X.nox c tt)(ha:PSz X a ta)(hb:PSz X b tb):PSz X [.If c a b pos] (λ σ H N E=>tt σ H λ d H1=>if d=true then ta σ H1 N E else tb σ H1 N E):=by
 intro Mq s σ H N E I h;refine wpAny_execs_cons (wpAny_If (Mz (hc Mq s σ H _ (I.wish _) h) (λ d s1 ⟨H1,I1,q1⟩=>?_) λ _ _ z=>E7 z));cases d with
 | true=>exact Mz (ha Mq s1 σ H1 N E I1.unwish q1) (λ fl s2 ⟨e,r⟩=>by subst e;exact NS %[rfl|r]) λ _ _ z=>z
 | false=>exact Mz (hb Mq s1 σ H1 N E I1.unwish q1) (λ fl s2 ⟨e,r⟩=>by subst e;exact NS %[rfl|r]) λ _ _ z=>z
end
def EB(K:C6)(i:Nat)(CE:Mi)(tx:TXZ)(ts:Mi->TS):TS:=λ D σ H=>tx σ H (λ σ1 H1=>D.nx σ1 H1) (λ c _ H1=>PySem.W.exmOne K c (.ref CE)=some true/\∀ea,H1 ea=none ->
 ts ea { nx:=λ σ2 H2=>D.nx (σ2.set i none) H2,rt:=D.rt,bk:=λ σ2 H2=>D.bk (σ2.set i none) H2,ct:=λ σ2 H2=>D.ct (σ2.set i none) H2 } (σ.set i (↑ea)) (upd H1 ea (.ext (IsA ea c))))
section
variable{X:Cx}{body:Mo Stmt}{tx:TXZ}{ts:Mi->TS}{i:Nat}{n y:Str}{CE:Mi}{b₀:Stmt}{suite:Mo Stmt}{np hpos epos pos:Pos}
theorem xU(hst:X.stack=X.env :: X.outer)(hfr:X.env.frame=some X.env.locals)(hex:X.ex=[])(he:PSz X body tx)(hN:X.N.Nodup)(hi:X.N[i]?=some n)(hk:X.env.scope.names.lookup n=some .local)(hg:Gl X y)(hm:X.mg y=↑CE)
  (hsu:∀ea,PSs (X.marked ea) (b₀ :: suite) (ts ea)) (hd:(y == ("__debug__" : Str))=false:=by decide) :
  PS X (.Try body [.ExceptHandler (some (.Name y np)) (some n) (b₀ :: suite) hpos] [] [] pos) (EB X.K i CE tx ts):=by
 intro Mq s σ H D I h;refine wpAny_Try_except (Mz (he Mq s σ H _ _ I h) (λ fl s1 ⟨e1,σ1,H1,I1,q1⟩=>?_) λ v s1 hx=>?_)
 ·subst e1;exact NS %[σ1,H1,I1|q1]
 obtain⟨ea,c,H0,H',B,s0,rfl,I0,f,hm1,q⟩:=hx;obtain⟨a0,fl⟩:=f.fly;rw[hst]at fl;refine kI (by rw[<- hst];exact I.ok.frames) hfr fl f.ctx λ h4 held4 sm4 q4=>?_;refine zN held4 q4 λ h5 fl5 sm5 q5=>?_;have I5:Inv X Mq σ H' { s1 with heap:=h5 }:=f.inv (t:=s1.toks) I0 fl5.1 (sm4.trans sm5);obtain⟨ob,hob,hobc⟩:=fl5.there;refine wpAny_handleBy_cons (codeAny_handlers_test (dR (X:=X.marked ea) (I5.mark ea) hg hm ?_ hd)) (by intro q;cases q);have LT:PySem.W.Looks (model X.prog X.w) h5 (typeOf (.ref ea)) c:=hobc ▸ (PySem.W.Looks.ld hob).andThen .now;refine(PySem.W.exm_one (M:=model X.prog X.w) I5.kIn LT hm1).here ?_;show codeAny _ _ _ _ _;refine codeAny_handlers_suite_as ?_;refine lI fl5 q5 λ h6 fl6 sm6 q6=>?_;have I6:Inv X Mq σ H' { s1 with heap:=h6 }:=f.inv (t:=s1.toks) I0 fl6.1 ((sm4.trans sm5).trans sm6);have I7:Inv X Mq σ (upd H' ea (.ext (IsA ea c))) { s1 with heap:=h6 }:=by
  refine I6.track2 f.new.2 (λ z=>?_) ?_ (λ x c' e z=>?_) (λ p hp z=>?_) (IsA.obj (IsA.of fl6.there q6))
  ·obtain⟨m,⟨o,_,_,ho,_⟩,_⟩:=I0.loc;have:=f.new.1;rw[z,ho]at this;cases this
  ·cases q':X.s₀.heap.get? ea with
   | none=>rfl
   | some o=>
    obtain⟨o',e1⟩:=I0.base.there ea o q' (by rw[hex];simp);have:=f.new.1;rw[e1]at this;cases this
  ·obtain⟨v,o,ho,_⟩:=I0.cell x c' e;have:=f.new.1;rw[<- z,ho]at this;cases this
  ·have:=(I0.pin p hp).1;rw[z,f.new.1]at this;cases this
 refine fY (X:=X.marked ea) (I7.mark ea) hN hi (.inl hk) (v:=.ref ea) rfl (λ s7 I8=>?_) (.inr hk);refine Mz (hsu ea Mq s7 _ _ _ I8 (q ea f.new.2)) (λ fl s8 hq=>?_) λ _ _ z=>E7 z;cases fl with
 | next=>
  obtain⟨σ',H'',J,q'⟩:=hq;exact fg (J.unmark I.ok) hN hi hk λ s9 J9=>%[_,_,J9|q']
 | brk=>
  obtain⟨σ',H'',J,q'⟩:=hq;exact fg (J.unmark I.ok) hN hi hk λ s9 J9=>%[_,_,J9|q']
 | cont=>
  obtain⟨σ',H'',J,q'⟩:=hq;exact fg (J.unmark I.ok) hN hi hk λ s9 J9=>%[_,_,J9|q']
 | ret u=>
  obtain⟨v,σ',H'',J,r,q'⟩:=hq;exact fg (J.unmark I.ok) hN hi hk λ s9 J9=>%[_,_,_,J9,r|q']
end
end L2
namespace PySem
open PySem.W PySem.SeqAt
section
variable{prog:F8}{w:G0}{K:Type}[DecidableEq K]{knd:HeapKind prog w K}{A:Around}{E:G1->F7->Prop}{s:F7}{xs ys:Mo (K×Mi×G1)}{a b:Mi}
theorem oW{nm:String}{Q:Bool->F7->Prop}(ha:(a == sysModules)=false)(hb:(b == sysModules)=false)(da:s.heap.DictOfH knd a xs)(db:s.heap.DictOfH knd b ys)(hr:knd.room A)(hl:xs.length=ys.length)
  (al:∀(i:Nat)(k:K)(p:Mi)(v:G1),xs[i]?=some (k,p,v)->∃(j:Nat)(p':Mi)(v':G1),ys[j]?=some (k,p',v')/\EqAt A s v v' true) (h:Q true s) :
  wpAny (model prog w) A (Builtin.Dict.samePairs nm a b) Q E s:=by
 obtain⟨oa,es,ep,hoa,_,hda,hea,hisa,hna⟩:=da;obtain⟨ob,es',ep',hob,_,hdb,heb,hisb,hnb⟩:=db;have sza:es.size=xs.length:=size_of_entries hea;have szb:es'.size=ys.length:=size_of_entries heb;unfold Builtin.Dict.samePairs Builtin.Dict.showsAll;rw[Mu (show¬ (a == sysModules)=true by rw[ha];exact B2),Mu (show¬ (b == sysModules)=true by rw[hb];exact B2)];refine A0 (A2 (A0 (A2 ?_)));refine A0 (M9 hoa hda ?_);dsimp only;refine A0 (M9 hob hdb ?_);rw[Mu (by rw[sza,szb,hl];simp)];refine A0 (NT hoa hda ?_);refine A0 ?_;rw[Std.Legacy.Range.forIn_eq_forIn_range'];simp only[Std.Legacy.Range.size,Nat.sub_zero,Nat.add_sub_cancel,Nat.div_one];refine wpAny_forIn_list _ (λ rest q s'=>s'=s/\q=(none,())/\∃i,rest=List.range' i (es.size - i)/\i<=es.size) _ ?_ ?_ _ _ %[rfl,rfl,0,by simp|E8 _]
 ·rintro x rest q s' ⟨rfl,rfl,i,hrr,hi⟩;have hlt:i < es.size:=by
   rcases Md i es.size with h | h
   ·exact h
   ·rw[Nat.sub_eq_zero_of_le h]at hrr;simp at hrr
  obtain⟨rfl,hrest⟩:x=i/\rest=List.range' (i+1) (es.size - (i+1)):=by
   have e:es.size - i=(es.size - (i+1))+1:=⋯
   rw[e,List.range'_succ]at hrr;injection hrr with h1 h2
   exact%[h1|h2]
  refine A0 (M9 hoa hda ?_);have hlt':x < xs.length:=⋯
  obtain⟨k,p,v,hkv⟩:∃k p v,xs[x]?=some (k,p,v):=%[_,_,_|F2 hlt']
  have hent:es[x]?=some %[knd.hash k,.ref p|v]:=by rw[entry_at hea x,hkv];rfl
  rw[hent];obtain⟨j,p',v',hj,eq1⟩:=al x k p v hkv;have hk:=hisa _ (B6 hkv);show wpAny _ _ (holding _ _ >>= _) _ _ _;refine A0 (M3 (A0 (wpAny_dictFind_heap hr hk hob hdb heb hisb hnb (λ hno=>absurd hj (hno j _)) λ j' p2 hj'=>?_)));have ejj:j'=j:=idxH_unique hnb hj' hj;subst ejj;rw[hj]at hj';cases hj';refine A0 (M9 hob hdb ?_);have hent2:es'[j']?=some %[knd.hash k,.ref p'|v']:=by rw[entry_at heb j',hj];rfl
  rw[hent2];refine M3 ?_;refine eq1 _ _ _ _ ?_;show wpAny _ _ (if (!true)=true then _ else _) _ _ _;rw[Mu ∅];refine A0 (NT hoa hda ?_);rw[Mu (by simp)];exact A2 %[rfl,rfl,x+1,hrest|hlt]
 ·rintro q s' ⟨rfl,rfl,i,hrr,hi⟩;exact A2 h
end
end PySem
namespace L2
open PySem PySem.Spec PyProof.Rows PySem.SeqAt
def iF(ks:Mo Key):Prop:=∀k∈ks,∃n,k=Sum.inl n
theorem sT{P P':F8}{w w':G0}{ks:Mo Key}{vs:Mo G1}(h:ItemsAre (aO P w) ks vs):ItemsAre (aO P' w') ks vs:=by
 induction h with
 | nil=>exact .nil
 | cons h _ ih=>exact .cons h ih
theorem kQ{P P':F8}{w w':G0}{s:F7}{a:Mi}{xs:Mo (Mo Key×Mi×G1)}(hi:∀x∈xs,iF x.1)(da:s.heap.DictOfH (tupleKind (aO P w)) a xs):s.heap.DictOfH (tupleKind (aO P' w')) a xs:=by
 obtain⟨o,es,ep,h1,h2,h3,h4,h5,h6⟩:=da;refine%[o,es,ep,h1,h2,h3,h4.trans (List.map_congr_left λ x hx=>?_),λ x hx=>?_|h6]
 ·have e:x.1.map (uw w)=x.1.map (uw w'):=List.map_congr_left λ k hk=>by
   obtain⟨n,rfl⟩:=hi x hx k hk
   rfl
  show(%[reduceHash (Builtin.Tuple.tupleHashOf (x.1.map (uw w))),_|_]:DictEntry)=%[reduceHash (Builtin.Tuple.tupleHashOf (x.1.map (uw w'))),_|_]
  rw[e]
 ·obtain⟨o',its,n,g1,g2,g3,g4⟩:=h5 x hx;exact%[o',its,n,g1,g2,g3|sT g4]
theorem RcAt.dicts{s:F7}{P:F8}{w:G0}{A:Around}{a b:Mi}{xs ys:Mo (Mo Key×Mi×G1)}(ix:∀x∈xs,iF x.1)(iy:∀x∈ys,iF x.1)(ha:(a == sysModules)=false)(hb:(b == sysModules)=false)(da:s.heap.DictOfH (tupleKind (aO P w)) a xs)(db:s.heap.DictOfH (tupleKind (aO P w)) b ys)(hu:A.units+1 < cLine)(hl:xs.length=ys.length)
  (al:∀(i:Nat)(k:Mo Key)(p:Mi)(v:G1),xs[i]?=some (k,p,v)->∃(j:Nat)(p':Mi)(v':G1),ys[j]?=some (k,p',v')/\EqAt A.in1 s v v' true):RcAt A s (.ref a) (.ref b) true:=λ prog w' E Q h=>by
 have da:=kQ (P':=prog) (w':=w') ix da;have db:=kQ (P':=prog) (w':=w') iy db;refine wpAny_richCompare_same_room (op:=.Eq) da.typeIs db.typeIs PySem.F.slot_dict_eq (F4 PySem.F.slot_dict_eq da.typeIs PySem.F.entry_dict_eq ?_ (PySem.F.args_dict_eq_2 _ _)) ⋯;show wpAny _ _ (Builtin.Dict.dictSlotArgs "__eq__" %[[.ref a,.ref b]|[]] >>= _) _ _ s;refine A0 ?_;unfold Builtin.Dict.dictSlotArgs;refine A0 (wpAny_notOrdered_dict da.typeIs ?_);show wpAny _ _ (pure (Value.ref a,Value.ref b)) _ _ s;refine A2 ?_;refine A0 (Nh (T := "dict") db.typeIs PySem.F.sub_dict_dict ?_);simp only[Bool.not_true,K8,NK];refine A0 (A2 (A0 (A2 ?_)));refine A0 (oW ha hb da db (by show A.units+1 < cLine;omega) hl al ?_);refine A2 %[_,rfl,?_|?_]
 ·exactλ x=>nomatch x
 ·exact h
def EqL(K:C6)(n:Nat)(H:Hp)(v w:V):Prop:=∀(X:Cx)(Mq:Mo (Mi×Obj))(σ:St)(s:F7)(A:Around)(u u':G1),X.K=K->Inv X Mq σ H s->A.units+n < cLine->RelV v u->RelV w u'->EqAt A s u u' true
section
variable{K:C6}{H:Hp}
theorem EqL.int{n:Nat}(i:Int):EqL K n H (.int i) (.int i):=λ X Mq σ s A u u' _ _ _ r r'=>by
 obtain⟨t,rfl⟩:=(show∃t,u=Value.int i t from r)
 obtain⟨t',rfl⟩:=(show∃t,u'=Value.int i t from r')
 have:=EqAt.int_int (A:=A) (s:=s) i t i t';rwa [beq_self_eq_true]at this
theorem EqL.non{n:Nat}:EqL K n H .non .non:=λ X Mq σ s A u u' _ _ _ r r'=>by cases(show u=Value.none from r);cases(show u'=Value.none from r');exact EqAt.same _
theorem fk{n:Nat}{X:Cx}{Mq:Mo (Mi×Obj)}{σ:St}{s:F7}{A:Around}(hK:X.K=K)(I:Inv X Mq σ H s)(hA:A.units+n < cLine):∀{xs ys:Mo V}{us vs:Mo G1},Paired (EqL K n H) xs ys->Vals xs us->Vals ys vs->us.length=vs.length/\∀j (h1:j < us.length) (h2:j < vs.length),EqAt A s us[j] vs[j] true
 | _,_,_,_,.nil,.nil,.nil=>%[O|λ j h=>absurd h (by simp)]
 | _,_,_,_,.cons e es,.cons r rs,.cons q qs=>by
  obtain⟨l,h⟩:=fk hK I hA es rs qs;refine%[by simp[l]|λ j h1 h2=>?_];cases j with
  | zero=>exact e X Mq σ s A _ _ hK I hA r q
  | succ j=>exact h j (by simpa using h1) (by simpa using h2)
theorem oX:∀(l:Mo Nat),(l.all λ _=>true)=true
 | []=>rfl
 | _ :: l=>oX l
theorem EqL.lst{n:Nat}{a b:Mi}{xs ys:Mo V}(ha:H a=↥xs)(hb:H b=↥ys)(p:Paired (EqL K n H) xs ys):EqL K (n+1) H (.ref a) (.ref b):=λ X Mq σ s A u u' hK I hA r r'=>by
 cases(show u=Value.ref a from r);cases(show u'=Value.ref b from r')
 by_cases e:a=b
 ·subst e;exact EqAt.same _
 obtain⟨its,rv,⟨o,m,e1,c1,_,d1⟩,_⟩:=I.list (G4 ha);obtain⟨its',rv',⟨o',m',e1',c1',_,d1'⟩,_⟩:=I.list (G4 hb);obtain⟨l,h⟩:=fk (A:=A.in1) hK I (by show A.units+1+n < cLine;omega) p rv rv';refine EqAt.of_refs e ?_;have:=RcAt.lists (A:=A) (s:=s) (e:=λ _=>true) %[o,e1,c1,m|d1] %[o',e1',c1',m'|d1'] (by simpa using l) ⋯ (λ j h1 h2=>by simpa using h j (by simpa using h1) (by simpa using h2));rwa [oX]at this
theorem EqL.tup{n:Nat}{a b:Mi}{xs ys:Mo V}(ha:H a= ~~~xs)(hb:H b= ~~~ys)(p:Paired (EqL K n H) xs ys):EqL K (n+1) H (.ref a) (.ref b):=λ X Mq σ s A u u' hK I hA r r'=>by
 cases(show u=Value.ref a from r);cases(show u'=Value.ref b from r')
 by_cases e:a=b
 ·subst e;exact EqAt.same _
 obtain⟨its,rv,⟨o,e1,c1,m,d1⟩,_⟩:=I.tuple (G3 ha);obtain⟨its',rv',⟨o',e1',c1',m',d1'⟩,_⟩:=I.tuple (G3 hb);obtain⟨l,h⟩:=fk (A:=A.in1) hK I (by show A.units+1+n < cLine;omega) p rv rv';refine EqAt.of_refs e ?_;have:=RcAt.tuples (A:=A) (s:=s) (e:=λ _=>true) %[o,e1,c1,m|d1] %[o',e1',c1',m'|d1'] ⋯ (λ j h1 h2=>by simpa using h j (by simpa using h1) (by simpa using h2));have el:(its.toArray.size == its'.toArray.size)=true:=by simpa using l
 rwa [oX,Bool.true_and,el]at this
theorem EqL.dT{n:Nat}{a b:Mi}{kvs kws:Mo (Mo Key×V)}(ha:H a=some (.dT kvs))(hb:H b=some (.dT kws))(ia:∀x∈kvs,iF x.1)(ib:∀x∈kws,iF x.1)(hl:kvs.length=kws.length)(p:∀k v,(k,v)∈kvs->∃v',(k,v')∈kws/\EqL K n H v v'):EqL K (n+2) H (.ref a) (.ref b):=λ X Mq σ s A u u' hK I hA r r'=>by
 cases(show u=Value.ref a from r);cases(show u'=Value.ref b from r')
 by_cases e:a=b
 ·subst e;exact EqAt.same _
 obtain⟨_,sa,xs,ka,da⟩:=kO I.hok (.inl ha);obtain⟨_,sb,ys,kb,db⟩:=kO I.hok (.inl hb);have lx:kvs.length=xs.length:=fA ka;have ly:kws.length=ys.length:=fA kb;have ik:∀{l:Mo (Mo Key×V)}{m:Mo (Mo Key×Mi×G1)},KT H l m->(∀x∈l,iF x.1)->∀x∈m,iF x.1:=by intro l m q hi x hx;obtain⟨i,hx⟩:=K1.mp hx;have il:i < m.length:=(A6.mp hx).1;have hk:l[i]?=some (l[i]'(by have:l.length=m.length:=fA q;omega)):=F2 _;obtain⟨y,hy,e1,_⟩:=iD q hk;rw[hx]at hy;cases hy;exact e1 ▸ hi _ (B6 hk)
 refine EqAt.of_refs e (RcAt.dicts (ik ka ia) (ik kb ib) sa sb da db ⋯ ⋯ λ i k q v hi=>?_);have il:i < xs.length:=(A6.mp hi).1;have hk:kvs[i]?=some kvs[i]:=F2 ⋯;obtain⟨⟨k',p2,v2⟩,hy,e1,e2,e3⟩:=iD ka hk;rw[hi]at hy;cases hy;obtain⟨v',hm,ev⟩:=p kvs[i].1 kvs[i].2 (B6 hk);obtain⟨j,hj⟩:=K1.mp hm;obtain⟨⟨k3,p3,v3⟩,hy3,f1,f2,f3⟩:=iD kb hj;have f1:kvs[i].1=k3:=f1;have e1:kvs[i].1=k:=e1;exact%[j,p3,v3,by rw[hy3,<- f1,e1]|ev X Mq σ s A.in1 _ _ hK I (by show A.units+1+n < cLine;omega) e3 f3]
end
section
variable{X:Cx}
inductive rNeE(K:C6)(x:V)(y:V)(H:Hp)(Q:VK):Prop
 | dat (h:rz_op_neN K x y H Q)
 | eq (a b:Mi) (xs ys:Mo V) (h0:x=.ref a) (h1:y=.ref b) (h2:H a=↥xs) (h3:H b=↥ys) (h4:Paired (EqL K 60 H) xs ys) (h5:Q (.bl false) H)
theorem vL(hu:X.A.units+220 < cLine):OpR X (compareOp .NotEq) (rNeE X.K):=by
 intro Mq s σ H x y v u Q I rx ry h;rcases h with h | ⟨a,b,xs,ys,rfl,rfl,ha,hb,p,q⟩
 ·exact lT hu Mq s σ H x y v u Q I rx ry h
 cases rx;cases ry;obtain⟨its,rv,⟨o,m,e1,c1,_,d1⟩,_⟩:=I.list (G4 ha);obtain⟨its',rv',⟨o',m',e1',c1',_,d1'⟩,_⟩:=I.list (G4 hb);obtain⟨l,h⟩:=fk (A:=X.A.in1) rfl I (by show X.A.units+1+60 < cLine;omega) p rv rv';have:=RcNeAt.lists (A:=X.A) (s:=s) (e:=λ _=>true) %[o,e1,c1,m|d1] %[o',e1',c1',m'|d1'] (by simpa using l) ⋯ (λ j h1 h2=>by simpa using h j (by simpa using h1) (by simpa using h2));exact this X.prog X.w _ _ %[.bl false,H,I,by simp[RelV]|q]
end
end L2
namespace PyProof.Rows
open PySem PySem.W
section
variable{prog:F8}{w:G0}{A:Around}{E:G1->F7->Prop}{s:F7}
theorem sU{κ:KeyKind}{κ0:SortKind}{d:Mi}{es:Mm DictEntry}{ep:Nat}{vs:Mo G1}{Q:G1->F7->Prop}(lo:(d == sysModules)=false)(hh:A.handled=none)(hm:OKE d es ep s.heap)(hv:vs=es.toList.map (·.key))(h0:KeysOf κ (pairsOf vs))(hkk:∀ (A':Around) (s':F7),(∀b o,s.heap.get? b=some o->s'.heap.get? b=some o)->cH prog w A' s' κ0 κ/\∀v₁ v₂ rest,vs=v₁ :: v₂ :: rest->∀ (Q:SortKind->F7->Prop) (E':G1->F7->Prop),Q κ0 s'->wpAny (model prog w) A' (keyKind' (v₁ :: v₂ :: rest).toArray) Q E' s')(h64:vs.length < 64)
  (h:∀(st':SortSt)(L:Mi)(h':Heap)(tk e:Nat),(arrOf st').Perm (pairsOf vs)->SortedToK κ (arrOf st') (pairsOf vs).size->(∀b o,s.heap.get? b=some o->h'.get? b=some o)->s.heap.objs.size<=L->h'.get? L=some (seqObj "list" ((arrOf st').map (·.2)) e)->Q (.ref L) { s with heap:=h',toks:=tk }) :
  wpAny (model prog w) A (call (.builtin "sorted") [.ref d]) Q E s:=by
 have hsz:es.size<=sizeLine:=by
  have:es.size=vs.length:=by rw[hv,B4,LP]
  have z:(64:Nat)<=sizeLine:=∅
  omega
 refine Calls.call_function_entry kind_sorted plain_sorted entry_sorted (args_sorted1 _) ?_;unfold Builtin.«sorted»;refine A0 (m:=checkCount "sorted" 1 1 _) (A2 ?_);refine A0 (vI lo (by exact hh) hm hsz λ h1 tk k1 hle=>?_);rw[<- hv];refine A0 (wpAny_newList ?_);have hoL:(h1.push (seqObj "list" vs.toArray 0)).get? h1.objs.size=some (seqObj "list" vs.toArray 0):=A8 _ rfl;show wpAny _ _ _ _ _ { s with heap:=h1.push (seqObj "list" vs.toArray 0),toks:=tk };refine A0 (M3 (F4 slot_list_sort %[_,hoL|rfl] entry_list_sort (iJ hoL h0 (λ s' k=>by
  obtain⟨a1,a2⟩:=hkk _ s' (λ b o e=>k b o (C0 (A9 (k1 b o e))) (A7 _ (k1 b o e)));exact%[a1|λ v1 v2 r e Q q=>a2 v1 v2 r e Q _ q]) h64 λ st' a1 a2=>%[_,O|?_]) (args_list_sort _)))
 obtain⟨e,he⟩:=sortedHeap_at (out:=(arrOf st').map (·.2)) (vs:=vs) hoL;refine A2 %[_,rfl|h st' h1.objs.size _ tk e a1 a2 (λ b o eb=>?_) hle he];have:=A9 (k1 b o eb);rw[sortedHeap_old (C0 this) (by rw[size_push'];exact MP this)];exact A7 _ (k1 b o eb)
end
end PyProof.Rows
namespace L2
open PySem PySem.Spec PyProof.Rows
section
variable{X:Cx}
def vM(xs:Mo V)(H:Hp)(Q:VK):Prop:=∃(p:Mi)(kvs:Mo (Mo Key×V))(sh:Mo Bool)(key:Mo Key->Mo Int),xs=[.ref p]/\Rd H p (.dT kvs)/\kvs.length < 64/\sh.head?=some false/\(∀kv∈kvs,gj sh (kv.1.map kV)=some (key kv.1)) /\
 ∀(l:Mi)(as':Mo Mi)(ks':Mo (Mo Key)),H l=none->Paired (λ a k=>H a= ~~~(k.map kV)) as' ks'->ks'.Perm (kvs.map (·.1))->(ks'.map key).Pairwise (λ x y=>bT y x=false)->Q (.ref l) (upd H l (.lst (as'.map V.ref)))
theorem jD(hc:X.calm=true):bW X (.builtin "sorted") vM:=by
 intro Mq s σ H xs us Q I r h;obtain⟨p,kvs,sh,key,rfl,hp,h64,h0,hk,q⟩:=h;obtain⟨u,rfl,rfl⟩:=eD r;obtain⟨hz,hs,ys,pr,o,es,ep,h1,h2,h3,h4,h5⟩:=(show ObjOk X.prog X.w H s.heap p (.dT kvs)from hp.ok I.hok)
 have yl:ys.length=kvs.length:=(fA pr).symm;have at':∀y∈ys,∃kv∈kvs,kv.1=y.1/\H y.2.1= ~~~(y.1.map kV):=λ y hy=>by obtain⟨j,hj⟩:=K1.mp hy;have jl:j < ys.length:=(A6.mp hj).1;have hkj:kvs[j]?=some kvs[j]:=F2 ⋯;obtain⟨z,hz',z1,z2,_⟩:=iD pr hkj;rw[hj]at hz';cases hz';exact%[_,B6 hkj,z1|by rw[<- z1];exact z2]
 have km:∀y∈ys,jz H sh y.2.1=key y.1/\gj sh (y.1.map kV)=some (key y.1):=λ y hy=>by obtain⟨kv,m,e1,e2⟩:=at' y hy;have f:=hk kv m;rw[e1]at f;exact%[xR e2 f|f]
 obtain⟨as,has⟩:∃as,as=ys.map (·.2.1):=%[_|O]
 have ev:es.toList.map (·.key)=as.map Value.ref:=by rw[h4,has,LO,LO];rfl
 have tu:∀a∈as,∃o us n,s.heap.get? a=some o/\o.cls=.type "tuple" /\ o.data=.seq (List.toArray us) n/\cb sh us=some (jz H sh a):=λ a ha=>by rw[has]at ha;obtain⟨y,hy,rfl⟩:=J0.mp ha;obtain⟨kv,m,e1,e2⟩:=at' y hy;obtain⟨k1,k2⟩:=km y hy;obtain⟨us,r,⟨o,e,c,n,d⟩,_⟩:=I.tuple (G3 (K:=X.K) e2);exact%[o,us,n,e,c,d|by rw[k1];exact oP r k2]
 have kof:∀a∈as,(sH s.heap sh).keyOf (.ref a)=some (jz H sh a):=λ a ha=>by
  obtain⟨o,us,n,e,c,d,f⟩:=tu a ha;show(match s.heap.get? a with
   | some o=>match o.data with
    | .seq xs _=>cb sh xs.toList
    | _=>none
   | none=>none)=some (jz H sh a)
  rw[e];show(match o.data with
    | .seq xs _=>cb sh xs.toList
    | _=>none)=some (jz H sh a)
  rw[d];exact f
 have al:as.length=kvs.length:=by rw[has,B4,yl]
 refine sU (κ:=sH s.heap sh) (κ0:=tuples' true) hs (I.ok.hd hc) %[o,h1,h2|h3] ev.symm ?keys ?kk (by rw[B4];omega) λ st' L h' tk e hp hs' kp hL he=>?_
 case keys=>
  intro pr hpr;rw[pairsOf_toList]at hpr;obtain⟨a,ha,e⟩:=J0.mp (Mf (show(pr.1,pr.2)∈_ from hpr)).1;exact%[jz H sh a|by rw[<- e];exact kof a ha]
 case kk=>
  intro A' s' k;refine%[sI h0 k|λ v1 v2 rest e Q E' q=>?_];obtain⟨fs,f1,f2,f3⟩:=iC (h:=s'.heap) (key:=jz H sh) h0 as λ a ha=>by obtain⟨o,us,n,e,c,d,f⟩:=tu a ha;exact%[o,us,n,k _ _ e,c,d|f]
  rw[e]at f1;have:(as.map Value.ref).length=rest.length+2:=by rw[e];rfl
  rw[B4]at this;refine PySem.W.kat_kind (T:=.type "int") f1 ⋯ (λ v hv=>?_) rfl q;obtain⟨i,t,rfl⟩:=f3 v hv;exact PySem.W.Looks.of_pure rfl
 have pz:∀l:Mo Mi,(l.map Value.ref).zip (l.map Value.ref)=l.map λ a=>(Value.ref a,Value.ref a):=λ l=>by
  induction l with
  | nil=>rfl
  | cons a l ih=>rw[G9,List.zip_cons_cons,ih,G9]
 have hp':=Array.perm_iff_toList_perm.mp hp;rw[pairsOf_toList,pz]at hp';obtain⟨as',ea,pa⟩:=vA (f:=λ a=>(Value.ref a,Value.ref a)) (λ pr=>match pr.1 with
  | .ref a=>some a
  | _=>none) (λ a=>rfl) hp'
 have eo:((arrOf st').map (·.2)).toList=as'.map Value.ref:=by rw[Array.toList_map,ea,LO];rfl
 have hn:H L=none:=I.hok.fresh hL;obtain⟨ys',ey,py⟩:=iE (λ y:Mo Key×Mi×Value=>y.2.1) pa ys has;have my:∀y∈ys',y∈ys:=λ y hy=>py.mem_iff.mp hy;have pk:∀zs:Mo (Mo Key×Mi×G1),(∀y∈zs,y∈ys)->Paired (λ a k=>H a= ~~~(List.map kV k)) (zs.map λ y=>y.2.1) (zs.map (·.1)):=λ zs=>by
  induction zs with
  | nil=>intro _;exact .nil
  | cons z zs ih=>intro hz;exact .cons (let ⟨_,_,_,e2⟩:=at' z (hz z B8);e2) (ih λ y hy=>hz y (B5 _ hy))
 have ek:kvs.map (·.1)=ys.map (·.1):=by
  refine List.ext_getElem? λ j=>?_;rw[G8,G8]
  by_cases c:j < kvs.length
  ·rw[F2 c];obtain⟨z,hz',z1,_⟩:=iD pr (F2 c);rw[hz',Option.map_some,Option.map_some,z1]
  ·rw[MG ⋯,MG ⋯];rfl
 refine%[.ref L,upd H L (.lst (as'.map V.ref)),I.laid (o:=.lst (as'.map V.ref)) (t':=tk) kp hL (show ObjOk _ _ _ _ _ (.lst _)from%[?_,((arrOf st').map (·.2)).toList,e,?_|?_]),O|q L as' (ys'.map (·.1)) hn ?_ ?_ ?_]
 ·rw[B4,pa.length_eq];have:(64:Nat)<=sizeLine:=∅
  omega
 ·rw[eo];exact hG as'
 ·rw[he]
 ·rw[ey];exact pk ys' my
 ·rw[ek];exact py.map _
 ·have e0:(ys'.map (·.1)).map key=as'.map (jz H sh):=by rw[ey,LO,LO];exact List.map_congr_left λ y hy=>(km y (my y hy)).1.symm
  rw[e0,List.pairwise_iff_getElem];intro i j hi hj hij;rw[B4]at hi hj;have sz:(pairsOf (as.map Value.ref)).size=as.length:=by rw[pairsOf_size,B4]
  have kk:∀i (hi:i < as'.length),KK (sH s.heap sh) (arrOf st') i=jz H sh as'[i]:=λ i hi=>by
   have e:(arrOf st')[i]?=some (Value.ref as'[i],Value.ref as'[i]):=by rw[<- LX,ea,G8,F2 hi];rfl
   unfold KK;rw[e];show((sH s.heap sh).keyOf (.ref as'[i])).getD _=_;rw[kof _ (pa.mem_iff.mp (Mc hi))];rfl
  have:=hs' i j ⋯ (by rw[sz,<- pa.length_eq];exact hj);rw[kk i hi,kk j hj]at this;rw[List.getElem_map,List.getElem_map];exact this
end
end L2
namespace Pc
open PySem L2
def top(i:Nat):Stmt:=PySem.Challenge.pw_platecuts_k74_bundles_refused.main.body.getD i (.Pass %[0,0,0|0])
abbrev lU:Stmt:=top 16
abbrev lV:Stmt:=top 17
abbrev xV:Stmt:=top 18
abbrev bO:Stmt:=top 19
abbrev bP:Stmt:=top 20
abbrev iQ:Stmt:=top 24
abbrev dL:Stmt:=top 25
abbrev fm:Stmt:=top 26
abbrev eg:Stmt:=top 27
abbrev cQ:Stmt:=top 28
abbrev bQ:Stmt:=top 34
abbrev ci:Stmt:=top 35
abbrev gq:Stmt:=top 36
abbrev dM:Stmt:=top 37
abbrev cj:Stmt:=top 38
abbrev bp:Stmt:=top 39
abbrev cq:Stmt:=top 40
abbrev aU:Stmt:=top 41
abbrev gr:Stmt:=top 43
abbrev eW:Stmt:=top 44
abbrev bw:Stmt:=top 45
abbrev bD:Stmt:=top 46
abbrev bz:Stmt:=top 47
abbrev cL:Stmt:=top 48
abbrev iR:Stmt:=top 52
abbrev iS:Stmt:=top 53
abbrev dN:Stmt:=inClass (top 54) 0
abbrev eh:Stmt:=inClass (top 54) 1
abbrev ei:Stmt:=inClass (top 54) 2
abbrev cA:Stmt:=inClass (top 54) 3
abbrev dg:Stmt:=inClass (top 54) 4
abbrev cJ:Stmt:=inClass (top 54) 5
abbrev ej:Stmt:=inClass (top 54) 6
abbrev rn:Stmt:=top 56
abbrev xW:Stmt:=top 57
abbrev rp:Stmt:=top 58
abbrev lW:Stmt:=top 59
abbrev gu:Stmt:=top 60
abbrev eX:Stmt:=top 61
abbrev lX:Stmt:=top 62
abbrev eY:Stmt:=top 63
abbrev nw:Stmt:=top 64
abbrev jE:Stmt:=top 65
abbrev ny:Stmt:=top 66
@[elab_as_elim] theorem aH{H:Hp}{t:Mi}{o:HO}{P:Hp->Prop}(ht:H t=none)(h:∀H',H' t=some o->Same H H'->P H'):P (upd H t o):=h _ ah (G2 ht)
section
variable{P:F8}{w:G0}{K:C6}{mg:Str->Ml G1}{base:Heap}
structure Blt(mg:Str->Ml Value):Prop where
 isi:mg "isinstance" = none
 int:mg "int" = none
 bool:mg "bool" = none
 list:mg "list" = none
 tuple:mg "tuple" = none
 len:mg "len" = none
 range:mg "range" = none
 max:mg "max" = none
 min:mg "min" = none
 abs:mg "abs" = none
 divmod:mg "divmod" = none
 sum:mg "sum" = none
 sorted:mg "sorted" = none
 all:mg "all" = none
 repr:mg "repr" = none
 zip:mg "zip" = none
 enumerate:mg "enumerate" = none
 mostk:∃t,mg "MOST_KINDS" = some (.int 8 t)
 fivek:∃t,mg "THINGS_OF_A_KIND" = some (.int 5 t)
theorem Aj{xs:Mo V}{i:Int}(h0:0<=i)(h1:i < xs.length):∃v,atI xs i=some v/\v∈xs:=by
 have hk:i.toNat < xs.length:=⋯
 exact%[xs[i.toNat],qW h0 (F2 hk)|Mc hk]
theorem Ak{p c:Mi}{H0 H:Hp}{o:HO}(b:But p H0 H)(pt:PotB H p)(h:H c=none):∃H',upd H c o=H'/\H' c=some o/\c≠p/\Same H H'/\But p H0 H'/\PotB H' p :=
 %[_,rfl,ah,Ne.symm (pt.ne h),G2 h,b.trans (But.new h)|pt.new h]
theorem iU{t u:TS}{D:Ends}{σ:St}{H:Hp}(C:(St->Hp->Prop)->Prop)(h1:∀R:St->Hp->Prop,C R->t { D with nx:=R } σ H)(h2:C (u D)):xi t u D σ H:=h1 _ h2
theorem ao{t u:TS}{D:Ends}{σ:St}{H:Hp}(C:(St->Hp->Prop)->Prop)(h1:∀D':Ends,C D'.nx->t D' σ H)(h2:C (u D)):xi t u D σ H:=h1 _ h2
theorem KH{P:Prop}(h:∀G:Prop,(P->G)->G):P:=h P id
theorem bH{t u:TS}{D:Ends}{σ:St}{H:Hp}(J:St->Hp->Prop)(h1:∀R:St->Hp->Prop,(∀σ' H',J σ' H'->R σ' H')->t { D with nx:=R } σ H)(h2:∀σ' H',J σ' H'->u D σ' H'):xi t u D σ H:=h1 _ h2
theorem xX:FnScope ["thing","least"] ["thing","least"] (defScope lU):=%[O,O,O,∅,O,∅|∅]
theorem vN{f:Mi}{fd:F9}(F:Fun K "is_whole" "is_whole" lU f fd)(B:Blt mg):FnOk P w K mg base CX0 1 f fd ["thing","least"] (dZ K):=by
 exists xX
 ·obtain⟨x,T,l,rfl,_⟩:=h
  rfl
 obtain⟨x,T,l,rfl,⟨tn,ty⟩,q⟩:=h;refine⟨_,ai (au (fC (ap eQ rfl B.isi Mv (ad (pv 0) (ad (fb (v:=.ty "int") rfl B.int PyProof.Rows.boot_int rfl) ae)))
  (fC (uA (ap eQ rfl B.isi Mv (ad (pv 0) (ad (fb (v:=.ty "bool") rfl B.bool PyProof.Rows.boot_bool rfl) ae))))
  (fB (bF yX (pv 0) (pv 1) (ay _)))))),?_⟩
 refine%[_,O,x,_,_,_,_,O,ty,O,xD T tn,_,O|?_];have tb:=qQ ty;refine cX (λ c=>?_) (λ c=>?_)
 ·refine%[_,O,x,_,_,_,_,O,ty,O,mQ T tn,_,O,_,O|?_];refine cX (λ c2=>?_) (λ c2=>?_)
  ·have hT:(T == "int")=true:=by
    have:(T == "bool")=false:=by simpa using c2
    rw[this,Bool.or_false]at c;exact c
   obtain⟨i,rfl⟩:=zL ty tn hT;exact%[_,O,_,O,_,_,O,O|q]
  ·have hT:rZ x=true:=by
    rw[<- tb];cases e:(T == "bool")with
    | true=>rfl
    | false=>rw[e]at c2;exact absurd rfl c2
   cases x <;> first | exact q | (exact absurd hT B2)
 ·have hx:aQ x l=false:=by
   cases x with
   | int i=>
    exfalso;have ty':=ty;generalize hv:Value.type T=tv at ty';cases ty' with
    | int=>cases hv;exact c rfl
   | _=>rfl
  rw[hx]at q;exact q
theorem xY:FnScope ["thing"] ["thing"] (defScope lV):=%[O,O,O,∅,O,∅|∅]
theorem vO{f:Mi}{fd:F9}(F:Fun K "is_truth" "is_truth" lV f fd)(B:Blt mg):FnOk P w K mg base CX0 1 f fd ["thing"] (lE K):=by
 exists xY
 ·obtain⟨x,T,rfl,_⟩:=h
  rfl
 obtain⟨x,T,rfl,⟨tn,ty⟩,q⟩:=h;refine%[_,ai (au (ap eQ rfl B.isi Mv (ad (pv 0) (ad (fb (v:=.ty "bool") rfl B.bool PyProof.Rows.boot_bool rfl) ae))))|?_];refine%[_,O,x,_,_,_,_,O,ty,O,mQ T tn|?_];rw[qQ ty];exact q
theorem EC:FnScope ["thing"] ["thing"] (defScope xV):=%[O,O,O,∅,O,∅|∅]
theorem Al{f:Mi}{fd:F9}(F:Fun K "is_row" "is_row" xV f fd)(B:Blt mg):FnOk P w K mg base CX0 1 f fd ["thing"] (uY K):=by
 exists EC
 ·obtain⟨x,T,rfl,_⟩:=h
  rfl
 obtain⟨x,T,rfl,ty,q⟩:=h;refine%[_,ai (au (ap lC rfl B.isi Mv (ad (pv 0) (ad (aP (ad (fb (v:=.ty "list") rfl B.list NI rfl) (ad (fb (v:=.ty "tuple") rfl B.tuple M4 rfl) ae))) ae))))|?_];refine%[_,O,zS2|λ p hp=>?_];have s1:Same H (upd H p (.tup [.ty "list",.ty "tuple"])):=λ b o e=>by rw[aj (ak e hp)];exact e
 have t2:=Ty.same s1 ty;exact%[x,p,_,_,_,_,O,t2.2,ah,O,xE T ty.1|q _ s1]
theorem scIsKind:FnScope ["thing","wide","high","worth","wanted","turns"] ["thing"] (defScope iR):=%[O,O,O,∅,O,∅|∅]
theorem sV{f:Mi}{fd:F9}(F:Fun K "is_kind" "is_kind" iR f fd)(B:Blt mg)(DW:Dn P w K mg base "is_whole" ["thing","least"] 1 (dZ K))(DT:Dn P w K mg base "is_truth" ["thing"] 1 (lE K))(DR:Dn P w K mg base "is_row" ["thing"] 1 (uY K)) :
  FnOk P w K mg base CX0 2 f fd ["thing"] (jf K):=by
 exists scIsKind
 ·obtain⟨x,T,rfl,_⟩:=h
  rfl
 obtain⟨x,T,rfl,ty,q⟩:=h;obtain⟨tk,htk⟩:=B.fivek;have nd:=scIsKind.nd;refine⟨_,af (aS (PW.pt (dB (bj (aY (aq DR hr rfl (ad (pv 0) ae)))) (dj (aB uF (ap aE rfl B.len M8 (ad (pv 0) ae)) (aI (v:=.int 5) rfl htk %[tk|O]) (ay _))))) (ai (au cw)) av)
  (af (bG (pv 0) (uV rfl (ar (am (i:=1) nd rfl (Or.inl rfl)) (ar (am (i:=2) nd rfl (Or.inl rfl)) (ar (am (i:=3) nd rfl (Or.inl rfl)) (ar (am (i:=4) nd rfl (Or.inl rfl)) (ar (am (i:=5) nd rfl (Or.inl rfl)) bn)))))))
  (af (aS (PW.pt (dB (bj (aY (aq DW hr rfl (ad (pv 1) (ad ag ae))))) (dj (bj (aY (aq DW hr rfl (ad (pv 2) (ad ag ae)))))))) (ai (au cw)) av)
  (ai (au (fC (aq DW hr rfl (ad (pv 3) (ad ag ae))) (fC (aq DW hr rfl (ad (pv 4) (ad ag ae))) (fB (aq DT hr rfl (ad (pv 5) ae))))))))),?_⟩
 refine%[_,O,x,T,O,ty|λ H1 s1=>%[_,O|?_]];rcases q with⟨n1,n2,q⟩ | ⟨a,xs,rfl,hx,its,q⟩
 ·have e:(T == "list" || T == "tuple")=false:=by simp[n1,n2]
  rw[e];refine bM (bM ?_);exact q H1 s1
 ·have e:(T == "list" || T == "tuple")=true:=by
   have t2:=ty.2;generalize hv:Value.type T=tv at t2;generalize hr:V.ref a=rv at t2;cases t2 with
   | lst _=>cases hv;rfl
   | frz _=>cases hv;rfl
   | tup _=>cases hv;rfl
   | dK e=>cases hr;rcases hx with z | z <;> (rw[z]at e;cases e)
   | dT e=>cases hr;rcases hx with z | z <;> (rw[z]at e;cases e)
   | ext e _=>cases hr;rcases hx with z | z <;> (rw[z]at e;cases e)
   | ins=>cases hv
   | _=>cases hr
  rw[e];have sq:SqL K H1 a xs\/SqT K H1 a xs:=by
   rcases hx with z | z
   ·exact .inl (G4 (s1 _ _ z))
   ·exact .inr (G3 (s1 _ _ z))
  refine aZ %[_,rfl,a,xs,rfl,sq,rfl,_,rfl|?_];refine cX (λ c=>?_) (λ c=>?_)
  ·have hl:xs.length≠5:=λ z=>by rw[z]at c;exact absurd c ∅
   have:kH xs=false:=by
    unfold kH
    split
    ·exact absurd rfl hl
    ·rfl
   rw[this]at q;exact q H1 s1
  ·have hl:xs.length=5:=by
    by_cases z:xs.length=5
    ·exact z
    ·exfalso;refine c ?_;have:¬ (V.int (xs.length:Int)=V.int 5):=λ h=>z (by have:=V.int.inj h;omega);rw[M0 this];rfl
   obtain⟨x1,x2,x3,x4,x5,rfl⟩:∃x1 x2 x3 x4 x5,xs=[x1,x2,x3,x4,x5]:=by
    match xs,hl with
    | [a,b,c,d,e],_=>exact%[a,b,c,d,e|O]
   obtain⟨T1,t1⟩:=its x1 (by simp);obtain⟨T2,t2⟩:=its x2 (by simp);obtain⟨T3,t3⟩:=its x3 (by simp);obtain⟨T4,t4⟩:=its x4 (by simp);obtain⟨T5,t5⟩:=its x5 (by simp);refine%[_,O,a,_,O,sq,O,x1,_,O,x2,_,O,x3,_,O,x4,_,O,x5,_,O,O|?_];refine%[_,O,x1,T1,1,O,Ty.same s1 t1,_,O|?_];have q':∀b,kH [x1,x2,x3,x4,x5]=b->Q (.bl b) H1:=λ b e=>by rw[<- e];exact q H1 s1
   have k5:kH [x1,x2,x3,x4,x5]=(aQ x1 1 && aQ x2 1 && aQ x3 0 && aQ x4 0 && rZ x5):=rfl;cases w1:aQ x1 1 with
   | false=>
    refine bM (bM ?_);exact q' false (by rw[k5,w1];rfl)
   | true=>
    refine aZ %[_,rfl,x2,T2,1,rfl,Ty.same s1 t2,_,rfl|?_];cases w2:aQ x2 1 with
    | false=>
     refine bM ?_;exact q' false (by rw[k5,w1,w2];rfl)
    | true=>
     refine aZ %[_,rfl,x3,T3,0,rfl,Ty.same s1 t3,_,rfl|?_];cases w3:aQ x3 0 with
     | false=>
      refine aZ ?_;exact q' false (by rw[k5,w1,w2,w3];rfl)
     | true=>
      refine bM %[_,rfl,x4,T4,0,rfl,Ty.same s1 t4,_,rfl|?_];cases w4:aQ x4 0 with
      | false=>
       refine aZ ?_;exact q' false (by rw[k5,w1,w2,w3,w4];rfl)
      | true=>
       refine bM %[_,rfl,x5,T5,rfl,Ty.same s1 t5|?_];exact q' _ (by rw[k5,w1,w2,w3,w4];rfl)
theorem scInit:FnScope ["self","blade","kinds","kind"] ["self","blade","kinds"] (defScope dN):=%[O,O,O,∅,O,∅|∅]
theorem xZ{f C:Mi}{fd:F9}(F:Fun K "__init__" "Shop.__init__" dN f fd)(B:Blt mg)(T:ShopTxt K C)(DW:Dn P w K mg base "is_whole" ["thing","least"] 1 (dZ K))(DR:Dn P w K mg base "is_row" ["thing"] 1 (uY K))
  (DK:Dn P w K mg base "is_kind" ["thing"] 2 (jf K)):FnOk P w K mg base CX0 3 f fd ["self","blade","kinds"] (oF C):=by
 exists scInit
 ·obtain⟨x,dx,ks,b,rs,kds,rfl,_⟩:=h
  rfl
 obtain⟨x,dx,ks,b,rs,kds,rfl,hx,b0,hks,hrs,hgd,n1,n8,q⟩:=h;have hr1:=hr.mono (show 1<=2 by decide);obtain⟨tk,htk⟩:=B.mostk;have nd:=scInit.nd;have n8':(8:Nat) < sizeLine:=∅
 refine⟨_,af (aS (bj (aY (aq DW hr1 rfl (ad (pv 1) (ad ag ae))))) gN av)
  (af (aS (PW.pt (dB (bj (aY (aq DR hr1 rfl (ad (pv 2) ae)))) (dj (bj (uG mI mI ag (ap aE rfl B.len M8 (ad (pv 2) ae)) (aI (v:=.int 8) rfl htk %[tk|rfl])))))) gN av)
  (af (bU E4 rfl (uW (pv 2)) (am (i:=3) nd rfl (Or.inl rfl)) (ai (aS (bj (aY (aq DK hr rfl (ad (pv 3) ae)))) gN av)))
  (af (uK (pv 0) (pv 1) rfl)
  (ai (uK (pv 0) (aT aW rfl B.tuple M4 (ad (br (own:=["kind"]) (cs:=[]) (cap:=[]) rfl (uW (pv 2))
   (az (sc:=defScope dN) (N:=["self","blade","kinds","kind"]) rfl rfl ∅)
   (λ _ _ _ _ _=>am (i:=0) (by show List.Nodup (["kind"]:Mo Str);decide +kernel) rfl (Or.inl rfl) (Or.inr rfl)) (λ _ _ _ _ _=>aJ)
   (λ _ _ _ _ _=>aT (r:=uZ K) aW rfl B.tuple M4 (ad (pv 0) ae))) ae)) rfl))))),?_⟩
 refine%[_,O,.int b,_,0,O,.int,_,O|?_];have wb:aQ (.int b) 0=true:=B0 b0;rw[wb];refine aZ ?_;have tyk:∃T,Ty K H (.ref ks) T/\(T == "list" || T == "tuple")=true:=by
  rcases hks with e | e
  ·exact%[_,.lst e|O]
  ·exact%[_,.tup e|O]
 obtain⟨T0,ty0,te0⟩:=tyk;refine%[_,O,.ref ks,T0,O,ty0|λ H1 s1=>%[_,O|?_]];rw[te0];have sq:∀{H2:Hp},Same H H2->SqL K H2 ks rs\/SqT K H2 ks rs:=λ s2=>by
  rcases hks with z | z
  ·exact .inl (G4 (s2 _ _ z))
  ·exact .inr (G3 (s2 _ _ z))
 refine aZ %[_,rfl,ks,rs,rfl,sq s1,_,_,rfl,rfl,_,rfl|?_];rw[Mx (show(1:Int)<=(rs.length:Int)by omega)];refine bM %[_,_,rfl,rfl,_,rfl|?_];rw[Mx (show(rs.length:Int)<=8 by omega)];refine aZ ?_;have Az:=E3 hrs;refine vb (j:=2) (a:=ks) (xs:=rs) rfl (hks.imp (λ z=>s1 _ _ z) λ z=>s1 _ _ z) (λ i σ H2=>∃v,σ=[↑x,⇑b,↑ks,v]/\Same H1 H2) %[none,rfl|Same.refl _] (λ i σ H2 _ ⟨_,_,s2⟩ o e=>s2 _ _ e) ?_ ?_
 ·rintro i y σ H2 hi ⟨v,rfl,s2⟩;obtain⟨k,hk,rk⟩:=G6 hrs hi;refine%[_,O|?_];simp only[eI,K6];refine se ((rk.same s1).same s2) (hgd k (B6 hk)) λ H3 s3=>%[_,O|aZ ?_]
  exact%[_,O|s2.trans s3]
 rintro σ H2 ⟨v,rfl,s12⟩;have s2:Same H H2:=s1.trans s12;refine%[_,O,_,O,x,C,dx,[],O,s2 _ _ hx,T.cl,T.nB,(by show 0 < 1000;decide)|?_];have k3:∀c o,c≠x->H c=some o->(upd H2 x (.ins C dx (cW "blade_width" (.int b) []))) c=some o:=λ c o n e=>by rw[aj n];exact s2 c o e
 have x3:(upd H2 x (.ins C dx (cW "blade_width" (.int b) []))) x=some (.ins C dx (cW "blade_width" (.int b) [])):=ah;generalize upd H2 x (.ins C dx (cW "blade_width" (.int b) []))=H3 at k3 x3 ⊢;have rx:∀c xs,H c=↥xs\/H c= ~~~xs->c≠x:=λ c xs e z=>by subst z;rcases e with e | e <;> (rw[hx]at e;cases e)
 dsimp only[Ej,tCB,uL];refine sd (j:=2) (a:=ks) (xs:=rs) rfl (hks.imp (λ z=>k3 _ _ (rx _ _ (.inl z)) z) λ z=>k3 _ _ (rx _ _ (.inr z)) z) (λ i ys H4=>ys.length=i/\Same H3 H4/\Tups H4 ys (kds.take i)) (λ i ys H4 _ ⟨_,s4,_⟩ o e=>s4 _ _ e) %[rfl,Same.refl _|.nil] ?_ ?_
 ·rintro i y ys H4 hi ⟨hy,s4,ty4⟩;have hin:i < rs.length:=(A6.mp hi).1;obtain⟨k,hk,rk⟩:=G6 hrs hi;have tk1:kds.take (i+1)=kds.take i ++ [k]:=by rw[J8,hk];rfl
  refine%[⋯,leS.set rfl|aK ?_];rcases rk with⟨a,rfl,h⟩ | ⟨a,rfl,h⟩
  ·have h4:=s4 _ _ (k3 _ _ (rx _ _ (.inr h)) h);exact%[_,O,a,_,O|.inr %[G3 h4|Nx.of hin %[by rw[J5,hy];rfl,s4|by rw[tk1];exact Paired.snoc ty4 %[a,O|h4]]]]
  ·have h4:=s4 _ _ (k3 _ _ (rx _ _ (.inl h)) h);refine%[_,O,a,_,O|.inl %[G4 h4|λ l hl=>Nx.of hin %[by rw[J5,hy];rfl,λ c o e=>?_|?_]]]
   ·have e4:=s4 c o e;rw[aj (ak e4 hl)];exact e4
   ·rw[tk1];exact Paired.snoc (Tups.keep (λ c xs e=>by rw[aj (ak e hl)];exact e) ty4) %[l,rfl|ah]
 rintro ys H4 ⟨hy,s4,ty4⟩;refine%[⋯|λ p hp=>?_];refine%[p,ys,O|.inl %[G4 ah|λ r hr'=>?_]];have hpr:r≠p:=λ z=>by rw[z,ah]at hr';cases hr'
 have hr4:H4 r=none:=by rw[aj hpr]at hr';exact hr'
 have x4:=s4 _ _ x3;have xp:x≠p:=ak x4 hp;have xr:x≠r:=ak x4 hr4;refine%[_,O,x,C,dx,_,O,(by rw[aj xr,aj xp];exact x4),T.cl,T.nK,(C8 (eN _ _ _) ∅)|?_];rw[Az,LL]at ty4;refine q _ %[dx,r,ys,ah,by rw[aj (Ne.symm xr),ah]|?_] λ c o n e=>?_
 ·refine Tups.keep (λ c xs e=>?_) ty4;rw[aj (λ z=>by rw[z,x4]at e;cases e),aj (ak e hr4),aj (ak e hp)];exact e
 ·have e4:=s4 _ _ (k3 c o n e);rw[aj n,aj (ak e4 hr4),aj (ak e4 hp)];exact e4
theorem yb:FnScope ["self"] ["self"] (defScope eh):=%[O,O,O,∅,O,∅|∅]
theorem vP{f C:Mi}{fd:F9}(F:Fun K "blade" "Shop.blade" eh f fd)(T:ShopTxt K C):FnOk P w K mg base CX0 1 f fd ["self"] (iO C):=by
 exists yb
 ·obtain⟨x,b,ks,rfl,_⟩:=h
  rfl
 obtain⟨x,b,ks,rfl,⟨dx,r,rs,h1,h2,h3⟩,q⟩:=h;exact%[_,ai (au (fH (pv 0) rfl)),_,O,x,C,dx,_,_,O,h1,T.cl,T.nB,oE _ _|q]
theorem yc:FnScope ["self"] ["self"] (defScope ei):=%[O,O,O,∅,O,∅|∅]
theorem vQ{f C:Mi}{fd:F9}(F:Fun K "kinds" "Shop.kinds" ei f fd)(T:ShopTxt K C)(ml:mg "list" = none):FnOk P w K mg base CX0 1 f fd ["self"] (lF C):=by
 exists yc
 ·obtain⟨x,b,ks,rfl,_⟩:=h
  rfl
 obtain⟨x,b,ks,rfl,⟨dx,r,rs,h1,h2,h3⟩,q⟩:=h;refine%[_,ai (au (aT dW rfl ml NI (ad (fH (pv 0) rfl) ae)))|?_];exact%[_,O,x,C,dx,_,_,O,h1,T.cl,T.nK,cK _ _,r,rs,O,.inr (G3 h2)|λ l hl=>q l rs hl h3]
theorem vR:FnScope ["kind"] ["kind"] (defScope iS):=%[O,O,O,∅,O,∅|∅]
theorem sW{f:Mi}{fd:F9}(F:Fun K "can_lie_turned" "can_lie_turned" iS f fd):FnOk P w K mg base CX0 1 f fd ["kind"] (jm K):=by
 exists vR
 ·obtain⟨a,k,rfl,_⟩:=h
  rfl
 obtain⟨a,k,rfl,ha,q⟩:=h;refine%[_,ai (au (fC (aN bY (pv 0) ag (λ _ _=>rfl)) (fB (bF uF (aN bY (pv 0) ag (λ _ _=>rfl)) (aN bY (pv 0) ag (λ _ _=>rfl)) (ay _)))))|?_];refine%[_,O,a,_,4,_,O,O,G3 ha,O,_,O|?_];unfold bJ at q;refine cX (λ c=>?_) (λ c=>?_)
 ·rw[c,Bool.true_and]at q;refine%[_,O,a,_,0,_,O,O,G3 ha,O,_,O,a,_,1,_,O,O,G3 ha,O,O|?_];rw[lj];rw[show(decide (k.w=k.h))=(k.w == k.h)from rfl]at q;exact q
 ·have c':k.tu=false:=by simpa using c
  rw[c',Bool.false_and]at q;exact q
theorem scLyings:FnScope ["self","told","number","kind"] ["self"] (defScope dg):=%[O,O,O,∅,O,∅|∅]
theorem sX{f C:Mi}{fd:F9}(F:Fun K "lyings" "Shop.lyings" dg f fd)(T:ShopTxt K C)(me:mg "enumerate" = none)(DT:Dn P w K mg base "can_lie_turned" ["kind"] 1 (jm K)) :
  FnOk P w K mg base CX0 2 f fd ["self"] (jn C):=by
 exists scLyings
 ·obtain⟨x,b,ks,rfl,_⟩:=h
  rfl
 obtain⟨x,b,ks,rfl,⟨dx,r,rs,h1,h2,h3⟩,n8,q⟩:=h;have nd:=scLyings.nd;refine⟨_,af (aA (i:=1) nd rfl (Or.inl rfl) (aX ae))
  (af (bU E4 rfl (qS rfl me (ad (fH (pv 0) rfl) ae)) (bL rfl (ar (am (i:=2) nd rfl (Or.inl rfl)) (ar (am (i:=3) nd rfl (Or.inl rfl)) bn)))
   (af (bq (iZ F6 PySem.F.slot_list_append PySem.F.type_list_append fc (pv 1) (ad (aP (ad (pv 2) (ad cw ae))) ae)))
   (ai (aS (aY (aq DT hr rfl (ad (pv 3) ae)))
    (ai (bq (iZ F6 PySem.F.slot_list_append PySem.F.type_list_append fc (pv 1) (ad (aP (ad (pv 2) (ad cw ae))) ae)))) av))))
  (ai (au (pv 1)))),?_⟩
 refine%[∅|λ l hl=>?_];have s1:Same H (upd H l (.lst [])):=G2 hl;have l1:(upd H l (.lst ([]:Mo V))) l=↥[]:=ah;generalize upd H l (.lst ([]:Mo V))=H1 at s1 l1 ⊢;have wP:=E3 h3;have n8':(100:Nat) < sizeLine:=∅
 refine%[_,O,x,C,dx,_,_,O,s1 _ _ h1,T.cl,T.nK,cK _ _,r,rs,O|.inr %[s1 _ _ h2|?_]];refine vf (f:=HO.tup) (λ _ _ e=>HO.tup.inj e) (xs:=rs) (λ i σ H2=>∃v2 v3 ys,σ=[↑x,↑l,v2,v3]/\Same H H2/\H2 l=↥ys/\Lys H2 ys (lyK (ks.take i) 0)) %[none,none,[],rfl,s1,l1|.nil]
  (λ i σ H2 ⟨_,_,_,_,s2,_⟩=>s2 _ _ h2) ?_ ?_
 ·rintro i y p σ H2 hi hp ⟨v2,v3,ys,rfl,s2,l2,y2⟩;obtain⟨k,hk,a,rfl,ha⟩:=G6 h3 hi;have s3:Same H (upd H2 p (.tup [.int i,.ref a])):=s2.trans (G2 hp);have l3:(upd H2 p (.tup [.int (i:Int),.ref a])) l=↥ys:=by rw[aj (ak l2 hp)];exact l2
  have y3:Lys (upd H2 p (.tup [.int (i:Int),.ref a])) ys (lyK (ks.take i) 0):=Lys.keep (λ c xs e=>by rw[aj (ak e hp)];exact e) y2;have p3:(upd H2 p (.tup [.int (i:Int),.ref a])) p= ~~~[.int (i:Int),.ref a]:=ah;generalize upd H2 p (.tup [.int (i:Int),.ref a])=H3 at s3 l3 y3 p3 ⊢;have hli:i < ks.length:=(A6.mp hk).1;have ylen:ys.length<=16:=by have e1:=E3 y2;have e2:=lK (ks.take i) 0;rw[K0]at e2;omega
  have tk1:lyK (ks.take (i+1)) 0=lyK (ks.take i) 0 ++ lyT i k:=by rw[J8,hk];show lyK (ks.take i ++ [k]) 0=_;rw[mU,K0,Nat.zero_add,Nat.min_eq_left (C9 hli)]
  refine%[p,_,O,G3 p3,O,_,_,O,_,_,O,O|?_];refine%[_,O,.inl %[O,_|G4 l3],_,O,zS2|λ t ht=>?_];have lt:l≠t:=ak l3 ht;refine%[l,ys,_,O,O,(by rw[aj lt];exact l3),⋯|?_];obtain⟨s4,l4,y4⟩:=vg (b:=false) hl s3 l3 y3 ht;generalize upd (upd H3 t (.tup [.int (i:Int),.bl false])) l (.lst (ys ++ [.ref t]))=H4 at s4 l4 y4 ⊢;refine%[_,O,a,k,O,s4 _ _ ha,_,O|?_];refine cX (λ c=>?_) (λ c=>?_)
  ·refine%[_,O,.inl %[O,_|G4 l4],_,O,zS2|λ t' ht'=>?_];have lt':l≠t':=ak l4 ht';refine%[l,_,_,O,O,(by rw[aj lt'];exact l4),(by rw[J5];show ys.length+1 < sizeLine;omega)|?_];obtain⟨s5,l5,y5⟩:=vg (b:=true) hl s4 l4 y4 ht';refine%[_,_,_,O,s5,l5|?_];rw[tk1];unfold lyT;rw[Mw c];rw[show lyK (ks.take i) 0 ++ [(i,false),(i,true)]=lyK (ks.take i) 0 ++ [(i,false)] ++ [(i,true)]by simp];exact y5
  ·refine%[_,_,_,O,s4,l4|?_];rw[tk1];unfold lyT;rw[Mu c];exact y4
 ·rintro σ H2 ⟨v2,v3,ys,rfl,s2,l2,y2⟩;rw[wP,LL]at y2;exact%[_,O|q l ys H2 hl l2 y2 s2]
theorem sY:FnScope ["self","kind","turned"] ["self","kind","turned"] (defScope cJ):=%[O,O,O,∅,O,∅|∅]
theorem oY{f C:Mi}{fd:F9}(F:Fun K "is_lying" "Shop.is_lying" cJ f fd)(B:Blt mg)(T:ShopTxt K C)(DW:Dn P w K mg base "is_whole" ["thing","least"] 1 (dZ K))(DU:Dn P w K mg base "is_truth" ["thing"] 1 (lE K))(DT:Dn P w K mg base "can_lie_turned" ["kind"] 1 (jm K)) :
  FnOk P w K mg base CX0 2 f fd ["self","kind","turned"] (fh K C):=by
 exists sY
 ·obtain⟨s,b,ks,x,t,T0,U,rfl,_⟩:=h
  rfl
 obtain⟨s,b,ks,x,t,T0,U,rfl,⟨dx,r,rs,h1,h2,h3⟩,tx,tt,q⟩:=h;have wP:=E3 h3;refine⟨_,af (aS (PW.pt (dB (bj (aY (aq DW hr rfl (ad (pv 1) (ad ag ae))))) (dB (aB yX (pv 1) (ap aE rfl B.len M8 (ad (fH (pv 0) rfl) ae)) (ay _))
   (dj (bj (aY (aq DU hr rfl (ad (pv 2) ae)))))))) (ai (au cw)) av)
  (ai (au (yU (uA (pv 2)) (fB (aq DT hr rfl (ad (aN bY (fH (pv 0) rfl) (pv 1) (λ _ _=>rfl)) ae)))))),?_⟩
 refine%[_,O,x,_,0,O,tx,_,O|?_];cases hw:aQ x 0 with
 | false=>
  have e:gT ks x t=false:=by
   cases x with
   | int i=>
    have h0:decide (0<=i)=false:=hw;cases t <;> first | rfl | (show(decide (0<=i) && _)=false;rw[h0,Bool.false_and])
   | _=>rfl
  rw[e]at q;exact bM (bM q)
 | true=>
  have ex:∃i,x=.int i/\0<=i:=by
   cases x with
   | int i=>exact%[i,O|C1 hw]
   | _=>cases hw
  obtain⟨i,rfl,i0⟩:=ex;refine aZ %[_,rfl,_,rfl,s,C,dx,_,_,rfl,h1,T.cl,T.nK,cK _ _,r,rs,rfl,.inr (G3 h2),i,_,rfl,rfl,_,rfl|?_]
  by_cases hi:(rs.length:Int)<=i
  ·rw[Mx hi];have e:gT ks (.int i) t=false:=by have hn:ks[i.toNat]?=none:=MG ⋯;cases t <;> first | rfl | (show(decide (0<=i) && match ks[i.toNat]? with | some k=>_ | none=>false)=false;rw[hn,Bool.and_false])
   rw[e]at q;exact bM (bM q)
  ·rw[M0 hi];refine aZ %[_,rfl,t,_,rfl,tt,_,rfl|?_];have hlt:i.toNat < ks.length:=⋯
   cases hb:rZ t with
   | false=>
    have e:gT ks (.int i) t=false:=by cases t <;> first | rfl | cases hb
    rw[e]at q;exact bM q
   | true=>
    have ex:∃c,t=.bl c:=by cases t <;> first | exact%[_|O] | cases hb
    obtain⟨c,rfl⟩:=ex;obtain⟨y,hy⟩:∃y,rs[i.toNat]?=some y:=%[rs[i.toNat]'⋯|by simp[show i.toNat < rs.length by omega]]
    obtain⟨k,hk,a,rfl,ha⟩:=G6 h3 hy;have e:gT ks (.int i) (.bl c)=(!c || bJ k):=by show(decide (0<=i) && match ks[i.toNat]? with | some k=>(!c || bJ k) | none=>false)=_;rw[hk,Mx i0,Bool.true_and]
    rw[e]at q;refine aZ %[_,rfl,c,rfl,_,rfl|?_];refine cX (λ d=>?_) (λ d=>?_)
    ·rw[d,Bool.true_or]at q;exact q
    ·have d':(!c)=false:=by simpa using d
     rw[d',Bool.false_or]at q;have at':atI rs i=↑a:=by
      have en:ixN rs.length i=some i.toNat:=by unfold ixN;rw[Mw i0,Mw ⋯]
      unfold atI;rw[en];exact hy
     exact%[_,O,s,C,dx,_,_,O,h1,T.cl,T.nK,cK _ _,_,O,r,rs,i,_,O,O,G3 h2,at',a,k,O,ha|q]
def vS(k:Kd)(c:Bool):Mo V:=if c=true then[.int k.h,.int k.w]else[.int k.w,.int k.h]
inductive spSides(K:C6)(C:Mi)(vs:Mo V)(H:Hp)(Q:VK)(E_:XK):Prop
|mk(s:Mi)(b:Int)(ks:Mo Kd)(x t:V)(T U:String)(_:vs=[.ref s,x,t])(_:ShopAt C H s b ks)(_:Ty K H x T)(_:Ty K H t U)(_:gT ks x t=true)(_:∀(i:Int)(c:Bool)(k:Kd)(p:Mi),x=.int i->t=.bl c->ks[i.toNat]?=some k->gT ks x t=true->H p=none->Q (.ref p) (upd H p (.tup (vS k c))))
theorem tf{ks:Mo Kd}{x t:V}(h:gT ks x t=true):∃(i:Int)(c:Bool)(k:Kd),x=.int i/\t=.bl c/\0<=i/\ks[i.toNat]?=some k:=by
 unfold gT at h
 split at h
 ·rename_i i c
  rw[LQ]at h;obtain⟨h1,h2⟩:=h
  split at h2
  ·rename_i k hk
   exact%[i,c,k,O,O,C1 h1|hk]
  ·cases h2
 ·cases h
theorem Am{rs:Mo V}{i:Int}{v:V}(i0:0<=i)(h:rs[i.toNat]?=some v):atI rs i=some v:=by
 have en:ixN rs.length i=some i.toNat:=by unfold ixN;have:=(A6.mp h).1;rw[Mw i0,Mw ⋯]
 unfold atI;rw[en];exact h
theorem scSides:FnScope ["self","kind","turned","row"] ["self","kind","turned"] (defScope ej):=%[O,O,O,∅,O,∅|∅]
theorem vT{f C:Mi}{fd:F9}(F:Fun K "sides" "Shop.sides" ej f fd)(T:ShopTxt K C)(ML:Mn P w K mg base C "is_lying" ["self","kind","turned"] 2 (fh K C)) :
  FnOk P w K mg base CX0 3 f fd ["self","kind","turned"] (spSides K C):=by
 exists scSides
 ·obtain⟨s,b,ks,x,t,T0,U,rfl,_⟩:=h
  rfl
 obtain⟨s,b,ks,x,t,T0,U,rfl,S,tx,tt,he,hq⟩:=h;have nd:=scSides.nd;refine⟨_,af (aS (bj (aY (vh (pv 0) T.cl ML hr (ad (pv 1) (ad (pv 2) ae))))) (ai bo) av)
  (af (aA (i:=3) nd rfl (Or.inl rfl) (aN bY (fH (pv 0) rfl) (pv 1) (λ _ _=>rfl)))
  (af (aS (aY (pv 2)) (ai (au (aP (ad (aN bY (pv 3) ag (λ _ _=>rfl)) (ad (aN bY (pv 3) ag (λ _ _=>rfl)) ae))))) av)
  (ai (au (aP (ad (aN bY (pv 3) ag (λ _ _=>rfl)) (ad (aN bY (pv 3) ag (λ _ _=>rfl)) ae))))))),?_⟩
 obtain⟨dx,r,rs,h1,h2,h3⟩:=id S;refine%[_,O,s,dx,_,O,h1,bi _ _ ∅ ∅,_,O,_,O,s,b,ks,x,t,T0,U,O,S,tx,tt,_,O|?_];cases hl:gT ks x t with
 | false=>rw[hl]at he;cases he
 | true=>
  obtain⟨i,c,k,rfl,rfl,i0,hk⟩:=tf hl;have wP:=E3 h3;have hik:=(A6.mp hk).1;obtain⟨y,hy⟩:∃y,rs[i.toNat]?=some y:=%[rs[i.toNat]'⋯|by simp[show i.toNat < rs.length by omega]]
  obtain⟨k',hk',a,rfl,ha⟩:=G6 h3 hy;rw[hk]at hk';obtain rfl:=B9 hk';refine aZ ?_;refine%[_,O,s,C,dx,_,_,O,h1,T.cl,T.nK,cK _ _,_,O,r,rs,i,_,O,O,G3 h2,Am i0 hy|?_];refine%[_,O,_,O|?_];cases c with
  | true=>
   refine bM ?_;refine%[_,O,a,_,1,_,O,O,G3 ha,O,_,O,a,_,0,_,O,O,G3 ha,O,zS2|λ p hp=>?_];exact hq i true k p rfl rfl hk hl hp
  | false=>
   refine aZ ?_;refine%[_,O,a,_,0,_,O,O,G3 ha,O,_,O,a,_,1,_,O,O,G3 ha,O,zS2|λ p hp=>?_];exact hq i false k p rfl rfl hk hl hp
def sd1(k:Kd)(c:Bool):Int:=if c=true then k.h else k.w
def sd2(k:Kd)(c:Bool):Int:=if c=true then k.w else k.h
theorem vU(k:Kd)(c:Bool):vS k c=[.int (sd1 k c),.int (sd2 k c)]:=by cases c <;> rfl
def oZ(k:Kd)(c:Bool)(w h:Int):Bool:=decide (sd1 k c<=w) && decide (sd2 k c<=h)
inductive spCP(vs:Mo V)(H:Hp)(Q:VK)(E_:XK):Prop
|mk(w h:Int)(_:vs=[.int w,.int h])(_:1<=w)(_:1<=h)(_:Q .non H)
inductive spCS(vs:Mo V)(H:Hp)(Q:VK)(E_:XK):Prop
|mk(w h m:Int)(_:vs=[.int w,.int h,.int m])(_:w<=m)(_:h<=m)(_:Q .non H)
inductive spLies(C:Mi)(vs:Mo V)(H:Hp)(Q:VK)(E_:XK):Prop
|mk(s:Mi)(b:Int)(ks:Mo Kd)(w h i:Int)(c:Bool)(k:Kd)(_:vs=[.ref s,.int w,.int h,.int i,.bl c,.int 0,.int 0])(_:ShopAt C H s b ks)(_:gT ks (.int i) (.bl c)=true)(_:ks[i.toNat]?=some k)(_:∀H',Same H H'->Q (.bl (oZ k c w h)) H')
theorem sccplate:FnScope ["wide","high"] ["wide","high"] (defScope bO):=%[O,O,O,∅,O,∅|∅]
theorem tj{f:Mi}{fd:F9}(F:Fun K "check_plate" "check_plate" bO f fd)(DW:Dn P w K mg base "is_whole" ["thing","least"] 1 (dZ K)):FnOk P w K mg base CX0 2 f fd ["wide","high"] (spCP):=by
 exists sccplate
 ·obtain⟨w1,h1,rfl,_⟩:=h
  rfl
 obtain⟨w1,h1,rfl,hw,hh,q⟩:=h;have nd:=sccplate.nd;refine%[_,(@ai _ _ _ ((PW.pt (dB (@bj _ _ _ _ (@aY _ _ _ (DW∪((pv 0)^^^(ag^^^ae))) (by intro _;rfl))) (dj (@bj _ _ _ _ (@aY _ _ _ (DW∪((pv 1)^^^(ag^^^ae))) (by intro _;rfl))))))<|>(@ai _ _ _ bo)<|>av))|?_];refine%[_,O,.int w1,"int",1,O,Ty.int,_,O|?_];rw[show aQ (.int w1) 1=true from Mx hw];refine aZ %[_,rfl,.int h1,"int",1,rfl,Ty.int,_,rfl|?_];rw[show aQ (.int h1) 1=true from Mx hh];exact aZ q
theorem sccsides:FnScope ["wide","high","most"] ["wide","high","most"] (defScope bP):=%[O,O,O,∅,O,∅|∅]
theorem tm{f:Mi}{fd:F9}(F:Fun K "check_sides" "check_sides" bP f fd) : FnOk P w K mg base CX0 1 f fd ["wide","high","most"] (spCS):=by
 exists sccsides
 ·obtain⟨w1,h1,m,rfl,_⟩:=h
  rfl
 obtain⟨w1,h1,m,rfl,hw,hh,q⟩:=h;have nd:=sccsides.nd;refine%[_,(@ai _ _ _ ((PW.pt (dB ((pv 0)<*>ip<*>(pv 2)) (dj ((pv 1)<*>ip<*>(pv 2)))))<|>(@ai _ _ _ bo)<|>av))|?_];refine%[_,O,_,O,_,_,O,O,_,O|?_];rw[M0 (show¬ m < w1 by omega)];refine aZ %[_,rfl,_,rfl,_,_,rfl,rfl,_,rfl|?_];rw[M0 (show¬ m < h1 by omega)];exact aZ q
theorem sclies:FnScope ["shop","wide","high","kind","turned","x","y","piece_wide","piece_high"] ["shop","wide","high","kind","turned","x","y"] (defScope iQ):=%[O,O,O,∅,O,∅|∅]
theorem yd{f C:Mi}{fd:F9}(F:Fun K "lies_in" "lies_in" iQ f fd)(T:ShopTxt K C)(DW:Dn P w K mg base "is_whole" ["thing","least"] 1 (dZ K))(MI:Mn P w K mg base C "is_lying" ["self","kind","turned"] 2 (fh K C))(MS:Mn P w K mg base C "sides" ["self","kind","turned"] 3 (spSides K C)):FnOk P w K mg base CX0 4 f fd ["shop","wide","high","kind","turned","x","y"] (spLies C):=by
 exists sclies
 ·obtain⟨s,b,ks,w,h,i,c,k,rfl,_⟩:=h
  rfl
 obtain⟨s,b,ks,w,h,i,c,k,rfl,S,ly,hk,q⟩:=h;have nd:=sclies.nd;have hr1:=hr.mono (show 1<=3 by decide);have hr2:=hr.mono (show 2<=3 by decide);refine%[_,(((PW.pt (dB (@bj _ _ _ _ (@aY _ _ _ (vh (pv 0) T.cl MI hr2 ((pv 3)^^^((pv 4)^^^ae))) (by intro _;rfl))) (dB (@bj _ _ _ _ (@aY _ _ _ (@aq _ _ _ _ _ _ _ _ _ _ DW hr1 O ((pv 5)^^^(ag^^^ae)) ∅ O O) (by intro _;rfl))) (dj (@bj _ _ _ _ (@aY _ _ _ (@aq _ _ _ _ _ _ _ _ _ _ DW hr1 O ((pv 6)^^^(ag^^^ae)) ∅ O O) (by intro _;rfl)))))))<|>(cw⁻¹)<|>av)<<<((@bG _ _ _ _ _ _ (vh (pv 0) T.cl MS hr ((pv 3)^^^((pv 4)^^^ae))) (bL O (7•(8•bn))) O O O)<<<((fC (@bF _ _ _ _ _ _ _ _ mI ((pv 5)|||bf|||(pv 7)) (pv 1) (ay _)) (fB (@bF _ _ _ _ _ _ _ _ mI ((pv 6)|||bf|||(pv 8)) (pv 2) (ay _))))⁻¹)))|?_];obtain⟨dx,r,rs,h1,h2,h3⟩:=id S;refine%[_,O,s,dx,_,O,h1,bi _ _ ∅ ∅,_,O,_,O,s,b,ks,.int i,.bl c,"int","bool",O,S,Ty.int,Ty.bl,_,O|?_];rw[ly];refine aZ %[_,rfl,.int 0,"int",0,rfl,Ty.int,_,rfl|aZ %[_,rfl,.int 0,"int",0,rfl,Ty.int,_,rfl|aZ ?_]];refine%[_,O,s,dx,_,O,h1,bi _ _ ∅ ∅,_,O,_,O,s,b,ks,.int i,.bl c, "int", "bool",O,S,Ty.int,Ty.bl,ly|λ i' c' k' p e1 e2 hk' _ hp=>?_];cases e1;cases e2;rw[hk]at hk';cases hk';rw[vU];have q1:=q _ (G2 hp (o:=.tup [.int (sd1 k c),.int (sd2 k c)]));refine%[p,_,O,G3 ah,O,_,_,O,_,_,O,O|?_];refine%[_,O,_,O,_,_,O,O,_,O,_,_,O,O,_,O|?_];unfold oZ at q1;refine cX (λ cc=>?_) (λ cc=>?_)
 ·refine%[_,O,_,O,_,_,O,O,_,O,_,_,O,O|?_];rw[MV]at cc ⊢;rw[cc]at q1;exact q1
 ·rw[MV]at cc;rw[show decide (sd1 k c<=w)=false by simpa using cc]at q1;exact q1
theorem jX{a b c:St}(h1:leS a b)(h2:leS b c):leS a c:=%[h2.1.trans h1.1|λ i v e=>h2.2 i v (h1.2 i v e)]
theorem ye{i:Nat}{k:Kd}{q:Nat×Bool}(h:q∈lyT i k):q.1=i/\(q.2=false\/bJ k=true):=by
 unfold lyT at h;rcases G7.mp h with rfl | h
 ·exact%[O|.inl rfl]
 ·by_cases c:bJ k=true
  ·rw[Mw c]at h;rw[E2.mp h];exact%[O|.inr c]
  ·rw[Mu c]at h;simp at h
theorem lY:∀{ks:Mo Kd}{i:Nat}{q:Nat×Bool},q∈lyK ks i->i<=q.1/\∃k,ks[q.1 - i]?=some k/\(q.2=false\/bJ k=true)
 | [],_,_,h=>by simp[lyK]at h
 | k :: r,i,q,h=>by
  rcases C4.mp h with h | h
  ·obtain⟨h1,h2⟩:=ye h;exact%[⋯,k,by rw[h1,Nat.sub_self];rfl|h2]
  ·obtain⟨h1,k',h2,h3⟩:=lY h;refine%[⋯,k',?_|h3];rw[show q.1 - i=(q.1 - (i+1))+1 by omega];exact h2
theorem rq{ks:Mo Kd}{q:Nat×Bool}(h:q∈lyK ks 0):gT ks (.int q.1) (.bl q.2)=true/\∃k,ks[q.1]?=some k:=by
 obtain⟨_,k,h2,h3⟩:=lY h;rw[Nat.sub_zero]at h2;refine%[?_,k|h2];unfold gT;simp only[LS,h2,LQ];refine%[B0 ⋯|?_];rcases h3 with e | e
 ·rw[e];rfl
 ·rw[e,Bool.or_true]
def gv(ks:Mo Kd)(w h:Int)(q:Nat×Bool):Bool:=match ks[q.1]? with
 | some k=>oZ k q.2 w h
 | none=>false
inductive spLyIn(C:Mi)(vs:Mo V)(H:Hp)(Q:VK)(E_:XK):Prop
|mk(s t:Mi)(b:Int)(ks:Mo Kd)(w h:Int)(_:vs=[.ref s,.ref t])(_:ShopAt C H s b ks)(_:ks.length<=8)(_:H t= ~~~[.int w,.int h])(_:∀(l:Mi)(ys:Mo V)(H':Hp),H l=none->H' l=↥ys->Lys H' ys ((lyK ks 0).filter (gv ks w h))->Same H H'->Q (.ref l) H')
theorem sclyin:FnScope ["shop","part","wide","high"] ["shop","part"] (defScope dL):=%[O,O,O,∅,O,∅|∅]
theorem yf{f C:Mi}{fd:F9}(F:Fun K "lyings_in" "lyings_in" dL f fd)(T:ShopTxt K C)(ML:Mn P w K mg base C "lyings" ["self"] 2 (jn C))(DLI:Dn P w K mg base "lies_in" ["shop","wide","high","kind","turned","x","y"] 4 (spLies C)):FnOk P w K mg base CX0 5 f fd ["shop","part"] (spLyIn C):=by
 exists sclyin
 ·obtain⟨s,t,b,ks,w,h,rfl,_⟩:=h
  rfl
 obtain⟨s,t,b,ks,w,h,rfl,S,k8,ht,q⟩:=h;have nd:=sclyin.nd;have hr2:=hr.mono (show 2<=4 by decide);refine%[_,((@bG _ _ _ _ _ _ (pv 1) (bL O (ar (am (i:=2) nd O (Or.inr O)) (ar (am (i:=3) nd O (Or.inr O)) bn))) O O O)<<<((br (own:=["kind","turned"]) (cs:=["shop","wide","high"]) (cap:=[0,2,3]) O (bE (cF (pv 0) T.cl ML hr2)) (az (sc:=defScope dL) (N:=["shop","part","wide","high"]) O O ∅) (λ _ _ _ _ _=>eU K O O (by show List.Nodup (["kind","turned","shop","wide","high"]:Mo Str) ;decide +kernel) O O O O) (λ _ _ _ _ _=>(jb (@aY _ _ _ (DLI∪((pv 2)^^^((pv 3)^^^((pv 4)^^^((pv 0)^^^((pv 1)^^^(ag^^^(ag^^^ae)))))))) (by intro _;rfl)))) (λ _ _ _ _ _=>(@aP _ _ _ _ _ ((pv 0)^^^((pv 1)^^^ae)))))⁻¹))|?_];have sz:(100:Nat) < sizeLine:=∅
 obtain⟨dx,r,rs,h1,h2,h3⟩:=id S;refine%[_,O,t,_,O,G3 ht,O,_,_,O,_,_,O,O|?_];refine%[_,O,s,dx,_,O,h1,bi _ _ ∅ ∅,s,b,ks,O,S,k8|λ l1 ys H1 hl1 l1' ly s1=>?_];have lyl:=lK ks 0;have ylen:=E3 ly;refine%[l1,O,%[_|G4 l1']|(bI (K:=K) (.inl l1') (λ i zs H4=>Same H1 H4/\zs.length<=i/\Lys H4 zs (((lyK ks 0).take i).filter (gv ks w h))) (λ i zs H4 _ ⟨s4,_⟩ o e=>s4 _ _ e) %[Same.refl _,B3 _|.nil] ?_ ?_).1 l1']
 ·rintro i y zs H4 hi ⟨s4,zl,lz⟩;have hin:i < ys.length:=(A6.mp hi).1;obtain⟨qq,hq,a,rfl,ha⟩:=G6 ly hi;obtain⟨li,k,hk⟩:=rq (B6 hq);refine%[⋯,a,_,O,G3 (s4 _ _ ha),O,_,_,O,_,_,O,O|?_];refine%[jX (leS.set rfl) (leS.set rfl)|?_];have S4:ShopAt C H4 s b ks:=S.keep (λ c o e=>s4 _ _ (s1 _ _ e)) (λ c C' d fs e=>s4 _ _ (s1 _ _ e));refine%[_,O,_,O,_,O,_,O,_,O,s,b,ks,w,h,(qq.1:Int),qq.2,k,O,S4,li,(by rw[LS];exact hk)|λ H5 s5=>%[_,O|?_]];have st:((lyK ks 0).take (i+1)).filter (gv ks w h)=((lyK ks 0).take i).filter (gv ks w h) ++ (if oZ k qq.2 w h=true then[qq]else[]):=by rw[J8,hq,List.filter_append];simp only[K5,List.filter_cons,List.filter_nil];rw[show gv ks w h qq=oZ k qq.2 w h by unfold gv;rw[hk]]
  dsimp only;refine cX (λ cc=>?_) (λ cc=>?_)
  ·rw[cc,Mw rfl]at st;refine%[_,O,_,O,zS2|λ p hp=>Nx.of hin %[(s4.trans s5).trans (G2 hp),by rw[J5];show _+1<=_;omega|?_]];rw[st];refine Paired.snoc (Lys.keep (λ c o e=>?_) lz) %[p,rfl|ah];have e5:=s5 _ _ e;rw[aj (ak e5 hp)];exact e5
  ·rw[Mu cc,K6]at st;refine Nx.of hin %[s4.trans s5,⋯|?_];rw[st];exact Lys.keep (λ c o e=>s5 _ _ e) lz
 ·rintro zs H4 ⟨s4,zl,lz⟩;rw[ylen,LL]at lz;refine%[⋯|λ p hp=>q p zs _ ((s1.trans s4).free hp) ah (Lys.keep (λ c o e=>?_) lz) ((s1.trans s4).trans (G2 hp))];rw[aj (ak e hp)];exact e
def PtAt(H:Hp)(v:V)(p:Int×Int):Prop:=∃q,v=.ref q/\H q= ~~~[.int p.1,.int p.2]
theorem PtAt.keep{H H':Hp}(s:Same H H'){v:V}{p:Int×Int}(h:PtAt H v p):PtAt H' v p:=by obtain⟨q,e,h⟩:=h;exact%[q,e|s _ _ h]
def jF(a:Int)(n:Nat):Mo (Int×Int):=(List.range n).map λ (c:Nat)=>(a,1+(c:Int))
def aL(m n:Nat):Mo (Int×Int):=(List.range m).flatMap λ (a:Nat)=>jF (1+(a:Int)) n
theorem nz(a:Int)(n:Nat):(jF a n).length=n:=by unfold jF;rw[B4,LY]
theorem dh(m n:Nat):aL (m+1) n=aL m n ++ jF (1+(m:Int)) n:=by unfold aL;rw[Mg,MR];simp
theorem kR(a:Int)(n:Nat):jF a (n+1)=jF a n ++ [(a,1+(n:Int))]:=by
 unfold jF;rw[Mg,J3]
 rfl
theorem er(m n:Nat):(aL m n).length=m * n:=by
 induction m with
 | zero=>simp[aL]
 | succ m ih=>rw[dh,J5,ih,nz,Nat.succ_mul]
inductive spParts(vs:Mo V)(H:Hp)(Q:VK)(E_:XK):Prop
|mk(m n:Nat)(_:vs=[.int m,.int n])(_:m<=16)(_:n<=16)(_:∀(l:Mi)(ys:Mo V)(H':Hp),H' l=↥ys->Paired (PtAt H') ys (aL m n)->Same H H'->Q (.ref l) H')
theorem scparts:FnScope ["wide","high"] ["wide","high"] (defScope cQ):=%[O,O,O,∅,O,∅|∅]
theorem vV{f:Mi}{fd:F9}(F:Fun K "parts_up_to" "parts_up_to" cQ f fd)(B:Blt mg):FnOk P w K mg base CX0 1 f fd ["wide","high"] (spParts):=by
 exists scparts
 ·obtain⟨m,n,rfl,_⟩:=h
  rfl
 obtain⟨m,n,rfl,m16,n16,q⟩:=h;have nd:=scparts.nd;refine%[_,((vE (own:=["a","b"]) (cs:=["high"]) (cap:=[1]) O (kj O B.range (ag^^^(((pv 0)|||bf|||ag)^^^ae))) (az (sc:=defScope cQ) (N:=["wide","high"]) O O ∅) (λ _ _ _ _ _=>am (i:=0) (by show List.Nodup (["a","b","high"]:Mo Str) ;decide +kernel) O (Or.inl O) (Or.inr O)) (λ _ _ _ _ _=>aJ) (λ _ _ _ _ _=>(kj O B.range (ag^^^(((pv 2)|||bf|||ag)^^^ae)))) (λ _ _ _ _ _=>am (i:=1) (by show List.Nodup (["a","b","high"]:Mo Str) ;decide +kernel) O (Or.inl O) (Or.inr O)) (λ _ _ _ _ _=>aJ) (λ _ _ _ _ _=>(@aP _ _ _ _ _ ((pv 0)^^^((pv 1)^^^ae)))))⁻¹)|?_];have z4:4096<=sizeLine:=∅
 refine%[_,O,_,_,O,O,1,_,O,%[∅,∅,by show -(2 ^ 62)<=(m:Int)+1;omega|by show(m:Int)+1 < 2 ^ 62;omega]|?_];have em:((m:Int)+1 - 1).toNat=m:=⋯
 show∃W,_/\lS _ _ _ (Itr 1 ((m:Int)+1 - 1).toNat) _ _ _ _ _ _ _ W;rw[em];refine sK (lo:=1) (n:=m) (λ i ys Hx=>Same H Hx/\Paired (PtAt Hx) ys (aL i n)) %[Same.refl _|.nil] ?_ ?_
 ·rintro i ys Hx hi ⟨sx,py⟩;refine%[leS.set rfl|aK ?_];refine%[_,O,_,_,O,O,1,_,O,%[∅,∅,by show -(2 ^ 62)<=(n:Int)+1;omega|by show(n:Int)+1 < 2 ^ 62;omega]|?_];have en:((n:Int)+1 - 1).toNat=n:=⋯
  show∃W2,_/\jv _ (Itr 1 ((n:Int)+1 - 1).toNat) _ _ _ _ W2;rw[en];refine zY (lo:=1) (n:=n) (λ j zs Hy=>Same H Hy/\Paired (PtAt Hy) zs (aL i n ++ jF (1+(i:Int)) j)) %[sx|by show Paired _ _ (_ ++ []);rw[K6];exact py] ?_ ?_
  ·rintro j zs Hy hj ⟨sy,pz⟩;have pl:=E3 pz;rw[J5,er,nz]at pl;have:i * n<=16 * 16:=Nat.mul_le_mul ⋯ ⋯;refine%[⋯,leS.set rfl|aK ?_];refine%[_,O,_,O,zS2|λ t ht=>?_];refine aH ht λ Hz k1 s1=>?_;refine Nx.of hj %[sy.trans s1|?_];rw[kR,<- List.append_assoc];exact Paired.app (G5 pz λ v p h=>h.keep s1) (.cons %[t,O|k1] .nil)
  ·rintro zs Hy ⟨sy,pz⟩;refine Nx.of hi %[sy|?_];rw[dh];exact pz
 ·rintro ys Hx ⟨sx,py⟩;have pl:=E3 py;rw[er]at pl;have:m * n<=16 * 16:=Nat.mul_le_mul ⋯ ⋯;refine%[⋯|λ l hl=>?_];refine aH hl λ Hz k2 s2=>?_;exact q l ys Hz k2 (G5 py λ v p h=>h.keep s2) (sx.trans s2)
structure BeC(mg:Str->Ml Value):Prop where
 dn:∃t,mg "DOWN" = some (.str "down" t)
 rs:∃t,mg "REST" = some (.str "rest" t)
 pc:∃t,mg "PIECE" = some (.str "piece" t)
 ac:∃t,mg "ACROSS" = some (.str "across" t)
abbrev wv(dn:Bool):V:=.str (if dn=true then "down" else "across")
def WpAt(H:Hp)(v:V)(x:Bool×Int):Prop:=∃q,v=.ref q/\H q= ~~~[wv x.1,.int x.2]
theorem WpAt.keep{H H':Hp}(s:Same H H'){v:V}{x:Bool×Int}(h:WpAt H v x):WpAt H' v x:=by obtain⟨q,e,h⟩:=h;exact%[q,e|s _ _ h]
def wpL(dn:Bool)(n:Nat):Mo (Bool×Int):=(List.range n).map λ (j:Nat)=>(dn,1+(j:Int))
theorem gy(dn:Bool)(n:Nat):(wpL dn n).length=n:=by unfold wpL;rw[B4,LY]
theorem nA(dn:Bool)(n:Nat):wpL dn (n+1)=wpL dn n ++ [(dn,1+(n:Int))]:=by
 unfold wpL;rw[Mg,J3]
 rfl
def cB(b w h:Int):Mo (Bool×Int):=wpL true (w - b - 1).toNat ++ wpL false (h - b - 1).toNat
def cR(w h:Int)(x:Bool×Int):Int×Int:=if x.1=true then(x.2,h)else(w,x.2)
def cY(b w h:Int)(x:Bool×Int):Int×Int:=if x.1=true then(w - x.2 - b,h)else(w,h - x.2 - b)
def CutAt(b w h:Int)(H:Hp)(v:V)(x:Bool×Int):Prop:=∃q t1 t2,v=.ref q/\H q= ~~~[wv x.1,.int x.2,.ref t1,.ref t2]/\H t1= ~~~[.int (cR w h x).1,.int (cR w h x).2]/\H t2= ~~~[.int (cY b w h x).1,.int (cY b w h x).2]
theorem CutAt.keep{b w h:Int}{H H':Hp}(s:Same H H'){v:V}{x:Bool×Int}(c:CutAt b w h H v x):CutAt b w h H' v x:=by obtain⟨q,t1,t2,e,h1,h2,h3⟩:=c;exact%[q,t1,t2,e,s _ _ h1,s _ _ h2|s _ _ h3]
inductive spParts2(vs:Mo V)(H:Hp)(Q:VK)(E_:XK):Prop
|mk(b w h p:Int)(t:Mi)(dn:Bool)(_:vs=[.int b,.ref t,.str (if dn=true then "down" else "across"),.int p])(_:H t= ~~~[.int w,.int h])(_:∀(u t1 t2:Mi)(H':Hp),H' u= ~~~[.ref t1,.ref t2]->H' t1= ~~~(if dn=true then[.int p,.int h]else[.int w,.int p])->H' t2= ~~~(if dn=true then[.int (w - p - b),.int h]else[.int w,.int (h - p - b)])->Same H H'->Q (.ref u) H')
inductive spCuts(vs:Mo V)(H:Hp)(Q:VK)(E_:XK):Prop
|mk(b w h:Int)(t:Mi)(_:vs=[.int b,.ref t])(_:H t= ~~~[.int w,.int h])(_:w<=16)(_:h<=16)(_:0<=b)(_:∀(l:Mi)(ys:Mo V)(H':Hp),H' l=↥ys->Paired (CutAt b w h H') ys (cB b w h)->Same H H'->Q (.ref l) H')
theorem scparts2:FnScope ["blade","part","way","p","wide","high"] ["blade","part","way","p"] (defScope fm):=%[O,O,O,∅,O,∅|∅]
theorem tq{f:Mi}{fd:F9}(F:Fun K "cut_parts" "cut_parts" fm f fd)(Z:BeC mg):FnOk P w K mg base CX0 1 f fd ["blade","part","way","p"] (spParts2):=by
 exists scparts2
 ·obtain⟨b,w1,h1,p1,t,dn,rfl,_⟩:=h
  rfl
 obtain⟨b,w1,h1,p1,t,dn,rfl,ht,q⟩:=h;have nd:=scparts2.nd;obtain⟨tdn,hdn⟩:=Z.dn;refine%[_,((@bG _ _ _ _ _ _ (pv 1) (bL O (4•(5•bn))) O O O)<<<((((pv 2)<*>cx<*>(aI (v:=.str "down") O hdn %[tdn|O]))<|>((@aP _ _ _ _ _ ((@aP _ _ _ _ _ ((pv 3)^^^((pv 5)^^^ae)))^^^((@aP _ _ _ _ _ ((((pv 4)|||dv|||(pv 3))|||dv|||(pv 0))^^^((pv 5)^^^ae)))^^^ae)))⁻¹)<|>av)<<<((@aP _ _ _ _ _ ((@aP _ _ _ _ _ ((pv 4)^^^((pv 3)^^^ae)))^^^((@aP _ _ _ _ _ ((pv 4)^^^((((pv 5)|||dv|||(pv 3))|||dv|||(pv 0))^^^ae)))^^^ae)))⁻¹)))|?_];refine%[_,O,t,_,O,G3 ht,O,_,_,O,_,_,O,O|?_];cases dn with
 | true=>
  refine%[_,O,O,_,O|bM ?_];refine%[_,O,_,O,zS2|λ t1 h1'=>?_];have sa:Same H (upd H t1 (.tup [.int p1,.int h1])):=G2 h1';have ka:(upd H t1 (.tup [.int p1,.int h1])) t1= ~~~[.int p1,.int h1]:=ah;generalize upd H t1 (.tup [.int p1,.int h1])=Ha at sa ka ⊢;refine%[_,O,_,O,_,_,O,O,_,O,_,_,O,O,_,O,zS2|λ t2 h2'=>?_];have sb:Same Ha (upd Ha t2 (.tup [.int (w1 - p1 - b),.int h1])):=G2 h2';have kb:(upd Ha t2 (.tup [.int (w1 - p1 - b),.int h1])) t2= ~~~[.int (w1 - p1 - b),.int h1]:=ah;generalize upd Ha t2 (.tup [.int (w1 - p1 - b),.int h1])=Hb at sb kb ⊢;refine%[zS2|λ u hu=>?_];have sc:Same Hb (upd Hb u (.tup [.ref t1,.ref t2])):=G2 hu;have kc:(upd Hb u (.tup [.ref t1,.ref t2])) u= ~~~[.ref t1,.ref t2]:=ah;generalize upd Hb u (.tup [.ref t1,.ref t2])=Hc at sc kc ⊢;exact q u t1 t2 Hc kc (sc _ _ (sb _ _ ka)) (sc _ _ kb) ((sa.trans sb).trans sc)
 | false=>
  refine%[_,O,O,_,O|aZ ?_];refine%[_,O,_,O,zS2|λ t1 h1'=>?_];have sa:Same H (upd H t1 (.tup [.int w1,.int p1])):=G2 h1';have ka:(upd H t1 (.tup [.int w1,.int p1])) t1= ~~~[.int w1,.int p1]:=ah;generalize upd H t1 (.tup [.int w1,.int p1])=Ha at sa ka ⊢;refine%[_,O,_,O,_,O,_,_,O,O,_,O,_,_,O,O,zS2|λ t2 h2'=>?_];have sb:Same Ha (upd Ha t2 (.tup [.int w1,.int (h1 - p1 - b)])):=G2 h2';have kb:(upd Ha t2 (.tup [.int w1,.int (h1 - p1 - b)])) t2= ~~~[.int w1,.int (h1 - p1 - b)]:=ah;generalize upd Ha t2 (.tup [.int w1,.int (h1 - p1 - b)])=Hb at sb kb ⊢;refine%[zS2|λ u hu=>?_];have sc:Same Hb (upd Hb u (.tup [.ref t1,.ref t2])):=G2 hu;have kc:(upd Hb u (.tup [.ref t1,.ref t2])) u= ~~~[.ref t1,.ref t2]:=ah;generalize upd Hb u (.tup [.ref t1,.ref t2])=Hc at sc kc ⊢;exact q u t1 t2 Hc kc (sc _ _ (sb _ _ ka)) (sc _ _ kb) ((sa.trans sb).trans sc)
theorem sccuts:FnScope ["blade","part","down","across"] ["blade","part"] (defScope eg):=%[O,O,O,∅,O,∅|∅]
theorem yg{f:Mi}{fd:F9}(F:Fun K "cuts_of" "cuts_of" eg f fd)(B:Blt mg)(Z:BeC mg)(DP:Dn P w K mg base "cut_parts" ["blade","part","way","p"] 1 (spParts2)):FnOk P w K mg base CX0 2 f fd ["blade","part"] (spCuts):=by
 exists sccuts
 ·obtain⟨b,w1,h1,t,rfl,_⟩:=h
  rfl
 obtain⟨b,w1,h1,t,rfl,ht,w16,h16,b0,q⟩:=h;have nd:=sccuts.nd;obtain⟨tdn,hdn⟩:=Z.dn;obtain⟨tac,hac⟩:=Z.ac;refine%[_,((ff (i:=2) (own:=["p"]) (cs:=[]) (cap:=[]) O nd O O O (jx O B.range (ag^^^((((pv 1)&&&bY&&&ag)|||dv|||(pv 0))^^^ae))) (az (sc:=defScope eg) (N:=["blade","part","down","across"]) O O ∅) (λ _ _ _ _ _=>am (i:=0) (by show List.Nodup (["p"]:Mo Str) ;decide +kernel) O (Or.inl O) (Or.inr O)) (λ _ _ _ _ _=>aJ) (λ _ _ _ _ _=>(@aP _ _ _ _ _ ((aI (v:=.str "down") O hdn %[tdn|O])^^^((pv 0)^^^ae)))))<<<((ff (i:=3) (own:=["p"]) (cs:=[]) (cap:=[]) O nd O O O (jx O B.range (ag^^^((((pv 1)&&&bY&&&ag)|||dv|||(pv 0))^^^ae))) (az (sc:=defScope eg) (N:=["blade","part","down","across"]) O O ∅) (λ _ _ _ _ _=>am (i:=0) (by show List.Nodup (["p"]:Mo Str) ;decide +kernel) O (Or.inl O) (Or.inr O)) (λ _ _ _ _ _=>aJ) (λ _ _ _ _ _=>(@aP _ _ _ _ _ ((aI (v:=.str "across") O hac %[tac|O])^^^((pv 0)^^^ae)))))<<<((br (own:=["way","p"]) (cs:=["blade","part"]) (cap:=[0,1]) O (bE ((pv 2)|||eO|||(pv 3))) (az (sc:=defScope eg) (N:=["blade","part","down","across"]) O O ∅) (λ _ _ _ _ _=>eU K O O (by show List.Nodup (["way","p","blade","part"]:Mo Str) ;decide +kernel) O O O O) (λ _ _ _ _ _=>aJ) (λ _ _ _ _ _=>(ax (r:=zc K) xz (@aP _ _ _ _ _ ((pv 0)^^^((pv 1)^^^ae))) (DP∪((pv 2)^^^((pv 3)^^^((pv 0)^^^((pv 1)^^^ae))))))))⁻¹)))|?_];have z4:4096<=sizeLine:=∅
 have wn:(w1 - b - 1).toNat<=16:=⋯
 have hn:(h1 - b - 1).toNat<=16:=⋯
 refine ao (λ R=>∀(dl:Mi)(ys:Mo V)(H':Hp),H' dl=↥ys->Paired (WpAt H') ys (wpL true (w1 - b - 1).toNat)->Same H H'->R [⇑b,↑t,↑dl,none] H') (λ Dd hR=>?_) ?_
 ·refine%[_,O,t,_,0,_,O,O,G3 ht,O,_,O,_,_,O,O,1,_,O,%[∅,∅|by show w1 - b < 2 ^ 62;omega]|?_];show∃W,_/\eE _ _ _ (Itr 1 (w1 - b - 1).toNat) _ _ _ _ W;generalize(w1 - b - 1).toNat=n at *;refine gp (lo:=1) (n:=n) (λ i ys Hx=>Same H Hx/\Paired (WpAt Hx) ys (wpL true i)) %[Same.refl _|.nil] ?_ ?_
  ·rintro i ys Hx hi ⟨sx,py⟩;have pl:=E3 py;rw[gy]at pl;refine%[⋯,leS.set rfl|aK ?_];refine%[_,O,zS2|λ q' hq=>?_];refine aH hq λ Hy k9 s9=>?_;refine Nx.of hi %[sx.trans s9|?_];rw[nA];exact Paired.app (G5 py λ v p h=>h.keep s9) (.cons %[q',O|k9] .nil)
  ·rintro ys Hx ⟨sx,py⟩;have pl:=E3 py;rw[gy]at pl;refine%[⋯|λ l hl=>?_];refine aH hl λ Hy k9 s9=>?_;exact hR l ys _ k9 (G5 py λ v p h=>h.keep s9) (sx.trans s9)
 rintro dl ys H1 kd pd s1;refine ao (λ R=>∀(al:Mi)(zs:Mo V)(H':Hp),H' al=↥zs->Paired (WpAt H') zs (wpL false (h1 - b - 1).toNat)->Same H1 H'->R [⇑b,↑t,↑dl,↑al] H') (λ Dd hR=>?_) ?_
 ·refine%[_,O,t,_,1,_,O,O,G3 (s1 _ _ ht),O,_,O,_,_,O,O,1,_,O,%[∅,∅|by show h1 - b < 2 ^ 62;omega]|?_];show∃W,_/\eE _ _ _ (Itr 1 (h1 - b - 1).toNat) _ _ _ _ W;generalize(h1 - b - 1).toNat=n at *;refine gp (lo:=1) (n:=n) (λ i ys Hx=>Same H1 Hx/\Paired (WpAt Hx) ys (wpL false i)) %[Same.refl _|.nil] ?_ ?_
  ·rintro i ys Hx hi ⟨sx,py⟩;have pl:=E3 py;rw[gy]at pl;refine%[⋯,leS.set rfl|aK ?_];refine%[_,O,zS2|λ q' hq=>?_];refine aH hq λ Hy k9 s9=>?_;refine Nx.of hi %[sx.trans s9|?_];rw[nA];exact Paired.app (G5 py λ v p h=>h.keep s9) (.cons %[q',O|k9] .nil)
  ·rintro ys Hx ⟨sx,py⟩;have pl:=E3 py;rw[gy]at pl;refine%[⋯|λ l hl=>?_];refine aH hl λ Hy k9 s9=>?_;exact hR l ys _ k9 (G5 py λ v p h=>h.keep s9) (sx.trans s9)
 rintro al zs H2 ka pa s2;have s02:=s1.trans s2;have ht2:=s02 _ _ ht;have pd2:Paired (WpAt H2) ys (wpL true (w1 - b - 1).toNat):=G5 pd λ v p h=>h.keep s2;have l1:=E3 pd2;have l2:=E3 pa;rw[gy]at l1 l2;have pc:Paired (WpAt H2) (ys ++ zs) (cB b w1 h1):=Paired.app pd2 pa;refine%[_,O,_,O,dl,al,_,_,O,O,s2 _ _ kd,ka,⋯|λ cl hcl=>?_];refine aH hcl λ H3 k3 s3=>?_;have pc3:Paired (WpAt H3) (ys ++ zs) (cB b w1 h1):=G5 pc λ v p h=>h.keep s3;have cl32:(ys ++ zs).length<=32:=by rw[J5];omega
 refine%[cl,O,%[_|G4 k3]|(bI (K:=K) (.inl k3) (λ i us Hx=>Same H3 Hx/\Paired (CutAt b w1 h1 Hx) us ((cB b w1 h1).take i)) (λ i us Hx _ ⟨sx,_⟩ o e=>sx _ _ e) %[Same.refl _|.nil] ?_ ?_).1 k3]
 ·rintro i y us Hx hi ⟨sx,pu⟩;have hin:i < (ys ++ zs).length:=(A6.mp hi).1;obtain⟨⟨dn,p⟩,hq,a,rfl,ha⟩:=G6 pc3 hi;have ul:=E3 pu;rw[K0]at ul;have hax:=sx _ _ ha;refine%[⋯,a,_,O,G3 hax,O,_,_,O,_,_,O,O|?_];refine%[jX (leS.set rfl) (leS.set rfl)|aK ?_];refine%[_,O,_,O,zS2|λ x hx=>?_];refine aH hx λ Hy k4 s4=>?_;refine%[_,O,_,O,_,O,_,O,b,w1,h1,p,t,dn,O,s4 _ _ (sx _ _ (s3 _ _ ht2))|λ u t1 t2 Hz ku k1 k2 s5=>?_];refine⟨x,u,_,_,O,O,G3 (s5 _ _ k4),G3 ku,List.cons_ne_nil _ _,zS4,(λ z=>by cases z),λ _ m hm=>?_⟩;rw[show[wv dn,V.int p] ++ [V.ref t1,V.ref t2]=[wv dn,V.int p,V.ref t1,V.ref t2]from rfl];refine aH hm λ Hw k6 s6=>?_;have sxw:=s4.trans (s5.trans s6);refine Nx.of hin %[sx.trans sxw|?_];rw[J8,hq];refine Paired.app (G5 pu λ v p h=>h.keep sxw) (.cons %[m,t1,t2,O,k6,?_|?_] .nil)
  ·cases dn <;> exact s6 _ _ k1
  ·cases dn <;> exact s6 _ _ k2
 ·rintro us Hx ⟨sx,pu⟩;have pl:=E3 pc3;rw[pl,LL]at pu;have ul:=E3 pu;refine%[⋯|λ l hl=>?_];refine aH hl λ Hy k7 s7=>?_;exact q l us Hy k7 (G5 pu λ v p h=>h.keep s7) (s02.trans (s3.trans (sx.trans s7)))
def bV(b:Mo Int):Mo V:=b.map V.int
def cC(n:Nat)(k:Int):Mo Int:=(List.range n).map λ j:Nat=>if Int.ofNat j=k then(1:Int)else 0
def cD:Mo Int->Mo Int->Mo Int->Mo Int
 | x :: a,y :: b,z :: w=>min (x+y) z :: cD a b w
 | _,_,_=>[]
theorem hU:∀{a b w:Mo Int},a.length=b.length->a.length=w.length->(cD a b w).length=a.length
 | [],_,_,_,_=>by simp[cD]
 | x :: a,y :: b,z :: w,h1,h2=>by simp only[J4,Nat.add_right_cancel_iff]at h1 h2;rw[cD,J4,J4,hU h1 h2]
theorem jG:∀{a b w:Mo Int}{i:Nat}{x y z:Int},a[i]?=some x->b[i]?=some y->w[i]?=some z->(cD a b w)[i]?=some (min (x+y) z)
 | x :: a,y :: b,z :: w,0,_,_,_,h1,h2,h3=>by simp only[List.getElem?_cons_zero,Option.some.injEq]at h1 h2 h3;subst h1 h2 h3;simp[cD]
 | x :: a,y :: b,z :: w,i+1,_,_,_,h1,h2,h3=>by rw[cD,List.getElem?_cons_succ];exact jG (by simpa using h1) (by simpa using h2) (by simpa using h3)
 | [],_,_,_,_,_,_,h1,_,_=>by simp at h1
 | _ :: _,[],_,_,_,_,_,_,h2,_=>by simp at h2
 | _ :: _,_ :: _,[],_,_,_,_,_,_,h3=>by simp at h3
theorem ze:∀a b:Mo Int,PyData.eqvAll (a.map PyData.int) (b.map PyData.int)=decide (a=b)
 | [],[]=>rfl
 | [],_ :: _=>rfl
 | _ :: _,[]=>rfl
 | x :: a,y :: b=>by
  have ih:=ze a b;have h:PyData.eqvAll ((x :: a).map PyData.int) ((y :: b).map PyData.int)=(PyData.eqv (.int x) (.int y) && PyData.eqvAll (a.map PyData.int) (b.map PyData.int)):=rfl;have e:PyData.eqv (.int x) (.int y)=decide (x=y):=by simp[PyData.eqv];rfl
  rw[h,ih,e];simp
theorem ED(a b:Mo Int):PyData.eqv (.tuple (a.map PyData.int)) (.tuple (b.map PyData.int))=decide (a=b):=by rw[<- ze a b];simp[PyData.eqv]
def leB(a b:Mo Int):Bool:=(a.zip b).all λ p=>decide (p.1<=p.2)
def iK(a b:Mo Int):Bool:=!decide (a=b) && leB a b
def cS(C:Mi):Sp:=λ vs H Q _=>∃(x:Mi)(b:Int)(ks:Mo Kd),vs=[.ref x]/\ShopAt C H x b ks/\ks.length<=8/\∀(t:Mi)(H':Hp),H t=none->H' t= ~~~(ks.map λ k=>V.int k.wa)->Same H H'->Q (.ref t) H'
def vW(C:Mi):Sp:=λ vs H Q _=>∃(s:Mi)(b w h:Int)(ks:Mo Kd),vs=[.ref s,.int w,.int h]/\ShopAt C H s b ks/\ks.length<=8/\1<=w/\w<=8/\1<=h/\h<=8/\(ks.map λ k=>k.wa).sum<=6/\∀H',Same H H'->Q .non H'
def vX:Sp:=λ vs H Q _=>∃(t:Mi)(ws:Mo Int)(k:Int),vs=[.ref t,.int k]/\H t= ~~~(bV ws)/\ws.length<=8/\∀(a:Mi)(H':Hp),H' a= ~~~(bV (cC ws.length k))->Same H H'->Q (.ref a) H'
def vY:Sp:=λ vs H Q _=>∃(t u v:Mi)(xs ys ws:Mo Int),vs=[.ref t,.ref u,.ref v]/\H t= ~~~(bV xs)/\H u= ~~~(bV ys)/\H v= ~~~(bV ws)/\xs.length=ys.length/\xs.length=ws.length/\xs.length<=8/\∀(a:Mi)(H':Hp),H' a= ~~~(bV (cD xs ys ws))->Same H H'->Q (.ref a) H'
def vZ:Sp:=λ vs H Q _=>∃(t u:Mi)(xs ys:Mo Int),vs=[.ref t,.ref u]/\H t= ~~~(bV xs)/\H u= ~~~(bV ys)/\xs.length=ys.length/\xs.length<=8/\∀H',Same H H'->Q (.bl (iK xs ys)) H'
theorem sconeb:FnScope ["wanted","kind"] ["wanted","kind"] (defScope ci):=%[O,O,O,∅,O,∅|∅]
theorem yh{f:Mi}{fd:F9}(F:Fun K "bundle_of_one" "bundle_of_one" ci f fd)(B:Blt mg):FnOk P w K mg base CX0 1 f fd ["wanted","kind"] (vX):=by
 exists sconeb
 ·obtain⟨t,ws,k,rfl,_⟩:=h
  rfl
 obtain⟨t,ws,k,rfl,ht,l8,q⟩:=h;have nd:=sconeb.nd;refine%[_,((@aT _ _ _ _ _ _ _ _ _ aW O B.tuple M4 ((br (own:=["number"]) (cs:=["kind"]) (cap:=[1]) O (dC O B.range ((@ap _ _ _ _ _ _ _ _ _ aE O B.len M8 ((pv 0)^^^ae) ∅ ∅ O O)^^^ae)) (az (sc:=defScope ci) (N:=["wanted","kind"]) O O ∅) (λ _ _ _ _ _=>am (i:=0) (by show List.Nodup (["number","kind"]:Mo Str) ;decide +kernel) O (Or.inl O) (Or.inr O)) (λ _ _ _ _ _=>aJ) (λ _ _ _ _ _=>(mG ((pv 0)<*>cx<*>(pv 1)) ag ag)))^^^ae) ∅ ∅ O O)⁻¹)|?_];have wl:(bV ws).length=ws.length:=B4 _;have sz:(40000:Nat)<=sizeLine:=∅
 have ol:(cC ws.length k).length=ws.length:=by unfold cC;rw[B4,LY]
 refine%[_,O,t,_,O,.inr (G3 ht)|?_];rw[wl];refine%[_,O,⋯,⋯|gp (lo:=0) (n:=Int.toNat (ws.length:Int)) (λ i ys Hx=>Same H Hx/\ys=((cC ws.length k).take i).map V.int) %[Same.refl _|O] ?_ ?_]
 ·rintro i ys Hx hi ⟨sx,rfl⟩;have hik:i < ws.length:=⋯
  refine%[by rw[B4,K0];omega,leS.set rfl|aK ?_];have oi:(cC ws.length k)[i]?=some (if Int.ofNat i=k then(1:Int)else 0):=by unfold cC;rw[G8,List.getElem?_range hik];rfl
  have tk:∀z:Int,(if Int.ofNat i=k then(1:Int)else 0)=z->((cC ws.length k).take i).map V.int ++ [V.int z]=((cC ws.length k).take (i+1)).map V.int:=λ z hz=>by rw[J8,oi,hz];simp only[K5,J3,G9,LN]
  refine%[_,O,_,O,O,_,O|?_]
  by_cases c:Int.ofNat i=k
  ·rw[show decide (V.int (0+i)=V.int k)=true from Mx (by rw[<- c,MV];rfl)];exact bM (show Nx (Int.toNat (ws.length:Int)) (λ i ys Hx=>Same H Hx/\ys=((cC ws.length k).take i).map V.int) i (((cC ws.length k).take i).map V.int ++ [V.int 1]) Hx from Nx.of hi %[sx|tk 1 (Mw c)])
  ·rw[show decide (V.int (0+i)=V.int k)=false from M0 (λ z=>c (by injection z with z;rw[<- z,MV];rfl))];exact aZ (show Nx (Int.toNat (ws.length:Int)) (λ i ys Hx=>Same H Hx/\ys=((cC ws.length k).take i).map V.int) i (((cC ws.length k).take i).map V.int ++ [V.int 0]) Hx from Nx.of hi %[sx|tk 0 (Mu c)])
 ·rintro ys Hx ⟨sx,rfl⟩;rw[K2 ⋯];refine%[by rw[B4];omega|λ cl hcl=>?_];refine aH hcl λ H1 k1 s1=>?_;refine%[cl,_,O|.inl %[G4 k1|λ tp htp=>?_]];exact q tp _ ah ((sx.trans s1).trans (G2 htp))
theorem scjoined:FnScope ["one","other","wanted"] ["one","other","wanted"] (defScope gq):=%[O,O,O,∅,O,∅|∅]
theorem tD{f:Mi}{fd:F9}(F:Fun K "joined" "joined" gq f fd)(B:Blt mg):FnOk P w K mg base CX0 1 f fd ["one","other","wanted"] (vY):=by
 exists scjoined
 ·obtain⟨t,u,v,xs,ys,ws,rfl,_⟩:=h
  rfl
 obtain⟨t,u,v,xs,ys,ws,rfl,ht,hu',hv,e1,e2,l8,q⟩:=h;have nd:=scjoined.nd;refine%[_,((@aT _ _ _ _ _ _ _ _ _ aW O B.tuple M4 ((br (own:=["few","more","most"]) (cs:=[]) (cap:=[]) O (vJ O B.zip ((pv 0)^^^((pv 1)^^^((pv 2)^^^ae)))) (az (sc:=defScope gq) (N:=["one","other","wanted"]) O O ∅) (λ _ _ _ _ _=>vw K O O (by show List.Nodup (["few","more","most"]:Mo Str) ;decide +kernel) O O O O O O) (λ _ _ _ _ _=>aJ) (λ _ _ _ _ _=>(@ap _ _ _ _ _ _ _ _ _ (gQ O) O B.min PyProof.Rows.boot_min (((pv 0)|||bf|||(pv 1))^^^((pv 2)^^^ae)) ∅ ∅ O O)))^^^ae) ∅ ∅ O O)⁻¹)|?_];have l1:(bV xs).length=xs.length:=B4 _;have l2:(bV ys).length=ys.length:=B4 _;have l3:(bV ws).length=ws.length:=B4 _;have sz:(40000:Nat)<=sizeLine:=∅
 have jl:=hU e1 e2;refine%[_,O,_,O,_,O,t,u,v,_,_,_,O,ht,hu',hv|oV (xs:=bV xs) (ys:=bV ys) (zs:=bV ws) (λ i us Hx=>Same H Hx/\us=((cD xs ys ws).take i).map V.int) ⋯ ⋯ (λ i us Hx ⟨sx,_⟩=>%[sx _ _ ht,sx _ _ hu'|sx _ _ hv]) %[Same.refl _|O] (λ i us Hx hi ⟨_,e⟩=>by rw[e,B4,K0];omega) ?_ ?_]
 ·rintro i x y z p us Hx hx hy hz hp ⟨sx,rfl⟩;have hin:i < (bV xs).length:=(A6.mp hx).1;obtain⟨x',hx',rfl⟩:=J7.mp (show Option.map V.int xs[i]?=some x by rw[<- G8];exact hx);obtain⟨y',hy',rfl⟩:=J7.mp (show Option.map V.int ys[i]?=some y by rw[<- G8];exact hy);obtain⟨z',hz',rfl⟩:=J7.mp (show Option.map V.int ws[i]?=some z by rw[<- G8];exact hz);have ji:=jG hx' hy' hz';have s1:=G2 hp (o:=.tup [.int x',.int y',.int z']);refine%[p,_,O,G3 ah,O,_,_,O,_,_,O,_,_,O,O,jX (jX (leS.set rfl) (leS.set rfl)) (leS.set rfl)|aK ?_];refine%[_,O,_,O,_,_,O,O,_,O,_,_,O|Nx.of hin %[sx.trans s1|?_]];rw[J8,ji,show(if z' < x'+y' then z' else x'+y')=min (x'+y') z' by split <;> omega];simp only[K5,J3,G9,LN]
 ·rintro us Hx ⟨sx,rfl⟩;rw[l1,K2 ⋯];refine%[by rw[B4];omega|λ cl hcl=>?_];refine aH hcl λ H1 k1 s1=>?_;refine%[cl,_,O|.inl %[G4 k1|λ tp htp=>?_]];exact q tp _ ah ((sx.trans s1).trans (G2 htp))
theorem scisless:FnScope ["one","other"] ["one","other"] (defScope dM):=%[O,O,O,∅,O,∅|∅]
theorem tE{f:Mi}{fd:F9}(F:Fun K "is_lesser" "is_lesser" dM f fd)(B:Blt mg):FnOk P w K mg base CX0 1 f fd ["one","other"] (vZ):=by
 exists scisless
 ·obtain⟨t,u,xs,ys,rfl,_⟩:=h
  rfl
 obtain⟨t,u,xs,ys,rfl,ht,hu',e1,l8,q⟩:=h;have nd:=scisless.nd;have hu:=hr.units;refine%[_,((fC (@bF _ _ _ _ _ _ _ _ (zJ hu) (pv 0) (pv 1) (ay _)) (fB (@ap _ _ _ _ _ _ _ _ _ (gU O) O B.all PyProof.Rows.boot_all ((br (own:=["few","many"]) (cs:=[]) (cap:=[]) O (jB O B.zip ((pv 0)^^^((pv 1)^^^ae))) (az (sc:=defScope dM) (N:=["one","other"]) O O ∅) (λ _ _ _ _ _=>eU K O O (by show List.Nodup (["few","many"]:Mo Str) ;decide +kernel) O O O O) (λ _ _ _ _ _=>aJ) (λ _ _ _ _ _=>(@bF _ _ _ _ _ _ _ _ mI (pv 0) (pv 1) (ay _))))^^^ae) ∅ ∅ O O)))⁻¹)|?_];have l1:(bV xs).length=xs.length:=B4 _;have l2:(bV ys).length=ys.length:=B4 _;have sz:(40000:Nat)<=sizeLine:=∅
 have lay:∀ns:Mo Int,PyData.canLayAll0 (ns.map PyData.int)=true/\PyData.depthAll (ns.map PyData.int)=0:=λ ns=>by
  induction ns with
  | nil=>exact%[O|O]
  | cons n r ih=>
   obtain⟨i1,i2⟩:=ih;refine%[by rw[G9,PyData.canLayAll0,i1];rfl|?_];rw[G9,PyData.depthAll,i2]
   rfl
 have shp:∀ns:Mo Int,SeqAt.shaped (.tuple (ns.map PyData.int))=true:=λ ns=>by
  obtain⟨i1,i2⟩:=lay ns;unfold SeqAt.shaped;rw[PyData.canLay0,i1,PyData.depth,i2]
  decide
 refine%[_,O,_,O,.tuple (xs.map PyData.int),.tuple (ys.map PyData.int),.tup (G3 ht) (zP _),.tup (G3 hu') (zP _),shp xs,shp ys,_,O|?_];rw[ED]
 by_cases c:xs=ys
 ·rw[Mx c];refine aZ ?_;have:=q H (Same.refl _);unfold iK at this;rw[Mx c]at this;exact this
 rw[M0 c];refine bM ?_;have cmp:∀i,i < xs.length->((xs.zip ys).take (i+1)).map (λ p:Int×Int=>decide (p.1<=p.2))=((xs.zip ys).take i).map (λ p:Int×Int=>decide (p.1<=p.2)) ++ [decide ((xs[i]?).getD 0<=(ys[i]?).getD 0)]:=λ i hi=>by
  have hz:(xs.zip ys)[i]?=some (xs[i],ys[i]'⋯):=by rw[List.getElem?_zip_eq_some];exact%[F2 hi|F2 ⋯]
  rw[J8,hz,F2 hi,F2 (show i < ys.length by omega)];simp
 refine%[_,O,_,O,t,u,_,_,O,ht,hu'|fR (xs:=bV xs) (ys:=bV ys) (λ i us Hx=>Same H Hx/\us=(((xs.zip ys).take i).map (λ p:Int×Int=>decide (p.1<=p.2))).map V.bl) ⋯ (λ i us Hx ⟨sx,_⟩=>%[sx _ _ ht|sx _ _ hu']) %[Same.refl _|O] (λ i us Hx hi ⟨_,e⟩=>by rw[e,B4,B4,K0];omega) ?_ ?_]
 ·rintro i x y p us Hx hx hy hp ⟨sx,rfl⟩;have hin:i < (bV xs).length:=(A6.mp hx).1;obtain⟨x',hx',rfl⟩:=J7.mp (show Option.map V.int xs[i]?=some x by rw[<- G8];exact hx);obtain⟨y',hy',rfl⟩:=J7.mp (show Option.map V.int ys[i]?=some y by rw[<- G8];exact hy);have s1:=G2 hp (o:=.tup [.int x',.int y']);refine%[p,_,O,G3 ah,O,_,_,O,_,_,O,O,jX (leS.set rfl) (leS.set rfl)|aK ?_];refine%[_,O,_,O,_,_,O,O|Nx.of hin %[sx.trans s1|?_]];rw[cmp i ⋯,hx',hy',J3]
  rfl
 ·rintro us Hx ⟨sx,rfl⟩;rw[l1,K2 (by rw[List.length_zip];omega)];refine%[by rw[B4,B4,List.length_zip];omega|λ cl hcl=>?_];refine%[cl,_,O,G4 ah|?_];have:=q _ (sx.trans (G2 hcl (o:=.lst (((xs.zip ys).map (λ p:Int×Int=>decide (p.1<=p.2))).map V.bl))));unfold iK leB at this;rw[M0 c]at this;rw[List.all_map];exact this
theorem scwanted:FnScope ["self"] ["self"] (defScope cA):=%[O,O,O,∅,O,∅|∅]
theorem tF{f C:Mi}{fd:F9}(F:Fun K "wanted" "Shop.wanted" cA f fd)(B:Blt mg)(T:ShopTxt K C):FnOk P w K mg base CX0 1 f fd ["self"] (cS C):=by
 exists scwanted
 ·obtain⟨x,b,ks,rfl,_⟩:=h
  rfl
 obtain⟨x,b,ks,rfl,S,k8,q⟩:=h;have nd:=scwanted.nd;refine%[_,((@aT _ _ _ _ _ _ _ _ _ aW O B.tuple M4 ((br (own:=["kind"]) (cs:=[]) (cap:=[]) O (lg (fH (pv 0) O)) (az (sc:=defScope cA) (N:=["self"]) O O ∅) (λ _ _ _ _ _=>am (i:=0) (by show List.Nodup (["kind"]:Mo Str) ;decide +kernel) O (Or.inl O) (Or.inr O)) (λ _ _ _ _ _=>aJ) (λ _ _ _ _ _=>(aN (r:=rIxT K) bY (pv 0) ag (λ _ _=>O))))^^^ae) ∅ ∅ O O)⁻¹)|?_];have sz:(100:Nat) < sizeLine:=∅
 obtain⟨dx,r,rs,h1,h2,h3⟩:=id S;have len:=E3 h3;refine%[_,O,x,C,dx,_,_,O,h1,T.cl,T.nK,cK _ _,r,O,%[_|G3 h2]|(bI (K:=K) (.inr h2) (λ i ys H4=>H4=H/\ys=((ks.take i).map λ k=>V.int k.wa)) (λ i ys H4 _ ⟨e4,_⟩ o e=>by rw[e4];exact e) %[O|O] ?_ ?_).2 h2]
 ·rintro i y ys H4 hi ⟨e4,rfl⟩;subst e4;have hin:i < rs.length:=(A6.mp hi).1;obtain⟨k,hk,a,rfl,ha⟩:=G6 h3 hi;refine%[by rw[B4,K0];omega,leS.set rfl|aK %[_,O,a,_,3,_,O,O,G3 ha,O|Nx.of hin %[O|?_]]];rw[J8,hk];simp only[K5,J3,G9,LN]
 ·rintro ys H4 ⟨e4,rfl⟩;subst e4;rw[len,LL];refine%[by rw[B4];omega|λ p hp=>%[p,_,O|.inl %[G4 ah|λ t ht=>?_]]];have s1:=(G2 (o:=.lst (ks.map λ k=>V.int k.wa)) hp).trans (G2 (o:=.tup (ks.map λ k=>V.int k.wa)) ht);exact q t _ ((G2 hp).free ht) ah s1
theorem sccsmall:FnScope ["shop","wide","high"] ["shop","wide","high"] (defScope bQ):=%[O,O,O,∅,O,∅|∅]
theorem tG{f:Mi}{fd:F9}(F:Fun K "check_small" "check_small" bQ f fd){C:Mi}(B:Blt mg)(T:ShopTxt K C)(hms:∃t,mg "MOST_SIDE" = some (.int 8 t))(hmw:∃t,mg "MOST_WANTED" = some (.int 6 t))(MW:Mn P w K mg base C "wanted" ["self"] 1 (cS C))(DCP:Dn P w K mg base "check_plate" ["wide","high"] 2 (spCP))(DCS:Dn P w K mg base "check_sides" ["wide","high","most"] 1 (spCS)):FnOk P w K mg base CX0 3 f fd ["shop","wide","high"] (vW C):=by
 exists sccsmall
 ·obtain⟨s,b,w1,h1,ks,rfl,_⟩:=h
  rfl
 obtain⟨s,b,w1,h1,ks,rfl,sh,k8,w0,w8,h0,h8,sm,q⟩:=h;have nd:=sccsmall.nd;obtain⟨tm1,hm1⟩:=hms;obtain⟨tm2,hm2⟩:=hmw;refine%[_,((@bq _ _ _ _ (DCP∪((pv 1)^^^((pv 2)^^^ae))) O)<<<((@bq _ _ _ _ (DCS∩((pv 1)^^^((pv 2)^^^((aI (v:=.int 8) O hm1 %[tm1|O])^^^ae)))) O)>>>(((@ap _ _ _ _ _ _ _ _ _ (hJ O) O B.sum PyProof.Rows.boot_sum ((cF (pv 0) T.cl MW (hr.mono ∅))^^^ae) ∅ ∅ O O)<*>ip<*>(aI (v:=.int 6) O hm2 %[tm2|O]))<|>(@ai _ _ _ bo)<|>av)))|?_];obtain⟨dx,r,rs,S1,S2,S3⟩:=id sh;refine%[_,O,_,O,w1,h1,O,w0,h0|?_];refine bH (λ σ' H'=>σ'=[↑s,⇑w1,⇑h1]/\H=H') (λ R hR=>hR _ _ %[rfl|rfl]) ?_;rintro _ _ ⟨rfl,rfl⟩;refine%[_,O,_,O,w1,h1,8,O,w8,h8|?_];refine bH (λ σ' H'=>σ'=[↑s,⇑w1,⇑h1]/\H=H') (λ R hR=>hR _ _ %[rfl|rfl]) ?_;rintro _ _ ⟨rfl,rfl⟩;refine%[_,O,s,dx,_,O,S1,(bi _ _ ∅ ∅),s,b,ks,O,sh,k8|λ t H1 hn ht s1=>?_];refine%[t,ks.map (λ k=>k.wa),O,G3 (by rw[LO];exact ht),_,_,O,O,_,O|?_];rw[M0 ⋯];exact aZ (q _ s1)
def msr(p:Int×Int):Nat:=(p.1+p.2).toNat
theorem rz{dn:Bool}{n:Nat}{x:Bool×Int}(h:x∈wpL dn n):x.1=dn/\1<=x.2/\x.2<=n:=by unfold wpL at h;obtain⟨j,hj,rfl⟩:=J0.mp h;have:=LM.mp hj;exact%[O,by show 1<=1+(j:Int);omega|by show 1+(j:Int)<=n;omega]
theorem tH{b w h:Int}{x:Bool×Int}(m:x∈cB b w h):1<=x.2/\(if x.1=true then x.2+b < w else x.2+b < h):=by
 unfold cB at m;rcases C4.mp m with m | m
 ·obtain⟨e,h1,h2⟩:=rz m;rw[e,Mw rfl];exact%[h1|⋯]
 ·obtain⟨e,h1,h2⟩:=rz m;rw[e,Mu B2];exact%[h1|⋯]
theorem gz{b w h:Int}{x:Bool×Int}(b0:0<=b)(w0:1<=w)(h0:1<=h)(m:x∈cB b w h) :
  (1<=(cR w h x).1/\1<=(cR w h x).2/\(cR w h x).1<=w/\(cR w h x).2<=h/\((cR w h x).1 < w\/(cR w h x).1=w/\(cR w h x).2 < h)/\msr (cR w h x) < msr (w,h)) /\
  (1<=(cY b w h x).1/\1<=(cY b w h x).2/\(cY b w h x).1<=w/\(cY b w h x).2<=h/\((cY b w h x).1 < w\/(cY b w h x).1=w/\(cY b w h x).2 < h)/\msr (cY b w h x) < msr (w,h)):=by
 obtain⟨h1,h2⟩:=tH m;obtain⟨dn,p⟩:=x;cases dn with
 | true=>
  have h2:p+b < w:=h2;have h1:1<=p:=h1;show(1<=p/\1<=h/\p<=w/\h<=h/\(p < w\/p=w/\h < h)/\(p+h).toNat < (w+h).toNat)/\(1<=w - p - b/\1<=h/\w - p - b<=w/\h<=h/\(w - p - b < w\/w - p - b=w/\h < h)/\(w - p - b+h).toNat < (w+h).toNat)
  refine%[%[?_,?_,?_,?_,?_|?_]|%[?_,?_,?_,?_,?_|?_]] <;> omega
 | false=>
  have h2:p+b < h:=h2;have h1:1<=p:=h1;show(1<=w/\1<=p/\w<=w/\p<=h/\(w < w\/w=w/\p < h)/\(w+p).toNat < (w+h).toNat)/\(1<=w/\1<=h - p - b/\w<=w/\h - p - b<=h/\(w < w\/w=w/\h - p - b < h)/\(w+(h - p - b)).toNat < (w+h).toNat)
  refine%[%[?_,?_,?_,?_,?_|?_]|%[?_,?_,?_,?_,?_|?_]] <;> omega
def ltP(p q:Int×Int):Prop:=p.1 < q.1\/p.1=q.1/\p.2 < q.2
theorem rowP_mem{a:Int}{n:Nat}{p:Int×Int}:p∈jF a n↔p.1=a/\1<=p.2/\p.2<=n:=by
 unfold jF;constructor
 ·intro h;obtain⟨j,hj,rfl⟩:=J0.mp h;have:=LM.mp hj;exact%[O,by show 1<=1+(j:Int);omega|by show 1+(j:Int)<=n;omega]
 ·rintro⟨e,h1,h2⟩;refine J0.mpr %[(p.2 - 1).toNat,LM.mpr ⋯|?_];rw[<- e,show 1+((p.2 - 1).toNat:Int)=p.2 by omega]
theorem partsL_mem{n:Nat}{p:Int×Int}:∀{m:Nat},p∈aL m n↔(1<=p.1/\p.1<=m)/\1<=p.2/\p.2<=n
 | 0=>by
  constructor
  ·intro h;simp[aL]at h
  ·rintro⟨⟨h1,h2⟩,_⟩;exfalso;have h2:p.1<=0:=h2;omega
 | m+1=>by
  rw[dh,C4,partsL_mem (m:=m),rowP_mem];constructor
  ·rintro(⟨⟨h1,h2⟩,h3⟩ | ⟨h1,h2⟩)
   ·exact%[%[h1|⋯]|h3]
   ·exact%[%[⋯|⋯]|h2]
  ·rintro⟨⟨h1,h2⟩,h3⟩
   by_cases e:p.1=1+(m:Int)
   ·exact .inr %[e|h3]
   ·exact .inl %[%[h1|⋯]|h3]
theorem kS(a:Int):∀n:Nat,(jF a n).Pairwise ltP
 | 0=>List.Pairwise.nil
 | n+1=>by rw[kR,List.pairwise_append];refine%[kS a n,List.pairwise_singleton _ _|λ p hp q hq=>?_];rw[E2.mp hq];obtain⟨e,_,h⟩:=rowP_mem.mp hp;exact .inr %[e|by show p.2 < 1+(n:Int);omega]
theorem di(n:Nat):∀m:Nat,(aL m n).Pairwise ltP
 | 0=>List.Pairwise.nil
 | m+1=>by rw[dh,List.pairwise_append];refine%[di n m,kS _ n|λ p hp q hq=>?_];obtain⟨⟨_,h⟩,_⟩:=partsL_mem.mp hp;obtain⟨e,_⟩:=rowP_mem.mp hq;exact .inl ⋯
theorem iG{m n i:Nat}{p q:Int×Int}(hi:(aL m n)[i]?=some p)(hq:q∈aL m n)(hl:ltP q p):q∈(aL m n).take i:=by
 obtain⟨j,hj⟩:=K1.mp hq;obtain⟨i1,i2⟩:=A6.mp hi;obtain⟨j1,j2⟩:=A6.mp hj
 by_cases h:j < i
 ·refine K1.mpr %[j|?_];rw[List.getElem?_take_of_lt h];exact hj
 ·exfalso;rcases Md i j with h' | h'
  ·have:=List.pairwise_iff_getElem.mp (di n m) i j i1 j1 h';rw[i2,j2]at this;unfold ltP at this hl;omega
  ·have e:i=j:=⋯
   subst e;rw[hi]at hj;cases hj;unfold ltP at hl;omega
theorem pe{m n i:Nat}{p:Int×Int}(hi:(aL m n)[i]?=some p):p∉(aL m n).take i:=λ h=>by obtain⟨j,hj⟩:=K1.mp h;obtain⟨j0,_⟩:=A6.mp hj;rw[K0]at j0;rw[List.getElem?_take_of_lt ⋯]at hj;obtain⟨i1,i2⟩:=A6.mp hi;obtain⟨j1,j2⟩:=A6.mp hj;have:=List.pairwise_iff_getElem.mp (di n m) j i j1 i1 ⋯;rw[i2,j2]at this;unfold ltP at this;omega
abbrev pk(p:Int×Int):Mo Key:=[.inl p.1,.inl p.2]
theorem pf{p q:Int×Int}(h:pk p=pk q):p=q:=by
 obtain⟨a,b⟩:=p;obtain⟨c,d⟩:=q;have h:([.inl a,.inl b]:Mo Key)=[.inl c,.inl d]:=h;injection h with h1 h2
 injection h1 with h1
 injection h2 with h2 _
 injection h2 with h2
 rw[h1,h2]
def byP(ss:Mo ((Int×Int)×V)):Mo (Mo Key×V):=ss.map λ s=>(pk s.1,s.2)
theorem yi{ss:Mo ((Int×Int)×V)}{p:Int×Int}{v:V}(h:p∉ss.map (·.1)):dF (byP ss) (pk p) v=byP (ss ++ [(p,v)]):=by
 unfold dF;rw[Mu,byP,byP,J3]
 ·rfl
 ·intro e;obtain⟨x,hx,e⟩:=List.any_eq_true.mp e;obtain⟨s,hs,rfl⟩:=J0.mp hx;have:s.1=p:=pf (C1 e);exact h (J0.mpr %[s,hs|this])
theorem fo:∀{ss:Mo ((Int×Int)×V)}{p:Int×Int},p∈ss.map (·.1)->∃v,cG (byP ss) (pk p)=some v/\(p,v)∈ss
 | s :: r,p,h=>by
  by_cases e:s.1=p
  ·refine%[s.2,dG (by show pk s.1=pk p;rw[e])|?_];rw[<- e];exact B8
  ·have h:p∈r.map (·.1):=(G7.mp h).resolve_left (λ z=>e z.symm);obtain⟨v,h1,h2⟩:=fo h;refine%[v,?_|B5 _ h2];show cG ((pk s.1,s.2) :: byP r) (pk p)=some v;rw[cz (λ z=>e (pf z))];exact h1
inductive Stp where
 | rest
 | piece (k:Int) (t:Bool)
 | cut (dn:Bool) (p:Int) (f:Int×Int) (o:Mo Int) (s:Int×Int) (u:Mo Int)
abbrev Rws:=Mo (Mo Int×Stp)
def fT(rs:Rws)(r:Mo Int×Stp):Rws:=if r.1∈rs.map (·.1)then rs else rs ++ [r]
def et(rs l:Rws):Rws:=l.foldl fT rs
theorem gA(rs l m:Rws):et rs (l ++ m)=et (et rs l) m:=List.foldl_append
theorem putN_keys{rs:Rws}{r:Mo Int×Stp}{x:Mo Int}:x∈(fT rs r).map (·.1)↔x∈rs.map (·.1)\/x=r.1:=by
 unfold fT
 split
 ·next h=>exact%[.inl|λ z=>z.elim id λ e=>e ▸ h]
 ·rw[J3,C4,G9,LN,E2]
theorem adds_keys{x:Mo Int}:∀{l rs:Rws},x∈(et rs l).map (·.1)↔x∈rs.map (·.1)\/x∈l.map (·.1)
 | [],rs=>by simp[et]
 | r :: l,rs=>by show x∈(et (fT rs r) l).map (·.1)↔_;rw[adds_keys,putN_keys,G9,G7,or_assoc]
theorem jH{rs:Rws}{r:Mo Int×Stp}(h:(rs.map (·.1)).Nodup):((fT rs r).map (·.1)).Nodup:=by
 unfold fT
 split
 ·exact h
 ·next z=>
  rw[J3,MQ];refine%[h,by simp|λ a ha b hb e=>z ?_];simp only[G9,LN,E2]at hb;rw[<- hb,<- e];exact ha
theorem fU:∀{l rs:Rws},(rs.map (·.1)).Nodup->((et rs l).map (·.1)).Nodup
 | [],_,h=>h
 | r :: l,rs,h=>by show((et (fT rs r) l).map (·.1)).Nodup;exact fU (jH h)
def InB(ws b:Mo Int):Prop:=b.length=ws.length/\leB b ws=true/\∀x∈b,0<=x
theorem cT(x y:Int)(a b:Mo Int):leB (x :: a) (y :: b)=(decide (x<=y) && leB a b):=rfl
theorem jI:∀a:Mo Int,leB a a=true
 | []=>rfl
 | x :: a=>by rw[cT,jI a,Mx (E5 x)];rfl
theorem kT:∀{a b c:Mo Int},a.length=b.length->b.length=c.length->leB a b=true->leB b c=true->leB a c=true
 | [],_,_,_,_,_,_=>rfl
 | x :: a,y :: b,z :: c,h1,h2,h3,h4=>by rw[cT,LQ,NR]at h3 h4 ⊢;exact%[Me h3.1 h4.1|kT (by simpa using h1) (by simpa using h2) h3.2 h4.2]
 | _ :: _,[],_,h1,_,_,_=>by simp at h1
 | _ :: _,_ :: _,[],_,h2,_,_=>by simp at h2
theorem lZ:∀{a b:Mo Int},a.length=b.length->leB a b=true->a.sum<=b.sum/\(a.sum=b.sum->a=b)
 | [],[],_,_=>%[E5 _|λ _=>rfl]
 | x :: a,y :: b,h1,h2=>by rw[cT,LQ,NR]at h2;obtain⟨i1,i2⟩:=lZ (a:=a) (b:=b) (by simpa using h1) h2.2;rw[K7,K7];refine%[⋯|λ e=>?_];rw[i2 ⋯,show x=y by omega]
 | [],_ :: _,h,_=>by simp at h
 | _ :: _,[],h,_=>by simp at h
theorem InB.sum{ws b:Mo Int}(h:InB ws b):b.sum<=ws.sum:=(lZ h.1 h.2.1).1
def tI:Mo Int->Mo (Mo Int)
 | []=>[[]]
 | w :: ws=>(List.range (w+1).toNat).flatMap λ x:Nat=>(tI ws).map λ b=>Int.ofNat x :: b
theorem InB.box:∀{ws b:Mo Int},InB ws b->b∈tI ws
 | [],[],_=>E2.mpr rfl
 | [],_ :: _,h=>by have:=h.1;simp at this
 | _ :: _,[],h=>by have:=h.1;simp at this
 | w :: ws,x :: b,⟨h1,h2,h3⟩=>by rw[cT,LQ,NR]at h2;have x0:=h3 x B8;refine LU.mpr %[x.toNat,LM.mpr ⋯|J0.mpr %[b,InB.box %[by simpa using h1,h2.2|λ y hy=>h3 y (B5 _ hy)]|?_]];rw[show Int.ofNat x.toNat=x from Int.toNat_of_nonneg x0]
theorem nC{α β:Type}(f:α->Mo β)(n:Nat):∀l:Mo α,(∀a∈l,(f a).length=n)->(l.flatMap f).length=l.length * n
 | [],_=>by simp
 | a :: l,h=>by rw[LZ,J5,h a B8,nC f n l (λ b hb=>h b (B5 _ hb)),J4,Nat.succ_mul,Nat.add_comm]
theorem hV:∀{ws:Mo Int},(∀x∈ws,0<=x)->0<=ws.sum
 | [],_=>E5 _
 | w :: ws,h=>by have:=hV (ws:=ws) (λ x hx=>h x (B5 _ hx));have:=h w B8;rw[K7];omega
theorem nD:∀{ws:Mo Int},(∀x∈ws,0<=x)->(tI ws).length<=2 ^ ws.sum.toNat
 | [],_=>∅
 | w :: ws,h=>by
  have w0:=h w B8;have h':∀x∈ws,0<=x:=λ x hx=>h x (B5 _ hx);have s0:=hV h';have ih:=nD h';have e:(tI (w :: ws)).length=(w+1).toNat * (tI ws).length:=by show((List.range (w+1).toNat).flatMap _).length=_;rw[nC _ (tI ws).length _ (λ a _=>B4 _),LY]
  rw[e,K7,show(w+ws.sum).toNat=w.toNat+ws.sum.toNat by omega,Nat.pow_add];refine Nat.mul_le_mul ?_ ih;have:=@Nat.lt_two_pow_self w.toNat;omega
theorem InB.few{ws:Mo Int}(h0:∀x∈ws,0<=x)(h6:ws.sum<=5){bs:Mo (Mo Int)}(hn:bs.Nodup)(hb:∀b∈bs,InB ws b):bs.length<=32 :=
 C7 (List.Nodup.length_le_of_subset hn λ b m=>(hb b m).box) (C7 (nD h0) (C7 (Nat.pow_le_pow_right ∅ (show ws.sum.toNat<=5 by omega)) ∅))
theorem InB.join:∀{ws a b:Mo Int},(∀x∈ws,0<=x)->InB ws a->InB ws b->InB ws (cD a b ws)
 | [],[],[],_,_,_=>%[O,O|λ _ h=>by simp[cD]at h]
 | w :: ws,x :: a,y :: b,h0,⟨a1,a2,a3⟩,⟨b1,b2,b3⟩=>by
  rw[cT,LQ,NR]at a2 b2;have w0:=h0 w B8;have x0:=a3 x B8;have y0:=b3 y B8;obtain⟨i1,i2,i3⟩:=InB.join (ws:=ws) (a:=a) (b:=b) (λ z hz=>h0 z (B5 _ hz)) %[by simpa using a1,a2.2|λ z hz=>a3 z (B5 _ hz)] %[by simpa using b1,b2.2|λ z hz=>b3 z (B5 _ hz)];refine%[by rw[cD,J4,J4,i1],?_|λ z hz=>?_]
  ·rw[cD,cT,i2,Mx (Int.min_le_right _ _)];rfl
  ·rw[cD]at hz;rcases G7.mp hz with rfl | hz
   ·omega
   ·exact i3 z hz
 | [],_ :: _,_,_,h,_=>by have:=h.1;simp at this
 | [],[],_ :: _,_,_,h=>by have:=h.1;simp at this
 | _ :: _,[],_,_,h,_=>by have:=h.1;simp at this
 | _ :: _,_ :: _,[],_,_,h=>by have:=h.1;simp at this
theorem cu:∀{a b:Mo Int},a.length=b.length->(leB a b=true↔∀(i:Nat)(x y:Int),a[i]?=some x->b[i]?=some y->x<=y)
 | [],[],_=>%[λ _ i x y h=>by simp at h|λ _=>rfl]
 | u :: a,v :: b,h=>by
  have ih:=cu (a:=a) (b:=b) (by simpa using h);rw[cT,LQ,NR,ih];constructor
  ·rintro⟨h1,h2⟩ i x y hx hy;cases i with
   | zero=>simp at hx hy;omega
   | succ i=>exact h2 i x y (by simpa using hx) (by simpa using hy)
  ·intro h';exact%[h' 0 u v rfl rfl|λ i x y hx hy=>h' (i+1) x y (by simpa using hx) (by simpa using hy)]
 | [],_ :: _,h=>by simp at h
 | _ :: _,[],h=>by simp at h
def aR(n:Nat):Mo Int:=List.replicate n 0
theorem InB.zero{ws:Mo Int}(h0:∀x∈ws,0<=x):InB ws (aR ws.length):=by refine%[K4,(cu K4).mpr λ i x y hx hy=>?_|λ x hx=>by rw[(List.mem_replicate.mp hx).2];exact E5 _];have e:x=0:=(List.mem_replicate.mp (B6 hx)).2;rw[e];exact h0 y (B6 hy)
theorem rA{n i:Nat}{k x:Int}(h:(cC n k)[i]?=some x):i < n/\x=if Int.ofNat i=k then 1 else 0:=by unfold cC at h;rw[G8]at h;obtain⟨j,hj,e⟩:=J7.mp h;have hl:=(A6.mp hj).1;rw[List.getElem?_range (by simpa using hl)]at hj;cases hj;exact%[by simpa using hl|e.symm]
theorem jJ(n:Nat)(k:Int):(cC n k).length=n:=by unfold cC;rw[B4,LY]
theorem InB.one{ws:Mo Int}{k:Nat}{z:Int}(h0:∀x∈ws,0<=x)(hk:ws[k]?=some z)(hz:0 < z):InB ws (cC ws.length k):=by
 refine%[jJ _ _,(cu (jJ _ _)).mpr λ i x y hx hy=>?_|λ x hx=>?_]
 ·obtain⟨_,e⟩:=rA hx;have y0:=h0 y (B6 hy)
  by_cases c:Int.ofNat i=(k:Int)
  ·rw[Mw c]at e;have:i=k:=by have:(i:Int)=k:=c;omega
   subst this;rw[hk]at hy;cases hy;omega
  ·rw[Mu c]at e;omega
 ·obtain⟨i,hi⟩:=K1.mp hx;obtain⟨_,e⟩:=rA hi;rw[e];split <;> omega
def jY(bs:Mo (Mo Int)):Mo (Mo Int):=bs.mergeSort λ x y=>!(bT y x)
theorem dO(bs:Mo (Mo Int)):(jY bs).Perm bs:=List.mergeSort_perm _ _
theorem tJ(bs:Mo (Mo Int)):(jY bs).Pairwise λ x y=>bT y x=false:=by
 have:=List.pairwise_mergeSort (le:=λ x y=>!(bT y x)) (λ a b c h1 h2=>?_) (λ a b=>?_) bs
 ·exact this.imp λ h=>by simpa using h
 ·simp only[Bool.not_eq_true']at h1 h2 ⊢;cases e:bT c a with
  | false=>rfl
  | true=>
   rcases lP c b a e with z | z
   ·rw[z]at h2;cases h2
   ·rw[z]at h1;cases h1
 ·cases e:bT b a with
  | false=>rfl
  | true=>
   cases e2:bT a b with
   | false=>rfl
   | true=>have:=gY _ _ _ e e2;rw[fO]at this;cases this
theorem tK{l bs:Mo (Mo Int)}(hp:l.Perm bs)(hs:l.Pairwise λ x y=>bT y x=false):l=jY bs :=
 List.Perm.eq_of_pairwise (le:=λ x y=>bT y x=false) (λ a b _ _ a1 a2=>gZ _ _ a2 a1) hs (tJ bs) (hp.trans (dO bs).symm)
def kU(bs:Mo (Mo Int))(b:Mo Int):Bool:=!(bs.map λ c=>iK b c).any id
def gC(bs:Mo (Mo Int)):Mo (Mo Int):=(jY bs).filter (kU bs)
theorem mem_topB{bs:Mo (Mo Int)}{b:Mo Int}:b∈gC bs↔b∈bs/\∀c∈bs,iK b c=false:=by unfold gC kU;rw[MJ,(dO bs).mem_iff];refine and_congr_right λ _=>?_;rw[Bool.not_eq_true',List.any_eq_false];simp only[id,Bool.not_eq_true];exact%[λ h c hc=>h _ (J0.mpr %[c,hc|O])|λ h c hc=>by obtain⟨d,hd,rfl⟩:=J0.mp hc;exact h d hd]
theorem eA{bs:Mo (Mo Int)}(h:bs.Nodup):(gC bs).Nodup:=((dO bs).symm.nodup h).filter _
def hW(rs:Rws)(b:Mo Int):Stp:=((rs.find? λ r=>decide (r.1=b)).map (·.2)).getD .rest
def iL(rs:Rws):Rws:=(gC (rs.map (·.1))).map λ b=>(b,hW rs b)
theorem kW(rs:Rws):(iL rs).map (·.1)=gC (rs.map (·.1)):=by unfold iL;rw[LO];exact List.map_id' _
def waA(ks:Mo Kd)(i:Nat):Int:=((ks[i]?).map (·.wa)).getD 0
abbrev wsK(ks:Mo Kd):Mo Int:=ks.map λ k=>k.wa
def lyR(ks:Mo Kd)(q:Nat×Bool):Rws:=if 0 < waA ks q.1 then[(cC ks.length q.1,.piece q.1 q.2)]else[]
def lyC(ks:Mo Kd)(p:Int×Int):Rws:=((lyK ks 0).filter (gv ks p.1 p.2)).flatMap (lyR ks)
def EE(b:Int)(ks:Mo Kd)(p:Int×Int)(c:Bool×Int)(o u:Mo Int):Mo Int×Stp:=(cD o u (wsK ks),.cut c.1 c.2 (cR p.1 p.2 c) o (cY b p.1 p.2 c) u)
def tL(b:Int)(ks:Mo Kd)(p:Int×Int)(c:Bool×Int)(us:Mo (Mo Int))(o:Mo Int):Rws:=us.map (EE b ks p c o)
def nE(b:Int)(ks:Mo Kd)(fd:Int×Int->Rws)(p:Int×Int)(c:Bool×Int):Rws:=((fd (cR p.1 p.2 c)).map (·.1)).flatMap (tL b ks p c ((fd (cY b p.1 p.2 c)).map (·.1)))
def eG(ks:Mo Kd):Rws:=[(aR ks.length,.rest)]
def bA(b:Int)(ks:Mo Kd)(fd:Int×Int->Rws)(p:Int×Int):Rws:=et (et (eG ks) (lyC ks p)) ((cB b p.1 p.2).flatMap (nE b ks fd p))
def gF(b:Int)(ks:Mo Kd):Nat->Int×Int->Rws
 | 0,_=>[]
 | n+1,p=>iL (bA b ks (gF b ks n) p)
theorem jK{α β:Type}{f g:α->Mo β}:∀{l:Mo α},(∀a∈l,f a=g a)->l.flatMap f=l.flatMap g
 | [],_=>rfl
 | a :: l,h=>by rw[LZ,LZ,h a B8,jK λ b hb=>h b (B5 _ hb)]
theorem gD{b:Int}{ks:Mo Kd}{f g:Int×Int->Rws}{p:Int×Int}(h:∀c∈cB b p.1 p.2,f (cR p.1 p.2 c)=g (cR p.1 p.2 c)/\f (cY b p.1 p.2 c)=g (cY b p.1 p.2 c)):bA b ks f p=bA b ks g p:=by unfold bA;rw[jK λ c hc=>?_];unfold nE;rw[(h c hc).1,(h c hc).2]
theorem fq{b:Int}{ks:Mo Kd}(b0:0<=b):∀(n m:Nat)(p:Int×Int),msr p < n->msr p < m->1<=p.1->1<=p.2->gF b ks n p=gF b ks m p
 | 0,_,_,h,_,_,_=>absurd h (E9 _)
 | _+1,0,_,_,h,_,_=>absurd h (E9 _)
 | n+1,m+1,p,h1,h2,p1,p2=>by show iL _=iL _;rw[gD λ c hc=>?_];obtain⟨⟨a1,a2,_,_,_,a6⟩,⟨c1,c2,_,_,_,c6⟩⟩:=gz b0 p1 p2 hc;have e:msr (p.1,p.2)=msr p:=rfl;exact%[fq b0 n m _ ⋯ ⋯ a1 a2|fq b0 n m _ ⋯ ⋯ c1 c2]
def gB(b:Int)(ks:Mo Kd)(p:Int×Int):Rws:=gF b ks (msr p+1) p
theorem wc{b:Int}{ks:Mo Kd}(b0:0<=b)(p:Int×Int)(p1:1<=p.1)(p2:1<=p.2):gB b ks p=iL (bA b ks (gB b ks) p):=by show iL _=iL _;rw[gD λ c hc=>?_];obtain⟨⟨a1,a2,_,_,_,a6⟩,⟨c1,c2,_,_,_,c6⟩⟩:=gz b0 p1 p2 hc;have e:msr (p.1,p.2)=msr p:=rfl;exact%[fq b0 _ _ _ ⋯ ⋯ a1 a2|fq b0 _ _ _ ⋯ ⋯ c1 c2]
theorem ws0{ks:Mo Kd}(hg:∀k∈ks,0<=k.wa):∀x∈wsK ks,0<=x:=λ x hx=>by obtain⟨k,hk,rfl⟩:=J0.mp hx;exact hg k hk
theorem wd{ks:Mo Kd}(hg:∀k∈ks,0<=k.wa){q:Nat×Bool}{r:Mo Int×Stp}(h:r∈lyR ks q):InB (wsK ks) r.1:=by
 unfold lyR at h
 split at h
 ·next z=>
  rw[E2]at h;subst h;have e:(wsK ks).length=ks.length:=B4 _;show InB (wsK ks) (cC ks.length q.1);rw[<- e];refine InB.one (ws0 hg) (z:=waA ks q.1) ?_ z;rw[G8];unfold waA at z ⊢;cases e:ks[q.1]? with
  | none=>rw[e]at z;exact absurd z ∅
  | some k=>rfl
 ·cases h
theorem hX{b:Int}{ks:Mo Kd}(hg:∀k∈ks,0<=k.wa){fd:Int×Int->Rws}{p:Int×Int}(hf:∀c∈cB b p.1 p.2,(∀r∈fd (cR p.1 p.2 c),InB (wsK ks) r.1)/\∀r∈fd (cY b p.1 p.2 c),InB (wsK ks) r.1){x:Mo Int}(hx:x∈(bA b ks fd p).map (·.1)):InB (wsK ks) x:=by
 unfold bA at hx;rcases adds_keys.mp hx with hx | hx
 ·rcases adds_keys.mp hx with hx | hx
  ·simp only[eG,G9,LN,E2]at hx;rw[hx,show ks.length=(wsK ks).length from(B4 _).symm];exact InB.zero (ws0 hg)
  ·obtain⟨r,hr,rfl⟩:=J0.mp hx;obtain⟨q,_,hq⟩:=LU.mp hr;exact wd hg hq
 ·obtain⟨r,hr,rfl⟩:=J0.mp hx;obtain⟨c,hc,hr⟩:=LU.mp hr;obtain⟨o,ho,hr⟩:=LU.mp hr;obtain⟨u,hu,rfl⟩:=J0.mp hr;obtain⟨ro,mo,rfl⟩:=J0.mp ho;obtain⟨ru,mu,rfl⟩:=J0.mp hu;exact InB.join (ws0 hg) ((hf c hc).1 _ mo) ((hf c hc).2 _ mu)
theorem cr(b:Int)(ks:Mo Kd)(fd:Int×Int->Rws)(p:Int×Int):((bA b ks fd p).map (·.1)).Nodup:=fU (fU (by simp[eG]))
theorem we{b:Int}{ks:Mo Kd}(hg:∀k∈ks,0<=k.wa):∀(n:Nat)(p:Int×Int),∀r∈gF b ks n p,InB (wsK ks) r.1
 | 0,_,r,h=>by cases h
 | n+1,p,r,h=>by have hm:r.1∈(gF b ks (n+1) p).map (·.1):=J0.mpr %[r,h|O];rw[show gF b ks (n+1) p=iL (bA b ks (gF b ks n) p)from rfl,kW]at hm;exact hX hg (λ c _=>%[we hg n _|we hg n _]) (mem_topB.mp hm).1
theorem nF{b:Int}{ks:Mo Kd}(hg:∀k∈ks,0<=k.wa){p:Int×Int}{r:Mo Int×Stp}(h:r∈gB b ks p):InB (wsK ks) r.1:=we hg _ _ r h
def gK(b:Int)(ks:Mo Kd)(p:Int×Int):Mo (Mo Int):=(gB b ks p).map (·.1)
theorem cU{b:Int}{ks:Mo Kd}(hg:∀k∈ks,0<=k.wa){p:Int×Int}{x:Mo Int}(h:x∈gK b ks p):InB (wsK ks) x:=by obtain⟨r,hr,rfl⟩:=J0.mp h;exact nF hg hr
theorem rB{b:Int}{ks:Mo Kd}(b0:0<=b)(p:Int×Int)(p1:1<=p.1)(p2:1<=p.2):gK b ks p=gC ((bA b ks (gB b ks) p).map (·.1)):=by unfold gK;rw[wc b0 p p1 p2,kW]
theorem lesB_iff{a b:Mo Int}:iK a b=true↔a≠b/\leB a b=true:=by unfold iK;rw[LQ,Bool.not_eq_true',decide_eq_false_iff_not]
theorem wf{bs:Mo (Mo Int)}{ws:Mo Int}(hb:∀b∈bs,InB ws b):∀(k:Nat)(b:Mo Int),b∈bs->ws.sum - b.sum < k->∃t∈gC bs,leB b t=true
 | 0,b,m,h=>by have:=(hb b m).sum;omega
 | k+1,b,m,h=>by
  by_cases c:∀c∈bs,iK b c=false
  ·exact%[b,mem_topB.mpr %[m|c]|jI b]
  ·simp only[Classical.not_forall]at c;obtain⟨d,md,e⟩:=c;have e:iK b d=true:=by simpa using e
   obtain⟨n1,l1⟩:=lesB_iff.mp e;have el:b.length=d.length:=by rw[(hb b m).1,(hb d md).1]
   obtain⟨s1,s2⟩:=lZ el l1;have:b.sum≠d.sum:=λ z=>n1 (s2 z);obtain⟨t,mt,lt⟩:=wf hb k d md ⋯;exact%[t,mt|kT el (by rw[(hb d md).1,(hb t (mem_topB.mp mt).1).1]) l1 lt]
theorem yj{bs:Mo (Mo Int)}{ws:Mo Int}(hb:∀b∈bs,InB ws b){b:Mo Int}(m:b∈bs):∃t∈gC bs,leB b t=true :=
 wf hb ((ws.sum - b.sum).toNat+1) b m ⋯
def bK(b:Mo Int):Mo Key:=b.map Sum.inl
theorem cI(b:Mo Int):(bK b).map kV=bV b:=by unfold bK bV;rw[LO];rfl
theorem hZ:∀{a b:Mo Int},bK a=bK b->a=b
 | [],[],_=>rfl
 | x :: a,y :: b,h=>by
  have h:(Sum.inl x :: bK a:Mo Key)=Sum.inl y :: bK b:=h;injection h with h1 h2
  injection h1 with h1
  rw[h1,hZ h2]
 | [],_ :: _,h=>by cases h
 | _ :: _,[],h=>by cases h
def KyA(H:Hp)(v:V)(p:Int×Int)(b:Mo Int):Prop:=∃a x y,v=.ref a/\H a= ~~~[.ref x,.ref y]/\H x= ~~~[.int p.1,.int p.2]/\H y= ~~~(bV b)
def StA(H:Hp)(v:V):Stp->Prop
 | .rest=>∃a,v=.ref a/\H a=some (.tup [.str "rest"])
 | .piece k t=>∃a,v=.ref a/\H a=some (.tup [.str "piece",.int k,.bl t,.int 0,.int 0])
 | .cut dn p f o s u=>∃a x y,v=.ref a/\H a= ~~~[wv dn,.int p,x,y]/\KyA H x f o/\KyA H y s u
theorem KyA.keep{H H':Hp}(s:Tps H H'){v:V}{p:Int×Int}{b:Mo Int}:KyA H v p b->KyA H' v p b
 | ⟨a,x,y,e,h1,h2,h3⟩=>%[a,x,y,e,s _ _ h1,s _ _ h2|s _ _ h3]
theorem StA.keep{H H':Hp}(s:Tps H H'){v:V}:∀{t:Stp},StA H v t->StA H' v t
 | .rest,⟨a,e,h⟩=>%[a,e|s _ _ h]
 | .piece _ _,⟨a,e,h⟩=>%[a,e|s _ _ h]
 | .cut ..,⟨a,x,y,e,h,h1,h2⟩=>%[a,x,y,e,s _ _ h,h1.keep s|h2.keep s]
def RwA(H:Hp)(kv:Mo Key×V)(r:Mo Int×Stp):Prop:=kv.1=bK r.1/\StA H kv.2 r.2
theorem RwA.keep{H H':Hp}(s:Tps H H'){kv:Mo Key×V}{r:Mo Int×Stp}(h:RwA H kv r):RwA H' kv r:=%[h.1|h.2.keep s]
abbrev RwsA(H:Hp)(kvs:Mo (Mo Key×V))(rs:Rws):Prop:=Paired (RwA H) kvs rs
theorem RwsA.keep{H H':Hp}(s:Tps H H'){kvs:Mo (Mo Key×V)}{rs:Rws}(h:RwsA H kvs rs):RwsA H' kvs rs:=by
 induction h with
 | nil=>exact .nil
 | cons a _ ih=>exact .cons (a.keep s) ih
theorem RwsA.keys{H:Hp}{kvs:Mo (Mo Key×V)}{rs:Rws}(h:RwsA H kvs rs):kvs.map (·.1)=(rs.map (·.1)).map bK:=by
 induction h with
 | nil=>rfl
 | cons a _ ih=>rw[G9,G9,G9,ih,a.1]
theorem RwsA.get{H:Hp}{kvs:Mo (Mo Key×V)}{rs:Rws}{b:Mo Int}(h:RwsA H kvs rs)(m:b∈rs.map (·.1)):∃v,cG kvs (bK b)=some v/\StA H v (hW rs b):=by
 induction h with
 | nil=>cases m
 | @cons kv r kvs rs a _ ih=>
  by_cases e:r.1=b
  ·refine%[kv.2,dG (by rw[a.1,e])|?_];unfold hW;rw[MD (by simpa using e)];exact a.2
  ·obtain⟨v,h1,h2⟩:=ih ((G7.mp m).resolve_left λ z=>e z.symm);refine%[v,by rw[cz (λ z=>e (hZ (a.1.symm.trans z)))];exact h1|?_];unfold hW;rw[MX (by simpa using e)];exact h2
theorem RwsA.no{H:Hp}{kvs:Mo (Mo Key×V)}{rs:Rws}{b:Mo Int}(h:RwsA H kvs rs)(m:b∉rs.map (·.1)):cG kvs (bK b)=none:=by
 induction h with
 | nil=>rfl
 | @cons kv r kvs rs a _ ih=>
  rw[cz (λ z=>m (G7.mpr (.inl (hZ (a.1.symm.trans z)).symm)))];exact ih λ z=>m (B5 _ z)
theorem nG:∀b:Mo Int,gj (List.replicate b.length false) (bV b)=some b
 | []=>rfl
 | x :: b=>by
  have ih:=nG b;show gj (false :: List.replicate b.length false) (V.int x :: bV b)=_;simp only[gj,ih]
  rfl
def unK(k:Mo Key):Mo Int:=k.map λ x=>match x with
 | .inl i=>i
 | .inr _=>0
theorem ph:∀b:Mo Int,unK (bK b)=b
 | []=>rfl
 | x :: b=>by show x :: unK (bK b)=x :: b;rw[ph b]
abbrev BsA(H:Hp)(as:Mo Mi)(bs:Mo (Mo Int)):Prop:=Paired (λ c b=>H c= ~~~(bV b)) as bs
theorem BsA.keep{H H':Hp}(s:Tps H H'){as:Mo Mi}{bs:Mo (Mo Int)}(h:BsA H as bs):BsA H' as bs:=G5 h λ _ _ e=>s _ _ e
def rC:Sp:=λ vs H Q _=>∃(a:Mi)(n:Nat)(kvs:Mo (Mo Key×V))(rs:Rws),vs=[.ref a]/\Rd H a (.dT kvs)/\RwsA H kvs rs/\(rs.map (·.1)).Nodup/\(∀b∈rs.map (·.1),b.length=n)/\1<=n/\n<=8/\rs.length<=32 /\
 ∀(d:Mi)(kvs':Mo (Mo Key×V))(H':Hp),H d=none->H' d=some (.dT kvs')->RwsA H' kvs' (iL rs)->Sf (· = a) H H'->Q (.ref d) H'
theorem scalone:FnScope ["steps","greatest"] ["steps"] (defScope bp):=%[O,O,O,∅,O,∅|∅]
theorem wg{f:Mi}{fd:F9}(F:Fun K "greatest_alone" "greatest_alone" bp f fd)(B:Blt mg)(han:mg "any" = none)(DLe:Dn P w K mg base "is_lesser" ["one","other"] 1 (vZ)):FnOk P w K mg base CX0 2 f fd ["steps"] (rC):=by
 exists scalone
 ·obtain⟨a,n,kvs,rs,rfl,_⟩:=h
  rfl
 obtain⟨a,n,kvs,rs,rfl,ha,hrw,rnd,rl,n1,n8,r4,q⟩:=h;have nd:=scalone.nd;have hu:=hr.units;have hu1:=C8 (LW (show 1<=64 by decide) _) hu;refine%[_,((vB (i:=1) (own:=["one"]) (cs:=["steps"]) (cap:=[0]) O nd O O O (bE (@ap _ _ _ _ _ _ _ _ _ (jD O) O B.sorted PyProof.Rows.boot_sorted ((pv 0)^^^ae) ∅ ∅ O O)) (oQ (sc:=defScope bp) (N:=["steps","greatest"]) O O ∅) (λ _ _ _ _ _=>am (i:=0) (by show List.Nodup (["one","steps"]:Mo Str) ;decide +kernel) O (Or.inr O) (Or.inl O)) (λ _ _ _ _ _=>(jb (@bj _ _ _ _ (@aY _ _ _ (ap (r:=EA K) (sQ O) O han PyProof.Rows.boot_any ((br (own:=["other"]) (cs:=["one"]) (cap:=[0]) O (sR K O (pv 1)) (az (N:=["one","steps"]) O O (by rfl)) (λ _ _ _ _ _=>am (i:=0) (by show List.Nodup (["other","one"]:Mo Str) ;decide +kernel) O (Or.inl O) (Or.inr O)) (λ _ _ _ _ _=>aJ) (λ _ _ _ _ _=>(DLe∪((pv 1)^^^((pv 0)^^^ae)))))^^^ae)) (by intro _;rfl))))) (λ _ _ _ _ _=>(pv 0)))<<<((nu (own:=["bundle"]) (cs:=["steps"]) (cap:=[0]) O hu1 (bE (pv 1)) (az (sc:=defScope bp) (N:=["steps","greatest"]) O O ∅) (λ _ _ _ _ _=>am (i:=0) (by show List.Nodup (["bundle","steps"]:Mo Str) ;decide +kernel) O (Or.inl O) (Or.inr O)) (λ _ _ _ _ _=>aJ) (λ _ _ _ _ _=>(pv 0)) (λ _ _ _ _ _=>(cZ hu1 (pv 1) (pv 0) (λ _ _=>O))))⁻¹))|?_];have z4:4096<=sizeLine:=∅
 have kl:=E3 hrw;have ek:=RwsA.keys hrw;obtain⟨bs,hbs⟩:∃bs,bs=rs.map (·.1):=%[_|O]
 rw[<- hbs]at ek rnd rl;have el:bs.length=rs.length:=by rw[hbs,B4]
 have sl:(jY bs).length=bs.length:=(dO bs).length_eq;refine ao (λ R=>∀(gl:Mi)(as:Mo Mi)(H':Hp),H' gl=↥(as.map V.ref)->BsA H' as (gC bs)->Sf (· = a) H H'->R [↑a,↑gl] H') (λ Dd hR=>?_) ?_
 ·refine%[_,O,a,kvs,List.replicate n false,unK,O,ha,⋯,?_,?_|λ l as' ks' hl pa pp ps=>?_]
  ·obtain⟨m,rfl⟩:∃m,n=m+1:=%[n - 1|⋯]
   rfl
  ·intro kv hkv;have hm:kv.1∈bs.map bK:=by rw[<- ek];exact J0.mpr %[kv,hkv|O]
   obtain⟨b,hb,e⟩:=J0.mp hm;rw[<- e,cI,ph,<- rl b hb];exact nG b
  obtain⟨bs',e1,p1⟩:=iE bK pp bs ek;subst e1;have p2:bs'.Pairwise λ x y=>bT y x=false:=by rw[LO,show unK∘bK=id from funext ph,List.map_id]at ps;exact ps
  have e2:=tK p1 p2;subst e2;refine aH hl λ H1 k1 s1=>?_;have pa1:BsA H1 as' (jY bs):=by
   have:∀(as:Mo Mi)(bs:Mo (Mo Int)),Paired (λ a k=>H a= ~~~(List.map kV k)) as (bs.map bK)->BsA H1 as bs:=λ as=>by
    induction as with
    | nil=>intro bs h;cases bs with
     | nil=>exact .nil
     | cons _ _=>cases h
    | cons c as ih=>intro bs h;cases bs with
     | nil=>cases h
     | cons b bs=>cases h with
      | cons h1 h2=>exact .cons (by rw[cI]at h1;exact s1 _ _ h1) (ih bs h2)
   exact this _ _ pa
  have al:=E3 pa1;have rd1:=(Same.sf (F:=(· = a)) s1).rd ha;refine%[l,O,%[_|G4 k1]|(bI (K:=K) (.inl k1) (λ i us Hx=>Sf (· = a) H1 Hx/\∃as,us=as.map V.ref/\BsA Hx as (((jY bs).take i).filter (kU bs))) (λ i us Hx _ ⟨sx,_⟩ o e=>by cases(k1.symm.trans e);exact sx.lst k1) %[Same.sf (Same.refl _),[],O|.nil] ?_ ?_).1 k1]
  ·rintro i x us Hx hi ⟨sx,as,rfl,pas⟩;have hin:=(A6.mp hi).1;rw[G8]at hi;obtain⟨c,hc,rfl⟩:=J7.mp hi;obtain⟨b,hb,hcb⟩:=G6 pa1 hc;have tk:(jY bs).take (i+1)=(jY bs).take i ++ [b]:=by rw[J8,hb];rfl
   have pn:=List.filter_append (p:=kU bs) ((jY bs).take i) [b];rw[<- tk]at pn;have bm:b∈bs:=(dO _).mem_iff.mp (B6 hb);have bl:=rl b bm;refine%[by rw[B4,Paired.length pas];exact C8 (MH _ _) (by rw[K0];omega),leS.set rfl|?_];refine%[_,O,a,kvs,O,sx.rd rd1|λ ob Hy hy sy=>?_];have hcy:Hy c= ~~~(bV b):=sy.tps _ _ (sx.tps _ _ hcb);have rwy:RwsA Hy kvs rs:=hrw.keep λ x xs e=>sy.tps _ _ (sx.tps _ _ (s1 _ _ e));refine sL (λ j vs Hz=>Same Hy Hz/\vs=((bs.take j).map λ c=>iK b c).map V.bl) %[Same.refl _|rfl] (λ j vs Hz _ ⟨sz,_⟩=>sz _ _ hy) ?_ ?_ ?_
   ·rintro j kk v q vs Hz hj hq ⟨sz,rfl⟩;have hjn:=(A6.mp hj).1;obtain⟨r,hr,hk,_⟩:=G6 rwy hj;have hk:kk=bK r.1:=hk;have hbj:bs[j]?=some r.1:=by rw[hbs,G8,hr];rfl
    have rj:=rl r.1 (B6 hbj);rw[hk,cI]at hq;refine%[leS.set rfl|aK %[_,O,_,O,c,q,b,r.1,O,sz _ _ hcy,hq,⋯,⋯|λ H' s'=>Nx.of hjn %[sz.trans s'|?_]]];rw[J8,hbj,K5,J3,J3]
    rfl
   ·rintro j vs Hz hj ⟨_,rfl⟩;rw[B4,B4,K0];omega
   ·rintro vs Hz ⟨sz,rfl⟩;rw[K2 ⋯];refine%[by rw[B4,B4];omega|λ p hp=>%[p,_,O,G4 ah,_,O|?_]];have s9:Sf (· = a) H1 (upd Hz p (.lst ((bs.map λ c=>iK b c).map V.bl))):=(sx.trans sy).trans (Same.sf (sz.trans (G2 hp)));have t9:Tps Hx (upd Hz p (.lst ((bs.map λ c=>iK b c).map V.bl))):=λ x xs e=>(G2 hp) _ _ (sz _ _ (sy.tps _ _ e));refine cX (λ c1=>%[_,O|Nx.of hin %[s9,as ++ [c],by rw[J3];rfl|?_]]) (λ c1=>Nx.of hin %[s9,as,rfl|?_])
    ·rw[pn,List.filter_cons,Mw (show kU bs b=true from c1),List.filter_nil];exact Paired.app (pas.keep t9) (.cons (t9 _ _ (sx.tps _ _ hcb)) .nil)
    ·rw[pn,List.filter_cons,Mu (show¬ kU bs b=true from c1),List.filter_nil,K6];exact pas.keep t9
  ·rintro us Hx ⟨sx,as,rfl,pas⟩;rw[B4,al,LL]at pas;have pl:=E3 pas;refine%[by rw[B4,pl];exact C7 (MH _ _) ⋯|λ p hp=>?_];refine aH hp λ H2 k2 s2=>?_;exact hR p as _ k2 (pas.keep (Same.tps s2)) ((Same.sf s1).trans (sx.trans (Same.sf s2)))
 rintro gl as H1 hgl pas s1;have rd1:=s1.rd ha;have rw1:=hrw.keep s1.tps;have tl:(gC bs).length<=bs.length:=C7 (MH _ _) ⋯;have tnd:=eA rnd;have al:=E3 pas;refine%[_,O,gl,O,%[_|G4 hgl]|oU (K:=K) hgl (λ i Mr Hx=>Same H1 Hx/\Mr.length=i/\(∀r∈Mr,Hx r.1= ~~~(r.2.1.map kV))/\RwsA Hx (kvR Mr) (((gC bs).take i).map λ b=>(b,hW rs b))) (λ i Mr Hx _ ⟨sx,_,hr,_⟩=>%[sx _ _ hgl|hr]) ⟨Same.refl _,O,(λ r hr=>by cases hr),.nil⟩ ?_ ?_]
 ·rintro i x Mr Hx hi ⟨sx,rl1,hr,pr⟩;have hin:=(A6.mp hi).1;rw[B4]at hin;rw[G8]at hi;obtain⟨c,hc,rfl⟩:=J7.mp hi;obtain⟨b,hb,hcb⟩:=G6 pas hc;have bm:b∈bs:=(mem_topB.mp (B6 hb)).1;obtain⟨v,hv,hst⟩:=rw1.get (by rw[<- hbs];exact bm);have hcx:Hx c= ~~~((bK b).map kV):=by rw[cI];exact sx _ _ hcb
  have tk:(gC bs).take (i+1)=(gC bs).take i ++ [b]:=by rw[J8,hb];rfl
  refine%[⋯,leS.set rfl|aK %[_,O,_,O,_,O,a,v,O,hv ▸ DGet.r ((Same.sf (F:=(· = a)) sx).rd rd1) hcx,c,bK b,O,hcx,?_|NxD.of (by rw[B4];exact hin) %[sx,by rw[J5,rl1];rfl,λ r hr'=>?_|?_]]]
  ·intro hm;have ek':=pr.keys;have:Mr.map (·.2.1)=(kvR Mr).map (·.1):=by unfold kvR;rw[LO];rfl
   rw[this,ek',LO,LO]at hm;obtain⟨d,hd,e⟩:=J0.mp hm;have:d=b:=hZ e;subst this;obtain⟨k,hk1,hk2⟩:=List.getElem_of_mem hd;rw[List.getElem_take]at hk2;rw[K0]at hk1;have hbb:=(A6.mp hb).2;have hbl:=(A6.mp hb).1;have:=(List.getElem_inj (h₀:=show k < (gC bs).length by omega) (h₁:=hbl) tnd).mp (hk2.trans hbb.symm);omega
  ·rcases C4.mp hr' with h | h
   ·exact hr r h
   ·rw[E2.mp h];exact hcx
  ·rw[tk,J3,show kvR (Mr ++ [(c,bK b,v)])=kvR Mr ++ [(bK b,v)]by unfold kvR;rw[J3];rfl];exact Paired.app pr (.cons %[O|hst.keep (Same.tps sx)] .nil)
 ·rintro Mr Hx ⟨sx,rl1,hr,pr⟩;rw[B4]at rl1 pr;rw[al,LL]at pr;refine%[⋯|λ d hd=>?_];have hdH:H d=none:=(s1.trans (Same.sf sx)).free hd;refine q d _ _ hdH ah ?_ ((s1.trans (Same.sf sx)).trans (Same.sf (G2 hd)));unfold iL;rw[<- hbs];exact pr.keep (Same.tps (G2 hd))
def jL(b:Int)(ks:Mo Kd)(fa:Mi)(H:Hp)(ss:Mo ((Int×Int)×V)):Prop:=∀q v,(q,v)∈ss->∃d kvs,v=.ref d/\d≠fa/\Rd H d (.dT kvs)/\RwsA H kvs (gB b ks q)
abbrev FdS(ss:Mo ((Int×Int)×V)):Mi->Prop:=λ a=>∃q,(q,V.ref a)∈ss
theorem RwsA.set{H:Hp}{kvs:Mo (Mo Key×V)}{rs:Rws}{b:Mo Int}{t:Stp}{v':V}(h:RwsA H kvs rs)(e:cG kvs (bK b)=some v'):fT rs (b,t)=rs:=by unfold fT;refine Mw (Classical.byContradiction λ z=>?_);rw[h.no z]at e;cases e
theorem RwsA.put{H:Hp}{kvs:Mo (Mo Key×V)}{rs:Rws}{b:Mo Int}{t:Stp}{v:V}(h:RwsA H kvs rs)(s:StA H v t)(e:cG kvs (bK b)=none):RwsA H (dF kvs (bK b) v) (fT rs (b,t)):=by rw[mX v e];unfold fT;rw[Mu (λ z=>by obtain⟨v',h1,_⟩:=h.get z;rw[e]at h1;cases h1)];exact Paired.app h (.cons %[O|s] .nil)
def GR(ks:Mo Kd)(rs:Rws):Prop:=(rs.map (·.1)).Nodup/\∀x∈rs.map (·.1),InB (wsK ks) x
theorem GR.put{ks:Mo Kd}{rs:Rws}{r:Mo Int×Stp}(h:GR ks rs)(i:InB (wsK ks) r.1):GR ks (fT rs r):=%[jH h.1|λ x hx=>(putN_keys.mp hx).elim (h.2 x) λ e=>e ▸ i]
theorem GR.few{ks:Mo Kd}{rs:Rws}(h:GR ks rs)(kw:∀k∈ks,0<=k.wa)(w6:(wsK ks).sum<=5):rs.length<=32:=by have:=InB.few (ws0 kw) w6 h.1 h.2;rw[B4]at this;exact this
theorem GR.zero{ks:Mo Kd}(kw:∀k∈ks,0<=k.wa):GR ks (eG ks):=by refine%[by simp[eG]|λ x hx=>?_];simp only[eG,G9,LN,E2]at hx;rw[hx,show ks.length=(wsK ks).length from(B4 _).symm];exact InB.zero (ws0 kw)
def StI(st:Mi)(ks:Mo Kd)(H:Hp)(rs:Rws):Prop:=∃kvs,H st=some (.dT kvs)/\RwsA H kvs rs/\GR ks rs
theorem StI.same{st:Mi}{ks:Mo Kd}{H H':Hp}{rs:Rws}(s:Same H H'):StI st ks H rs->StI st ks H' rs
 | ⟨kvs,h1,h2,h3⟩=>%[kvs,s _ _ h1,h2.keep (Same.tps s)|h3]
theorem StI.sf{F:Mi->Prop}{st:Mi}{ks:Mo Kd}{H H':Hp}{rs:Rws}(s:Sf F H H')(n:¬ F st):StI st ks H rs->StI st ks H' rs
 | ⟨kvs,h1,h2,h3⟩=>%[kvs,s.not n h1,h2.keep s.tps|h3]
theorem nH{F:Mi->Prop}{st ka:Mi}{ks:Mo Kd}{H:Hp}{rs:Rws}{b':Mo Int}{t:Stp}{v:V}{Q:VK}(kw:∀k∈ks,0<=k.wa)(w6:(wsK ks).sum<=5)(hI:StI st ks H rs)(hk:H ka= ~~~(bV b'))(ib:InB (wsK ks) b')(ha:StA H v t)
  (hq:∀v' H',StI st ks H' (fT rs (b',t))->Sg F st H H'->Q v' H'):vH (.ref st) [.ref ka,v] H Q:=by
 obtain⟨kvs,h1,h2,h3⟩:=hI;have z4:4096<=sizeLine:=∅
 have l1:=h3.few kw w6;have l2:=E3 h2;refine%[st,ka,v,kvs,bK b',O,O,h1,by rw[cI];exact hk,⋯,λ v' hv'=>hq _ _ %[kvs,h1,?_|h3.put ib] (Sg.refl _)|λ hn=>hq _ _ %[_,ah,(h2.put ha hn).keep (Sg.put (F:=F) h1).tps|h3.put ib] (Sg.put h1)];rw[h2.set hv'];exact h2
def iH(b:Int)(ks:Mo Kd):Prop:=0<=b/\1<=ks.length/\ks.length<=8/\(∀k∈ks,0<=k.wa)/\(wsK ks).sum<=5
def rD(C:Mi):Sp:=λ vs H Q _=>∃(s t fa:Mi)(b:Int)(ks:Mo Kd)(p:Int×Int)(ss:Mo ((Int×Int)×V)),vs=[.ref s,.ref t,.ref fa]/\ShopAt C H s b ks/\iH b ks/\H t= ~~~[.int p.1,.int p.2]/\1<=p.1/\p.1<=8/\1<=p.2/\p.2<=8 /\
 H fa=some (.dT (byP ss))/\jL b ks fa H ss/\(∀c∈cB b p.1 p.2,cR p.1 p.2 c∈ss.map (·.1)/\cY b p.1 p.2 c∈ss.map (·.1)) /\
 ∀(d:Mi)(kvs:Mo (Mo Key×V))(H':Hp),H d=none->H' d=some (.dT kvs)->RwsA H' kvs (bA b ks (gB b ks) p)->Sf (FdS ss) H H'->Q (.ref d) H'
theorem scsteps:FnScope ["shop","part","found","wanted","steps","kind","turned","way","p","first","second","one","other"] ["shop","part","found"] (defScope cj):=%[O,O,O,∅,O,∅|∅]
theorem wj{f:Mi}{fd:F9}(F:Fun K "steps_of_part" "steps_of_part" cj f fd){C:Mi}(B:Blt mg)(Z:BeC mg)(T:ShopTxt K C)(MW:Mn P w K mg base C "wanted" ["self"] 1 (cS C))(MB:Mn P w K mg base C "blade" ["self"] 1 (iO C))(DLI:Dn P w K mg base "lyings_in" ["shop","part"] 5 ((spLyIn C)))(DB1:Dn P w K mg base "bundle_of_one" ["wanted","kind"] 1 (vX))(DJ:Dn P w K mg base "joined" ["one","other","wanted"] 1 (vY))(DCU:Dn P w K mg base "cuts_of" ["blade","part"] 2 (spCuts)):FnOk P w K mg base CX0 6 f fd ["shop","part","found"] (rD C):=by
 exists scsteps
 ·obtain⟨s,t,fa,b,ks,p,ss,rfl,_⟩:=h
  rfl
 obtain⟨s,t,fa,b,ks,p,ss,rfl,S0,⟨b0,k1,k8,kw,w6⟩,ht,p1,p8,h1,h8,hfa,fok,cin,q⟩:=h;have nd:=scsteps.nd;have hu:=hr.units;have hu1:=C8 (LW (show 1<=64 by decide) _) hu;obtain⟨trs,hrs⟩:=Z.rs;obtain⟨tpc,hpc⟩:=Z.pc;refine%[_,((3∣(cF (pv 0) T.cl MW (hr.mono ∅)))<<<((4∣(kP (Nat.lt_of_succ_lt hu1) (@aT _ _ _ _ _ _ _ _ _ aW O B.tuple M4 ((br (own:=["many"]) (cs:=[]) (cap:=[]) O (lg (pv 3)) (az (sc:=defScope cj) (N:=["shop","part","found","wanted","steps","kind","turned","way","p","first","second","one","other"]) O O ∅) (λ _ _ _ _ _=>am (i:=0) (by show List.Nodup (["many"]:Mo Str) ;decide +kernel) O (Or.inl O) (Or.inr O)) (λ _ _ _ _ _=>aJ) (λ _ _ _ _ _=>ag))^^^ae) ∅ ∅ O O) (@aP _ _ _ _ _ ((aI (v:=.str "rest") O hrs %[trs|O])^^^ae))))<<<((@bU _ _ _ _ _ _ _ _ E4 O (bE (DLI∪((pv 0)^^^((pv 1)^^^ae)))) (bL O (5•(6•bn))) (@ai _ _ _ ((((pv 3)&&&bY&&&(pv 5))<*>ip<*>ag)<|>(@ai _ _ _ (@bq _ _ _ _ (@iZ _ _ _ _ _ _ _ _ _ _ _ _ PySem.F.plainAttrs_dict NV PySem.F.type_dict_setdefault (fQ hu1) (pv 4) ((DB1∩((pv 3)^^^((pv 5)^^^ae)))^^^((@aP _ _ _ _ _ ((aI (v:=.str "piece") O hpc %[tpc|O])^^^((pv 5)^^^((pv 6)^^^(ag^^^(ag^^^ae))))))^^^ae)) O O O O O) O))<|>av)) (by intro _;rfl))<<<((@bU _ _ _ _ _ _ _ _ E4 O (bE (DCU∩((cF (pv 0) T.cl MB (hr.mono ∅))^^^((pv 1)^^^ae)))) (bL O (7•(8•(9•(10•bn))))) (@ai _ _ _ (@bU _ _ _ _ _ _ _ _ E4 O (jC (cZ hu1 (pv 2) (pv 9) (λ _ _=>O))) (am (i:=11) nd O (Or.inl O)) (@ai _ _ _ (@bU _ _ _ _ _ _ _ _ E4 O (jC (cZ hu1 (pv 2) (pv 10) (λ _ _=>O))) (am (i:=12) nd O (Or.inl O)) (@ai _ _ _ (@bq _ _ _ _ (@iZ _ _ _ _ _ _ _ _ _ _ _ _ PySem.F.plainAttrs_dict NV PySem.F.type_dict_setdefault (fQ hu1) (pv 4) ((DJ∩((pv 11)^^^((pv 12)^^^((pv 3)^^^ae))))^^^((@aP _ _ _ _ _ ((pv 7)^^^((pv 8)^^^((@aP _ _ _ _ _ ((pv 9)^^^((pv 11)^^^ae)))^^^((@aP _ _ _ _ _ ((pv 10)^^^((pv 12)^^^ae)))^^^ae)))))^^^ae)) O O O O O) O)) (by intro _;rfl))) (by intro _;rfl))) (by intro _;rfl))<<<((pv 4)⁻¹)))))|?_];have z4:4096<=sizeLine:=∅
 obtain⟨dx,r0,rs0,g1,g2,g3⟩:=id S0;have wl:(wsK ks).length=ks.length:=B4 _;have kw0:=ws0 kw;refine ao (λ R=>∀(wt:Mi)(H':Hp),H' wt= ~~~(bV (wsK ks))->Same H H'->R [↑s,↑t,↑fa,↑wt,none,none,none,none,none,none,none,none,none] H') (λ Dd hR=>?_) ?_
 ·refine%[_,O,s,dx,_,O,g1,bi _ _ ∅ ∅,s,b,ks,O,S0,k8|λ wt H1 _ h1 s1=>hR wt _ ?_ s1];rw[h1,bV,LO];rfl
 rintro wt H1 hwt s1;have wvl:(bV (wsK ks)).length=ks.length:=by rw[bV,B4,wl]
 refine ao (λ R=>∀(st:Mi)(kvs:Mo (Mo Key×V))(H':Hp),H1 st=none->H' st=some (.dT kvs)->RwsA H' kvs (eG ks)->Same H1 H'->R [↑s,↑t,↑fa,↑wt,↑st,none,none,none,none,none,none,none,none] H') (λ Dd hR=>?_) ?_
 ·intro st hst;refine aH hst λ H2 k2 s2=>?_;have hw2:=s2 _ _ hwt;refine%[_,O,wt,O,%[_|G3 hw2]|(bI (K:=K) (.inr hw2) (λ i us Hx=>Same H2 Hx/\us=bV (aR i)) (λ i us Hx _ ⟨sx,_⟩ o e=>sx _ _ e) %[Same.refl _|O] ?_ ?_).2 hw2]
  ·rintro i x us Hx hi ⟨sx,rfl⟩;have hin:=(A6.mp hi).1;rw[wvl]at hin;refine%[by rw[bV,aR,B4,K4];omega,leS.set rfl|aK (show Nx (bV (wsK ks)).length (λ i us Hx=>Same H2 Hx/\us=bV (aR i)) i (bV (aR i) ++ [V.int 0]) Hx from Nx.of (by rw[wvl];exact hin) %[sx|?_])];rw[aR,aR,bV,bV,List.replicate_succ',J3];rfl
  ·rintro us Hx ⟨sx,rfl⟩;rw[wvl];refine%[by rw[bV,aR,B4,K4];omega|λ cl hcl=>?_];refine aH hcl λ H3 k3 s3=>?_;refine%[cl,_,O|.inl %[G4 k3|λ kt hkt=>?_]];refine aH hkt λ H4 k4 s4=>?_;refine%[zS1|λ vt hvt=>?_];refine aH hvt λ H5 k5 s5=>?_;have h5:H5 st=some (.dT []):=s5 _ _ (s4 _ _ (s3 _ _ (sx _ _ k2)));have e5:H5 kt= ~~~((bK (aR ks.length)).map kV):=by rw[cI];exact s5 _ _ k4
   refine%[h5,kt,bK (aR ks.length),O,e5|hR st _ _ hst ah (.cons %[O,vt,O|?_] .nil) (λ c o e=>?_)]
   ·rw[aj (λ z=>by rw[z,h5]at k5;cases k5)];exact k5
   ·rw[aj (ak e hst)];exact s5 _ _ (s4 _ _ (s3 _ _ (sx _ _ (s2 _ _ e))))
 rintro st kvs0 H2 hst1 hst rw0 s2;have hstH:H st=none:=s1.free hst1;have nfa:¬ FdS ss fa:=λ⟨q',m⟩=>by obtain⟨d,_,e,n,_⟩:=fok q' _ m;cases e;exact n rfl
 have fnst:fa≠st:=ak hfa hstH;have s02:=s1.trans s2;have in0:StI st ks H2 (eG ks):=%[kvs0,hst,rw0|GR.zero kw]
 have nst:¬ FdS ss st:=λ⟨q',m⟩=>by obtain⟨d,kv,e,_,rd,_⟩:=fok q' _ m;cases e;rcases rd with z | ⟨_,z⟩ <;> rw[hstH]at z <;> cases z
 refine ao (λ R=>∀(v5 v6:Ml V)(H':Hp),StI st ks H' (et (eG ks) (lyC ks p))->Sg (FdS ss) st H2 H'->R [↑s,↑t,↑fa,↑wt,↑st,v5,v6,none,none,none,none,none,none] H') (λ Dd hR=>?_) ?_
 ·have S2:=S0.keep (λ c o e=>s02 _ _ e) (λ c C' d fs e=>s02 _ _ e);refine%[_,O,_,O,s,t,b,ks,p.1,p.2,O,S2,k8,s02 _ _ ht|λ ll ys H3 _ hll pys s3=>?_];obtain⟨ly,ely⟩:∃ly,ly=(lyK ks 0).filter (gv ks p.1 p.2):=%[_|O]
  rw[<- ely]at pys;have yl:=E3 pys;refine%[ll,O,%[_|G4 hll]|dD (xs:=ys) (λ i σ' H'=>∃(v5 v6:Ml V),σ'=[↑s,↑t,↑fa,↑wt,↑st,v5,v6,none,none,none,none,none,none]/\StI st ks H' (et (eG ks) ((ly.take i).flatMap (lyR ks)))/\Sg (FdS ss) st H3 H') %[none,none,O,in0.same s3|Sg.refl _] (λ i σ Hx _ ⟨_,_,_,_,sx⟩=>G4 (sx.lst hll)) ?_ ?_]
  ·rintro i x σ Hx hi ⟨v5,v6,rfl,inx,sx⟩;obtain⟨qq,hq,ta,rfl,hta⟩:=G6 pys hi;have qm:=B6 hq;have qk:∃k,ks[qq.1]?=some k:=(rq (MJ.mp (ely ▸ qm)).1).2;obtain⟨k,hk⟩:=qk;have tk:(ly.take (i+1)).flatMap (lyR ks)=(ly.take i).flatMap (lyR ks) ++ lyR ks qq:=by rw[J8,hq,K5,MR,LZ,List.flatMap_nil,K6]
   have wk:waA ks qq.1=k.wa:=by unfold waA;rw[hk];rfl
   have hwx:Hx wt= ~~~(bV (wsK ks)):=sx.tps _ _ (s3 _ _ (s2 _ _ hwt));have hat:(bV (wsK ks))[qq.1]? = ⇑k.wa:=by rw[bV,G8,G8,hk];rfl
   refine%[ta,_,O,G3 (sx.tps _ _ hta),O,_,_,O,_,_,O,O|?_];refine%[_,O,_,O,wt,_,_,_,O,O,G3 hwx,bX hat,_,_,O,O,_,O|?_];refine cX (λ c1=>?_) (λ c1=>?_)
   ·have c1':0 < k.wa:=C1 c1;have lr:lyR ks qq=[(cC ks.length qq.1,.piece qq.1 qq.2)]:=by unfold lyR;rw[wk,Mw c1']
    refine%[_,O,.inr (.inr (.inl %[O|.inr (let ⟨kv,h,_⟩:=inx;%[kv|h])])),_,O,_,O,wt,wsK ks,(qq.1:Int),O,hwx,⋯|λ ka H4 hka s4=>?_];rw[wl]at hka;refine%[_,O,_,O,zS5|λ va hva=>?_];refine aH hva λ H5 k5 s5=>?_;refine nH (F:=FdS ss) kw w6 (inx.same (s4.trans s5)) (s5 _ _ hka) (wd kw (q:=qq) (r:=(cC ks.length qq.1,.piece qq.1 qq.2)) (by rw[lr];exact E2.mpr rfl)) (t:=.piece qq.1 qq.2) %[va,rfl|k5] λ v' H6 in6 s6=>%[_,_,O,?_|(sx.trans (Same.sg (s4.trans s5))).trans s6]
    rw[tk,lr,gA];exact in6
   ·have lr:lyR ks qq=[]:=by unfold lyR;rw[wk,Mu (λ z=>c1 (Mx z))]
    refine%[_,_,O,?_|sx];rw[tk,lr,K6];exact inx
  ·rintro σ Hx ⟨v5,v6,rfl,inx,sx⟩;rw[K2 ⋯,ely]at inx;exact hR v5 v6 _ inx ((Same.sg s3).trans sx)
 rintro v5 v6 H3 in3 s3;obtain⟨R0,eR0⟩:∃R0,R0=et (eG ks) (lyC ks p):=%[_|O]
 rw[<- eR0]at in3;have s03:Sg (FdS ss) st H H3:=(Same.sg s02).trans s3;refine ao (λ R=>∀(v7 v8 v9 v10 v11 v12:Ml V)(H':Hp),StI st ks H' (bA b ks (gB b ks) p)->Sg (FdS ss) st H H'->R [↑s,↑t,↑fa,↑wt,↑st,v5,v6,v7,v8,v9,v10,v11,v12] H') (λ Dd hR=>?_) ?_
 ·refine%[_,O,s,dx,_,O,s03.ins g1,bi _ _ ∅ ∅,s,b,ks,O,S0.keep s03.tps (λ _ _ _ _ e=>s03.ins e)|?_];refine%[_,O,b,p.1,p.2,t,O,s03.tps _ _ ht,⋯,⋯,b0|λ cl cy H4 hcl pc s4=>?_];have s04:Sg (FdS ss) st H H4:=s03.trans (Same.sg s4);have cyl:=E3 pc;have wt4:H4 wt= ~~~(bV (wsK ks)):=s4 _ _ (s3.tps _ _ (s2 _ _ hwt));refine%[cl,O,%[_|G4 hcl]|dD (xs:=cy) (λ i σ' H'=>∃(v7 v8 v9 v10 v11 v12:Ml V),σ'=[↑s,↑t,↑fa,↑wt,↑st,v5,v6,v7,v8,v9,v10,v11,v12]/\StI st ks H' (et R0 (((cB b p.1 p.2).take i).flatMap (nE b ks (gB b ks) p)))/\Sg (FdS ss) st H4 H') %[none,none,none,none,none,none,O,in3.same s4|Sg.refl _] (λ i σ Hx _ ⟨_,_,_,_,_,_,_,_,sx⟩=>G4 (sx.lst hcl)) ?_ ?_]
  ·rintro i x σ Hx hi ⟨v7,v8,v9,v10,v11,v12,rfl,inx,sx⟩;obtain⟨c,hc,ta,t1,t2,rfl,hta,ht1,ht2⟩:=G6 pc hi;have cm:=B6 hc;obtain⟨m1,m2⟩:=cin c cm;obtain⟨w1,hv1,hm1⟩:=fo m1;obtain⟨w2,hv2,hm2⟩:=fo m2;obtain⟨d1,kv1,rfl,nd1,rd1,rw1⟩:=fok _ _ hm1;obtain⟨d2,kv2,rfl,nd2,rd2,rw2⟩:=fok _ _ hm2;have n1:d1≠st:=λ z=>nst (z ▸ %[_|hm1]);have n2:d2≠st:=λ z=>nst (z ▸ %[_|hm2]);have s0x:Sg (FdS ss) st H Hx:=s04.trans sx;have hfx:Hx fa=some (.dT (byP ss)):=s0x.not fnst nfa hfa;have tk:((cB b p.1 p.2).take (i+1)).flatMap (nE b ks (gB b ks) p)=((cB b p.1 p.2).take i).flatMap (nE b ks (gB b ks) p) ++ nE b ks (gB b ks) p c:=by rw[J8,hc,K5,MR,LZ,List.flatMap_nil,K6]
   obtain⟨R1,eR1⟩:∃R1,R1=et R0 (((cB b p.1 p.2).take i).flatMap (nE b ks (gB b ks) p)):=%[_|O]
   rw[<- eR1]at inx;refine%[ta,_,O,G3 (sx.tps _ _ hta),O,_,_,O,_,_,O,_,_,O,_,_,O,O|?_];refine%[_,O,_,O,fa,_,O,hv1 ▸ DGet.t (k:=pk (cR p.1 p.2 c)) hfx (sx.tps _ _ ht1),d1,kv1,O,s0x.rd n1 rd1|λ ob1 Hy hy1 sy=>?_];have sy':Sf (FdS ss) Hx Hy:=sy.mono λ a (e:a=d1)=>e ▸ %[_|hm1]
   have s0y:=s0x.trans sy'.sg;obtain⟨os,eos⟩:∃os,os=gK b ks (cR p.1 p.2 c):=%[_|O]
   obtain⟨us,eus⟩:∃us,us=gK b ks (cY b p.1 p.2 c):=%[_|O]
   have r1l:kv1.length=os.length:=by rw[eos,gK,B4];exact E3 rw1
   have r2l:kv2.length=us.length:=by rw[eus,gK,B4];exact E3 rw2
   refine jw (λ j σ' H'=>∃(v11 v12:Ml V),σ'=[↑s,↑t,↑fa,↑wt,↑st,v5,v6,some (wv c.1),⇑c.2,↑t1,↑t2,v11,v12]/\StI st ks H' (et R1 ((os.take j).flatMap (tL b ks p c us)))/\Sg (FdS ss) st Hy H') %[v11,v12,rfl,inx.sf sy' nst|Sg.refl _] (λ j σ Hz _ ⟨_,_,_,_,sz⟩=>sz.frz hy1) ?_ ?_
   ·rintro j kk vv q1 σ Hz hj hq1 ⟨v11,v12,rfl,inz,sz⟩;obtain⟨ro,hro,hk1,_⟩:=G6 rw1 hj;have hoj:os[j]?=some ro.1:=by rw[eos,gK,G8,hro];rfl
    have hk1:kk=bK ro.1:=hk1;rw[hk1,cI]at hq1;have io:InB (wsK ks) ro.1:=cU kw (eos ▸ B6 hoj);have s0z:=s0y.trans sz;have hfz:Hz fa=some (.dT (byP ss)):=s0z.not fnst nfa hfa;have tz:Tps H4 Hz:=λ a xs e=>sz.tps _ _ (sy'.tps _ _ (sx.tps _ _ e));have tkj:(os.take (j+1)).flatMap (tL b ks p c us)=(os.take j).flatMap (tL b ks p c us) ++ tL b ks p c us ro.1:=by rw[J8,hoj,K5,MR,LZ,List.flatMap_nil,K6]
    obtain⟨R2,eR2⟩:∃R2,R2=et R1 ((os.take j).flatMap (tL b ks p c us)):=%[_|O]
    rw[<- eR2]at inz;refine%[_,O,_,O,fa,_,O,hv2 ▸ DGet.t (k:=pk (cY b p.1 p.2 c)) hfz (tz _ _ ht2),d2,kv2,O,s0z.rd n2 rd2|λ ob2 Hu hu2 su=>?_];have su':Sf (FdS ss) Hz Hu:=su.mono λ a (e:a=d2)=>e ▸ %[_|hm2]
    refine jw (λ k σ' H'=>∃(v12:Ml V),σ'=[↑s,↑t,↑fa,↑wt,↑st,v5,v6,some (wv c.1),⇑c.2,↑t1,↑t2,↑q1,v12]/\StI st ks H' (et R2 ((us.take k).map (EE b ks p c ro.1)))/\Sg (FdS ss) st Hu H') %[v12,rfl,inz.sf su' nst|Sg.refl _] (λ k σ Hv _ ⟨_,_,_,sv⟩=>sv.frz hu2) ?_ ?_
    ·rintro k kk2 vv2 q2 σ Hv hk' hq2 ⟨v12,rfl,inv,sv⟩;obtain⟨ru,hru,hk2,_⟩:=G6 rw2 hk';have huk:us[k]?=some ru.1:=by rw[eus,gK,G8,hru];rfl
     have hk2:kk2=bK ru.1:=hk2;rw[hk2,cI]at hq2;have iu:InB (wsK ks) ru.1:=cU kw (eus ▸ B6 huk);have tv:Tps Hz Hv:=λ a xs e=>sv.tps _ _ (su'.tps _ _ e);have t4v:Tps H4 Hv:=λ a xs e=>tv _ _ (tz _ _ e);refine%[_,O,.inr (.inr (.inl %[O|.inr (let ⟨kv,h,_⟩:=inv;%[kv|h])])),_,O,_,O,_,O,q1,q2,wt,ro.1,ru.1,wsK ks,O,tv _ _ hq1,hq2,t4v _ _ wt4,by rw[io.1,iu.1],io.1,by rw[io.1,wl];exact k8|λ ka H5 hka s5=>?_];refine%[_,O,_,O,_,O,_,O,zS2|λ xa hxa=>?_];refine aH hxa λ H6 k6 s6=>?_;refine%[_,O,_,O,zS2|λ ya hya=>?_];refine aH hya λ H7 k7 s7=>?_;refine%[zS4|λ va hva=>?_];refine aH hva λ H8 kk8 s8=>?_;have s58:Same H5 H8:=(s6.trans s7).trans s8;have sv8:Same Hv H8:=s5.trans s58;refine nH (F:=FdS ss) kw w6 (inv.same sv8) (s58 _ _ hka) (InB.join kw0 io iu) (t:=.cut c.1 c.2 (cR p.1 p.2 c) ro.1 (cY b p.1 p.2 c) ru.1) %[va,_,_,rfl,kk8,%[xa,t1,q1,rfl,s8 _ _ (s7 _ _ k6),sv8 _ _ (t4v _ _ ht1)|sv8 _ _ (tv _ _ hq1)]|%[ya,t2,q2,rfl,s8 _ _ k7,sv8 _ _ (t4v _ _ ht2)|sv8 _ _ hq2]] λ v' H9 in9 s9=>%[_,O,?_|(sv.trans (Same.sg sv8)).trans s9]
     rw[J8,huk,K5,J3,gA];exact in9
    ·rintro σ Hv ⟨v12,rfl,inv,sv⟩;refine%[_,_,O,?_|sz.trans (su'.sg.trans sv)];rw[tkj,gA,<- eR2];rw[r2l,LL]at inv;exact inv
   ·rintro σ Hz ⟨v11,v12,rfl,inz,sz⟩;refine%[_,_,_,_,_,_,O,?_|sx.trans (sy'.sg.trans sz)];rw[tk,gA,<- eR1];rw[r1l,LL]at inz;unfold nE;rw[eos,eus]at inz;exact inz
  ·rintro σ Hx ⟨v7,v8,v9,v10,v11,v12,rfl,inx,sx⟩;refine hR v7 v8 v9 v10 v11 v12 _ ?_ (s04.trans sx);rw[K2 ⋯]at inx;unfold bA;rw[<- eR0];exact inx
 rintro v7 v8 v9 v10 v11 v12 H4 ⟨kvs,i1,i2,i3⟩ s4;exact%[_,O|q st kvs H4 hstH i1 i2 (s4.sf hstH)]
def jM(C:Mi):Sp:=λ vs H Q _=>∃(s:Mi)(b:Int)(ks:Mo Kd)(m n:Nat),vs=[.ref s,.int m,.int n]/\ShopAt C H s b ks/\iH b ks/\1<=m/\m<=8/\1<=n/\n<=8 /\
 ∀(fa:Mi)(ss:Mo ((Int×Int)×V))(H':Hp),H fa=none->H' fa=some (.dT (byP ss))->ss.map (·.1)=aL m n->jL b ks fa H' ss->(∀a,FdS ss a->H a=none)->Same H H'->Q (.ref fa) H'
def LsA(H H':Hp)(v:V)(bs:Mo (Mo Int)):Prop:=∃l as,v=.ref l/\H l=none/\H' l=↥(as.map V.ref)/\BsA H' as bs
def nI(C:Mi):Sp:=λ vs H Q _=>∃(s:Mi)(b:Int)(ks:Mo Kd)(m n:Nat),vs=[.ref s,.int m,.int n]/\ShopAt C H s b ks/\iH b ks/\1<=m/\m<=8/\1<=n/\n<=8 /\
 ∀(ta:Mi)(ll:Mo ((Int×Int)×V))(H':Hp),H ta=none->H' ta=some (.dT (byP ll))->ll.map (·.1)=aL m n->(∀q v,(q,v)∈ll->LsA H H' v (gK b ks q))->Same H H'->Q (.ref ta) H'
theorem scgreats:FnScope ["shop","wide","high","found","part"] ["shop","wide","high"] (defScope cq):=%[O,O,O,∅,O,∅|∅]
theorem tM{f:Mi}{fd:F9}(F:Fun K "greatest_steps" "greatest_steps" cq f fd){C:Mi}(B:Blt mg)(DPU:Dn P w K mg base "parts_up_to" ["wide","high"] 1 (spParts))(DST:Dn P w K mg base "steps_of_part" ["shop","part","found"] 6 ((rD C)))(DAL:Dn P w K mg base "greatest_alone" ["steps"] 2 (rC)):FnOk P w K mg base CX0 7 f fd ["shop","wide","high"] (jM C):=by
 exists scgreats
 ·obtain⟨s,b,ks,m,n,rfl,_⟩:=h
  rfl
 obtain⟨s,b,ks,m,n,rfl,S0,⟨b0,k1',k8,kw,w6⟩,m1,m8,n1,n8,q⟩:=h;have nd:=scgreats.nd;have hu:=hr.units;have hu1:=C8 (LW (show 1<=64 by decide) _) hu;refine%[_,((3∣nh)<<<((@bU _ _ _ _ _ _ _ _ E4 O (bE (DPU∩((pv 1)^^^((pv 2)^^^ae)))) (am (i:=4) nd O (Or.inl O)) (@ai _ _ _ (xN hu1 (pv 3) (pv 4) (DAL∩((DST∪((pv 0)^^^((pv 4)^^^((pv 3)^^^ae))))^^^ae)) O)) (by intro _;rfl))<<<((pv 3)⁻¹)))|?_];have z4:4096<=sizeLine:=∅
 have wl:(wsK ks).length=ks.length:=B4 _;refine ao (λ R=>∀(fa:Mi)(H':Hp),H fa=none->H' fa=some (.dT [])->Same H H'->R [↑s,⇑m,⇑n,↑fa,none] H') (λ Dd hR=>?_) ?_
 ·intro fa hfa;refine aH hfa λ H1 k1 s1=>?_;exact hR fa _ hfa k1 s1
 rintro fa H1 hfa k1 s1;refine ao (λ R=>∀(ss:Mo ((Int×Int)×V))(v4:Ml V)(H':Hp),H' fa=some (.dT (byP ss))->ss.map (·.1)=aL m n->jL b ks fa H' ss->((∀a,FdS ss a->H a=none))->Same H H'->R [↑s,⇑m,⇑n,↑fa,v4] H') (λ Dd hR=>?_) ?_
 ·refine%[_,O,_,O,m,n,O,⋯,⋯|λ pl ys H3 hpl pys s3=>?_];have pln:=E3 pys;have p64:(aL m n).length<=64:=by rw[er];exact Nat.mul_le_mul m8 n8
  have s13:=s1.trans s3;refine%[pl,O,%[_|G4 hpl]|dD (xs:=ys) (λ i σ' H'=>∃(ss:Mo ((Int×Int)×V))(v4:Ml V),σ'=[↑s,⇑m,⇑n,↑fa,v4]/\H' fa=some (.dT (byP ss))/\ss.map (·.1)=(aL m n).take i/\jL b ks fa H' ss/\(∀a,FdS ss a->H a=none)/\Sg (λ a=>H a=none) fa H3 H') ⟨[],none,O,s3 _ _ k1,O,(λ q v h=>by cases h),(λ a ⟨q,h⟩=>by cases h),Sg.refl _⟩ (λ i σ Hx _ ⟨_,_,_,_,_,_,_,sx⟩=>G4 (sx.lst hpl)) ?_ ?_]
  ·rintro i x σ Hx hi ⟨ss,v4,rfl,hfx,es,fok,fnw,sx⟩;obtain⟨p,hp,ta,rfl,hta⟩:=G6 pys hi;have pm:=B6 hp;obtain⟨⟨p1,p2⟩,p3,p4⟩:=partsL_mem.mp pm;have pnew:=pe hp;have sl:ss.length<=64:=by have:=NE List.length es;rw[B4,K0]at this;omega
   have cutIn:∀c∈cB b p.1 p.2,cR p.1 p.2 c∈ss.map (·.1)/\cY b p.1 p.2 c∈ss.map (·.1):=λ c hc=>by obtain⟨⟨a1,a2,a3,a4,a5,_⟩,⟨c1,c2,c3,c4,c5,_⟩⟩:=gz b0 p1 p3 hc;rw[es];exact%[iG hp (partsL_mem.mpr %[%[a1|⋯],a2|⋯]) a5|iG hp (partsL_mem.mpr %[%[c1|⋯],c2|⋯]) c5]
   have s0x:Sg (λ a=>H a=none) fa H Hx:=(Same.sg s13).trans sx;have tx:Hx ta= ~~~[.int p.1,.int p.2]:=sx.tps _ _ hta;refine%[_,O,_,O,_,O,s,ta,fa,b,ks,p,ss,O,S0.keep s0x.tps (λ _ _ _ _ e=>s0x.ins e),%[b0,k1',k8,kw|w6],tx,p1,⋯,p3,⋯,hfx,fok,cutIn|λ st kvs H4 hst h4 rw4 s4=>?_];have nfa:¬ FdS ss fa:=λ⟨q',mq⟩=>by obtain⟨d,_,e,nn,_⟩:=fok q' _ mq;cases e;exact nn rfl
   have inR:∀x∈(bA b ks (gB b ks) p).map (·.1),InB (wsK ks) x:=λ x hx=>hX kw (λ c _=>%[λ r hr=>nF kw hr|λ r hr=>nF kw hr]) hx;have few:=InB.few (ws0 kw) w6 (cr b ks (gB b ks) p) inR;rw[B4]at few;refine%[st,ks.length,kvs,_,O,.inl h4,rw4,cr _ _ _ _,λ x hx=>by rw[(inR x hx).1,wl],k1',k8,few|λ d kv5 H5 hd h5 rw5 s5=>?_];rw[<- wc b0 p p1 p3]at rw5;have n1:fa≠st:=ak hfx hst;have f4:H4 fa=some (.dT (byP ss)):=s4.not nfa hfx;have f5:H5 fa=some (.dT (byP ss)):=s5.not n1 f4;have dn:Hx d=none:=s4.free hd;have nd:d≠fa:=(ak hfx dn).symm;have dH:H d=none:=by
    cases e:H d with
    | none=>rfl
    | some o=>
     rcases s0x _ _ e with z | ⟨z,_⟩ | ⟨z,_⟩
     ·rw[dn]at z;cases z
     ·rw[z]at e;cases e
     ·exact absurd z nd
   have stH:H st=none:=by
    cases e:H st with
    | none=>rfl
    | some o=>
     rcases s0x _ _ e with z | ⟨z,_⟩ | ⟨z,_⟩
     ·rw[hst]at z;cases z
     ·rw[z]at e;cases e
     ·exact absurd z.symm n1
   have s45:Sf (λ a=>H a=none) Hx H5:=(s4.mono λ a h=>fnw a h).trans (s5.mono λ a (h:a=st)=>h ▸ stH);refine%[_,O,_,O,fa,_,O,DPut.t (k:=pk p) f5 (s45.tps _ _ tx) (by unfold byP;rw[B4];omega),ss ++ [(p,.ref d)],_,O,?_,?_,?_,?_|(sx.trans s45.sg).trans (Sg.put f5)]
   ·rw[yi (by rw[es];exact pnew)];exact ah
   ·rw[J3,es,J8,hp];rfl
   ·intro q' v' hm;have kt:Tps H5 (upd H5 fa (.dT (dF (byP ss) (pk p) (V.ref d)))):=(Sg.put (F:=λ _=>False) f5).tps;rcases C4.mp hm with hm | hm
    ·obtain⟨d',kv',rfl,nn,rd,rw'⟩:=fok q' v' hm;refine%[d',kv',O,nn,?_|(rw'.keep s45.tps).keep kt];exact(Sg.put (F:=λ _=>False) f5).rd nn (s45.rd rd)
    ·rw[E2]at hm;cases hm;exact%[d,kv5,O,nd,.inl (by rw[aj nd];exact h5)|rw5.keep kt]
   ·rintro a ⟨q',hm⟩;rcases C4.mp hm with hm | hm
    ·exact fnw a %[q'|hm]
    ·rw[E2]at hm;cases hm;exact dH
  ·rintro σ Hx ⟨ss,v4,rfl,hfx,es,fok,fnw,sx⟩;rw[K2 ⋯]at es;refine hR ss v4 _ hfx es fok fnw ?_;exact Sf.same (Same.refl _) (((Same.sg s13).trans sx).sf hfa) (λ _ h=>h)
 rintro ss v4 H2 h2 es fok fnw s2;exact%[_,O|q fa ss H2 hfa h2 es fok fnw s2]
theorem scgreatb:FnScope ["shop","wide","high","found"] ["shop","wide","high"] (defScope aU):=%[O,O,O,∅,O,∅|∅]
theorem tN{f:Mi}{fd:F9}(F:Fun K "greatest_bundles" "greatest_bundles" aU f fd){C:Mi}(B:Blt mg)(DCK:Dn P w K mg base "check_small" ["shop","wide","high"] 3 ((vW C)))(DGS:Dn P w K mg base "greatest_steps" ["shop","wide","high"] 7 ((jM C))):FnOk P w K mg base CX0 8 f fd ["shop","wide","high"] (nI C):=by
 exists scgreatb
 ·obtain⟨s,b,ks,m,n,rfl,_⟩:=h
  rfl
 obtain⟨s,b,ks,m,n,rfl,S0,⟨b0,k1',k8,kw,w6⟩,m1,m8,n1,n8,q⟩:=h;have nd:=scgreatb.nd;have hu:=hr.units;have hu1:=C8 (LW (show 1<=64 by decide) _) hu;refine%[_,((@bq _ _ _ _ (DCK∩((pv 0)^^^((pv 1)^^^((pv 2)^^^ae)))) O)<<<((3∣(DGS∪((pv 0)^^^((pv 1)^^^((pv 2)^^^ae)))))<<<((nu (own:=["part","steps"]) (cs:=[]) (cap:=[]) O hu1 (nr (pv 3)) (az (sc:=defScope aU) (N:=["shop","wide","high","found"]) O O ∅) (λ _ _ _ _ _=>eU K O O (by show List.Nodup (["part","steps"]:Mo Str) ;decide +kernel) O O O O) (λ _ _ _ _ _=>aJ) (λ _ _ _ _ _=>(pv 0)) (λ _ _ _ _ _=>(@aT _ _ _ _ _ _ _ _ _ (jA O) O B.list NI ((pv 1)^^^ae) ∅ ∅ O O)))⁻¹)))|?_];have z4:4096<=sizeLine:=∅
 refine ao (λ R=>∀(H':Hp),Same H H'->R [↑s,⇑m,⇑n,none] H') (λ Dd hR=>?_) ?_
 ·exact%[_,O,_,O,_,O,s,b,m,n,ks,O,S0,k8,⋯,⋯,⋯,⋯,Me w6 ∅|λ H' s'=>hR _ s']
 rintro H1 s1;refine ao (λ R=>∀(fa:Mi)(ss:Mo ((Int×Int)×V))(H':Hp),H1 fa=none->H' fa=some (.dT (byP ss))->ss.map (·.1)=aL m n->jL b ks fa H' ss->Same H1 H'->R [↑s,⇑m,⇑n,↑fa] H') (λ Dd hR=>?_) ?_
 ·exact%[_,O,_,O,_,O,s,b,ks,m,n,O,S0.keep (λ _ _ e=>s1 _ _ e) (λ _ _ _ _ e=>s1 _ _ e),%[b0,k1',k8,kw|w6],m1,m8,n1,n8|λ fa ss H' a1 a2 a3 a4 _ a6=>hR fa ss _ a1 a2 a3 a4 a6]
 rintro fa ss H2 hfa h2 es fok s2;have p64:(aL m n).length<=64:=by rw[er];exact Nat.mul_le_mul m8 n8
 have sl:ss.length<=64:=by rw[<- B4 (f:=(·.1)),es];exact p64
 refine%[_,O,fa,byP ss,O,h2|λ ob=>?_];have hf:(upd H2 fa (.frz ob (.dT (byP ss)))) fa=some (.frz ob (.dT (byP ss))):=ah;have sf0:Sf (· = fa) H2 (upd H2 fa (.frz ob (.dT (byP ss)))):=λ c o e=>by
  by_cases z:c=fa
  ·subst z;rw[h2]at e;cases e;exact .inr %[O,ob,_,O|ah]
  ·rw[aj z];exact .inl e
 generalize upd H2 fa (.frz ob (.dT (byP ss)))=H3 at hf sf0 ⊢;have fok3:jL b ks fa H3 ss:=λ q' v' hm=>by obtain⟨d,kv,e,nn,rd,rw'⟩:=fok q' v' hm;exact%[d,kv,e,nn,sf0.rd rd|rw'.keep sf0.tps]
 have bl:(byP ss).length=ss.length:=B4 _;have fr:∀{l:Mi},H3 l=none->H l=none:=λ h=>s1.free (s2.free (sf0.free h));have snd:(ss.map (·.1)).Nodup:=by rw[es];exact(di n m).imp λ {a c} h e=>by subst e;unfold ltP at h;omega
 refine nv (λ i Mr Hx=>Same H3 Hx/\Mr.length=i/\(∀r∈Mr,Hx r.1= ~~~(r.2.1.map kV))/\∃ll,kvR Mr=byP ll/\ll.map (·.1)=(ss.map (·.1)).take i/\∀q' v',(q',v')∈ll->LsA H Hx v' (gK b ks q')) ⟨Same.refl _,rfl,(λ r hr=>by cases hr),[],rfl,rfl,(λ q' v' h=>by cases h)⟩ (λ i Mr Hx _ ⟨sx,_,hr,_⟩=>%[sx _ _ hf|hr]) ?_ ?_ ?_
 ·rintro i kk v pt qt Mr Hx hi hpt hqt ⟨sx,rl,hr,ll,e1,e2,e3⟩;have hin:=(A6.mp hi).1;unfold byP at hi;rw[G8]at hi;obtain⟨⟨p,v'⟩,hsi,e⟩:=J7.mp hi;injection e with ek ev
  subst ek ev;have hpi:(ss.map (·.1))[i]?=some p:=by rw[G8,hsi];rfl
  obtain⟨d,kv,e,nn,rd,rwd⟩:=fok3 p v' (B6 hsi);have e:v'=.ref d:=e;subst e;have rl64:kv.length<=32:=by
   have l1:=E3 rwd;have l2:=InB.few (ws0 kw) w6 (bs:=gK b ks p) ?_ (λ x hx=>cU kw hx)
   ·rw[gK,B4]at l2;omega
   ·obtain⟨⟨p1,_⟩,p3,_⟩:=partsL_mem.mp (show p∈aL m n by rw[<- es];exact B6 hpi);rw[rB b0 p p1 p3];exact eA (cr _ _ _ _)
  refine aH hpt λ H4 k4 s4=>?_;have s34:=sx.trans s4;refine%[pt,_,O,G3 k4,O,_,_,O,_,_,O,O,jX (leS.set rfl) (leS.set rfl)|aK %[_,O,_,O,d,kv,O,(Same.sf (F:=(· = fa)) s34).rd rd|λ l as hl pas=>?_]];refine aH hl λ H5 k5 s5=>?_;have hq5:H5 qt= ~~~((pk p).map kV):=s5 _ _ (s4 _ _ hqt);have pn:p∉ll.map (·.1):=λ z=>by rw[e2]at z;obtain⟨k,hk1,hk2⟩:=List.getElem_of_mem z;rw[List.getElem_take]at hk2;rw[K0]at hk1;have hb1:=(A6.mp hpi).1;have hb2:=(A6.mp hpi).2;have:=(List.getElem_inj (h₀:=show k < (ss.map (·.1)).length by omega) (h₁:=hb1) snd).mp (hk2.trans hb2.symm);omega
  refine%[qt,pk p,O,hq5,?_|NxD.of hin %[s34.trans s5,by rw[J5,rl];rfl,λ r hr'=>?_,ll ++ [(p,.ref l)],?_,?_|?_]]
  ·intro hm;have:Mr.map (·.2.1)=(kvR Mr).map (·.1):=by unfold kvR;rw[LO];rfl
   rw[this,e1]at hm;unfold byP at hm;rw[LO]at hm;obtain⟨d',hd',e⟩:=J0.mp hm;exact pn (J0.mpr %[d',hd'|pf e])
  ·rcases C4.mp hr' with h | h
   ·exact s5 _ _ (s4 _ _ (hr r h))
   ·rw[E2.mp h];exact hq5
  ·unfold kvR byP at e1 ⊢;rw[J3,J3,e1];rfl
  ·rw[J3,e2,J8,hpi];rfl
  ·intro q' v' hm;rcases C4.mp hm with hm | hm
   ·obtain⟨l',as',e,h1,h2,h3⟩:=e3 q' v' hm;exact%[l',as',e,h1,s5 _ _ (s4 _ _ h2)|h3.keep (Same.tps (s4.trans s5))]
   ·rw[E2]at hm;cases hm;refine%[l,as,O,fr (s34.free hl),k5|?_];have:∀(as:Mo Mi)(kv:Mo (Mo Key×V))(rs:Rws),Paired (λ (b:Mi)(kv:Mo Key×V)=>H4 b= ~~~(kv.1.map kV)) as kv->RwsA H3 kv rs->BsA H5 as (rs.map (·.1)):=λ as kv rs h1 h2=>by
     induction h2 generalizing as with
     | nil=>cases h1;exact .nil
     | cons x _ ih=>cases h1 with
      | cons y z=>exact .cons (by rw[x.1,cI]at y;exact s5 _ _ y) (ih _ z)
    exact this as kv _ pas rwd
 ·rintro i Mr Hx hi ⟨_,rl,_⟩;omega
 ·rintro Mr Hx ⟨sx,rl,hr,ll,e1,e2,e3⟩;refine%[⋯|λ ta hta=>?_];rw[e1];have hn:=sx.free hta;rw[bl,K2 (by rw[B4];omega),es]at e2;refine aH hta λ H4 k4 s4=>?_;refine q ta ll H4 (fr hn) k4 e2 (λ q' v' hm=>?_) (λ c o e=>?_)
  ·obtain⟨l',as',e,h1,h2,h3⟩:=e3 q' v' hm;exact%[l',as',e,h1,s4 _ _ h2|h3.keep (Same.tps s4)]
  ·refine s4 _ _ (sx _ _ (sf0.not (λ z=>?_) (s2 _ _ (s1 _ _ e))));have z:c=fa:=z;rw[z,s1.free hfa]at e;cases e
inductive Tr where
 | rest
 | piece (i:Nat) (c:Bool) (x y:Int)
 | cut (dn:Bool) (p:Int) (l r:Tr)
def toD:Tr->PyData
 | .rest=>.tuple [.str "rest"]
 | .piece i c x y=>.tuple [.str "piece",.int i,.bool c,.int x,.int y]
 | .cut dn p l r=>.tuple [.str (if dn=true then "down" else "across"),.int p,toD l,toD r]
def TrV(H:Hp):Tr->V->Prop
 | .rest,v=>∃a,v=.ref a/\H a=some (.tup [.str "rest"])
 | .piece i c x y,v=>∃a,v=.ref a/\H a=some (.tup [.str "piece",.int i,.bl c,.int x,.int y])
 | .cut dn p l r,v=>∃a x y,v=.ref a/\H a=some (.tup [.str (if dn=true then "down" else "across"),.int p,x,y])/\TrV H l x/\TrV H r y
theorem TrV.keep{H H':Hp}(k:∀a xs,H a= ~~~xs->H' a= ~~~xs):∀(t:Tr){v:V},TrV H t v->TrV H' t v
 | .rest,_,⟨a,e,h⟩=>%[a,e|k _ _ h]
 | .piece ..,_,⟨a,e,h⟩=>%[a,e|k _ _ h]
 | .cut _ _ l r,_,⟨a,x,y,e,h,h1,h2⟩=>%[a,x,y,e,k _ _ h,TrV.keep k l h1|TrV.keep k r h2]
theorem TrV.dat{K:C6}{H:Hp}:∀(t:Tr){v:V},TrV H t v->DatV K H v (toD t)
 | .rest,_,⟨a,e,h⟩=>by subst e;exact .tup (G3 h) (.cons (.str _) .nil)
 | .piece ..,_,⟨a,e,h⟩=>by subst e;exact .tup (G3 h) (.cons (.str _) (.cons (.int _) (.cons (.bl _) (.cons (.int _) (.cons (.int _) .nil)))))
 | .cut _ _ l r,_,⟨a,x,y,e,h,h1,h2⟩=>by subst e;exact .tup (G3 h) (.cons (.str _) (.cons (.int _) (.cons (TrV.dat l h1) (.cons (TrV.dat r h2) .nil))))
def dpt:Tr->Nat
 | .cut _ _ l r=>max (dpt l) (dpt r)+1
 | _=>0
theorem ie:∀t:Tr,(toD t).depth<=dpt t+1
 | .rest=>∅
 | .piece i c x y=>by show PyData.depthAll [.str "piece",.int i,.bool c,.int x,.int y]+1<=0+1;simp only[PyData.depthAll,PyData.depth];omega
 | .cut dn p l r=>by have h1:=ie l;have h2:=ie r;show PyData.depthAll [.str (if dn=true then "down" else "across"),.int p,toD l,toD r]+1<=max (dpt l) (dpt r)+1+1;simp only[PyData.depthAll,PyData.depth];omega
theorem mh:∀t:Tr,PyData.canLay0 (toD t)=true
 | .rest=>∅
 | .piece i c x y=>by
  show(PyData.canLay0 (.str "piece") && (true && (true && (true && (true && true)))))=true
  decide +kernel
 | .cut dn p l r=>by have h1:=mh l;have h2:=mh r;show(PyData.canLay0 (.str (if dn=true then "down" else "across")) && (true && (PyData.canLay0 (toD l) && (PyData.canLay0 (toD r) && true))))=true;rw[h1,h2];cases dn <;> decide +kernel
def bd(a b:Mo Int):Mo Int:=List.zipWith min a b
def be(a b:Mo Int):Mo Int:=List.zipWith (λ x y=>max 0 (x - y)) a b
theorem gE{a b:Mo Int}{i:Nat}{x y:Int}(h1:a[i]?=some x)(h2:b[i]?=some y):(bd a b)[i]?=some (min x y):=by unfold bd;rw[List.getElem?_zipWith,h1,h2]
theorem gG{a b:Mo Int}{i:Nat}{x y:Int}(h1:a[i]?=some x)(h2:b[i]?=some y):(be a b)[i]?=some (max 0 (x - y)):=by unfold be;rw[List.getElem?_zipWith,h1,h2]
theorem bR{a b:Mo Int}(h:a.length=b.length):(bd a b).length=a.length:=by unfold bd;rw[List.length_zipWith];omega
theorem bS{a b:Mo Int}(h:a.length=b.length):(be a b).length=a.length:=by unfold be;rw[List.length_zipWith];omega
def NnB(a:Mo Int):Prop:=∀x∈a,0<=x
theorem NnB.iff{a:Mo Int}:NnB a↔∀(i:Nat)(x:Int),a[i]?=some x->0<=x :=
 %[λ h i x hx=>h x (B6 hx)|λ h x hx=>by obtain⟨i,hi⟩:=K1.mp hx;exact h i x hi]
theorem atB{a:Mo Int}{i:Nat}(h:i < a.length):∃x,a[i]?=some x:=%[a[i]|F2 h]
theorem tO{a:Mo Int}{i:Nat}{x:Int}(h:a[i]?=some x):i < a.length:=(A6.mp h).1
theorem nJ{a b:Mo Int}(e:a.length=b.length)(h1:NnB a)(h2:NnB b):NnB (bd a b):=NnB.iff.mpr λ i x hx=>by have il:=tO hx;rw[bR e]at il;obtain⟨u,hu⟩:=atB il;obtain⟨v,hv⟩:=atB (a:=b) (i:=i) ⋯;rw[gE hu hv]at hx;cases hx;have:=NnB.iff.mp h1 i u hu;have:=NnB.iff.mp h2 i v hv;omega
theorem jN{a b:Mo Int}(e:a.length=b.length):NnB (be a b):=NnB.iff.mpr λ i x hx=>by have il:=tO hx;rw[bS e]at il;obtain⟨u,hu⟩:=atB il;obtain⟨v,hv⟩:=atB (a:=b) (i:=i) ⋯;rw[gG hu hv]at hx;cases hx;omega
theorem nL{a b:Mo Int}(e:a.length=b.length):leB (bd a b) b=true:=(cu (by rw[bR e,e])).mpr λ i x y hx hy=>by have il:=tO hx;rw[bR e]at il;obtain⟨u,hu⟩:=atB il;rw[gE hu hy]at hx;cases hx;omega
theorem wm{c o u ws:Mo Int}(e1:c.length=ws.length)(e2:o.length=ws.length)(e3:u.length=ws.length)(h1:leB c (cD o u ws)=true)(h3:NnB u):leB (be c (bd c o)) u=true:=by
 have ec:c.length=o.length:=⋯
 have el:(be c (bd c o)).length=c.length:=bS (by rw[bR ec]);refine(cu ⋯).mpr λ i x y hx hy=>?_;have il:=tO hx;rw[el]at il;obtain⟨p,hp⟩:=atB il;obtain⟨q,hq⟩:=atB (a:=o) (i:=i) ⋯;obtain⟨w,hw⟩:=atB (a:=ws) (i:=i) ⋯;rw[gG hp (gE hp hq)]at hx;cases hx;have:=(cu (by rw[hU ⋯ ⋯];omega)).mp h1 i p _ hp (jG hq hy hw);have:=NnB.iff.mp h3 i y hy;omega
def zf(b:Int)(ks:Mo Kd)(p:Int×Int):Mo Int×Stp->Prop
 | (c,.rest)=>c=aR ks.length
 | (c,.piece k t)=>∃i:Nat,k=i/\(i,t)∈lyK ks 0/\gv ks p.1 p.2 (i,t)=true/\c=cC ks.length i
 | (c,.cut dn q f o s u)=>(dn,q)∈cB b p.1 p.2/\f=cR p.1 p.2 (dn,q)/\s=cY b p.1 p.2 (dn,q)/\o∈gK b ks f/\u∈gK b ks s/\c=cD o u (wsK ks)
theorem jO{r:Mo Int×Stp}:∀{l rs:Rws},r∈et rs l->r∈rs\/r∈l
 | [],_,h=>.inl h
 | x :: l,rs,h=>by
  rcases jO (l:=l) (rs:=fT rs x) h with h | h
  ·unfold fT at h
   split at h
   ·exact .inl h
   ·rcases C4.mp h with h | h
    ·exact .inl h
    ·exact .inr (G7.mpr (.inl (E2.mp h)))
  ·exact .inr (B5 _ h)
theorem nM{rs:Rws}{c:Mo Int}(h:c∈rs.map (·.1)):(c,hW rs c)∈rs:=by
 induction rs with
 | nil=>cases h
 | cons r rs ih=>
  unfold hW
  by_cases e:r.1=c
  ·rw[MD (by simpa using e)];rw[<- e];exact B8
  ·rw[MX (by simpa using e)];exact B5 _ (ih ((G7.mp h).resolve_left λ z=>e z.symm))
theorem An{b:Int}{ks:Mo Kd}(b0:0<=b){p:Int×Int}(p1:1<=p.1)(p2:1<=p.2){r:Mo Int×Stp}(h:r∈gB b ks p):zf b ks p r:=by
 rw[wc b0 p p1 p2]at h;unfold iL at h;obtain⟨c,hc,rfl⟩:=J0.mp h;have hm:=nM (mem_topB.mp hc).1;generalize(c,hW (bA b ks (gB b ks) p) c)=r at hm;unfold bA at hm;rcases jO hm with hm | hm
 ·rcases jO hm with hm | hm
  ·unfold eG at hm;rw[E2.mp hm];exact rfl
  ·unfold lyC at hm;obtain⟨q,hq,hr⟩:=LU.mp hm;obtain⟨q1,q2⟩:=MJ.mp hq;unfold lyR at hr
   split at hr
   ·rw[E2.mp hr];exact%[q.1,O,q1,q2|O]
   ·cases hr
 ·obtain⟨x,hx,hr⟩:=LU.mp hm;obtain⟨o,ho,hr⟩:=LU.mp hr;obtain⟨u,hu,rfl⟩:=J0.mp hr;exact%[hx,O,O,ho,hu|O]
theorem yk{b:Int}{ks:Mo Kd}(b0:0<=b){p:Int×Int}(p1:1<=p.1)(p2:1<=p.2){g:Mo Int}(h:g∈gK b ks p):zf b ks p (g,hW (gB b ks p) g):=An b0 p1 p2 (nM h)
def tbF(b:Int)(ks:Mo Kd):Nat->Int×Int->Mo Int->Mo Int->Tr
 | 0,_,_,_=>.rest
 | n+1,p,g,c=>if c.sum=0 then .rest else match hW (gB b ks p) g with
  | .rest=>.rest
  | .piece k t=>.piece k.toNat t 0 0
  | .cut dn q f o s u=>.cut dn q (tbF b ks n f o (bd c o)) (tbF b ks n s u (be c (bd c o)))
abbrev cV:=Mo (Mo Int×Mo (Mo Int))
def gH(rs:cV)(r:Mo Int×Mo (Mo Int)):cV:=if r.1∈rs.map (·.1)then rs else rs ++ [r]
def fV(rs l:cV):cV:=l.foldl gH rs
theorem nN(rs l m:cV):fV rs (l ++ m)=fV (fV rs l) m:=List.foldl_append
theorem putL_keys{rs:cV}{r:Mo Int×Mo (Mo Int)}{x:Mo Int}:x∈(gH rs r).map (·.1)↔x∈rs.map (·.1)\/x=r.1:=by
 unfold gH
 split
 ·next h=>exact%[.inl|λ z=>z.elim id λ e=>e ▸ h]
 ·rw[J3,C4,G9,LN,E2]
theorem kX{x:Mo Int}:∀{l rs:cV},x∈(fV rs l).map (·.1)↔x∈rs.map (·.1)\/x∈l.map (·.1)
 | [],rs=>by simp[fV]
 | r :: l,rs=>by show x∈(fV (gH rs r) l).map (·.1)↔_;rw[kX,putL_keys,G9,G7,or_assoc]
theorem fW{rs:cV}{r:Mo Int×Mo (Mo Int)}(h:(rs.map (·.1)).Nodup):((gH rs r).map (·.1)).Nodup:=by
 unfold gH
 split
 ·exact h
 ·next z=>
  rw[J3,MQ];refine%[h,by simp|λ a ha b hb e=>z ?_];simp only[G9,LN,E2]at hb;rw[<- hb,<- e];exact ha
theorem wq{rs:cV}{r x:Mo Int×Mo (Mo Int)}(h:x∈gH rs r):x∈rs\/x=r:=by
 unfold gH at h
 split at h
 ·exact .inl h
 ·exact(C4.mp h).imp id E2.mp
theorem nO{x:Mo Int×Mo (Mo Int)}:∀{l rs:cV},x∈fV rs l->x∈rs\/x∈l
 | [],_,h=>.inl h
 | r :: l,rs,h=>by
  rcases nO (l:=l) (rs:=gH rs r) h with h | h
  ·exact(wq h).imp id λ e=>G7.mpr (.inl e)
  ·exact .inr (B5 _ h)
def pi(bs:Mo (Mo Int))(r:Mo Int×Mo (Mo Int)):cV:=bs.map λ c=>(be r.1 c,r.2 ++ [c])
def zg(bs:Mo (Mo Int))(rs:cV):cV:=fV [] (rs.flatMap (pi bs))
def lev(bs:Mo (Mo Int))(ws:Mo Int):Nat->cV
 | 0=>[(ws,[])]
 | k+1=>zg bs (lev bs ws k)
def hit(bs:Mo (Mo Int))(ws:Mo Int)(k:Nat):Bool:=decide (aR ws.length∈(lev bs ws k).map (·.1))
def mj(rs:cV)(c:Mo Int):Mo (Mo Int):=((rs.find? λ r=>decide (r.1=c)).map (·.2)).getD []
theorem nP{rs:cV}{c:Mo Int}(h:c∈rs.map (·.1)):(c,mj rs c)∈rs:=by
 induction rs with
 | nil=>cases h
 | cons r rs ih=>
  unfold mj
  by_cases e:r.1=c
  ·rw[MD (by simpa using e)];rw[<- e];exact B8
  ·rw[MX (by simpa using e)];exact B5 _ (ih ((G7.mp h).resolve_left λ z=>e z.symm))
theorem ii{bs:Mo (Mo Int)}{ws:Mo Int}(h0:∀x∈ws,0<=x)(hb:∀c∈bs,c.length=ws.length/\NnB c):∀(k:Nat)(r:Mo Int×Mo (Mo Int)),r∈lev bs ws k->InB ws r.1/\r.2.length=k/\(∀c∈r.2,c∈bs)/\r.2.foldl be ws=r.1
 | 0,r,h=>by rw[E2.mp h];exact⟨%[O,jI ws|h0],O,(λ c h=>by cases h),O⟩
 | k+1,r,h=>by
  unfold lev zg at h;rcases nO h with h | h
  ·cases h
  ·obtain⟨x,hx,h⟩:=LU.mp h;obtain⟨c,hc,rfl⟩:=J0.mp h;obtain⟨i1,i2,i3,i4⟩:=ii h0 hb k x hx;obtain⟨c1,c2⟩:=hb c hc;have el:x.1.length=c.length:=by rw[i1.1,c1]
   refine%[%[by rw[bS el,i1.1],?_|jN el],by rw[J5,i2];rfl,λ d hd=>?_|by rw[List.foldl_append,i4];rfl]
   ·refine(cu (by rw[bS el,i1.1])).mpr λ i u v hu hv=>?_;have il:=tO hu;rw[bS el]at il;obtain⟨y,hy⟩:=atB il;obtain⟨z,hz⟩:=atB (a:=c) (i:=i) ⋯;rw[gG hy hz]at hu;cases hu;have:=(cu i1.1).mp i1.2.1 i y v hy hv;have:=NnB.iff.mp c2 i z hz;have:=h0 v (B6 hv);omega
   ·rcases C4.mp hd with hd | hd
    ·exact i3 d hd
    ·rw[E2.mp hd];exact hc
theorem jP:∀{l rs:cV},(rs.map (·.1)).Nodup->((fV rs l).map (·.1)).Nodup
 | [],_,h=>h
 | r :: l,rs,h=>by show((fV (gH rs r) l).map (·.1)).Nodup;exact jP (fW h)
theorem tP(bs:Mo (Mo Int))(ws:Mo Int):∀k,((lev bs ws k).map (·.1)).Nodup
 | 0=>by simp[lev]
 | _+1=>jP (by simp)
theorem lev_next{bs:Mo (Mo Int)}{ws:Mo Int}{k:Nat}{x:Mo Int}:x∈(lev bs ws (k+1)).map (·.1)↔∃y∈(lev bs ws k).map (·.1),∃c∈bs,x=be y c:=by
 show x∈(fV [] ((lev bs ws k).flatMap (pi bs))).map (·.1)↔_;rw[kX];constructor
 ·rintro(h | h)
  ·cases h
  ·obtain⟨r,hr,rfl⟩:=J0.mp h;obtain⟨y,hy,h⟩:=LU.mp hr;obtain⟨c,hc,rfl⟩:=J0.mp h;exact%[y.1,J0.mpr %[y,hy|O],c,hc|O]
 ·rintro⟨y,hy,c,hc,rfl⟩;obtain⟨r,hr,rfl⟩:=J0.mp hy;exact .inr (J0.mpr %[(be r.1 c,r.2 ++ [c]),LU.mpr %[r,hr|J0.mpr %[c,hc|O]]|O])
theorem EF:∀{a:Mo Int},NnB a->a.sum=0->a=aR a.length
 | [],_,_=>rfl
 | x :: a,h,e=>by have x0:=h x B8;have a0:=hV (ws:=a) λ y hy=>h y (B5 _ hy);rw[K7]at e;have:=EF (a:=a) (λ y hy=>h y (B5 _ hy)) ⋯;show x :: a=0 :: aR a.length;rw[<- this,show x=0 by omega]
theorem ym{bs:Mo (Mo Int)}{ws:Mo Int}(h0:∀x∈ws,0<=x)(hb:∀c∈bs,c.length=ws.length/\NnB c)(hf:∀ (i:Nat) (w:Int),ws[i]?=some w->0 < w->∃c∈bs,∃z,c[i]?=some z/\1<=z):∀(n k:Nat)(x:Mo Int),x∈(lev bs ws k).map (·.1)->x.sum<=n->∃j,j<=n/\hit bs ws (k+j)=true:=by
 intro n
 induction n with
 | zero=>
  intro k x hx hs;obtain⟨r,hr,rfl⟩:=J0.mp hx;obtain⟨i1,_⟩:=ii h0 hb k r hr;have z:=EF i1.2.2 (by have:=hV i1.2.2;omega);refine%[0,B3 _|B0 ?_];rw[Nat.add_zero,<- i1.1,<- z];exact hx
 | succ n ih=>
  intro k x hx hs;obtain⟨r,hr,rfl⟩:=J0.mp hx;obtain⟨i1,_⟩:=ii h0 hb k r hr
  by_cases c:r.1.sum<=n
  ·obtain⟨j,j1,j2⟩:=ih k r.1 hx c;exact%[j,⋯|j2]
  ·obtain⟨i,y,hy,y0⟩:∃(i:Nat)(y:Int),r.1[i]?=some y/\0 < y:=by
    refine Classical.byContradiction λ hn=>c ?_;have:∀(a:Mo Int),(∀(i:Nat)(y:Int),a[i]?=some y->y<=0)->a.sum<=0:=λ a=>by
     induction a with
     | nil=>intro _;exact E5 _
     | cons z a iha=>
      intro h;have:=h 0 z rfl;have:=iha λ i y hy=>h (i+1) y (by simpa using hy);rw[K7];omega
    have:=this r.1 λ i y hy=>Int.not_lt.mp λ y0=>hn %[i,y,hy|y0];omega
   obtain⟨w,hw⟩:=atB (a:=ws) (i:=i) (by rw[<- i1.1];exact tO hy);have yw:=(cu i1.1).mp i1.2.1 i y w hy hw;obtain⟨d,hd,z,hz,z1⟩:=hf i w hw ⋯;obtain⟨d1,d2⟩:=hb d hd;have el:r.1.length=d.length:=by rw[i1.1,d1]
   have lt:(be r.1 d).sum < r.1.sum:=by
    have:∀(a e:Mo Int)(i:Nat)(y z:Int),a.length=e.length->NnB a->NnB e->a[i]?=some y->e[i]?=some z->0 < y->1<=z->(be a e).sum < a.sum:=λ a=>by
     have le:∀(a e:Mo Int),a.length=e.length->NnB a->NnB e->(be a e).sum<=a.sum:=λ a=>by
      induction a with
      | nil=>intro e _ _ _;cases e <;> exact E5 _
      | cons u a iha=>intro e hl h1 h2;cases e with
       | nil=>simp at hl
       | cons v e=>
        have u0:=h1 u B8;have v0:=h2 v B8;have:=iha e (by simpa using hl) (λ y hy=>h1 y (B5 _ hy)) (λ y hy=>h2 y (B5 _ hy));show(max 0 (u - v) :: be a e).sum<=(u :: a).sum;rw[K7,K7];omega
     induction a with
     | nil=>intro e i y z _ _ _ h;simp at h
     | cons u a iha=>intro e i y z hl h1 h2 hy hz y0 z1;cases e with
      | nil=>simp at hl
      | cons v e=>
       have u0:=h1 u B8;have v0:=h2 v B8;have ha:NnB a:=λ y hy=>h1 y (B5 _ hy);have he:NnB e:=λ y hy=>h2 y (B5 _ hy);show(max 0 (u - v) :: be a e).sum < (u :: a).sum;rw[K7,K7];cases i with
       | zero=>
        simp only[List.getElem?_cons_zero,Option.some.injEq]at hy hz;have:=le a e (by simpa using hl) ha he;omega
       | succ i=>
        have:=iha e i y z (by simpa using hl) ha he (by simpa using hy) (by simpa using hz) y0 z1;omega
    exact this r.1 d i y z el i1.2.2 d2 hy hz y0 z1
   obtain⟨j,j1,j2⟩:=ih (k+1) (be r.1 d) (lev_next.mpr %[r.1,hx,d,hd|O]) ⋯;exact%[j+1,⋯|by rw[show k+(j+1)=k+1+j by omega];exact j2]
theorem pj{X:Cx}(K:C6)(hK:X.K=K):OpR X (compareOp .In) (rIn K false):=hK ▸ rT
def iM(ks:Mo Kd)(p:Int×Int):Mo Nat:=((lyK ks 0).filter (gv ks p.1 p.2)).map (·.1)
def awf(ks:Mo Kd)(p:Int×Int)(j:Nat):Mo Bool:=(List.range j).map λ i=>decide (waA ks i=0) || decide (i∈iM ks p)
def awF(ks:Mo Kd)(p:Int×Int):Bool:=(awf ks p ks.length).all id
def mr:Sp:=λ vs H Q _=>∃(t u:Mi)(xs ys:Mo Int),vs=[.ref t,.ref u]/\H t= ~~~(bV xs)/\H u= ~~~(bV ys)/\xs.length=ys.length/\xs.length<=8/\∀(a:Mi)(H':Hp),H' a= ~~~(bV (bd xs ys))->Same H H'->Q (.ref a) H'
def jQ:Sp:=λ vs H Q _=>∃(t u:Mi)(xs ys:Mo Int),vs=[.ref t,.ref u]/\H t= ~~~(bV xs)/\H u= ~~~(bV ys)/\xs.length=ys.length/\xs.length<=8/\∀(a:Mi)(H':Hp),H' a= ~~~(bV (be xs ys))->Same H H'->Q (.ref a) H'
def zh(C:Mi):Sp:=λ vs H Q _=>∃(s t:Mi)(b:Int)(ks:Mo Kd)(p:Int×Int),vs=[.ref s,.ref t]/\ShopAt C H s b ks/\ks.length<=8/\H t= ~~~[.int p.1,.int p.2]/\∀(H':Hp),Same H H'->Q (.bl (awF ks p)) H'
theorem sccomm:FnScope ["one","other"] ["one","other"] (defScope gr):=%[O,O,O,∅,O,∅|∅]
theorem yn{f:Mi}{fd:F9}(F:Fun K "common" "common" gr f fd)(B:Blt mg):FnOk P w K mg base CX0 1 f fd ["one","other"] (mr):=by
 exists sccomm
 ·obtain⟨t,u,xs,ys,rfl,_⟩:=h
  rfl
 obtain⟨t,u,xs,ys,rfl,ht,hu',e1,l8,q⟩:=h;have nd:=sccomm.nd;refine%[_,((@aT _ _ _ _ _ _ _ _ _ aW O B.tuple M4 ((br (own:=["few","many"]) (cs:=[]) (cap:=[]) O (jB O B.zip ((pv 0)^^^((pv 1)^^^ae))) (az (sc:=defScope gr) (N:=["one","other"]) O O ∅) (λ _ _ _ _ _=>eU K O O (by show List.Nodup (["few","many"]:Mo Str) ;decide +kernel) O O O O) (λ _ _ _ _ _=>aJ) (λ _ _ _ _ _=>(@ap _ _ _ _ _ _ _ _ _ (gQ O) O B.min PyProof.Rows.boot_min ((pv 0)^^^((pv 1)^^^ae)) ∅ ∅ O O)))^^^ae) ∅ ∅ O O)⁻¹)|?_];have l1:(bV xs).length=xs.length:=B4 _;have l2:(bV ys).length=ys.length:=B4 _;have sz:(40000:Nat)<=sizeLine:=∅
 have jl:=bR e1;refine%[_,O,_,O,t,u,_,_,O,ht,hu'|fR (xs:=bV xs) (ys:=bV ys) (λ i us Hx=>Same H Hx/\us=((bd xs ys).take i).map V.int) ⋯ (λ i us Hx ⟨sx,_⟩=>%[sx _ _ ht|sx _ _ hu']) %[Same.refl _|O] (λ i us Hx hi ⟨_,e⟩=>by rw[e,B4,K0];omega) ?_ ?_]
 ·rintro i x y p us Hx hx hy hp ⟨sx,rfl⟩;have hin:i < (bV xs).length:=(A6.mp hx).1;obtain⟨x',hx',rfl⟩:=J7.mp (show Option.map V.int xs[i]?=some x by rw[<- G8];exact hx);obtain⟨y',hy',rfl⟩:=J7.mp (show Option.map V.int ys[i]?=some y by rw[<- G8];exact hy);have ji:=gE hx' hy';have s1:=G2 hp (o:=.tup [.int x',.int y']);refine%[p,_,O,G3 ah,O,_,_,O,_,_,O,O,jX (leS.set rfl) (leS.set rfl)|aK ?_];refine%[_,O,_,O,_,_,O|Nx.of hin %[sx.trans s1|?_]];rw[J8,ji,show(if y' < x' then y' else x')=min x' y' by split <;> omega];simp only[K5,J3,G9,LN]
 ·rintro us Hx ⟨sx,rfl⟩;rw[l1,K2 ⋯];refine%[by rw[B4];omega|λ cl hcl=>?_];refine aH hcl λ H1 k1 s1=>?_;refine%[cl,_,O|.inl %[G4 k1|λ tp htp=>?_]];exact q tp _ ah ((sx.trans s1).trans (G2 htp))
theorem scwithb:FnScope ["bundle","other"] ["bundle","other"] (defScope eW):=%[O,O,O,∅,O,∅|∅]
theorem wr{f:Mi}{fd:F9}(F:Fun K "without" "without" eW f fd)(B:Blt mg):FnOk P w K mg base CX0 1 f fd ["bundle","other"] (jQ):=by
 exists scwithb
 ·obtain⟨t,u,xs,ys,rfl,_⟩:=h
  rfl
 obtain⟨t,u,xs,ys,rfl,ht,hu',e1,l8,q⟩:=h;have nd:=scwithb.nd;refine%[_,((@aT _ _ _ _ _ _ _ _ _ aW O B.tuple M4 ((br (own:=["many","fewer"]) (cs:=[]) (cap:=[]) O (jB O B.zip ((pv 0)^^^((pv 1)^^^ae))) (az (sc:=defScope eW) (N:=["bundle","other"]) O O ∅) (λ _ _ _ _ _=>eU K O O (by show List.Nodup (["many","fewer"]:Mo Str) ;decide +kernel) O O O O) (λ _ _ _ _ _=>aJ) (λ _ _ _ _ _=>(@ap _ _ _ _ _ _ _ _ _ (ko O) O B.max PyProof.Rows.boot_max (ag^^^(((pv 0)|||dv|||(pv 1))^^^ae)) ∅ ∅ O O)))^^^ae) ∅ ∅ O O)⁻¹)|?_];have l1:(bV xs).length=xs.length:=B4 _;have l2:(bV ys).length=ys.length:=B4 _;have sz:(40000:Nat)<=sizeLine:=∅
 have jl:=bS e1;refine%[_,O,_,O,t,u,_,_,O,ht,hu'|fR (xs:=bV xs) (ys:=bV ys) (λ i us Hx=>Same H Hx/\us=((be xs ys).take i).map V.int) ⋯ (λ i us Hx ⟨sx,_⟩=>%[sx _ _ ht|sx _ _ hu']) %[Same.refl _|O] (λ i us Hx hi ⟨_,e⟩=>by rw[e,B4,K0];omega) ?_ ?_]
 ·rintro i x y p us Hx hx hy hp ⟨sx,rfl⟩;have hin:i < (bV xs).length:=(A6.mp hx).1;obtain⟨x',hx',rfl⟩:=J7.mp (show Option.map V.int xs[i]?=some x by rw[<- G8];exact hx);obtain⟨y',hy',rfl⟩:=J7.mp (show Option.map V.int ys[i]?=some y by rw[<- G8];exact hy);have ji:=gG hx' hy';have s1:=G2 hp (o:=.tup [.int x',.int y']);refine%[p,_,O,G3 ah,O,_,_,O,_,_,O,O,jX (leS.set rfl) (leS.set rfl)|aK ?_];refine%[_,O,_,O,_,_,O,O,_,_,O|Nx.of hin %[sx.trans s1|?_]];rw[J8,ji,show(if 0 < x' - y' then x' - y' else 0)=max 0 (x' - y')by split <;> omega];simp only[K5,J3,G9,LN]
 ·rintro us Hx ⟨sx,rfl⟩;rw[l1,K2 ⋯];refine%[by rw[B4];omega|λ cl hcl=>?_];refine aH hcl λ H1 k1 s1=>?_;refine%[cl,_,O|.inl %[G4 k1|λ tp htp=>?_]];exact q tp _ ah ((sx.trans s1).trans (G2 htp))
theorem scawf:FnScope ["shop","plate","fitting"] ["shop","plate"] (defScope bw):=%[O,O,O,∅,O,∅|∅]
theorem Ao{f:Mi}{fd:F9}(F:Fun K "all_wanted_fit" "all_wanted_fit" bw f fd){C:Mi}(B:Blt mg)(T:ShopTxt K C)(MW:Mn P w K mg base C "wanted" ["self"] 1 (cS C))(DLI:Dn P w K mg base "lyings_in" ["shop","part"] 5 ((spLyIn C))):FnOk P w K mg base CX0 6 f fd ["shop","plate"] (zh C):=by
 exists scawf
 ·obtain⟨s,t,b,ks,p,rfl,_⟩:=h
  rfl
 obtain⟨s,t,b,ks,p,rfl,S0,k8,ht,q⟩:=h;have nd:=scawf.nd;refine%[_,((@aA _ _ 2 _ _ _ _ nd O (Or.inr O) (br (own:=["kind","turned"]) (cs:=[]) (cap:=[]) O (bE (DLI∪((pv 0)^^^((pv 1)^^^ae)))) (az (sc:=defScope bw) (N:=["shop","plate","fitting"]) O O ∅) (λ _ _ _ _ _=>eU K O O (by show List.Nodup (["kind","turned"]:Mo Str) ;decide +kernel) O O O O) (λ _ _ _ _ _=>aJ) (λ _ _ _ _ _=>(pv 0))) O (Or.inl O))<<<((@ap _ _ _ _ _ _ _ _ _ (gU O) O B.all PyProof.Rows.boot_all ((br (own:=["kind","many"]) (cs:=["fitting"]) (cap:=[2]) O (qS O B.enumerate ((cF (pv 0) T.cl MW (hr.mono ∅))^^^ae)) (az (sc:=defScope bw) (N:=["shop","plate","fitting"]) O O ∅) (λ _ _ _ _ _=>eU K O O (by show List.Nodup (["kind","many","fitting"]:Mo Str) ;decide +kernel) O O O O) (λ _ _ _ _ _=>aJ) (λ _ _ _ _ _=>(yU (@bF _ _ _ _ _ _ _ _ cx (pv 1) ag (ay _)) (fB (@bF _ _ _ _ _ _ _ _ (pj K O) (pv 0) (pv 2) O)))))^^^ae) ∅ ∅ O O)⁻¹))|?_];have z4:4096<=sizeLine:=∅
 obtain⟨dx,r0,rs0,g1,g2,g3⟩:=id S0;have wl:(wsK ks).length=ks.length:=B4 _;refine ao (λ R=>∀(fl:Mi)(H':Hp),H' fl=↥((iM ks p).map λ i:Nat=>V.int i)->Same H H'->R [↑s,↑t,↑fl] H') (λ Dd hR=>?_) ?_
 ·refine%[_,O,_,O,s,t,b,ks,p.1,p.2,O,S0,k8,ht|λ ll ys H1 _ hll pys s1=>?_];obtain⟨ly,ely⟩:∃ly,ly=(lyK ks 0).filter (gv ks p.1 p.2):=%[_|O]
  rw[<- ely]at pys;have yl:=E3 pys;have l16:ly.length<=16:=by
   have h1:=MH (gv ks p.1 p.2) (lyK ks 0);have h2:∀(ks:Mo Kd)(i:Nat),(lyK ks i).length<=2 * ks.length:=λ ks=>by
    induction ks with
    | nil=>intro i;exact B3 _
    | cons k r ih=>
     intro i;have:=ih (i+1);have h3:(lyT i k).length<=2:=by unfold lyT;split <;> simp
     rw[lyK,J5,J4];omega
   have:=h2 ks 0;rw[<- ely]at h1;omega
  refine%[ll,O,%[_|G4 hll]|(bI (K:=K) (.inl hll) (λ i us Hx=>H1=Hx/\us=((ly.take i).map (·.1)).map λ i:Nat=>V.int i) (λ i us Hx _ ⟨e,_⟩ o h=>e ▸ h) %[O|O] ?_ ?_).1 hll]
  ·rintro i x us _ hi ⟨rfl,rfl⟩;have hin:=(A6.mp hi).1;obtain⟨c,hc,ta,rfl,hta⟩:=G6 pys hi;refine%[by rw[B4,B4,K0];omega,ta,_,O,G3 hta,O,_,_,O,_,_,O,O,jX (leS.set rfl) (leS.set rfl)|aK %[_,O|Nx.of hin %[O|?_]]];rw[J8,hc,K5,J3,J3]
   rfl
  ·rintro us _ ⟨rfl,rfl⟩;rw[yl,LL];refine%[by rw[B4,B4];omega|λ fl hfl=>?_];refine aH hfl λ H2 k2 s2=>?_;refine hR fl _ ?_ (s1.trans s2);unfold iM;rw[<- ely];exact k2
 rintro fl H1 hfl s1;refine%[_,O,s,dx,_,O,s1 _ _ g1,bi _ _ ∅ ∅,s,b,ks,O,S0.keep (λ _ _ e=>s1 _ _ e) (λ _ _ _ _ e=>s1 _ _ e),k8|λ wt H2 _ hwt s2=>?_];have wvl:(ks.map λ k=>V.int k.wa).length=ks.length:=B4 _;refine%[wt,_,O|.inr %[hwt|sM (f:=HO.tup) (λ _ _ e=>by injection e) (λ j zs Hx=>Same H2 Hx/\zs=(awf ks p j).map V.bl) (λ j zs Hx ⟨sx,_⟩=>sx _ _ hwt) %[Same.refl _|O] ?_ ?_ ?_]]
 ·rintro j zs Hx hj ⟨_,rfl⟩;unfold awf;rw[B4,B4,LY];omega
 ·rintro j x pp zs Hx hj hpp ⟨sx,rfl⟩;have hjn:=(A6.mp hj).1;rw[G8]at hj;obtain⟨k,hk,rfl⟩:=J7.mp hj;have wk:waA ks j=k.wa:=by unfold waA;rw[hk];rfl
  refine aH hpp λ H3 k3 s3=>?_;have aw:awf ks p (j+1)=awf ks p j ++ [decide (k.wa=0) || decide (j∈iM ks p)]:=by unfold awf;rw[Mg,J3];simp only[G9,LN,wk]
  have nx:∀v:Bool,(decide (k.wa=0) || decide (j∈iM ks p))=v->Nx (ks.map λ k=>V.int k.wa).length (λ j zs Hx=>Same H2 Hx/\zs=(awf ks p j).map V.bl) j ((awf ks p j).map V.bl ++ [.bl v]) H3:=λ v hv=>Nx.of hjn %[sx.trans s3|by rw[aw,J3,<- hv];rfl];refine%[pp,_,O,G3 k3,O,_,_,O,_,_,O,O,jX (leS.set rfl) (leS.set rfl)|aK ?_];refine%[_,O,O,_,O|?_]
  by_cases c:k.wa=0
  ·rw[show decide (V.int k.wa=V.int 0)=true from Mx (by rw[c])];exact bM (nx true (by rw[Mx c];rfl))
  ·rw[show decide (V.int k.wa=V.int 0)=false from M0 (λ z=>c (by injection z))];refine aZ %[_,rfl,_,rfl,fl,_,rfl,.inl (G4 (s3 _ _ (sx _ _ (s2 _ _ hfl)))),rfl,?_|?_]
   ·rw[List.all_map];exact MT.mpr λ _ _=>rfl
   ·have:inV (V.int (j:Int)) ((iM ks p).map λ i:Nat=>V.int i)=decide (j∈iM ks p):=by
     unfold inV;rw[List.any_map,MN,List.any_eq_true,NR];constructor
     ·rintro⟨i,hi,e⟩;have e:(V.int (i:Int)=V.int (j:Int)):=by simpa[eqV]using e
      injection e with e
      have:i=j:=⋯
      rw[<- this];exact hi
     ·intro h;exact%[j,h|by simp[eqV]]
    rw[Mu B2,this];exact nx _ (by rw[M0 c];rfl)
 ·rintro zs Hx ⟨sx,rfl⟩;rw[wvl];refine%[by unfold awf;rw[B4,B4,LY];omega|λ pl hpl=>%[pl,_,O,G4 ah|?_]];exact q _ ((s1.trans s2).trans (sx.trans (G2 hpl)))
def LtA(H:Hp)(v:V)(lot:Mo (Mo Int)):Prop:=∃l as,v=.ref l/\H l=↥(as.map V.ref)/\BsA H as lot
def LtR(H:Hp)(kv:Mo Key×V)(r:Mo Int×Mo (Mo Int)):Prop:=kv.1=bK r.1/\LtA H kv.2 r.2
abbrev LtsA(H:Hp)(kvs:Mo (Mo Key×V))(rs:cV):Prop:=Paired (LtR H) kvs rs
def Kp(H H':Hp):Prop:=Tps H H'/\∀a xs,H a=↥xs->H' a=↥xs
theorem eC{H H':Hp}(s:Same H H'):Kp H H':=%[Same.tps s|λ _ _ e=>s _ _ e]
theorem wu{F:Mi->Prop}{st:Mi}{H H':Hp}(s:Sg F st H H'):Kp H H':=%[s.tps|λ _ _ e=>s.lst e]
theorem zi{F:Mi->Prop}{H H':Hp}(s:Sf F H H'):Kp H H':=%[s.tps|λ _ _ e=>s.lst e]
theorem Kp.trans{H H1 H2:Hp}(a:Kp H H1)(b:Kp H1 H2):Kp H H2:=%[λ _ _ e=>b.1 _ _ (a.1 _ _ e)|λ _ _ e=>b.2 _ _ (a.2 _ _ e)]
theorem LtA.keep{H H':Hp}(s:Kp H H'){v:V}{lot:Mo (Mo Int)}:LtA H v lot->LtA H' v lot
 | ⟨l,as,e,h1,h2⟩=>%[l,as,e,s.2 _ _ h1|h2.keep s.1]
theorem LtsA.keep{H H':Hp}(s:Kp H H'){kvs:Mo (Mo Key×V)}{rs:cV}(h:LtsA H kvs rs):LtsA H' kvs rs:=G5 h λ _ _ x=>%[x.1|x.2.keep s]
theorem LtsA.val{H:Hp}{kvs:Mo (Mo Key×V)}{rs:cV}(h:LtsA H kvs rs)(c:Mo Int):(c∈rs.map (·.1)->∃v,cG kvs (bK c)=some v/\LtA H v (mj rs c))/\(c∉rs.map (·.1)->cG kvs (bK c)=none):=by
 induction h with
 | nil=>exact⟨(λ m=>by cases m),λ _=>rfl⟩
 | @cons kv r kvs rs a _ ih=>
  by_cases e:r.1=c
  ·refine%[λ _=>%[kv.2,dG (by rw[a.1,e])|?_]|λ z=>absurd (G7.mpr (.inl e.symm)) z];unfold mj;rw[MD (by simpa using e)];exact a.2
  ·refine%[λ m=>?_|λ z=>?_]
   ·obtain⟨v,h1,h2⟩:=ih.1 ((G7.mp m).resolve_left λ z=>e z.symm);refine%[v,by rw[cz (λ z=>e (hZ (a.1.symm.trans z)))];exact h1|?_];unfold mj;rw[MX (by simpa using e)];exact h2
   ·rw[cz (λ w=>e (hZ (a.1.symm.trans w)))];exact ih.2 λ w=>z (B5 _ w)
def LgI(ng:Mi)(ws:Mo Int)(H:Hp)(rs:cV):Prop:=∃kvs,H ng=some (.dT kvs)/\LtsA H kvs rs/\(rs.map (·.1)).Nodup/\∀x∈rs.map (·.1),InB ws x
theorem LgI.keep{F:Mi->Prop}{ng:Mi}{ws:Mo Int}{H H':Hp}{rs:cV}(s:Same H H'):LgI ng ws H rs->LgI ng ws H' rs
 | ⟨kvs,h1,h2,h3,h4⟩=>%[kvs,s _ _ h1,h2.keep (eC s),h3|h4]
theorem ww{F:Mi->Prop}{ng ka:Mi}{ws:Mo Int}{H:Hp}{rs:cV}{c:Mo Int}{lot:Mo (Mo Int)}{v:V}{Q:VK}(h0:∀x∈ws,0<=x)(w6:ws.sum<=5)(hI:LgI ng ws H rs)(hk:H ka= ~~~(bV c))(ic:InB ws c)(ha:LtA H v lot)
  (hq:∀v' H',LgI ng ws H' (gH rs (c,lot))->Sg F ng H H'->Q v' H'):vH (.ref ng) [.ref ka,v] H Q:=by
 obtain⟨kvs,h1,h2,h3,h4⟩:=hI;have z4:4096<=sizeLine:=∅
 have l1:=InB.few h0 w6 h3 h4;rw[B4]at l1;have l2:=E3 h2;have i2:∀x∈(gH rs (c,lot)).map (·.1),InB ws x:=λ x hx=>(putL_keys.mp hx).elim (h4 x) λ e=>e ▸ ic;refine%[ng,ka,v,kvs,bK c,O,O,h1,by rw[cI];exact hk,⋯,λ v' hv'=>hq _ _ %[kvs,h1,?_,fW h3|i2] (Sg.refl _)|λ hn=>?_]
 ·unfold gH;rw[Mw (Classical.byContradiction λ z=>by rw[(h2.val c).2 z]at hv';cases hv')];exact h2
 ·have nn:c∉rs.map (·.1):=λ z=>by obtain⟨v',e,_⟩:=(h2.val c).1 z;rw[hn]at e;cases e
  refine hq _ _ %[_,ah,?_,fW h3|i2] (Sg.put h1);rw[mX v hn];unfold gH;rw[Mu nn];have kp:Kp H (upd H ng (.dT (kvs ++ [(bK c,v)]))):=wu (F:=F) (Sg.put h1);exact Paired.app (h2.keep kp) (.cons %[O|ha.keep kp] .nil)
def wx:Sp:=λ vs H Q _=>∃(bl wt:Mi)(as:Mo Mi)(bs:Mo (Mo Int))(ws:Mo Int)(Kn:Nat),vs=[.ref bl,.ref wt]/\H bl=↥(as.map V.ref)/\BsA H as bs/\bs.length<=32/\(∀c∈bs,c.length=ws.length/\NnB c)/\H wt= ~~~(bV ws)/\ws.length<=8/\(∀x∈ws,0<=x)/\ws.sum<=5/\Kn<=6/\hit bs ws Kn=true/\(∀k,k < Kn->hit bs ws k=false) /\
 ∀(l:Mi)(as':Mo Mi)(H':Hp),H' l=↥(as'.map V.ref)->BsA H' as' (mj (lev bs ws Kn) (aR ws.length))->Same H H'->Q (.ref l) H'
theorem scfewb:FnScope ["bundles","wanted","nought","lots","longer","missing","lot","bundle"] ["bundles","wanted"] (defScope bD):=%[O,O,O,∅,O,∅|∅]
theorem yo{f:Mi}{fd:F9}(F:Fun K "fewest_bundles" "fewest_bundles" bD f fd)(B:Blt mg)(DWI:Dn P w K mg base "without" ["bundle","other"] 1 (jQ)):FnOk P w K mg base CX0 2 f fd ["bundles","wanted"] (wx):=by
 exists scfewb
 ·obtain⟨bl,wt,as,bs,ws,Kn,rfl,_⟩:=h
  rfl
 obtain⟨bl,wt,as,bs,ws,Kn,rfl,hbl,ba,b64,bok,hwt,w8,h0,w6,kn6,hk,hk0,q⟩:=h;have nd:=scfewb.nd;have hu:=hr.units;have hu1:=C8 (LW (show 1<=64 by decide) _) hu;refine%[_,((2∣(@aT _ _ _ _ _ _ _ _ _ aW O B.tuple M4 ((br (own:=["many"]) (cs:=[]) (cap:=[]) O (lg (pv 1)) (az (sc:=defScope bD) (N:=["bundles","wanted","nought","lots","longer","missing","lot","bundle"]) O O ∅) (λ _ _ _ _ _=>am (i:=0) (by show List.Nodup (["many"]:Mo Str) ;decide +kernel) O (Or.inl O) (Or.inr O)) (λ _ _ _ _ _=>aJ) (λ _ _ _ _ _=>ag))^^^ae) ∅ ∅ O O))<<<((3∣(kP (Nat.lt_of_succ_lt hu1) (pv 1) (@aX _ _ _ _ ae)))<<<((uC E4 (zw (sC hu1 (pv 2) (pv 3))) ((4∣nh)<<<((@bU _ _ _ _ _ _ _ _ E4 O (nr (pv 3)) (bL O (5•(6•bn))) (@ai _ _ _ (@bU _ _ _ _ _ _ _ _ E4 O (bE (pv 0)) (am (i:=7) nd O (Or.inl O)) (@ai _ _ _ (@bq _ _ _ _ (@iZ _ _ _ _ _ _ _ _ _ _ _ _ PySem.F.plainAttrs_dict NV PySem.F.type_dict_setdefault (fQ hu1) (pv 4) ((DWI∪((pv 5)^^^((pv 7)^^^ae)))^^^(((pv 6)|||eO|||(@aX _ _ _ _ ((pv 7)^^^ae)))^^^ae)) O O O O O) O)) (by intro _;rfl))) (by intro _;rfl))>>>(3∣(pv 4)))))<<<((cZ hu1 (pv 3) (pv 2) (λ _ _=>O))⁻¹))))|?_];have z4:100000<=sizeLine:=∅
 have al:=E3 ba;have wvl:(bV ws).length=ws.length:=B4 _;refine ao (λ R=>∀(nt:Mi)(H':Hp),H' nt= ~~~(bV (aR ws.length))->Same H H'->R [↑bl,↑wt,↑nt,none,none,none,none,none] H') (λ Dd hR=>?_) ?_
 ·refine%[_,O,wt,O,%[_|G3 hwt]|(bI (K:=K) (.inr hwt) (λ i us Hx=>H=Hx/\us=bV (aR i)) (λ i us Hx _ ⟨e,_⟩ o h=>e ▸ h) %[O|O] ?_ ?_).2 hwt]
  ·rintro i x us _ hi ⟨rfl,rfl⟩;have hin:=(A6.mp hi).1;refine%[by rw[wvl]at hin;rw[bV,aR,B4,K4];omega,leS.set rfl|aK (show Nx (bV ws).length (λ i us Hx=>H=Hx/\us=bV (aR i)) i (bV (aR i) ++ [V.int 0]) H from Nx.of hin %[O|?_])];rw[aR,aR,bV,bV,List.replicate_succ',J3];rfl
  ·rintro us _ ⟨rfl,rfl⟩;rw[wvl];refine%[by rw[bV,aR,B4,K4];omega|λ cl hcl=>?_];refine aH hcl λ H1 k1 s1=>?_;refine%[cl,_,O|.inl %[G4 k1|λ nt hnt=>?_]];refine aH hnt λ H2 k2 s2=>?_;exact hR nt _ k2 (s1.trans s2)
 rintro nt H1 hnt s1;have hbl1:=s1 _ _ hbl;have ba1:BsA H1 as bs:=ba.keep (Same.tps s1);refine ao (λ R=>∀(la:Mi)(kvs:Mo (Mo Key×V))(H':Hp),H1 la=none->H' la=some (.dT kvs)->LtsA H' kvs (lev bs ws 0)->Same H1 H'->R [↑bl,↑wt,↑nt,↑la,none,none,none,none] H') (λ Dd hR=>?_) ?_
 ·intro la hla;refine aH hla λ H2 k2 s2=>?_;refine%[_,O,zS0|λ el hel=>?_];refine aH hel λ H3 k3 s3=>?_;have hw3:H3 wt= ~~~((bK ws).map kV):=by rw[cI];exact s3 _ _ (s2 _ _ (s1 _ _ hwt))
  have h3:H3 la=some (.dT []):=s3 _ _ k2;refine%[h3,wt,bK ws,O,hw3|hR la _ _ hla ah (.cons %[O,el,[],O,?_|.nil] .nil) (λ c o e=>?_)]
  ·rw[aj (λ z=>by rw[z,h3]at k3;cases k3)];exact k3
  ·rw[aj (ak e hla)];exact s3 _ _ (s2 _ _ e)
 rintro la kvs H2 hla h2 lt2 s2;have h0':∀x∈ws,0<=x:=h0;refine bH (λ σ' H'=>∃(la:Mi)(kvs:Mo (Mo Key×V))(v4 v5 v6 v7:Ml V),σ'=[↑bl,↑wt,↑nt,↑la,v4,v5,v6,v7]/\H' la=some (.dT kvs)/\LtsA H' kvs (lev bs ws Kn)/\Same H1 H') (λ R hR=>?_) ?_
 ·refine%[λ mm σ' H'=>∃k,k<=Kn/\mm=Kn - k/\∃(la:Mi)(kvs:Mo (Mo Key×V))(v4 v5 v6 v7:Ml V),σ'=[↑bl,↑wt,↑nt,↑la,v4,v5,v6,v7]/\H1 la=none/\H' la=some (.dT kvs)/\LtsA H' kvs (lev bs ws k)/\Same H1 H',%[_,0,E8 _,O,la,kvs,none,none,none,none,O,hla,h2,lt2|s2]|?_];rintro mm σ Hx ⟨k,kK,rfl,la,kvs,v4,v5,v6,v7,rfl,hla,hlx,ltx,sx⟩;have hntx:Hx nt= ~~~((bK (aR ws.length)).map kV):=by rw[cI];exact sx _ _ hnt
  refine%[_,O,_,O,la,_,O,DGet.t (k:=bK (aR ws.length)) hlx hntx,_,O|?_]
  by_cases ck:k=Kn
  ·subst ck;have zm:aR ws.length∈(lev bs ws k).map (·.1):=C1 hk;obtain⟨v,hv,_⟩:=(ltx.val _).1 zm;rw[hv];exact aZ (hR _ _ %[la,kvs,v4,v5,v6,v7,rfl,hlx,ltx|sx])
  have kl:k < Kn:=⋯
  have zn:aR ws.length∉(lev bs ws k).map (·.1):=of_decide_eq_false (hk0 k kl);rw[(ltx.val _).2 zn];refine bM %[λ σ' H'=>∃(la:Mi)(kvs:Mo (Mo Key×V))(v4 v5 v6 v7:Ml V),σ'=[↑bl,↑wt,↑nt,↑la,v4,v5,v6,v7]/\H1 la=none/\H' la=some (.dT kvs)/\LtsA H' kvs (lev bs ws (k+1))/\Same H1 H',λ σ' H' h=>%[Kn - (k+1),⋯,k+1,kl,rfl|h]|?_];refine ao (λ R=>∀(ng:Mi)(H':Hp),Hx ng=none->H' ng=some (.dT [])->Same Hx H'->R [↑bl,↑wt,↑nt,↑la,↑ng,v5,v6,v7] H') (λ Dd hR=>?_) ?_
  ·intro ng hng;refine aH hng λ H3 k3 s3=>?_;exact hR ng _ hng k3 s3
  rintro ng H3 hng h3 s3;have nln:la≠ng:=ak hlx hng;have lok:=ii h0 bok k;have lnd:=tP bs ws k;have kvl:=E3 ltx;have l64:(lev bs ws k).length<=32:=by have:=InB.few h0 w6 lnd (λ x hx=>by obtain⟨r,hr,rfl⟩:=J0.mp hx;exact(lok r hr).1);rw[B4]at this;exact this
  refine ao (λ R=>∀(v5 v6 v7:Ml V)(H':Hp),LgI ng ws H' (lev bs ws (k+1))->Sg (· = la) ng H3 H'->R [↑bl,↑wt,↑nt,↑la,↑ng,v5,v6,v7] H') (λ Dd hR=>?_) ?_
  ·refine%[_,O,la,kvs,O,s3 _ _ hlx|λ ob=>?_];have hf:(upd H3 la (.frz ob (.dT kvs))) la=some (.frz ob (.dT kvs)):=ah;have sf0:Sf (· = la) H3 (upd H3 la (.frz ob (.dT kvs))):=λ c o e=>by
    by_cases z:c=la
    ·subst z;rw[s3 _ _ hlx]at e;cases e;exact .inr %[O,ob,_,O|ah]
    ·rw[aj z];exact .inl e
   generalize upd H3 la (.frz ob (.dT kvs))=H4 at hf sf0 ⊢;have lt4:LtsA H4 kvs (lev bs ws k):=(ltx.keep (eC s3)).keep (zi sf0);have k14:Kp H1 H4:=((eC sx).trans (eC s3)).trans (zi sf0);refine sS (λ i σ' H'=>∃v5 v6 v7:Ml V,σ'=[↑bl,↑wt,↑nt,↑la,↑ng,v5,v6,v7]/\LgI ng ws H' (fV [] (((lev bs ws k).take i).flatMap (pi bs)))/\Sg (· = la) ng H4 H') ⟨v5,v6,v7,rfl,%[[],sf0.not (λ z:ng=la=>nln z.symm) h3,.nil,by simp[fV]|(λ x hx=>by cases hx)],Sg.refl _⟩ (λ i σ Hy _ ⟨_,_,_,_,_,sy⟩=>sy.frz hf) ?_ ?_
   ·rintro i kk v pa qa σ Hy hi hpa hqa ⟨v5,v6,v7,rfl,iy,sy⟩;obtain⟨r,hr,hk1,l,las,e,hl,bl1⟩:=G6 lt4 hi;have e:v=.ref l:=e;subst e;have hkk:kk=bK r.1:=hk1;obtain⟨ir,rlen,rmem,_⟩:=lok r (B6 hr);rw[hkk,cI]at hqa;refine aH hpa λ H5 k5 s5=>?_;have k45:Kp H4 H5:=(wu sy).trans (eC s5);have tk:((lev bs ws k).take (i+1)).flatMap (pi bs)=((lev bs ws k).take i).flatMap (pi bs) ++ pi bs r:=by rw[J8,hr,K5,MR,LZ,List.flatMap_nil,K6]
    obtain⟨R1,eR1⟩:∃R1,R1=fV [] (((lev bs ws k).take i).flatMap (pi bs)):=%[_|O]
    rw[<- eR1]at iy;refine%[pa,_,O,G3 k5,O,_,_,O,_,_,O,O|?_];have hbl5:H5 bl=↥(as.map V.ref):=(k14.trans k45).2 _ _ hbl1;refine%[_,O,bl,O,%[_|G4 hbl5]|dD (xs:=as.map V.ref) (λ j σ' H'=>∃v7:Ml V,σ'=[↑bl,↑wt,↑nt,↑la,↑ng,↑qa,↑l,v7]/\LgI ng ws H' (fV R1 ((bs.take j).map λ c=>(be r.1 c,r.2 ++ [c])))/\Sg (· = la) ng H5 H') %[v7,O,by rw[List.take_zero];exact LgI.keep (F:=λ _=>False) s5 iy|Sg.refl _] (λ j σ Hz _ ⟨_,_,_,sz⟩=>G4 (sz.lst hbl5)) ?_ ?_]
    ·rintro j x σ Hz hj ⟨v7,rfl,iz,sz⟩;rw[G8]at hj;obtain⟨ca,hca,rfl⟩:=J7.mp hj;obtain⟨c,hc,hcc⟩:=G6 ba1 hca;obtain⟨c1,c2⟩:=bok c (B6 hc);have kz:Kp H4 Hz:=k45.trans (wu sz);have hcz:Hz ca= ~~~(bV c):=(k14.trans kz).1 _ _ hcc;have hqz:Hz qa= ~~~(bV r.1):=sz.tps _ _ (s5 _ _ hqa);have el:r.1.length=c.length:=by rw[ir.1,c1]
     refine%[_,O,.inr (.inr (.inl %[O|.inr (let ⟨kv,h,_⟩:=iz;%[kv|h])])),_,O,_,O,qa,ca,r.1,c,O,hqz,hcz,el,by rw[ir.1];exact w8|λ ka H6 hka s6=>?_];refine%[_,O,_,O,zS1|λ nl hnl=>?_];refine aH hnl λ H7 k7 s7=>?_;have k47:Kp H4 H7:=kz.trans (eC (s6.trans s7));have lal:=E3 bl1;refine%[l,nl,_,_,O,O,k47.2 _ _ hl,k7,by rw[B4,lal,rlen];simp;omega|λ ol hol=>?_];rw[show las.map V.ref ++ [V.ref ca]=(las ++ [ca]).map V.ref by rw[J3];rfl];refine aH hol λ H8 k8 s8=>?_;have sz8:Same Hz H8:=(s6.trans s7).trans s8;have iw:InB ws (be r.1 c):=by have:=ii h0 bok (k+1) (be r.1 c,mj (lev bs ws (k+1)) (be r.1 c)) (nP (lev_next.mpr %[r.1,J0.mpr %[r,B6 hr|O],c,B6 hc|O]));exact this.1
     refine ww (F:=(· = la)) (lot:=r.2 ++ [c]) h0 w6 (LgI.keep (F:=λ _=>False) sz8 iz) (s8 _ _ (s7 _ _ hka)) iw %[ol,las ++ [ca],rfl,k8|Paired.app (bl1.keep (k47.trans (eC s8)).1) (.cons (sz8 _ _ hcz) .nil)] λ v' H9 i9 s9=>%[_,O,?_|(sz.trans (Same.sg sz8)).trans s9]
     rw[J8,hc,K5,J3,nN];exact i9
    ·rintro σ Hz ⟨v7,rfl,iz,sz⟩;refine%[_,_,_,O,?_|(sy.trans (Same.sg s5)).trans sz];rw[tk,nN,<- eR1];rw[B4,al,LL]at iz;exact iz
   ·rintro σ Hy ⟨v5,v6,v7,rfl,iy,sy⟩;rw[kvl,LL]at iy;exact hR v5 v6 v7 _ iy (sf0.sg.trans sy)
  rintro v5 v6 v7 H4 ⟨kv4,g1,g2,_⟩ s4;refine%[_,O,ng,kv4,_,_,_,_,O,sx.free hng,g1,g2|λ c o e=>?_];have ne1:c≠ng:=ak (sx _ _ e) hng;have ne2:¬ c=la:=λ z=>by rw[z,hla]at e;cases e
  exact s4.not ne1 ne2 (s3 _ _ (sx _ _ e))
 rintro _ H3 ⟨la,kvs,v4,v5,v6,v7,rfl,h3,lt3,s3⟩;have zm:aR ws.length∈(lev bs ws Kn).map (·.1):=C1 hk;obtain⟨v,hv,l,as',rfl,hl,ba'⟩:=(lt3.val _).1 zm;have hnt3:H3 nt= ~~~((bK (aR ws.length)).map kV):=by rw[cI];exact s3 _ _ hnt
 exact%[_,O,_,O,la,.ref l,O,hv ▸ DGet.t (k:=bK (aR ws.length)) h3 hnt3|q l as' H3 hl ba' (s1.trans s3)]
theorem zero_le{n:Nat}{c:Mo Int}(l:c.length=n)(nn:NnB c)(h:leB c (aR n)=true):c.sum=0:=by
 have h1:=(lZ (by rw[l];unfold aR;rw[K4]) h).1;have h2:=hV nn;have h3:(aR n).sum=0:=by
  unfold aR;clear h h1 l
  induction n with
  | zero=>rfl
  | succ n ih=>rw[List.replicate_succ,K7,ih];rfl
 omega
def FdW(b:Int)(ks:Mo Kd)(fa:Mi)(H:Hp):Prop:=∃(ss:Mo ((Int×Int)×V))(m n:Nat),H fa=some (.dT (byP ss))/\jL b ks fa H ss/\ss.map (·.1)=aL m n/\m<=8/\n<=8
def jR(n:Nat):Sp:=λ vs H Q _=>∃(fa pt gt ct:Mi)(b:Int)(ks:Mo Kd)(ss:Mo ((Int×Int)×V))(m m':Nat)(p:Int×Int)(g c:Mo Int),vs=[.ref fa,.ref pt,.ref gt,.ref ct]/\iH b ks/\H fa=some (.dT (byP ss))/\jL b ks fa H ss/\ss.map (·.1)=aL m m'/\p∈aL m m'/\H pt= ~~~[.int p.1,.int p.2]/\H gt= ~~~(bV g)/\g∈gK b ks p/\H ct= ~~~(bV c)/\c.length=ks.length/\NnB c/\leB c g=true/\msr p < n /\
 ∀v' H',TrV H' (tbF b ks n p g c) v'->Same H H'->Q v' H'
theorem sctbb:FnScope ["found","part","greatest","bundle","step","way","p","first","first_greatest","second","second_greatest","ahead","behind","first_tree"] ["found","part","greatest","bundle"] (defScope bz):=%[O,O,O,∅,O,∅|∅]
theorem Ap{f:Mi}{fd:F9}(F:Fun K "tree_by_bundle" "tree_by_bundle" bz f fd)(n:Nat)(B:Blt mg)(Z:BeC mg)(DCM:Dn P w K mg base "common" ["one","other"] 1 (mr))(DWI:Dn P w K mg base "without" ["bundle","other"] 1 (jQ))(DT:Dn P w K mg base "tree_by_bundle" ["found","part","greatest","bundle"] (2+n) (jR n)):FnOk P w K mg base CX0 (2+(n+1)) f fd ["found","part","greatest","bundle"] (jR (n+1)):=by
 exists sctbb
 ·obtain⟨fa,pt,gt,ct,b,ks,ss,m,m2,p,g,c,rfl,_⟩:=h
  rfl
 obtain⟨fa,pt,gt,ct,b,ks,ss,m,m2,p,g,c,rfl,⟨b0,k1,k8,kw,w6⟩,hfa,fok,el,pm,hpt,hgt,gm,hct,cl,cn,cg,hn,q⟩:=h;have nd:=sctbb.nd;have hu:=hr.units;have hu1:=C8 (LW (show 1<=64 by decide) _) hu;obtain⟨trs,hrs⟩:=Z.rs;obtain⟨tpc,hpc⟩:=Z.pc;refine%[_,((((@ap _ _ _ _ _ _ _ _ _ (hJ O) O B.sum PyProof.Rows.boot_sum ((pv 3)^^^ae) ∅ ∅ O O)<*>cx<*>ag)<|>((@aP _ _ _ _ _ ((aI (v:=.str "rest") O hrs %[trs|O])^^^ae))⁻¹)<|>av)<<<((4∣(cZ hu1 (cZ hu1 (pv 0) (pv 1) (λ _ _=>O)) (pv 2) (λ _ _=>O)))<<<(((((pv 4)&&&bY&&&ag)<*>cx<*>(aI (v:=.str "piece") O hpc %[tpc|O]))<|>((pv 4)⁻¹)<|>av)<<<((@bG _ _ _ _ _ _ (pv 4) (bL O (5•(6•(ar (bL O (7•(8•bn))) (ar (bL O (9•(10•bn))) bn))))) O O O)<<<((11∣(@aq _ _ _ _ _ _ _ _ _ _ DCM (hr.mono (C7 ∅ (Nat.le_add_right 2 n))) O ((pv 3)^^^((pv 8)^^^ae)) ∅ O O))<<<((12∣(@aq _ _ _ _ _ _ _ _ _ _ DWI (hr.mono (C7 ∅ (Nat.le_add_right 2 n))) O ((pv 3)^^^((pv 11)^^^ae)) ∅ O O))<<<((13∣(DT∪((pv 0)^^^((pv 7)^^^((pv 8)^^^((pv 11)^^^ae))))))<<<((@aP _ _ _ _ _ ((pv 5)^^^((pv 6)^^^((pv 13)^^^((DT∪((pv 0)^^^((pv 9)^^^((pv 10)^^^((pv 12)^^^ae)))))^^^ae)))))⁻¹))))))))|?_];obtain⟨⟨p1,p2⟩,p3,p4⟩:=partsL_mem.mp pm;have wl:(wsK ks).length=ks.length:=B4 _;refine iU (λ R=>¬ c.sum=0->R [↑fa,↑pt,↑gt,↑ct,none,none,none,none,none,none,none,none,none,none] H) (λ R hR=>?_) ?_
 ·refine%[_,O,ct,c,O,G3 hct,O,_,O|?_]
  by_cases z:c.sum=0
  ·rw[show decide (V.int c.sum=V.int 0)=true from Mx (by rw[z])];refine bM %[zS1|λ a ha=>q (.ref a) _ ?_ (G2 ha)];unfold tbF;rw[Mw z];exact%[a,O|ah]
  ·rw[show decide (V.int c.sum=V.int 0)=false from M0 (λ e=>z (by injection e))];exact aZ (hR z)
 rintro z;obtain⟨v,hv,hm⟩:=fo (ss:=ss) (by rw[el];exact pm);obtain⟨d,kvs,rfl,nd',rd,rwd⟩:=fok _ _ hm;obtain⟨st,hst,sta⟩:=rwd.get (b:=g) gm;refine ao (λ R=>R [↑fa,↑pt,↑gt,↑ct,some st,none,none,none,none,none,none,none,none,none] H) (λ Dd hR=>?_) ?_
 ·exact%[_,O,_,O,fa,.ref d,O,hv ▸ DGet.t (k:=pk p) hfa hpt,_,O,d,st,O,hst ▸ DGet.r (k:=bK g) rd (by rw[cI];exact hgt)|hR]
 skip
 have rok:=yk b0 p1 p3 gm;have tb:tbF b ks (n+1) p g c=match hW (gB b ks p) g with
   | .rest=>.rest
   | .piece k t=>.piece k.toNat t 0 0
   | .cut dn q f o s u=>.cut dn q (tbF b ks n f o (bd c o)) (tbF b ks n s u (be c (bd c o))):=by
  show(if c.sum=0 then _ else _)=_;rw[Mu z]
  try (cases hW (gB b ks p) g <;> rfl)
 generalize hW (gB b ks p) g=row at sta rok tb;cases row with
 | rest=>
  have rok:g=aR ks.length:=rok;rw[rok]at cg;exact absurd (zero_le cl cn cg) z
 | piece k t=>
  obtain⟨a,rfl,ha⟩:=sta;obtain⟨i,rfl,_⟩:=rok;refine bH (λ σ' H'=>False) (λ R hR=>?_) (λ _ _ z=>z.elim);refine%[_,O,a,_,0,_,O,O,G3 ha,O,O,_,O|?_];rw[Mx rfl];refine bM %[_,rfl|q _ _ ?_ (Same.refl _)];rw[tb];exact%[a,O|ha]
 | cut dn pq f o s2 u=>
  obtain⟨a,x,y,rfl,ha,⟨xa,x1,x2,rfl,hxa,hx1,hx2⟩,⟨ya,y1,y2,rfl,hya,hy1,hy2⟩⟩:=sta;obtain⟨cm,rfl,rfl,om,um,rfl⟩:=rok;obtain⟨⟨a1,a2,a3,a4,_,a6⟩,⟨c1,c2,c3,c4,_,c6⟩⟩:=gz b0 p1 p3 cm;have io:=cU kw om;have iu:=cU kw um;have mp:msr (p.1,p.2)=msr p:=rfl;have co:c.length=o.length:=by rw[io.1,wl,cl]
  refine ao (λ R=>R [↑fa,↑pt,↑gt,↑ct,↑a,none,none,none,none,none,none,none,none,none] H) (λ Dd hR=>?_) ?_
  ·refine%[_,O,a,_,0,_,O,O,G3 ha,O,O,_,O|?_];rw[show decide (wv dn=V.str "piece")=false by cases dn <;> decide +kernel];exact aZ (hR)
  skip
  refine ao (λ R=>R [↑fa,↑pt,↑gt,↑ct,↑a,some (wv dn),⇑pq,↑x1,↑x2,↑y1,↑y2,none,none,none] H) (λ Dd hR=>?_) ?_
  ·exact%[_,O,a,_,O,G3 ha,O,_,_,O,_,_,O,_,_,O,xa,_,O,G3 hxa,O,_,_,O,_,_,O,O,_,_,O,ya,_,O,G3 hya,O,_,_,O,_,_,O,O,O|hR]
  skip
  refine ao (λ R=>∀(aa:Mi)(H':Hp),H' aa= ~~~(bV (bd c o))->Same H H'->R [↑fa,↑pt,↑gt,↑ct,↑a,some (wv dn),⇑pq,↑x1,↑x2,↑y1,↑y2,↑aa,none,none] H') (λ Dd hR=>?_) ?_
  ·exact%[_,O,_,O,ct,x2,c,o,O,hct,hx2,co,⋯|λ aa H1 haa s1=>hR aa _ haa s1]
  rintro aa H1 haa s1;have cwl:c.length=(bd c o).length:=by rw[bR co]
  refine ao (λ R=>∀(ba:Mi)(H':Hp),H' ba= ~~~(bV (be c (bd c o)))->Same H1 H'->R [↑fa,↑pt,↑gt,↑ct,↑a,some (wv dn),⇑pq,↑x1,↑x2,↑y1,↑y2,↑aa,↑ba,none] H') (λ Dd hR=>?_) ?_
  ·exact%[_,O,_,O,ct,aa,c,bd c o,O,s1 _ _ hct,haa,cwl,⋯|λ ba H2 hba s2=>hR ba _ hba s2]
  rintro ba H2 hba s2;have s02:=s1.trans s2;have fok2:∀{Hx:Hp},Same H Hx->jL b ks fa Hx ss:=λ s q v mm=>let ⟨d,kvs,e,nn,rd,rw'⟩:=fok q v mm;%[d,kvs,e,nn,(Same.sf (F:=(· = fa)) s).rd rd|rw'.keep (Same.tps s)]
  refine ao (λ R=>∀(v1:V)(H':Hp),TrV H' (tbF b ks n (cR p.1 p.2 (dn,pq)) o (bd c o)) v1->Same H2 H'->R [↑fa,↑pt,↑gt,↑ct,↑a,some (wv dn),⇑pq,↑x1,↑x2,↑y1,↑y2,↑aa,↑ba,some v1] H') (λ Dd hR=>?_) ?_
  ·exact%[_,O,_,O,_,O,_,O,fa,x1,x2,aa,b,ks,ss,m,m2,cR p.1 p.2 (dn,pq),o,bd c o,O,%[b0,k1,k8,kw|w6],s02 _ _ hfa,fok2 s02,el,partsL_mem.mpr %[%[a1|⋯],a2|⋯],s02 _ _ hx1,s02 _ _ hx2,om,s2 _ _ haa,by rw[bR co];exact cl,nJ co cn io.2.2,nL co,⋯|λ v1 H3 t1 s3=>hR v1 _ t1 s3]
  rintro v1 H3 t1 s3;have s03:=s02.trans s3;refine%[_,O,_,O,_,O,_,O,_,O,_,O,_,O,fa,y1,y2,ba,b,ks,ss,m,m2,cY b p.1 p.2 (dn,pq),u,be c (bd c o),O,%[b0,k1,k8,kw|w6],s03 _ _ hfa,fok2 s03,el,partsL_mem.mpr %[%[c1|⋯],c2|⋯],s03 _ _ hy1,s03 _ _ hy2,um,s3 _ _ hba,by rw[bS cwl];exact cl,jN cwl,wm (by rw[wl];exact cl) (by rw[io.1]) (by rw[iu.1]) cg iu.2.2,⋯|λ v2 H4 t2 s4=>%[zS4|λ ra hra=>q (.ref ra) _ ?_ ((s03.trans s4).trans (G2 hra))]];rw[tb];exact%[ra,v1,v2,O,ah,TrV.keep (λ _ _ e=>G2 hra _ _ (s4 _ _ e)) _ t1|TrV.keep (λ _ _ e=>G2 hra _ _ e) _ t2]
theorem yp{f:Mi}{fd:F9}(F:Fun K "tree_by_bundle" "tree_by_bundle" bz f fd):FnOk P w K mg base CX0 2 f fd ["found","part","greatest","bundle"] (jR 0):=by
 exists sctbb
 ·obtain⟨fa,pt,gt,ct,b,ks,ss,m,m2,p,g,c,rfl,_⟩:=h
  rfl
 ·obtain⟨fa,pt,gt,ct,b,ks,ss,m,m2,p,g,c,_,_,_,_,_,_,_,_,_,_,_,_,_,z,_⟩:=h;exact absurd z (E9 _)
theorem rE{f:Mi}{fd:F9}(F:Fun K "tree_by_bundle" "tree_by_bundle" bz f fd)(B:Blt mg)(Z:BeC mg)(DCM:Dn P w K mg base "common" ["one","other"] 1 (mr))(DWI:Dn P w K mg base "without" ["bundle","other"] 1 (jQ))(mk:∀n,FnOk P w K mg base CX0 (2+n) f fd ["found","part","greatest","bundle"] (jR n)->Dn P w K mg base "tree_by_bundle" ["found","part","greatest","bundle"] (2+n) (jR n)):∀n,FnOk P w K mg base CX0 (2+n) f fd ["found","part","greatest","bundle"] (jR n)
 | 0=>yp F
 | n+1=>Ap F n B Z DCM DWI (mk n (rE F B Z DCM DWI mk n))
def Sl(fl:Mi)(H H':Hp):Prop:=∀b o,H b=some o->H' b=some o\/(b=fl/\∃xs ys,o=.lst xs/\H' b=↥ys)
theorem jS{fl:Mi}{H H':Hp}(s:Same H H'):Sl fl H H':=λ b o e=>.inl (s b o e)
theorem Sl.trans{fl:Mi}{H H1 H2:Hp}(a:Sl fl H H1)(b:Sl fl H1 H2):Sl fl H H2:=λ c o e=>by
 rcases a c o e with h | ⟨rfl,xs,ys,rfl,h⟩
 ·exact b c o h
 ·rcases b c _ h with h | ⟨_,_,zs,_,h⟩
  ·exact .inr %[O,xs,ys,O|h]
  ·exact .inr %[O,xs,zs,O|h]
theorem Sl.tps{fl:Mi}{H H':Hp}(s:Sl fl H H'):Tps H H':=λ b xs e=>(s b _ e).resolve_right λ%[_,_,_,z|_]=>by cases z
theorem Sl.dT{fl:Mi}{H H':Hp}(s:Sl fl H H'){b:Mi}{kvs:Mo (Mo Key×V)}(e:H b=some (.dT kvs)):H' b=some (.dT kvs):=(s b _ e).resolve_right λ%[_,_,_,z|_]=>by cases z
theorem Sl.lst{fl:Mi}{H H':Hp}(s:Sl fl H H'){b:Mi}{o:HO}(n:b≠fl)(e:H b=some o):H' b=some o:=(s b _ e).resolve_right λ%[z|_]=>n z
theorem Sl.same{fl:Mi}{H H':Hp}(s:Sl fl H H')(n:H fl=none):Same H H':=λ b o e=>s.lst (λ z=>by rw[z,n]at e;cases e) e
theorem Sl.rd{fl:Mi}{H H':Hp}(s:Sl fl H H'){b:Mi}{kvs:Mo (Mo Key×V)}(e:Rd H b (.dT kvs)):Rd H' b (.dT kvs):=by
 rcases e with e | ⟨o,e⟩
 ·exact .inl (s.dT e)
 ·exact .inr %[o|(s b _ e).resolve_right λ%[_,_,_,z|_]=>by cases z]
def nQ(bs:Mo (Mo Int))(ws:Mo Int):Nat:=((List.range 7).find? (hit bs ws)).getD 0
def gI(b:Int)(ks:Mo Kd)(p:Int×Int):Mo (Mo Int):=mj (lev (gK b ks p) (wsK ks) (nQ (gK b ks p) (wsK ks))) (aR ks.length)
def eK(b:Int)(ks:Mo Kd)(p:Int×Int):Mo Int->Mo (Mo Int)->Mo Tr
 | _,[]=>[]
 | ms,g :: r=>tbF b ks 17 p g (bd ms g) :: eK b ks p (be ms (bd ms g)) r
def jZ:Mo Int->Mo (Mo Int)->Mo Int
 | ms,[]=>ms
 | ms,g :: r=>jZ (be ms (bd ms g)) r
theorem nR(ms:Mo Int):∀(a b:Mo (Mo Int)),jZ ms (a ++ b)=jZ (jZ ms a) b
 | [],_=>rfl
 | g :: a,b=>nR _ a b
theorem nS(b:Int)(ks:Mo Kd)(p:Int×Int)(ms:Mo Int):∀(a c:Mo (Mo Int)),eK b ks p ms (a ++ c)=eK b ks p ms a ++ eK b ks p (jZ ms a) c
 | [],_=>rfl
 | g :: a,c=>by show _ :: eK b ks p _ (a ++ c)=_ :: _;rw[nS b ks p _ a c];rfl
theorem jT(b:Int)(ks:Mo Kd)(p:Int×Int):∀(ms:Mo Int)(a:Mo (Mo Int)),(eK b ks p ms a).length=a.length
 | _,[]=>rfl
 | _,_ :: a=>by rw[eK,J4,J4,jT b ks p _ a]
theorem awF_iff{ks:Mo Kd}{p:Int×Int}:awF ks p=true↔∀i,i < ks.length->waA ks i=0\/i∈iM ks p:=by
 unfold awF awf;rw[List.all_map,MT];constructor
 ·intro h i hi;have:=h i (LM.mpr hi);simpa using this
 ·intro h i hi;simpa using h i (LM.mp hi)
theorem Aq{b:Int}{ks:Mo Kd}{p:Int×Int}(gd:iH b ks)(p1:1<=p.1)(p2:1<=p.2)(aw:awF ks p=true):nQ (gK b ks p) (wsK ks)<=6/\hit (gK b ks p) (wsK ks) (nQ (gK b ks p) (wsK ks))=true/\∀k,k < nQ (gK b ks p) (wsK ks)->hit (gK b ks p) (wsK ks) k=false:=by
 obtain⟨b0,k1,k8,kw,w6⟩:=gd;have wl:(wsK ks).length=ks.length:=B4 _;have hb:∀c∈gK b ks p,c.length=(wsK ks).length/\NnB c:=λ c hc=>%[(cU kw hc).1|(cU kw hc).2.2]
 obtain⟨j,j1,j2⟩:=ym (bs:=gK b ks p) (ws0 kw) hb (λ i w hw w0=>by
  rw[G8]at hw;obtain⟨k,hk,rfl⟩:=J7.mp hw;have il:i < ks.length:=(A6.mp hk).1;have wk:waA ks i=k.wa:=by unfold waA;rw[hk];rfl
  have fi:i∈iM ks p:=(awF_iff.mp aw i il).resolve_left (by rw[wk];omega);unfold iM at fi;obtain⟨q,hq,rfl⟩:=J0.mp fi;have mm:cC ks.length q.1∈(bA b ks (gB b ks) p).map (·.1):=by unfold bA;refine adds_keys.mpr (.inl (adds_keys.mpr (.inr (J0.mpr %[(cC ks.length q.1,.piece q.1 q.2),LU.mpr %[q,hq|?_]|O]))));unfold lyR;rw[wk,Mw w0];exact E2.mpr rfl
  obtain⟨t,mt,lt⟩:=yj (ws:=wsK ks) (λ y hy=>hX kw (λ c _=>%[λ r hr=>nF kw hr|λ r hr=>nF kw hr]) hy) mm;rw[<- rB b0 p p1 p2]at mt;obtain⟨z,hz⟩:=atB (a:=t) (i:=q.1) (by rw[(cU kw mt).1,wl];exact il);refine%[t,mt,z,hz|?_];have oi:(cC ks.length q.1)[q.1]?=some 1:=by unfold cC;rw[G8,List.getElem?_range il];simp
  exact(cu (by rw[jJ,(cU kw mt).1,wl])).mp lt q.1 1 z oi hz) 6 0 (wsK ks) (E2.mpr rfl) (Me w6 ∅)
 rw[Nat.zero_add]at j2;cases e:(List.range 7).find? (hit (gK b ks p) (wsK ks))with
 | none=>
  have:=List.find?_eq_none.mp e j (LM.mpr ⋯);exact absurd j2 this
 | some K=>
  obtain⟨h1,h2,h3⟩:=List.find?_range_eq_some.mp e;have h2:=LM.mp h2;have ek:nQ (gK b ks p) (wsK ks)=K:=by unfold nQ;rw[e];rfl
  rw[ek];exact%[⋯,h1|λ k hk=>by have:=h3 k hk;simpa using this]
def wy(C:Mi):Sp:=λ vs H Q _=>∃(s:Mi)(b:Int)(ks:Mo Kd)(m n:Nat),vs=[.ref s,.int m,.int n]/\ShopAt C H s b ks/\iH b ks/\1<=m/\m<=8/\1<=n/\n<=8 /\
 (awF ks (m,n)=false->∀H',Same H H'->Q .non H')/\(awF ks (m,n)=true->∀(r tl:Mi)(us:Mo V)(H':Hp),H tl=none->H' r= ~~~[.int (gI b ks (m,n)).length,.ref tl]->H' tl=↥us->Paired (λ v t=>TrV H' t v) us (eK b ks (m,n) (wsK ks) (gI b ks (m,n)))->Same H H'->Q (.ref r) H')
theorem scfewo:FnScope ["shop","wide","high","plate","found","missing","trees","greatest","bundle"] ["shop","wide","high"] (defScope cL):=%[O,O,O,∅,O,∅|∅]
theorem yq{f:Mi}{fd:F9}(F:Fun K "fewest_of" "fewest_of" cL f fd){C:Mi}(B:Blt mg)(T:ShopTxt K C)(MW:Mn P w K mg base C "wanted" ["self"] 1 (cS C))(DCK:Dn P w K mg base "check_small" ["shop","wide","high"] 3 ((vW C)))(DAW:Dn P w K mg base "all_wanted_fit" ["shop","plate"] 6 ((zh C)))(DGS:Dn P w K mg base "greatest_steps" ["shop","wide","high"] 7 ((jM C)))(DFB:Dn P w K mg base "fewest_bundles" ["bundles","wanted"] 2 (wx))(DCM:Dn P w K mg base "common" ["one","other"] 1 (mr))(DWI:Dn P w K mg base "without" ["bundle","other"] 1 (jQ))(DTB:Dn P w K mg base "tree_by_bundle" ["found","part","greatest","bundle"] 19 ((jR 17))):FnOk P w K mg base CX0 20 f fd ["shop","wide","high"] (wy C):=by
 exists scfewo
 ·obtain⟨s,b,ks,m,n,rfl,_⟩:=h
  rfl
 obtain⟨s,b,ks,m,n,rfl,S0,gd,m1,m8,n1,n8,q0,q⟩:=h;have nd:=scfewo.nd;have hu:=hr.units;have hu1:=C8 (LW (show 1<=64 by decide) _) hu;refine%[_,((@bq _ _ _ _ (DCK∩((pv 0)^^^((pv 1)^^^((pv 2)^^^ae)))) O)<<<((3∣(@aP _ _ _ _ _ ((pv 1)^^^((pv 2)^^^ae))))<<<(((@bj _ _ _ _ (@aY _ _ _ (DAW∩((pv 0)^^^((pv 3)^^^ae))) (by intro _;rfl)))<|>(iW⁻¹)<|>av)<<<((4∣(DGS∩((pv 0)^^^((pv 1)^^^((pv 2)^^^ae)))))<<<((5∣(cF (pv 0) T.cl MW (hr.mono ∅)))<<<((6∣(@aX _ _ _ _ ae))<<<((@bU _ _ _ _ _ _ _ _ E4 O (bE (DFB∩((@aT _ _ _ _ _ _ _ _ _ (jA O) O B.list NI ((cZ hu1 (pv 4) (pv 3) (λ _ _=>O))^^^ae) ∅ ∅ O O)^^^((pv 5)^^^ae)))) (am (i:=7) nd O (Or.inl O)) ((8∣(DCM∩((pv 5)^^^((pv 7)^^^ae))))<<<((@bq _ _ _ _ (@iZ _ _ _ _ _ _ _ _ _ _ _ _ F6 PySem.F.slot_list_append PySem.F.type_list_append fc (pv 6) ((DTB∪((pv 4)^^^((pv 3)^^^((pv 7)^^^((pv 8)^^^ae)))))^^^ae) O O O O O) O)>>>(5∣(DWI∩((pv 5)^^^((pv 8)^^^ae)))))) (by intro _;rfl))<<<((@aP _ _ _ _ _ ((@ap _ _ _ _ _ _ _ _ _ aE O B.len PySem.boot_len ((pv 6)^^^ae) ∅ ∅ O O)^^^((pv 6)^^^ae)))⁻¹))))))))|?_];have z4:4096<=sizeLine:=∅
 obtain⟨b0,k1,k8,kw,w6⟩:=id gd;have wl:(wsK ks).length=ks.length:=B4 _;obtain⟨dx,r0,rs0,g1,g2,g3⟩:=id S0;refine ao (λ R=>∀(H':Hp),Same H H'->R [↑s,⇑m,⇑n,none,none,none,none,none,none] H') (λ Dd hR=>?_) ?_
 ·exact%[_,O,_,O,_,O,s,b,m,n,ks,O,S0,k8,⋯,⋯,⋯,⋯,Me w6 ∅|λ H' s'=>hR _ s']
 rintro H1 s1;refine ao (λ R=>∀(pl:Mi)(H':Hp),H' pl= ~~~[.int (m:Int),.int (n:Int)]->Same H H'->R [↑s,⇑m,⇑n,↑pl,none,none,none,none,none] H') (λ Dd hR=>?_) ?_
 ·refine%[_,O,_,O,zS2|λ pl hpl=>?_];refine aH hpl λ H2 k2 s2=>?_;exact hR pl _ k2 (s1.trans s2)
 rintro pl H2 hpl s2;have keepS:∀{Hx:Hp},Same H Hx->ShopAt C Hx s b ks:=λ sx=>S0.keep (λ _ _ e=>sx _ _ e) (λ _ _ _ _ e=>sx _ _ e);refine iU (λ R=>∀(H':Hp),awF ks (m,n)=true->Same H2 H'->R [↑s,⇑m,⇑n,↑pl,none,none,none,none,none] H') (λ R hR=>?_) ?_
 ·refine%[_,O,_,O,s,pl,b,ks,((m:Int),(n:Int)),O,keepS s2,k8,hpl|λ H3 s3=>%[_,O|?_]];cases e:awF ks (m,n)with
  | false=>exact bM (q0 e _ (s2.trans s3))
  | true=>exact aZ (hR _ e s3)
 rintro H3 aw s3';have s3:=s2.trans s3';obtain⟨fk6,fkh,fk0⟩:=Aq (p:=((m:Int),(n:Int))) gd (by show(1:Int)<=m;omega) (by show(1:Int)<=n;omega) aw;refine ao (λ R=>∀(fa:Mi)(ss:Mo ((Int×Int)×V))(H':Hp),H' fa=some (.dT (byP ss))->ss.map (·.1)=aL m n->jL b ks fa H' ss->Same H3 H'->R [↑s,⇑m,⇑n,↑pl,↑fa,none,none,none,none] H') (λ Dd hR=>?_) ?_
 ·exact%[_,O,_,O,_,O,s,b,ks,m,n,O,keepS s3,gd,m1,m8,n1,n8|λ fa ss H' a1 a2 a3 a4 _ a6=>hR fa ss _ a2 a3 a4 a6]
 rintro fa ss H4 hfa el fok s4;have s04:=s3.trans s4;refine ao (λ R=>∀(wt:Mi)(H':Hp),H' wt= ~~~(bV (wsK ks))->Same H4 H'->R [↑s,⇑m,⇑n,↑pl,↑fa,↑wt,none,none,none] H') (λ Dd hR=>?_) ?_
 ·refine%[_,O,s,dx,_,O,s04 _ _ g1,bi _ _ ∅ ∅,s,b,ks,O,keepS s04,k8|λ wt H5 _ hwt s5=>hR wt _ ?_ s5];rw[hwt,bV,LO];rfl
 rintro wt H5 hwt s5;refine ao (λ R=>∀(tl:Mi)(H':Hp),H5 tl=none->H' tl=↥[]->Same H5 H'->R [↑s,⇑m,⇑n,↑pl,↑fa,↑wt,↑tl,none,none] H') (λ Dd hR=>?_) ?_
 ·refine%[zS0|λ tl htl=>?_];refine aH htl λ H6 k6 s6=>?_;exact hR tl _ htl k6 s6
 rintro tl H6 htl0 htl s6;have s46:=s5.trans s6;have s06:=s04.trans s46;have fokS:∀{Hx:Hp},Sl tl H6 Hx->jL b ks fa Hx ss:=λ sx q v mm=>by obtain⟨d,kvs,e,nn,rd,rw'⟩:=fok q v mm;exact%[d,kvs,e,nn,sx.rd ((Same.sf (F:=(· = fa)) s46).rd rd)|rw'.keep λ a xs e=>sx.tps _ _ (s46 _ _ e)]
 have pm:((m:Int),(n:Int))∈aL m n:=partsL_mem.mpr %[%[by show(1:Int)<=m;omega|E5 _],by show(1:Int)<=n;omega|E5 _];obtain⟨v,hv,hm⟩:=fo (ss:=ss) (by rw[el];exact pm);obtain⟨d,kvs,rfl,nd',rd,rwd⟩:=fok _ _ hm;obtain⟨lot,elot⟩:∃lot,lot=gI b ks (m,n):=%[_|O]
 have hb:∀c∈gK b ks ((m:Int),(n:Int)),c.length=(wsK ks).length/\NnB c:=λ c hc=>%[(cU kw hc).1|(cU kw hc).2.2]
 have lok:=ii (ws0 kw) hb _ _ (nP (C1 fkh));rw[wl]at lok;have lot6:lot.length<=6:=by rw[elot];exact C7 (Nat.le_of_eq lok.2.1) fk6
 have lotm:∀g∈lot,g∈gK b ks ((m:Int),(n:Int)):=by rw[elot];exact lok.2.2.1
 refine bH (λ σ' H'=>∃(ma:Mi)(us:Mo V)(v7 v8:Ml V),σ'=[↑s,⇑m,⇑n,↑pl,↑fa,↑ma,↑tl,v7,v8]/\H' tl=↥us/\Paired (λ v t=>TrV H' t v) us (eK b ks (m,n) (wsK ks) lot)/\Same H H') (λ R hR=>?_) ?_
 ·refine%[_,O,_,O,fa,.ref d,O,hv ▸ DGet.t (k:=pk ((m:Int),(n:Int))) (s46 _ _ hfa) (s46 _ _ (s4 _ _ (s3' _ _ hpl))),d,kvs,O,(Same.sf (F:=(· = fa)) s46).rd rd|λ l as hl pas=>?_];refine aH hl λ H7 k7 s7=>?_;have rw7:RwsA H7 kvs (gB b ks ((m:Int),(n:Int))):=rwd.keep λ a xs e=>s7 _ _ (s46 _ _ e);have ba:BsA H7 as (gK b ks ((m:Int),(n:Int))):=by
   have:∀(as:Mo Mi)(kv:Mo (Mo Key×V))(rs:Rws),Paired (λ (b:Mi)(kv:Mo Key×V)=>H6 b= ~~~(kv.1.map kV)) as kv->RwsA H7 kv rs->BsA H7 as (rs.map (·.1)):=λ as kv rs h1 h2=>by
    induction h2 generalizing as with
    | nil=>cases h1;exact .nil
    | cons x _ ih=>cases h1 with
     | cons y z=>exact .cons (by rw[x.1,cI]at y;exact s7 _ _ y) (ih _ z)
   exact this as kvs _ pas rw7
  have g64:(gK b ks ((m:Int),(n:Int))).length<=32:=InB.few (ws0 kw) w6 (by rw[rB b0 _ (by show(1:Int)<=m;omega) (by show(1:Int)<=n;omega)];exact eA (cr _ _ _ _)) (λ x hx=>cU kw hx);refine%[_,O,l,wt,as,gK b ks ((m:Int),(n:Int)),wsK ks,_,O,k7,ba,g64,hb,s7 _ _ (s6 _ _ hwt),by rw[wl];exact k8,ws0 kw,w6,fk6,fkh,fk0|λ l2 as2 H8 hl2 ba2 s8=>?_];rw[wl]at ba2;have ba2:BsA H8 as2 lot:=by rw[elot];exact ba2
  have al2:=E3 ba2;have s68:=s7.trans s8;refine%[l2,O,%[_|G4 hl2]|dD (xs:=as2.map V.ref) (λ i σ' H'=>∃(ma:Mi)(us:Mo V)(v7 v8:Ml V),σ'=[↑s,⇑m,⇑n,↑pl,↑fa,↑ma,↑tl,v7,v8]/\H' ma= ~~~(bV (jZ (wsK ks) (lot.take i)))/\(jZ (wsK ks) (lot.take i)).length=ks.length/\NnB (jZ (wsK ks) (lot.take i))/\H' tl=↥us/\Paired (λ v t=>TrV H' t v) us (eK b ks (m,n) (wsK ks) (lot.take i))/\Sl tl H8 H'/\H' l2=↥(as2.map V.ref)) %[wt,[],none,none,O,s8 _ _ (s7 _ _ (s6 _ _ hwt)),wl,ws0 kw,s8 _ _ (s7 _ _ htl),.nil,jS (Same.refl _)|hl2] (λ i σ Hx _ ⟨_,_,_,_,_,_,_,_,_,_,_,h⟩=>G4 h) ?_ ?_]
  ·rintro i x σ Hx hi ⟨ma,us,v7,v8,rfl,hma,ml,mn,hus,pus,sx,hl2x⟩;have hin:i < as2.length:=by have:=(A6.mp hi).1;rw[B4]at this;exact this
   rw[G8]at hi;obtain⟨ga,hga,rfl⟩:=J7.mp hi;obtain⟨g,hg,hgg⟩:=G6 ba2 hga;have gm:=lotm g (B6 hg);have ig:=cU kw gm;have hgx:Hx ga= ~~~(bV g):=sx.tps _ _ hgg;have tk:lot.take (i+1)=lot.take i ++ [g]:=by rw[J8,hg];rfl
   obtain⟨ms,ems⟩:∃ms,ms=jZ (wsK ks) (lot.take i):=%[_|O]
   rw[<- ems]at hma ml mn;have mg':ms.length=g.length:=by rw[ml,ig.1,wl]
   have ul:=E3 pus;rw[jT,K0]at ul;have nlt:l2≠tl:=λ z=>by
    rw[z,hus]at hl2x;injection hl2x with h
    injection h with h
    have:=NE List.length h;rw[B4]at this;omega
   refine ao (λ R=>∀(ba:Mi)(H':Hp),H' ba= ~~~(bV (bd ms g))->Same Hx H'->R [↑s,⇑m,⇑n,↑pl,↑fa,↑ma,↑tl,↑ga,↑ba] H') (λ Dd hR=>?_) ?_
   ·exact%[_,O,_,O,ma,ga,ms,g,O,hma,hgx,mg',⋯|λ ba H9 hba s9=>hR ba _ hba s9]
   rintro ba H9 hba s9;have sl69:Sl tl H6 H9:=(jS s68).trans (sx.trans (jS s9));have cml:=bR mg';refine ao (λ R=>∀(v1:V)(H':Hp),H' tl=↥(us ++ [v1])->Paired (λ v t=>TrV H' t v) (us ++ [v1]) (eK b ks (m,n) (wsK ks) (lot.take (i+1)))->Sl tl H9 H'->R [↑s,⇑m,⇑n,↑pl,↑fa,↑ma,↑tl,↑ga,↑ba] H') (λ Dd hR=>?_) ?_
   ·refine%[_,O,.inl %[O,_|G4 (s9 _ _ hus)],_,O,_,O,_,O,_,O,fa,pl,ga,ba,b,ks,ss,m,n,((m:Int),(n:Int)),g,bd ms g,O,gd,sl69.dT (s46 _ _ hfa),fokS sl69,el,pm,sl69.tps _ _ (s46 _ _ (s4 _ _ (s3' _ _ hpl))),s9 _ _ hgx,gm,hba,⋯,nJ mg' mn ig.2.2,nL mg',by show((m:Int)+(n:Int)).toNat < 17;omega|λ v1 Ha t1 sa=>?_];have hua:Ha tl=↥us:=sa _ _ (s9 _ _ hus);have slu:Sl tl Ha (upd Ha tl (.lst (us ++ [v1]))):=λ c o e=>by
     by_cases z:c=tl
     ·subst z;rw[hua]at e;cases e;exact .inr %[O,_,_,O|ah]
     ·rw[aj z];exact .inl e
    refine%[tl,us,v1,O,O,hua,⋯|hR v1 _ ah ?_ ((jS sa).trans slu)];rw[tk,nS,<- ems];exact Paired.app (G5 pus λ v t h=>TrV.keep (λ _ _ e=>slu.tps _ _ (sa _ _ (s9 _ _ e))) t h) (.cons (TrV.keep slu.tps _ t1) .nil)
   rintro v1 Ha hua pua sa;refine%[_,O,_,O,ma,ba,ms,bd ms g,O,sa.tps _ _ (s9 _ _ hma),sa.tps _ _ hba,⋯,⋯|λ na Hb hna sb=>?_];have em:jZ (wsK ks) (lot.take (i+1))=be ms (bd ms g):=by rw[tk,nR,<- ems];rfl
   refine%[na,us ++ [v1],_,_,O,by rw[em];exact hna,by rw[em,bS ⋯];exact ml,by rw[em];exact jN ⋯,sb _ _ hua,G5 pua λ v t h=>TrV.keep (λ _ _ e=>sb _ _ e) t h,(sx.trans (jS s9)).trans (sa.trans (jS sb))|sb _ _ (sa.lst nlt (s9 _ _ hl2x))]
  ·rintro σ Hx ⟨ma,us,v7,v8,rfl,hma,ml,mn,hus,pus,sx,_⟩;rw[B4,al2,LL]at pus;refine hR _ _ %[ma,us,v7,v8,rfl,hus,pus|?_];exact(s04.trans s5).trans (((jS (s6.trans s68)).trans sx).same htl0)
 rintro _ H7 ⟨ma,us,v7,v8,rfl,hus,pus,s7⟩;have ul:=E3 pus;rw[jT]at ul;refine%[_,O,tl,_,O,.inl (G4 hus),_,O,zS2|λ r hr=>?_];refine q aw r tl us _ ((s04.trans s5).free htl0) ?_ (G2 hr _ _ hus) ?_ (s7.trans (G2 hr))
 ·rw[ah,ul,elot]
 ·rw[<- elot];exact G5 pus λ v t h=>TrV.keep (λ _ _ e=>G2 hr _ _ e) t h
def Ar(K:C6)(C NP TL:Mi)(E:XK)(H:Hp)(s:Mi)(wv hv:V)(b:Int)(ks:Mo Kd):Prop:=ShopAt C H s b ks/\ks.length<=8/\(∃T,Ty K H wv T)/\(∃T,Ty K H hv T)/\(((aQ wv 1 && aQ hv 1)=false/\E (.ref NP) none H)\/∃w h:Int,wv=.int w/\hv=.int h/\1<=w/\1<=h/\(((8 < w\/8 < h)/\E (.ref TL) none H)\/(w<=8/\h<=8/\6 < (ks.map λ k=>k.wa).sum/\∀H',Same H H'->E (.ref TL) none H')))
def zj(K:C6)(NP:Mi):Sp:=λ vs H Q E=>∃(wv hv:V),vs=[wv,hv]/\(∃T,Ty K H wv T)/\(∃T,Ty K H hv T)/\((aQ wv 1 && aQ hv 1)=false->E (.ref NP) none H)/\((aQ wv 1 && aQ hv 1)=true->Q .non H)
def zk(TL:Mi):Sp:=λ vs H Q E=>∃(w h:Int),vs=[.int w,.int h,.int 8]/\((8 < w\/8 < h)->E (.ref TL) none H)/\(w<=8->h<=8->Q .non H)
def fX(K:C6)(C NP TL:Mi):Sp:=λ vs H Q E=>∃(s:Mi)(wv hv:V)(b:Int)(ks:Mo Kd),vs=[.ref s,wv,hv]/\Ar K C NP TL E H s wv hv b ks
theorem sccplateX:FnScope ["wide","high"] ["wide","high"] (defScope bO):=%[O,O,O,∅,O,∅|∅]
theorem pw{f NP:Mi}{fd:F9}(F:Fun K "check_plate" "check_plate" bO f fd)(mP:mg "NoPlate" = ↑NP)(eP:ExcC K NP)(DW:Dn P w K mg base "is_whole" ["thing","least"] 1 (dZ K)):FnOk P w K mg base (CXx P w) 2 f fd ["wide","high"] (zj K NP):=by
 refine F.okX sccplateX (λ vs H Q E h=>?_) (λ cdv A outer s H vs Q E hr h=>?_)
 ·obtain⟨wv,hv,rfl,_⟩:=h
  rfl
 obtain⟨wv,hv,rfl,⟨Tw,tw⟩,⟨Th,th⟩,qe,q⟩:=h;have nd:=sccplateX.nd;refine%[_,(@ai _ _ _ ((PW.pt (dB (@bj _ _ _ _ (@aY _ _ _ (DW∪((pv 0)^^^(ag^^^ae))) (by intro _;rfl))) (dj (@bj _ _ _ _ (@aY _ _ _ (DW∪((pv 1)^^^(ag^^^ae))) (by intro _;rfl))))))<|>(@ai _ _ _ (jj (R:=λ c H=>E c none H) O O mP eP (uz^^^ae) fL))<|>av))|?_];refine%[_,O,wv,_,1,O,tw,_,O|?_];cases hw:aQ wv 1 with
 | false=>exact bM (bM %[zS1|qe (by rw[hw];rfl)])
 | true=>
  refine aZ %[_,rfl,hv,_,1,rfl,th,_,rfl|?_];cases hh:aQ hv 1 with
  | false=>exact bM %[zS1|qe (by rw[hw,hh];rfl)]
  | true=>exact aZ (q (by rw[hw,hh];rfl))
theorem sccsidesX:FnScope ["wide","high","most"] ["wide","high","most"] (defScope bP):=%[O,O,O,∅,O,∅|∅]
theorem pC{f TL:Mi}{fd:F9}(F:Fun K "check_sides" "check_sides" bP f fd)(mT:mg "TooLarge" = ↑TL)(eT:ExcC K TL):FnOk P w K mg base (CXx P w) 1 f fd ["wide","high","most"] (zk TL):=by
 refine F.okX sccsidesX (λ vs H Q E h=>?_) (λ cdv A outer s H vs Q E hr h=>?_)
 ·obtain⟨w1,h1,rfl,_⟩:=h
  rfl
 obtain⟨w1,h1,rfl,qe,q⟩:=h;have nd:=sccsidesX.nd;refine%[_,(@ai _ _ _ ((PW.pt (dB ((pv 0)<*>ip<*>(pv 2)) (dj ((pv 1)<*>ip<*>(pv 2)))))<|>(@ai _ _ _ (jj (R:=λ c H=>E c none H) O O mT eT ((kM (oJ (vm (pv 2) vk)))^^^ae) fL))<|>av))|?_];have sz:(1000:Nat)<=sizeLine:=∅
 have ra:(8 < w1\/8 < h1)->vd (λ c H=>E c none H) TL (uL (λ σ H Q=>tJC "a side of the plate is above " (tJF (tVar 2) (λ _ H out Q=>out.length<=sizeLine/\Q out H)) σ H Str.empty λ z H'=>Q (.str z) H') eI) { nx:=λ x H'=>Q V.non H',rt:=Q } [⇑w1,⇑h1,⇑8] H:=λ z=>
  %[∅,_,rfl,_,.inl %[8,rfl,∅|rfl],∅,∅,zS1|qe z]
 refine%[_,O,_,O,_,_,O,O,_,O|?_]
 by_cases c1:8 < w1
 ·rw[Mx c1];exact bM (bM (ra (.inl c1)))
 ·rw[M0 c1];refine aZ %[_,rfl,_,rfl,_,_,rfl,rfl,_,rfl|?_]
  by_cases c2:8 < h1
  ·rw[Mx c2];exact bM (ra (.inr c2))
  ·rw[M0 c2];exact aZ (q ⋯ ⋯)
theorem sccsmX:FnScope ["shop","wide","high"] ["shop","wide","high"] (defScope bQ):=%[O,O,O,∅,O,∅|∅]
theorem yr{f C NP TL:Mi}{fd:F9}(F:Fun K "check_small" "check_small" bQ f fd)(B:Blt mg)(T:ShopTxt K C)(hms:∃t,mg "MOST_SIDE" = some (.int 8 t))(hmw:∃t,mg "MOST_WANTED" = some (.int 6 t))(mT:mg "TooLarge" = ↑TL)(eT:ExcC K TL)(MW:Mn P w K mg base C "wanted" ["self"] 1 (cS C))(DCP:DnX P w K mg base "check_plate" ["wide","high"] 2 (zj K NP))(DCS:DnX P w K mg base "check_sides" ["wide","high","most"] 1 (zk TL)):FnOk P w K mg base (CXx P w) 3 f fd ["shop","wide","high"] (fX K C NP TL):=by
 refine F.okX sccsmX (λ vs H Q E h=>?_) (λ cdv A outer s H vs Q E hr h=>?_)
 ·obtain⟨s,wv,hv,b,ks,rfl,_⟩:=h
  rfl
 obtain⟨s,wv,hv,b,ks,rfl,cs⟩:=h;have nd:=sccsmX.nd;obtain⟨tm1,hm1⟩:=hms;obtain⟨tm2,hm2⟩:=hmw;refine%[_,((@bq _ _ _ _ (iP (gW DCP (hr.mono ∅) O ((pv 1)^^^((pv 2)^^^ae)))) O)<<<((@bq _ _ _ _ (iP (gW DCS (hr.mono ∅) O ((pv 1)^^^((pv 2)^^^((aI (v:=.int 8) O hm1 %[tm1|O])^^^ae))))) O)>>>(((@ap _ _ _ _ _ _ _ _ _ (hJ O) O B.sum PyProof.Rows.boot_sum ((cF (pv 0) T.cl MW (hr.mono ∅))^^^ae) ∅ ∅ O O)<*>ip<*>(aI (v:=.int 6) O hm2 %[tm2|O]))<|>(@ai _ _ _ (jj (R:=λ c H=>E c none H) O O mT eT ((kM (oJ (vm (aI (v:=.int 6) O hm2 %[tm2|O]) (oJ vk))))^^^ae) fL))<|>av)))|?_];obtain⟨sh,k8,⟨_,tw⟩,⟨_,th⟩,cs⟩:=cs;rcases cs with⟨bad,e⟩ | ⟨w1,h1,rfl,rfl,w0,h0,cs⟩
 ·refine bH (λ σ' H'=>False) (λ R hR=>?_) (λ _ _ z=>z.elim);exact%[_,O,_,O,wv,hv,O,%[_|tw],%[_|th],λ _=>e|λ g=>by rw[bad]at g;cases g]
 have gw:(aQ (.int w1) 1 && aQ (.int h1) 1)=true:=by rw[show aQ (.int w1) 1=true from Mx w0,show aQ (.int h1) 1=true from Mx h0];rfl
 refine ao (λ R=>R [↑s,⇑w1,⇑h1] H) (λ Dd hR=>?_) ?_
 ·exact⟨_,O,_,O,.int w1,.int h1,O,%[_|Ty.int],%[_|Ty.int],(λ z=>by rw[gw]at z;cases z),λ _=>hR⟩
 skip
 rcases cs with⟨big,e⟩ | ⟨w8,h8,sm,e⟩
 ·refine bH (λ σ' H'=>False) (λ R hR=>?_) (λ _ _ z=>z.elim);exact%[_,O,_,O,w1,h1,O,λ _=>e|λ a b=>⋯]
 refine ao (λ R=>R [↑s,⇑w1,⇑h1] H) (λ Dd hR=>?_) ?_
 ·exact%[_,O,_,O,w1,h1,O,λ z=>⋯|λ _ _=>hR]
 skip
 obtain⟨dx,r,rs,S1,S2,S3⟩:=id sh;refine%[_,O,s,dx,_,O,S1,(bi _ _ ∅ ∅),s,b,ks,O,sh,k8|λ t H1 hn ht s1=>?_];refine%[t,ks.map (λ k=>k.wa),O,G3 (by rw[LO];exact ht),_,_,O,O,_,O|?_];rw[Mx ⋯];exact bM %[∅,_,.inl %[6,rfl,∅|rfl],∅,∅,∅,zS1|e _ s1]
theorem scgreatbX:FnScope ["shop","wide","high","found"] ["shop","wide","high"] (defScope aU):=%[O,O,O,∅,O,∅|∅]
theorem pE{f C NP TL:Mi}{fd:F9}(F:Fun K "greatest_bundles" "greatest_bundles" aU f fd)(DSM:DnX P w K mg base "check_small" ["shop","wide","high"] 3 (fX K C NP TL)):FnOk P w K mg base (CXx P w) 4 f fd ["shop","wide","high"] (fX K C NP TL):=by
 refine F.okX scgreatbX (λ vs H Q E h=>?_) (λ cdv A outer s H vs Q E hr h=>?_)
 ·obtain⟨s,wv,hv,b,ks,rfl,_⟩:=h
  rfl
 obtain⟨s,wv,hv,b,ks,rfl,cs⟩:=h;have nd:=scgreatbX.nd;refine%[_,((@bq _ _ _ _ (iP (gW DSM (hr.mono ∅) O ((pv 0)^^^((pv 1)^^^((pv 2)^^^ae))))) O)<<<(bo>>>bo))|?_];refine bH (λ σ' H'=>False) (λ R hR=>?_) (λ _ _ z=>z.elim);exact%[_,O,_,O,_,O,s,wv,hv,b,ks,O|cs]
theorem scfewoX:FnScope ["shop","wide","high","plate","found","missing","trees","greatest","bundle"] ["shop","wide","high"] (defScope cL):=%[O,O,O,∅,O,∅|∅]
theorem wA{f C NP TL:Mi}{fd:F9}(F:Fun K "fewest_of" "fewest_of" cL f fd)(DSM:DnX P w K mg base "check_small" ["shop","wide","high"] 3 (fX K C NP TL)):FnOk P w K mg base (CXx P w) 4 f fd ["shop","wide","high"] (fX K C NP TL):=by
 refine F.okX scfewoX (λ vs H Q E h=>?_) (λ cdv A outer s H vs Q E hr h=>?_)
 ·obtain⟨s,wv,hv,b,ks,rfl,_⟩:=h
  rfl
 obtain⟨s,wv,hv,b,ks,rfl,cs⟩:=h;have nd:=scfewoX.nd;refine%[_,((@bq _ _ _ _ (iP (gW DSM (hr.mono ∅) O ((pv 0)^^^((pv 1)^^^((pv 2)^^^ae))))) O)<<<(bo<<<(bo<<<(bo<<<(bo<<<(bo<<<(bo>>>bo)))))))|?_];refine bH (λ σ' H'=>False) (λ R hR=>?_) (λ _ _ z=>z.elim);exact%[_,O,_,O,_,O,s,wv,hv,b,ks,O|cs]
theorem sccell:FnScope ["_law_script","_law_k"] ["_law_script","_law_k"] (defScope rn):=%[O,O,O,∅,O,∅|∅]
theorem yt{f:Mi}{fd:F9}(F:Fun K "_law_cell" "_law_cell" rn f fd)(B:Blt mg):FnOk P w K mg base CX0 1 f fd ["_law_script","_law_k"] (vn K):=by
 exists sccell
 ·obtain⟨a,ns,n,rfl,_⟩:=h
  rfl
 obtain⟨a,ns,n,rfl,hS,n0,q⟩:=h;have nd:=sccell.nd;refine%[_,((((pv 1)<*>Ei<*>(@ap _ _ _ _ _ _ _ _ _ aE O B.len M8 ((pv 0)^^^ae) ∅ ∅ O O))<|>(((pv 0)&&&aD&&&(pv 1))⁻¹)<|>av)<<<(ag⁻¹))|?_];have hl:(ns.map V.int).length=ns.length:=B4 _;refine%[_,O,_,O,a,_,O,.inl hS,_,_,O,O,_,O|?_];refine cX (λ c=>?_) (λ c=>?_)
 ·have c':n < ((ns.map V.int).length:Int):=C1 c;rw[hl]at c';have hk:n.toNat < ns.length:=⋯
  have hv:atI (ns.map V.int) n=some (.int ns[n.toNat]):=qW n0 (by rw[G8,F2 hk];rfl);exact%[_,O,_,O,a,_,_,_,O,O,hS,hv|q _]
 ·exact q _
theorem scpot:FnScope ["_law_cell_here"] ["_law_cell_here"] (defScope xW):=%[O,O,O,∅,O,∅|∅]
theorem As{f:Mi}{fd:F9}(F:Fun K "_law_pot" "_law_pot" xW f fd)(B:Blt mg):FnOk P w K mg base CX0 1 f fd ["_law_cell_here"] (vo):=by
 exists scpot
 ·obtain⟨c,rfl,_⟩:=h
  rfl
 obtain⟨c,rfl,q⟩:=h;have nd:=scpot.nd;refine%[_,((@aX _ _ _ _ ((@ap _ _ _ _ _ _ _ _ _ (ko O) O B.max PyProof.Rows.boot_max (ag^^^(((@ap _ _ _ _ _ _ _ _ _ mJ O B.abs PyProof.Rows.boot_abs ((pv 0)^^^ae) ∅ ∅ O O)|||dv|||(ag|||lh|||ag))^^^ae)) ∅ ∅ O O)^^^((((@ap _ _ _ _ _ _ _ _ _ mJ O B.abs PyProof.Rows.boot_abs ((pv 0)^^^ae) ∅ ∅ O O)|||eM|||ag)|||bf|||ag)^^^ae)))⁻¹)|?_];refine%[_,O,_,O,_,_,O,O,%[∅,∅|∅],_,_,O,O,_,_,O,_,O,_,O,_,_,O,O,(by show(0:Int) < 2147483629;decide),_,_,O,O,zS2|λ p hp=>?_];refine q p _ hp %[_,_,?_,?_,?_|ah] (G2 hp)
 ·split <;> omega
 ·have:=Mh (if c < 0 then -c else c) (show(2147483629:Int)≠0 by decide);omega
 ·have:=MY (if c < 0 then -c else c) (show(0:Int) < 2147483629 by decide);omega
theorem scdraw:FnScope ["_law_pot_here","_law_many","_law_digit"] ["_law_pot_here","_law_many"] (defScope rp):=%[O,O,O,∅,O,∅|∅]
theorem yu{f:Mi}{fd:F9}(F:Fun K "_law_draw" "_law_draw" rp f fd)(B:Blt mg):FnOk P w K mg base CX0 1 f fd ["_law_pot_here","_law_many"] (fj):=by
 exists scdraw
 ·obtain⟨p,m,rfl,_⟩:=h
  rfl
 obtain⟨p,m,rfl,⟨a,b,a0,b0,b1,hp⟩,m0,m1,q⟩:=h;have nd:=scdraw.nd;refine%[_,(((((pv 0)&&&aD&&&ag)<*>ip<*>ag)<|>((@bG _ _ _ _ _ _ (@ap _ _ _ _ _ _ _ _ _ lM O B.divmod PyProof.Rows.boot_divmod (((pv 0)&&&aD&&&ag)^^^((pv 1)^^^ae)) ∅ ∅ O O) (bL O (ar (dU (pv 0) ag bZ) (2•bn))) O O O)<<<((pv 2)⁻¹))<|>av)<<<((@bG _ _ _ _ _ _ (((((pv 0)&&&aD&&&ag)|||gP|||ag)|||bf|||ag)|||eM|||ag) (dU (pv 0) ag bZ) O O O)<<<(((((((pv 0)&&&aD&&&ag)|||gP|||((pv 0)&&&aD&&&ag))|||eM|||ag)|||uU|||ag)|||eM|||(pv 1))⁻¹)))|?_];have at0:atI [V.int a,V.int b] 0=⇑a:=rfl;have at1:atI [V.int a,V.int b] 1=⇑b:=rfl;refine%[_,O,p,_,_,_,O,O,G4 hp,at0,_,_,O,O,_,O|?_];refine cX (λ c=>?_) (λ c=>?_)
 ·have c':0 < a:=C1 c;refine%[_,O,p,_,_,_,O,O,G4 hp,at0,_,O,_,_,O,%[m0|m1]|λ t ht=>?_];have npt:p≠t:=ak hp ht;have hp1:(upd H t (.tup [.int (a / m),.int (a % m)])) p=↥[.int a,.int b]:=by rw[aj npt];exact hp
  refine%[t,_,O,G3 ah,O,_,_,O,_,O,p,_,_,_,O,O,hp1,O,_,_,O,O|?_];refine%[_,O|q _ _ (Mh _ ⋯) (MY _ m0) %[a / m,b,Int.ediv_nonneg a0 ⋯,b0,b1|ah] ((But.new ht).trans But.upd)]
 ·refine%[_,O,p,_,_,_,O,O,G4 hp,at1,_,_,O,O,.inr %[∅|∅],_,_,O,O,_,_,O,O,(by show(0:Int) < 2147483647;decide),_,O,p,_,_,_,O,O,hp,O|?_];have n0:0<=(b * 48271+11) % 2147483647:=Mh _ ∅;have n1:(b * 48271+11) % 2147483647 < 2147483647:=MY _ ∅;refine%[_,O,p,_,_,_,O,O,G4 ah,O,_,O,p,_,_,_,O,O,G4 ah,O,_,_,O,O,.inl %[⋯|⋯],_,_,O,O,(by show(0:Int) < 2147483629;decide),_,_,O,O,%[∅|∅],_,O,_,_,O,O,m0|?_];exact q _ _ (Mh _ ⋯) (MY _ m0) %[a,_,a0,n0,⋯|ah] But.upd
theorem scgreat:FnScope ["_law_pot_here"] ["_law_pot_here"] (defScope lW):=%[O,O,O,∅,O,∅|∅]
theorem wB{f:Mi}{fd:F9}(F:Fun K "_law_great" "_law_great" lW f fd)(DD:Dn P w K mg base "_law_draw" ["_law_pot_here","_law_many"] 1 fj):FnOk P w K mg base CX0 2 f fd ["_law_pot_here"] (gh):=by
 exists scgreat
 ·obtain⟨p,rfl,_⟩:=h
  rfl
 obtain⟨p,rfl,pt,q⟩:=h;have nd:=scgreat.nd;refine%[_,((((DD∪((pv 0)^^^((ag|||lh|||ag)^^^ae)))|||xJ|||(ag|||lh|||ag))|||eM|||(ag|||lh|||ag))⁻¹)|?_];refine%[_,O,_,_,O,O,%[∅,∅|∅],p,_,O,pt,(by show(0:Int) < 10 ^ (58:Int).toNat;decide),(by show(10:Int) ^ (58:Int).toNat<=10 ^ 60;decide)|λ r H' r0 r1 pt' b'=>?_];have r1':r < 10 ^ 58:=r1;refine%[_,_,O,O,%[∅,∅|∅],_,_,O,O,%[?_|∅],_,_,O,O,%[∅,∅|∅],_,_,O,O,(by show(0:Int) < 10 ^ (58:Int).toNat;decide)|?_]
 ·have e:(10:Int) ^ 58 < 2 ^ 4096:=∅
  have e2:(10:Nat) ^ 58 < 2 ^ 4096:=∅
  have:r.natAbs < 10 ^ 58:=⋯
  omega
 ·exact q _ _ (Mh _ ∅) (MY _ ∅) pt' b' 
structure Kc(K:C6)(mg:Str->Ml Value)(c x0 x1 x2 x3 x4 x5 x6 x7 x8 x9 x10 x11 x12:Mi)(b0 b1 b2:Bool):Prop where
 m0:mg "NoPlate" = ↑x0
 m1:mg "TooLarge" = ↑x1
 m2:mg "NoWeights" = ↑x2
 m3:mg "NoKind" = ↑x3
 m4:mg "NoKinds" = ↑x4
 m5:mg "NoLaying" = ↑x5
 m6:mg "NoLying" = ↑x6
 m7:mg "NoBlade" = ↑x7
 m8:mg "NoTable" = ↑x8
 m9:mg "NoTelling" = ↑x9
 m10:mg "NoText" = ↑x10
 m11:mg "NoTree" = ↑x11
 m12:mg "NoNumber" = ↑x12
 mv:mg "ValueError" = none
 k0:PySem.W.kitOne K (.ref c) (.ref x0)=some b0
 k1:PySem.W.kitOne K (.ref c) (.ref x1)=some b1
 k2:PySem.W.kitOne K (.ref c) (.ref x2)=some b2
 k3:PySem.W.kitOne K (.ref c) (.ref x3)=some false
 k4:PySem.W.kitOne K (.ref c) (.ref x4)=some false
 k5:PySem.W.kitOne K (.ref c) (.ref x5)=some false
 k6:PySem.W.kitOne K (.ref c) (.ref x6)=some false
 k7:PySem.W.kitOne K (.ref c) (.ref x7)=some false
 k8:PySem.W.kitOne K (.ref c) (.ref x8)=some false
 k9:PySem.W.kitOne K (.ref c) (.ref x9)=some false
 k10:PySem.W.kitOne K (.ref c) (.ref x10)=some false
 k11:PySem.W.kitOne K (.ref c) (.ref x11)=some false
 k12:PySem.W.kitOne K (.ref c) (.ref x12)=some false
 kv:PySem.W.kitOne K (.ref c) (.type "ValueError")=some true
def ke(b0 b1 b2:Bool):Mo Bool:=[b0,b1,b2,false,false,false,false,false,false,false,false,false,false,true]
def pF(bs:Mo Bool)(n:Nat):Mo V:=((List.range n).filter λ j=>bs.getD j false).map λ (j:Nat)=>V.int (j:Int)
def wC(c:Mi)(bs:Mo Bool):Sp:=λ vs H Q _=>∃a,vs=[.ref a]/\H a=some (.ext (IsA a (.ref c)))/\∀l H',H l=none->H' l=↥(pF bs 14)->Same H H'->Q (.ref l) H'
theorem tQ(bs:Mo Bool)(i:Nat):pF bs (i+1)=pF bs i ++ (if bs.getD i false=true then[V.int (i:Int)]else[]):=by
 unfold pF;rw[Mg,List.filter_append,J3];rw[List.filter_cons,List.filter_nil];cases e:bs.getD i false
 ·rfl
 ·rfl
theorem wD(bs:Mo Bool)(i:Nat):(pF bs i).length<=i:=by unfold pF;rw[B4];exact C7 (MH _ _) (by rw[LY];exact B3 _)
theorem Jr{b0 b1 b2:Bool}{i:Nat}(h:i < 14):atI [V.bl b0,.bl b1,.bl b2,.bl false,.bl false,.bl false,.bl false,.bl false,.bl false,.bl false,.bl false,.bl false,.bl false,.bl true] (0+(i:Int))=some (.bl ((ke b0 b1 b2).getD i false)):=by
 rw[MV];refine bX ?_;have:[V.bl b0,.bl b1,.bl b2,.bl false,.bl false,.bl false,.bl false,.bl false,.bl false,.bl false,.bl false,.bl false,.bl false,.bl true]=(ke b0 b1 b2).map V.bl:=rfl;rw[this,G8,LR,F2 (show i < (ke b0 b1 b2).length from h)]
 rfl
theorem At:bootBuiltins "ValueError" = some (.type "ValueError"):=∅
theorem scEKinds:FnScope ["_law_error","_law_some"] ["_law_error"] (defScope eX):=%[O,O,O,∅,O,∅|∅]
theorem kY{f c x0 x1 x2 x3 x4 x5 x6 x7 x8 x9 x10 x11 x12:Mi}{b0 b1 b2:Bool}{fd:F9}(F:Fun K "_law_kinds_of" "_law_kinds_of" eX f fd)(B:Blt mg)(F0:ExK K c)(Z:Kc K mg c x0 x1 x2 x3 x4 x5 x6 x7 x8 x9 x10 x11 x12 b0 b1 b2) :
  FnQ P w K mg base 1 f fd ["_law_error"] (wC c (ke b0 b1 b2)):=by
 refine zS F scEKinds (λ vs H Q E h=>?_) (λ cdv A outer s H vs Q E hr hqh h=>?_)
 ·obtain⟨a,rfl,_⟩:=h
  rfl
 obtain⟨a,rfl,ha,q⟩:=h;have nd:=scEKinds.nd;refine%[_,(((@aA _ _ 1 _ _ _ _ nd rfl (Or.inr rfl) (@aX _ _ _ _ ((@ap _ _ _ _ _ _ _ _ _ (aG F0) rfl B.isi Mv ((pv 0)^^^((aI (v:=.ref x0) rfl Z.m0 rfl)^^^ae)) ∅ ∅ rfl rfl)^^^((@ap _ _ _ _ _ _ _ _ _ (aG F0) rfl B.isi Mv ((pv 0)^^^((aI (v:=.ref x1) rfl Z.m1 rfl)^^^ae)) ∅ ∅ rfl rfl)^^^((@ap _ _ _ _ _ _ _ _ _ (aG F0) rfl B.isi Mv ((pv 0)^^^((aI (v:=.ref x2) rfl Z.m2 rfl)^^^ae)) ∅ ∅ rfl rfl)^^^ae)))) rfl (Or.inl rfl))<<<((@aA _ _ 1 _ _ _ _ nd rfl (Or.inr rfl) ((pv 1)|||eO|||(@aX _ _ _ _ ((@ap _ _ _ _ _ _ _ _ _ (aG F0) rfl B.isi Mv ((pv 0)^^^((aI (v:=.ref x3) rfl Z.m3 rfl)^^^ae)) ∅ ∅ rfl rfl)^^^((@ap _ _ _ _ _ _ _ _ _ (aG F0) rfl B.isi Mv ((pv 0)^^^((aI (v:=.ref x4) rfl Z.m4 rfl)^^^ae)) ∅ ∅ rfl rfl)^^^((@ap _ _ _ _ _ _ _ _ _ (aG F0) rfl B.isi Mv ((pv 0)^^^((aI (v:=.ref x5) rfl Z.m5 rfl)^^^ae)) ∅ ∅ rfl rfl)^^^ae))))) rfl (Or.inl rfl))<<<((@aA _ _ 1 _ _ _ _ nd rfl (Or.inr rfl) ((pv 1)|||eO|||(@aX _ _ _ _ ((@ap _ _ _ _ _ _ _ _ _ (aG F0) rfl B.isi Mv ((pv 0)^^^((aI (v:=.ref x6) rfl Z.m6 rfl)^^^ae)) ∅ ∅ rfl rfl)^^^((@ap _ _ _ _ _ _ _ _ _ (aG F0) rfl B.isi Mv ((pv 0)^^^((aI (v:=.ref x7) rfl Z.m7 rfl)^^^ae)) ∅ ∅ rfl rfl)^^^((@ap _ _ _ _ _ _ _ _ _ (aG F0) rfl B.isi Mv ((pv 0)^^^((aI (v:=.ref x8) rfl Z.m8 rfl)^^^ae)) ∅ ∅ rfl rfl)^^^ae))))) rfl (Or.inl rfl))<<<((@aA _ _ 1 _ _ _ _ nd rfl (Or.inr rfl) ((pv 1)|||eO|||(@aX _ _ _ _ ((@ap _ _ _ _ _ _ _ _ _ (aG F0) rfl B.isi Mv ((pv 0)^^^((aI (v:=.ref x9) rfl Z.m9 rfl)^^^ae)) ∅ ∅ rfl rfl)^^^((@ap _ _ _ _ _ _ _ _ _ (aG F0) rfl B.isi Mv ((pv 0)^^^((aI (v:=.ref x10) rfl Z.m10 rfl)^^^ae)) ∅ ∅ rfl rfl)^^^((@ap _ _ _ _ _ _ _ _ _ (aG F0) rfl B.isi Mv ((pv 0)^^^((aI (v:=.ref x11) rfl Z.m11 rfl)^^^ae)) ∅ ∅ rfl rfl)^^^ae))))) rfl (Or.inl rfl))<<<((@aA _ _ 1 _ _ _ _ nd rfl (Or.inr rfl) ((pv 1)|||eO|||(@aX _ _ _ _ ((@ap _ _ _ _ _ _ _ _ _ (aG F0) rfl B.isi Mv ((pv 0)^^^((aI (v:=.ref x12) rfl Z.m12 rfl)^^^ae)) ∅ ∅ rfl rfl)^^^((@ap _ _ _ _ _ _ _ _ _ (aG F0) rfl B.isi Mv ((pv 0)^^^((fb (v:=.ty "ValueError") rfl Z.mv At rfl)^^^ae)) ∅ ∅ rfl rfl)^^^ae)))) rfl (Or.inl rfl))<<<((vp (own:=["_law_k"]) (cs:=["_law_some"]) (cap:=[1]) rfl B.range (ag^^^ae) (az (sc:=defScope eX) (N:=["_law_error","_law_some"]) rfl rfl ∅) (λ _ _ _ _ _=>am (i:=0) (by show List.Nodup (["_law_k","_law_some"]:Mo Str) ;decide +kernel) rfl (Or.inl rfl) (Or.inr rfl)) (λ _ _ _ _ _=>(jb (@aY _ _ _ (aN (r:=rIxL K) aD (pv 1) (pv 0) (λ _ _=>rfl)) (by intro _;rfl)))) (λ _ _ _ _ _=>(pv 0)))⁻¹)))))))|?_];refine%[_,O,a,_,_,_,O,ha,O,Z.k0,_,O,a,_,_,_,O,ha,O,Z.k1,_,O,a,_,_,_,O,ha,O,Z.k2,zS3|λ c1 hc1=>?_];have s1:Same H (upd H c1 (.lst ([.bl b0,.bl b1,.bl b2]))):=G2 hc1;have k1:(upd H c1 (.lst ([.bl b0,.bl b1,.bl b2]))) c1=↥[.bl b0,.bl b1,.bl b2]:=ah;generalize hH:upd H c1 _=H1 at s1 k1 ⊢;clear hH;have i1:=s1 _ _ ha;refine%[_,O,_,O,a,_,_,_,O,i1,O,Z.k3,_,O,a,_,_,_,O,i1,O,Z.k4,_,O,a,_,_,_,O,i1,O,Z.k5,zS3|λ c2 hc2=>?_];have p1:=G2 (o:=.lst [.bl false,.bl false,.bl false]) hc2 _ _ k1;have s2:Same H (upd H1 c2 (.lst ([.bl false,.bl false,.bl false]))):=(s1).trans (G2 hc2);have k2:(upd H1 c2 (.lst ([.bl false,.bl false,.bl false]))) c2=↥[.bl false,.bl false,.bl false]:=ah;generalize hH:upd H1 c2 _=H2 at s2 k2 p1 ⊢
 clear hH;refine%[c1,c2,_,_,O,O,p1,k2,zS6|λ c3 hc3=>?_];have s3:Same H (upd H2 c3 (.lst ([.bl b0,.bl b1,.bl b2] ++ [.bl false,.bl false,.bl false]))):=(s2).trans (G2 hc3);have k3:(upd H2 c3 (.lst ([.bl b0,.bl b1,.bl b2] ++ [.bl false,.bl false,.bl false]))) c3=↥[.bl b0,.bl b1,.bl b2,.bl false,.bl false,.bl false]:=ah;generalize hH:upd H2 c3 _=H3 at s3 k3 ⊢;clear hH;have i3:=s3 _ _ ha;refine%[_,O,_,O,a,_,_,_,O,i3,O,Z.k6,_,O,a,_,_,_,O,i3,O,Z.k7,_,O,a,_,_,_,O,i3,O,Z.k8,zS3|λ c4 hc4=>?_];have p3:=G2 (o:=.lst [.bl false,.bl false,.bl false]) hc4 _ _ k3;have s4:Same H (upd H3 c4 (.lst ([.bl false,.bl false,.bl false]))):=(s3).trans (G2 hc4);have k4:(upd H3 c4 (.lst ([.bl false,.bl false,.bl false]))) c4=↥[.bl false,.bl false,.bl false]:=ah;generalize hH:upd H3 c4 _=H4 at s4 k4 p3 ⊢;clear hH;refine%[c3,c4,_,_,O,O,p3,k4,zS9|λ c5 hc5=>?_];have s5:Same H (upd H4 c5 (.lst ([.bl b0,.bl b1,.bl b2,.bl false,.bl false,.bl false] ++ [.bl false,.bl false,.bl false]))):=(s4).trans (G2 hc5);have k5:(upd H4 c5 (.lst ([.bl b0,.bl b1,.bl b2,.bl false,.bl false,.bl false] ++ [.bl false,.bl false,.bl false]))) c5=↥[.bl b0,.bl b1,.bl b2,.bl false,.bl false,.bl false,.bl false,.bl false,.bl false]:=ah;generalize hH:upd H4 c5 _=H5 at s5 k5 ⊢;clear hH;have i5:=s5 _ _ ha;refine%[_,O,_,O,a,_,_,_,O,i5,O,Z.k9,_,O,a,_,_,_,O,i5,O,Z.k10,_,O,a,_,_,_,O,i5,O,Z.k11,zS3|λ c6 hc6=>?_];have p5:=G2 (o:=.lst [.bl false,.bl false,.bl false]) hc6 _ _ k5;have s6:Same H (upd H5 c6 (.lst ([.bl false,.bl false,.bl false]))):=(s5).trans (G2 hc6);have k6:(upd H5 c6 (.lst ([.bl false,.bl false,.bl false]))) c6=↥[.bl false,.bl false,.bl false]:=ah;generalize hH:upd H5 c6 _=H6 at s6 k6 p5 ⊢;clear hH;refine%[c5,c6,_,_,O,O,p5,k6,zS12|λ c7 hc7=>?_];have s7:Same H (upd H6 c7 (.lst ([.bl b0,.bl b1,.bl b2,.bl false,.bl false,.bl false,.bl false,.bl false,.bl false] ++ [.bl false,.bl false,.bl false]))):=(s6).trans (G2 hc7);have k7:(upd H6 c7 (.lst ([.bl b0,.bl b1,.bl b2,.bl false,.bl false,.bl false,.bl false,.bl false,.bl false] ++ [.bl false,.bl false,.bl false]))) c7=↥[.bl b0,.bl b1,.bl b2,.bl false,.bl false,.bl false,.bl false,.bl false,.bl false,.bl false,.bl false,.bl false]:=ah;generalize hH:upd H6 c7 _=H7 at s7 k7 ⊢;clear hH;have i7:=s7 _ _ ha;refine%[_,O,_,O,a,_,_,_,O,i7,O,Z.k12,_,O,a,_,_,_,O,i7,O,Z.kv,zS2|λ c8 hc8=>?_];have p7:=G2 (o:=.lst [.bl false,.bl true]) hc8 _ _ k7;have s8:Same H (upd H7 c8 (.lst ([.bl false,.bl true]))):=(s7).trans (G2 hc8);have k8:(upd H7 c8 (.lst ([.bl false,.bl true]))) c8=↥[.bl false,.bl true]:=ah;generalize hH:upd H7 c8 _=H8 at s8 k8 p7 ⊢;clear hH;refine%[c7,c8,_,_,O,O,p7,k8,zS14|λ c9 hc9=>?_];have s9:Same H (upd H8 c9 (.lst ([.bl b0,.bl b1,.bl b2,.bl false,.bl false,.bl false,.bl false,.bl false,.bl false,.bl false,.bl false,.bl false] ++ [.bl false,.bl true]))):=(s8).trans (G2 hc9);have k9:(upd H8 c9 (.lst ([.bl b0,.bl b1,.bl b2,.bl false,.bl false,.bl false,.bl false,.bl false,.bl false,.bl false,.bl false,.bl false] ++ [.bl false,.bl true]))) c9=↥[.bl b0,.bl b1,.bl b2,.bl false,.bl false,.bl false,.bl false,.bl false,.bl false,.bl false,.bl false,.bl false,.bl false,.bl true]:=ah;generalize hH:upd H8 c9 _=H9 at s9 k9 ⊢;clear hH;obtain⟨ea,ce,hh,he⟩:=hqh;have he9:=s9 _ _ he;refine%[14,O,∅,∅,λ i m ys H'=>H'=H9/\i<=14/\m=14 - i/\ys=pF (ke b0 b1 b2) i,%[14,O,∅,O|O],?_|?_]
 ·rintro i m ys _ ⟨rfl,_⟩;exact%[ea,ce,hh|he9]
 ·rintro i m ys _ ⟨rfl,hi,rfl,rfl⟩;have kl:=wD (ke b0 b1 b2) i;have sz:(100:Nat) < sizeLine:=∅
  by_cases h14:i=14
  ·subst h14;exact .inl %[B3 _,⋯|λ l hl=>q l _ (s9.free hl) ah (s9.trans (G2 hl))]
  ·refine .inr %[(show i < 14 by omega),⋯|?_];rintro x _ ⟨rfl,rfl⟩;refine%[leS.set rfl,_,O,_,O,c9,_,_,_,O,O,G4 k9,Jr ⋯,_,O|?_];have st:=tQ (ke b0 b1 b2) i;cases e:(ke b0 b1 b2).getD i false with
   | true=>
    dsimp only;rw[Mw rfl];rw[e,Mw rfl]at st;refine%[_,O,14 - (i+1),⋯,O,⋯,O|?_];rw[st,MV]
   | false=>
    dsimp only;rw[Mu B2];rw[e,Mu B2,K6]at st;exact%[14 - (i+1),⋯,O,⋯,O|st.symm]
def OdS(H:Hp)(p:Mi)(v:V):Prop:=v=.non\/(∃b,v=.bl b)\/(∃i,v=.int i)\/(∃z,v=.str z)\/∃a,v=.ref a/\a≠p/\(H a=↥[.int 1]\/H a= ~~~[.int 2])
theorem OdS.mono{H H':Hp}{p:Mi}{v:V}(b:But p H H')(h:OdS H p v):OdS H' p v :=
 h.imp id (Or.imp id (Or.imp id (Or.imp id λ%[a,e,n|h]=>%[a,e,n|h.imp (b _ _ n) (b _ _ n)])))
theorem OdS.ty{H:Hp}{p:Mi}{v:V}(h:OdS H p v):∃T,Ty K H v T:=by
 rcases h with rfl | ⟨b,rfl⟩ | ⟨i,rfl⟩ | ⟨z,rfl⟩ | ⟨a,rfl,n,h | h⟩
 ·exact%[_|Ty.non]
 ·exact%[_|Ty.bl]
 ·exact%[_|Ty.int]
 ·exact%[_|Ty.str]
 ·exact%[_|Ty.lst h]
 ·exact%[_|Ty.tup h]
def wE:Sp:=λ vs H Q _=>∃(p:Mi),vs=[.ref p]/\PotB H p/\∀(v:V)(H':Hp),OdS H' p v->aQ v 1=false->PotB H' p->But p H H'->Q v H'
theorem scbads:FnScope ["_law_pot_here","_law_some"] ["_law_pot_here"] (defScope gu):=%[O,O,O,∅,O,∅|∅]
theorem yv{f:Mi}{fd:F9}(F:Fun K "_law_bad_side" "_law_bad_side" gu f fd)(B:Blt mg)(DD:Dn P w K mg base "_law_draw" ["_law_pot_here","_law_many"] 1 fj)(DG:Dn P w K mg base "_law_great" ["_law_pot_here"] 2 gh):FnOk P w K mg base CX0 3 f fd ["_law_pot_here"] (wE):=by
 exists scbads
 ·obtain⟨p,rfl,_⟩:=h
  rfl
 obtain⟨p,rfl,pt,q⟩:=h;have nd:=scbads.nd;have hr1:=hr.mono (show 1<=2 by decide);refine%[_,((1∣(@aX _ _ _ _ (ag^^^((@yW _ _ _ _ _ _ uD ag)^^^(((@yW _ _ _ _ _ _ uD ag)|||dv|||(DG∪((pv 0)^^^ae)))^^^(cw^^^(cw^^^(uz^^^(iW^^^((@aX _ _ _ _ (ag^^^ae))^^^((@aP _ _ _ _ _ (ag^^^ae))^^^ae)))))))))))<<<(((pv 1)&&&aD&&&(@aq _ _ _ _ _ _ _ _ _ _ DD hr1 O ((pv 0)^^^((@ap _ _ _ _ _ _ _ _ _ aE O B.len M8 ((pv 1)^^^ae) ∅ ∅ O O)^^^ae)) ∅ O O))⁻¹))|?_];refine%[_,O,_,O,_,O,p,O,pt|λ g H1 g0 g1 pt1 b1=>%[_,_,O,O|?_]];refine%[zS1|λ c1 hc1=>?_];obtain⟨H2,e2,k1,n1,s2,b2,pt2⟩:=Ak (o:=.lst [.int 1]) b1 pt1 hc1;rw[e2];clear e2;refine%[zS1|λ c2 hc2=>?_];obtain⟨H3,e3,k2,n2,s3,b3,pt3⟩:=Ak (o:=.tup [.int 2]) b2 pt2 hc2;rw[e3];clear e3;refine%[zS9|λ c4 hc4=>?_];obtain⟨H5,e5,k4,n4,s5,b5,pt5⟩:=Ak (o:=.lst [.int 0,.int (-1),.int (-1 - g),.bl true,.bl false,.str "1",.non,.ref c1,.ref c2]) b3 pt3 hc4;rw[show upd H3 c4 _=H5 from e5];clear e5;refine%[_,O,_,O,_,O,c4,_,O,.inl (G4 k4),p,9,O,pt5,∅,∅|λ r H6 r0 r1 pt6 b6=>?_];obtain⟨v,hv,hm⟩:=Aj (xs:=[.int 0,.int (-1),.int (-1 - g),.bl true,.bl false,.str "1",.non,.ref c1,.ref c2]) r0 r1;have m1:=b6 _ _ n1 (s5 _ _ (s3 _ _ k1));have m2:=b6 _ _ n2 (s5 _ _ k2);have od:OdS H6 p v/\aQ v 1=false:=by
  simp only[G7,C2,NG]at hm;rcases hm with rfl | rfl | rfl | rfl | rfl | rfl | rfl | rfl | rfl
  ·exact%[.inr (.inr (.inl %[_|O]))|O]
  ·exact%[.inr (.inr (.inl %[_|O]))|O]
  ·exact%[.inr (.inr (.inl %[_|O]))|B1 ⋯]
  ·exact%[.inr (.inl %[_|O])|O]
  ·exact%[.inr (.inl %[_|O])|O]
  ·exact%[.inr (.inr (.inr (.inl %[_|O])))|O]
  ·exact%[.inl rfl|O]
  ·exact%[.inr (.inr (.inr (.inr %[c1,O,n1|.inl m1])))|O]
  ·exact%[.inr (.inr (.inr (.inr %[c2,O,n2|.inr m2])))|O]
 exact%[c4,_,_,_,O,O,G4 (b6 _ _ n4 k4),hv|q v H6 od.1 od.2 pt6 (b5.trans b6)]
theorem nT{C:Mi}{H H':Hp}{s:Mi}{b:Int}{ks:Mo Kd}(k:Same H H')(S:ShopAt C H s b ks):ShopAt C H' s b ks:=S.keep (λ c xs e=>k _ _ e) (λ c C' d fs e=>k _ _ e)
inductive DueK(wv hv:V)(ks:Mo Kd):Int->Prop
 | p:(aQ wv 1 && aQ hv 1)=false->DueK wv hv ks 0
 | t {w h:Int}:wv=.int w->hv=.int h->1<=w->1<=h->(8 < w\/8 < h)->DueK wv hv ks 1
 | s {w h:Int}:wv=.int w->hv=.int h->1<=w->1<=h->w<=8->h<=8->6 < (ks.map λ k=>k.wa).sum->DueK wv hv ks 1
theorem DueK.due{C NP TL:Mi}{E:XK}{H:Hp}{s:Mi}{wv hv:V}{b:Int}{ks:Mo Kd}{k:Int}(d:DueK wv hv ks k)(sh:ShopAt C H s b ks)(k8:ks.length<=8)(tw:∃T,Ty K H wv T)(th:∃T,Ty K H hv T)(h0:k=0->E (.ref NP) none H)(h1:k=1->∀H',Same H H'->E (.ref TL) none H'):Ar K C NP TL E H s wv hv b ks:=by
 cases d with
 | p z=>exact%[sh,k8,tw,th|.inl %[z|h0 rfl]]
 | t e1 e2 a1 a2 z=>exact%[sh,k8,tw,th|.inr %[_,_,e1,e2,a1,a2|.inl %[z|h1 rfl _ (Same.refl _)]]]
 | s e1 e2 a1 a2 a3 a4 z=>exact%[sh,k8,tw,th|.inr %[_,_,e1,e2,a1,a2|.inr %[a3,a4,z|h1 rfl]]]
def jU(K:C6)(C:Mi):Sp:=λ vs H Q _=>∃(way:Int)(s:Mi)(wv hv:V)(b:Int)(ks:Mo Kd),vs=[.int way,.ref s,wv,hv]/\ShopAt C H s b ks/\ks.length<=8 /\
  ((∃k,(∃T,Ty K H wv T)/\(∃T,Ty K H hv T)/\DueK wv hv ks k/\∀(r l:Mi)(H':Hp),H' r= ~~~[.non,.ref l]->H' l=↥[.int k,.int 13]->Same H H'->Q (.ref r) H') \/
   ∃m n:Nat,wv=.int m/\hv=.int n/\iH b ks/\1<=m/\m<=8/\1<=n/\n<=8 /\
    (way=0->∀(r l ta:Mi)(ll:Mo ((Int×Int)×V))(H':Hp),H' r= ~~~[.ref ta,.ref l]->H' l=↥[]->H ta=none->H' ta=some (.dT (byP ll))->ll.map (·.1)=aL m n->(∀q v,(q,v)∈ll->LsA H H' v (gK b ks q))->Same H H'->Q (.ref r) H') /\
    (way≠0->(awF ks (m,n)=false->∀(r l:Mi)(H':Hp),H' r= ~~~[.non,.ref l]->H' l=↥[]->Same H H'->Q (.ref r) H') /\
      (awF ks (m,n)=true->∀(r l t tl:Mi)(us:Mo V)(H':Hp),H' r= ~~~[.ref t,.ref l]->H' l=↥[]->H' t= ~~~[.int (gI b ks (m,n)).length,.ref tl]->H' tl=↥us->Paired (λ v t=>TrV H' t v) us (eK b ks (m,n) (wsK ks) (gI b ks (m,n)))->Same H H'->Q (.ref r) H')))
theorem scaskb:FnScope ["_law_way","_law_shop_here","_law_wide","_law_high","_law_told","_law_refused","_law_error"] ["_law_way","_law_shop_here","_law_wide","_law_high"] (defScope lX):=%[O,O,O,∅,O,∅|∅]
theorem yx{f C NP TL CE:Mi}{fd:F9}(F:Fun K "_law_asked" "_law_asked" lX f fd)(DG:DnX P w K mg base "greatest_bundles" ["shop","wide","high"] 8 (λ vs H Q E=>nI C vs H Q E\/fX K C NP TL vs H Q E))(DF:DnX P w K mg base "fewest_of" ["shop","wide","high"] 20 (λ vs H Q E=>wy C vs H Q E\/fX K C NP TL vs H Q E))
  (DE:DnQ P w K mg base "_law_kinds_of" ["_law_error"] 1 (λ vs H Q E=>wC NP (ke true false false) vs H Q E\/wC TL (ke false true false) vs H Q E)) (mp:mg "PlateError" = ↑CE)
  (x1:PySem.W.exmOne K (.ref NP) (.ref CE)=some true) (x2:PySem.W.exmOne K (.ref TL) (.ref CE)=some true) :
  FnOk P w K mg base CX0 21 f fd ["_law_way","_law_shop_here","_law_wide","_law_high"] (jU K C):=by
 refine F.ok scaskb (λ vs H Q E h=>?_) (λ cdv A outer s0 H vs Q E hr h=>?_)
 ·obtain⟨way,s,wv,hv,b,ks,rfl,_⟩:=h
  rfl
 obtain⟨way,s,wv,hv,b,ks,rfl,sh,k8,h⟩:=h;have nd:=scaskb.nd;have hr1:=hr.mono (show 1<=20 by decide);have hr9:=hr.mono (show 8<=20 by decide);refine%[_,((4∣iW)<<<((5∣(@aX _ _ _ _ ae))<<<((xU (i:=6) O O O (Ai ((pv 0)<*>cx<*>ag) (rm (j:=4) (gW DG hr9 O ((pv 1)^^^((pv 2)^^^((pv 3)^^^ae)))) nd O O) (rm (j:=4) (gW DF hr O ((pv 1)^^^((pv 2)^^^((pv 3)^^^ae)))) nd O O)) nd O O O mp (λ ea=>ai (5∣(Er DE (hr1.h _) O ((pv 6)^^^ae)))))<<<((@aP _ _ _ _ _ ((pv 4)^^^((pv 5)^^^ae)))⁻¹))))|?_];refine bH (λ σ' H'=>σ'=[⇑way,↑s,some wv,some hv,some .non,none,none]/\H=H') (λ R hR=>hR _ _ %[rfl|rfl]) ?_;rintro _ _ ⟨rfl,rfl⟩;refine ao (λ R=>∀l (H':Hp),H' l=↥[]->H l=none->Same H H'->R [⇑way,↑s,some wv,some hv,some .non,↑l,none] H') (λ Dd hR=>?_) ?_
 ·exact%[∅|λ l hl=>hR l _ ah hl (G2 hl)]
 rintro l H1 l1 hl0 s1;have S1:=nT s1 sh;rcases h with⟨k,⟨Tw,tw⟩,⟨Th,th⟩,d,q⟩ | ⟨m,n,rfl,rfl,gb,m1,m8,n1,n8,q0,q1⟩
 ·refine iU (λ R=>∀l' (H':Hp),H' l'=↥[.int k,.int 13]->Same H H'->R [⇑way,↑s,some wv,some hv,some .non,↑l',none] H') (λ R hR=>?_) ?_
  ·have fin:∀{c:Mi}{k':Int}{H2:Hp}{ea:Mi},k=k'->Same H1 H2->H2 ea=none->∀(l':Mi)(H':Hp),H' l'=↥[.int k',.int 13]->Same (upd H2 ea (.ext (IsA ea (.ref c)))) H'->R [⇑way,↑s,some wv,some hv,some .non,↑l',none] H' :=
    λ {c k' H2 ea} e s2 hea l' H' l2 s'=>by subst e;exact hR l' _ l2 ((s1.trans s2).trans ((G2 hea (o:=.ext (IsA ea (.ref c)))).trans s'))
   have tw1:=Ty.same s1 tw;have th1:=Ty.same s1 th;have due:∀{E:XK},(k=0->E (.ref NP) none H1)->(k=1->∀H',Same H1 H'->E (.ref TL) none H')->Ar K C NP TL E H1 s wv hv b ks:=λ h0 h1=>d.due S1 k8 %[_|tw1] %[_|th1] h0 h1;refine%[_,O,O,_,O|?_];refine cX (λ cc=>?_) (λ cc=>?_)
   ·refine%[_,O,_,O,_,O|?_];dsimp only[eI];refine .inr %[s,wv,hv,b,ks,O|due (λ z=>%[x1|λ ea hea=>?_]) (λ z H2 s2=>%[x2|λ ea hea=>?_])]
    ·exact%[_,O,%[ea,_,O|ah]|.inl %[ea,O,ah|λ l' H' hl' l2 s'=>fin (c:=NP) z (Same.refl _) hea l' H' l2 s']]
    ·exact%[_,O,%[ea,_,O|ah]|.inr %[ea,O,ah|λ l' H' hl' l2 s'=>fin (c:=TL) z s2 hea l' H' l2 s']]
   ·refine%[_,O,_,O,_,O|?_];dsimp only[eI];refine .inr %[s,wv,hv,b,ks,O|due (λ z=>%[x1|λ ea hea=>?_]) (λ z H2 s2=>%[x2|λ ea hea=>?_])]
    ·exact%[_,O,%[ea,_,O|ah]|.inl %[ea,O,ah|λ l' H' hl' l2 s'=>fin (c:=NP) z (Same.refl _) hea l' H' l2 s']]
    ·exact%[_,O,%[ea,_,O|ah]|.inr %[ea,O,ah|λ l' H' hl' l2 s'=>fin (c:=TL) z s2 hea l' H' l2 s']]
  rintro l' H2 l2 s2;refine%[_,O,_,O,zS2|λ r hr=>?_];have s3:=G2 hr (o:=.tup [.non,.ref l']);exact q r l' _ ah (s3 _ _ l2) (s2.trans s3)
 ·by_cases w0:way=0
  ·refine ao (λ R=>∀ta ll (H':Hp),H' l=↥[]->H1 ta=none->H' ta=some (.dT (byP ll))->ll.map (·.1)=aL m n->((∀q v,(q,v)∈ll->LsA H1 H' v (gK b ks q)))->Same H1 H'->R [⇑way,↑s,⇑(m:Int),⇑(n:Int),↑ta,↑l,none] H') (λ Dd hR=>?_) ?_
   ·refine%[_,O,O,_,O|?_];rw[Mx (show V.int way=V.int 0 by rw[w0])];refine bM %[_,rfl,_,rfl,_,rfl|?_];dsimp only[eI];exact .inl %[s,b,ks,m,n,O,S1,gb,m1,m8,n1,n8|λ ta ll H' ht0 ht lm lv s'=>hR ta ll _ (s' _ _ l1) ht0 ht lm lv s']
   rintro ta ll H2 l2 ta0 hta lm lv s2;refine%[_,O,_,O,zS2|λ r hr=>?_];have s3:=G2 hr (o:=.tup [.ref ta,.ref l]);exact q0 w0 r l ta ll _ ah (s3 _ _ l2) (s1.free ta0) (s3 _ _ hta) lm (λ q v hq=>by
    obtain⟨a,as,e,h0,h1,h2⟩:=lv q v hq;exact%[a,as,e,s1.free h0,s3 _ _ h1|G5 h2 λ c b h=>s3 _ _ h]) (s1.trans (s2.trans s3))
  ·obtain⟨qa,qb⟩:=q1 w0;cases ea:awF ks (m,n)with
   | false=>
    refine ao (λ R=>∀(H':Hp),Same H1 H'->R [⇑way,↑s,⇑(m:Int),⇑(n:Int),some .non,↑l,none] H') (λ Dd hR=>?_) ?_
    ·refine%[_,O,O,_,O|?_];rw[M0 (λ z=>w0 (V.int.inj z))];refine aZ %[_,rfl,_,rfl,_,rfl|?_];dsimp only[eI];exact .inl %[s,b,ks,m,n,O,S1,gb,m1,m8,n1,n8,λ _ H' s'=>hR _ s'|λ z=>by rw[ea]at z;cases z]
    rintro H2 s2;refine%[_,O,_,O,zS2|λ r hr=>?_];have s3:=G2 hr (o:=.tup [.non,.ref l]);exact qa ea r l _ ah (s3 _ _ (s2 _ _ l1)) (s1.trans (s2.trans s3))
   | true=>
    refine ao (λ R=>∀t tl us (H':Hp),H' t= ~~~[.int (gI b ks (m,n)).length,.ref tl]->H' tl=↥us->Paired (λ v t=>TrV H' t v) us (eK b ks (m,n) (wsK ks) (gI b ks (m,n)))->Same H1 H'->R [⇑way,↑s,⇑(m:Int),⇑(n:Int),↑t,↑l,none] H') (λ Dd hR=>?_) ?_
    ·refine%[_,O,O,_,O|?_];rw[M0 (λ z=>w0 (V.int.inj z))];refine aZ %[_,rfl,_,rfl,_,rfl|?_];dsimp only[eI];exact .inl ⟨s,b,ks,m,n,O,S1,gb,m1,m8,n1,n8,(λ z=>by rw[ea]at z;cases z),λ _ r tl us H' _ hr' ht' pu s'=>hR r tl us _ hr' ht' pu s'⟩
    rintro t tl us H2 ht' htl pu s2;refine%[_,O,_,O,zS2|λ r hr=>?_];have s3:=G2 hr (o:=.tup [.ref t,.ref l]);exact qb ea r l t tl us _ ah (s3 _ _ (s2 _ _ l1)) (s3 _ _ ht') (s3 _ _ htl) (G5 pu λ v t h=>TrV.keep (λ a xs e=>s3 _ _ e) _ h) (s1.trans (s2.trans s3))
def RwL(H:Hp)(rs:Mo V)(ks:Mo Kd):Prop:=Paired (je H) rs ks/\rs.Nodup
theorem RwL.at{H:Hp}{rs:Mo V}{ks:Mo Kd}(r:RwL H rs ks){i:Nat}{k:Kd}(h:ks[i]?=some k):∃a,rs[i]? = ↑a/\H a=↥(kdV k):=by obtain⟨y,hy,a,rfl,ha⟩:=Paired.getL r.1 h;exact%[a,hy|ha]
theorem wF{α:Type}{l:Mo α}(n:l.Nodup){i j:Nat}{x:α}(h1:l[i]?=some x)(h2:l[j]?=some x):i=j:=by obtain⟨a,ea⟩:=A6.mp h1;obtain⟨b,eb⟩:=A6.mp h2;exact(List.getElem_inj n).mp (ea.trans eb.symm)
theorem RwL.set{H:Hp}{rs:Mo V}{ks:Mo Kd}(r:RwL H rs ks){i:Nat}{a:Mi}(k':Kd)(h:rs[i]? = ↑a):RwL (upd H a (.lst (kdV k'))) rs (ks.set i k'):=by
 refine%[?_|r.2];have go:∀(n:Nat){xs:Mo V}{ys:Mo Kd},Paired (je H) xs ys->(∀j x,xs[j]?=some x->rs[n+j]?=some x)->Paired (je (upd H a (.lst (kdV k')))) xs (if n<=i then ys.set (i - n) k' else ys):=by
  intro n xs ys p hx
  induction p generalizing n with
  | nil=>split <;> exact .nil
  | @cons x y xs ys hxy t ih=>
   have h0:=hx 0 x rfl;rw[Nat.add_zero]at h0;have ih:=ih (n+1) λ j x hj=>by rw[show n+1+j=n+(j+1)by omega];exact hx (j+1) x hj
   obtain⟨c,rfl,hc⟩:=hxy
   by_cases e:n=i
   ·subst e;rw[h]at h0;cases h0;rw[Mw (B3 _),Nat.sub_self,List.set_cons_zero];rw[Mu ⋯]at ih;exact .cons %[_,O|ah] ih
   ·have ne:c≠a:=λ z=>by subst z;exact e (wF r.2 h0 h)
    have st:je (upd H a (.lst (kdV k'))) (.ref c) y:=%[c,O|by rw[aj ne];exact hc]
    by_cases l:n<=i
    ·rw[Mw l,show i - n=(i - (n+1))+1 by omega,List.set_cons_succ];rw[Mw ⋯]at ih;exact .cons st ih
    ·rw[Mu l];rw[Mu ⋯]at ih;exact .cons st ih
 have:=go 0 r.1 λ j x hj=>by rw[Nat.zero_add];exact hj
 rwa [Mw (E8 _),Nat.sub_zero]at this
theorem RwL.keep{H H':Hp}{rs:Mo V}{ks:Mo Kd}(k:∀a xs,V.ref a∈rs->H a=↥xs->H' a=↥xs)(r:RwL H rs ks):RwL H' rs ks:=by
 refine%[?_|r.2];have go:∀{xs:Mo V}{ys:Mo Kd},(∀x∈xs,x∈rs)->Paired (je H) xs ys->Paired (je H') xs ys:=by
  intro xs ys hm p
  induction p with
  | nil=>exact .nil
  | cons h _ ih=>
   obtain⟨a,rfl,ha⟩:=h;exact .cons %[a,O|k _ _ (hm _ (B8 ..)) ha] (ih λ x hx=>hm x (B5 _ hx))
 exact go (λ _ h=>h) r.1
theorem RwL.app{H:Hp}{rs:Mo V}{ks:Mo Kd}{a:Mi}{k:Kd}(r:RwL H rs ks)(ha:H a=↥(kdV k))(n:V.ref a∉rs):RwL H (rs ++ [.ref a]) (ks ++ [k]) :=
 ⟨Paired.app r.1 (.cons %[a,rfl|ha] .nil),MQ.mpr ⟨r.2,MA.mpr %[C2|Mb],λ x hx y hy z=>by
  rw[E2.mp hy]at z;exact n (z ▸ hx)⟩⟩
theorem dP{H:Hp}{p a:Mi}{k:Kd}(pt:PotB H p)(ha:H a=↥(kdV k)):a≠p:=λ e=>by obtain⟨_,_,_,_,_,h⟩:=pt;rw[<- e,ha]at h;cases h
def Au(p:Mi)(rs:Mo V)(H H':Hp):Prop:=∀c o,c≠p->V.ref c∉rs->H c=some o->H' c=some o
theorem mw:∀{l:Mo Int}{x:Int},(∀y∈l,0<=y)->x∈l->x<=l.sum
 | z :: l,x,h,m=>by
  have h0:=h z (B8 ..);have hs:=hV λ y hy=>h y (B5 z hy);rw[K7];rcases G7.mp m with rfl | m
  ·omega
  ·have:=mw (λ y hy=>h y (B5 _ hy)) m;omega
theorem gJ:∀{l:Mo Int}{i:Nat}{x y:Int},l[i]?=some y->(l.set i x).sum=l.sum - y+x
 | z :: l,0,x,y,h=>by simp only[List.getElem?_cons_zero,Option.some.injEq]at h;rw[List.set_cons_zero,K7,K7];omega
 | z :: l,i+1,x,y,h=>by rw[List.set_cons_succ,K7,K7,gJ (l:=l) (i:=i) (by simpa using h)];omega
theorem eZ{α:Type}{l:Mo α}{i:Nat}{x y:α}(h:y∈l.set i x):y∈l\/y=x:=List.mem_or_eq_of_mem_set h
def wG:Sp:=λ vs H Q _=>∃(p kl:Mi)(i:Nat)(rs:Mo V)(ks:Mo Kd),vs=[.ref p,.ref kl,.int i]/\PotB H p/\kl≠p/\H kl=↥rs/\RwL H rs ks/\(∀k∈ks,Good k)/\ks.length<=4/\i < ks.length /\
 ∀(kl':Mi)(rs':Mo V)(ks':Mo Kd)(H':Hp),H' kl'=↥rs'->RwL H' rs' ks'->(∀k∈ks',Good k)->1<=ks'.length->ks'.length<=8->6 < (wsK ks').sum->PotB H' p->Au p rs H H'->Q (.ref kl') H'
theorem sctoom:FnScope ["_law_pot_here","_law_kinds","_law_which","_law_found","_law_k"] ["_law_pot_here","_law_kinds","_law_which"] (defScope eY):=%[O,O,O,∅,O,∅|∅]
theorem yy{f:Mi}{fd:F9}(F:Fun K "_law_too_many" "_law_too_many" eY f fd)(B:Blt mg)(DD:Dn P w K mg base "_law_draw" ["_law_pot_here","_law_many"] 1 (fj))(DG:Dn P w K mg base "_law_great" ["_law_pot_here"] 2 (gh)):FnOk P w K mg base CX0 3 f fd ["_law_pot_here","_law_kinds","_law_which"] (wG):=by
 exists sctoom
 ·obtain⟨p,kl,i,rs,ks,rfl,_⟩:=h
  rfl
 obtain⟨p,kl,i,rs,ks,rfl,pt,nkp,hkl,rw,gk,l4,il,q⟩:=h;have nd:=sctoom.nd;refine%[_,((((DD∩((pv 0)^^^(ag^^^ae)))<*>cx<*>ag)<|>((@bG _ _ _ _ _ _ (ag|||bf|||((DD∩((pv 0)^^^(ag^^^ae)))|||gP|||(DG∪((pv 0)^^^ae)))) (dU ((pv 1)&&&aD&&&(pv 2)) ag bZ) O O O)<<<((pv 1)⁻¹))<|>av)<<<((ff (i:=3) (own:=["_law_k"]) (cs:=["_law_kinds"]) (cap:=[1]) O nd O O O (dC O B.range ((ag|||bf|||(DD∩((pv 0)^^^(ag^^^ae))))^^^ae)) (az (sc:=defScope eY) (N:=["_law_pot_here","_law_kinds","_law_which","_law_found","_law_k"]) O O ∅) (λ _ _ _ _ _=>am (i:=0) (by show List.Nodup (["_law_k","_law_kinds"]:Mo Str) ;decide +kernel) O (Or.inl O) (Or.inr O)) (λ _ _ _ _ _=>aJ) (λ _ _ _ _ _=>((mM (r:=rSlL K) qM (aN (r:=rIxL K) aD (pv 1) ((pv 0)|||eM|||(ap (r:=vC K) aE O B.len M8 ((pv 1)^^^ae))) (λ _ _=>O)) qI (qJ ag))|||eO|||(@aX _ _ _ _ (ag^^^(cw^^^ae))))))<<<((@bU _ _ _ _ _ _ _ _ E4 O (dC O B.range ((ag|||bf|||(DD∩((pv 0)^^^(ag^^^ae))))^^^ae)) (am (i:=4) nd O (Or.inl O)) (@ai _ _ _ (@bG _ _ _ _ _ _ ((((pv 3)&&&aD&&&((pv 4)|||eM|||(@ap _ _ _ _ _ _ _ _ _ aE O B.len M8 ((pv 3)^^^ae) ∅ ∅ O O)))&&&aD&&&ag)|||bf|||ag) (dU ((pv 3)&&&aD&&&((pv 4)|||eM|||(@ap _ _ _ _ _ _ _ _ _ aE O B.len M8 ((pv 3)^^^ae) ∅ ∅ O O))) ag bZ) O O O)) (by intro _;rfl))<<<((pv 3)⁻¹))))|?_];have z8:4096<=sizeLine:=∅
 have rl:=E3 rw.1;have l8:rs.length<=4:=⋯
 have kp:∀{Hx Hy:Hp}{rs':Mo V}{ks':Mo Kd},PotB Hx p->But p Hx Hy->RwL Hx rs' ks'->RwL Hy rs' ks':=λ pt b r=>r.keep λ a xs hm e=>by obtain⟨j,hj⟩:=K1.mp hm;obtain⟨k,_,a',ea,ha⟩:=G6 r.1 hj;cases ea;exact b _ _ (dP pt ha) e
 refine iU (λ R=>∀(H':Hp),PotB H' p->But p H H'->R [↑p,↑kl,⇑i,none,none] H') (λ R hR=>?_) ?_
 ·refine%[_,O,p,2,O,pt,∅,∅|λ z H1 z0 z1 pt1 b1=>?_];refine%[O,_,O|?_];have hk1:H1 kl=↥rs:=b1 _ _ nkp hkl;have rw1:=kp pt b1 rw;refine cX (λ cc=>?_) (λ cc=>?_)
  ·obtain⟨k,hk⟩:∃k,ks[i]?=some k:=%[_|F2 il]
   obtain⟨a,hra,ha⟩:=rw1.at hk;have g:=gk k (B6 hk);refine%[_,O,p,2,O,pt1,∅,∅|λ d H2 d0 d1 pt2 b2=>%[_,O,p,O,pt2|λ e H3 e0 e1 pt3 b3=>?_]];have e1:e < 10 ^ 58:=e1;have de:0<=d * e/\d * e < 10 ^ 58:=by
    have:d=0\/d=1:=⋯
    rcases this with rfl | rfl
    ·rw[Int.zero_mul];exact%[E5 0|∅]
    ·rw[Int.one_mul];exact%[e0|e1]
   have na:=dP pt1 ha;have ha3:=b3 _ _ na (b2 _ _ na ha);have hk3:=b3 _ _ nkp (b2 _ _ nkp hk1);have rw3:=kp pt2 b3 (kp pt1 b2 rw1);refine%[_,_,O,O,.inl %[⋯|⋯],_,_,O,O,_,O,_,O,kl,rs,_,_,O,O,G4 hk3,bX hra,a,_,3,3,O,O,ha3,O,_,O|?_];have nk:a≠kl:=λ z=>by rw[z,hk1]at ha;have hl:=NE (λ o:Ml HO=>match o with | ↥l=>l.length | _=>0) ha;have hl:rs.length=5:=hl;omega
   have sw:(wsK (ks.set i { k with wa:=7+d * e })).sum=(wsK ks).sum - k.wa+(7+d * e):=by rw[wsK,List.map_set];exact gJ (by rw[G8,hk];rfl)
   have le:=mw (ws0 λ k h=>(gk k h).wa) (J0.mpr %[k,B6 hk|O]);obtain⟨x1,x2,x3,x4,x5,hp3⟩:=id pt3;refine q kl rs _ _ (by rw[aj (Ne.symm nk)];exact hk3) (rw3.set { k with wa:=7+d * e } hra) (λ k' hk'=>?_) (by rw[MO];omega) (by rw[MO];omega) (by rw[sw];omega) %[x1,x2,x3,x4,x5|by rw[aj (Ne.symm na)];exact hp3] λ c o n1 n2 hc=>?_
   ·rcases eZ hk' with h | rfl
    ·exact gk _ h
    ·have e60:(7:Int)+10 ^ 58 < 10 ^ 60:=∅
     exact%[g.w,g.h,g.wo,by show 0<=7+d * e;omega,g.w',g.h',g.wo'|by show 7+d * e < 10 ^ 60;omega]
   ·rw[aj (λ z=>n2 (by rw[z];exact B6 hra))];exact b3 _ _ n1 (b2 _ _ n1 (b1 _ _ n1 hc))
  ·exact hR _ pt1 b1
 rintro H1 pt1 b1;have hk1:H1 kl=↥rs:=b1 _ _ nkp hkl;have rw1:=kp pt b1 rw;refine ao (λ R=>∀(fl:Mi)(us:Mo V)(fs:Mo Kd)(H':Hp),H1 fl=none->H' fl=↥us->RwL H' us fs->((∀c,V.ref c∈us->H1 c=none))->(∀k∈fs,Good k/\k.wa=0)->2<=us.length->us.length<=8->PotB H' p->But p H1 H'->R [↑p,↑kl,⇑i,↑fl,none] H') (λ Dd hR=>?_) ?_
 ·refine%[_,O,p,7,O,pt1,∅,∅|λ y H2 y0 y1 pt2 b2=>%[_,_,O,O,_,O,⋯,⋯|?_]];have hk2:H2 kl=↥rs:=b2 _ _ nkp hk1;have rw2:=kp pt1 b2 rw1;obtain⟨m,em⟩:∃m:Nat,2+y=m:=%[(2+y).toNat|⋯]
  rw[em,LS];refine gp (lo:=0) (n:=m) (λ j us Hx=>∃fs:Mo Kd,Same H2 Hx/\RwL Hx us fs/\(∀c,V.ref c∈us->H2 c=none)/\(∀k∈fs,Good k/\k.wa=0)/\us.length=j) %[[],Same.refl _,%[.nil|Mb],(λ c h=>absurd h C2),(λ k h=>absurd h C2)|rfl] ?_ ?_
  ·rintro j us Hx hj ⟨fs,sx,ru,un,gf,ul⟩;refine%[⋯,leS.set rfl|aK ?_];have hkx:=sx _ _ hk2;have l0:(0:Int) < rs.length:=⋯
   have md:(0+(j:Int)) % (rs.length:Int)=((j % rs.length:Nat):Int):=by rw[MV];rfl
   have jl:j % rs.length < ks.length:=by have:=Nat.mod_lt j (show 0 < rs.length by omega);omega
   obtain⟨k,hk⟩:∃k,ks[j % rs.length]?=some k:=%[_|F2 jl]
   obtain⟨a,hra,ha⟩:=rw2.at hk;have g:=gk k (B6 hk);refine%[_,O,_,O,_,O,kl,rs,O,.inl (G4 hkx),_,_,O,O,l0,kl,rs,_,_,O,O,G4 hkx,md ▸ bX hra|?_];refine%[_,O,a,_,O,G4 (sx _ _ ha)|λ p1 hp1=>?_];rw[show rS (kdV k) none (some 3)=[.int k.w,.int k.h,.int k.wo]from rfl];refine aH hp1 λ H4 k4 s4=>?_;refine%[∅|λ p2 hp2=>?_];refine aH hp2 λ H5 k5 s5=>?_;refine%[p1,p2,_,_,O,O,s5 _ _ k4,k5,by show 5<=sizeLine;omega|λ p3 hp3=>?_];have s6:=G2 hp3 (o:=.lst ([.int k.w,.int k.h,.int k.wo] ++ [.int 0,.bl false]));have sxn:=sx.trans (s4.trans (s5.trans s6));have p30:Hx p3=none:=s4.free (s5.free hp3);have ru':RwL (upd H5 p3 (.lst ([.int k.w,.int k.h,.int k.wo] ++ [.int 0,.bl false]))) us fs:=ru.keep λ b xs _ e=>s6 _ _ (s5 _ _ (s4 _ _ e));refine Nx.of hj %[fs ++ [%[k.w,k.h,k.wo,0|false]],sxn,ru'.app (ah) λ z=>?_,λ c hc=>?_,λ k' hk'=>?_|by rw[J5,ul];rfl]
   ·obtain⟨q',hq'⟩:=K1.mp z;obtain⟨_,_,a',ea,ha'⟩:=G6 ru.1 hq';cases ea;rw[p30]at ha';cases ha'
   ·rcases C4.mp hc with h | h
    ·exact un c h
    ·cases E2.mp h;exact sx.free p30
   ·rcases C4.mp hk' with h | h
    ·exact gf k' h
    ·cases E2.mp h;exact%[%[g.w,g.h,g.wo,E5 0,g.w',g.h',g.wo'|show(0:Int) < 10 ^ 60 by decide]|O]
  ·rintro us Hx ⟨fs,sx,ru,un,gf,ul⟩;refine%[⋯|λ fl hfl=>?_];have n1:∀c,H2 c=none->H1 c=none:=λ c e=>by
    cases h:H1 c with
    | none=>rfl
    | some o=>
     by_cases z:c=p
     ·subst z;obtain⟨_,_,_,_,_,h2⟩:=pt2;rw[e]at h2;cases h2
     ·rw[b2 _ _ z h]at e;cases e
   have sn:=G2 hfl (o:=.lst us);exact hR fl us fs _ (n1 _ (sx.free hfl)) ah (ru.keep λ b xs _ e=>sn _ _ e) (λ c h=>n1 _ (un c h)) gf ⋯ ⋯ (pt2.same (sx.trans sn)) (λ c o n e=>sn _ _ (sx _ _ (b2 _ _ n e)))
 rintro fl us fs H2 fl0 hfl ru un gf u2 u8 pt2 b2;refine ao (λ R=>∀(v:Ml V)(n:Nat)(fs':Mo Kd)(H':Hp),7<=n->H' fl=↥us->RwL H' us fs'->(∀k∈fs',Good k)->(wsK fs').sum=n->PotB H' p->Au p us H2 H'->R [↑p,↑kl,⇑i,↑fl,v] H') (λ Dd hR=>?_) ?_
 ·refine%[_,O,p,3,O,pt2,∅,∅|λ y H3 y0 y1 pt3 b3=>%[_,_,O,O,_,O,⋯,⋯|?_]];obtain⟨m,em⟩:∃m:Nat,7+y=m:=%[(7+y).toNat|⋯]
  rw[em,LS];have nfp:fl≠p:=λ e=>by obtain⟨_,_,_,_,_,h⟩:=pt1;rw[<- e,fl0]at h;cases h
  have ru3:=kp pt2 b3 ru;have fl3:=b3 _ _ nfp hfl;refine gO (lo:=0) (n:=m) (λ j σ' H'=>∃(v:Ml V)(fs':Mo Kd),σ'=[↑p,↑kl,⇑i,↑fl,v]/\H' fl=↥us/\RwL H' us fs'/\(∀k∈fs',Good k)/\(wsK fs').sum=j/\PotB H' p/\Au p us H2 H') %[none,fs,rfl,fl3,ru3,(λ k h=>(gf k h).1),?_,pt3|λ c o n1 _ e=>b3 _ _ n1 e] ?_ ?_
  ·have:∀{l:Mo Kd},(∀k∈l,Good k/\k.wa=0)->(wsK l).sum=0:=by
    intro l
    induction l with
    | nil=>exactλ _=>rfl
    | cons k l ih=>
     intro h;have h1:=ih λ k hk=>h k (B5 _ hk);have h2:=(h k (B8 ..)).2;show k.wa+(wsK l).sum=0;omega
   exact this gf
  ·rintro j σ Hx hj ⟨v,fs',rfl,hfx,rx,gx,sx,px,bx⟩;have el:=E3 rx.1;have l0:(0:Int) < us.length:=⋯
   have md:(0+(j:Int)) % (us.length:Int)=((j % us.length:Nat):Int):=by rw[MV];rfl
   have jl:j % us.length < fs'.length:=by have:=Nat.mod_lt j (show 0 < us.length by omega);omega
   obtain⟨k,hk⟩:∃k,fs'[j % us.length]?=some k:=%[_|F2 jl]
   obtain⟨a,hra,ha⟩:=rx.at hk;have g:=gx k (B6 hk);have mem:=B6 hra;have na:=dP px ha;have nf:a≠fl:=λ z=>by
    rw[z,hfx]at ha;have e:us=kdV k:=by injection ha with e;injection e
    rw[e]at mem;simp[kdV]at mem
   have le:=mw (ws0 λ k h=>(gx k h).wa) (J0.mpr %[k,B6 hk|O]);refine%[_,O,_,O,_,O,fl,us,O,.inl (G4 hfx),_,_,O,O,l0,fl,us,_,_,O,O,G4 hfx,md ▸ bX hra|?_];refine%[a,_,3,_,O,O,G4 ha,O,_,_,O,O,_,O,_,O,_,O,fl,us,O,.inl (G4 hfx),_,_,O,O,l0,fl,us,_,_,O,O,G4 hfx,md ▸ bX hra,a,_,3,3,O,O,ha,O|?_];obtain⟨x1,x2,x3,x4,x5,hpx⟩:=id px;have e60:(20:Int) < 10 ^ 60:=∅
   refine⟨_,fs'.set (j % us.length) { k with wa:=k.wa+1 },O,by rw[aj (Ne.symm nf)];exact hfx,rx.set { k with wa:=k.wa+1 } hra,λ k' hk'=>?_,?_,%[x1,x2,x3,x4,x5|by rw[aj (Ne.symm na)];exact hpx],λ c o n1 n2 e=>?_⟩
   ·rcases eZ hk' with h | rfl
    ·exact gx _ h
    ·exact%[g.w,g.h,g.wo,by have:=g.wa;show 0<=k.wa+1;omega,g.w',g.h',g.wo'|by show k.wa+1 < 10 ^ 60;omega]
   ·rw[wsK,List.map_set,gJ (y:=k.wa) (by rw[G8,hk];rfl)];show(wsK fs').sum - k.wa+(k.wa+1)=((j+1:Nat):Int)
    omega
   ·rw[aj (λ z=>n2 (by rw[z];exact mem))];exact bx _ _ n1 n2 e
  ·rintro σ Hx ⟨v,fs',rfl,hfx,rx,gx,sx,px,bx⟩;exact hR v m fs' _ ⋯ hfx rx gx sx px bx
 rintro v n fs' H3 n7 hfl3 ru3 gf3 sm pt3 b3;have e1:=E3 ru3.1;refine%[_,O|q fl us fs' H3 hfl3 ru3 gf3 ⋯ ⋯ ⋯ pt3 λ c o n1 n2 e=>b3 _ _ n1 (λ z=>?_) (b2 _ _ n1 (b1 _ _ n1 e))];have:=un c z;rw[b1 _ _ n1 e]at this;cases this
theorem tR{H:Hp}{x dx C:Mi}(h1:H x=none)(h2:H dx=none):Same H (upd (upd H dx (.own x)) x (.ins C dx [])):=λ c o e=>by rw[aj (ak e h1),aj (ak e h2)];exact e
def KdS(m n:Nat)(k:Kd):Prop:=1<=k.w/\k.w<=m/\1<=k.h/\k.h<=n/\k.wo=1/\0<=k.wa/\k.wa<=1/\k.tu=false
def Av(m n:Nat)(bad:Int)(ks:Mo Kd):Prop:=(∀k∈ks,Good k)/\1<=ks.length/\ks.length<=8/\(bad=1->6 < (wsK ks).sum)/\(bad≠1->(wsK ks).sum<=5)/\(bad=2->awF ks (m,n)=false)/\(bad=0->awF ks (m,n)=true)/\(bad=3->∀k∈ks,k.wa=0)
theorem mx:∀{ks:Mo Kd},(∀k∈ks,k.wa<=1)->(wsK ks).sum<=ks.length
 | [],_=>E5 0
 | k :: ks,h=>by
  have h1:=mx λ k' hk=>h k' (B5 k hk);have h2:=h k (B8 ..);show k.wa+(wsK ks).sum<=((ks.length+1:Nat):Int)
  omega
theorem rF{i:Nat}:∀(ks:Mo Kd)(j:Nat),(∃k,j<=i/\ks[i - j]?=some k)->(i,false)∈lyK ks j
 | [],_,h=>by obtain⟨k,_,h⟩:=h;simp at h
 | k :: r,j,h=>by
  obtain⟨k',l,h⟩:=h;refine C4.mpr ?_
  by_cases e:j=i
  ·subst e;exact .inl (B8 ..)
  ·refine .inr (rF r (j+1) %[k',⋯|?_]);rw[show i - j=(i - (j+1))+1 by omega,List.getElem?_cons_succ]at h;exact h
theorem Aw{ks:Mo Kd}{i m n:Nat}{k:Kd}(hk:ks[i]?=some k)(wa:k.wa≠0)(w:(m:Int) < k.w)(tu:k.tu=false):awF ks (m,n)=false:=by
 refine List.all_eq_false.mpr %[_,J0.mpr %[i,LM.mpr (A6.mp hk).1|O]|?_];have h1:waA ks i≠0:=by unfold waA;rw[hk];exact wa
 have h2:i∉iM ks (m,n):=λ z=>by
  obtain⟨⟨i',t⟩,hq,rfl⟩:=J0.mp z;obtain⟨hq,hf⟩:=MJ.mp hq;obtain⟨_,k',hk',tt⟩:=lY hq;rw[Nat.sub_zero]at hk';have hk':ks[i']?=some k':=hk';rw[hk]at hk';cases hk';rcases tt with tt | tt
  ·have tt:t=false:=tt;subst tt;unfold gv at hf;rw[hk]at hf;simp[oZ,sd1,sd2]at hf;omega
  ·simp[bJ,tu]at tt
 simp[h1,h2]
theorem EG{ks:Mo Kd}{m n:Nat}(g:∀k∈ks,KdS m n k):awF ks (m,n)=true:=by
 refine MT.mpr λ x hx=>?_;obtain⟨i,hi,rfl⟩:=J0.mp hx;have il:=LM.mp hi;obtain⟨k,hk⟩:∃k,ks[i]?=some k:=%[_|F2 il]
 have gk:=g k (B6 hk);have h2:i∈iM ks (m,n):=J0.mpr ⟨(i,false),MJ.mpr ⟨rF ks 0 %[k,E8 _|hk],by
  unfold gv;rw[show ks[((i,false):Nat×Bool).1]?=some k from hk];have h1:=gk.2.1;have h2:=gk.2.2.2.1;simp[oZ,sd1,sd2,h1,h2]⟩,rfl⟩
 simp[h2]
def rG(C:Mi):Sp:=λ vs H Q _=>∃(p:Mi)(m n:Nat)(bad:Int),vs=[.ref p,.int m,.int n,.int bad]/\PotB H p/\1<=m/\m<=4/\1<=n/\n<=4/\0<=bad/\bad < 4 /\
 ∀(t:Mi)(b:Int)(ks:Mo Kd)(H':Hp),ShopAt C H' t b ks->0<=b->b < 3->Av m n bad ks->PotB H' p->But p H H'->Q (.ref t) H'
theorem scshopw:FnScope ["_law_pot_here","_law_wide","_law_high","_law_bad","_law_kinds","_law_k","_law_which"] ["_law_pot_here","_law_wide","_law_high","_law_bad"] (defScope nw):=%[O,O,O,∅,O,∅|∅]
theorem wH{f:Mi}{fd:F9}(F:Fun K "_law_shop" "_law_shop" nw f fd){C:Mi}(B:Blt mg)(DD:Dn P w K mg base "_law_draw" ["_law_pot_here","_law_many"] 1 (fj))(DG:Dn P w K mg base "_law_great" ["_law_pot_here"] 2 (gh))(DT:Dn P w K mg base "_law_too_many" ["_law_pot_here","_law_kinds","_law_which"] 3 (wG))(DSh:Kn P w K mg base "Shop" C ["self","blade","kinds"] 3 (oF C)):FnOk P w K mg base CX0 5 f fd ["_law_pot_here","_law_wide","_law_high","_law_bad"] (rG C):=by
 exists scshopw
 ·obtain⟨p,m,n,bad,rfl,_⟩:=h
  rfl
 obtain⟨p,m,n,bad,rfl,pt,m1,m4,n1,n4,b0,b4,q⟩:=h;have nd:=scshopw.nd;refine%[_,((4∣(@aX _ _ _ _ ae))<<<((@bU _ _ _ _ _ _ _ _ E4 O (dC O B.range ((ag|||bf|||(DD∩((pv 0)^^^(ag^^^ae))))^^^ae)) (am (i:=5) nd O (Or.inl O)) (@ai _ _ _ (@bq _ _ _ _ (@iZ _ _ _ _ _ _ _ _ _ _ _ _ F6 PySem.F.slot_list_append PySem.F.type_list_append fc (pv 4) ((@aX _ _ _ _ ((ag|||bf|||(DD∩((pv 0)^^^((pv 1)^^^ae))))^^^((ag|||bf|||(DD∩((pv 0)^^^((pv 2)^^^ae))))^^^(ag^^^((DD∩((pv 0)^^^(ag^^^ae)))^^^(cw^^^ae))))))^^^ae) O O O O O) O)) (by intro _;rfl))<<<((6∣(DD∩((pv 0)^^^((@ap _ _ _ _ _ _ _ _ _ aE O B.len PySem.boot_len ((pv 4)^^^ae) ∅ ∅ O O)^^^ae))))<<<((((pv 3)<*>cx<*>ag)<|>((@bG _ _ _ _ _ _ ((((pv 4)&&&aD&&&(pv 6))&&&aD&&&ag)|||bf|||((pv 1)|||gP|||(@aT _ _ _ _ _ _ _ _ _ rO O B.int PyProof.Rows.boot_int ((@bF _ _ _ _ _ _ _ _ cx (DD∩((pv 0)^^^(ag^^^ae))) ag (ay _))^^^ae) ∅ ∅ O O))) (dU ((pv 4)&&&aD&&&(pv 6)) ag bZ) O O O)>>>(4∣(DT∩((pv 0)^^^((pv 4)^^^((pv 6)^^^ae))))))<|>av)<<<((((pv 3)<*>cx<*>ag)<|>((@bG _ _ _ _ _ _ (((pv 1)|||bf|||ag)|||bf|||((DD∩((pv 0)^^^(ag^^^ae)))|||gP|||(DG∩((pv 0)^^^ae)))) (dU ((pv 4)&&&aD&&&(pv 6)) ag bZ) O O O)>>>(@bG _ _ _ _ _ _ (ag|||bf|||(DD∩((pv 0)^^^(ag^^^ae)))) (dU ((pv 4)&&&aD&&&(pv 6)) ag bZ) O O O))<|>av)<<<((((pv 3)<*>cx<*>ag)<|>(@ai _ _ _ (ff (i:=4) (own:=["_law_kind"]) (cs:=[]) (cap:=[]) O nd O O O (bE (pv 4)) (az (sc:=defScope nw) (N:=["_law_pot_here","_law_wide","_law_high","_law_bad","_law_kinds","_law_k","_law_which"]) O O ∅) (λ _ _ _ _ _=>am (i:=0) (by show List.Nodup (["_law_kind"]:Mo Str) ;decide +kernel) O (Or.inl O) (Or.inr O)) (λ _ _ _ _ _=>aJ) (λ _ _ _ _ _=>((mM (r:=rSlL K) qM (pv 0) qI (qJ ag))|||eO|||(@aX _ _ _ _ (ag^^^((aN (r:=rIxL K) aD (pv 0) ag (λ _ _=>O))^^^ae)))))))<|>av)<<<((En DSh hr O ((DD∩((pv 0)^^^(ag^^^ae)))^^^((pv 4)^^^ae)))⁻¹)))))))|?_];have z8:4096<=sizeLine:=∅
 have kp:∀{Hx Hy:Hp}{rs':Mo V}{ks':Mo Kd},PotB Hx p->But p Hx Hy->RwL Hx rs' ks'->RwL Hy rs' ks':=λ pt b r=>r.keep λ a xs hm e=>by obtain⟨j,hj⟩:=K1.mp hm;obtain⟨k,_,a',ea,ha⟩:=G6 r.1 hj;cases ea;exact b _ _ (dP pt ha) e
 refine ao (λ R=>∀kl (H':Hp),H kl=none->H' kl=↥[]->Same H H'->R [↑p,⇑m,⇑n,⇑bad,↑kl,none,none] H') (λ Dd hR=>?_) ?_
 ·exact%[∅|λ kl hkl=>hR kl _ hkl ah (G2 hkl)]
 rintro kl H1 kl0 hk1 s1;have nkp:kl≠p:=λ e=>by obtain⟨_,_,_,_,_,h⟩:=pt;rw[<- e,kl0]at h;cases h
 have pt1:=pt.same s1;have m9:(m:Int)<=10 ^ 60:=Me (show(m:Int)<=4 by omega) ∅;have n9:(n:Int)<=10 ^ 60:=Me (show(n:Int)<=4 by omega) ∅;refine ao (λ R=>∀(v:Ml V)(rs:Mo V)(ks:Mo Kd)(H':Hp),H' kl=↥rs->RwL H' rs ks->((∀c,V.ref c∈rs->H c=none))->(∀k∈ks,KdS m n k)->1<=ks.length->ks.length<=4->PotB H' p->But p H H'->R [↑p,⇑m,⇑n,⇑bad,↑kl,v,none] H') (λ Dd hR=>?_) ?_
 ·refine%[_,O,p,4,O,pt1,∅,∅|λ y H2 y0 y1 pt2 b2=>%[_,_,O,O,_,O,⋯,⋯|?_]];obtain⟨l,em⟩:∃l:Nat,1+y=l:=%[(1+y).toNat|⋯]
  rw[em,LS];refine gO (lo:=0) (n:=l) (λ j σ' H'=>∃(v:Ml V)(rs:Mo V)(ks:Mo Kd),σ'=[↑p,⇑m,⇑n,⇑bad,↑kl,v,none]/\H' kl=↥rs/\RwL H' rs ks/\(∀c,V.ref c∈rs->H c=none)/\(∀k∈ks,KdS m n k)/\ks.length=j/\PotB H' p/\But p H H') %[none,[],[],rfl,b2 _ _ nkp hk1,%[.nil|Mb],(λ c h=>absurd h C2),(λ k h=>absurd h C2),rfl,pt2|λ c o n e=>b2 _ _ n (s1 _ _ e)] ?_ ?_
  ·rintro j σ Hx hj ⟨v,rs,ks,rfl,hkx,rx,ux,gx,lx,px,bx⟩;have el:=E3 rx.1;refine%[_,O,.inl %[O,_|G4 hkx],_,O,_,O,p,_,O,px,⋯,m9|λ x H3 x0 x1 pt3 b3=>%[_,_,O,O,_,O,_,O,p,_,O,pt3,⋯,n9|λ u H4 u0 u1 pt4 b4=>%[_,_,O,O,_,O,p,2,O,pt4,∅,∅|λ e H5 e0 e1 pt5 b5=>?_]]];refine%[by show 5<=sizeLine;omega|λ a ha=>?_];have bx5:But p Hx H5:=λ c o n e=>b5 _ _ n (b4 _ _ n (b3 _ _ n e));have s6:=G2 ha (o:=.lst [.int (1+x),.int (1+u),.int 1,.int e,.bl false]);have hk5:H5 kl=↥rs:=bx5 _ _ nkp hkx;have nak:a≠kl:=λ z=>by rw[z,hk5]at ha;cases ha
   have nap:a≠p:=λ z=>by obtain⟨_,_,_,_,_,h⟩:=pt5;rw[<- z,ha]at h;cases h
   have a0:H a=none:=by
    cases h:H a with
    | none=>rfl
    | some o=>rw[bx5 _ _ nap (bx _ _ nap h)]at ha;cases ha
   have nkr:V.ref kl∉rs:=λ z=>by obtain⟨q',hq'⟩:=K1.mp z;obtain⟨k',_,a',ea,ha'⟩:=G6 rx.1 hq';cases ea;rw[hkx]at ha';have hl:=NE (λ o:Ml HO=>match o with | ↥l=>l.length | _=>0) ha';have hl:rs.length=5:=hl;omega
   have rx5:RwL H5 rs ks:=kp pt4 b5 (kp pt3 b4 (kp px b3 rx));have rx6:RwL (upd (upd H5 a (.lst [.int (1+x),.int (1+u),.int 1,.int e,.bl false])) kl (.lst (rs ++ [.ref a]))) rs ks:=rx5.keep λ c xs hm e=>by rw[aj (λ z=>nkr (by rw[<- z];exact hm))];exact s6 _ _ e
   obtain⟨x1',x2',x3',x4',x5',hp5⟩:=id pt5;refine%[kl,rs,_,O,O,s6 _ _ hk5,⋯,_,rs ++ [.ref a],ks ++ [%[1+x,1+u,1,e|false]],O,ah,rx6.app (by rw[aj nak];exact ah) (λ z=>?_),λ c hc=>?_,λ k hk=>?_,by rw[J5,lx];rfl,%[x1',x2',x3',x4',x5'|by rw[aj (Ne.symm nkp)];exact s6 _ _ hp5]|λ c o n e=>?_]
   ·obtain⟨q',hq'⟩:=K1.mp z;obtain⟨_,_,a',ea,ha'⟩:=G6 rx5.1 hq';cases ea;rw[ha]at ha';cases ha'
   ·rcases C4.mp hc with h | h
    ·exact ux c h
    ·cases E2.mp h;exact a0
   ·rcases C4.mp hk with h | h
    ·exact gx k h
    ·cases E2.mp h;exact%[by show 1<=1+x;omega,by show 1+x<=m;omega,by show 1<=1+u;omega,by show 1+u<=n;omega,O,e0,by show e<=1;omega|O]
   ·rw[aj (λ z=>by rw[z,kl0]at e;cases e)];exact s6 _ _ (bx5 _ _ n (bx _ _ n e))
  ·rintro σ Hx ⟨v,rs,ks,rfl,hkx,rx,ux,gx,lx,px,bx⟩;exact hR v rs ks _ hkx rx ux gx ⋯ ⋯ px bx
 rintro v rs ks H2 hk2 r2 u2 g2 l1 l4 pt2 b2;have rl2:=E3 r2.1;refine ao (λ R=>∀(i:Nat)(H':Hp),i < ks.length->PotB H' p->But p H2 H'->R [↑p,⇑m,⇑n,⇑bad,↑kl,v,⇑i] H') (λ Dd hR=>?_) ?_
 ·refine%[_,O,_,O,kl,rs,O,.inl (G4 hk2),p,_,O,pt2,⋯,Me (show(rs.length:Int)<=4 by omega) ∅|λ y H3 y0 y1 pt3 b3=>?_];obtain⟨i,rfl⟩:∃i:Nat,y=i:=%[y.toNat|⋯]
  exact hR i _ ⋯ pt3 b3
 rintro i H3 il pt3 b3;have hk3:=b3 _ _ nkp hk2;have r3:=kp pt2 b3 r2;have b03:But p H H3:=λ c o n e=>b3 _ _ n (b2 _ _ n e);have e60:(1000:Int) < 10 ^ 60:=∅
 have kg:∀{k:Kd},KdS m n k->Good k:=λ h=>%[h.1,h.2.2.1,by have:=h.2.2.2.2.1;omega,h.2.2.2.2.2.1,by have:=h.2.1;omega,by have:=h.2.2.2.1;omega,by have:=h.2.2.2.2.1;omega|by have:=h.2.2.2.2.2.2.1;omega]
 obtain⟨k,hk⟩:∃k,ks[i]?=some k:=%[_|F2 il]
 have km:=g2 k (B6 hk);obtain⟨a,hra,ha⟩:=r3.at hk;have ua:=u2 a (B6 hra);have na:=dP pt3 ha;have nk:a≠kl:=λ z=>by rw[z,hk3]at ha;have hl:=NE (λ o:Ml HO=>match o with | ↥l=>l.length | _=>0) ha;have hl:rs.length=5:=hl;omega
 have upd_pot:∀{Hx:Hp}{o:HO},PotB Hx p->PotB (upd Hx a o) p:=λ h=>by obtain⟨x1,x2,x3,x4,x5,h⟩:=h;exact%[x1,x2,x3,x4,x5|by rw[aj (Ne.symm na)];exact h]
 have upd_but:∀{Hx:Hp}{o:HO},But p H Hx->But p H (upd Hx a o):=λ h c o n e=>by rw[aj (λ z=>by rw[z,ua]at e;cases e)];exact h _ _ n e
 refine bH (λ σ' H'=>∃(kl':Mi)(rs':Mo V)(ks':Mo Kd),σ'=[↑p,⇑m,⇑n,⇑bad,↑kl',v,⇑i]/\H' kl'=↥rs'/\RwL H' rs' ks'/\PotB H' p/\But p H H'/\((bad=1/\(∀k∈ks',Good k)/\1<=ks'.length/\ks'.length<=8/\6 < (wsK ks').sum)\/(bad≠1/\kl'=kl/\rs'=rs/\ks'=ks/\H'=H3))) (λ R hR=>?_) ?_
 ·refine%[_,O,O,_,O|?_];refine cX (λ cc=>?_) (λ cc=>?_)
  ·have c1:bad=1:=V.int.inj (C1 cc);refine bH (λ σ' H'=>∃(ks':Mo Kd),σ'=[↑p,⇑m,⇑n,⇑bad,↑kl,v,⇑i]/\H' kl=↥rs/\RwL H' rs ks'/\(∀k∈ks',Good k)/\ks'.length=ks.length/\PotB H' p/\But p H H') (λ R' hR'=>?_) ?_
   ·refine%[_,O,_,O,kl,rs,_,_,O,O,G4 hk3,bX hra,a,_,0,_,O,O,G4 ha,O,_,O,_,O,p,3,O,pt3,∅,∅|λ y H4 y0 y1 pt4 b4=>%[O|.inr %[_,O|?_]]];obtain⟨z,ez,z0,z1⟩:∃z:Int,(if decide (V.int y=V.int 0)=true then(1:Int)else 0)=z/\0<=z/\z<=1:=by split <;> exact%[_,O,∅|∅]
    rw[ez];have ha4:=b4 _ _ na ha;have hk4:=b4 _ _ nkp hk3;have r4:=kp pt3 b4 r3;have mz:0<=(m:Int) * z/\(m:Int) * z<=4:=by
     have:z=0\/z=1:=⋯
     rcases this with rfl | rfl <;> omega
    refine%[_,_,O,O,.inl %[⋯|⋯],_,_,O,O,_,O,_,O,kl,rs,_,_,O,O,G4 hk4,bX hra,a,_,0,0,O,O,ha4,O|hR' _ _ ⟨ks.set i { k with w:=k.w+m * z },O,by rw[aj (Ne.symm nk)];exact hk4,r4.set { k with w:=k.w+m * z } hra,λ k' hk'=>?_,MO,upd_pot pt4,upd_but (λ c o n e=>b4 _ _ n (b03 _ _ n e))⟩];have g:=kg km;rcases eZ hk' with h | rfl
    ·exact kg (g2 _ h)
    ·exact%[by have:=g.w;show 1<=k.w+m * z;omega,g.h,g.wo,g.wa,by have:=km.2.1;show k.w+m * z < 10 ^ 60;omega,g.h',g.wo'|g.wa']
   rintro _ H4 ⟨ks',rfl,hk4,r4,g4,l4',pt4,b4⟩;refine%[_,O,_,O,_,O,p,kl,i,rs,ks',O,pt4,nkp,hk4,r4,g4,⋯,⋯|λ kl' rs' ks'' H5 hk5 r5 g5 a1 a8 a6 pt5 b5=>hR _ _ %[kl',rs',ks'',O,hk5,r5,pt5,λ c o n1 e=>b5 _ _ n1 (λ z=>?_) (b4 _ _ n1 e)|.inl %[c1,g5,a1,a8|a6]]];have:=u2 c z;rw[e]at this;cases this
  ·have c1:bad≠1:=λ z=>cc (by rw[z];exact B0 rfl);exact hR _ _ %[kl,rs,ks,rfl,hk3,r3,pt3,b03|.inr %[c1,rfl,rfl,rfl|rfl]]
 rintro _ H4 ⟨kl4,rs4,ks4,rfl,hk4,r4,pt4,b04,h4⟩;have sl:=mx λ k hk=>(g2 k hk).2.2.2.2.2.2.1;refine bH (λ σ' H'=>∃(kl':Mi)(rs':Mo V)(ks':Mo Kd),σ'=[↑p,⇑m,⇑n,⇑bad,↑kl',v,⇑i]/\H' kl'=↥rs'/\RwL H' rs' ks'/\PotB H' p/\But p H H'/\(∀k∈ks',Good k)/\1<=ks'.length/\ks'.length<=8/\(bad=1->6 < (wsK ks').sum)/\(bad≠1->(wsK ks').sum<=5)/\(bad=2->awF ks' (m,n)=false)/\(bad=0->awF ks' (m,n)=true)) (λ R hR=>?_) ?_
 ·refine%[_,O,O,_,O|?_];refine cX (λ cc=>?_) (λ cc=>?_)
  ·have c2:bad=2:=V.int.inj (C1 cc);obtain⟨_,rfl,rfl,rfl,rfl⟩:bad≠1/\kl4=kl/\rs4=rs/\ks4=ks/\H4=H3:=h4.resolve_left λ z=>by have:=z.1;omega
   refine bH (λ σ' H'=>∃x:Int,σ'=[↑p,⇑m,⇑n,⇑bad,↑kl4,v,⇑i]/\m < x/\x < 10 ^ 60/\H' kl4=↥rs4/\H' a=↥(kdV { k with w:=x })/\RwL H' rs4 (ks4.set i { k with w:=x })/\PotB H' p/\But p H H') (λ R' hR'=>?_) ?_
   ·refine%[_,O,_,_,O,O,_,O,p,2,O,pt3,∅,∅|λ d H5 d0 d1 pt5 b5=>%[_,O,p,O,pt5|λ e H6 e0 e1 pt6 b6=>?_]];have e1:e < 10 ^ 58:=e1;have de:0<=d * e/\d * e < 10 ^ 58:=by
     have:d=0\/d=1:=⋯
     rcases this with rfl | rfl
     ·rw[Int.zero_mul];exact%[E5 0|∅]
     ·rw[Int.one_mul];exact%[e0|e1]
    have e61:(6:Int)+10 ^ 58 < 10 ^ 60:=∅
    have ha6:=b6 _ _ na (b5 _ _ na ha);have hk6:=b6 _ _ nkp (b5 _ _ nkp hk3);have r6:=kp pt5 b6 (kp pt3 b5 r3);exact%[_,_,O,O,.inl %[⋯|⋯],_,_,O,O,_,O,_,O,kl4,rs4,_,_,O,O,G4 hk6,bX hra,a,_,0,0,O,O,ha6,O|hR' _ _ ⟨m+1+d * e,O,⋯,⋯,by rw[aj (Ne.symm nk)];exact hk6,ah,r6.set { k with w:=m+1+d * e } hra,upd_pot pt6,upd_but (λ c o n e=>b6 _ _ n (b5 _ _ n (b03 _ _ n e)))⟩]
   rintro _ H5 ⟨x,rfl,xm,x60,hk5,ha5,r5,pt5,b05⟩;refine%[_,O,p,2,O,pt5,∅,∅|λ y H6 y0 y1 pt6 b6=>?_];have ha6:=b6 _ _ na ha5;have hk6:=b6 _ _ nkp hk5;have r6:=(kp pt5 b6 r5).set { k with w:=x,wa:=1+y } hra;rw[List.set_set]at r6;have g:=kg km;have s1:(wsK (ks4.set i { k with wa:=1 })).sum=(wsK ks4).sum - k.wa+1:=by rw[wsK,List.map_set];exact gJ (by rw[G8,hk];rfl)
   have s2:=mx (ks:=ks4.set i { k with wa:=1 }) λ k' hk'=>by
    rcases eZ hk' with h | rfl
    ·exact(g2 _ h).2.2.2.2.2.2.1
    ·exact E5 1
   rw[MO]at s2;have sw:(wsK (ks4.set i { k with w:=x,wa:=1+y })).sum=(wsK ks4).sum - k.wa+(1+y):=by rw[wsK,List.map_set];exact gJ (by rw[G8,hk];rfl)
   refine%[_,_,O,O,_,O,_,O,kl4,rs4,_,_,O,O,G4 hk6,bX hra,a,_,3,3,O,O,ha6,O|hR _ _ %[kl4,rs4,_,O,by rw[aj (Ne.symm nk)];exact hk6,r6,upd_pot pt6,upd_but (λ c o n e=>b6 _ _ n (b05 _ _ n e)),λ k' hk'=>?_,by rw[MO];omega,by rw[MO];omega,λ z=>⋯,λ _=>by rw[sw];omega,λ _=>?_|λ z=>⋯]]
   ·rcases eZ hk' with h | rfl
    ·exact kg (g2 _ h)
    ·exact%[by show 1<=x;omega,g.h,g.wo,by show 0<=1+y;omega,x60,g.h',g.wo'|by show 1+y < 10 ^ 60;omega]
   ·exact Aw (i:=i) (k:={ k with w:=x,wa:=1+y }) (by rw[MU il]) (by show 1+y≠0;omega) xm km.2.2.2.2.2.2.2
  ·have c2:bad≠2:=λ z=>cc (by rw[z];exact B0 rfl);rcases h4 with⟨c1,g4,a1,a8,a6⟩ | ⟨c1,rfl,rfl,rfl,rfl⟩
   ·exact hR _ _ %[kl4,rs4,ks4,rfl,hk4,r4,pt4,b04,g4,a1,a8,λ _=>a6,λ z=>absurd c1 z,λ z=>absurd z c2|λ z=>⋯]
   ·exact hR _ _ %[kl4,rs4,ks4,rfl,hk4,r4,pt4,b04,λ k h=>kg (g2 k h),l1,⋯,λ z=>absurd z c1,λ _=>⋯,λ z=>absurd z c2|λ _=>EG g2]
 rintro _ H5 ⟨kl5,rs5,ks5,rfl,hk5,r5,pt5,b05,g5,a1,a8,h1,h2,h3,h0⟩;have rl5:=E3 r5.1;refine ao (λ R=>∀(kl':Mi)(rs':Mo V)(ks':Mo Kd)(H':Hp),H' kl'=↥rs'->RwL H' rs' ks'->PotB H' p->But p H H'->Av m n bad ks'->R [↑p,⇑m,⇑n,⇑bad,↑kl',v,⇑i] H') (λ Dd hR=>?_) ?_
 ·refine%[_,O,O,_,O|?_];refine cX (λ cc=>?_) (λ cc=>?_)
  ·have c3:bad=3:=V.int.inj (C1 cc);refine%[_,O,kl5,O,%[_|G4 hk5]|(bI (K:=K) (.inl hk5) (λ j us Hx=>∃fs:Mo Kd,Same H5 Hx/\RwL Hx us fs/\(∀k∈fs,Good k/\k.wa=0)/\us.length=j) (λ _ us Hx _ ⟨_,sx,_⟩ o e=>sx _ _ e) %[[],Same.refl _,%[.nil|Mb],(λ k h=>absurd h C2)|O] ?_ ?_).1 hk5]
   ·rintro j vx us Hx hvx ⟨fs,sx,ru,gf,ul⟩;obtain⟨k',hk',a',rfl,ha'⟩:=G6 r5.1 hvx;have g:=g5 k' (B6 hk');have hin:=(A6.mp hvx).1;have hax:=sx _ _ ha';refine%[⋯,leS.set rfl|aK ?_];refine%[_,O,_,O,a',_,O,G4 hax|λ p1 hp1=>?_];rw[show rS (kdV k') none (some 3)=[.int k'.w,.int k'.h,.int k'.wo]from rfl];refine aH hp1 λ H7 k7 s7=>?_;refine%[_,O,a',_,4,_,O,O,G4 (s7 _ _ hax),O|?_];refine%[by show 2<=sizeLine;omega|λ p2 hp2=>?_];refine aH hp2 λ H8 k8 s8=>?_;refine%[p1,p2,_,_,O,O,s8 _ _ k7,k8,by show 5<=sizeLine;omega|λ p3 hp3=>?_];have s9:=G2 hp3 (o:=.lst ([.int k'.w,.int k'.h,.int k'.wo] ++ [.int 0,.bl k'.tu]));have p30:Hx p3=none:=s7.free (s8.free hp3);have ru':RwL (upd H8 p3 (.lst ([.int k'.w,.int k'.h,.int k'.wo] ++ [.int 0,.bl k'.tu]))) us fs:=ru.keep λ b xs _ e=>s9 _ _ (s8 _ _ (s7 _ _ e));refine Nx.of hin %[fs ++ [%[k'.w,k'.h,k'.wo,0|k'.tu]],sx.trans (s7.trans (s8.trans s9)),ru'.app (ah) λ z=>?_,λ k'' hk''=>?_|by rw[J5,ul];rfl]
    ·obtain⟨q',hq'⟩:=K1.mp z;obtain⟨_,_,c,ea,hc⟩:=G6 ru.1 hq';cases ea;rw[p30]at hc;cases hc
    ·rcases C4.mp hk'' with h | h
     ·exact gf k'' h
     ·cases E2.mp h;exact%[%[g.w,g.h,g.wo,E5 0,g.w',g.h',g.wo'|show(0:Int) < 10 ^ 60 by decide]|O]
   ·rintro us Hx ⟨fs,sx,ru,gf,ul⟩;refine%[⋯|λ fl hfl=>?_];have sn:=G2 hfl (o:=.lst us);have fl':=E3 ru.1;have z0:∀{l:Mo Kd},(∀k∈l,Good k/\k.wa=0)->(wsK l).sum=0:=by
     intro l
     induction l with
     | nil=>exactλ _=>rfl
     | cons k l ih=>
      intro h;have h1:=ih λ k hk=>h k (B5 _ hk);have h2:=(h k (B8 ..)).2;show k.wa+(wsK l).sum=0;omega
    exact hR fl us fs _ ah (ru.keep λ b xs _ e=>sn _ _ e) (pt5.same (sx.trans sn)) (λ c o n e=>sn _ _ (sx _ _ (b05 _ _ n e))) %[λ k h=>(gf k h).1,⋯,⋯,λ z=>⋯,λ _=>by rw[z0 gf];decide,λ z=>⋯,λ z=>⋯|λ _ k h=>(gf k h).2]
  ·have c3:bad≠3:=λ z=>cc (by rw[z];exact B0 rfl);exact hR kl5 rs5 ks5 _ hk5 r5 pt5 b05 %[g5,a1,a8,h1,h2,h3,h0|λ z=>absurd z c3]
 rintro kl6 rs6 ks6 H6 hk6 r6 pt6 b06 g6;have rl6:=E3 r6.1;refine%[_,O,p,3,O,pt6,∅,∅|λ b H7 y0 y1 pt7 b7=>%[_,O|?_]];have r7:=kp pt6 b7 r6;have np6:kl6≠p:=λ z=>by
  obtain⟨_,_,_,_,_,h⟩:=pt6;rw[<- z,hk6]at h;cases rs6 with
  | nil=>injection h with h;injection h with h;cases h
  | cons x l=>
   obtain⟨y,_,a',ea,_⟩:=G6 (i:=0) r6.1 rfl;subst ea;injection h with h;injection h with h;cases h
 have hk7:=b7 _ _ np6 hk6;intro x dx hx hdx ne0;have sm:Same H7 (upd (upd H7 dx (.own x)) x (.ins C dx [])):=tR hx hdx;obtain⟨gg,ga,g8,_⟩:=id g6;refine⟨x,dx,kl6,b,rs6,ks6,O,ah,y0,.inl (sm _ _ hk7),G5 r7.1 λ v k h=>.inr (by obtain⟨c,e,hc⟩:=h;exact%[c,e|sm _ _ hc]),gg,⋯,⋯,λ Hb Sb kb=>%[O|q x b ks6 Hb Sb y0 y1 g6 ?_ ?_]⟩
 ·obtain⟨x1,x2,x3,x4,x5,hp7⟩:=id pt7;exact%[x1,x2,x3,x4,x5|kb p _ (λ z=>by rw[z,hx]at hp7;cases hp7) (sm _ _ hp7)]
 ·exactλ c o n1 e=>kb c o (λ z=>by have:=b7 _ _ n1 (b06 _ _ n1 e);rw[z,hx]at this;cases this) (sm _ _ (b7 _ _ n1 (b06 _ _ n1 e)))
theorem Room.units220{k:Nat}{A:Around}(r:Room k A)(h:2<=k):A.units+220 < cLine:=by have:=r.un;omega
theorem pG{k:Kd}(g:Good k):Short k.w/\Short k.h/\Short k.wo/\Short k.wa:=by
 obtain⟨a,b,c,d,a',b',c',d'⟩:=g;have e:(10:Int) ^ 60 < 10 ^ 62:=∅
 unfold Short;refine%[?_,?_,?_|?_] <;> omega
theorem EH{k:Kd}(g:Good k):(kdD k).showable=true/\(kdD k).depth<=4/\(kdD k).shown.length<=400:=by
 obtain⟨h1,h2,h3,h4⟩:=pG g;refine%[?_,?_|?_]
 ·simp[kdD,PyData.showable,PyData.showableAll,h1.log,h2.log,h3.log,h4.log]
 ·simp[kdD,PyData.depth,PyData.depthAll]
 ·have l1:=h1.len;have l2:=h2.len;have l3:=h3.len;have l4:=h4.len;have lb:(PyData.shown (.bool k.tu)).length<=63:=by cases k.tu <;> decide +kernel
  have a1:=tupleText_len_le [PyData.shown (.int k.w),PyData.shown (.int k.h),PyData.shown (.int k.wo),PyData.shown (.int k.wa),PyData.shown (.bool k.tu)];have e1:(kdD k).shown=tupleText [PyData.shown (.int k.w),PyData.shown (.int k.h),PyData.shown (.int k.wo),PyData.shown (.int k.wa),PyData.shown (.bool k.tu)]:=by simp only[kdD,PyData.shown,PyData.shownAll]
  rw[e1];simp only[G9,LN,K7,List.sum_nil,J4,MZ]at a1;omega
theorem wI:∀{ks:Mo Kd},(∀k∈ks,Good k)->PyData.showableAll (ks.map kdD)=true/\PyData.depthAll (ks.map kdD)<=4/\((PyData.shownAll (ks.map kdD)).map (·.length)).sum<=400 * ks.length/\(PyData.shownAll (ks.map kdD)).length=ks.length
 | [],_=>%[O,E8 _,E8 _|O]
 | k :: r,h=>by obtain⟨d1,d2,d3⟩:=EH (h k B8);obtain⟨e1,e2,e3,e4⟩:=wI (ks:=r) λ x hx=>h x (B5 _ hx);refine%[by simp only[G9,PyData.showableAll,d1,e1,Bool.and_self],by simp only[G9,PyData.depthAll];omega,?_|by simp only[G9,PyData.shownAll,J4];omega];simp only[PyData.shownAll,G9,K7,J4,Nat.mul_succ];omega
def gL(b:Int)(ks:Mo Kd):PyData:=.tuple [.list (ks.map kdD),.int b]
theorem wJ{ks:Mo Kd}{b:Int}(g:∀k∈ks,Good k)(l:ks.length<=8)(b0:0<=b)(b3:b < 3):(gL b ks).showable=true/\(gL b ks).depth<=64/\(gL b ks).shown.length<=sizeLine:=by
 obtain⟨e1,e2,e3,e4⟩:=wI g;have h5:Short b:=by
  unfold Short;have e:(3:Nat) < 10 ^ 62:=∅
  omega
 refine%[?_,?_|?_]
 ·simp[gL,PyData.showable,PyData.showableAll,e1,h5.log]
 ·simp only[gL,PyData.depth,PyData.depthAll];omega
 ·have l5:=h5.len;have a2:=listText_len_le (PyData.shownAll (ks.map kdD));have a3:=tupleText_len_le [listText (PyData.shownAll (ks.map kdD)),PyData.shown (.int b)];have e5:(gL b ks).shown=tupleText [listText (PyData.shownAll (ks.map kdD)),PyData.shown (.int b)]:=by simp only[gL,PyData.shown,PyData.shownAll]
  rw[e5];simp only[G9,LN,K7,List.sum_nil,J4,MZ]at a3;have:(20000:Nat)<=sizeLine:=∅
  omega
theorem wK{K:C6}{H:Hp}{rs:Mo V}{ks:Mo Kd}(tp:Tups H rs ks):DatDs K H rs (ks.map kdD):=by
 induction tp with
 | nil=>exact .nil
 | cons h _ ih=>
  obtain⟨a,rfl,ha⟩:=h;exact .cons (.tup (G3 ha) (.cons (.int _) (.cons (.int _) (.cons (.int _) (.cons (.int _) (.cons (.bl _) .nil)))))) ih
theorem ij{K:C6}{H:Hp}{l t:Mi}{rs:Mo V}{ks:Mo Kd}{b:Int}(ht:H t= ~~~[.ref l,.int b])(hl:H l=↥rs)(tp:Tups H rs ks):DatD K H (.ref t) (gL b ks) :=
 .tup (G3 ht) (.cons (.lst (G4 hl) (wK tp)) (.cons (.int _) .nil))
theorem wL{ks:Mo Kd}(h:∀k∈ks,k.wa=0):wsK ks=aR ks.length:=by
 induction ks with
 | nil=>rfl
 | cons k r ih=>
  show k.wa :: wsK r=(0:Int) :: List.replicate r.length 0;rw[h k B8,ih λ x hx=>h x (B5 _ hx)]
  rfl
theorem wM{b:Int}{ks:Mo Kd}{p:Int×Int}(h:∀k∈ks,k.wa=0):gI b ks p=[]:=by
 have e:=wL h;have wl:(wsK ks).length=ks.length:=B4 _;have h0:hit (gK b ks p) (wsK ks) 0=true:=by unfold hit lev;rw[wl,e];simp
 have k0:nQ (gK b ks p) (wsK ks)=0:=by
  unfold nQ;rw[show List.range 7=0 :: (List.range 6).map (· + 1)from by decide,MD (by rw[h0])]
  rfl
 unfold gI;rw[k0,e];unfold lev mj;simp
theorem yz{ks:Mo Kd}{p:Int×Int}(h:∀k∈ks,k.wa=0):awF ks p=true:=awF_iff.mpr λ i hi=>.inl (by
 unfold waA;rw[F2 hi];exact h _ (Mc hi))
theorem zo{p a:Mi}{H H':Hp}(b:But p H H')(n:a≠p)(h:H' a=none):H a=none:=by
 cases e:H a with
 | none=>rfl
 | some o=>rw[b _ _ n e]at h;cases h
structure LC74(C p sl t:Mi)(b:Int)(ks:Mo Kd)(wv hv:V)(H0 H:Hp):Prop where
 ns:sl≠p
 s0:H0 sl=none
 hs:H sl=↥[wv,hv]
 sh:ShopAt C H t b ks
 pt:PotB H p
 bt:But p H0 H
theorem LC74.but{C p sl t:Mi}{b:Int}{ks:Mo Kd}{wv hv:V}{H0 H H':Hp}(l:LC74 C p sl t b ks wv hv H0 H)(pt:PotB H' p)(k:But p H H'):LC74 C p sl t b ks wv hv H0 H':=by obtain⟨_,_,_,_,_,hp⟩:=l.pt;exact⟨l.ns,l.s0,k _ _ l.ns l.hs,l.sh.keep (λ x xs e=>k _ _ (λ z=>by rw[z,hp]at e;cases e) e) (λ x C' d fs e=>k _ _ (λ z=>by rw[z,hp]at e;cases e) e),pt,λ c o n e=>k _ _ n (l.bt _ _ n e)⟩
theorem LC74.same{C p sl t:Mi}{b:Int}{ks:Mo Kd}{wv hv:V}{H0 H H':Hp}(l:LC74 C p sl t b ks wv hv H0 H)(k:Same H H'):LC74 C p sl t b ks wv hv H0 H' :=
 %[l.ns,l.s0,k _ _ l.hs,nT k l.sh,l.pt.same k|λ c o n e=>k _ _ (l.bt _ _ n e)]
theorem LC74.set{C p sl t:Mi}{b:Int}{ks:Mo Kd}{wv hv:V}{H0 H:Hp}(l:LC74 C p sl t b ks wv hv H0 H)(wv' hv':V):LC74 C p sl t b ks wv' hv' H0 (upd H sl (.lst [wv',hv'])):=by
 obtain⟨a1,a2,a3,a4,a5,hp⟩:=l.pt;exact⟨l.ns,l.s0,ah,l.sh.keep (λ x xs e=>by rw[aj (λ z=>by rw[z,l.hs]at e;cases e)];exact e) (λ x C' d fs e=>by rw[aj (λ z=>by rw[z,l.hs]at e;cases e)];exact e),%[a1,a2,a3,a4,a5|by rw[aj (Ne.symm l.ns)];exact hp],λ c o n e=>by
  rw[aj (λ z=>by rw[z,l.s0]at e;cases e)];exact l.bt _ _ n e⟩
theorem LC74.nsl{C p sl t:Mi}{b:Int}{ks:Mo Kd}{wv hv:V}{H0 H:Hp}(l:LC74 C p sl t b ks wv hv H0 H){d:Mi}(h:H d=none):d≠sl:=λ z=>by rw[z,l.hs]at h;cases h
theorem OdS.same{H H':Hp}{p:Mi}{v:V}(s:Same H H')(h:OdS H p v):OdS H' p v:=h.mono λ c o _ e=>s c o e
theorem LC74.ods{C p sl t:Mi}{b:Int}{ks:Mo Kd}{wv hv:V}{H0 H:Hp}(l:LC74 C p sl t b ks wv hv H0 H){v:V}{o:HO}(h:OdS H p v):OdS (upd H sl o) p v :=
 h.imp id (Or.imp id (Or.imp id (Or.imp id λ%[a,e,n|h]=>by
  have ns:a≠sl:=λ z=>by rw[z,l.hs]at h;rcases h with h | h <;> cases h
  exact%[a,e,n|by rw[aj ns];exact h])))
def TdB(b:Int)(ks:Mo Kd)(m n:Nat)(H:Hp)(ta:Mi):Prop:=∃ll:Mo ((Int×Int)×V),H ta=some (.dT (byP ll))/\ll.map (·.1)=aL m n/\∀q v,(q,v)∈ll->∃l as,v=.ref l/\H l=↥(as.map V.ref)/\BsA H as (gK b ks q)
theorem TdB.same{b:Int}{ks:Mo Kd}{m n:Nat}{H H':Hp}{ta:Mi}(s:Same H H')(h:TdB b ks m n H ta):TdB b ks m n H' ta:=by obtain⟨ll,h1,h2,h3⟩:=h;exact%[ll,s _ _ h1,h2|λ q v hq=>by obtain⟨l,as,e,g1,g2⟩:=h3 q v hq;exact%[l,as,e,s _ _ g1|g2.keep s.tps]]
theorem nU{K:C6}{n:Nat}{H:Hp}:∀l:Mo Int,Paired (EqL K n H) (l.map V.int) (l.map V.int)
 | []=>.nil
 | x :: r=>.cons (EqL.int x) (nU r)
theorem Ax{K:C6}{n:Nat}{H:Hp}{as:Mo Mi}{bs:Mo (Mo Int)}(h:BsA H as bs):∀{cs:Mo Mi},BsA H cs bs->Paired (EqL K (n+1) H) (as.map V.ref) (cs.map V.ref):=by
 induction h with
 | nil=>intro cs h';cases h';exact .nil
 | cons h _ ih=>
  intro cs h';cases h' with
  | cons g gs=>exact .cons (EqL.tup h g (nU _)) (ih gs)
theorem mB{ll:Mo ((Int×Int)×V)}{k:Mo Key}{v:V}(h:(k,v)∈byP ll):∃q,k=pk q/\(q,v)∈ll:=by obtain⟨⟨q,v'⟩,hm,e⟩:=J0.mp h;cases e;exact%[q,O|hm]
theorem nV{ll:Mo ((Int×Int)×V)}:∀x∈byP ll,iF x.1:=λ x hx k hk=>by
 obtain⟨q,e,_⟩:=mB (k:=x.1) (v:=x.2) hx;rw[e]at hk;rcases G7.mp hk with rfl | hk
 ·exact%[_|O]
 ·rw[E2.mp hk];exact%[_|O]
theorem TdB.eq{K:C6}{b:Int}{ks:Mo Kd}{m n:Nat}{H:Hp}{ta tc:Mi}(h:TdB b ks m n H ta)(h':TdB b ks m n H tc):EqL K 60 H (.ref ta) (.ref tc):=by
 obtain⟨ll,h1,h2,h3⟩:=h;obtain⟨lr,g1,g2,g3⟩:=h';refine EqL.dT (n:=58) h1 g1 nV nV ?_ λ k v hk=>?_
 ·unfold byP;rw[B4,B4,<- B4 (f:=(·.1)) (as:=ll),<- B4 (f:=(·.1)) (as:=lr),h2,g2]
 ·obtain⟨q,rfl,hq⟩:=mB hk;have hp:q∈lr.map (·.1):=by rw[g2,<- h2];exact J0.mpr %[_,hq|O]
  obtain⟨⟨q',v'⟩,hm,rfl⟩:=J0.mp hp;obtain⟨l,as,rfl,a1,a2⟩:=h3 _ _ hq;obtain⟨l',as',rfl,c1,c2⟩:=g3 _ _ hm;exact%[.ref l',J0.mpr %[_,hm|O]|EqL.lst (n:=57) a1 c1 (Ax a2 c2)]
def FewV(b:Int)(ks:Mo Kd)(p:Int×Int)(H:Hp)(v:V):Prop:=(awF ks p=false/\v=.non)\/(awF ks p=true/\∃t tl us,v=.ref t/\H t= ~~~[.int (gI b ks p).length,.ref tl]/\H tl=↥us/\Paired (λ v t=>TrV H t v) us (eK b ks p (wsK ks) (gI b ks p)))
def mC(b:Int)(ks:Mo Kd)(p:Int×Int):PyData:=if awF ks p=true then .tuple [.int (gI b ks p).length,.list ((eK b ks p (wsK ks) (gI b ks p)).map toD)]else .none
theorem FewV.keep{b:Int}{ks:Mo Kd}{p:Int×Int}{H H':Hp}{v:V}(k1:∀a xs,H a= ~~~xs->H' a= ~~~xs)(k2:∀a xs,H a=↥xs->H' a=↥xs)(h:FewV b ks p H v):FewV b ks p H' v :=
 h.imp id λ%[e,t,tl,us,e1,e2,e3|e4]=>%[e,t,tl,us,e1,k1 _ _ e2,k2 _ _ e3|G5 e4 λ v t h=>TrV.keep k1 _ h]
theorem FewV.same{b:Int}{ks:Mo Kd}{p:Int×Int}{H H':Hp}{v:V}(s:Same H H')(h:FewV b ks p H v):FewV b ks p H' v:=h.keep (λ _ _ e=>s _ _ e) (λ _ _ e=>s _ _ e)
theorem yA{K:C6}{H:Hp}{us:Mo V}{ts:Mo Tr}(h:Paired (λ v t=>TrV H t v) us ts):DatVs K H us (ts.map toD):=by
 induction h with
 | nil=>exact .nil
 | cons h _ ih=>exact .cons (TrV.dat _ h) ih
theorem FewV.dat{K:C6}{b:Int}{ks:Mo Kd}{p:Int×Int}{H:Hp}{v:V}(h:FewV b ks p H v):DatV K H v (mC b ks p):=by
 unfold mC;rcases h with⟨e,rfl⟩ | ⟨e,t,tl,us,rfl,e2,e3,e4⟩
 ·rw[Mu (by rw[e];decide)];exact .non
 ·rw[Mw e];exact .tup (G3 e2) (.cons (.int _) (.cons (.lst (G4 e3) (yA e4)) .nil))
theorem rH(b:Int)(ks:Mo Kd):∀(n:Nat)(p:Int×Int)(g c:Mo Int),dpt (tbF b ks n p g c)<=n
 | 0,_,_,_=>B3 _
 | n+1,p,g,c=>by
  rw[tbF]
  split
  ·exact E8 _
  ·split
   ·exact E8 _
   ·exact E8 _
   ·have h1:=rH b ks n;exact Nat.succ_le_succ (Nat.max_le.mpr %[h1 _ _ _|h1 _ _ _])
theorem kZ(b:Int)(ks:Mo Kd)(p:Int×Int):∀(ms:Mo Int)(l:Mo (Mo Int)),PyData.canLayAll0 ((eK b ks p ms l).map toD)=true/\PyData.depthAll ((eK b ks p ms l).map toD)<=18
 | _,[]=>%[O|E8 _]
 | ms,g :: r=>by obtain⟨h1,h2⟩:=kZ b ks p (be ms (bd ms g)) r;have h3:=ie (tbF b ks 17 p g (bd ms g));have h4:=rH b ks 17 p g (bd ms g);rw[eK,G9];refine%[by simp only[PyData.canLayAll0,mh,h1,Bool.and_self]|?_];simp only[PyData.depthAll];omega
theorem yB(b:Int)(ks:Mo Kd)(p:Int×Int):PyData.canLay0 (mC b ks p)=true/\(mC b ks p).depth<=20:=by
 obtain⟨h1,h2⟩:=kZ b ks p (wsK ks) (gI b ks p);unfold mC
 split
 ·refine%[by simp only[PyData.canLay0,PyData.canLayAll0,h1,Bool.and_self]|?_];simp only[PyData.depth,PyData.depthAll];omega
 ·exact%[O|E8 _]
theorem wN{b:Int}{ks:Mo Kd}{p:Int×Int}(b0:0<=b)(p1:1<=p.1)(p2:1<=p.2):(gK b ks p).Nodup:=by rw[rB b0 p p1 p2];exact eA (cr _ _ _ _)
def lc:Sp:=λ vs H Q _=>∃p:Mi,vs=[.ref p]/\PotB H p/\∀H',But p H H'->Q (.bl true) H'
theorem scright:FnScope ["_law_pot_here","_law_sides","_law_bad","_law_shop_here","_law_which","_law_due","_law_kept","_law_told","_law_refused","_law_few","_law_refused_too","_law_part"] ["_law_pot_here"] (defScope jE):=%[O,O,O,∅,O,∅|∅]
theorem wO{f:Mi}{fd:F9}(F:Fun K "_law_right" "_law_right" jE f fd){C:Mi}(B:Blt mg)(SM:SysIn K)(T:ShopTxt K C)(MK:Mn P w K mg base C "kinds" ["self"] 1 (lF C))(MB:Mn P w K mg base C "blade" ["self"] 1 (iO C))(DD:Dn P w K mg base "_law_draw" ["_law_pot_here","_law_many"] 1 (fj))(DG:Dn P w K mg base "_law_great" ["_law_pot_here"] 2 (gh))(DSh:Dn P w K mg base "_law_shop" ["_law_pot_here","_law_wide","_law_high","_law_bad"] 5 (rG C))(DBs:Dn P w K mg base "_law_bad_side" ["_law_pot_here"] 3 (wE))(DAs:Dn P w K mg base "_law_asked" ["_law_way","_law_shop_here","_law_wide","_law_high"] 21 (jU K C)):FnOk P w K mg base CX0 22 f fd ["_law_pot_here"] (lc):=by
 exists scright
 ·obtain⟨p,rfl,_⟩:=h
  rfl
 obtain⟨p,rfl,pt,q⟩:=h;have nd:=scright.nd;have hu:=hr.units;have hu1:=C8 (LW (show 1<=64 by decide) _) hu;have hu6:=hr.units66;have hu2:=Pc.Room.units220 hr ∅;have hg:=hr.gd;refine%[_,((1∣(@aX _ _ _ _ ((ag|||bf|||(DD∩((pv 0)^^^(ag^^^ae))))^^^((ag|||bf|||(DD∩((pv 0)^^^(ag^^^ae))))^^^ae))))<<<((2∣(DD∩((pv 0)^^^(ag^^^ae))))<<<((@aA _ _ 3 _ _ _ _ nd O (Or.inr O) (DSh∩((pv 0)^^^(((pv 1)&&&aD&&&ag)^^^(((pv 1)&&&aD&&&ag)^^^((pv 2)^^^ae))))) O (Or.inl O))<<<((4∣(DD∩((pv 0)^^^(ag^^^ae))))<<<((5∣(@aX _ _ _ _ ae))<<<((((pv 2)<*>cx<*>ag)<|>(@ai _ _ _ (5∣(@aX _ _ _ _ (ag^^^(ag^^^ae)))))<|>av)<<<((((DD∩((pv 0)^^^(ag^^^ae)))<*>cx<*>ag)<|>((@bG _ _ _ _ _ _ (ag|||bf|||((DD∩((pv 0)^^^(ag^^^ae)))|||gP|||(DG∩((pv 0)^^^ae)))) (dU (pv 1) (pv 4) bZ) O O O)>>>(5∣(@aX _ _ _ _ (ag^^^(ag^^^ae)))))<|>av)<<<((((DD∩((pv 0)^^^(ag^^^ae)))<*>cx<*>ag)<|>((@bG _ _ _ _ _ _ (DBs∩((pv 0)^^^ae)) (dU (pv 1) (ag|||dv|||(pv 4)) bZ) O O O)>>>(5∣(@aX _ _ _ _ (ag^^^(ag^^^ae)))))<|>av)<<<((6∣(@ap _ _ _ _ _ _ _ _ _ (jq SM hg hu6) O B.repr PyProof.Rows.boot_repr ((@aP _ _ _ _ _ ((cF (pv 3) T.cl MK (hr.mono ∅))^^^((cF (pv 3) T.cl MB (hr.mono ∅))^^^ae)))^^^ae) ∅ ∅ O O))<<<((@bG _ _ _ _ _ _ (DAs∪(ag^^^((pv 3)^^^(((pv 1)&&&aD&&&ag)^^^(((pv 1)&&&aD&&&ag)^^^ae))))) (uV O (7•(8•bn))) O O O)<<<((@bG _ _ _ _ _ _ (DAs∪(ag^^^((pv 3)^^^(((pv 1)&&&aD&&&ag)^^^(((pv 1)&&&aD&&&ag)^^^ae))))) (bL O (9•(10•bn))) O O O)<<<(((PW.pt (dB ((pv 8)<*>(lT hu2)<*>(pv 5)) (dB ((pv 10)<*>(lT hu2)<*>(pv 5)) (dj ((@ap _ _ _ _ _ _ _ _ _ (jq SM hg hu6) O B.repr PyProof.Rows.boot_repr ((@aP _ _ _ _ _ ((cF (pv 3) T.cl MK (hr.mono ∅))^^^((cF (pv 3) T.cl MB (hr.mono ∅))^^^ae)))^^^ae) ∅ ∅ O O)<*>uF<*>(pv 6))))))<|>(cw⁻¹)<|>av)<<<((((@aT _ _ _ _ _ _ _ _ _ dW O B.list NI ((DAs∪(ag^^^((pv 3)^^^(((pv 1)&&&aD&&&ag)^^^(((pv 1)&&&aD&&&ag)^^^ae)))))^^^ae) ∅ ∅ O O)<*>(vL hu2)<*>(@aX _ _ _ _ ((pv 7)^^^((pv 8)^^^ae))))<|>(cw⁻¹)<|>av)<<<((((@aT _ _ _ _ _ _ _ _ _ dW O B.list NI ((DAs∪(ag^^^((pv 3)^^^(((pv 1)&&&aD&&&ag)^^^(((pv 1)&&&aD&&&ag)^^^ae)))))^^^ae) ∅ ∅ O O)<*>(vL hu2)<*>(@aX _ _ _ _ ((pv 9)^^^((pv 10)^^^ae))))<|>(cw⁻¹)<|>av)<<<((((pv 5)<*>(lT hu2)<*>(@aX _ _ _ _ ae))<|>(cw⁻¹)<|>av)<<<((@bU _ _ _ _ _ _ _ _ E4 O (vF (pv 7)) (am (i:=11) nd O (Or.inl O)) (@ai _ _ _ ((@bj _ _ _ _ (@aY _ _ _ (@ap _ _ _ _ _ _ _ _ _ (gU O) O B.all PyProof.Rows.boot_all ((br (own:=["_law_bundle"]) (cs:=["_law_shop_here"]) (cap:=[3]) O (bE (cZ hu1 (pv 7) (pv 11) (λ _ _=>O))) (az (sc:=defScope jE) (N:=["_law_pot_here","_law_sides","_law_bad","_law_shop_here","_law_which","_law_due","_law_kept","_law_told","_law_refused","_law_few","_law_refused_too","_law_part"]) O O ∅) (λ _ _ _ _ _=>am (i:=0) (by show List.Nodup (["_law_bundle","_law_shop_here"]:Mo Str) ;decide +kernel) O (Or.inl O) (Or.inr O)) (λ _ _ _ _ _=>aJ) (λ _ _ _ _ _=>(@bF _ _ _ _ _ _ _ _ cx (ap (r:=vC K) aE O B.len M8 ((pv 0)^^^ae)) (ap (r:=vC K) aE O B.len M8 ((cF (pv 1) T.cl MK (hr.mono ∅))^^^ae)) (ay _))))^^^ae) ∅ ∅ O O) (by intro _;rfl)))<|>(cw⁻¹)<|>av)) (by intro _;rfl))<<<((((pv 2)<*>cx<*>ag)<|>((@bF _ _ _ _ _ _ _ _ zD (pv 9) iW (ay _))⁻¹)<|>av)<<<((mG ((pv 2)<*>cx<*>ag) (@bF _ _ _ _ _ _ _ _ (Ah hu2) (pv 9) (@aP _ _ _ _ _ (ag^^^((@aX _ _ _ _ ae)^^^ae))) (ay _)) (@bF _ _ _ _ _ _ _ _ xn (pv 9) iW (ay _)))⁻¹))))))))))))))))))|?_]
 have z4:100000<=sizeLine:=∅
 have e60:(10:Int) < 10 ^ 60:=∅
 refine ao (λ R=>∀(sl:Mi)(m n:Nat)(H':Hp),sl≠p->H sl=none->H' sl=↥[.int m,.int n]->1<=m->m<=4->1<=n->n<=4->PotB H' p->But p H H'->R [↑p,↑sl,none,none,none,none,none,none,none,none,none,none] H') (λ Dd hR=>?_) ?_
 ·refine%[_,O,p,4,O,pt,∅,∅|λ y1 Ha y10 y11 pa ba=>%[_,_,O,O,_,O,p,4,O,pa,∅,∅|λ y2 Hb y20 y21 pb bb=>%[_,_,O,O,zS2|λ sl hsl=>?_]]];refine aH hsl λ H1 k1 s1=>?_;obtain⟨m,em⟩:∃m:Nat,1+y1=m:=%[(1+y1).toNat|⋯]
  obtain⟨n,en⟩:∃n:Nat,1+y2=n:=%[(1+y2).toNat|⋯]
  have nsp:=Ne.symm (pb.ne hsl);rw[em,en]at k1;exact hR sl m n _ nsp (zo (ba.trans bb) nsp hsl) k1 ⋯ ⋯ ⋯ ⋯ (pb.same s1) (λ c o nn e=>s1 _ _ (bb _ _ nn (ba _ _ nn e)))
 rintro sl m n H1 nsp sl0 hsl m1 m4 n1 n4 pt1 b1;refine ao (λ R=>∀(bad:Int)(H':Hp),0<=bad->bad < 4->H' sl=↥[.int m,.int n]->PotB H' p->But p H H'->R [↑p,↑sl,⇑bad,none,none,none,none,none,none,none,none,none] H') (λ Dd hR=>?_) ?_
 ·exact%[_,O,p,4,O,pt1,∅,∅|λ y H2 y0 y1 pt2 b2=>hR y _ y0 y1 (b2 _ _ nsp hsl) pt2 (b1.trans b2)]
 rintro bad H2 bad0 bad4 hsl2 pt2 b2;refine ao (λ R=>∀(t:Mi)(b:Int)(ks:Mo Kd)(H':Hp),0<=b->b < 3->Av m n bad ks->LC74 C p sl t b ks (.int m) (.int n) H H'->R [↑p,↑sl,⇑bad,↑t,none,none,none,none,none,none,none,none] H') (λ Dd hR=>?_) ?_
 ·exact%[_,O,_,O,sl,_,0,_,O,O,G4 hsl2,O,_,O,sl,_,1,_,O,O,G4 hsl2,O,_,O,p,m,n,bad,O,pt2,m1,m4,n1,n4,bad0,bad4|λ t b ks H3 sh b0 b3 bk pt3 b3'=>hR t b ks _ b0 b3 bk %[nsp,sl0,b3' _ _ nsp hsl2,sh,pt3|b2.trans b3']]
 clear hsl hsl2 pt2 b2 pt1 b1;clear H1 H2;rintro t b ks H3 b0 b3 bk lc3;refine ao (λ R=>∀(wh:Int)(H':Hp),(wh=0\/wh=1)->LC74 C p sl t b ks (.int m) (.int n) H H'->R [↑p,↑sl,⇑bad,↑t,⇑wh,none,none,none,none,none,none,none] H') (λ Dd hR=>?_) ?_
 ·exact%[_,O,p,2,O,lc3.pt,∅,∅|λ y H4 y0 y1 pt4 b4=>hR y _ ⋯ (lc3.but pt4 b4)]
 clear lc3;clear H3;rintro wh H4 wh01 lc4;refine ao (λ R=>∀(d:Mi)(H':Hp),d≠p->d≠sl->H' d=↥[]->LC74 C p sl t b ks (.int m) (.int n) H H'->R [↑p,↑sl,⇑bad,↑t,⇑wh,↑d,none,none,none,none,none,none] H') (λ Dd hR=>?_) ?_
 ·refine%[zS0|λ d hd=>?_];refine aH hd λ H5 k5 s5=>?_;exact hR d _ (Ne.symm (lc4.pt.ne hd)) (lc4.nsl hd) k5 (lc4.same s5)
 clear lc4;clear H4;rintro d H5 ndp nds hd5 lc5;refine ao (λ R=>∀(d:Mi)(H':Hp),d≠p->d≠sl->((bad=1/\H' d=↥[.int 1,.int 13])\/(bad≠1/\H' d=↥[]))->LC74 C p sl t b ks (.int m) (.int n) H H'->R [↑p,↑sl,⇑bad,↑t,⇑wh,↑d,none,none,none,none,none,none] H') (λ Dd hR=>?_) ?_
 ·refine%[_,O,O,_,O|?_];refine cX (λ cc=>?_) (λ cc=>?_)
  ·have c1:bad=1:=V.int.inj (C1 cc);refine%[zS2|λ d' hd'=>?_];refine aH hd' λ H6 k6 s6=>?_;exact hR d' _ (Ne.symm (lc5.pt.ne hd')) (lc5.nsl hd') (.inl %[c1|k6]) (lc5.same s6)
  ·exact hR d _ ndp nds (.inr %[λ z=>cc (by rw[z];exact B0 rfl)|hd5]) lc5
 clear lc5 hd5 ndp nds;clear H5 d;rintro d H5 ndp nds hd5 lc5;refine ao (λ R=>∀(d:Mi)(w1 h1:Int)(H':Hp),d≠p->d≠sl->1<=w1->1<=h1->((H' d=↥[.int 1,.int 13]/\DueK (.int w1) (.int h1) ks 1)\/(H' d=↥[]/\w1=m/\h1=n/\bad≠1))->LC74 C p sl t b ks (.int w1) (.int h1) H H'->R [↑p,↑sl,⇑bad,↑t,⇑wh,↑d,none,none,none,none,none,none] H') (λ Dd hR=>?_) ?_
 ·refine%[_,O,p,4,O,lc5.pt,∅,∅|λ y H6 y0 y1 pt6 b6=>%[O,_,O|?_]];have lc6:=lc5.but pt6 b6;refine cX (λ cc=>?_) (λ cc=>?_)
  ·refine%[_,O,p,2,O,pt6,∅,∅|λ u H7 u0 u1 pt7 b7=>%[_,O,p,O,pt7|λ g H8 g0 g1 pt8 b8=>?_]];have g1:g < 10 ^ 58:=g1;have lc8:=(lc6.but pt7 b7).but pt8 b8;have ug:0<=u * g/\u * g < 10 ^ 58:=by
    have:u=0\/u=1:=⋯
    rcases this with rfl | rfl
    ·rw[Int.zero_mul];exact%[E5 0|∅]
    ·rw[Int.one_mul];exact%[g0|g1]
   have e61:(9:Int)+10 ^ 58 < 10 ^ 60:=∅
   refine%[_,_,O,O,.inl %[⋯|⋯],_,_,O,O|?_];rcases wh01 with rfl | rfl
   ·refine%[_,O,_,O,sl,_,_,0,O,O,lc8.hs,O|?_];obtain⟨H9,e9,lc9⟩:∃H',upd H8 sl (.lst ([.int m,.int n].set 0 (.int (9+u * g))))=H'/\LC74 C p sl t b ks (.int (9+u * g)) (.int n) H H':=%[_,O|lc8.set (.int (9+u * g)) (.int n)]
    rw[e9];refine%[zS2|λ d' hd'=>?_];refine aH hd' λ H10 k10 s10=>?_;exact hR d' _ _ _ (Ne.symm (lc9.pt.ne hd')) (lc9.nsl hd') ⋯ ⋯ (.inl %[k10|.t rfl rfl ⋯ ⋯ (.inl ⋯)]) (lc9.same s10)
   ·refine%[_,O,_,O,sl,_,_,1,O,O,lc8.hs,O|?_];obtain⟨H9,e9,lc9⟩:∃H',upd H8 sl (.lst ([.int m,.int n].set 1 (.int (9+u * g))))=H'/\LC74 C p sl t b ks (.int m) (.int (9+u * g)) H H':=%[_,O|lc8.set (.int m) (.int (9+u * g))]
    rw[e9];refine%[zS2|λ d' hd'=>?_];refine aH hd' λ H10 k10 s10=>?_;exact hR d' _ _ _ (Ne.symm (lc9.pt.ne hd')) (lc9.nsl hd') ⋯ ⋯ (.inl %[k10|.t rfl rfl ⋯ ⋯ (.inr ⋯)]) (lc9.same s10)
  ·refine hR d m n _ ndp nds ⋯ ⋯ ?_ lc6;rcases hd5 with⟨c1,h⟩ | ⟨c1,h⟩
   ·exact .inl %[b6 _ _ ndp h|.s rfl rfl ⋯ ⋯ ⋯ ⋯ (bk.2.2.2.1 c1)]
   ·exact .inr %[b6 _ _ ndp h,O,O|c1]
 clear lc5 hd5 ndp nds;clear H5 d;rintro d w1 h1 H5 ndp nds w0 h0 du lc5;refine ao (λ R=>∀(d:Mi)(wv hv:V)(H':Hp),OdS H' p wv->OdS H' p hv->((∃k,H' d=↥[.int k,.int 13]/\DueK wv hv ks k)\/(H' d=↥[]/\wv=.int m/\hv=.int n/\bad≠1))->LC74 C p sl t b ks wv hv H H'->R [↑p,↑sl,⇑bad,↑t,⇑wh,↑d,none,none,none,none,none,none] H') (λ Dd hR=>?_) ?_
 ·refine%[_,O,p,4,O,lc5.pt,∅,∅|λ y H6 y0 y1 pt6 b6=>%[O,_,O|?_]];have lc6:=lc5.but pt6 b6;refine cX (λ cc=>?_) (λ cc=>?_)
  ·refine%[_,O,p,O,pt6|λ v H7 ov wv0 pt7 b7=>?_];have lc7:=lc6.but pt7 b7;rcases wh01 with rfl | rfl
   ·refine%[_,O,_,O,_,_,O,O,sl,_,_,1,O,O,lc7.hs,O|?_];obtain⟨H8,e9,lc8,ov8⟩:∃H',upd H7 sl (.lst ([.int w1,.int h1].set 1 v))=H'/\LC74 C p sl t b ks (.int w1) v H H'/\OdS H' p v:=%[_,O,lc7.set (.int w1) v|lc7.ods ov]
    rw[e9];refine%[zS2|λ d' hd'=>?_];refine aH hd' λ H10 k10 s10=>?_;exact hR d' _ _ _ (.inr (.inr (.inl %[_|O]))) (ov8.same s10) (.inl %[0,k10|.p (by rw[wv0,Bool.and_false])]) (lc8.same s10)
   ·refine%[_,O,_,O,_,_,O,O,sl,_,_,0,O,O,lc7.hs,O|?_];obtain⟨H8,e9,lc8,ov8⟩:∃H',upd H7 sl (.lst ([.int w1,.int h1].set 0 v))=H'/\LC74 C p sl t b ks v (.int h1) H H'/\OdS H' p v:=%[_,O,lc7.set v (.int h1)|lc7.ods ov]
    rw[e9];refine%[zS2|λ d' hd'=>?_];refine aH hd' λ H10 k10 s10=>?_;exact hR d' _ _ _ (ov8.same s10) (.inr (.inr (.inl %[_|O]))) (.inl %[0,k10|.p (by rw[wv0,Bool.false_and])]) (lc8.same s10)
  ·refine hR d _ _ _ (.inr (.inr (.inl %[_|O]))) (.inr (.inr (.inl %[_|O]))) ?_ lc6;rcases du with⟨h,dk⟩ | ⟨h,e1,e2,c1⟩
   ·exact .inl %[1,b6 _ _ ndp h|dk]
   ·exact .inr %[b6 _ _ ndp h,by rw[e1],by rw[e2]|c1]
 clear lc5 du ndp nds w0 h0;clear H5 d w1 h1;rintro d wv hv H5 ow oh du lc5;obtain⟨T1,T2,T3⟩:=wJ bk.1 bk.2.2.1 b0 b3;obtain⟨tx,htx⟩:∃tx,(gL b ks).shown=tx:=%[_|O]
 have kept:∀{Hx:Hp},Same H5 Hx->ShopAt C Hx t b ks:=λ s=>nT s lc5.sh;refine ao (λ R=>∀(H':Hp),Same H5 H'->R [↑p,↑sl,⇑bad,↑t,⇑wh,↑d,some (.str tx),none,none,none,none,none] H') (λ Dd hR=>?_) ?_
 ·obtain⟨dx,r,rs',g1,g2,g3⟩:=id lc5.sh;refine%[_,O,t,dx,_,O,g1,(bi _ _ ∅ ∅),t,b,ks,O,lc5.sh|λ l rs hl tp=>?_];refine aH hl λ H6 k6 s6=>?_;refine%[_,O,t,dx,_,O,s6 _ _ g1,(bi _ _ ∅ ∅),t,b,ks,O,kept s6,zS2|λ q hq=>?_];refine aH hq λ H7 k7 s7=>?_;refine%[q,_,O,ij k7 (s7 _ _ k6) (Tups.keep (λ c xs e=>s7 _ _ (s6 _ _ e)) tp),T1,T2,T3|?_];rw[htx];exact hR _ (s6.trans s7)
 rintro H6 s56;have I0:∀{Hx:Hp},Same H5 Hx->SqL K Hx sl [wv,hv]:=λ s=>G4 (s _ _ lc5.hs);rcases du with⟨k,hdk,dk⟩ | ⟨hd0,rfl,rfl,c1⟩
 ·obtain⟨Tw,tw⟩:=ow.ty (K:=K);obtain⟨Th,th⟩:=oh.ty (K:=K);have ask:∀{way:Int}{Q':VK}{E':XK}{Hx:Hp},Same H5 Hx->(∀(r l:Mi)(H':Hp),H' r= ~~~[.non,.ref l]->H' l=↥[.int k,.int 13]->Same Hx H'->Q' (.ref r) H')->jU K C [.int way,.ref t,wv,hv] Hx Q' E' :=
   λ s q'=>%[_,t,wv,hv,b,ks,O,kept s,bk.2.2.1|.inl %[k,%[_|Ty.same s tw],%[_|Ty.same s th],dk|q']]
  have dl:∀{Hx:Hp}{l:Mi},Hx l=↥[.int k,.int 13]->DatV K Hx (.ref l) (.list [.int k,.int 13]):=λ h=>.lst (G4 h) (.cons (.int _) (.cons (.int _) .nil));have dp:(PyData.list [.int k,.int 13]).depth<=210:=by simp[PyData.depth,PyData.depthAll]
  have dq:(!PyData.eqv (.list [.int k,.int 13]) (.list [.int k,.int 13]))=false:=by simp[PyData.eqv,PyData.eqvAll]
  refine ao (λ R=>∀(l1:Mi)(H':Hp),H' l1=↥[.int k,.int 13]->Same H5 H'->R [↑p,↑sl,⇑bad,↑t,⇑wh,↑d,some (.str tx),some .non,↑l1,none,none,none] H') (λ Dd hR=>?_) ?_
  ·refine%[_,O,_,O,sl,_,0,_,O,O,I0 (s56),O,_,O,sl,_,1,_,O,O,I0 (s56),O|?_];dsimp only[eI];refine ask s56 λ r l H' hr hl s'=>?_;exact%[r,_,O,.inr (G3 hr),O,_,_,O,_,_,O,O|hR l _ hl (s56.trans s')]
  clear s56;clear H6;rintro l1 H6 hl1 s56;refine ao (λ R=>∀(l2:Mi)(H':Hp),H' l2=↥[.int k,.int 13]->Same H6 H'->R [↑p,↑sl,⇑bad,↑t,⇑wh,↑d,some (.str tx),some .non,↑l1,some .non,↑l2,none] H') (λ Dd hR=>?_) ?_
  ·refine%[_,O,_,O,sl,_,0,_,O,O,I0 (s56),O,_,O,sl,_,1,_,O,O,I0 (s56),O|?_];dsimp only[eI];refine ask s56 λ r l H' hr hl s'=>?_;exact%[r,_,O,G3 hr,O,_,_,O,_,_,O,O|hR l _ hl s']
  rintro l2 H7 hl2 s67;have s57:=s56.trans s67;refine ao (λ R=>∀(H':Hp),Same H7 H'->R [↑p,↑sl,⇑bad,↑t,⇑wh,↑d,some (.str tx),some .non,↑l1,some .non,↑l2,none] H') (λ Dd hR=>?_) ?_
  ·have hd7:=s57 _ _ hdk;refine%[_,O,_,O,_,_,dl (s67 _ _ hl1),dl hd7,O,O,dp,_,O|?_];rw[dq];refine aZ %[_,rfl,_,rfl,_,_,dl hl2,dl hd7,rfl,rfl,dp,_,rfl|?_];rw[dq];refine aZ ?_;obtain⟨dx,r,rs',g1,g2,g3⟩:=id lc5.sh;have g7:=s57 _ _ g1;have kept7:=kept s57;refine%[_,O,t,dx,_,O,g7,(bi _ _ ∅ ∅),t,b,ks,O,kept7|λ l rs hl tp=>?_];refine aH hl λ H8 k8 s8=>?_;refine%[_,O,t,dx,_,O,s8 _ _ g7,(bi _ _ ∅ ∅),t,b,ks,O,nT s8 kept7,zS2|λ q' hq=>?_];refine aH hq λ H9 k9 s9=>?_;refine%[q',_,O,ij k9 (s9 _ _ k8) (Tups.keep (λ c xs e=>s9 _ _ (s8 _ _ e)) tp),T1,T2,T3|?_];rw[htx];refine%[_,O,O,_,O|?_];rw[show(!decide (V.str tx=V.str tx))=false by rw[Mx rfl];rfl];exact aZ (hR _ (s8.trans s9))
  rintro H8 s78;have s58:=s57.trans s78;have s68:=s67.trans s78;have eql:∀{Hx:Hp}{l l':Mi},Hx l=↥[.int k,.int 13]->Hx l'=↥[.int k,.int 13]->Paired (EqL K 60 Hx) [.non,.ref l] [.non,.ref l']:=λ h h'=>.cons EqL.non (.cons (EqL.lst (n:=59) h h' (.cons (EqL.int _) (.cons (EqL.int _) .nil))) .nil);refine ao (λ R=>∀(H':Hp),Same H8 H'->R [↑p,↑sl,⇑bad,↑t,⇑wh,↑d,some (.str tx),some .non,↑l1,some .non,↑l2,none] H') (λ Dd hR=>?_) ?_
  ·refine%[_,O,_,O,sl,_,0,_,O,O,I0 (s58),O,_,O,sl,_,1,_,O,O,I0 (s58),O|?_];dsimp only[eI];refine ask s58 λ r l Hr hr hl s'=>?_;refine%[r,_,O,.inr (G3 hr)|λ a ha=>?_];refine aH ha λ H21 k21 s21=>?_;refine%[_,O,_,O,zS2|λ c hc=>?_];refine aH hc λ H22 k22 s22=>?_;have sx:=s'.trans (s21.trans s22);refine .eq a c _ _ rfl rfl (s22 _ _ k21) k22 (eql (s22 _ _ (s21 _ _ hl)) (sx _ _ (s68 _ _ hl1))) ?_;exact%[_,O|aZ (hR _ sx)]
  rintro H9 s89;have s59:=s58.trans s89;have s79:=s78.trans s89;refine ao (λ R=>∀(H':Hp),Same H9 H'->R [↑p,↑sl,⇑bad,↑t,⇑wh,↑d,some (.str tx),some .non,↑l1,some .non,↑l2,none] H') (λ Dd hR=>?_) ?_
  ·refine%[_,O,_,O,sl,_,0,_,O,O,I0 (s59),O,_,O,sl,_,1,_,O,O,I0 (s59),O|?_];dsimp only[eI];refine ask s59 λ r l Hr hr hl s'=>?_;refine%[r,_,O,.inr (G3 hr)|λ a ha=>?_];refine aH ha λ H21 k21 s21=>?_;refine%[_,O,_,O,zS2|λ c hc=>?_];refine aH hc λ H22 k22 s22=>?_;have sx:=s'.trans (s21.trans s22);refine .eq a c _ _ rfl rfl (s22 _ _ k21) k22 (eql (s22 _ _ (s21 _ _ hl)) (sx _ _ (s79 _ _ hl2))) ?_;exact%[_,O|aZ (hR _ sx)]
  rintro H10 s9t;have s510:=s59.trans s9t;refine%[_,O,zS0|λ e he=>?_];refine aH he λ H11 k11 s11=>?_;have s511:=s510.trans s11;refine%[_,_,dl (s511 _ _ hdk),.lst (G4 k11) .nil,O,O,dp,_,O|?_];rw[show(!PyData.eqv (.list [.int k,.int 13]) (.list []))=true by simp[PyData.eqv,PyData.eqvAll]];exact bM (q _ λ c o n e=>s511 _ _ (lc5.bt _ _ n e))
 have gd:iH b ks:=%[b0,bk.2.1,bk.2.2.1,λ k h=>(bk.1 k h).wa|bk.2.2.2.2.1 c1]
 have m8:m<=8:=⋯
 have n8:n<=8:=⋯
 have ask0:∀{Q':VK}{E':XK}{Hx:Hp},Same H5 Hx->(∀(r l ta:Mi)(H':Hp),H' r= ~~~[.ref ta,.ref l]->H' l=↥[]->Hx ta=none->TdB b ks m n H' ta->Same Hx H'->Q' (.ref r) H')->jU K C [.int 0,.ref t,.int m,.int n] Hx Q' E' :=
  λ s q'=>%[0,t,_,_,b,ks,O,kept s,bk.2.2.1|.inr ⟨m,n,O,O,gd,m1,m8,n1,n8,λ _ r l ta ll H' h1 h2 h3 h4 h5 h6 h7=>q' r l ta H' h1 h2 h3 %[ll,h4,h5|λ q v hq=>by obtain⟨l,as,e,_,h1,h2⟩:=h6 q v hq;exact%[l,as,e,h1|h2]] h7,λ z=>absurd rfl z⟩]
 have ask1:∀{Q':VK}{E':XK}{Hx:Hp},Same H5 Hx->(∀(r l:Mi)(v:V)(H':Hp),H' r= ~~~[v,.ref l]->H' l=↥[]->FewV b ks (m,n) H' v->Same Hx H'->Q' (.ref r) H')->jU K C [.int 1,.ref t,.int m,.int n] Hx Q' E' :=
  λ s q'=>%[1,t,_,_,b,ks,O,kept s,bk.2.2.1|.inr %[m,n,O,O,gd,m1,m8,n1,n8,λ z=>absurd z ∅|λ _=>%[λ ea r l H' h1 h2 h3=>q' r l _ H' h1 h2 (.inl %[ea|O]) h3|λ ea r l t' tl us H' h1 h2 h3 h4 h5 h6=>q' r l _ H' h1 h2 (.inr %[ea,t',tl,us,O,h3,h4|h5]) h6]]]
 have dl:∀{Hx:Hp}{l:Mi},Hx l=↥[]->DatV K Hx (.ref l) (.list []):=λ h=>.lst (G4 h) .nil;have dq:(!PyData.eqv (.list []) (.list []))=false:=by simp[PyData.eqv,PyData.eqvAll]
 have dp:(PyData.list []).depth<=210:=by simp[PyData.depth,PyData.depthAll]
 refine ao (λ R=>∀(ta l1:Mi)(H':Hp),H5 ta=none->TdB b ks m n H' ta->H' l1=↥[]->Same H5 H'->R [↑p,↑sl,⇑bad,↑t,⇑wh,↑d,some (.str tx),↑ta,↑l1,none,none,none] H') (λ Dd hR=>?_) ?_
 ·refine%[_,O,_,O,sl,_,0,_,O,O,I0 (s56),O,_,O,sl,_,1,_,O,O,I0 (s56),O|?_];dsimp only[eI];refine ask0 s56 λ r l ta H' hr hl ta0 td s'=>?_;exact%[r,_,O,.inr (G3 hr),O,_,_,O,_,_,O,O|hR ta l _ (s56.free ta0) td hl (s56.trans s')]
 clear s56;clear H6;rintro ta l1 H6 ta0 td6 hl1 s56;refine ao (λ R=>∀(fv:V)(l2:Mi)(H':Hp),FewV b ks (m,n) H' fv->H' l2=↥[]->Same H6 H'->R [↑p,↑sl,⇑bad,↑t,⇑wh,↑d,some (.str tx),↑ta,↑l1,some fv,↑l2,none] H') (λ Dd hR=>?_) ?_
 ·refine%[_,O,_,O,sl,_,0,_,O,O,I0 (s56),O,_,O,sl,_,1,_,O,O,I0 (s56),O|?_];dsimp only[eI];refine ask1 s56 λ r l v H' hr hl fw s'=>?_;exact%[r,_,O,G3 hr,O,_,_,O,_,_,O,O|hR v l _ fw hl s']
 rintro fv l2 H7 fw7 hl2 s67;have s57:=s56.trans s67;refine ao (λ R=>∀(H':Hp),Same H7 H'->R [↑p,↑sl,⇑bad,↑t,⇑wh,↑d,some (.str tx),↑ta,↑l1,some fv,↑l2,none] H') (λ Dd hR=>?_) ?_
 ·have hd7:=s57 _ _ hd0;refine%[_,O,_,O,_,_,dl (s67 _ _ hl1),dl hd7,O,O,dp,_,O|?_];rw[dq];refine aZ %[_,rfl,_,rfl,_,_,dl hl2,dl hd7,rfl,rfl,dp,_,rfl|?_];rw[dq];refine aZ ?_;obtain⟨dx,r,rs',g1,g2,g3⟩:=id lc5.sh;have g7:=s57 _ _ g1;have kept7:=kept s57;refine%[_,O,t,dx,_,O,g7,(bi _ _ ∅ ∅),t,b,ks,O,kept7|λ l rs hl tp=>?_];refine aH hl λ H8 k8 s8=>?_;refine%[_,O,t,dx,_,O,s8 _ _ g7,(bi _ _ ∅ ∅),t,b,ks,O,nT s8 kept7,zS2|λ q' hq=>?_];refine aH hq λ H9 k9 s9=>?_;refine%[q',_,O,ij k9 (s9 _ _ k8) (Tups.keep (λ c xs e=>s9 _ _ (s8 _ _ e)) tp),T1,T2,T3|?_];rw[htx];refine%[_,O,O,_,O|?_];rw[show(!decide (V.str tx=V.str tx))=false by rw[Mx rfl];rfl];exact aZ (hR _ (s8.trans s9))
 rintro H8 s78;have s58:=s57.trans s78;have s68:=s67.trans s78;refine ao (λ R=>∀(H':Hp),Same H8 H'->R [↑p,↑sl,⇑bad,↑t,⇑wh,↑d,some (.str tx),↑ta,↑l1,some fv,↑l2,none] H') (λ Dd hR=>?_) ?_
 ·refine%[_,O,_,O,sl,_,0,_,O,O,I0 (s58),O,_,O,sl,_,1,_,O,O,I0 (s58),O|?_];dsimp only[eI];refine ask0 s58 λ r l tc Hr hr hl tc0 td s'=>?_;refine%[r,_,O,.inr (G3 hr)|λ a ha=>?_];refine aH ha λ H21 k21 s21=>?_;refine%[_,O,_,O,zS2|λ c hc=>?_];refine aH hc λ H22 k22 s22=>?_;have sx:=s'.trans (s21.trans s22);refine .eq a c _ _ rfl rfl (s22 _ _ k21) k22 (.cons (TdB.eq (td.same (s21.trans s22)) (td6.same (s68.trans sx))) (.cons (EqL.lst (n:=59) (s22 _ _ (s21 _ _ hl)) (sx _ _ (s68 _ _ hl1)) .nil) .nil)) ?_;exact%[_,O|aZ (hR _ sx)]
 rintro H9 s89;have s59:=s58.trans s89;have s79:=s78.trans s89;obtain⟨fl1,fl2⟩:=yB b ks (m,n);have fp:(PyData.list [mC b ks (m,n),.list []]).depth<=210:=by simp only[PyData.depth,PyData.depthAll];omega
 have fy:(PyData.list [mC b ks (m,n),.list []]).canLay0=true:=by simp only[PyData.canLay0,PyData.canLayAll0,fl1,Bool.and_self]
 refine ao (λ R=>∀(H':Hp),Same H9 H'->R [↑p,↑sl,⇑bad,↑t,⇑wh,↑d,some (.str tx),↑ta,↑l1,some fv,↑l2,none] H') (λ Dd hR=>?_) ?_
 ·refine%[_,O,_,O,sl,_,0,_,O,O,I0 (s59),O,_,O,sl,_,1,_,O,O,I0 (s59),O|?_];dsimp only[eI];refine ask1 s59 λ r l v Hr hr hl fw s'=>?_;refine%[r,_,O,.inr (G3 hr)|λ a ha=>?_];refine aH ha λ H21 k21 s21=>?_;refine%[_,O,_,O,zS2|λ c hc=>?_];refine aH hc λ H22 k22 s22=>?_;have sx:=s'.trans (s21.trans s22);refine .dat %[_,_,.lst (G4 (s22 _ _ k21)) (.cons (fw.same (s21.trans s22)).dat (.cons (dl (s22 _ _ (s21 _ _ hl))) .nil)),.lst (G4 k22) (.cons (fw7.same (s79.trans sx)).dat (.cons (dl (sx _ _ (s79 _ _ hl2))) .nil)),fy,fy,fp|?_];rw[PySem.SeqAt.eqv_refl _ fy];exact%[_,O|aZ (hR _ sx)]
 rintro H10 s9t;have s510:=s59.trans s9t;refine ao (λ R=>∀(H':Hp),Same H10 H'->R [↑p,↑sl,⇑bad,↑t,⇑wh,↑d,some (.str tx),↑ta,↑l1,some fv,↑l2,none] H') (λ Dd hR=>?_) ?_
 ·refine%[_,O,zS0|λ e he=>?_];refine aH he λ H11 k11 s11=>?_;refine%[_,_,dl (s11 _ _ (s510 _ _ hd0)),dl k11,O,O,dp,_,O|?_];rw[dq];exact aZ (hR _ s11)
 rintro H11 s1011;have s611:=s68.trans ((s89.trans s9t).trans s1011);have fw11:FewV b ks (m,n) H11 fv:=fw7.same ((s79.trans s9t).trans s1011);have s511:=s510.trans s1011;obtain⟨ll,hta,lm,lv⟩:=td6.same s611;have tap:ta≠p:=λ z=>by obtain⟨_,_,_,_,_,h⟩:=lc5.pt;rw[<- z,ta0]at h;cases h
 have taH:H ta=none:=zo lc5.bt tap ta0;refine bH (λ σ' H'=>∃v11:Ml V,σ'=[↑p,↑sl,⇑bad,↑t,⇑wh,↑d,some (.str tx),↑ta,↑l1,some fv,↑l2,v11]/\FewV b ks (m,n) H' fv/\But p H H') (λ R hR=>?_) ?_
 ·refine%[_,O,ta,_,O,hta|λ ob=>?_];obtain⟨Hf,ef,hf,kf⟩:∃Hf,upd H11 ta (.frz ob (.dT (byP ll)))=Hf/\Hf ta=some (.frz ob (.dT (byP ll)))/\∀c o,c≠ta->H11 c=some o->Hf c=some o:=%[_,O,ah|λ c o n e=>by rw[aj n];exact e]
  rw[ef];have kt:∀c xs,H11 c= ~~~xs->Hf c= ~~~xs:=λ c xs e=>kf _ _ (λ z=>by rw[z,hta]at e;cases e) e;have kl:∀c xs,H11 c=↥xs->Hf c=↥xs:=λ c xs e=>kf _ _ (λ z=>by rw[z,hta]at e;cases e) e;have shf:ShopAt C Hf t b ks:=(kept s511).keep kt (λ c C' d fs e=>kf _ _ (λ z=>by rw[z,hta]at e;cases e) e);have fwf:=fw11.keep kt kl;have btf:But p H Hf:=λ c o n e=>kf _ _ (λ z=>by rw[z,taH]at e;cases e) (s511 _ _ (lc5.bt _ _ n e));refine jw (a:=ta) (ob:=ob) (kvs:=byP ll) (λ i σ' H'=>(∃v11:Ml V,σ'=[↑p,↑sl,⇑bad,↑t,⇑wh,↑d,some (.str tx),↑ta,↑l1,some fv,↑l2,v11])/\Same Hf H') %[%[_|rfl]|Same.refl _] (λ i σ Hx _ ⟨_,s⟩=>s _ _ hf) ?_ (λ σ Hx ⟨⟨v11,e⟩,s⟩=>hR _ _ %[v11,e,fwf.same s|λ c o n e=>s _ _ (btf _ _ n e)]);rintro i k v qa σ Hx hkv hqa ⟨⟨v11,rfl⟩,sx⟩;obtain⟨q',rfl,hq'⟩:=mB (B6 hkv);obtain⟨v',hv',hm⟩:=fo (ss:=ll) (p:=q') (J0.mpr %[_,hq'|O]);obtain⟨l,as,rfl,hl,ba⟩:=lv _ _ hm;have hlx:=sx _ _ (kl _ _ hl);have bax:BsA Hx as (gK b ks q'):=G5 ba λ _ _ e=>sx _ _ (kt _ _ e);have al:=E3 ba;have wl:(wsK ks).length=ks.length:=B4 _;obtain⟨⟨q1,_⟩,q3,_⟩:=partsL_mem.mp (lm ▸ J0.mpr %[_,hq'|O]:q'∈aL m n);have g64:(gK b ks q').length<=32:=InB.few (ws0 gd.2.2.2.1) gd.2.2.2.2 (wN b0 q1 q3) (λ x hx=>cU gd.2.2.2.1 hx);refine%[_,O,_,O,ta,.ref l,O,hv' ▸ DGet.r (k:=pk q') (.inr %[ob|sx _ _ hf]) hqa,l,O,%[_|G4 hlx]|(bI (K:=K) (.inl hlx) (λ j us Hy=>Same Hx Hy/\us=List.replicate j (V.bl true)) (λ _ us Hy _ ⟨sy,_⟩ o e=>sy _ _ e) %[Same.refl _|O] ?_ ?_).1 hlx]
  ·rintro j vx us Hy hvx ⟨sy,rfl⟩;rw[G8]at hvx;obtain⟨c,hc,rfl⟩:=J7.mp hvx;obtain⟨x,hx,hcx⟩:=G6 bax hc;have xl:x.length=ks.length:=by rw[(cU (λ k h=>(bk.1 k h).wa) (B6 hx)).1,wl]
   refine%[by rw[K4];have:=(A6.mp hc).1;omega,leS.set rfl|aK ?_];have shy:=shf.keep (λ c xs e=>sy _ _ (sx _ _ e)) (λ c C' d fs e=>sy _ _ (sx _ _ e));obtain⟨dx,r,rs',g1,g2,g3⟩:=id shy;refine%[_,O,c,_,O,.inr (G3 (sy _ _ hcx)),_,O,t,dx,_,O,g1,(bi _ _ ∅ ∅),t,b,ks,O,shy|λ kl' rs hkl tp=>?_];refine aH hkl λ H13 k13 s13=>?_;refine%[kl',_,O,.inl (G4 k13),O|Nx.of (by rw[B4];exact(A6.mp hc).1) %[sy.trans s13|?_]];rw[List.replicate_succ',show(bV x).length=rs.length by rw[Paired.length tp];exact(B4 _).trans xl,Mx rfl]
  ·rintro us Hy ⟨sy,rfl⟩;refine%[by rw[K4,B4];omega|λ fl hfl=>?_];refine aH hfl λ H14 k14 s14=>?_;refine%[fl,List.replicate (as.map V.ref).length true,O,G4 (by rw[k14,List.map_replicate]),_,O|?_];rw[show(List.replicate (as.map V.ref).length true).all id=true by simp];exact aZ %[%[_|rfl]|sx.trans (sy.trans s14)]
 rintro _ H12 ⟨v11,rfl,fw12,b12⟩;refine%[_,O,O,_,O|?_];refine cX (λ cc=>?_) (λ cc=>?_)
 ·have c2:bad=2:=V.int.inj (C1 cc);have aw:=bk.2.2.2.2.2.1 c2;rcases fw12 with⟨_,rfl⟩ | ⟨z,_⟩
  ·refine%[_,O,O|?_];rw[Mx rfl];exact q _ b12
  ·rw[aw]at z;cases z
 have c2:bad≠2:=λ z=>cc (by rw[z];exact B0 rfl);refine%[_,O,O,_,O|?_];refine cX (λ cc=>?_) (λ cc=>?_)
 ·have c3:bad=3:=V.int.inj (C1 cc);have wz:=bk.2.2.2.2.2.2.2 c3;have ed:mC b ks (m,n)=.tuple [.int 0,.list []]:=by
   unfold mC;rw[Mw (yz wz),wM wz]
   rfl
  refine%[_,O,zS0|λ e he=>?_];refine aH he λ H15 k15 s15=>?_;refine%[zS2|λ g hg=>?_];refine aH hg λ H16 k16 s16=>?_;have s1216:=s15.trans s16;refine%[_,_,(fw12.same s1216).dat,.tup (G3 k16) (.cons (.int 0) (.cons (dl (s16 _ _ k15)) .nil)),fl1,O,⋯|?_];rw[ed,PySem.SeqAt.eqv_refl _ rfl];exact q _ λ c o n e=>s1216 _ _ (b12 _ _ n e)
 ·have c3:bad≠3:=λ z=>cc (by rw[z];exact B0 rfl);have aw:=bk.2.2.2.2.2.2.1 ⋯;rcases fw12 with⟨z,_⟩ | ⟨_,t',_,_,rfl,_⟩
  ·rw[aw]at z;cases z
  ·exact%[_,O,O|q _ b12]
def rJ(K:C6):Sp:=λ vs H Q _=>∃(a:Mi)(ns:Mo Int),vs=[.ref a]/\SqL K H a (ns.map V.int)/\ns.length<=63/\∀H',Q (.bl true) H'
theorem sclaw:FnScope ["_law_script","_law_k"] ["_law_script"] (defScope ny):=%[O,O,O,∅,O,∅|∅]
theorem Ay{f:Mi}{fd:F9}(F:Fun K "law" "law" ny f fd)(B:Blt mg)(DCE:Dn P w K mg base "_law_cell" ["_law_script","_law_k"] 1 (vn K))(DP:Dn P w K mg base "_law_pot" ["_law_cell_here"] 1 (vo))(DR:Dn P w K mg base "_law_right" ["_law_pot_here"] 22 (lc)):FnOk P w K mg base CX0 23 f fd ["_law_script"] (rJ K):=by
 exists sclaw
 ·obtain⟨a,ns,rfl,_⟩:=h
  rfl
 obtain⟨a,ns,rfl,hS,n63,q⟩:=h;have nd:=sclaw.nd;refine%[_,((@bU _ _ _ _ _ _ _ _ E4 O (dC O B.range (((@ap _ _ _ _ _ _ _ _ _ (gQ O) O B.min PyProof.Rows.boot_min ((@ap _ _ _ _ _ _ _ _ _ aE O B.len M8 ((pv 0)^^^ae) ∅ ∅ O O)^^^(ag^^^ae)) ∅ ∅ O O)|||bf|||ag)^^^ae)) (am (i:=1) nd O (Or.inl O)) (@ai _ _ _ ((@bj _ _ _ _ (@aY _ _ _ (DR∪((DP∩((DCE∩((pv 0)^^^((pv 1)^^^ae)))^^^ae))^^^ae)) (by intro _;rfl)))<|>(cw⁻¹)<|>av)) (by intro _;rfl))<<<(cw⁻¹))|?_];have hl:(ns.map V.int).length=ns.length:=B4 _;refine bH (λ σ' H'=>∃v1:Ml V,σ'=[↑a,v1]/\Same H H') (λ R hR=>?_) ?_
 ·refine%[_,O,a,_,O,.inl hS,_,_,O,_,_,O,O,_,O,?_,?_|?_]
  ·rw[hl];split <;> omega
  ·rw[hl];split <;> omega
  refine gO (lo:=0) (λ i σ' H'=>∃v1:Ml V,σ'=[↑a,v1]/\Same H H') %[none,rfl|Same.refl _] ?_ (λ σ Hx h=>hR _ _ h);rintro i σ Hx hi ⟨v1,rfl,sx⟩;refine%[_,O,_,O,a,ns,_,O,Same.seq sx hS,⋯|λ c=>?_];refine%[c,O|λ p H1 hp pt s1=>?_];refine%[p,O,pt|λ H2 b2=>%[_,O|aZ %[_,O|λ b o e=>b2 _ _ (ak (sx _ _ e) hp) (s1 _ _ (sx _ _ e))]]]
 rintro _ H1 ⟨v1,rfl,s1⟩;exact q H1
end
theorem Js{α:Type}{us:Mo α}(h:us.length=1):∃a,us=[a]:=by
 match us,h with
 | [a],_=>exact%[a|O]
theorem Az{α:Type}{us:Mo α}(h:us.length=2):∃a b,us=[a,b]:=by
 match us,h with
 | [a,b],_=>exact%[a,b|O]
theorem wP{α:Type}{us:Mo α}(h:us.length=3):∃a b c,us=[a,b,c]:=by
 match us,h with
 | [a,b,c],_=>exact%[a,b,c|O]
theorem Jt{α:Type}{us:Mo α}(h:us.length=4):∃a b c d,us=[a,b,c,d]:=by
 match us,h with
 | [a,b,c,d],_=>exact%[a,b,c,d|O]
theorem KI{α:Type}{us:Mo α}(h:us.length=5):∃a b c d e,us=[a,b,c,d,e]:=by
 match us,h with
 | [a,b,c,d,e],_=>exact%[a,b,c,d,e|O]
abbrev DI(K:C6)(n:Str)(st:Stmt)(f:Mi):Prop:=∃(od an:Ml Mi)(sl:Mm (Ml G1))(oc kV dc pm cd ct:G1),PySem.W.nsIn K Mp n=some (↑f)/\K.lookup f=some %[oc,od,.func (E6 n n (defArgs st) (defBody st) (defScope st) .none kV dc pm an cd ct)|sl]/\PySem.W.codeIn K cd n=true/\PySem.W.keepIn K (.ref f)=true
abbrev MI(K:C6)(C:Mi)(n q:Str)(st:Stmt)(f:Mi):Prop:=∃(od an:Ml Mi)(sl:Mm (Ml G1))(oc kV dc pm cd ct:G1),PySem.W.findIn K (.ref C) n=some (↑f)/\PySem.W.isFn K (.ref f)=true/\K.lookup f=some %[oc,od,.func (E6 n q (defArgs st) (defBody st) (defScope st) .none kV dc pm an cd ct)|sl]/\PySem.W.codeIn K cd q=true/\PySem.W.keepIn K (.ref f)=true
theorem diM{K:C6}{n:Str}{st:Stmt}{f:Mi}{od an:Ml Mi}{sl:Mm (Ml G1)}{oc kV dc pm cd ct:G1}(a:PySem.W.nsIn K Mp n=some (↑f))(l:K.lookup f=some %[oc,od,.func (E6 n n (defArgs st) (defBody st) (defScope st) .none kV dc pm an cd ct)|sl])(c:PySem.W.codeIn K cd n=true)(k:PySem.W.keepIn K (.ref f)=true):DI K n st f:=%[_,_,_,_,_,_,_,_,_,a,l,c|k]
theorem miM{K:C6}{C:Mi}{n q:Str}{st:Stmt}{f:Mi}{od an:Ml Mi}{sl:Mm (Ml G1)}{oc kV dc pm cd ct:G1}(a:PySem.W.findIn K (.ref C) n=some (↑f))(i:PySem.W.isFn K (.ref f)=true)(l:K.lookup f=some %[oc,od,.func (E6 n q (defArgs st) (defBody st) (defScope st) .none kV dc pm an cd ct)|sl])(c:PySem.W.codeIn K cd q=true)(k:PySem.W.keepIn K (.ref f)=true):MI K C n q st f:=%[_,_,_,_,_,_,_,_,_,a,i,l,c|k]
abbrev fnS(n q:Str)(st:Stmt)(kV dc pm:G1)(an:Ml Mi)(cd ct:G1):F9:=E6 n q (defArgs st) (defBody st) (defScope st) .none kV dc pm an cd ct
abbrev HBd(n q:Str)(st:Stmt)(ps:Mo Str):Prop:=∀(kV dc pm:G1)(an:Ml Mi)(cd ct:G1)(us:Mo G1),us.length=ps.length->bindArgs (fnS n q st kV dc pm an cd ct) %[us|[]]=pure (ps.zip us)
inductive DE(K:C6)(mg:Str->Ml Value)(n:Str)(st:Stmt)(f:Mi)(ps:Mo Str):Prop
|mk(fd:F9)(F:Fun K n n st f fd)(b:Binds K fd ps [])(k:PySem.W.keepIn K (.ref f)=true)(q:mg n=↑f)
theorem diE{K:C6}{h:Heap}{mg:Str->Ml G1}{n:Str}{st:Stmt}{f:Mi}(X:K.In h)(G:h.Ns Mp mg)(d:DI K n st f)(ps:Mo Str)(hb:HBd n n st ps):DE K mg n st f ps:=by obtain⟨_,_,_,_,_,_,_,_,_,a,l,c,k⟩:=d;have F:=oz (st:=st) l c k;exact%[_,F,F.binds hb,k|PySem.W.mg_of X G a]
inductive ME(K:C6)(C:Mi)(n q:Str)(st:Stmt)(f:Mi)(ps:Mo Str):Prop
|mk(fd:F9)(F:Fun K n q st f fd)(b:Binds K fd ps [])(k:PySem.W.keepIn K (.ref f)=true)(a:PySem.W.findIn K (.ref C) n=some (↑f))(i:PySem.W.isFn K (.ref f)=true)
theorem miE{K:C6}{C:Mi}{n q:Str}{st:Stmt}{f:Mi}(d:MI K C n q st f)(ps:Mo Str)(hb:HBd n q st ps):ME K C n q st f ps:=by obtain⟨_,_,_,_,_,_,_,_,_,a,i,l,c,k⟩:=d;have F:=oz (st:=st) l c k;exact%[_,F,F.binds hb,k,a|i]
theorem dnA{P:F8}{w:G0}{K:C6}{h:Heap}{mg:Str->Ml G1}{base:Heap}(X:K.In h)(G:h.Ns Mp mg){n:Str}{st:Stmt}{f:Mi}(d:DI K n st f)(ps:Mo Str)(hb:HBd n n st ps){k:Nat}{sp:Sp}(ok:∀fd:F9,Fun K n n st f fd->(∀ {k:Nat} {sp:Sp},FnOk P w K mg base CX0 k f fd ps sp->Dn P w K mg base n ps k sp)->FnOk P w K mg base CX0 k f fd ps sp):Dn P w K mg base n ps k sp:=by obtain⟨_,F,b,k,q⟩:=diE X G d ps hb;exact%[_,_,ok _ F λ h=>%[_,_,h,b,k|q],b,k|q]
theorem dnX{P:F8}{w:G0}{K:C6}{h:Heap}{mg:Str->Ml G1}{base:Heap}(X:K.In h)(G:h.Ns Mp mg){n:Str}{st:Stmt}{f:Mi}(d:DI K n st f)(ps:Mo Str)(hb:HBd n n st ps){k:Nat}{sp:Sp}(ok:∀fd:F9,Fun K n n st f fd->(∀ {k:Nat} {sp:Sp},FnOk P w K mg base (CXx P w) k f fd ps sp->L2.DnX P w K mg base n ps k sp)->FnOk P w K mg base (CXx P w) k f fd ps sp):L2.DnX P w K mg base n ps k sp:=by obtain⟨_,F,b,k,q⟩:=diE X G d ps hb;exact%[_,_,ok _ F λ h=>%[_,_,h,b,k|q],b,k|q]
theorem dnQ{P:F8}{w:G0}{K:C6}{h:Heap}{mg:Str->Ml G1}{base:Heap}(X:K.In h)(G:h.Ns Mp mg){n:Str}{st:Stmt}{f:Mi}(d:DI K n st f)(ps:Mo Str)(hb:HBd n n st ps){k:Nat}{sp:Sp}(ok:∀fd:F9,Fun K n n st f fd->(∀ {k:Nat} {sp:Sp},L2.FnQ P w K mg base k f fd ps sp->L2.DnQ P w K mg base n ps k sp)->L2.FnQ P w K mg base k f fd ps sp):L2.DnQ P w K mg base n ps k sp:=by obtain⟨_,F,b,k,q⟩:=diE X G d ps hb;exact%[_,_,ok _ F λ h=>%[_,_,h,b,k|q],b,k|q]
theorem bd1{n q:Str}{st:Stmt}{a:Str}(h:∀ (kV dc pm:G1) (an:Ml Mi) (cd ct ua:G1),bindArgs (fnS n q st kV dc pm an cd ct) %[[ua]|[]]=pure [(a,ua)]:=by intros;rfl):HBd n q st [a]:=by intro _ _ _ _ _ _ us hl;obtain⟨_,rfl⟩:=Js hl;exact h _ _ _ _ _ _ _
theorem bd2{n q:Str}{st:Stmt}{a b:Str}(h:∀ (kV dc pm:G1) (an:Ml Mi) (cd ct ua ub:G1),bindArgs (fnS n q st kV dc pm an cd ct) %[[ua,ub]|[]]=pure [(a,ua),(b,ub)]:=by intros;rfl):HBd n q st [a,b]:=by intro _ _ _ _ _ _ us hl;obtain⟨_,_,rfl⟩:=Az hl;exact h _ _ _ _ _ _ _ _
theorem bd3{n q:Str}{st:Stmt}{a b c:Str}(h:∀ (kV dc pm:G1) (an:Ml Mi) (cd ct ua ub uc:G1),bindArgs (fnS n q st kV dc pm an cd ct) %[[ua,ub,uc]|[]]=pure [(a,ua),(b,ub),(c,uc)]:=by intros;rfl):HBd n q st [a,b,c]:=by intro _ _ _ _ _ _ us hl;obtain⟨_,_,_,rfl⟩:=wP hl;exact h _ _ _ _ _ _ _ _ _
theorem bd4{n q:Str}{st:Stmt}{a b c d:Str}(h:∀ (kV dc pm:G1) (an:Ml Mi) (cd ct ua ub uc ud:G1),bindArgs (fnS n q st kV dc pm an cd ct) %[[ua,ub,uc,ud]|[]]=pure [(a,ua),(b,ub),(c,uc),(d,ud)]:=by intros;rfl):HBd n q st [a,b,c,d]:=by intro _ _ _ _ _ _ us hl;obtain⟨_,_,_,_,rfl⟩:=Jt hl;exact h _ _ _ _ _ _ _ _ _ _
theorem lx7{α:Type}{us:Mo α}(h:us.length=7):∃a b c d e f g,us=[a,b,c,d,e,f,g]:=by
 match us,h with
 | [a,b,c,d,e,f,g],_=>exact%[a,b,c,d,e,f,g|O]
theorem bd7{n q:Str}{st:Stmt}{a b c d e f g:Str}(h:∀ (kV dc pm:G1) (an:Ml Mi) (cd ct ua ub uc ud ue uf ug:G1),bindArgs (fnS n q st kV dc pm an cd ct) %[[ua,ub,uc,ud,ue,uf,ug]|[]]=pure [(a,ua),(b,ub),(c,uc),(d,ud),(e,ue),(f,uf),(g,ug)]:=by intros;rfl):HBd n q st [a,b,c,d,e,f,g]:=by intro _ _ _ _ _ _ us hl;obtain⟨_,_,_,_,_,_,_,rfl⟩:=lx7 hl;exact h _ _ _ _ _ _ _ _ _ _ _ _ _
open PySem.W in
theorem all_mk{l:OpenLaw}{w:G0}{K:Frag}{h:Heap}{mg:Str->Ml G1}{fa f0 f1 f2 f3 f4 f5 f6 f7 f8 f9 f10 f11 f12 f13 f14 f15 f16 f17 f18 f19 f20 f21 f22 f23 f24 f25 f26 f27 f28 f29 f30 f31 f32 f33 f34 f35 f36 C fm0 fm1 fm2 fm3 fm4 fm5 fm6 xPlateError xNoPlate xTooLarge xNoWeights xNoKind xNoKinds xNoLaying xNoLying xNoBlade xNoTable xNoTelling xNoText xNoTree xNoNumber:Mi}(X:K.In h)(G:h.Ns Mp mg)(hfa:mg "law" = ↑fa)
  {tc0:Tok} {tc1:Tok} {tc2:Tok} {tc3:Tok} {tc4:Tok} {tc5:Tok} {tc6:Tok} {tc7:Tok}
  (d0:DI K "is_whole" lU f0)
  (d1:DI K "is_truth" lV f1)
  (d2:DI K "is_row" xV f2)
  (d3:DI K "is_kind" iR f3)
  (d4:DI K "can_lie_turned" iS f4)
  (d5:DI K "check_plate" bO f5)
  (d6:DI K "check_sides" bP f6)
  (d7:DI K "lies_in" iQ f7)
  (d8:DI K "lyings_in" dL f8)
  (d9:DI K "parts_up_to" cQ f9)
  (d10:DI K "cut_parts" fm f10)
  (d11:DI K "cuts_of" eg f11)
  (d12:DI K "check_small" bQ f12)
  (d13:DI K "bundle_of_one" ci f13)
  (d14:DI K "joined" gq f14)
  (d15:DI K "is_lesser" dM f15)
  (d16:DI K "greatest_alone" bp f16)
  (d17:DI K "steps_of_part" cj f17)
  (d18:DI K "greatest_steps" cq f18)
  (d19:DI K "common" gr f19)
  (d20:DI K "without" eW f20)
  (d21:DI K "all_wanted_fit" bw f21)
  (d22:DI K "fewest_bundles" bD f22)
  (d23:DI K "tree_by_bundle" bz f23)
  (d24:DI K "greatest_bundles" aU f24)
  (d25:DI K "fewest_of" cL f25)
  (d26:DI K "_law_cell" rn f26)
  (d27:DI K "_law_pot" xW f27)
  (d28:DI K "_law_draw" rp f28)
  (d29:DI K "_law_great" lW f29)
  (d30:DI K "_law_bad_side" gu f30)
  (d31:DI K "_law_kinds_of" eX f31)
  (d32:DI K "_law_asked" lX f32)
  (d33:DI K "_law_too_many" eY f33)
  (d34:DI K "_law_shop" nw f34)
  (d35:DI K "_law_right" jE f35)
  (d36:DI K "law" ny f36)
  (aC:nsIn K Mp "Shop" = some (↑C))
  (dm0:MI K C "__init__" "Shop.__init__" dN fm0)
  (dm1:MI K C "blade" "Shop.blade" eh fm1)
  (dm2:MI K C "kinds" "Shop.kinds" ei fm2)
  (dm3:MI K C "wanted" "Shop.wanted" cA fm3)
  (dm4:MI K C "lyings" "Shop.lyings" dg fm4)
  (dm5:MI K C "is_lying" "Shop.is_lying" cJ fm5)
  (dm6:MI K C "sides" "Shop.sides" ej fm6)
  (pg:plainGet K C Str.empty=true)
  (hd:hasDictIn K C=true)
  (po:plainOver K C=true)
  (sa:findIn K (.ref C) "__setattr__" = some (some (.builtin "object.__setattr__")))
  (mk:makesIn K C=true)
  (kc:keepIn K (.ref C)=true)
  (n0:findIn K (.ref C) "blade_width" = some none)
  (n1:findIn K (.ref C) "kind_rows" = some none)
  (ePlateError:nsIn K Mp "PlateError" = some (↑xPlateError))
  (eNoPlate:nsIn K Mp "NoPlate" = some (↑xNoPlate))
  (eTooLarge:nsIn K Mp "TooLarge" = some (↑xTooLarge))
  (eNoWeights:nsIn K Mp "NoWeights" = some (↑xNoWeights))
  (eNoKind:nsIn K Mp "NoKind" = some (↑xNoKind))
  (eNoKinds:nsIn K Mp "NoKinds" = some (↑xNoKinds))
  (eNoLaying:nsIn K Mp "NoLaying" = some (↑xNoLaying))
  (eNoLying:nsIn K Mp "NoLying" = some (↑xNoLying))
  (eNoBlade:nsIn K Mp "NoBlade" = some (↑xNoBlade))
  (eNoTable:nsIn K Mp "NoTable" = some (↑xNoTable))
  (eNoTelling:nsIn K Mp "NoTelling" = some (↑xNoTelling))
  (eNoText:nsIn K Mp "NoText" = some (↑xNoText))
  (eNoTree:nsIn K Mp "NoTree" = some (↑xNoTree))
  (eNoNumber:nsIn K Mp "NoNumber" = some (↑xNoNumber))
  (sysm:(K.lookup sysModules).map (·.cls)=some (.type "dict"))
  (cPlateError:excIn K xPlateError L2.bmVE "ValueError.__new__" = true)
  (cNoPlate:excIn K xNoPlate L2.bmVE "ValueError.__new__" = true)
  (cTooLarge:excIn K xTooLarge L2.bmVE "ValueError.__new__" = true)
  (cNoWeights:excIn K xNoWeights L2.bmVE "ValueError.__new__" = true)
  (cNoKind:excIn K xNoKind L2.bmVE "ValueError.__new__" = true)
  (cNoKinds:excIn K xNoKinds L2.bmVE "ValueError.__new__" = true)
  (cNoLaying:excIn K xNoLaying L2.bmVE "ValueError.__new__" = true)
  (cNoLying:excIn K xNoLying L2.bmVE "ValueError.__new__" = true)
  (cNoBlade:excIn K xNoBlade L2.bmVE "ValueError.__new__" = true)
  (cNoTable:excIn K xNoTable L2.bmVE "ValueError.__new__" = true)
  (cNoTelling:excIn K xNoTelling L2.bmVE "ValueError.__new__" = true)
  (cNoText:excIn K xNoText L2.bmVE "ValueError.__new__" = true)
  (cNoTree:excIn K xNoTree L2.bmVE "ValueError.__new__" = true)
  (cNoNumber:excIn K xNoNumber L2.bmVE "ValueError.__new__" = true)
  (sNoPlatePlateError:subIn K (.ref xNoPlate) (.ref xPlateError)=some true)
  (sNoPlateNoPlate:subIn K (.ref xNoPlate) (.ref xNoPlate)=some true)
  (sNoPlateTooLarge:subIn K (.ref xNoPlate) (.ref xTooLarge)=some false)
  (sNoPlateNoWeights:subIn K (.ref xNoPlate) (.ref xNoWeights)=some false)
  (sNoPlateNoKind:subIn K (.ref xNoPlate) (.ref xNoKind)=some false)
  (sNoPlateNoKinds:subIn K (.ref xNoPlate) (.ref xNoKinds)=some false)
  (sNoPlateNoLaying:subIn K (.ref xNoPlate) (.ref xNoLaying)=some false)
  (sNoPlateNoLying:subIn K (.ref xNoPlate) (.ref xNoLying)=some false)
  (sNoPlateNoBlade:subIn K (.ref xNoPlate) (.ref xNoBlade)=some false)
  (sNoPlateNoTable:subIn K (.ref xNoPlate) (.ref xNoTable)=some false)
  (sNoPlateNoTelling:subIn K (.ref xNoPlate) (.ref xNoTelling)=some false)
  (sNoPlateNoText:subIn K (.ref xNoPlate) (.ref xNoText)=some false)
  (sNoPlateNoTree:subIn K (.ref xNoPlate) (.ref xNoTree)=some false)
  (sNoPlateNoNumber:subIn K (.ref xNoPlate) (.ref xNoNumber)=some false)
  (vNoPlate:subIn K (.ref xNoPlate) (.type "ValueError")=some true)
  (kaNoPlate:findIn K (.ref xNoPlate) "__class__" = some (some (.builtin "object.__class__")))
  (kbNoPlate:findIn K (.ref xNoPlate) "__getattribute__" = some (some (.builtin "BaseException.__getattribute__")))
  (kcNoPlate:findIn K (.ref xNoPlate) "__getattr__" = some none)
  (kdNoPlate:subIn K (.ref xNoPlate) (.type "BaseException")=some true)
  (keNoPlate:subIn K (.ref xNoPlate) (.type "object")=some true)
  (sTooLargePlateError:subIn K (.ref xTooLarge) (.ref xPlateError)=some true)
  (sTooLargeNoPlate:subIn K (.ref xTooLarge) (.ref xNoPlate)=some false)
  (sTooLargeTooLarge:subIn K (.ref xTooLarge) (.ref xTooLarge)=some true)
  (sTooLargeNoWeights:subIn K (.ref xTooLarge) (.ref xNoWeights)=some false)
  (sTooLargeNoKind:subIn K (.ref xTooLarge) (.ref xNoKind)=some false)
  (sTooLargeNoKinds:subIn K (.ref xTooLarge) (.ref xNoKinds)=some false)
  (sTooLargeNoLaying:subIn K (.ref xTooLarge) (.ref xNoLaying)=some false)
  (sTooLargeNoLying:subIn K (.ref xTooLarge) (.ref xNoLying)=some false)
  (sTooLargeNoBlade:subIn K (.ref xTooLarge) (.ref xNoBlade)=some false)
  (sTooLargeNoTable:subIn K (.ref xTooLarge) (.ref xNoTable)=some false)
  (sTooLargeNoTelling:subIn K (.ref xTooLarge) (.ref xNoTelling)=some false)
  (sTooLargeNoText:subIn K (.ref xTooLarge) (.ref xNoText)=some false)
  (sTooLargeNoTree:subIn K (.ref xTooLarge) (.ref xNoTree)=some false)
  (sTooLargeNoNumber:subIn K (.ref xTooLarge) (.ref xNoNumber)=some false)
  (vTooLarge:subIn K (.ref xTooLarge) (.type "ValueError")=some true)
  (kaTooLarge:findIn K (.ref xTooLarge) "__class__" = some (some (.builtin "object.__class__")))
  (kbTooLarge:findIn K (.ref xTooLarge) "__getattribute__" = some (some (.builtin "BaseException.__getattribute__")))
  (kcTooLarge:findIn K (.ref xTooLarge) "__getattr__" = some none)
  (kdTooLarge:subIn K (.ref xTooLarge) (.type "BaseException")=some true)
  (keTooLarge:subIn K (.ref xTooLarge) (.type "object")=some true)
  (bPlateError:subIn K (.ref xPlateError) (.type "BaseException")=some true)
  (z0:nsIn K Mp "isinstance" = some none)
  (z1:nsIn K Mp "int" = some none)
  (z2:nsIn K Mp "bool" = some none)
  (z3:nsIn K Mp "list" = some none)
  (z4:nsIn K Mp "tuple" = some none)
  (z5:nsIn K Mp "len" = some none)
  (z6:nsIn K Mp "range" = some none)
  (z7:nsIn K Mp "max" = some none)
  (z8:nsIn K Mp "min" = some none)
  (z9:nsIn K Mp "abs" = some none)
  (z10:nsIn K Mp "divmod" = some none)
  (z11:nsIn K Mp "sum" = some none)
  (z12:nsIn K Mp "sorted" = some none)
  (z13:nsIn K Mp "all" = some none)
  (z14:nsIn K Mp "repr" = some none)
  (z15:nsIn K Mp "zip" = some none)
  (z16:nsIn K Mp "enumerate" = some none)
  (z17:nsIn K Mp "str" = some none)
  (z18:nsIn K Mp "any" = some none)
  (z19:nsIn K Mp "dict" = some none)
  (z20:nsIn K Mp "ValueError" = some none)
  (uc0:nsIn K Mp "MOST_KINDS" = some (some (.int 8 tc0)))
  (uc1:nsIn K Mp "THINGS_OF_A_KIND" = some (some (.int 5 tc1)))
  (uc2:nsIn K Mp "DOWN" = some (some (.str "down" tc2)))
  (uc3:nsIn K Mp "REST" = some (some (.str "rest" tc3)))
  (uc4:nsIn K Mp "PIECE" = some (some (.str "piece" tc4)))
  (uc5:nsIn K Mp "ACROSS" = some (some (.str "across" tc5)))
  (uc6:nsIn K Mp "MOST_SIDE" = some (some (.int 8 tc6)))
  (uc7:nsIn K Mp "MOST_WANTED" = some (some (.int 6 tc7))) :
  ∃fd:F9,(∀(s:F7)(v:G1),BindsTo s fd %[[v]|[]] [("_law_script",v)])/\∀base:Heap,K.In base->base.Ns Mp mg->FnOk l.prog w K mg base CX0 23 fa fd ["_law_script"] (rJ K):=by
 obtain⟨_,an,_,_,kV,dc,pm,cd,ct,a36,l36,c36,k36⟩:=d36;have F36:=oz (st:=ny) l36 c36 k36;obtain⟨_,Fm0,bm0,km0,am0,im0⟩:=miE dm0 ["self","blade","kinds"] (bd3 λ _ _ _ _ _ _ _ _ _=>rfl);obtain⟨_,Fm1,bm1,km1,am1,im1⟩:=miE dm1 ["self"] (bd1 λ _ _ _ _ _ _ _=>rfl);obtain⟨_,Fm2,bm2,km2,am2,im2⟩:=miE dm2 ["self"] (bd1 λ _ _ _ _ _ _ _=>rfl);obtain⟨_,Fm3,bm3,km3,am3,im3⟩:=miE dm3 ["self"] (bd1 λ _ _ _ _ _ _ _=>rfl);obtain⟨_,Fm4,bm4,km4,am4,im4⟩:=miE dm4 ["self"] (bd1 λ _ _ _ _ _ _ _=>rfl);obtain⟨_,Fm5,bm5,km5,am5,im5⟩:=miE dm5 ["self","kind","turned"] (bd3 λ _ _ _ _ _ _ _ _ _=>rfl);obtain⟨_,Fm6,bm6,km6,am6,im6⟩:=miE dm6 ["self","kind","turned"] (bd3 λ _ _ _ _ _ _ _ _ _=>rfl);have e:=hfa.symm.trans (mg_of X G a36);cases e;have y0:=mg_none_of X G z0;have y1:=mg_none_of X G z1;have y2:=mg_none_of X G z2;have y3:=mg_none_of X G z3;have y4:=mg_none_of X G z4;have y5:=mg_none_of X G z5;have y6:=mg_none_of X G z6;have y7:=mg_none_of X G z7;have y8:=mg_none_of X G z8;have y9:=mg_none_of X G z9;have y10:=mg_none_of X G z10;have y11:=mg_none_of X G z11;have y12:=mg_none_of X G z12;have y13:=mg_none_of X G z13;have y14:=mg_none_of X G z14;have y15:=mg_none_of X G z15;have y16:=mg_none_of X G z16;have y17:=mg_none_of X G z17;have y18:=mg_none_of X G z18;have y19:=mg_none_of X G z19;have y20:=mg_none_of X G z20;have gPlateError:=mg_of X G ePlateError;have gNoPlate:=mg_of X G eNoPlate;have gTooLarge:=mg_of X G eTooLarge;have gNoWeights:=mg_of X G eNoWeights;have gNoKind:=mg_of X G eNoKind;have gNoKinds:=mg_of X G eNoKinds;have gNoLaying:=mg_of X G eNoLaying;have gNoLying:=mg_of X G eNoLying;have gNoBlade:=mg_of X G eNoBlade;have gNoTable:=mg_of X G eNoTable;have gNoTelling:=mg_of X G eNoTelling;have gNoText:=mg_of X G eNoText;have gNoTree:=mg_of X G eNoTree;have gNoNumber:=mg_of X G eNoNumber;have u0:=mg_of X G uc0;have u1:=mg_of X G uc1;have u2:=mg_of X G uc2;have u3:=mg_of X G uc3;have u4:=mg_of X G uc4;have u5:=mg_of X G uc5;have u6:=mg_of X G uc6;have u7:=mg_of X G uc7;have qC:=mg_of X G aC;refine%[fnOf "law" "law" (defArgs ny) (defBody ny) (defScope ny) .none kV dc pm an cd ct,λ s v=>.of_eq rfl|λ base _ _=>?_];have dA:=@dnA l.prog w K h mg base X G;have dX:=@dnX l.prog w K h mg base X G;have dQ:=@dnQ l.prog w K h mg base X G;have B:Blt mg:=%[y0,y1,y2,y3,y4,y5,y6,y7,y8,y9,y10,y11,y12,y13,y14,y15,y16,%[_|u0]|%[_|u1]]
 have T:ShopTxt K C:=%[%[pg,hd,po|sa],n0|n1]
 have ZB:BeC mg:=%[%[_|u2],%[_|u3],%[_|u4]|%[_|u5]]
 have SM:L2.SysIn K:=by
  cases e:K.lookup sysModules with
  | none=>rw[e]at sysm;cases sysm
  | some o=>rw[e]at sysm;exact%[o,e|B9 sysm]
 have D0:=dA d0 ["thing","least"] bd2 λ _ F _=>vN F B;have D1:=dA d1 ["thing"] bd1 λ _ F _=>vO F B;have D2:=dA d2 ["thing"] bd1 λ _ F _=>Al F B;have D3:=dA d3 ["thing"] bd1 λ _ F _=>sV F B D0 D1 D2;have D4:=dA d4 ["kind"] bd1 λ _ F _=>sW F;have MB:Mn l.prog w K mg base C "blade" ["self"] 1 (iO C):=%[_,_,vP Fm1 T,bm1|%[am1,im1|km1]]
 have MK:Mn l.prog w K mg base C "kinds" ["self"] 1 (lF C):=%[_,_,vQ Fm2 T y3,bm2|%[am2,im2|km2]]
 have MW:Mn l.prog w K mg base C "wanted" ["self"] 1 (cS C):=%[_,_,tF Fm3 B T,bm3|%[am3,im3|km3]]
 have ML:Mn l.prog w K mg base C "lyings" ["self"] 2 (jn C):=%[_,_,sX Fm4 T y16 D4,bm4|%[am4,im4|km4]]
 have MI:Mn l.prog w K mg base C "is_lying" ["self","kind","turned"] 2 (fh K C):=%[_,_,oY Fm5 B T D0 D1 D4,bm5|%[am5,im5|km5]]
 have MS:Mn l.prog w K mg base C "sides" ["self","kind","turned"] 3 (spSides K C):=%[_,_,vT Fm6 T MI,bm6|%[am6,im6|km6]]
 have DS:Kn l.prog w K mg base "Shop" C ["self","blade","kinds"] 3 (oF C):=%[_,_,%[mk,am0,im0|kc],xZ Fm0 B T D0 D2 D3,bm0|qC]
 have D5:=dA d5 ["wide","high"] bd2 λ _ F _=>tj F D0;have D6:=dA d6 ["wide","high","most"] bd3 λ _ F _=>tm F;have D7:=dA d7 ["shop","wide","high","kind","turned","x","y"] bd7 λ _ F _=>yd F T D0 MI MS;have D8:=dA d8 ["shop","part"] bd2 λ _ F _=>yf F T ML D7;have D9:=dA d9 ["wide","high"] bd2 λ _ F _=>vV F B;have D10:=dA d10 ["blade","part","way","p"] bd4 λ _ F _=>tq F ZB;have D11:=dA d11 ["blade","part"] bd2 λ _ F _=>yg F B ZB D10;have D12:=dA d12 ["shop","wide","high"] bd3 λ _ F _=>tG F B T %[_|u6] %[_|u7] MW D5 D6;have D13:=dA d13 ["wanted","kind"] bd2 λ _ F _=>yh F B;have D14:=dA d14 ["one","other","wanted"] bd3 λ _ F _=>tD F B;have D15:=dA d15 ["one","other"] bd2 λ _ F _=>tE F B;have D16:=dA d16 ["steps"] bd1 λ _ F _=>wg F B y18 D15;have D17:=dA d17 ["shop","part","found"] bd3 λ _ F _=>wj F B ZB T MW MB D8 D13 D14 D11;have D18:=dA d18 ["shop","wide","high"] bd3 λ _ F _=>tM F B D9 D17 D16;have D19:=dA d19 ["one","other"] bd2 λ _ F _=>yn F B;have D20:=dA d20 ["bundle","other"] bd2 λ _ F _=>wr F B;have D21:=dA d21 ["shop","plate"] bd2 λ _ F _=>Ao F B T MW D8;have D22:=dA d22 ["bundles","wanted"] bd2 λ _ F _=>yo F B D20;have D23:=dA d23 ["found","part","greatest","bundle"] bd4 λ _ F m=>rE F B ZB D19 D20 (λ n h=>m h) 17;have XCP:=dX d5 ["wide","high"] bd2 λ _ F _=>pw F gNoPlate cNoPlate D0;have XCS:=dX d6 ["wide","high","most"] bd3 λ _ F _=>pC F gTooLarge cTooLarge;have XSM:=dX d12 ["shop","wide","high"] bd3 λ _ F _=>yr F B T %[_|u6] %[_|u7] gTooLarge cTooLarge MW XCP XCS;have XG:=dX d24 ["shop","wide","high"] bd3 λ _ F _=>FnOk.or (FnOk.weak (tN F B D12 D18)) (FnOk.mono (pE F XSM) ∅);have XF:=dX d25 ["shop","wide","high"] bd3 λ _ F _=>FnOk.or (FnOk.weak (yq F B T MW D12 D21 D18 D22 D19 D20 D23)) (FnOk.mono (wA F XSM) ∅);have D26:=dA d26 ["_law_script","_law_k"] bd2 λ _ F _=>yt F B;have D27:=dA d27 ["_law_cell_here"] bd1 λ _ F _=>As F B;have D28:=dA d28 ["_law_pot_here","_law_many"] bd2 λ _ F _=>yu F B;have D29:=dA d29 ["_law_pot_here"] bd1 λ _ F _=>wB F D28;have D30:=dA d30 ["_law_pot_here"] bd1 λ _ F _=>yv F B D28 D29;have XNoPlate:ExK K xNoPlate:=%[kaNoPlate,kbNoPlate,kcNoPlate,kdNoPlate,keNoPlate|(lL cNoPlate).1]
 have ZNoPlate:Kc K mg xNoPlate xNoPlate xTooLarge xNoWeights xNoKind xNoKinds xNoLaying xNoLying xNoBlade xNoTable xNoTelling xNoText xNoTree xNoNumber true false false:=%[gNoPlate,gTooLarge,gNoWeights,gNoKind,gNoKinds,gNoLaying,gNoLying,gNoBlade,gNoTable,gNoTelling,gNoText,gNoTree,gNoNumber,y20,mV,(bc sNoPlateNoPlate cTooLarge sNoPlateTooLarge),(bc sNoPlateNoPlate cNoWeights sNoPlateNoWeights),(bc sNoPlateNoPlate cNoKind sNoPlateNoKind),(bc sNoPlateNoPlate cNoKinds sNoPlateNoKinds),(bc sNoPlateNoPlate cNoLaying sNoPlateNoLaying),(bc sNoPlateNoPlate cNoLying sNoPlateNoLying),(bc sNoPlateNoPlate cNoBlade sNoPlateNoBlade),(bc sNoPlateNoPlate cNoTable sNoPlateNoTable),(bc sNoPlateNoPlate cNoTelling sNoPlateNoTelling),(bc sNoPlateNoPlate cNoText sNoPlateNoText),(bc sNoPlateNoPlate cNoTree sNoPlateNoTree),(bc sNoPlateNoPlate cNoNumber sNoPlateNoNumber)|vi vNoPlate]
 have XTooLarge:ExK K xTooLarge:=%[kaTooLarge,kbTooLarge,kcTooLarge,kdTooLarge,keTooLarge|(lL cTooLarge).1]
 have ZTooLarge:Kc K mg xTooLarge xNoPlate xTooLarge xNoWeights xNoKind xNoKinds xNoLaying xNoLying xNoBlade xNoTable xNoTelling xNoText xNoTree xNoNumber false true false:=%[gNoPlate,gTooLarge,gNoWeights,gNoKind,gNoKinds,gNoLaying,gNoLying,gNoBlade,gNoTable,gNoTelling,gNoText,gNoTree,gNoNumber,y20,(bc sTooLargeTooLarge cNoPlate sTooLargeNoPlate),mV,(bc sTooLargeTooLarge cNoWeights sTooLargeNoWeights),(bc sTooLargeTooLarge cNoKind sTooLargeNoKind),(bc sTooLargeTooLarge cNoKinds sTooLargeNoKinds),(bc sTooLargeTooLarge cNoLaying sTooLargeNoLaying),(bc sTooLargeTooLarge cNoLying sTooLargeNoLying),(bc sTooLargeTooLarge cNoBlade sTooLargeNoBlade),(bc sTooLargeTooLarge cNoTable sTooLargeNoTable),(bc sTooLargeTooLarge cNoTelling sTooLargeNoTelling),(bc sTooLargeTooLarge cNoText sTooLargeNoText),(bc sTooLargeTooLarge cNoTree sTooLargeNoTree),(bc sTooLargeTooLarge cNoNumber sTooLargeNoNumber)|vi vTooLarge]
 have XK:=dQ d31 ["_law_error"] bd1 λ _ F _=>L2.FnQ.or (kY F B XNoPlate ZNoPlate) (kY F B XTooLarge ZTooLarge);have D32:=dA d32 ["_law_way","_law_shop_here","_law_wide","_law_high"] bd4 λ _ F _=>yx F XG XF XK gPlateError (vj cPlateError bPlateError sNoPlatePlateError) (vj cPlateError bPlateError sTooLargePlateError);have D33:=dA d33 ["_law_pot_here","_law_kinds","_law_which"] bd3 λ _ F _=>yy F B D28 D29;have D34:=dA d34 ["_law_pot_here","_law_wide","_law_high","_law_bad"] bd4 λ _ F _=>wH F B D28 D29 D33 DS;have D35:=dA d35 ["_law_pot_here"] bd1 λ _ F _=>wO F B SM T MK MB D28 D29 D34 D30 D32;exact Ay F36 B D26 D27 D35
theorem walk{l:PySem.W.OpenLaw}{q:F8}{loose:Mo Str}{XP:(Str->Ml G1)->Heap->Prop}{YP:G0->Heap->Prop}{d:DefRec}{K:Params->C6}(hn:l.most=some 63)(hdf:d.params.defaults=[])
  (hY:∀(w:G0)(h:Heap),YP w h->(K w.params).In h)
  (F:∀(w:G0)(mg:Str->Ml G1)(fa:Mi)(h:Heap),(K w.params).In h->h.Ns Mp mg->mg d.name=↑fa ->
   ∃fd:F9,(∀(s:F7)(u:G1),BindsTo s fd %[[u]|[]] [("_law_script",u)])/\∀base:Heap,(K w.params).In base->base.Ns Mp mg->FnOk l.prog w (K w.params) mg base CX0 23 fa fd ["_law_script"] (rJ (K w.params))) :
  PySem.W.WalkO q loose XP YP l.row.toRowW d [] (λ f vs=>PySem.call f vs) :=
 L2.walk_of (n:=63) (k:=23) (x := "_law_script") (CX:=λ _=>CX0) (sp:=λ w=>rJ (K w.params)) hn ∅ hdf %[rfl,∅,∅|rfl] hY F (λ _ _ a ns hl _ hS=>%[a,ns,O,hS,hl|λ _=>rfl]) λ _ _ _ _ _ z=>z
end Pc
namespace Pc
open PySem L2
section
open PySem.W
def kE(P:Params)(n:Str)(t:Nat)(v:G1):DictEntry:=%[PyData.keyHash P n,.str n t|v]
def kO3(P:Params):Obj:=%[(.type "dict"),none,(.dict #[kE P "__name__" 165 (.str "law_platecuts_k74_bundles_refused" 736),kE P "__doc__" 166 .none,kE P "__package__" 167 .none,kE P "__loader__" 168 (.builtin "__main__.__loader__#opaque"),kE P "__spec__" 169 .none,kE P "__annotations__" 170 (.ref 6),kE P "__builtins__" 171 (.ref 4),kE P "__file__" 173 (.str "/claim/cut.py" 172),kE P "__cached__" 174 .none,kE P "PlateError" 206 (.ref 24),kE P "NoBlade" 222 (.ref 37),kE P "NoKinds" 238 (.ref 49),kE P "NoKind" 254 (.ref 61),kE P "NoLying" 270 (.ref 73),kE P "NoText" 286 (.ref 85),kE P "NoPlate" 302 (.ref 97),kE P "NoTree" 318 (.ref 109),kE P "NoLaying" 334 (.ref 121),kE P "TooLarge" 350 (.ref 133),kE P "NoTable" 366 (.ref 145),kE P "NoNumber" 382 (.ref 157),kE P "NoWeights" 398 (.ref 169),kE P "NoTelling" 414 (.ref 181),kE P "is_whole" 424 (.ref 190),kE P "is_truth" 431 (.ref 197),kE P "is_row" 438 (.ref 204),kE P "check_plate" 446 (.ref 211),kE P "check_sides" 455 (.ref 218),kE P "DOWN" 459 (.str "down" 458),kE P "ACROSS" 461 (.str "across" 460),kE P "lies_in" 476 (.ref 225),kE P "lyings_in" 482 (.ref 230),kE P "cut_parts" 494 (.ref 237),kE P "cuts_of" 500 (.ref 242),kE P "parts_up_to" 506 (.ref 247),kE P "REST" 508 (.str "rest" 507),kE P "PIECE" 510 (.str "piece" 509),kE P "MOST_SIDE" 514 (.int 8 513),kE P "MOST_WANTED" 516 (.int 6 515),kE P "check_small" 525 (.ref 254),kE P "bundle_of_one" 531 (.ref 259),kE P "joined" 537 (.ref 264),kE P "is_lesser" 543 (.ref 269),kE P "steps_of_part" 549 (.ref 274),kE P "greatest_alone" 555 (.ref 279),kE P "greatest_steps" 566 (.ref 286),kE P "greatest_bundles" 572 (.ref 291),kE P "common" 580 (.ref 296),kE P "without" 586 (.ref 301),kE P "all_wanted_fit" 592 (.ref 306),kE P "fewest_bundles" 598 (.ref 311),kE P "tree_by_bundle" 618 (.ref 318),kE P "fewest_of" 633 (.ref 325),kE P "MOST_KINDS" 637 (.int 8 636),kE P "THINGS_OF_A_KIND" 639 (.int 5 638),kE P "is_kind" 651 (.ref 332),kE P "can_lie_turned" 658 (.ref 339),kE P "Shop" 735 (.ref 394),kE P "_law_cell" 745 (.ref 405),kE P "_law_pot" 752 (.ref 412),kE P "_law_draw" 761 (.ref 419),kE P "_law_great" 768 (.ref 426),kE P "_law_bad_side" 776 (.ref 433),kE P "_law_kinds_of" 782 (.ref 438),kE P "_law_asked" 795 (.ref 445),kE P "_law_too_many" 801 (.ref 450),kE P "_law_shop" 807 (.ref 455),kE P "_law_right" 813 (.ref 460),kE P "law" 821 (.ref 467)] 69)|#[]]
def Ju(P:Params):Obj:=%[(.type "dict"),none,(.dict #[kE P "__module__" 196 (.str "platecuts.errors" 187),kE P "__firstlineno__" 200 (.int 2 199),kE P "__static_attributes__" 201 (.ref 22),kE P "__weakref__" 203 (.ref 25),kE P "__doc__" 204 .none] 3)|#[]]
def Jv(P:Params):Obj:=%[(.type "type"),none,(.cls %["PlateError",[.type "ValueError"],[.ref 24,.type "ValueError",.type "Exception",.type "BaseException",.type "object"],23,"PlateError",true,[],[.ref 37,.ref 49,.ref 61,.ref 73,.ref 85,.ref 97,.ref 109,.ref 121,.ref 133,.ref 145,.ref 157,.ref 169,.ref 181],false,none|false])|#[↑15,none,some (.str "PlateError" 189),some (.str "PlateError" 197),some (.builtin "ValueError.__new__"),some (.bool true)]]
def gk0(x0 x1 x2 x3 x4 x5 x6:Nat)(P:Params):Obj:=%[(.type "dict"),none,(.dict #[kE P "__module__" x0 (.str "platecuts.errors" 187),kE P "__firstlineno__" x1 (.int x2 x3),kE P "__static_attributes__" x4 (.ref x5),kE P "__doc__" x6 .none] 2)|#[]]
def Jw:=gk0 214 218 4 217 219 35 220
def gk1(x0:Str)(x1 x2 x3 x4 x5:Nat)(P:Params):Obj:=%[(.type "type"),none,(.cls %[x0,[.ref 24],[.ref x1,.ref 24,.type "ValueError",.type "Exception",.type "BaseException",.type "object"],x2,x0,true,[],[],false,none|false])|#[↑x3,none,some (.str x0 x4),some (.str x0 x5),some (.builtin "ValueError.__new__"),some (.bool true)]]
def Jx:=gk1 "NoBlade" 37 36 28 207 215
def Jy:=gk0 230 234 6 233 235 47 236
def Jz:=gk1 "NoKinds" 49 48 40 223 231
def JA:=gk0 246 250 8 249 251 59 252
def JB:=gk1 "NoKind" 61 60 52 239 247
def JC:=gk0 262 266 10 265 267 71 268
def JD:=gk1 "NoLying" 73 72 64 255 263
def JE:=gk0 278 282 12 281 283 83 284
def JF:=gk1 "NoText" 85 84 76 271 279
def JG:=gk0 294 298 14 297 299 95 300
def JH:=gk1 "NoPlate" 97 96 88 287 295
def EI:=gk0 310 314 16 313 315 107 316
def EJ:=gk1 "NoTree" 109 108 100 303 311
def EK:=gk0 326 330 18 329 331 119 332
def EL:=gk1 "NoLaying" 121 120 112 319 327
def EM:=gk0 342 346 20 345 347 131 348
def EN:=gk1 "TooLarge" 133 132 124 335 343
def EO:=gk0 358 362 22 361 363 143 364
def EQ:=gk1 "NoTable" 145 144 136 351 359
def ER:=gk0 374 378 24 377 379 155 380
def ES:=gk1 "NoNumber" 157 156 148 367 375
def ET:=gk0 390 394 26 393 395 167 396
def EU:=gk1 "NoWeights" 169 168 160 383 391
def EV:=gk0 406 410 28 409 411 179 412
def EW:=gk1 "NoTelling" 181 180 172 399 407
def gk2(x0:Str)(x1:Nat)(x2:Str)(x3 x4 x5 x6 x7 x8 x9 x10 x11 x12 x13:Nat)(P:Params):Obj:=%[(.type "code"),none,(.fields #[.str x0 x1,.str x2 x3,.str "/claim/cut.py" x4,.int x5 0,.int x6 0,.int 0 0,.int 0 0,.int 3 0,.ref x7,.bool true,.int 181 0,.ref x8,.none,.ref x9,.ref x10,.ref x11,.int x12 0,.int x5 0,.str "/claim/cut.py" x13])|#[]]
def EX:=gk2 "is_whole" 417 "is_whole" 418 419 31 2 184 185 186 187 188 422 423
def gk3(x0 x1:Str)(x2:Stmt)(x3:Str)(x4 x5:Nat)(P:Params):Obj:=%[(.type "function"),none,(.func (fnOf x0 x1 (defArgs x2) (defBody x2) (defScope x2) .none .none .none (.str x3 x4) none (.ref x5) .none))|#[]]
def EY:=gk3 "is_whole" "is_whole" lU "platecuts.checks" 415 189
def EZ:=gk2 "is_truth" 425 "is_truth" 426 427 33 1 191 192 193 194 195 429 430
def Fa:=gk3 "is_truth" "is_truth" lV "platecuts.checks" 415 196
def Fb:=gk2 "is_row" 432 "is_row" 433 434 35 1 198 199 200 201 202 436 437
def Fc:=gk3 "is_row" "is_row" xV "platecuts.checks" 415 203
def Fd:=gk2 "check_plate" 439 "check_plate" 440 441 37 2 205 206 207 208 209 444 445
def Fe:=gk3 "check_plate" "check_plate" bO "platecuts.checks" 415 210
def Ff:=gk2 "check_sides" 447 "check_sides" 448 449 40 3 212 213 214 215 216 453 454
def Fg:=gk3 "check_sides" "check_sides" bP "platecuts.checks" 415 217
def Fh:=gk2 "lies_in" 462 "lies_in" 463 464 46 7 219 220 221 222 223 474 475
def Fi:=gk3 "lies_in" "lies_in" iQ "platecuts.parts" 456 224
def gk4(x0:Str)(x1:Nat)(x2:Str)(x3 x4 x5 x6 x7 x8 x9 x10 x11:Nat)(P:Params):Obj:=%[(.type "code"),none,(.fields #[.str x0 x1,.str x2 x3,.str "/claim/cut.py" x4,.int x5 0,.int x6 0,.int 0 0,.int 0 0,.int 3 0,.ref x7,.bool true,.int 181 0,.ref x8,.none,.none,.none,.ref x9,.int x10 0,.int x5 0,.str "/claim/cut.py" x11])|#[]]
def Fj:=gk4 "lyings_in" 477 "lyings_in" 478 479 51 2 226 227 228 480 481
def Fk:=gk3 "lyings_in" "lyings_in" dL "platecuts.parts" 456 229
def Fl:=gk2 "cut_parts" 483 "cut_parts" 484 485 54 4 231 232 233 234 235 492 493
def Fm:=gk3 "cut_parts" "cut_parts" fm "platecuts.parts" 456 236
def Fn:=gk4 "cuts_of" 495 "cuts_of" 496 497 59 2 238 239 240 498 499
def Fo:=gk3 "cuts_of" "cuts_of" eg "platecuts.parts" 456 241
def Fp:=gk4 "parts_up_to" 501 "parts_up_to" 502 503 63 2 243 244 245 504 505
def Fq:=gk3 "parts_up_to" "parts_up_to" cQ "platecuts.parts" 456 246
def Fs:=gk2 "check_small" 517 "check_small" 518 519 70 3 248 249 250 251 252 523 524
def Ft:=gk3 "check_small" "check_small" bQ "platecuts.bundles" 511 253
def Fu:=gk4 "bundle_of_one" 526 "bundle_of_one" 527 528 75 2 255 256 257 529 530
def Fv:=gk3 "bundle_of_one" "bundle_of_one" ci "platecuts.bundles" 511 258
def Fw:=gk4 "joined" 532 "joined" 533 534 77 3 260 261 262 535 536
def Fx:=gk3 "joined" "joined" gq "platecuts.bundles" 511 263
def Fy:=gk4 "is_lesser" 538 "is_lesser" 539 540 79 2 265 266 267 541 542
def Fz:=gk3 "is_lesser" "is_lesser" dM "platecuts.bundles" 511 268
def FA:=gk4 "steps_of_part" 544 "steps_of_part" 545 546 81 3 270 271 272 547 548
def FB:=gk3 "steps_of_part" "steps_of_part" cj "platecuts.bundles" 511 273
def FC:=gk4 "greatest_alone" 550 "greatest_alone" 551 552 92 1 275 276 277 553 554
def FE:=gk3 "greatest_alone" "greatest_alone" bp "platecuts.bundles" 511 278
def FF:=gk2 "greatest_steps" 556 "greatest_steps" 557 558 95 3 280 281 282 283 284 564 565
def FG:=gk3 "greatest_steps" "greatest_steps" cq "platecuts.bundles" 511 285
def FH:=gk4 "greatest_bundles" 567 "greatest_bundles" 568 569 100 3 287 288 289 570 571
def FI:=gk3 "greatest_bundles" "greatest_bundles" aU "platecuts.bundles" 511 290
def FJ:=gk4 "common" 575 "common" 576 577 105 2 292 293 294 578 579
def FK:=gk3 "common" "common" gr "platecuts.fewest" 573 295
def FL:=gk4 "without" 581 "without" 582 583 107 2 297 298 299 584 585
def FM:=gk3 "without" "without" eW "platecuts.fewest" 573 300
def FN:=gk4 "all_wanted_fit" 587 "all_wanted_fit" 588 589 109 2 302 303 304 590 591
def FO:=gk3 "all_wanted_fit" "all_wanted_fit" bw "platecuts.fewest" 573 305
def FP:=gk4 "fewest_bundles" 593 "fewest_bundles" 594 595 112 2 307 308 309 596 597
def FQ:=gk3 "fewest_bundles" "fewest_bundles" bD "platecuts.fewest" 573 310
def FR:=gk2 "tree_by_bundle" 599 "tree_by_bundle" 600 601 122 4 312 313 314 315 316 616 617
def FS:=gk3 "tree_by_bundle" "tree_by_bundle" bz "platecuts.fewest" 573 317
def FT:=gk2 "fewest_of" 619 "fewest_of" 620 621 133 3 319 320 321 322 323 631 632
def FU:=gk3 "fewest_of" "fewest_of" cL "platecuts.fewest" 573 324
def FV:=gk2 "is_kind" 640 "is_kind" 641 642 149 1 326 327 328 329 330 649 650
def FW:=gk3 "is_kind" "is_kind" iR "platecuts.shops" 634 331
def FX:=gk2 "can_lie_turned" 652 "can_lie_turned" 653 654 156 1 333 334 335 336 337 656 657
def FY:=gk3 "can_lie_turned" "can_lie_turned" iS "platecuts.shops" 634 338
def FZ:=gk4 "__init__" 671 "Shop.__init__" 672 673 160 3 347 348 349 674 675
def Ga:=gk3 "__init__" "Shop.__init__" dN "platecuts.shops" 634 350
def Gb:=gk2 "blade" 677 "Shop.blade" 678 679 171 1 352 353 354 355 356 681 682
def Gc:=gk3 "blade" "Shop.blade" eh "platecuts.shops" 634 357
def Gd:=gk2 "kinds" 684 "Shop.kinds" 685 686 174 1 359 360 361 362 363 688 689
def Ge:=gk3 "kinds" "Shop.kinds" ei "platecuts.shops" 634 364
def Gf:=gk4 "wanted" 691 "Shop.wanted" 692 693 177 1 366 367 368 694 695
def Gg:=gk3 "wanted" "Shop.wanted" cA "platecuts.shops" 634 369
def Gh:=gk2 "lyings" 697 "Shop.lyings" 698 699 180 1 371 372 373 374 375 704 705
def Gi:=gk3 "lyings" "Shop.lyings" dg "platecuts.shops" 634 376
def Gj:=gk2 "is_lying" 707 "Shop.is_lying" 708 709 188 3 378 379 380 381 382 713 714
def Gk:=gk3 "is_lying" "Shop.is_lying" cJ "platecuts.shops" 634 383
def Gm:=gk2 "sides" 716 "Shop.sides" 717 718 193 3 385 386 387 388 389 723 724
def Gn:=gk3 "sides" "Shop.sides" ej "platecuts.shops" 634 390
def Go(P:Params):Obj:=%[(.type "dict"),none,(.dict #[kE P "__module__" 666 (.str "platecuts.shops" 634),kE P "__firstlineno__" 670 (.int 158 669),kE P "__init__" 676 (.ref 351),kE P "blade" 683 (.ref 358),kE P "kinds" 690 (.ref 365),kE P "wanted" 696 (.ref 370),kE P "lyings" 706 (.ref 377),kE P "is_lying" 715 (.ref 384),kE P "sides" 725 (.ref 391),kE P "__static_attributes__" 728 (.ref 392),kE P "__dict__" 730 (.ref 395),kE P "__weakref__" 732 (.ref 396),kE P "__doc__" 733 .none] 4)|#[]]
def Gp(P:Params):Obj:=%[(.type "type"),none,(.cls %["Shop",[.type "object"],[.ref 394,.type "object"],393,"Shop",true,[],[],false,none|false])|#[none,none,some (.str "Shop" 659),some (.str "Shop" 667),some (.builtin "object.__new__"),some (.bool true)]]
def Gq:=gk2 "_law_cell" 738 "_law_cell" 739 740 201 2 399 400 401 402 403 743 744
def Gr:=gk3 "_law_cell" "_law_cell" rn "law_platecuts_k74_bundles_refused" 736 404
def Gs:=gk2 "_law_pot" 746 "_law_pot" 747 748 205 1 406 407 408 409 410 750 751
def Gu:=gk3 "_law_pot" "_law_pot" xW "law_platecuts_k74_bundles_refused" 736 411
def Gv:=gk2 "_law_draw" 753 "_law_draw" 754 755 207 2 413 414 415 416 417 759 760
def Gw:=gk3 "_law_draw" "_law_draw" rp "law_platecuts_k74_bundles_refused" 736 418
def Gx:=gk2 "_law_great" 762 "_law_great" 763 764 213 1 420 421 422 423 424 766 767
def Gy:=gk3 "_law_great" "_law_great" lW "law_platecuts_k74_bundles_refused" 736 425
def Gz:=gk2 "_law_bad_side" 769 "_law_bad_side" 770 771 215 1 427 428 429 430 431 774 775
def GA:=gk3 "_law_bad_side" "_law_bad_side" gu "law_platecuts_k74_bundles_refused" 736 432
def GB:=gk4 "_law_kinds_of" 777 "_law_kinds_of" 778 779 218 1 434 435 436 780 781
def GC:=gk3 "_law_kinds_of" "_law_kinds_of" eX "law_platecuts_k74_bundles_refused" 736 437
def GD:=gk2 "_law_asked" 783 "_law_asked" 784 785 225 4 439 440 441 442 443 793 794
def GE:=gk3 "_law_asked" "_law_asked" lX "law_platecuts_k74_bundles_refused" 736 444
def GF:=gk4 "_law_too_many" 796 "_law_too_many" 797 798 236 3 446 447 448 799 800
def GG:=gk3 "_law_too_many" "_law_too_many" eY "law_platecuts_k74_bundles_refused" 736 449
def GH:=gk4 "_law_shop" 802 "_law_shop" 803 804 244 4 451 452 453 805 806
def GI:=gk3 "_law_shop" "_law_shop" nw "law_platecuts_k74_bundles_refused" 736 454
def GJ:=gk4 "_law_right" 808 "_law_right" 809 810 258 1 456 457 458 811 812
def GK:=gk3 "_law_right" "_law_right" jE "law_platecuts_k74_bundles_refused" 736 459
def GL:=gk2 "law" 814 "law" 815 816 289 1 461 462 463 464 465 819 820
def GM:=gk3 "law" "law" ny "law_platecuts_k74_bundles_refused" 736 466
def kK:Params->Frag:=λ P=>(nat_lit 1,boot_o_1 P) :: (nat_lit 3,kO3 P) :: (nat_lit 23,Ju P) :: (nat_lit 24,Jv P) :: (nat_lit 36,Jw P) :: (nat_lit 37,Jx P) :: (nat_lit 48,Jy P) :: (nat_lit 49,Jz P) :: (nat_lit 60,JA P) :: (nat_lit 61,JB P) :: (nat_lit 72,JC P) :: (nat_lit 73,JD P) :: (nat_lit 84,JE P) :: (nat_lit 85,JF P) :: (nat_lit 96,JG P) :: (nat_lit 97,JH P) :: (nat_lit 108,EI P) :: (nat_lit 109,EJ P) :: (nat_lit 120,EK P) :: (nat_lit 121,EL P) :: (nat_lit 132,EM P) :: (nat_lit 133,EN P) :: (nat_lit 144,EO P) :: (nat_lit 145,EQ P) :: (nat_lit 156,ER P) :: (nat_lit 157,ES P) :: (nat_lit 168,ET P) :: (nat_lit 169,EU P) :: (nat_lit 180,EV P) :: (nat_lit 181,EW P) :: (nat_lit 189,EX P) :: (nat_lit 190,EY P) :: (nat_lit 196,EZ P) :: (nat_lit 197,Fa P) :: (nat_lit 203,Fb P) :: (nat_lit 204,Fc P) :: (nat_lit 210,Fd P) :: (nat_lit 211,Fe P) :: (nat_lit 217,Ff P) :: (nat_lit 218,Fg P) :: (nat_lit 224,Fh P) :: (nat_lit 225,Fi P) :: (nat_lit 229,Fj P) :: (nat_lit 230,Fk P) :: (nat_lit 236,Fl P) :: (nat_lit 237,Fm P) :: (nat_lit 241,Fn P) :: (nat_lit 242,Fo P) :: (nat_lit 246,Fp P) :: (nat_lit 247,Fq P) :: (nat_lit 253,Fs P) :: (nat_lit 254,Ft P) :: (nat_lit 258,Fu P) :: (nat_lit 259,Fv P) :: (nat_lit 263,Fw P) :: (nat_lit 264,Fx P) :: (nat_lit 268,Fy P) :: (nat_lit 269,Fz P) :: (nat_lit 273,FA P) :: (nat_lit 274,FB P) :: (nat_lit 278,FC P) :: (nat_lit 279,FE P) :: (nat_lit 285,FF P) :: (nat_lit 286,FG P) :: (nat_lit 290,FH P) :: (nat_lit 291,FI P) :: (nat_lit 295,FJ P) :: (nat_lit 296,FK P) :: (nat_lit 300,FL P) :: (nat_lit 301,FM P) :: (nat_lit 305,FN P) :: (nat_lit 306,FO P) :: (nat_lit 310,FP P) :: (nat_lit 311,FQ P) :: (nat_lit 317,FR P) :: (nat_lit 318,FS P) :: (nat_lit 324,FT P) :: (nat_lit 325,FU P) :: (nat_lit 331,FV P) :: (nat_lit 332,FW P) :: (nat_lit 338,FX P) :: (nat_lit 339,FY P) :: (nat_lit 350,FZ P) :: (nat_lit 351,Ga P) :: (nat_lit 357,Gb P) :: (nat_lit 358,Gc P) :: (nat_lit 364,Gd P) :: (nat_lit 365,Ge P) :: (nat_lit 369,Gf P) :: (nat_lit 370,Gg P) :: (nat_lit 376,Gh P) :: (nat_lit 377,Gi P) :: (nat_lit 383,Gj P) :: (nat_lit 384,Gk P) :: (nat_lit 390,Gm P) :: (nat_lit 391,Gn P) :: (nat_lit 393,Go P) :: (nat_lit 394,Gp P) :: (nat_lit 404,Gq P) :: (nat_lit 405,Gr P) :: (nat_lit 411,Gs P) :: (nat_lit 412,Gu P) :: (nat_lit 418,Gv P) :: (nat_lit 419,Gw P) :: (nat_lit 425,Gx P) :: (nat_lit 426,Gy P) :: (nat_lit 432,Gz P) :: (nat_lit 433,GA P) :: (nat_lit 437,GB P) :: (nat_lit 438,GC P) :: (nat_lit 444,GD P) :: (nat_lit 445,GE P) :: (nat_lit 449,GF P) :: (nat_lit 450,GG P) :: (nat_lit 454,GH P) :: (nat_lit 455,GI P) :: (nat_lit 459,GJ P) :: (nat_lit 460,GK P) :: (nat_lit 466,GL P) :: (nat_lit 467,GM P) :: []
end
end Pc
abbrev PySem.W.Fast.tw2602315190771188852:PySem.Program:=PySem.Challenge.pw_platecuts_k74_bundles_refused
theorem PySem.W.Fast.te2602315190771188852:PySem.Challenge.pw_platecuts_k74_bundles_refused=PySem.W.Fast.tw2602315190771188852:=rfl
namespace Hd
open PySem PySem.W
def S0:Str:="__name__"
def S2:Str:="__doc__"
def S3:Str:="__package__"
def S4:Str:="__loader__"
def S5:Str:="__spec__"
def JI:Str:="__main__"
def AA:Str:="__annotations__"
def AB:Str:="__builtins__"
def AC:Str:="__file__"
def mD:Str:=%[|%[|[47,99,108,97,105,109,47,99,117,116,46,112,121]]]
def AD:Str:="__cached__"
def JJ:Str:="<module>"
def eL:Str:="platecuts.errors"
def gM:Str:="PlateError"
def pH:Str:="NoBlade"
def pI:Str:="NoKinds"
def pJ:Str:="NoKind"
def pK:Str:="NoLying"
def pL:Str:="NoText"
def pM:Str:="NoPlate"
def pN:Str:="NoTree"
def pO:Str:="NoLaying"
def wQ:Str:="__module__"
def GN:Str:="__qualname__"
def wR:Str:="__firstlineno__"
def wS:Str:="__static_attributes__"
def AE:Str:="__weakref__"
def pP:Str:="platecuts.shops"
def tS:Str:="TooLarge"
def tT:Str:="NoTable"
def tU:Str:="NoNumber"
def tV:Str:="NoWeights"
def tW:Str:="NoTelling"
def pQ:Str:="is_whole"
def pR:Str:="is_truth"
def pS:Str:="is_row"
def pT:Str:="check_plate"
def pU:Str:="check_sides"
def AF:Str:="DOWN"
def GO:Str:="down"
def AG:Str:="ACROSS"
def GP:Str:="across"
def pV:Str:="lies_in"
def pW:Str:="lyings_in"
def pX:Str:="cut_parts"
def pY:Str:="cuts_of"
def pZ:Str:="parts_up_to"
def AH:Str:="REST"
def GQ:Str:="rest"
def AI:Str:="PIECE"
def GS:Str:="piece"
def AJ:Str:="MOST_SIDE"
def AK:Str:="MOST_WANTED"
def qc:Str:="check_small"
def qd:Str:="bundle_of_one"
def qg:Str:="joined"
def qi:Str:="is_lesser"
def qj:Str:="steps_of_part"
def ql:Str:="greatest_alone"
def qo:Str:="greatest_steps"
def qp:Str:="greatest_bundles"
def qr:Str:="common"
def qu:Str:="without"
def qv:Str:="all_wanted_fit"
def qw:Str:="fewest_bundles"
def qx:Str:="tree_by_bundle"
def qy:Str:="fewest_of"
def AL:Str:="MOST_KINDS"
def AM:Str:="THINGS_OF_A_KIND"
def qz:Str:="is_kind"
def qA:Str:="can_lie_turned"
def yC:Str:="thing"
def JK:Str:="least"
def wT:Str:="platecuts.checks"
def qB:Str:="wide"
def qD:Str:="high"
def JL:Str:="most"
def AN:Str:="shop"
def wU:Str:="kind"
def AO:Str:="turned"
def JM:Str:="x"
def JN:Str:="y"
def JO:Str:="piece_wide"
def JP:Str:="piece_high"
def wV:Str:="platecuts.parts"
def tX:Str:="blade"
def AQ:Str:="part"
def GT:Str:="way"
def GU:Str:="p"
def nW:Str:="platecuts.bundles"
def AR:Str:="found"
def tY:Str:="platecuts.fewest"
def GV:Str:="greatest"
def GW:Str:="bundle"
def JQ:Str:="step"
def JR:Str:="first"
def JS:Str:="first_greatest"
def JT:Str:="second"
def JU:Str:="second_greatest"
def JV:Str:="ahead"
def JW:Str:="behind"
def JX:Str:="first_tree"
def JY:Str:="plate"
def JZ:Str:="missing"
def Ka:Str:="trees"
def Kb:Str:="worth"
def tZ:Str:="wanted"
def Ke:Str:="turns"
def iN:Str:="law_platecuts_k74_bundles_refused"
def nX:Str:="Shop"
def uh:Str:="_law_cell"
def ui:Str:="_law_pot"
def uj:Str:="_law_draw"
def uk:Str:="_law_great"
def uo:Str:="_law_bad_side"
def uq:Str:="_law_kinds_of"
def ur:Str:="_law_asked"
def ut:Str:="_law_too_many"
def uu:Str:="_law_shop"
def uv:Str:="_law_right"
def wW:Str:="law"
def wX:Str:="__init__"
def wY:Str:="kinds"
def wZ:Str:="lyings"
def xb:Str:="is_lying"
def xc:Str:="sides"
def AS:Str:="Shop.__init__"
def yD:Str:="self"
def AT:Str:="Shop.blade"
def AU:Str:="Shop.kinds"
def AV:Str:="Shop.wanted"
def Kf:Str:="told"
def Kg:Str:="number"
def AW:Str:="Shop.lyings"
def AX:Str:="Shop.is_lying"
def Kh:Str:="row"
def AY:Str:="Shop.sides"
def Ki:Str:="blade_width"
def Kj:Str:="kind_rows"
def GX:Str:="__dict__"
def GY:Str:="_law_script"
def GZ:Str:="_law_k"
def Kk:Str:="_law_cell_here"
def AZ:Str:="_law_pot_here"
def Kl:Str:="_law_many"
def Km:Str:="_law_digit"
def Ko:Str:="_law_some"
def Kq:Str:="_law_way"
def Kr:Str:="_law_shop_here"
def Ks:Str:="_law_wide"
def Kt:Str:="_law_high"
def Ku:Str:="_law_told"
def Kv:Str:="_law_refused"
def Kw:Str:="_law_error"
abbrev HK:Hook:=kHook Pc.kK [nat_lit 1,nat_lit 3,nat_lit 23,nat_lit 24,nat_lit 36,nat_lit 37,nat_lit 48,nat_lit 49,nat_lit 60,nat_lit 61,nat_lit 72,nat_lit 73,nat_lit 84,nat_lit 85,nat_lit 96,nat_lit 97,nat_lit 108,nat_lit 109,nat_lit 120,nat_lit 121,nat_lit 132,nat_lit 133,nat_lit 144,nat_lit 145,nat_lit 156,nat_lit 157,nat_lit 168,nat_lit 169,nat_lit 180,nat_lit 181,nat_lit 189,nat_lit 190,nat_lit 196,nat_lit 197,nat_lit 203,nat_lit 204,nat_lit 210,nat_lit 211,nat_lit 217,nat_lit 218,nat_lit 224,nat_lit 225,nat_lit 229,nat_lit 230,nat_lit 236,nat_lit 237,nat_lit 241,nat_lit 242,nat_lit 246,nat_lit 247,nat_lit 253,nat_lit 254,nat_lit 258,nat_lit 259,nat_lit 263,nat_lit 264,nat_lit 268,nat_lit 269,nat_lit 273,nat_lit 274,nat_lit 278,nat_lit 279,nat_lit 285,nat_lit 286,nat_lit 290,nat_lit 291,nat_lit 295,nat_lit 296,nat_lit 300,nat_lit 301,nat_lit 305,nat_lit 306,nat_lit 310,nat_lit 311,nat_lit 317,nat_lit 318,nat_lit 324,nat_lit 325,nat_lit 331,nat_lit 332,nat_lit 338,nat_lit 339,nat_lit 350,nat_lit 351,nat_lit 357,nat_lit 358,nat_lit 364,nat_lit 365,nat_lit 369,nat_lit 370,nat_lit 376,nat_lit 377,nat_lit 383,nat_lit 384,nat_lit 390,nat_lit 391,nat_lit 393,nat_lit 394,nat_lit 404,nat_lit 405,nat_lit 411,nat_lit 412,nat_lit 418,nat_lit 419,nat_lit 425,nat_lit 426,nat_lit 432,nat_lit 433,nat_lit 437,nat_lit 438,nat_lit 444,nat_lit 445,nat_lit 449,nat_lit 450,nat_lit 454,nat_lit 455,nat_lit 459,nat_lit 460,nat_lit 466,nat_lit 467] (λ _=>by kernel_rfl)
abbrev pt:F8:=PySem.W.Fast.tw2602315190771188852
theorem pt_eq:PySem.Challenge.pw_platecuts_k74_bundles_refused=pt:=PySem.W.Fast.te2602315190771188852
def tp(i:Nat):Stmt:=pt.main.body.getD i (.Pass %[0,0,0|0])
abbrev f(o:Params->Obj)(l r:Params->BT):Params->BT:=λ P=>.node (o P) (l P) (r P)
abbrev z:Params->BT:=λ _=>.nil
abbrev e(P:Params)(n:Str)(t:Nat)(v:G1):DictEntry:=%[PyData.keyHash P n,.str n t|v]
abbrev m0:Nat:=nat_lit 11
abbrev an:Ml G1:=(↑6)
abbrev en:Env:={ scope:=pt.main.scope,locals:=mainNs,globals:=mainNs,cells:=[],code:=(.ref 13),frame:=some 14 }
abbrev cE:Code:=.body (behindTheImports pt) en
abbrev qP:Pos:=%[0,0,0|0]
abbrev B:Mo Frame:=[topFrame qP]
abbrev L0:=SL.s14018661285674007319x4
abbrev L1:=SL.s11665532747177232413x24
abbrev L2:=SL.s15183661809925369436x15
abbrev L3:=SL.s13915890719876406383x10
abbrev L4:=SL.s13459172003223722735x3
abbrev L5:=SL.s10557405761357834076x3
abbrev L6:=SL.s4233737765568776869x3
abbrev L7:=SL.s2508922471967985374x5
abbrev L8:=SL.s15574269061696679450x3
abbrev L9:=SL.s6016482663378992977x10
abbrev L10:=SL.s5596568736180474577x8
abbrev L11:=SL.s2839554839881490554x3
abbrev L12:=SL.s725004073602090463x7
abbrev L13:=SL.s9436932552931045734x7
abbrev L14:=SL.s2754603736356183583x3
abbrev L15:=SL.s15185746759980889043x6
abbrev L16:=SL.s8192189862530294059x4
abbrev L17:=SL.s7038307821325472102x4
abbrev L18:=SL.s5662562618415449548x6
abbrev L19:=SL.s15281542589158584767x7
abbrev L20:=SL.s17651547275483570877x7
abbrev L21:=SL.s4036449017235975746x7
abbrev L22:=SL.s8879979712987360175x4
abbrev L23:=SL.s1801250619170735830x3
abbrev L24:=SL.s17659931425627118568x2
abbrev L25:=SL.s6063217899685152688x5
abbrev L26:=SL.s8008927332132565319x10
abbrev L27:=SL.s3544116645089599534x10
abbrev L28:=SL.s13761710972054866084x4
abbrev L29:=SL.s12896375587409280029x5
abbrev L30:=SL.s13014049009108672802x3
abbrev L31:=SL.s13935586738268321596x6
abbrev L32:=SL.s8200498257699607233x3
abbrev L33:=SL.s14114244577727609259x3
abbrev L34:=SL.s1499430450269397089x4
abbrev L35:=SL.s8755793994789770505x5
abbrev L36:=SL.s15725212667919936108x3
abbrev L37:=SL.s15791221867095933363x3
abbrev L38:=SL.s81309575031448614x3
abbrev L39:=SL.s8069831620301644142x5
abbrev L40:=SL.s10061844253413749634x4
abbrev L41:=SL.s9496514870978017513x5
abbrev L42:=SL.s8899691144933366716x7
abbrev L43:=SL.s15201008993051130160x6
abbrev L44:=SL.s741896355592496720x3
abbrev L45:=SL.s17925004256654032244x4
abbrev L46:=SL.s11695548795398191787x4
abbrev L47:=SL.s4156966113859768872x10
abbrev L48:=SL.s9501651726347032510x9
abbrev L49:=SL.s15722918466584999320x5
abbrev L50:=SL.s591115383303110208x11
abbrev L51:=SL.s15721156781594690315x7
abbrev L52:=SL.s14340494229221121180x9
abbrev L53:=SL.s13429844117177748173x6
abbrev L54:=SL.s16463266125957815391x5
abbrev L55:=SL.s4922535414793169389x9
abbrev L56:=SL.s8101838861749082086x8
abbrev L57:=SL.s7066276694103001551x3
abbrev L58:=SL.s9222952809800978799x4
abbrev L59:=SL.s462964344163437139x3
abbrev L60:=SL.s2742458400755230247x6
abbrev L61:=SL.s1438033511350832697x5
abbrev L62:=SL.s14365286008749172514x8
abbrev L63:=SL.s3642769012341782148x3
abbrev L64:=SL.s4674234679698826739x5
abbrev L65:=SL.s16656946322747308186x12
abbrev L66:=SL.s10796804682411823810x3
abbrev L67:=SL.s4290257624100764138x5
abbrev L68:=SL.s2766695959194262286x5
abbrev L69:=SL.s17162191345867700912x4
abbrev L70:=SL.s14339709457334898076x3
abbrev L71:=SL.s4278001404047624695x13
abbrev L72:=SL.s6585700554429387442x18
abbrev L73:=SL.s5946037652744460706x9
abbrev L74:=SL.s7410770068591931388x13
abbrev L75:=SL.s11817881795495490833x17
abbrev L76:=SL.s15679963881808890155x10
abbrev L77:=SL.s3871700062485845797x15
abbrev L78:=SL.s7689518266570723881x14
abbrev L79:=SL.s9001593270443806431x14
abbrev L80:=SL.s6882542574934516792x11
abbrev L81:=SL.s14403400214490484960x8
abbrev L82:=SL.s14457978657717015782x11
abbrev L83:=SL.s1753610191782819921x11
abbrev L84:=SL.s14119380538032626715x11
abbrev L85:=SL.s11437920000406562045x9
abbrev L86:=SL.s10852414792293593619x7
abbrev L87:=SL.s14816307405966870543x14
abbrev L88:=SL.s8682627914449686677x12
abbrev L89:=SL.s4428170145600203450x18
abbrev L90:=SL.s5991306692159431302x13
abbrev L91:=SL.s16067994140765818257x11
abbrev L92:=SL.s2327743974964600596x11
abbrev L93:=SL.s2804747833354056582x9
abbrev L94:=SL.s6070975301684473832x10
abbrev L95:=SL.s14270485950484850486x7
abbrev L96:=SL.s12041534306414923332x18
abbrev L97:=SL.s2531307568338490285x13
abbrev L98:=SL.s631175304937289666x17
abbrev L99:=SL.s5144983644357021410x12
abbrev KJ:=SL.s18039099521571816885x18
abbrev KL:=SL.s6011586214260557989x15
abbrev KM:=SL.s5430567037509283100x13
abbrev KN:=SL.s8117915138073963741x13
abbrev KO:=SL.s3423317712779056401x25
abbrev KP:=SL.s2007317383269046180x15
abbrev KQ:=SL.s17481586968713580700x14
abbrev KR:=SL.s2450899226349176912x13
abbrev KS:=SL.s16626165730633575011x14
abbrev KU:=SL.s14288496050688921416x11
abbrev KW:=SL.s5735081916595925998x15
abbrev KY:=SL.s3865607918536308442x17
abbrev KZ:=SL.s13337502604062700212x15
abbrev La:=SL.s13114017843053701147x15
abbrev Lb:=SL.s17467278006356818441x17
abbrev Lc:=SL.s17722149559621369488x16
abbrev Ld:=SL.s7855274175708717672x17
abbrev Le:=SL.s13351283678309829046x18
abbrev Lf:=SL.s6668348653404991179x15
abbrev Lg:=SL.s12913350958174193794x18
abbrev Lh:=SL.s16115879512475548326x12
abbrev Li:=SL.s15920661018069861047x16
abbrev Lj:=SL.s10779130036587390575x21
abbrev Lk:=SL.s7801419657504700863x10
abbrev Ll:=SL.s1688129525768580628x8
abbrev Lm:=SL.s1031832959479892071x19
abbrev Ln:=SL.s8991790508128307865x19
abbrev Lo:=SL.s14539662485746970245x23
abbrev Lp:=SL.s11643622729373238714x14
abbrev Lq:=SL.s3386828779285465597x17
abbrev Lr:=SL.s13042696260734638735x12
abbrev Ls:=SL.s18239426817015966623x15
abbrev Lu:=SL.s1270395311379034370x22
abbrev Lv:=SL.s10696252587037064777x22
abbrev Lw:=SL.s7852717498200857586x20
abbrev Lx:=SL.s6377248116197321094x8
abbrev Ly:=SL.s3834378056692298002x18
abbrev Lz:=SL.s17586630440231065808x18
abbrev LB:=SL.s15234114252648025395x21
abbrev LC:=SL.s8496462677383758984x14
abbrev LD:=SL.s16789243406116112673x4
abbrev LE:=SL.s14400166428656793546x20
abbrev LF:=SL.s5857708277339239366x20
abbrev LH:=SL.s7804999707787243718x20
abbrev Ba:=SL.s7097527257260152453x26
abbrev LI:=SL.s6658869562736209489x6
abbrev Bb:=SL.s5856160107412720595x4
abbrev Kx:=SL.s658472552662922059x5
abbrev sZ(w:G0)(os:OsState):F7:=%[boot_heap w.params,Array.mk [],boot_drawn,boot_toks|os]
def o11(P:Params):Obj:=%[(.type L68),none,(.seq #[] 0)|#[]]
def o12(P:Params):Obj:=%[.none,none,(.fields #[])|#[]]
def g0(x0:Str)(x1 x2 x3:Nat)(P:Params):Obj:=%[(.type Bb),none,(.fields #[.str x0 x1,.str x0 (x1+1),.str mD (x1+2),.int x2 0,.int 0 0,.int 0 0,.int 0 0,.int 0 0,.ref x3,.bool false,.int 181 0,.ref (x3+1),.none,.none,.none,.none,.int (x1+3) 0,.int x2 0,.str mD (x1+4)])|#[]]
def o13:=g0 JJ 182 1 11
def g1(x0 x1:Nat)(x2:Str)(x3:Nat)(P:Params):Obj:=%[(.type Kx),none,.plain|#[↑x0,↑3,↑x1,none,some (.str x2 x3),none,↑0]]
def o14:=g1 13 3 JI 164
def hA(P:Params):Heap:=%[%[|[boot_o_0 P,boot_o_1 P,boot_o_2 P,boot_o_3 P,boot_o_4 P,boot_o_5 P,boot_o_6 P,boot_o_7 P,boot_o_8 P,boot_o_9 P,boot_o_10 P,o11 P,o12 P,o13 P,o14 P]]|{ }]
abbrev sA(w:G0)(os:OsState):F7:=%[hA w.params,(Array.mk []),%[0,0,0|0],187|os]
abbrev pA:Pos:=%[0,0,0|0]
theorem pre(w:G0):(λ os=>topGo treeTable pt w m0 an 12 (sZ w os) (topStub pt))=λ os=>some (sA w os,(%[denote treeTable cE,cE,pA|B]:Thread)):=by rw[PySem.W.Fast.te15667345088766844465,PySem.W.Fast.te14364793385576792824,PySem.W.Fast.te11892475500146522536];kernel_rfl
def tB:Params->BT:=(f boot_o_0 (f boot_o_1 (f boot_o_3 (f boot_o_7 z z) (f o11 z z)) (f boot_o_5 (f boot_o_9 z z) (f o13 z z))) (f boot_o_2 (f boot_o_4 (f boot_o_8 z z) (f o12 z z)) (f boot_o_6 (f boot_o_10 z z) (f o14 z z))))
abbrev sB(w:G0)(os:OsState):SharedT:=%[tB w.params,15,{ },(Array.mk []),%[0,0,0|0],187|os]
abbrev pB:Pos:=%[0,0,0|0]
theorem blk(w:G0):(λ os=>segRun treeTable pt w m0 an 1 1 (sA w os) ⟨(blockStart (behindTheImports pt) en).wrap (λ _=>doneF .next) deadEnd id id,cE,pA,B⟩)=λ os=>some (.next,(sB w os).abs,cE,pB):=by rw[PySem.W.Fast.te14374325043358763698,PySem.W.Fast.te14364793385576792824,PySem.W.Fast.te1066825118222455980];kernel_rfl
def Ky(P:Params):Obj:=%[(.type L0),none,(.dict #[e P S0 165 (.str eL 187),e P S2 166 .none,e P S3 167 .none,e P S4 168 (.builtin Ba),e P S5 169 .none,e P AA 170 (.ref 6),e P AB 171 (.ref 4),e P AC 173 (.str mD 172),e P AD 174 .none,e P gM 206 (.ref 24),e P pH 222 (.ref 37),e P pI 238 (.ref 49),e P pJ 254 (.ref 61),e P pK 270 (.ref 73),e P pL 286 (.ref 85),e P pM 302 (.ref 97),e P pN 318 (.ref 109),e P pO 334 (.ref 121)] 18)|#[]]
def He(P:Params):Obj:=%[.none,none,(.fields #[.int 2 0,.int 0 0,.ref 20,.int 4 0,.int 0 0,.ref 33,.int 6 0,.int 0 0,.ref 45,.int 8 0,.int 0 0,.ref 57,.int 10 0,.int 0 0,.ref 69,.int 12 0,.int 0 0,.ref 81,.int 14 0,.int 0 0,.ref 93,.int 16 0,.int 0 0,.ref 105,.int 18 0,.int 0 0,.ref 117])|#[]]
def o15(P:Params):Obj:=%[(.type L68),none,(.seq #[.type L94] 0)|#[]]
abbrev Hg:=SL.s11030030927630378310x26
abbrev Kz:=SL.s10062305145149207511x16
def o16(P:Params):Obj:=%[(.type Hg),none,(.fields #[.builtin Kz,.type L69])|#[]]
def g2(x0:Nat)(x1:Str)(x2 x3:Nat)(P:Params):Obj:=%[(.type L0),none,(.dict #[e P wQ x0 (.str eL 187),e P GN (x0+2) (.str x1 (x0+1)),e P wR (x0+4) (.int x2 (x0+3)),e P wS (x0+5) (.ref x3)] 4)|#[]]
def o17:=g2 196 gM 2 22
def o20:=g0 gM 191 2 18
def o21:=g1 20 17 eL 187
def o23(P:Params):Obj:=%[(.type L0),none,(.dict #[e P wQ 196 (.str eL 187),e P wR 200 (.int 2 199),e P wS 201 (.ref 22),e P AE 203 (.ref 25),e P S2 204 .none] 3)|#[]]
abbrev Bc:=SL.s4209523147560561109x18
def o24(P:Params):Obj:=%[(.type L69),none,(.cls %[gM,[.type L94],[.ref 24,.type L94,.type L73,.type L71,.type L60],23,gM,true,[],[.ref 37,.ref 49,.ref 61,.ref 73,.ref 85,.ref 97,.ref 109,.ref 121],false,none|false])|#[↑15,none,some (.str gM 189),some (.str gM 197),some (.builtin Bc),some (.bool true)]]
abbrev Hh:=SL.s14755015743595814543x17
abbrev KA:=SL.s10220274742760427390x26
def g3(x0 x1:Nat)(P:Params):Obj:=%[(.type Hh),none,(.fields #[.str AE x0,.ref x1,.builtin KA,.none])|#[]]
def o25:=g3 202 24
def g4(x0:Nat)(P:Params):Obj:=%[(.type L67),none,(.fields #[.ref x0,.ref x0,.ref x0])|#[]]
def o26:=g4 24
abbrev KB:=SL.s4860613602091757760x24
def g5(x0:Nat)(P:Params):Obj:=%[(.type Hg),none,(.fields #[.builtin KB,.ref x0])|#[]]
def o27:=g5 24
def o28(P:Params):Obj:=%[(.type L68),none,(.seq #[.ref 24] 0)|#[]]
def o30:=g2 214 pH 4 35
def o33:=g0 pH 209 4 31
def o34:=g1 33 30 eL 187
def g6(x0 x1 x2:Nat)(P:Params):Obj:=%[(.type L0),none,(.dict #[e P wQ x0 (.str eL 187),e P wR (x0+4) (.int x1 (x0+3)),e P wS (x0+5) (.ref x2),e P S2 (x0+6) .none] 2)|#[]]
def o36:=g6 214 4 35
def g7(x0:Str)(x1 x2 x3 x4:Nat)(P:Params):Obj:=%[(.type L69),none,(.cls %[x0,[.ref 24],[.ref x1,.ref 24,.type L94,.type L73,.type L71,.type L60],x2,x0,true,[],[],false,none|false])|#[↑x3,none,some (.str x0 x4),some (.str x0 (x4+8)),some (.builtin Bc),some (.bool true)]]
def o37:=g7 pH 37 36 28 207
def o38:=g4 37
def o39:=g5 37
def o42:=g2 230 pI 6 47
def o45:=g0 pI 225 6 43
def o46:=g1 45 42 eL 187
def o48:=g6 230 6 47
def o49:=g7 pI 49 48 40 223
def o50:=g4 49
def o51:=g5 49
def o54:=g2 246 pJ 8 59
def o57:=g0 pJ 241 8 55
def o58:=g1 57 54 eL 187
def o60:=g6 246 8 59
def o61:=g7 pJ 61 60 52 239
def o62:=g4 61
def o63:=g5 61
def o66:=g2 262 pK 10 71
def o69:=g0 pK 257 10 67
def o70:=g1 69 66 eL 187
def o72:=g6 262 10 71
def o73:=g7 pK 73 72 64 255
def o74:=g4 73
def o75:=g5 73
def o78:=g2 278 pL 12 83
def o81:=g0 pL 273 12 79
def o82:=g1 81 78 eL 187
def o84:=g6 278 12 83
def o85:=g7 pL 85 84 76 271
def o86:=g4 85
def o87:=g5 85
def o90:=g2 294 pM 14 95
def o93:=g0 pM 289 14 91
def o94:=g1 93 90 eL 187
def o96:=g6 294 14 95
def o97:=g7 pM 97 96 88 287
def o98:=g4 97
def o99:=g5 97
def yE:=g2 310 pN 16 107
def yF:=g0 pN 305 16 103
def yG:=g1 105 102 eL 187
def yH:=g6 310 16 107
def yI:=g7 pN 109 108 100 303
def yJ:=g4 109
def yK:=g5 109
def yL:=g2 326 pO 18 119
def yM:=g0 pO 321 18 115
def yN:=g1 117 114 eL 187
def yO:=g6 326 18 119
def yP:=g7 pO 121 120 112 319
def yQ:=g4 121
def yR:=g5 121
def t0:Params->BT:=(f boot_o_0 (f boot_o_1 (f Ky (f boot_o_7 (f o15 (f o11 (f o63 z z) (f o11 z z)) (f o11 (f o11 z z) (f yK z z))) (f o23 (f o39 (f o11 z z) (f o11 z z)) (f o11 (f o87 z z) (f o11 z z)))) (f o11 (f o12 (f o11 (f o11 z z) (f o99 z z)) (f o51 (f o11 z z) (f o11 z z))) (f o27 (f o11 (f o75 z z) (f o11 z z)) (f o11 (f o11 z z) (f yR z z))))) (f boot_o_5 (f boot_o_9 (f o17 (f o33 (f o16 z z) (f o97 z z)) (f o49 (f o81 z z) (f o16 z z))) (f o25 (f o16 (f o73 z z) (f yF z z)) (f o57 (f o16 z z) (f yP z z)))) (f o13 (f o21 (f o37 (f o69 z z) (f o16 z z)) (f o16 (f o85 z z) (f yM z z))) (f o16 (f o45 (f o16 z z) (f yI z z)) (f o61 (f o93 z z) z))))) (f boot_o_2 (f boot_o_4 (f boot_o_8 (f o16 (f o12 (f o28 z z) (f o96 z z)) (f o48 (f o12 z z) (f o28 z z))) (f o24 (f o28 (f o72 z z) (f o12 z z)) (f o12 (f o28 z z) (f yO z z)))) (f He (f o20 (f o36 (f o12 z z) (f o28 z z)) (f o28 (f o84 z z) (f o12 z z))) (f o28 (f o12 (f o28 z z) (f yH z z)) (f o60 (f o12 z z) z)))) (f boot_o_6 (f boot_o_10 (f o11 (f o34 (f o66 z z) (f o98 z z)) (f o50 (f o82 z z) (f yL z z))) (f o26 (f o42 (f o74 z z) (f yG z z)) (f o58 (f o90 z z) (f yQ z z)))) (f o14 (f o11 (f o38 (f o70 z z) (f yE z z)) (f o54 (f o86 z z) (f yN z z))) (f o30 (f o46 (f o78 z z) (f yJ z z)) (f o62 (f o94 z z) z))))))
abbrev s0(w:G0)(os:OsState):SharedT:=%[t0 w.params,124,{ },(Array.mk []),%[0,0,0|0],335|os]
abbrev p0:Pos:=%[18,0,19|8]
abbrev st0:Mo Stmt:=(pt.main.body.drop 0).take 10
theorem q0(w:G0):(λ os=>segRunT treeTable pt w m0 an 1 1900 (sB w os) %[(execs st0 en).wrap doneF deadEnd id id,cE,pB|B])=λ os=>some (.next,s0 w os,cE,p0):=by rw[PySem.W.Fast.te10110043849684766642,PySem.W.Fast.te14364793385576792824,PySem.W.Fast.te12563942051412417395];kernel_rfl
def KC(P:Params):Obj:=%[(.type L0),none,(.dict #[e P S0 165 (.str pP 634),e P S2 166 .none,e P S3 167 .none,e P S4 168 (.builtin Ba),e P S5 169 .none,e P AA 170 (.ref 6),e P AB 171 (.ref 4),e P AC 173 (.str mD 172),e P AD 174 .none,e P gM 206 (.ref 24),e P pH 222 (.ref 37),e P pI 238 (.ref 49),e P pJ 254 (.ref 61),e P pK 270 (.ref 73),e P pL 286 (.ref 85),e P pM 302 (.ref 97),e P pN 318 (.ref 109),e P pO 334 (.ref 121),e P tS 350 (.ref 133),e P tT 366 (.ref 145),e P tU 382 (.ref 157),e P tV 398 (.ref 169),e P tW 414 (.ref 181),e P pQ 424 (.ref 190),e P pR 431 (.ref 197),e P pS 438 (.ref 204),e P pT 446 (.ref 211),e P pU 455 (.ref 218),e P AF 459 (.str GO 458),e P AG 461 (.str GP 460),e P pV 476 (.ref 225),e P pW 482 (.ref 230),e P pX 494 (.ref 237),e P pY 500 (.ref 242),e P pZ 506 (.ref 247),e P AH 508 (.str GQ 507),e P AI 510 (.str GS 509),e P AJ 514 (.int 8 513),e P AK 516 (.int 6 515),e P qc 525 (.ref 254),e P qd 531 (.ref 259),e P qg 537 (.ref 264),e P qi 543 (.ref 269),e P qj 549 (.ref 274),e P ql 555 (.ref 279),e P qo 566 (.ref 286),e P qp 572 (.ref 291),e P qr 580 (.ref 296),e P qu 586 (.ref 301),e P qv 592 (.ref 306),e P qw 598 (.ref 311),e P qx 618 (.ref 318),e P qy 633 (.ref 325),e P AL 637 (.int 8 636),e P AM 639 (.int 5 638),e P qz 651 (.ref 332),e P qA 658 (.ref 339)] 57)|#[]]
def Hi(P:Params):Obj:=%[.none,none,(.fields #[.int 2 0,.int 0 0,.ref 20,.int 4 0,.int 0 0,.ref 33,.int 6 0,.int 0 0,.ref 45,.int 8 0,.int 0 0,.ref 57,.int 10 0,.int 0 0,.ref 69,.int 12 0,.int 0 0,.ref 81,.int 14 0,.int 0 0,.ref 93,.int 16 0,.int 0 0,.ref 105,.int 18 0,.int 0 0,.ref 117,.int 20 0,.int 0 0,.ref 129,.int 22 0,.int 0 0,.ref 141,.int 24 0,.int 0 0,.ref 153,.int 26 0,.int 0 0,.ref 165,.int 28 0,.int 0 0,.ref 177,.int 31 0,.int 0 0,.ref 189,.int 33 0,.int 0 0,.ref 196,.int 35 0,.int 0 0,.ref 203,.int 37 0,.int 0 0,.ref 210,.int 40 0,.int 0 0,.ref 217,.int 46 0,.int 0 0,.ref 224,.int 51 0,.int 0 0,.ref 229,.int 54 0,.int 0 0,.ref 236,.int 59 0,.int 0 0,.ref 241,.int 63 0,.int 0 0,.ref 246,.int 70 0,.int 0 0,.ref 253,.int 75 0,.int 0 0,.ref 258,.int 77 0,.int 0 0,.ref 263,.int 79 0,.int 0 0,.ref 268,.int 81 0,.int 0 0,.ref 273,.int 92 0,.int 0 0,.ref 278,.int 95 0,.int 0 0,.ref 285,.int 100 0,.int 0 0,.ref 290,.int 105 0,.int 0 0,.ref 295,.int 107 0,.int 0 0,.ref 300,.int 109 0,.int 0 0,.ref 305,.int 112 0,.int 0 0,.ref 310,.int 122 0,.int 0 0,.ref 317,.int 133 0,.int 0 0,.ref 324,.int 149 0,.int 0 0,.ref 331,.int 156 0,.int 0 0,.ref 338])|#[]]
def xf(P:Params):Obj:=%[(.type L69),none,(.cls %[gM,[.type L94],[.ref 24,.type L94,.type L73,.type L71,.type L60],23,gM,true,[],[.ref 37,.ref 49,.ref 61,.ref 73,.ref 85,.ref 97,.ref 109,.ref 121,.ref 133,.ref 145,.ref 157,.ref 169,.ref 181],false,none|false])|#[↑15,none,some (.str gM 189),some (.str gM 197),some (.builtin Bc),some (.bool true)]]
def Bd:=g2 342 tS 20 131
def Be:=g0 tS 337 20 127
def Bf:=g1 129 126 eL 187
def Bg:=g6 342 20 131
def Bh:=g7 tS 133 132 124 335
def Bi:=g4 133
def Bj:=g5 133
def Bk:=g2 358 tT 22 143
def Bl:=g0 tT 353 22 139
def Bm:=g1 141 138 eL 187
def Bn:=g6 358 22 143
def Bo:=g7 tT 145 144 136 351
def Bp:=g4 145
def Bq:=g5 145
def Br:=g2 374 tU 24 155
def Bs:=g0 tU 369 24 151
def Bt:=g1 153 150 eL 187
def Bu:=g6 374 24 155
def Bv:=g7 tU 157 156 148 367
def Bw:=g4 157
def Bx:=g5 157
def By:=g2 390 tV 26 167
def Bz:=g0 tV 385 26 163
def BA:=g1 165 162 eL 187
def BB:=g6 390 26 167
def BC:=g7 tV 169 168 160 383
def BD:=g4 169
def BE:=g5 169
def BF:=g2 406 tW 28 179
def BG:=g0 tW 401 28 175
def BH:=g1 177 174 eL 187
def BI:=g6 406 28 179
def BJ:=g7 tW 181 180 172 399
def BK:=g4 181
def BM:=g5 181
def g8(x0:Str)(x1:Nat)(x2:Str)(P:Params):Obj:=%[(.type L68),none,(.seq #[.str x0 x1,.str x2 (x1+1)] 0)|#[]]
def BN:=g8 yC 420 JK
def g9(x0:Str)(x1:Nat)(P:Params):Obj:=%[.none,none,(.func %[x0,x0,L2.defArgs (tp x1),(.stmts (L2.defBody (tp x1))),L2.defScope (tp x1),0,[],.none,.none,.none,.none,none,.none,.none|0])|#[]]
def BO:=g9 pQ 16
def g10(x0:Str)(x1:Nat)(x2:Str)(x3 x4 x5 x6:Nat)(P:Params):Obj:=%[(.type Bb),none,(.fields #[.str x0 x1,.str x2 (x1+1),.str mD (x1+2),.int x3 0,.int x4 0,.int 0 0,.int 0 0,.int 3 0,.ref x5,.bool true,.int 181 0,.ref (x5+1),.none,.ref (x5+2),.ref (x5+3),.ref (x5+4),.int x6 0,.int x3 0,.str mD (x6+1)])|#[]]
def BP:=g10 pQ 417 pQ 31 2 184 422
abbrev Hj:=SL.s7174869446012820540x8
def g11(x0:Str)(x1:Nat)(x2:Str)(x3 x4:Nat)(P:Params):Obj:=%[(.type Hj),none,(.func %[x0,x0,L2.defArgs (tp x1),(.stmts (L2.defBody (tp x1))),L2.defScope (tp x1),3,[],.none,.none,.none,.str x2 x3,none,.ref x4,.none|0])|#[]]
def BQ:=g11 pQ 16 wT 415 189
def g12(x0:Str)(x1:Nat)(P:Params):Obj:=%[(.type L68),none,(.seq #[.str x0 x1] 0)|#[]]
def BR:=g12 yC 428
def BS:=g9 pR 17
def BU:=g10 pR 425 pR 33 1 191 429
def BV:=g11 pR 17 wT 415 196
def BW:=g12 yC 435
def BX:=g9 pS 18
def BY:=g10 pS 432 pS 35 1 198 436
def BZ:=g11 pS 18 wT 415 203
def Ca:=g8 qB 442 qD
def Cb:=g9 pT 19
def Cc:=g10 pT 439 pT 37 2 205 444
def Cd:=g11 pT 19 wT 415 210
def g13(x0:Str)(x1:Nat)(x2 x3:Str)(P:Params):Obj:=%[(.type L68),none,(.seq #[.str x0 x1,.str x2 (x1+1),.str x3 (x1+2)] 0)|#[]]
def Ce:=g13 qB 450 qD JL
def Cf:=g9 pU 20
def Cg:=g10 pU 447 pU 40 3 212 453
def Ch:=g11 pU 20 wT 415 217
def g14(x0:Nat)(x1 x2 x3 x4 x5 x6:Str)(P:Params):Obj:=%[(.type L68),none,(.seq #[.str AN x0,.str qB (x0+1),.str qD (x0+2),.str x1 (x0+3),.str x2 (x0+4),.str x3 (x0+5),.str x4 (x0+6),.str x5 (x0+7),.str x6 (x0+8)] 0)|#[]]
def Ci:=g14 465 wU AO JM JN JO JP
def Cj:=g9 pV 24
def Ck:=g10 pV 462 pV 46 7 219 474
def Cl:=g11 pV 24 wV 456 224
def Cm:=g9 pW 25
def g15(x0:Str)(x1:Nat)(x2:Str)(x3 x4 x5:Nat)(P:Params):Obj:=%[(.type Bb),none,(.fields #[.str x0 x1,.str x2 (x1+1),.str mD (x1+2),.int x3 0,.int x4 0,.int 0 0,.int 0 0,.int 3 0,.ref x5,.bool true,.int 181 0,.ref (x5+1),.none,.none,.none,.ref (x5+2),.int (x1+3) 0,.int x3 0,.str mD (x1+4)])|#[]]
def Cn:=g15 pW 477 pW 51 2 226
def Co:=g11 pW 25 wV 456 229
def g16(x0:Str)(x1:Nat)(x2 x3 x4 x5 x6:Str)(P:Params):Obj:=%[(.type L68),none,(.seq #[.str x0 x1,.str x2 (x1+1),.str x3 (x1+2),.str x4 (x1+3),.str x5 (x1+4),.str x6 (x1+5)] 0)|#[]]
def Cp:=g16 tX 486 AQ GT GU qB qD
def Cq:=g9 pX 26
def Cr:=g10 pX 483 pX 54 4 231 492
def Cs:=g11 pX 26 wV 456 236
def Ct:=g9 pY 27
def Cu:=g15 pY 495 pY 59 2 238
def Cv:=g11 pY 27 wV 456 241
def Cw:=g9 pZ 28
def Cy:=g15 pZ 501 pZ 63 2 243
def Cz:=g11 pZ 28 wV 456 246
def CA:=g13 AN 520 qB qD
def CB:=g9 qc 34
def CC:=g10 qc 517 qc 70 3 248 523
def CD:=g11 qc 34 nW 511 253
def CF:=g9 qd 35
def CG:=g15 qd 526 qd 75 2 255
def CI:=g11 qd 35 nW 511 258
def CJ:=g9 qg 36
def CK:=g15 qg 532 qg 77 3 260
def CL:=g11 qg 36 nW 511 263
def CM:=g9 qi 37
def CN:=g15 qi 538 qi 79 2 265
def CO:=g11 qi 37 nW 511 268
def CP:=g9 qj 38
def CQ:=g15 qj 544 qj 81 3 270
def CS:=g11 qj 38 nW 511 273
def CT:=g9 ql 39
def CU:=g15 ql 550 ql 92 1 275
def CV:=g11 ql 39 nW 511 278
def CW(P:Params):Obj:=%[(.type L68),none,(.seq #[.str AN 559,.str qB 560,.str qD 561,.str AR 562,.str AQ 563] 0)|#[]]
def CY:=g9 qo 40
def CZ:=g10 qo 556 qo 95 3 280 564
def Da:=g11 qo 40 nW 511 285
def Db:=g9 qp 41
def Dc:=g15 qp 567 qp 100 3 287
def De:=g11 qp 41 nW 511 290
def Df:=g9 qr 43
def Dg:=g15 qr 575 qr 105 2 292
def Dh:=g11 qr 43 tY 573 295
def Di:=g9 qu 44
def Dj:=g15 qu 581 qu 107 2 297
def Dk:=g11 qu 44 tY 573 300
def Dl:=g9 qv 45
def Dm:=g15 qv 587 qv 109 2 302
def Do:=g11 qv 45 tY 573 305
def Dp:=g9 qw 46
def Dq:=g15 qw 593 qw 112 2 307
def Dr:=g11 qw 46 tY 573 310
def Ds(P:Params):Obj:=%[(.type L68),none,(.seq #[.str AR 602,.str AQ 603,.str GV 604,.str GW 605,.str JQ 606,.str GT 607,.str GU 608,.str JR 609,.str JS 610,.str JT 611,.str JU 612,.str JV 613,.str JW 614,.str JX 615] 0)|#[]]
def Dt:=g9 qx 47
def Du:=g10 qx 599 qx 122 4 312 616
def Dv:=g11 qx 47 tY 573 317
def Dw:=g14 622 JY AR JZ Ka GV GW
def Dx:=g9 qy 48
def Dy:=g10 qy 619 qy 133 3 319 631
def Dz:=g11 qy 48 tY 573 324
def DA:=g16 yC 643 qB qD Kb tZ Ke
def DB:=g9 qz 52
def DC:=g10 qz 640 qz 149 1 326 649
def DH:=g11 qz 52 pP 634 331
def DL:=g12 wU 655
def DM:=g9 qA 53
def DN:=g10 qA 652 qA 156 1 333 656
def DO:=g11 qA 53 pP 634 338
def t1:Params->BT:=(f boot_o_0 (f boot_o_1 (f KC (f boot_o_7 (f o15 (f o11 (f o63 (f o11 (f o11 z z) z) (f o11 (f o11 z z) z)) (f o11 (f Bx (f o11 z z) z) (f Cj z z))) (f o11 (f o11 (f o11 (f o12 z z) z) (f Ca (f DL z z) z)) (f yK (f o11 (f o12 z z) z) (f o12 z z)))) (f o23 (f o39 (f o11 (f Bj (f CK z z) z) (f o12 (f o12 z z) z)) (f o11 (f o11 (f Dg z z) z) (f o11 z z))) (f o11 (f o87 (f o11 (f CV z z) z) (f o11 z z)) (f o11 (f BM (f Dr z z) z) (f Cz z z))))) (f o11 (f o12 (f o11 (f o11 (f o11 (f CI z z) z) (f BS (f Dx z z) z)) (f o99 (f o11 (f De z z) z) (f o12 z z))) (f o51 (f o11 (f Bq (f o11 z z) z) (f Cd (f DO z z) z)) (f o11 (f o11 (f o11 z z) z) (f o11 z z)))) (f o27 (f o11 (f o75 (f o11 (f CM z z) z) (f BY (f DC z z) z)) (f o11 (f BE (f Di z z) z) (f Cq z z))) (f o11 (f o11 (f o11 (f o11 z z) z) (f o11 z z)) (f yR (f o11 (f o11 z z) z) (f o11 z z)))))) (f boot_o_5 (f boot_o_9 (f o17 (f o33 (f o16 (f Be (f CF z z) z) (f BR (f Dw z z) z)) (f o97 (f o16 (f Db z z) z) (f Cl z z))) (f o49 (f o81 (f Bo (f CQ z z) z) (f Cb (f DM z z) z)) (f o16 (f BG (f Dm z z) z) (f Cu z z)))) (f o25 (f o16 (f o73 (f o16 (f o11 z z) z) (f o11 (f o11 z z) z)) (f yF (f BC (f o11 z z) z) (f Cp z z))) (f o57 (f o16 (f Bs (f o12 z z) z) (f Cg z z)) (f yP (f o12 (f o12 z z) z) (f o12 z z))))) (f o13 (f o21 (f o37 (f o69 (f Bh (f o12 z z) z) (f BV (f Dz z z) z)) (f o16 (f Bz (f o12 z z) z) (f Cn z z))) (f o16 (f o85 (f o16 (f CT z z) z) (f o12 z z)) (f yM (f BJ (f Dp z z) z) (f Cw z z)))) (f o16 (f o45 (f o16 (f Bl (f CO z z) z) (f o11 (f o11 z z) z)) (f yI (f o16 (f Dk z z) z) (f Cs z z))) (f o61 (f o93 (f Bv (f CZ z z) z) (f Ci z z)) (f o16 (f BP (f Du z z) z) (f CC z z))))))) (f boot_o_2 (f boot_o_4 (f boot_o_8 (f o16 (f o12 (f o28 (f o12 (f o12 z z) z) (f o12 (f o12 z z) z)) (f o96 (f o28 (f o12 z z) z) (f Ck z z))) (f o48 (f o12 (f Bn (f CP z z) z) (f o11 (f o11 z z) z)) (f o28 (f o12 (f Dl z z) z) (f Ct z z)))) (f xf (f o28 (f o72 (f o28 (f CL z z) z) (f BW (f DA z z) z)) (f o12 (f BB (f Dh z z) z) (f o12 z z))) (f o12 (f o28 (f o12 (f o11 z z) z) (f Cf z z)) (f yO (f o11 (f o11 z z) z) (f o11 z z))))) (f Hi (f o20 (f o36 (f o12 (f Bg (f o11 z z) z) (f BU (f Dy z z) z)) (f o28 (f o12 (f o11 z z) z) (f Cm z z))) (f o28 (f o84 (f o28 (f o12 z z) z) (f o11 z z)) (f o12 (f BI (f o12 z z) z) (f o12 z z)))) (f o28 (f o12 (f o28 (f o12 (f CN z z) z) (f BZ (f DH z z) z)) (f yH (f o28 (f Dj z z) z) (f Cr z z))) (f o60 (f o12 (f Bu (f CY z z) z) (f o12 z z)) (f o28 (f BO (f Dt z z) z) (f CB z z)))))) (f boot_o_6 (f boot_o_10 (f o11 (f o34 (f o66 (f Bf (f CG z z) z) (f o11 (f o11 z z) z)) (f o98 (f By (f Dc z z) z) (f o11 z z))) (f o50 (f o82 (f Bp (f CS z z) z) (f Cc (f DN z z) z)) (f yL (f BH (f Do z z) z) (f Cv z z)))) (f o26 (f o42 (f o74 (f Bk (f o12 z z) z) (f BX (f DB z z) z)) (f yG (f BD (f o12 z z) z) (f o11 z z))) (f o58 (f o90 (f Bt (f CW z z) z) (f Ch z z)) (f yQ (f BN (f Ds z z) z) (f CA z z))))) (f o14 (f o11 (f o38 (f o70 (f Bi (f CJ z z) z) (f o11 (f o11 z z) z)) (f yE (f BA (f Df z z) z) (f Co z z))) (f o54 (f o86 (f Br (f CU z z) z) (f Ce z z)) (f yN (f BK (f Dq z z) z) (f Cy z z)))) (f o30 (f o46 (f o78 (f Bm (f o11 z z) z) (f o12 (f o12 z z) z)) (f yJ (f BF (f o11 z z) z) (f o11 z z))) (f o62 (f o94 (f Bw (f Da z z) z) (f o11 z z)) (f Bd (f BQ (f Dv z z) z) (f CD z z))))))))
abbrev s1(w:G0)(os:OsState):SharedT:=%[t1 w.params,340,{ },(Array.mk []),%[0,0,0|0],659|os]
abbrev p1:Pos:=%[156,0,157|41]
abbrev st1:Mo Stmt:=(pt.main.body.drop 10).take 44
theorem q1(w:G0):(λ os=>segRunT treeTable pt w m0 an 1 1947 (s0 w os) %[(execs st1 en).wrap doneF deadEnd id id,cE,p0|B])=λ os=>some (.next,s1 w os,cE,p1):=by rw[PySem.W.Fast.te10110043849684766642,PySem.W.Fast.te14364793385576792824,PySem.W.Fast.te12563942051412417395];kernel_rfl
def Hk(P:Params):Obj:=%[(.type L0),none,(.dict #[e P S0 165 (.str iN 736),e P S2 166 .none,e P S3 167 .none,e P S4 168 (.builtin Ba),e P S5 169 .none,e P AA 170 (.ref 6),e P AB 171 (.ref 4),e P AC 173 (.str mD 172),e P AD 174 .none,e P gM 206 (.ref 24),e P pH 222 (.ref 37),e P pI 238 (.ref 49),e P pJ 254 (.ref 61),e P pK 270 (.ref 73),e P pL 286 (.ref 85),e P pM 302 (.ref 97),e P pN 318 (.ref 109),e P pO 334 (.ref 121),e P tS 350 (.ref 133),e P tT 366 (.ref 145),e P tU 382 (.ref 157),e P tV 398 (.ref 169),e P tW 414 (.ref 181),e P pQ 424 (.ref 190),e P pR 431 (.ref 197),e P pS 438 (.ref 204),e P pT 446 (.ref 211),e P pU 455 (.ref 218),e P AF 459 (.str GO 458),e P AG 461 (.str GP 460),e P pV 476 (.ref 225),e P pW 482 (.ref 230),e P pX 494 (.ref 237),e P pY 500 (.ref 242),e P pZ 506 (.ref 247),e P AH 508 (.str GQ 507),e P AI 510 (.str GS 509),e P AJ 514 (.int 8 513),e P AK 516 (.int 6 515),e P qc 525 (.ref 254),e P qd 531 (.ref 259),e P qg 537 (.ref 264),e P qi 543 (.ref 269),e P qj 549 (.ref 274),e P ql 555 (.ref 279),e P qo 566 (.ref 286),e P qp 572 (.ref 291),e P qr 580 (.ref 296),e P qu 586 (.ref 301),e P qv 592 (.ref 306),e P qw 598 (.ref 311),e P qx 618 (.ref 318),e P qy 633 (.ref 325),e P AL 637 (.int 8 636),e P AM 639 (.int 5 638),e P qz 651 (.ref 332),e P qA 658 (.ref 339),e P nX 735 (.ref 394),e P uh 745 (.ref 405),e P ui 752 (.ref 412),e P uj 761 (.ref 419),e P uk 768 (.ref 426),e P uo 776 (.ref 433),e P uq 782 (.ref 438),e P ur 795 (.ref 445),e P ut 801 (.ref 450),e P uu 807 (.ref 455),e P uv 813 (.ref 460),e P wW 821 (.ref 467)] 69)|#[]]
def zp(P:Params):Obj:=%[.none,none,(.fields #[.int 2 0,.int 0 0,.ref 20,.int 4 0,.int 0 0,.ref 33,.int 6 0,.int 0 0,.ref 45,.int 8 0,.int 0 0,.ref 57,.int 10 0,.int 0 0,.ref 69,.int 12 0,.int 0 0,.ref 81,.int 14 0,.int 0 0,.ref 93,.int 16 0,.int 0 0,.ref 105,.int 18 0,.int 0 0,.ref 117,.int 20 0,.int 0 0,.ref 129,.int 22 0,.int 0 0,.ref 141,.int 24 0,.int 0 0,.ref 153,.int 26 0,.int 0 0,.ref 165,.int 28 0,.int 0 0,.ref 177,.int 31 0,.int 0 0,.ref 189,.int 33 0,.int 0 0,.ref 196,.int 35 0,.int 0 0,.ref 203,.int 37 0,.int 0 0,.ref 210,.int 40 0,.int 0 0,.ref 217,.int 46 0,.int 0 0,.ref 224,.int 51 0,.int 0 0,.ref 229,.int 54 0,.int 0 0,.ref 236,.int 59 0,.int 0 0,.ref 241,.int 63 0,.int 0 0,.ref 246,.int 70 0,.int 0 0,.ref 253,.int 75 0,.int 0 0,.ref 258,.int 77 0,.int 0 0,.ref 263,.int 79 0,.int 0 0,.ref 268,.int 81 0,.int 0 0,.ref 273,.int 92 0,.int 0 0,.ref 278,.int 95 0,.int 0 0,.ref 285,.int 100 0,.int 0 0,.ref 290,.int 105 0,.int 0 0,.ref 295,.int 107 0,.int 0 0,.ref 300,.int 109 0,.int 0 0,.ref 305,.int 112 0,.int 0 0,.ref 310,.int 122 0,.int 0 0,.ref 317,.int 133 0,.int 0 0,.ref 324,.int 149 0,.int 0 0,.ref 331,.int 156 0,.int 0 0,.ref 338,.int 158 0,.int 0 0,.ref 345,.int 201 0,.int 0 0,.ref 404,.int 205 0,.int 0 0,.ref 411,.int 207 0,.int 0 0,.ref 418,.int 213 0,.int 0 0,.ref 425,.int 215 0,.int 0 0,.ref 432,.int 218 0,.int 0 0,.ref 437,.int 225 0,.int 0 0,.ref 444,.int 236 0,.int 0 0,.ref 449,.int 244 0,.int 0 0,.ref 454,.int 258 0,.int 0 0,.ref 459,.int 289 0,.int 0 0,.ref 466])|#[]]
def Hl(P:Params):Obj:=%[(.type L0),none,(.dict #[e P wQ 666 (.str pP 634),e P GN 668 (.str nX 667),e P wR 670 (.int 158 669),e P wX 676 (.ref 351),e P tX 683 (.ref 358),e P wY 690 (.ref 365),e P tZ 696 (.ref 370),e P wZ 706 (.ref 377),e P xb 715 (.ref 384),e P xc 725 (.ref 391),e P wS 728 (.ref 392)] 11)|#[]]
def Hm(P:Params):Obj:=%[.none,none,(.fields #[.int 160 0,.int 4 0,.ref 350,.int 171 0,.int 4 0,.ref 357,.int 174 0,.int 4 0,.ref 364,.int 177 0,.int 4 0,.ref 369,.int 180 0,.int 4 0,.ref 376,.int 188 0,.int 4 0,.ref 383,.int 193 0,.int 4 0,.ref 390])|#[]]
def Hn:=g0 nX 661 158 343
def Ho:=g1 345 342 pP 634
def g17(x0 x1:Str)(x2:Nat)(P:Params):Obj:=%[.none,none,(.func %[x0,x1,L2.defArgs (L2.inClass (tp 54) x2),(.stmts (L2.defBody (L2.inClass (tp 54) x2))),L2.defScope (L2.inClass (tp 54) x2),0,[],.none,.none,.none,.none,none,.none,.none|0])|#[]]
def Hq:=g17 wX AS 0
def Hs:=g15 wX 671 AS 160 3 347
def g18(x0 x1:Str)(x2 x3:Nat)(P:Params):Obj:=%[(.type Hj),none,(.func %[x0,x1,L2.defArgs (L2.inClass (tp 54) x2),(.stmts (L2.defBody (L2.inClass (tp 54) x2))),L2.defScope (L2.inClass (tp 54) x2),3,[],.none,.none,.none,.str pP 634,none,.ref x3,.none|0])|#[]]
def Ht:=g18 wX AS 0 350
def HA:=g12 yD 680
def HB:=g17 tX AT 1
def HC:=g10 tX 677 AT 171 1 352 681
def HD:=g18 tX AT 1 357
def HE:=g12 yD 687
def HF:=g17 wY AU 2
def HG:=g10 wY 684 AU 174 1 359 688
def HI:=g18 wY AU 2 364
def HJ:=g17 tZ AV 3
def HL:=g15 tZ 691 AV 177 1 366
def HM:=g18 tZ AV 3 369
def g19(x0:Nat)(x1 x2 x3:Str)(P:Params):Obj:=%[(.type L68),none,(.seq #[.str yD x0,.str x1 (x0+1),.str x2 (x0+2),.str x3 (x0+3)] 0)|#[]]
def HN:=g19 700 Kf Kg wU
def HP:=g17 wZ AW 4
def HQ:=g10 wZ 697 AW 180 1 371 704
def HR:=g18 wZ AW 4 376
def HS:=g13 yD 710 wU AO
def HU:=g17 xb AX 5
def HV:=g10 xb 707 AX 188 3 378 713
def HW:=g18 xb AX 5 383
def HX:=g19 719 wU AO Kh
def HY:=g17 xc AY 6
def HZ:=g10 xc 716 AY 193 3 385 723
def Ia:=g18 xc AY 6 390
def Ib:=g8 Ki 726 Kj
def Ic(P:Params):Obj:=%[(.type L0),none,(.dict #[e P wQ 666 (.str pP 634),e P wR 670 (.int 158 669),e P wX 676 (.ref 351),e P tX 683 (.ref 358),e P wY 690 (.ref 365),e P tZ 696 (.ref 370),e P wZ 706 (.ref 377),e P xb 715 (.ref 384),e P xc 725 (.ref 391),e P wS 728 (.ref 392),e P GX 730 (.ref 395),e P AE 732 (.ref 396),e P S2 733 .none] 4)|#[]]
abbrev KD:=SL.s11443829558043349243x14
def Id(P:Params):Obj:=%[(.type L69),none,(.cls %[nX,[.type L60],[.ref 394,.type L60],393,nX,true,[],[],false,none|false])|#[none,none,some (.str nX 659),some (.str nX 667),some (.builtin KD),some (.bool true)]]
abbrev KF:=SL.s6511155373996960695x17
abbrev KG:=SL.s12411053484034534018x21
def Ie(P:Params):Obj:=%[(.type Hh),none,(.fields #[.str GX 729,.ref 394,.builtin KF,.builtin KG])|#[]]
def Ig:=g3 731 394
def Ih:=g4 394
def Ii:=g5 394
def Ij:=g8 GY 741 GZ
def Ik:=g9 uh 56
def Il:=g10 uh 738 uh 201 2 399 743
def Im:=g11 uh 56 iN 736 404
def Io:=g12 Kk 749
def Ip:=g9 ui 57
def Iq:=g10 ui 746 ui 205 1 406 750
def Ir:=g11 ui 57 iN 736 411
def Iu:=g13 AZ 756 Kl Km
def Iv:=g9 uj 58
def Iw:=g10 uj 753 uj 207 2 413 759
def Ix:=g11 uj 58 iN 736 418
def Iy:=g12 AZ 765
def Iz:=g9 uk 59
def IA:=g10 uk 762 uk 213 1 420 766
def IB:=g11 uk 59 iN 736 425
def IC:=g8 AZ 772 Ko
def ID:=g9 uo 60
def IE:=g10 uo 769 uo 215 1 427 774
def IF:=g11 uo 60 iN 736 432
def IG:=g9 uq 61
def IH:=g15 uq 777 uq 218 1 434
def II:=g11 uq 61 iN 736 437
def IJ(P:Params):Obj:=%[(.type L68),none,(.seq #[.str Kq 786,.str Kr 787,.str Ks 788,.str Kt 789,.str Ku 790,.str Kv 791,.str Kw 792] 0)|#[]]
def IK:=g9 ur 62
def IL:=g10 ur 783 ur 225 4 439 793
def IM:=g11 ur 62 iN 736 444
def IN:=g9 ut 63
def IO:=g15 ut 796 ut 236 3 446
def IP:=g11 ut 63 iN 736 449
def IQ:=g9 uu 64
def IR:=g15 uu 802 uu 244 4 451
def IS:=g11 uu 64 iN 736 454
def IT:=g9 uv 65
def IU:=g15 uv 808 uv 258 1 456
def IV:=g11 uv 65 iN 736 459
def IW:=g8 GY 817 GZ
def IX:=g9 wW 66
def IY:=g10 wW 814 wW 289 1 461 819
def IZ:=g11 wW 66 iN 736 466
def t2:Params->BT:=(f boot_o_0 (f boot_o_1 (f Hk (f boot_o_7 (f o15 (f o11 (f o63 (f o11 (f o11 z z) (f HV z z)) (f o11 (f o11 z z) (f o12 z z))) (f o11 (f Bx (f o11 z z) (f Iu z z)) (f Cj (f Ht z z) z))) (f o11 (f o11 (f o11 (f o12 z z) (f o11 z z)) (f Ca (f DL z z) (f IW z z))) (f yK (f o11 (f o12 z z) (f ID z z)) (f o12 (f o12 z z) z)))) (f o23 (f o39 (f o11 (f Bj (f CK z z) (f Ia z z)) (f o12 (f o12 z z) (f IS z z))) (f o11 (f o11 (f Dg z z) (f o11 z z)) (f o11 (f o11 z z) z))) (f o11 (f o87 (f o11 (f CV z z) (f o12 z z)) (f o11 (f o11 z z) z)) (f o11 (f BM (f Dr z z) (f o11 z z)) (f Cz (f HP z z) z))))) (f o11 (f o12 (f o11 (f o11 (f o11 (f CI z z) (f HX z z)) (f BS (f Dx z z) (f o11 z z))) (f o99 (f o11 (f De z z) (f Ix z z)) (f o12 (f o11 z z) z))) (f o51 (f o11 (f Bq (f o11 z z) (f Ik z z)) (f Cd (f DO z z) (f IZ z z))) (f o11 (f o11 (f o11 z z) (f o12 z z)) (f o11 (f o11 z z) z)))) (f o27 (f o11 (f o75 (f o11 (f CM z z) (f Ie z z)) (f BY (f DC z z) (f IU z z))) (f o11 (f BE (f Di z z) (f o11 z z)) (f Cq (f HF z z) z))) (f o11 (f o11 (f o11 (f o11 z z) (f Iq z z)) (f o11 (f o11 z z) z)) (f yR (f o11 (f o11 z z) (f IK z z)) (f o11 (f o12 z z) z)))))) (f boot_o_5 (f boot_o_9 (f o17 (f o33 (f o16 (f Be (f CF z z) (f o11 z z)) (f BR (f Dw z z) (f IO z z))) (f o97 (f o16 (f Db z z) (f Iv z z)) (f Cl (f o12 z z) z))) (f o49 (f o81 (f Bo (f CQ z z) (f Ij z z)) (f Cb (f DM z z) (f IX z z))) (f o16 (f BG (f Dm z z) (f IF z z)) (f Cu (f HL z z) z)))) (f o25 (f o16 (f o73 (f o16 (f o11 z z) (f Ic z z)) (f o11 (f o11 z z) (f o12 z z))) (f yF (f BC (f o11 z z) (f IA z z)) (f Cp (f HE z z) z))) (f o57 (f o16 (f Bs (f o12 z z) (f o11 z z)) (f Cg (f Hn z z) z)) (f yP (f o12 (f o12 z z) (f IJ z z)) (f o12 (f HR z z) z))))) (f o13 (f o21 (f o37 (f o69 (f Bh (f o12 z z) (f HY z z)) (f BV (f Dz z z) (f IQ z z))) (f o16 (f Bz (f o12 z z) (f o12 z z)) (f Cn (f HC z z) z))) (f o16 (f o85 (f o16 (f CT z z) (f Im z z)) (f o12 (f o16 z z) z)) (f yM (f BJ (f Dp z z) (f IH z z)) (f Cw (f HN z z) z)))) (f o16 (f o45 (f o16 (f Bl (f CO z z) (f Ih z z)) (f o11 (f o11 z z) (f o11 z z))) (f yI (f o16 (f Dk z z) (f IC z z)) (f Cs (f HI z z) z))) (f o61 (f o93 (f Bv (f CZ z z) (f o11 z z)) (f Ci (f Hq z z) z)) (f o16 (f BP (f Du z z) (f IM z z)) (f CC (f o11 z z) z))))))) (f boot_o_2 (f boot_o_4 (f boot_o_8 (f o16 (f o12 (f o28 (f o12 (f o12 z z) (f HW z z)) (f o12 (f o12 z z) (f IN z z))) (f o96 (f o28 (f o12 z z) (f o11 z z)) (f Ck (f o11 z z) z))) (f o48 (f o12 (f Bn (f CP z z) (f o12 z z)) (f o11 (f o11 z z) (f o11 z z))) (f o28 (f o12 (f Dl z z) (f IE z z)) (f Ct (f HJ z z) z)))) (f xf (f o28 (f o72 (f o28 (f CL z z) (f Ib z z)) (f BW (f DA z z) (f o11 z z))) (f o12 (f BB (f Dh z z) (f Iz z z)) (f o12 (f o12 z z) z))) (f o12 (f o28 (f o12 (f o11 z z) (f Io z z)) (f Cf (f Hm z z) z)) (f yO (f o11 (f o11 z z) (f o12 z z)) (f o11 (f HQ z z) z))))) (f zp (f o20 (f o36 (f o12 (f Bg (f o11 z z) (f o11 z z)) (f BU (f Dy z z) (f o12 z z))) (f o28 (f o12 (f o11 z z) (f o11 z z)) (f Cm (f HB z z) z))) (f o28 (f o84 (f o28 (f o12 z z) (f Il z z)) (f o11 (f o11 z z) z)) (f o12 (f BI (f o12 z z) (f IG z z)) (f o12 (f o12 z z) z)))) (f o28 (f o12 (f o28 (f o12 (f CN z z) (f Ig z z)) (f BZ (f DH z z) (f IV z z))) (f yH (f o28 (f Dj z z) (f o12 z z)) (f Cr (f HG z z) z))) (f o60 (f o12 (f Bu (f CY z z) (f Ir z z)) (f o12 (f o12 z z) z)) (f o28 (f BO (f Dt z z) (f IL z z)) (f CB (f HS z z) z)))))) (f boot_o_6 (f boot_o_10 (f o11 (f o34 (f o66 (f Bf (f CG z z) (f o12 z z)) (f o11 (f o11 z z) (f IP z z))) (f o98 (f By (f Dc z z) (f Iw z z)) (f o11 (f HA z z) z))) (f o50 (f o82 (f Bp (f CS z z) (f o11 z z)) (f Cc (f DN z z) (f IY z z))) (f yL (f BH (f Do z z) (f o11 z z)) (f Cv (f HM z z) z)))) (f o26 (f o42 (f o74 (f Bk (f o12 z z) (f Id z z)) (f BX (f DB z z) (f IT z z))) (f yG (f BD (f o12 z z) (f IB z z)) (f o11 (f o11 z z) z))) (f o58 (f o90 (f Bt (f CW z z) (f Ip z z)) (f Ch (f Ho z z) z)) (f yQ (f BN (f Ds z z) (f o11 z z)) (f CA (f o11 z z) z))))) (f o14 (f o11 (f o38 (f o70 (f Bi (f CJ z z) (f HZ z z)) (f o11 (f o11 z z) (f IR z z))) (f yE (f BA (f Df z z) (f Iy z z)) (f Co (f HD z z) z))) (f o54 (f o86 (f Br (f CU z z) (f o11 z z)) (f Ce (f Hl z z) z)) (f yN (f BK (f Dq z z) (f II z z)) (f Cy (f o11 z z) z)))) (f o30 (f o46 (f o78 (f Bm (f o11 z z) (f Ii z z)) (f o12 (f o12 z z) (f o12 z z))) (f yJ (f BF (f o11 z z) (f o11 z z)) (f o11 (f o11 z z) z))) (f o62 (f o94 (f Bw (f Da z z) (f o12 z z)) (f o11 (f Hs z z) z)) (f Bd (f BQ (f Dv z z) (f o11 z z)) (f CD (f HU z z) z))))))))
abbrev s2(w:G0)(os:OsState):SharedT:=%[t2 w.params,468,{ },(Array.mk []),%[0,0,0|0],822|os]
abbrev p2:Pos:=%[289,0,293|15]
abbrev st2:Mo Stmt:=(pt.main.body.drop 54).take 13
theorem q2(w:G0):(λ os=>segRunT treeTable pt w m0 an 1 738 (s1 w os) %[(execs st2 en).wrap doneF deadEnd id id,cE,p1|B])=λ os=>some (.next,s2 w os,cE,p2):=by rw[PySem.W.Fast.te10110043849684766642,PySem.W.Fast.te14364793385576792824,PySem.W.Fast.te12563942051412417395];kernel_rfl
def hF(P:Params):Heap:=%[%[|[boot_o_0 P,boot_o_1 P,boot_o_2 P,Hk P,boot_o_4 P,boot_o_5 P,boot_o_6 P,boot_o_7 P,boot_o_8 P,boot_o_9 P,boot_o_10 P,o11 P,zp P,o13 P,o14 P,o15 P,o16 P,o17 P,o11 P,o12 P,o20 P,o21 P,o11 P,o23 P,xf P,o25 P,o26 P,o27 P,o28 P,o16 P,o30 P,o11 P,o12 P,o33 P,o34 P,o11 P,o36 P,o37 P,o38 P,o39 P,o28 P,o16 P,o42 P,o11 P,o12 P,o45 P,o46 P,o11 P,o48 P,o49 P,o50 P,o51 P,o28 P,o16 P,o54 P,o11 P,o12 P,o57 P,o58 P,o11 P,o60 P,o61 P,o62 P,o63 P,o28 P,o16 P,o66 P,o11 P,o12 P,o69 P,o70 P,o11 P,o72 P,o73 P,o74 P,o75 P,o28 P,o16 P,o78 P,o11 P,o12 P,o81 P,o82 P,o11 P,o84 P,o85 P,o86 P,o87 P,o28 P,o16 P,o90 P,o11 P,o12 P,o93 P,o94 P,o11 P,o96 P,o97 P,o98 P,o99 P,o28 P,o16 P,yE P,o11 P,o12 P,yF P,yG P,o11 P,yH P,yI P,yJ P,yK P,o28 P,o16 P,yL P,o11 P,o12 P,yM P,yN P,o11 P,yO P,yP P,yQ P,yR P,o28 P,o16 P,Bd P,o11 P,o12 P,Be P,Bf P,o11 P,Bg P,Bh P,Bi P,Bj P,o28 P,o16 P,Bk P,o11 P,o12 P,Bl P,Bm P,o11 P,Bn P,Bo P,Bp P,Bq P,o28 P,o16 P,Br P,o11 P,o12 P,Bs P,Bt P,o11 P,Bu P,Bv P,Bw P,Bx P,o28 P,o16 P,By P,o11 P,o12 P,Bz P,BA P,o11 P,BB P,BC P,BD P,BE P,o28 P,o16 P,BF P,o11 P,o12 P,BG P,BH P,o11 P,BI P,BJ P,BK P,BM P,o11 P,o12 P,BN P,o11 P,BO P,BP P,BQ P,o11 P,o12 P,BR P,o11 P,BS P,BU P,BV P,o11 P,o12 P,BW P,o11 P,BX P,BY P,BZ P,o11 P,o12 P,Ca P,o11 P,Cb P,Cc P,Cd P,o11 P,o12 P,Ce P,o11 P,Cf P,Cg P,Ch P,o11 P,o12 P,Ci P,o11 P,Cj P,Ck P,Cl P,o11 P,o12 P,Cm P,Cn P,Co P,o11 P,o12 P,Cp P,o11 P,Cq P,Cr P,Cs P,o11 P,o12 P,Ct P,Cu P,Cv P,o11 P,o12 P,Cw P,Cy P,Cz P,o11 P,o12 P,CA P,o11 P,CB P,CC P,CD P,o11 P,o12 P,CF P,CG P,CI P,o11 P,o12 P,CJ P,CK P,CL P,o11 P,o12 P,CM P,CN P,CO P,o11 P,o12 P,CP P,CQ P,CS P,o11 P,o12 P,CT P,CU P,CV P,o11 P,o12 P,CW P,o11 P,CY P,CZ P,Da P,o11 P,o12 P,Db P,Dc P,De P,o11 P,o12 P,Df P,Dg P,Dh P,o11 P,o12 P,Di P,Dj P,Dk P,o11 P,o12 P,Dl P,Dm P,Do P,o11 P,o12 P,Dp P,Dq P,Dr P,o11 P,o12 P,Ds P,o11 P,Dt P,Du P,Dv P,o11 P,o12 P,Dw P,o11 P,Dx P,Dy P,Dz P,o11 P,o12 P,DA P,o11 P,DB P,DC P,DH P,o11 P,o12 P,DL P,o11 P,DM P,DN P,DO P,o11 P,o16 P,Hl P,o11 P,Hm P,Hn P,Ho P,o11 P,o12 P,Hq P,Hs P,Ht P,o11 P,o12 P,HA P,o11 P,HB P,HC P,HD P,o11 P,o12 P,HE P,o11 P,HF P,HG P,HI P,o11 P,o12 P,HJ P,HL P,HM P,o11 P,o12 P,HN P,o11 P,HP P,HQ P,HR P,o11 P,o12 P,HS P,o11 P,HU P,HV P,HW P,o11 P,o12 P,HX P,o11 P,HY P,HZ P,Ia P,Ib P,Ic P,Id P,Ie P,Ig P,Ih P,Ii P,o11 P,o12 P,Ij P,o11 P,Ik P,Il P,Im P,o11 P,o12 P,Io P,o11 P,Ip P,Iq P,Ir P,o11 P,o12 P,Iu P,o11 P,Iv P,Iw P,Ix P,o11 P,o12 P,Iy P,o11 P,Iz P,IA P,IB P,o11 P,o12 P,IC P,o11 P,ID P,IE P,IF P,o11 P,o12 P,IG P,IH P,II P,o11 P,o12 P,IJ P,o11 P,IK P,IL P,IM P,o11 P,o12 P,IN P,IO P,IP P,o11 P,o12 P,IQ P,IR P,IS P,o11 P,o12 P,IT P,IU P,IV P,o11 P,o12 P,IW P,o11 P,IX P,IY P,IZ P]]|{ }]
abbrev sF(w:G0)(os:OsState):F7:=%[hF w.params,(Array.mk []),%[0,0,0|0],822|os]
theorem fin(w:G0):(λ os=>topRun treeTable pt w m0 an 2 (s2 w os).abs ⟨doneF .next,cE,p2,B⟩)=λ os=>some (sF w os):=by rw[PySem.W.Fast.te14082659384304107361,PySem.W.Fast.te14364793385576792824];kernel_rfl
theorem yS:behindTheImports pt=st0 ++ (st1 ++ (st2 ++ ([]))):=by kernel_rfl
abbrev MM:Nat:=12+(1+(1900+(1947+(738+2))))
theorem DQ(w:G0)(os:OsState):topRun treeTable pt w m0 an MM (sZ w os) (topStub pt)=some (sF w os) :=
 go_top (congrFun (pre w) os) (piece_block (congrFun (blk w) os) (yS ▸ (piece_app (l:=st0) (segRun_of (congrFun (q0 w) os)) (piece_app (l:=st1) (segRun_of (congrFun (q1 w) os)) (piece_app (l:=st2) (segRun_of (congrFun (q2 w) os)) (piece_nil (congrFun (fin w) os)))))))
def loose:Mo Str:=[gM,pH,pI,pJ,pK,pL,pM,pN,pO,tS,tT,tU,tV,tW,pQ,pR,pS,pT,pU,AF,AG,pV,pW,pX,pY,pZ,AH,AI,AJ,AK,qc,qd,qg,qi,qj,ql,qo,qp,qr,qu,qv,qw,qx,qy,AL,AM,qz,qA,nX,uh,ui,uj,uk,uo,uq,ur,ut,uu,uv]
abbrev NN:Nat:=9290
abbrev q:F8:=view pt [66]
abbrev Xt:F7->Bool:=λ s=>xlAt q [] s && recOk [] s
theorem size(w:G0):((boot_heap w.params).isNs Mp && (Array.mk []:Mm GenState).size == 0,(boot_heap w.params).objs.size,(boot_heap w.params).nsMap Mp "__annotations__")=(true,m0,an):=by rw[PySem.W.Fast.te8920871248978507458];kernel_rfl
theorem Ja(w:G0):(λ os=>((staticsOk (importedModules pt.main.body) (boot_heap w.params) (hF w.params) && namesBound pt (hF w.params) && gensDone (sF w os) && laidKept (boot_heap w.params) (hF w.params)),openSeen q loose (importedModules pt.main.body) Xt true (sF w os),HK.obs (sF w os)))=λ _=>(true,openGood q loose,HK.val w):=by rw[PySem.W.Fast.te4187177175401517315,PySem.W.Fast.te5923862056798008813];kernel_rfl
theorem left:LeftO pt q loose Xt HK.obs HK.val NN true:=LeftO.of_pieces (boot_open (by kernel_rfl) ∅ (λ s=>rfl)) size DQ ∅ Ja
end Hd
open PySem PySem.W PyProof.Rows
set_option maxRecDepth 100000 in
set_option maxHeartbeats 0 in
theorem PySem.Challenge.cw_platecuts_k74_bundles_refused_holds : PySem.Challenge.rw_platecuts_k74_bundles_refused.Holds := by
 w_on;o_law
 refine holds_open (q:=view PySem.Challenge.pw_platecuts_k74_bundles_refused [66]) (loose:=Hd.loose) (Xt:=λ s=>xlAt (view PySem.Challenge.pw_platecuts_k74_bundles_refused [66]) [] s && recOk [] s) (XP:=XL (view PySem.Challenge.pw_platecuts_k74_bundles_refused [66]) []) (Yf:=Hook.obs Hd.HK) (Ya:=Hook.val Hd.HK) (YP:=InK Pc.kK) (N:=Hd.NN) ?hl (Hook.of Hd.HK) (Hook.keeps Hd.HK) (λ s e=>xl_of s (Bool.and_eq_true_iff.mp e).1) XL.keeps (by rfl) (by rfl) (by rfl) (λ s e=>recFacts_of (Bool.and_eq_true_iff.mp e).2) (by rfl) (by first | assumption | decide +kernel) (by decide +kernel) ⟨rfl,rfl,rfl,rfl,rfl,by decide +kernel⟩ ?hw ?hc
 case hl=>exact Hd.pt_eq ▸ Hd.left
 case hw=>w_witness2
 k_fill
 refine Pc.walk (l:=PySem.Challenge.rw_platecuts_k74_bundles_refused) rfl rfl (λ w h Y=>Y) ?F
 case F=>
  intro w mg fa h KX G hmg;refine' Pc.all_mk KX G hmg ?d0 ?d1 ?d2 ?d3 ?d4 ?d5 ?d6 ?d7 ?d8 ?d9 ?d10 ?d11 ?d12 ?d13 ?d14 ?d15 ?d16 ?d17 ?d18 ?d19 ?d20 ?d21 ?d22 ?d23 ?d24 ?d25 ?d26 ?d27 ?d28 ?d29 ?d30 ?d31 ?d32 ?d33 ?d34 ?d35 ?d36 ?aC ?dm0 ?dm1 ?dm2 ?dm3 ?dm4 ?dm5 ?dm6 ?pg ?hd ?po ?sa ?mk ?kc ?n0 ?n1 ?ePlateError ?eNoPlate ?eTooLarge ?eNoWeights ?eNoKind ?eNoKinds ?eNoLaying ?eNoLying ?eNoBlade ?eNoTable ?eNoTelling ?eNoText ?eNoTree ?eNoNumber ?sysm ?cPlateError ?cNoPlate ?cTooLarge ?cNoWeights ?cNoKind ?cNoKinds ?cNoLaying ?cNoLying ?cNoBlade ?cNoTable ?cNoTelling ?cNoText ?cNoTree ?cNoNumber ?sNoPlatePlateError ?sNoPlateNoPlate ?sNoPlateTooLarge ?sNoPlateNoWeights ?sNoPlateNoKind ?sNoPlateNoKinds ?sNoPlateNoLaying ?sNoPlateNoLying ?sNoPlateNoBlade ?sNoPlateNoTable ?sNoPlateNoTelling ?sNoPlateNoText ?sNoPlateNoTree ?sNoPlateNoNumber ?vNoPlate ?kaNoPlate ?kbNoPlate ?kcNoPlate ?kdNoPlate ?keNoPlate ?sTooLargePlateError ?sTooLargeNoPlate ?sTooLargeTooLarge ?sTooLargeNoWeights ?sTooLargeNoKind ?sTooLargeNoKinds ?sTooLargeNoLaying ?sTooLargeNoLying ?sTooLargeNoBlade ?sTooLargeNoTable ?sTooLargeNoTelling ?sTooLargeNoText ?sTooLargeNoTree ?sTooLargeNoNumber ?vTooLarge ?kaTooLarge ?kbTooLarge ?kcTooLarge ?kdTooLarge ?keTooLarge ?bPlateError ?z0 ?z1 ?z2 ?z3 ?z4 ?z5 ?z6 ?z7 ?z8 ?z9 ?z10 ?z11 ?z12 ?z13 ?z14 ?z15 ?z16 ?z17 ?z18 ?z19 ?z20 ?uc0 ?uc1 ?uc2 ?uc3 ?uc4 ?uc5 ?uc6 ?uc7
  (case d0 | d1 | d2 | d3 | d4 | d5 | d6 | d7 | d8 | d9 | d10 | d11 | d12 | d13 | d14 | d15 | d16 | d17 | d18 | d19 | d20 | d21 | d22 | d23 | d24 | d25 | d26 | d27 | d28 | d29 | d30 | d31 | d32 | d33 | d34 | d35 | d36=>refine' Pc.diM ?a ?l ?c ?k;(case a=>k_is);(case l=>k_is);(case c=>k_is);(case k=>k_is))
  (case aC=>k_is)
  (case dm0 | dm1 | dm2 | dm3 | dm4 | dm5 | dm6=>refine' Pc.miM ?a ?i ?l ?c ?k;(case a=>k_is);(case i=>k_is);(case l=>k_is);(case c=>k_is);(case k=>k_is))
  (case pg | hd | po | sa | mk | kc | n0 | n1 | ePlateError | eNoPlate | eTooLarge | eNoWeights | eNoKind | eNoKinds | eNoLaying | eNoLying | eNoBlade | eNoTable | eNoTelling | eNoText | eNoTree | eNoNumber=>k_is)
  (case sysm=>kernel_rfl)
  (case cPlateError | cNoPlate | cTooLarge | cNoWeights | cNoKind | cNoKinds | cNoLaying | cNoLying | cNoBlade | cNoTable | cNoTelling | cNoText | cNoTree | cNoNumber=>k_exc)
  (case sNoPlatePlateError | sNoPlateNoPlate | sNoPlateTooLarge | sNoPlateNoWeights | sNoPlateNoKind | sNoPlateNoKinds | sNoPlateNoLaying | sNoPlateNoLying | sNoPlateNoBlade | sNoPlateNoTable | sNoPlateNoTelling | sNoPlateNoText | sNoPlateNoTree | sNoPlateNoNumber | vNoPlate | kaNoPlate | kbNoPlate | kcNoPlate | kdNoPlate | keNoPlate | sTooLargePlateError | sTooLargeNoPlate | sTooLargeTooLarge | sTooLargeNoWeights | sTooLargeNoKind | sTooLargeNoKinds | sTooLargeNoLaying | sTooLargeNoLying | sTooLargeNoBlade | sTooLargeNoTable | sTooLargeNoTelling | sTooLargeNoText | sTooLargeNoTree | sTooLargeNoNumber | vTooLarge | kaTooLarge | kbTooLarge | kcTooLarge | kdTooLarge | keTooLarge | bPlateError | z0 | z1 | z2 | z3 | z4 | z5 | z6 | z7 | z8 | z9 | z10 | z11 | z12 | z13 | z14 | z15 | z16 | z17 | z18 | z19 | z20 | uc0 | uc1 | uc2 | uc3 | uc4 | uc5 | uc6 | uc7=>k_is)