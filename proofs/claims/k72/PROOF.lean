import PyProof.Rows.All
import Wide.All
import OpenK.AllK
import Wide.FinOn
import Lean
import PyProof.EqAt
import PyProof.EqKinds
import PyProof.TupleCall
import PyProof.Draws
import PyProof.WalksMore
import PyProof.EnumMake
import PyProof.ReprRoads
import PyProof.Rows.SortWalk
import PyProof.Rows.SumAny
import PyProof.FitsBits
import KE.KSortTup
import PyProof.LongRange
import PyProof.DictItems
import KE.KDictList
import PyProof.Rows.TupDisplay
import PyProof.SetScanFacts
import PyProof.SetKind
import PyProof.DictKeyH
import PyProof.TupleKey
import PyProof.SetNew
import PyProof.Rows.SetFrom
import PySem.Challenge.RW_platecuts_k72_whole_fewest
set_option maxRecDepth 100000
set_option maxHeartbeats 0
set_option hygiene false in
local macro_rules|`(tactic|trivial)=>`(tactic|first|(cases h;subst_vars;rfl)|(obtain⟨rfl,_⟩:=h;rfl)|(obtain⟨_,h⟩:=h;trivial))
set_option hygiene false in
local macro_rules|`(tactic|exists $x)=>`(tactic|(refine F.ok $x (fun vs H Q E h=>by trivial) (fun cdv A outer s H vs Q E hr h=>?_);have nd:=FnScope.nd $x))
local macro_rules|`(tactic|show $x)=>`(tactic|refine $x)
local macro_rules|`(def $i $s:optDeclSig $v:declVal)=>`(noncomputable def $i $s:optDeclSig $v:declVal)
local macro_rules|`(abbrev $i $s:optDeclSig $v:declVal)=>`(noncomputable abbrev $i $s:optDeclSig $v:declVal)
local macro_rules|`(∅)=>`(by decide +kernel)
local macro_rules|`(⋯)=>`(by lia)
local macro_rules|`(↑$x)=>`(some (.ref $x))
local macro_rules|`(⇑$x)=>`(some (.int $x))
local macro_rules|`(↥$x)=>`(some (.lst $x))
local macro_rules|`(~~~$x)=>`(some (.tup $x))
local macro_rules|`(%[$xs,*|$y])=>if y.raw.getId.hasMacroScopes then Lean.Macro.throwUnsupported else `(⟨$(xs.getElems.push y),*⟩)
local macro_rules|`(!$x)=>match x.raw with|`(⋯)=>`(by dsimp only;lia)|_=>Lean.Macro.throwUnsupported
set_option hygiene false in
local macro_rules|`($n:num∘$x)=>`((nat_lit $n,$x P))
section
open PySem PySem.W PySem.Spec PyProof PyProof.Rows
abbrev Ov:List String:=["enumerate","zip","dict_itemiterator","dict_reverseitemiterator","odict_iterator","itertools.zip_longest","itertools.pairwise"]
abbrev Ow:List Str:=["thing","least"]
abbrev Ox:List Str:=["thing"]
abbrev Oy:List Str:=["self","blade","kinds","kind"]
abbrev Oz:List Str:=["self","blade","kinds"]
abbrev O0:List Str:=["kind"]
abbrev O1:List Str:=["self"]
abbrev O2:List Str:=["self","kind","turned"]
abbrev O3:List Str:=["wide","high"]
abbrev O4:List Str:=["wide","high","most"]
abbrev O5:List Str:=["shop","wide","high","kind","turned","x","y"]
abbrev O6:List Str:=["shop","part"]
abbrev O7:List Str:=["kind","turned"]
abbrev O8:List Str:=["shop","wide","high"]
abbrev O9:List Str:=["blade","part","way","p"]
abbrev PB:List Str:=["blade","part","down","across"]
abbrev PD:List Str:=["blade","part"]
abbrev PF:List Str:=["wanted","kind"]
abbrev PH:List Str:=["one","other","wanted"]
abbrev PJ:List Str:=["one","other"]
abbrev PK:List Str:=["few","many"]
abbrev PL:List Str:=["steps","greatest"]
abbrev PM:List Str:=["steps"]
abbrev PN:List Str:=["shop","part","found","wanted","steps","kind","turned","way","p","first","second","one","other"]
abbrev PP:List Str:=["shop","part","found"]
abbrev PQ:List Str:=["bundle","other"]
abbrev PR:List Str:=["shop","plate","fitting"]
abbrev PU:List Str:=["shop","plate"]
abbrev PV:List Str:=["bundles","wanted","nought","lots","longer","missing","lot","bundle"]
abbrev PX:List Str:=["bundles","wanted"]
abbrev PY:List Str:=["found","part","greatest","bundle"]
abbrev PZ:List Str:=["_law_script","_law_k"]
abbrev Pa:List Str:=["_law_cell_here"]
abbrev Pb:List Str:=["_law_pot_here","_law_many"]
abbrev Pd:List Str:=["_law_kind"]
abbrev Pe:List Str:=["_law_kind","_law_wide","_law_high"]
abbrev Pf:List Str:=["_law_pot_here","_law_most"]
abbrev Pg:List Str:=["_law_pot_here"]
abbrev Ph:List Str:=["_law_pot_here","_law_wide","_law_high","_law_many"]
abbrev Pi:List Str:=["_law_pot_here","_law_kinds","_law_at","_law_spare","_law_other"]
abbrev Pj:List Str:=["_law_pot_here","_law_kinds"]
abbrev Pk:List Str:=["_law_found","_law_least"]
abbrev Pl:List Str:=["_law_tree","_law_kinds","_law_wide","_law_high","_law_some","_law_own_wide","_law_own_high"]
abbrev Pm:List Str:=["_law_tree","_law_kinds","_law_wide","_law_high"]
abbrev Pn:List Str:=["_law_tree","_law_blade","_law_wide","_law_high"]
abbrev Po:List Str:=["_law_tree","_law_blade","_law_kinds","_law_wide","_law_high"]
abbrev Pp:List Str:=["_law_wanted","_law_greatest","_law_many","_law_lefts","_law_k","_law_more","_law_left"]
abbrev Pq:List Str:=["_law_wanted","_law_greatest","_law_many"]
abbrev Pr:List Str:=["_law_pot_here","_law_sides","_law_wide","_law_high","_law_kinds","_law_blade","_law_shop","_law_found","_law_wanted","_law_left","_law_tree","_law_counts_here","_law_greatest","_law_kept"]
abbrev Ps:List Str:=["_law_script"]
abbrev F9:=@Shared
abbrev G0:=@Program
abbrev G1:=@FuncData
abbrev G2:=@World
abbrev G3:=@Value
abbrev A0:=@wpAny_bind
abbrev A3:=@wpAny_pure
abbrev A4:=@wpS_bind
abbrev A5:=@wpS_pure
abbrev A6:=@List.mem_append_right
abbrev A7:=@List.getElem?_eq_some_iff
abbrev A8:=@Heap.get?_push_of_some
abbrev A9:=@Heap.get?_push_size
abbrev B0:=@Heap.lt_size
abbrev B1:=@decide_eq_true
abbrev B2:=@decide_eq_false
abbrev B3:=@Bool.false_ne_true
abbrev B4:=@Nat.le_refl
abbrev B5:=@List.length_map
abbrev B6:=@List.mem_cons_of_mem
abbrev B7:=@List.mem_of_getElem?
abbrev B8:=@List.mem_append_left
abbrev B9:=@List.mem_cons_self
abbrev C0:=@Option.some.inj
abbrev C1:=@Nat.ne_of_lt
abbrev C2:=@of_decide_eq_true
abbrev C3:=@Nat.lt_of_lt_of_le
abbrev C4:=@List.mem_append
abbrev C5:=@beq_iff_eq
abbrev C6:=@PySem.W.Frag
abbrev C7:=@Nat.le_trans
abbrev C8:=@Nat.lt_of_le_of_lt
abbrev C9:=@Nat.le_of_lt
abbrev E1:=@Bool.and_eq_true_iff
abbrev E2:=@Nat.lt_irrefl
abbrev E3:=@Nat.le_of_lt_succ
abbrev E4:=@List.Perm.trans
abbrev E5:=@List.mem_singleton
abbrev E6:=@Paired.length
abbrev E7:=@PassesOwn.never
abbrev E8:=@Int.le_refl
abbrev E9:=@PySem.W.fnOf
abbrev F0:=@False.elim
abbrev F1:=@Nat.zero_le
abbrev F2:=@Nat.not_lt_zero
abbrev F3:=@Nat.lt_succ_self
abbrev F4:=@List.getElem?_eq_getElem
abbrev F5:=@wpAny_truthy_bool
abbrev F6:=@wpAny_call_entry
abbrev F7:=@wpAny_newObj_type
abbrev F8:=@PySem.F.plainAttrs_list
abbrev J0:=@List.getElem?_map
abbrev J3:=@List.mem_cons
abbrev J4:=@List.map_append
abbrev J5:=@List.mem_map
abbrev J6:=@List.map_cons
abbrev J7:=@Array.length_toList
abbrev J8:=@Option.map_eq_some_iff
abbrev J9:=@Array.getElem?_eq_getElem
abbrev K0:=@List.length_take
abbrev K1:=@List.size_toArray
abbrev K2:=@Array.getElem?_toList
abbrev K3:=@List.length_cons
abbrev K4:=@List.length_append
abbrev K5:=@List.take_of_length_le
abbrev K6:=@List.take_add_one
abbrev K7:=@List.not_mem_nil
abbrev K8:=@List.length_replicate
abbrev K9:=@Option.toList_some
abbrev MA:=@List.append_assoc
abbrev MC:=@Array.getD_eq_getD_getElem?
abbrev MD:=@List.mem_range
abbrev MF:=@Int.toNat_natCast
abbrev MG:=@List.take_length
abbrev MH:=@Array.getElem?_eq_none
abbrev MJ:=@List.mem_iff_getElem?
abbrev MK:=@List.lookup_cons
abbrev MN:=@Bool.false_eq_true
abbrev MO:=@List.map_map
abbrev MP:=@Array.perm_iff_toList_perm
abbrev MQ:=@List.sum_cons
abbrev MR:=@List.append_nil
abbrev MT:=@Bool.and_eq_true
abbrev MU:=@Nat.ne_of_gt
abbrev MV:=@List.exists_cons_of_length_eq_add_one
abbrev MX:=@List.getElem?_eq_none
abbrev MY:=@List.map_nil
abbrev MZ:=@Array.toList_append
abbrev Mj:=@List.length_range
abbrev Ml:=@List.mem_flatMap
abbrev Mm:=@Nat.add_le_add_left
abbrev Mo:=@Nat.lt_succ_of_lt
abbrev Mp:=@List.getD_eq_getElem?_getD
abbrev Mq:=@List.nodup_cons
abbrev Mr:=@List.sum_append
abbrev Ms:=@List.drop_eq_getElem_cons
abbrev Mt:=@List.replicate_succ
abbrev Mu:=@List.mem_map_of_mem
abbrev Mv:=@Array.toList_push
abbrev Mw:=@List.Perm.append_left
abbrev Mx:=@List.take_append_drop
abbrev Mz:=@List.any_eq_true
abbrev M0:=@Array.getElem?_setIfInBounds_self_of_lt
abbrev M3:=@List.getElem?_cons_zero
abbrev M4:=@List.flatMap_cons
abbrev M5:=@List.mem_filter
abbrev M6:=@List.length_zipWith
abbrev M7:=@List.Perm.append_right
abbrev M8:=@List.getElem_mem
abbrev M9:=@List.getElem?_append_right
abbrev NA:=@List.perm_append_comm
abbrev NB:=@List.extract_eq_take_drop
abbrev NC:=@List.pairwise_iff_getElem
abbrev ND:=@Bool.eq_iff_iff
abbrev NE:=@Nat.pow_le_pow_right
abbrev NF:=@List.mem_of_mem_take
abbrev NG:=@List.getElem?_take_of_lt
abbrev NH:=@List.flatMap_append
abbrev NI:=@List.length_drop
abbrev NJ:=@Nat.le_add_right
abbrev NK:=@Nat.le_of_eq
abbrev NL:=@List.drop_of_length_le
abbrev NM:=@Nat.succ_pos
abbrev NO:=@Nat.div_div_eq_div_mul
abbrev NP:=@Int.emod_lt_of_pos
abbrev NQ:=@List.mem_replicate
abbrev NR:=@List.find?_cons_of_pos
abbrev NS:=@List.find?_cons_of_neg
abbrev NT:=@List.find?_cons
abbrev NU:=@List.length_filter_le
abbrev NV:=@List.getElem?_zipWith
abbrev NW:=@List.flatten_cons
abbrev NX:=@Nat.lt_trichotomy
abbrev NY:=@List.nodup_append
abbrev NZ:=@List.ext_getElem?
abbrev Na:=@Array.size_map
abbrev Nb:=@Nat.mul_le_mul
abbrev Nc:=@List.all_eq_true
abbrev Nd:=@Nat.add_zero
abbrev Nf:=@Nat.min_eq_left
abbrev Ng:=@Int.emod_nonneg
abbrev Nh:=@Nat.lt_or_ge
abbrev Ni:=@Nat.mod_lt
abbrev Nj:=@Addr
abbrev Nk:=@Keyed
abbrev Nm:=@Option
abbrev Nn:=@Array
abbrev No:=@List
abbrev Pz:=No Int
abbrev P0:=No Pz
abbrev P6:=No (Nj×Obj)
abbrev Np:=@mainGlobals
abbrev Nv:=@if_neg
abbrev Nw:=@if_pos
abbrev Ny:=@decide_eq_true
abbrev Nz:=@beq_iff_eq
abbrev N0:=@PyProof.Rows.boot_tuple
abbrev N1:=@PyProof.Rows.wpS_forRange
abbrev N2:=@PySem.wpAny_holding
abbrev N3:=@decide_eq_false
abbrev N4:=@PyProof.Rows.boot_isinstance
abbrev N5:=@PySem.Heap.size_push
abbrev N6:=@PySem.boot_len
abbrev N7:=@PySem.wpAny_setField_rec
abbrev N8:=@PyProof.Rows.callWith_type1
abbrev N9:=@PySem.Heap.SameBut.update
abbrev OA:=@PySem.wpAny_mono
abbrev OB:=@or_false
abbrev OC:=@PyProof.Rows.wpS_mono
abbrev OD:=@congrArg
abbrev OE:=@PySem.wpAny_field
abbrev OF:=@PySem.wpAny_setState_of
abbrev OG:=@PySem.Heap.get?_update_self
abbrev OH:=@PyProof.Rows.KeyOrd.kle_refl
abbrev OI:=@PySem.wpAny_rule
abbrev OJ:=@if_false
abbrev OL:=@PySem.wpAny_isInstance
abbrev OM:=@decide_eq_true_eq
abbrev ON:=@PyProof.Rows.wpS_modify
abbrev OO:=@beq_eq_false_iff_ne
abbrev OP:=@Classical.byContradiction
abbrev OQ:=@PyProof.Rows.boot_min
abbrev OR:=@PySem.wpAny_typeNameOfWhole_itemiter
abbrev OS:=@PySem.wpAny_attempt
abbrev OT:=@PySem.F.slot_list_append
abbrev OU:=@PySem.F.type_list_append
abbrev OV:=@PySem.wpAny_of_eq
abbrev OW:=@PySem.wpAny_typeNameOfWhole_keyiter
abbrev OX:=@PySem.F.slot_dict_itemiterator_next
abbrev OY:=@PySem.wpAny_dictEntries
abbrev OZ:=@PySem.F.slot_dict_keyiterator_next
abbrev Oa:=@PySem.F.slot_dict_setdefault
abbrev Ob:=@PyProof.Rows.boot_list
abbrev Oc:=@PySem.wpAny_pyIter_tuple
abbrev Od:=@PyProof.Rows.boot_sum
abbrev Oe:=@PySem.wpAny_passesOwn
abbrev Of:=@PySem.wpAny_pyIter_list
abbrev Og:=@PyProof.Rows.wpS_get
abbrev Oh:=@PySem.Around.under_plainId
abbrev Oi:=@PySem.wpAny_standAt
abbrev Oj:=@PySem.mem_of_lookup
abbrev Ol:=@PySem.wpAny_seqItems
abbrev Om:=@PySem.wpAny_forIn_list
abbrev On:=@PySem.Heap.size_update
abbrev Oo:=@if_true
abbrev Op:=@of_decide_eq_false
abbrev Oq:=@PySem.wpAny_dictEpoch
abbrev Os:=@PySem.codeAny_builtin
abbrev Ot:=@PySem.sizeLine_eq
abbrev Ou:=@not_or
end
theorem zS2:2<=PySem.sizeLine:=∅
theorem zS4:4<=PySem.sizeLine:=∅
theorem zS1:1<=PySem.sizeLine:=∅
theorem zS5:5<=PySem.sizeLine:=∅
theorem zS0:0<=PySem.sizeLine:=∅
theorem zS3:3<=PySem.sizeLine:=∅
theorem zS6:6<=PySem.sizeLine:=∅
theorem U{α:Sort _}{a:α}:a=a:=rfl
set_option Elab.async false
set_option linter.all false
namespace L2
open PySem PySem.Spec PyProof.Rows
abbrev Key:=Sum Int Str
def kY:Key->G3->Bool
 | .inl k,v=>Value.isInt k v
 | .inr x,v=>Value.isStrOf x v
def Jj(w:G2):Key->Int
 | .inl k=>hashInt k
 | .inr x=>hashStr w x
theorem bp:∀{k:Key}{v:G3},kY k v=true->(∃i t,k=Sum.inl i/\v=Value.int i t)\/(∃x t,k=Sum.inr x/\v=Value.str x t)
 | .inl i,v,h=>by obtain⟨t,e⟩:=Value.isInt_shape (k:=i) (v:=v) h;exact .inl %[i,t,U|e]
 | .inr x,v,h=>by obtain⟨t,e⟩:=Value.isStrOf_shape (x:=x) (v:=v) h;exact .inr %[x,t,U|e]
theorem sw(i:Int)(t:Tok):kY (.inl i) (.int i t)=true:=by simp[kY,Value.isInt]
theorem sC(x:Str)(t:Tok):kY (.inr x) (.str x t)=true:=by simp[kY,Value.isStrOf]
theorem Ah(a b:Int):decide ((Sum.inl a:Key)=Sum.inl b)=(a == b):=by
 by_cases e:a=b
 ·subst e;simp
 ·have h:¬ (Sum.inl a:Key)=Sum.inl b:=λ q=>e (Sum.inl.inj q);rw[N3 h];exact(OO.mpr e).symm
theorem Ai(a b:Str):decide ((Sum.inr a:Key)=Sum.inr b)=decide (a=b):=by
 by_cases e:a=b
 ·subst e;simp
 ·have h:¬ (Sum.inr a:Key)=Sum.inr b:=λ q=>e (Sum.inr.inj q);rw[N3 h,N3 e]
theorem Aj(a:Int)(b:Str):decide ((Sum.inl a:Key)=Sum.inr b)=false:=B2 (λ q=>nomatch q)
theorem Ak(a:Str)(b:Int):decide ((Sum.inr a:Key)=Sum.inl b)=false:=B2 (λ q=>nomatch q)
def bh(prog:G0)(w:G2):PySem.KeyKind prog w Key where
 is:=kY
 hash:=Jj w
 inj:=λ v a b ha hb=>by
  rcases bp ha with⟨i,t,rfl,rfl⟩ | ⟨x,t,rfl,rfl⟩
  ·rcases bp hb with⟨j,u,rfl,e⟩ | ⟨y,u,rfl,e⟩
   ·injection e with e1 _;rw[e1]
   ·exact nomatch e
  ·rcases bp hb with⟨j,u,rfl,e⟩ | ⟨y,u,rfl,e⟩
   ·exact nomatch e
   ·injection e with e1 _;rw[e1]
 byValue:=λ k v h=>by rcases bp h with⟨i,t,rfl,rfl⟩ | ⟨x,t,rfl,rfl⟩ <;> rfl
 pyHash:=λ hv h=>by
  rcases bp hv with⟨i,t,rfl,rfl⟩ | ⟨x,t,rfl,rfl⟩
  ·exact wpAny_pyHash_int h
  ·exact wpAny_pyHash_str h
 eqBool:=λ hu hv h=>by
  rcases bp hu with⟨i,t,rfl,rfl⟩ | ⟨x,t,rfl,rfl⟩
  ·rcases bp hv with⟨j,u,rfl,rfl⟩ | ⟨y,u,rfl,rfl⟩
   ·rw[Ah]at h;exact wpAny_eqBool_int h
   ·rw[Aj]at h;exact SeqAt.EqAt.int_str i t y u _ _ _ _ h
  ·rcases bp hv with⟨j,u,rfl,rfl⟩ | ⟨y,u,rfl,rfl⟩
   ·rw[Ak]at h;exact SeqAt.EqAt.str_int x t j u _ _ _ _ h
   ·rw[Ai]at h;exact wpAny_eqBool_str h
 «strs» := λ k x t v h=>by
  rcases bp h with⟨i,u,rfl,e⟩ | ⟨y,u,rfl,e⟩
  ·exact nomatch e
  ·injection e with e1 _
   subst e1;cases v <;> rfl
theorem nr(prog:G0)(w:G2)(i:Int)(t:Tok):(bh prog w).is (.inl i) (.int i t)=true:=sw i t
theorem nu(prog:G0)(w:G2)(x:Str)(t:Tok):(bh prog w).is (.inr x) (.str x t)=true:=sC x t
inductive V where
 | non | bl (b:Bool) | int (i:Int) | str (x:Str) | byt (b:Nn UInt8) | flt (b:UInt64) | ref (a:Nj) | ty (n:String)
 deriving DecidableEq
def RelV:V->G3->Prop
 | .non,u=>u=Value.none
 | .bl b,u=>u=Value.bool b
 | .int i,u=>∃t,u=Value.int i t
 | .str x,u=>∃t,u=Value.str x t
 | .byt b,u=>∃t,u=Value.bytes b t
 | .flt b,u=>∃t,u=Value.float b t
 | .ref a,u=>u=Value.ref a
 | .ty n,u=>u=Value.type n
abbrev Vals:No V->No G3->Prop:=Paired RelV
theorem Vals.length{xs:No V}{us:No G3}(r:Vals xs us):xs.length=us.length:=E6 r
theorem Vals.get:∀{xs:No V}{us:No G3}{i:Nat}{x:V},Vals xs us->xs[i]?=some x->∃u,us[i]?=some u/\RelV x u
 | _,_,_,_,.nil,e=>by simp at e
 | _,_,0,_,.cons r _,e=>by simp at e;subst e;exact%[_,U|r]
 | _,_,i+1,x,.cons _ t,e=>by obtain⟨u,h1,h2⟩:=Vals.get (i:=i) (x:=x) t (by simpa using e);exact%[u,by simpa using h1|h2]
theorem Vals.set{x:V}{u:G3}(r:RelV x u):∀{xs:No V}{us:No G3}(i:Nat),Vals xs us->Vals (xs.set i x) (us.set i u)
 | _,_,_,.nil=>.nil
 | _,_,0,.cons _ t=>.cons r t
 | _,_,i+1,.cons q t=>.cons q (Vals.set r i t)
theorem Vals.append:∀{xs ys:No V}{us ws:No G3},Vals xs us->Vals ys ws->Vals (xs ++ ys) (us ++ ws)
 | _,_,_,_,.nil,s=>s
 | _,_,_,_,.cons r t,s=>.cons r (Vals.append t s)
theorem Vals.take:∀{xs:No V}{us:No G3}(n:Nat),Vals xs us->Vals (xs.take n) (us.take n)
 | _,_,0,_=>.nil
 | _,_,_+1,.nil=>.nil
 | _,_,n+1,.cons r t=>.cons r (Vals.take n t)
theorem Vals.drop:∀{xs:No V}{us:No G3}(n:Nat),Vals xs us->Vals (xs.drop n) (us.drop n)
 | _,_,0,r=>r
 | _,_,_+1,.nil=>.nil
 | _,_,n+1,.cons _ t=>Vals.drop n t
def RelO:Nm V->Nm G3->Prop
 | some v,some u=>RelV v u
 | none,none=>True
 | _,_=>False
def KV{κ:Type}:No (κ×V)->No (κ×G3)->Prop:=Paired λ (p:κ×V)(q:κ×G3)=>p.1=q.1/\RelV p.2 q.2
def kV:Key->V
 | .inl i=>.int i
 | .inr x=>.str x
inductive HO where
 | lst (xs:No V)
 | tup (xs:No V)
 | dK (kvs:No (Key×V)) | dT (kvs:No (No Key×V))
 | set (S:Int->Bool) (n:Nat)
 | ins (C dx:Nj) (fs:No (Str×V))
 | own (x:Nj)
 | xd (fs:No (Str×V))
 | met (f x:Nj)
 | rng (lo hi:Int)
 | frz (o:Obj) (u:HO)
 | tbl (ps:Nn G3)
 | ext (φ:Heap->Prop)
abbrev Hp:=Nj->Nm HO
def upd(H:Hp)(a:Nj)(o:HO):Hp:=λ b=>if b=a then some o else H b
theorem ai{H:Hp}{a:Nj}{o:HO}:upd H a o a=some o:=by unfold upd;rw[Nw rfl]
theorem ak{H:Hp}{a b:Nj}{o:HO}(h:b≠a):upd H a o b=H b:=by unfold upd;rw[Nv h]
theorem zM{H:Hp}{a b:Nj}{o u:HO}(h:H a=some o)(h':H b=some u)(d:o≠u):a≠b:=by intro e;subst e;rw[h]at h';exact d (C0 h')
theorem aj{H:Hp}{a b:Nj}{o:HO}(h:H a=some o)(h':H b=none):a≠b:=by intro e;subst e;rw[h]at h';cases h'
section
variable(P:G0)(w:G2)
def ObjOk(H:Hp)(h:Heap)(a:Nj):HO->Prop
 | .lst xs=>xs.length<=sizeLine/\∃(its:No G3)(n:Nat),Vals xs its/\h.get? a=some { cls:=.type "list",data:=.seq its.toArray n }
 | .tup xs=>xs.length<=sizeLine/\∃its:No G3,Vals xs its/\IsTup h a its.toArray
 | .dK kvs=>kvs.length<=sizeLine/\(a == sysModules)=false/\∃vs,KV kvs vs/\h.DictOf (bh P w) a vs
 | .dT kvs=>kvs.length<=sizeLine/\(a == sysModules)=false/\∃xs:No (No Key×Nj×G3),
   Paired (λ (p:No Key×V)(q:No Key×Nj×G3)=>p.1=q.1/\H q.2.1= ~~~(p.1.map kV)/\RelV p.2 q.2.2) kvs xs /\
   ∃o es ep,h.get? a=some o/\o.ExactDict/\o.data=.dict es ep/\es.toList=xs.map (entryOfKey (tupleKind (bh P w)))/\(xs.map (·.1)).Nodup
 | .set S n=>h.SetOf (intKind P w) a S n
 | .ins C dx fs=>H dx=some (.own a)/\fs.length<=1000/\dx≠a/\h.get? a=some (PySem.W.instObj C dx) /\
   ∃mA,h.Ns1 dx mA/\(∀f,RelO (fs.lookup f) (mA f))/\PySem.Within mA (fs.map (·.1))
 | .own _=>∃o,h.get? a=some o
 | .xd fs=>∃mA,h.Ns1 a mA/\∀f,RelO (fs.lookup f) (mA f)
 | .rng lo hi=>∃t u v,h.get? a=some { cls:=.type "range",data:=.fields #[.int lo t,.int hi u,.int 1 v] }
 | .frz o u=>h.get? a=some o/\ObjOk H h a u
 | .tbl ps=>h.get? a=some { cls:=.none,data:=.fields ps }
 | .met f x=>h.get? a=some (PySem.W.methodObj (.ref f) (.ref x))
 | .ext φ=>φ h/\(∃o,h.get? a=some o)/\∀h1 h2:Heap,φ h1->(∀o,h1.get? a=some o->h2.get? a=some o)->φ h2
def HOk(H:Hp)(h:Heap):Prop:=∀a o,H a=some o->ObjOk P w H h a o
end
section
variable{P:G0}{w:G2}{H H':Hp}{h h':Heap}{a:Nj}{o:HO}
theorem ObjOk.lt(x:ObjOk P w H h a o):a < h.objs.size:=by
 cases o with
 | lst xs=>obtain⟨_,_,_,_,e⟩:=x;exact B0 e
 | tup xs=>obtain⟨_,_,_,p⟩:=x;exact p.lt
 | dK kvs=>obtain⟨_,_,_,_,o,_,_,e,_⟩:=x;exact B0 e
 | dT kvs=>obtain⟨_,_,_,_,o,_,_,e,_⟩:=x;exact B0 e
 | set S n=>obtain⟨o,_,_,_,e,_⟩:=x;exact B0 e
 | ins C dx fs=>obtain⟨_,_,_,e,_⟩:=x;exact B0 e
 | own y=>obtain⟨_,e⟩:=x;exact B0 e
 | xd fs=>obtain⟨_,⟨_,_,_,e,_⟩,_⟩:=x;exact B0 e
 | rng lo hi=>obtain⟨_,_,_,e⟩:=x;exact B0 e
 | frz ob u=>obtain⟨e,_⟩:=x;exact B0 e
 | tbl ps=>exact B0 (show h.get? a=some _ from x)
 | met f y=>exact B0 (show h.get? a=some _ from x)
 | ext φ=>obtain⟨_,⟨_,e⟩,_⟩:=x;exact B0 e
theorem Paired.mapP{α β:Type}{F G:α->β->Prop}:∀{l₁:No α}{l₂:No β},Paired F l₁ l₂->(∀a b,F a b->G a b)->Paired G l₁ l₂
 | _,_,.nil,_=>.nil
 | _,_,.cons r t,f=>.cons (f _ _ r) (Paired.mapP t f)
abbrev G7:=@Paired.mapP
theorem ObjOk.stay(x:ObjOk P w H h a o)(k:∀b u,(b=a\/H b=some (.own a))->h.get? b=some u->h'.get? b=some u)
  (ho:∀b,H b=some (.own a)->H' b=some (.own a)) (ht:∀b xs,H b= ~~~xs->H' b= ~~~xs):ObjOk P w H' h' a o:=by
 induction o with
 | lst xs=>obtain⟨z,its,n,r,e⟩:=x;exact%[z,its,n,r|k _ _ (.inl rfl) e]
 | tup xs=>obtain⟨z,its,r,ob,e,c⟩:=x;exact%[z,its,r,ob,k _ _ (.inl rfl) e|c]
 | dK kvs=>obtain⟨z,y,vs,r,ob,es,ep,e,c⟩:=x;exact%[z,y,vs,r,ob,es,ep,k _ _ (.inl rfl) e|c]
 | dT kvs=>
  obtain⟨z,y,xs,r,ob,es,ep,e,c⟩:=x;exact%[z,y,xs,G7 r λ p q z=>%[z.1,ht _ _ z.2.1|z.2.2],ob,es,ep,k _ _ (.inl rfl) e|c]
 | set S n=>obtain⟨ob,es,ep,t,e,c⟩:=x;exact%[ob,es,ep,t,k _ _ (.inl rfl) e|c]
 | ins C dx fs=>
  obtain⟨d,z,ne,e,mA,⟨od,es,ep,e2,c⟩,r⟩:=x;exact%[ho _ d,z,ne,k _ _ (.inl rfl) e,mA,%[od,es,ep,k _ _ (.inr d) e2|c]|r]
 | own y=>obtain⟨ob,e⟩:=x;exact%[ob|k _ _ (.inl rfl) e]
 | xd fs=>obtain⟨mA,⟨od,es,ep,e,c⟩,r⟩:=x;exact%[mA,%[od,es,ep,k _ _ (.inl rfl) e|c]|r]
 | rng lo hi=>obtain⟨t,u,v,e⟩:=x;exact%[t,u,v|k _ _ (.inl rfl) e]
 | frz ob u ih=>obtain⟨e,q⟩:=x;exact%[k _ _ (.inl rfl) e|ih q]
 | tbl ps=>
  have e:h.get? a=some { cls:=.none,data:=.fields ps }:=x;change h'.get? a=some { cls:=.none,data:=.fields ps };exact k a _ (.inl rfl) e
 | met f y=>
  have e:h.get? a=some (PySem.W.methodObj (.ref f) (.ref y)):=x;change h'.get? a=some (PySem.W.methodObj (.ref f) (.ref y));exact k a _ (.inl rfl) e
 | ext φ=>obtain⟨p,⟨o,e⟩,st⟩:=x;exact%[st _ _ p λ o q=>k _ _ (.inl rfl) q,%[o|k _ _ (.inl rfl) e]|st]
theorem HOk.lt(x:HOk P w H h)(e:H a=some o):a < h.objs.size:=(x a o e).lt
theorem HOk.fresh(x:HOk P w H h)(e:h.objs.size<=a):H a=none:=by
 cases q:H a with
 | none=>rfl
 | some u=>exact absurd (C3 (x.lt q) e) (E2 _)
theorem HOk.kept(x:HOk P w H h)(k:∀b u,h.get? b=some u->h'.get? b=some u):HOk P w H h':=λ a o e=>
 (x a o e).stay (λ b u _ q=>k b u q) (λ _ q=>q) λ _ _ q=>q
theorem HOk.laid(x:HOk P w H h)(k:∀b u,h.get? b=some u->h'.get? b=some u)(hp:h.objs.size<=a)(new:ObjOk P w (upd H a o) h' a o):HOk P w (upd H a o) h':=λ b u e=>by
 have hn:=x.fresh hp
 by_cases hb:b=a
 ·subst hb;rw[ai]at e;cases e;exact new
 ·rw[ak hb]at e;exact(x b u e).stay (λ c v _ q=>k c v q) (λ c q=>by rw[ak (aj q hn)];exact q) λ c xs q=>by rw[ak (aj q hn)];exact q
end
def Rd(H:Hp)(a:Nj)(u:HO):Prop:=H a=some u\/∃o,H a=some (.frz o u)
theorem Rd.ok{P:G0}{w:G2}{H:Hp}{h:Heap}{a:Nj}{u:HO}(r:Rd H a u)(x:HOk P w H h):ObjOk P w H h a u:=by
 rcases r with r | ⟨o,r⟩
 ·exact x a u r
 ·obtain⟨_,q⟩:=x a _ r;exact q
def Mut:Nm HO->Prop
 | ↥_=>True
 | some (.dK _)=>True
 | some (.dT _)=>True
 | some (.set _ _)=>True
 | some (.ins _ _ _)=>True
 | some (.ext _)=>True
 | _=>False
section
variable{P:G0}{w:G2}{H:Hp}{h h':Heap}{x e:Nj}{o':HO}
theorem HOk.write(ok:HOk P w H h)(mu:Mut (H x))(he:e=x\/H e=some (.own x))(k:∀b u,b≠e->h.get? b=some u->h'.get? b=some u)(heo:∃u,h'.get? e=some u)
  (new:ObjOk P w (upd H x o') h' x o'):HOk P w (upd H x o') h':=λ b u q=>by
 have nown:∀c y,H c=some (.own y)->c≠x:=λ c y r z=>by subst z;rw[r]at mu;exact mu
 have ntup:∀c xs,H c= ~~~xs->c≠x:=λ c xs r z=>by subst z;rw[r]at mu;exact mu
 by_cases hb:b=x
 ·subst hb;rw[ai]at q;cases q;exact new
 ·rw[ak hb]at q
  by_cases hbe:b=e
  ·have q':H b=some (.own x):=by
    rcases he with z | z
    ·exact absurd (hbe.trans z) hb
    ·rw[hbe];exact z
   rw[q]at q';cases q';obtain⟨v,hv⟩:=heo;exact%[v|by rw[hbe];exact hv]
  ·show(ok b u q).stay (λ c v hc r=>k c v ?_ r) (λ c r=>by rw[ak (nown c b r)];exact r) λ c xs r=>by rw[ak (ntup c xs r)];exact r
   rcases hc with rfl | hc
   ·exact hbe
   ·rintro rfl;rcases he with z | z
    ·exact nown c b hc z
    ·rw[hc]at z;cases z;exact hb rfl
end
structure Un(fs ex:No Nj)(H H':Hp)(h h':Heap):Prop where
 keep:∀b o,h.get? b=some o->H b=none->b∉fs->b∉ex->h'.get? b=some o
 slot:∀b o,h.get? b=some o->H b=none->b∈fs->b∉ex->∃sl,h'.get? b=some { o with slots:=sl }
 free:∀b o,h.get? b=some o->H b=none->b∉ex->H' b=none
 there:∀b o,h.get? b=some o->b∉ex->∃o',h'.get? b=some o'
 tups:∀b xs,H b= ~~~xs->H' b= ~~~xs
 frzs:∀b o u,H b=some (.frz o u)->H' b=some (.frz o u)
 tbls:∀b ps,H b=some (.tbl ps)->∃more,H' b=some (.tbl (ps ++ more))
section
variable{fs fs' ex ex':No Nj}{H H1 H2:Hp}{h h1 h2 h':Heap}{a x e:Nj}{o:HO}
theorem Un.any(u:Un fs ex H H1 h h1){b:Nj}{ob:Obj}(q:h.get? b=some ob)(n:H b=none)(hx:b∉ex):∃sl,h1.get? b=some { ob with slots:=sl }:=by
 by_cases hb:b∈fs
 ·exact u.slot b ob q n hb hx
 ·exact%[ob.slots|u.keep b ob q n hb hx]
theorem Un.kept(k:∀b u,h.get? b=some u->h'.get? b=some u):Un fs ex H H h h' :=
 %[λ b ob q _ _ _=>k b ob q,λ b ob q _ _ _=>%[ob.slots|k b ob q],λ _ _ _ n _=>n,λ b ob q _=>%[ob|k b ob q],λ _ _ q=>q,λ _ _ _ q=>q|λ _ ps q=>%[#[]|by rw[q];simp]]
theorem Un.refl:Un fs ex H H h h:=Un.kept λ _ _ q=>q
theorem Un.laid(k:∀b u,h.get? b=some u->h'.get? b=some u)(hp:h.objs.size<=a)(hn:H a=none):Un fs ex H (upd H a o) h h' where
 keep:=λ b u q _ _ _=>k b u q
 slot:=λ b u q _ _ _=>%[u.slots|k b u q]
 free:=λ b u q n _=>by rw[ak (C1 (C3 (Heap.lt_size q) hp))];exact n
 there:=λ b u q _=>%[u|k b u q]
 tups:=λ b xs q=>by rw[ak (aj q hn)];exact q
 frzs:=λ b u xs q=>by rw[ak (aj q hn)];exact q
 tbls:=λ b ps q=>%[#[]|by rw[ak (aj q hn),q];simp]
theorem Un.write(mu:Mut (H x))(he:e=x\/H e=some (.own x))(k:∀b u,b≠e->h.get? b=some u->h'.get? b=some u)(heo:∃u,h'.get? e=some u):Un fs ex H (upd H x o) h h':=by
 have hx:∀b,H b=none->b≠x:=λ b n z=>by subst z;rw[n]at mu;exact mu
 have hb:∀b,H b=none->b≠e:=λ b n z=>by
  subst z;rcases he with r | r
  ·exact hx b n r
  ·rw[n]at r;cases r
 have hm:∀b u,H b=some u->¬ Mut (some u)->b≠x:=λ b u q nm z=>by subst z;rw[q]at mu;exact nm mu
 show⟨λ b u q n _ _=>k b u (hb b n) q,λ b u q n _ _=>%[u.slots|k b u (hb b n) q],λ b u q n _=>by rw[ak (hx b n)];exact n,λ b u q _=>?_,
  λ b xs q=>by rw[ak (hm b _ q λ z=>z)];exact q,λ b u xs q=>by rw[ak (hm b _ q λ z=>z)];exact q,λ b ps q=>%[#[]|by rw[ak (hm b _ q λ z=>z),q];simp]⟩
 by_cases hbe:b=e
 ·subst hbe;exact heo
 ·exact%[u|k b u hbe q]
end
def trk(h:Heap)(H:Hp):No Nj:=(List.range h.objs.size).filter λ a=>(H a).isSome
def mj(h:Heap)(H:Hp):Heap:=PySem.W.hideAll h (trk h H)
theorem sD(h:Heap)(H:Hp):(mj h H).objs.size=h.objs.size:=PySem.W.hideAll_size _ _
theorem vw{h:Heap}{H:Hp}{b:Nj}{o:Obj}(e:h.get? b=some o)(n:H b=none):(mj h H).get? b=some o :=
 PySem.W.hideAll_get _ e λ hm=>by have q:(H b).isSome=true:=(M5.mp hm).2;rw[n]at q;simp at q
theorem yo{h:Heap}{H:Hp}{b:Nj}{o:Obj}(e:(mj h H).get? b=some o):h.get? b=some o/\H b=none:=by
 have e':h.get? b=some o:=PySem.W.of_hideAll (trk h H) e;show%[e'|?_];cases q:H b with
 | none=>rfl
 | some x=>
  have hm:b∈trk h H:=M5.mpr %[MD.mpr (B0 e')|by simp[q]];have z:(mj h H).get? b=none:=PySem.W.hideAll_none (trk h H) hm;rw[z]at e;cases e
def yp(g h:Heap)(L:Nj):P6:=(List.range h.objs.size).filterMap λ a=>if a=L\/(g.get? a).isSome=true then none else(h.get? a).map λ o=>(a,o)
def rest(g h:Heap)(L d:Nj):P6:=(yp g h L).filter λ p=>decide (p.1≠d)
structure Mod(K:C6)(mg:Str->Nm Value)(base:Heap):Prop where
 kin:K.In base
 glob:base.Ns Np mg
 blt:∃mb,base.Ns builtinsNs mb/\∀x:Str,x ≠ "__name__" -> mb x=bootBuiltins x
 nolimit:base.NoLimit
/-- the context: a def's body (or a comprehension's block) running. base: fixed through the bM law;s₀,H₀: the entry;outer: the frames whose slots others may change (a def's callers);stack: all frames that run;
   ex: iterators that were made ahead of the entry and are walked here (a comprehension's);fn: the names whose cells were made at the entry (a def: all;a comprehension's block: its own);calm: not within an except suite;pn: Nq that every state bears;xe: what is wanted of an exception that leaves the code -/
structure Cx where
 prog:Program
 w:World
 K:C6
 mg:Str->Nm Value
 base:Heap
 A:Around
 N:No Str
 s₀:Shared
 H₀:Hp
 env:Env
 outer:No Env
 stack:No Env
 ex:No Nj
 fn:Str->Bool
 calm:Bool
 pn:P6
 xe:G3->F9->Prop
def frs(l:No Env):No Nj:=l.filterMap (·.frame)
abbrev Cx.fs(X:Cx):No Nj:=frs X.outer
def Vis(sc:Scope)(x:Str):Prop:=sc.names.lookup x=some .local\/sc.names.lookup x=some .cell\/sc.names.lookup x=some .free
def Loc(sc:Scope)(x:Str):Prop:=sc.names.lookup x=some .local\/sc.names.lookup x=some .cell
def Jk(env:Env)(h:Heap)(m:Str->Nm G3)(x:Str)(u:G3):Prop :=
 (env.kindOf x=some .local/\m x=some u)\/((env.kindOf x=some .cell\/env.kindOf x=some .free)/\∃c,env.cells.lookup x=some c/\h.IsCell c (some u))
structure Cx.Ok(X:Cx):Prop where
 mod:Mod X.K X.mg X.base
 kind:X.env.scope.kind=.function
 glob:X.env.globals=Np
 blt:X.env.builtins=builtinsNs
 above:X.s₀.heap.objs.size<=X.env.locals
 inj:∀x y c,X.env.cells.lookup x=some c->X.env.cells.lookup y=some c->x=y
 has:∀x,(X.env.kindOf x=some .cell\/X.env.kindOf x=some .free)->∃c,X.env.cells.lookup x=some c
 cab:∀x c,X.fn x=true->X.env.cells.lookup x=some c->X.s₀.heap.objs.size<=c
 hd:X.calm=true->X.A.handled=none
 frames:X.A.frames=some X.stack
 stk:X.stack=X.outer\/(X.stack=X.env :: X.outer/\X.env.frame=some X.env.locals)
 exf:∀b∈X.ex,b≠X.env.locals/\∀x c,X.env.cells.lookup x=some c->c≠b
 bs:∀b o,X.base.get? b=some o->X.s₀.heap.get? b=some o/\X.H₀ b=none
 bsz:X.base.objs.size<=X.s₀.heap.objs.size
 noex:∀b o,X.base.get? b=some o->b∉X.ex
 exfs:∀b∈X.ex,b∉X.fs
 funs:X.s₀.heap.FunFrames X.base X.outer
 frf:∀b∈X.fs,X.H₀ b=none
structure Inv(X:Cx)(Nq:P6)(σ:No (Nm V))(H:Hp)(s:Shared):Prop where
 ok:X.Ok
 os:s.os=X.s₀.os
 bare:AllBare s.gens
 base:Un X.fs X.ex X.H₀ H X.s₀.heap s.heap
 loc:∃m,s.heap.Ns X.env.locals m/\∀(i:Nat)(x:Str)(v:V),X.N[i]?=some x->σ[i]?=some (some v)->Vis X.env.scope x->∃u,RelV v u/\Jk X.env s.heap m x u
 cell:∀x c,X.env.cells.lookup x=some c->∃v,s.heap.IsCell c v
 free:H X.env.locals=none
 freeC:∀x c,X.env.cells.lookup x=some c->H c=none
 pin:∀p∈X.pn ++ Nq,s.heap.get? p.1=some p.2/\H p.1=none/\p.1≠X.env.locals/\p.1∉X.fs/\∀v,p.2.data≠.cell v
 hok:HOk X.prog X.w H s.heap
 len:σ.length=X.N.length
section
variable{X:Cx}{Nq:P6}{σ:No (Nm V)}{H H':Hp}{s:F9}{h':Heap}
theorem Cx.Ok.nofr(ok:X.Ok){b:Nj}{o:Obj}(e:X.base.get? b=some o):b∉X.fs:=λ hb=>by have:=(ok.funs.mem hb).1;rw[e]at this;cases this
theorem Inv.bs(I:Inv X Nq σ H s):∀b o,X.base.get? b=some o->s.heap.get? b=some o/\H b=none:=λ b o e=>
 %[I.base.keep b o (I.ok.bs b o e).1 (I.ok.bs b o e).2 (I.ok.nofr e) (I.ok.noex b o e)|I.base.free b o (I.ok.bs b o e).1 (I.ok.bs b o e).2 (I.ok.noex b o e)]
theorem Inv.bk(I:Inv X Nq σ H s):∀b o,X.base.get? b=some o->s.heap.get? b=some o:=λ b o e=>(I.bs b o e).1
theorem Inv.mod(I:Inv X Nq σ H s):Mod X.K X.mg X.base:=I.ok.mod
theorem Inv.kIn(I:Inv X Nq σ H s):X.K.In s.heap:=I.ok.mod.kin.keeps I.bk
theorem Inv.fr(I:Inv X Nq σ H s):∃m,Fr X.base X.env.locals s.heap m :=
 let ⟨m,hn,_⟩:=I.loc
 %[m,hn,I.bk|C7 I.ok.bsz I.ok.above]
theorem Inv.lt(I:Inv X Nq σ H s):X.env.locals < s.heap.objs.size:=let ⟨_,hn,_⟩:=I.loc;hn.lt
theorem Inv.sz(I:Inv X Nq σ H s):X.s₀.heap.objs.size<=s.heap.objs.size:=C7 I.ok.above (C9 I.lt)
theorem Inv.nofs(I:Inv X Nq σ H s){a:Nj}(h:s.heap.objs.size<=a):a∉X.fs:=λ hb=>by obtain⟨_,o,ho,_⟩:=I.ok.funs.mem hb;exact absurd (C3 (B0 ho) (C7 I.sz h)) (E2 _)
theorem Inv.cne(I:Inv X Nq σ H s):∀x c,X.env.cells.lookup x=some c->c≠X.env.locals:=λ x c e z=>by obtain⟨v,o,ho,hd⟩:=I.cell x c e;obtain⟨m,⟨o',es,ep,ho',hd',_⟩,_⟩:=I.loc;rw[z,ho']at ho;cases ho;rw[hd']at hd;cases hd
theorem Inv.funs(I:Inv X Nq σ H s):s.heap.FunFrames X.base X.outer:=by
 have all:∀(l:No Env),(∀b∈frs l,b∈X.fs)->X.s₀.heap.FunFrames X.base l->s.heap.FunFrames X.base l:=by
  intro l
  induction l with
  | nil=>intro _ _;trivial
  | cons env r ih=>
   intro hs hl;obtain⟨hk,⟨L,o,hf,hn,ho,hd⟩,hr⟩:=hl;have hL:L∈X.fs:=hs L (by unfold frs;rw[List.filterMap_cons,hf];exact B9);obtain⟨sl,e⟩:=I.base.slot L o ho (I.ok.frf L hL) hL λ z=>I.ok.exfs L z hL;exact%[hk,%[L,_,hf,hn,e|hd]|ih (λ b hb=>hs b (by unfold frs;rw[List.filterMap_cons,hf];exact B6 _ hb)) hr]
 exact all X.outer (λ _ hb=>hb) I.ok.funs
theorem Inv.stack(I:Inv X Nq σ H s):s.heap.FunFrames X.base X.stack:=by
 rcases I.ok.stk with e | ⟨e,hf⟩
 ·rw[e];exact I.funs
 ·rw[e];obtain⟨m,hn,_⟩:=I.loc;show .cons (by rw[I.ok.kind];decide) hf hn ?_ I.funs;exact Heap.get?_none_of_le (C7 I.ok.bsz I.ok.above)
theorem Inv.stkSub(I:Inv X Nq σ H s):∀b∈frs X.stack,b∈X.env.locals :: X.fs:=λ b hb=>by
 rcases I.ok.stk with e | ⟨e,hf⟩
 ·rw[e]at hb;exact B6 _ hb
 ·rw[e]at hb;unfold frs at hb;rw[List.filterMap_cons,hf]at hb;exact hb
theorem Inv.stkFree(I:Inv X Nq σ H s):∀b∈frs X.stack,H b=none:=λ b hb=>by
 rcases J3.mp (I.stkSub b hb)with e | hb
 ·rw[e];exact I.free
 ·obtain⟨_,o,ho,_⟩:=I.ok.funs.mem hb;exact I.base.free b o ho (I.ok.frf b hb) λ z=>I.ok.exfs b z hb
theorem Inv.step{g':Nn GenState}{t':Nat}{d':Drawn}{ch:No Nj}(I:Inv X Nq σ H s)
  (hch:∀b∈ch,(b∈X.ex\/X.s₀.heap.objs.size<=b)/\b≠X.env.locals/\(∀x c,X.env.cells.lookup x=some c->c≠b)/\∀p∈X.pn ++ Nq,p.1≠b)
  (keep:∀b o,b≠X.env.locals->b∉X.fs->b∉ch->s.heap.get? b=some o->H b=none->h'.get? b=some o)
  (slot:∀b o,b≠X.env.locals->b∈X.fs->b∉ch->s.heap.get? b=some o->H b=none->∃sl,h'.get? b=some { o with slots:=sl }) (free:∀b o,b∉ch->s.heap.get? b=some o->H b=none->H' b=none)
  (there:∀b o,b∉ch->s.heap.get? b=some o->∃o',h'.get? b=some o')
  (tups:∀b xs,H b= ~~~xs->H' b= ~~~xs) (frzs:∀b o u,H b=some (.frz o u)->H' b=some (.frz o u)) (tbls:∀b ps,H b=some (.tbl ps)->∃more,H' b=some (.tbl (ps ++ more)))
  (ns:∀m,s.heap.Ns X.env.locals m->h'.Ns X.env.locals m) (hok:HOk X.prog X.w H' h') (hg:AllBare g') :
  Inv X Nq σ H' { s with heap:=h',gens:=g',drawn:=d',toks:=t' }:=by
 have neL:∀b o,X.s₀.heap.get? b=some o->b≠X.env.locals:=λ b o e=>C1 (C3 (B0 e) I.ok.above);have neC:∀b o,X.s₀.heap.get? b=some o->b∉X.ex->b∉ch:=λ b o e hx hb=>by
  rcases(hch b hb).1 with z | z
  ·exact hx z
  ·exact absurd (C3 (B0 e) z) (E2 _)
 have cellK:∀x c,X.env.cells.lookup x=some c->∀v,s.heap.IsCell c v->h'.IsCell c v:=λ x c e v ⟨o,ho,hd⟩=>by
  have nch:c∉ch:=λ z=>(hch c z).2.2.1 x c e rfl
  by_cases hc:c∈X.fs
  ·obtain⟨sl,q⟩:=slot c o (I.cne x c e) hc nch ho (I.freeC x c e);exact%[_,q|hd]
  ·exact%[o,keep c o (I.cne x c e) hc nch ho (I.freeC x c e)|hd]
 show%[I.ok,I.os,hg,%[λ b o e n hb hx=>?_,λ b o e n hb hx=>?_,λ b o e n hx=>?_,λ b o e hx=>?_,λ b xs e=>tups b xs (I.base.tups b xs e),λ b o xs e=>frzs b o xs (I.base.frzs b o xs e)|λ b ps e=>?_],?_,λ x c e=>?_,?_,λ x c e=>?_,λ p hp=>?_,hok|I.len]
 ·exact keep b o (neL b o e) hb (neC b o e hx) (I.base.keep b o e n hb hx) (I.base.free b o e n hx)
 ·obtain⟨sl,e1⟩:=I.base.slot b o e n hb hx;obtain⟨sl',e2⟩:=slot b _ (neL b o e) hb (neC b o e hx) e1 (I.base.free b o e n hx);exact%[sl'|e2]
 ·obtain⟨o',e1⟩:=I.base.there b o e hx;exact free b o' (neC b o e hx) e1 (I.base.free b o e n hx)
 ·obtain⟨o',e1⟩:=I.base.there b o e hx;exact there b o' (neC b o e hx) e1
 ·obtain⟨m1,e1⟩:=I.base.tbls b ps e;obtain⟨m2,e2⟩:=tbls b _ e1;exact%[m1 ++ m2|by rw[e2,Array.append_assoc]]
 ·obtain⟨m,hn,hl⟩:=I.loc;show%[m,ns m hn|λ i x v e1 e2 e3=>?_];obtain⟨u,r,l⟩:=hl i x v e1 e2 e3;show%[u,r|?_];rcases l with l | ⟨k,c,e,z⟩
  ·exact .inl l
  ·exact .inr %[k,c,e|cellK x c e _ z]
 ·obtain⟨v,z⟩:=I.cell x c e;exact%[v|cellK x c e v z]
 ·obtain⟨m,⟨o,_,_,ho,_⟩,_⟩:=I.loc;exact free _ o (λ z=>(hch _ z).2.1 rfl) ho I.free
 ·obtain⟨v,o,ho,hd⟩:=I.cell x c e;exact free c o (λ z=>(hch c z).2.2.1 x c e rfl) ho (I.freeC x c e)
 ·obtain⟨e,n,ne,nf,d⟩:=I.pin p hp;have nch:p.1∉ch:=λ z=>(hch p.1 z).2.2.2 p hp rfl;exact%[keep p.1 p.2 ne nf nch e n,free p.1 p.2 nch e n,ne,nf|d]
theorem Inv.un{t':Nat}(I:Inv X Nq σ H s)(u:Un X.fs [] H H' s.heap h')(hok:HOk X.prog X.w H' h'):Inv X Nq σ H' { s with heap:=h',toks:=t' }:=by
 obtain⟨m,⟨o,es,ep,ho,r⟩,_⟩:=id I.loc;obtain⟨sl,hL⟩:=u.any ho I.free (by simp);exact I.step (g':=s.gens) (d':=s.drawn) (ch:=[]) (λ _ z=>nomatch z) (λ b o _ hb _ e n=>u.keep b o e n hb (by simp)) (λ b o _ hb _ e n=>u.slot b o e n hb (by simp)) (λ b o _ e n=>u.free b o e n (by simp)) (λ b o _ e=>u.there b o e (by simp)) u.tups u.frzs u.tbls (λ m' hm=>by
  obtain⟨o',es',ep',ho',r'⟩:=hm;rw[ho]at ho';cases ho';exact%[_,es',ep',hL|r']) hok I.bare
theorem Inv.call{g':Nn GenState}{t':Nat}{d':Drawn}{ch:No Nj}(I:Inv X Nq σ H s)(u:Un (frs X.stack) ch H H' s.heap h')(hok:HOk X.prog X.w H' h')(hg:AllBare g')
  (hch:∀b∈ch,(b∈X.ex\/X.s₀.heap.objs.size<=b)/\b≠X.env.locals/\(∀x c,X.env.cells.lookup x=some c->c≠b)/\∀p∈X.pn ++ Nq,p.1≠b) :
  Inv X Nq σ H' { s with heap:=h',gens:=g',drawn:=d',toks:=t' }:=by
 obtain⟨m,⟨o,es,ep,ho,r⟩,_⟩:=id I.loc;obtain⟨sl,hL⟩:=u.any ho I.free λ z=>(hch _ z).2.1 rfl;exact I.step (ch:=ch) hch (λ b o hL hb hc e n=>u.keep b o e n (λ z=>(J3.mp (I.stkSub b z)).elim hL hb) hc) (λ b o _ _ hc e n=>u.any e n hc) (λ b o hc e n=>u.free b o e n hc) (λ b o hc e=>u.there b o e hc) u.tups u.frzs u.tbls (λ m' hm=>by
  obtain⟨o',es',ep',ho',r'⟩:=hm;rw[ho]at ho';cases ho';exact%[_,es',ep',hL|r']) hok hg
theorem Inv.turned{t':Nat}{it:Nj}(I:Inv X Nq σ H s)(k:∀b o,b≠it->s.heap.get? b=some o->h'.get? b=some o)(hn:H it=none)(hL:it≠X.env.locals)
  (h1:it∈X.ex\/X.s₀.heap.objs.size<=it) (h2:∀x c,X.env.cells.lookup x=some c->c≠it) (h3:∀p∈X.pn ++ Nq,p.1≠it):Inv X Nq σ H { s with heap:=h',toks:=t' }:=by
 have nit:∀b u,H b=some u->b≠it:=λ b u e z=>by rw[z,hn]at e;cases e
 show I.step (g':=s.gens) (d':=s.drawn) (ch:=[it]) (λ b hb=>?_) (λ b o _ _ hc e _=>k b o (λ z=>hc (by simp[z])) e) (λ b o _ _ hc e _=>%[o.slots|k b o (λ z=>hc (by simp[z])) e]) (λ _ _ _ _ n=>n)
  (λ b o hc e=>%[o|k b o (λ z=>hc (by simp[z])) e]) (λ _ _ e=>e) (λ _ _ _ e=>e) (λ b ps e=>%[#[]|by rw[e];simp]) (λ m hm=>?_) (λ b u e=>?_) I.bare
 ·have e:b=it:=by simpa using hb
  subst e;exact%[h1,hL,h2|h3]
 ·obtain⟨o,es,ep,ho,r⟩:=hm;exact%[o,es,ep,k _ o (Ne.symm hL) ho|r]
 ·show(I.hok b u e).stay (λ c v hc q=>k c v ?_ q) (λ _ q=>q) λ _ _ q=>q;rcases hc with z | z
  ·rw[z];exact nit b u e
  ·exact nit c _ z
theorem Inv.tok(I:Inv X Nq σ H s)(t:Nat):Inv X Nq σ H { s with toks:=t }:=I.un (h':=s.heap) (t':=t) Un.refl I.hok
theorem Inv.kept{t':Nat}(I:Inv X Nq σ H s)(k:∀b u,s.heap.get? b=some u->h'.get? b=some u):Inv X Nq σ H { s with heap:=h',toks:=t' }:=I.un (Un.kept k) (I.hok.kept k)
theorem Inv.laid{a:Nj}{o:HO}{t':Nat}(I:Inv X Nq σ H s)(k:∀b u,s.heap.get? b=some u->h'.get? b=some u)(hp:s.heap.objs.size<=a)(new:ObjOk X.prog X.w (upd H a o) h' a o) :
  Inv X Nq σ (upd H a o) { s with heap:=h',toks:=t' }:=I.un (Un.laid k hp (I.hok.fresh hp)) (I.hok.laid k hp new)
theorem Inv.write{x e:Nj}{o:HO}{t':Nat}(I:Inv X Nq σ H s)(mu:Mut (H x))(he:e=x\/H e=some (.own x))(k:∀b u,b≠e->s.heap.get? b=some u->h'.get? b=some u)(heo:∃u,h'.get? e=some u)
  (new:ObjOk X.prog X.w (upd H x o) h' x o):Inv X Nq σ (upd H x o) { s with heap:=h',toks:=t' }:=I.un (Un.write mu he k heo) (I.hok.write mu he k heo new)
theorem Inv.weak{σ':No (Nm V)}(I:Inv X Nq σ H s)(hl:σ'.length=σ.length)(w:∀ (i:Nat) v,σ'[i]?=some (some v)->σ[i]?=some (some v)):Inv X Nq σ' H s :=
 %[I.ok,I.os,I.bare,I.base,let ⟨m,hn,hl'⟩:=I.loc;%[m,hn|λ i x v e1 e2 e3=>hl' i x v e1 (w i v e2) e3],I.cell,I.free,I.freeC,I.pin,I.hok|hl.trans I.len]
theorem Inv.pins_of{pins':P6}(I:Inv X Nq σ H s)(h:∀p∈pins',s.heap.get? p.1=some p.2/\H p.1=none/\p.1≠X.env.locals/\p.1∉X.fs/\∀v,p.2.data≠.cell v):Inv X pins' σ H s :=
 %[I.ok,I.os,I.bare,I.base,I.loc,I.cell,I.free,I.freeC,λ p hp=>(C4.mp hp).elim (λ z=>I.pin p (B8 _ z)) (h p),I.hok|I.len]
theorem nv{N:No Str}(hN:N.Nodup){i j:Nat}{x:Str}(a:N[i]?=some x)(b:N[j]?=some x):i=j:=by obtain⟨h1,e1⟩:=A7.mp a;obtain⟨h2,e2⟩:=A7.mp b;exact(List.getElem_inj hN).mp (e1.trans e2.symm)
theorem kZ{M:Model}{A:Around}{E:G3->F9->Prop}{i:Nat}{x:Str}{v:V}{u:G3}{Q:Unit->F9->Prop}(I:Inv X Nq σ H s)(hN:X.N.Nodup)(hi:X.N[i]?=some x)(hx:Loc X.env.scope x)(r:RelV v u)
  (h:∀s',Inv X Nq (σ.set i (some v)) H s'->(∃a,Heap.SameBut a s.heap s'.heap/\(a=X.env.locals\/X.env.cells.lookup x=some a))->Q () s') (hf:X.fn x=true\/X.env.scope.names.lookup x=some .local:=by first | exact .inl rfl | exact .inr rfl | assumption):wpAny M A (storeName X.env x u) Q E s:=by
 obtain⟨m,hn,hl⟩:=id I.loc;have hcls:(X.env.scope.kind == .class || (X.env.scope.kind == .module && X.env.locals != X.env.globals))=false:=by rw[I.ok.kind];rfl
 have hiσ:i < σ.length:=by rw[I.len];exact(A7.mp hi).1
 have cne:=I.cne;have tracked:∀{a:Nj}{h':Heap},(∃o,s.heap.get? a=some o/\H a=none)->Heap.SameBut a s.heap h'->HOk X.prog X.w H h':=λ {a h'} ha hs b ob e=>by
  obtain⟨_,_,hfree⟩:=ha;show(I.hok b ob e).stay (λ c w' hc q=>(hs.2 c ?_).trans q) (λ _ q=>q) λ _ _ q=>q;rintro rfl;rcases hc with rfl | hc
  ·rw[hfree]at e;cases e
  ·rw[hfree]at hc;cases hc
 rcases hx with hk | hk
 ·show wpAny_storeName_local hk hn (λ h' hn' hs=>?_) hcls;obtain⟨oL,_,_,hoL,_⟩:=id hn;show h _ %[I.ok,I.os,I.bare,%[λ b o e n hb hx=>?_,λ b o e n hb hx=>?_,I.base.free,λ b o e hx=>?_,I.base.tups,I.base.frzs|I.base.tbls],%[_,hn'|λ j y v' e1 e2 e3=>?_],λ y c e=>?_,I.free,I.freeC,λ p hp=>?_,tracked %[oL,hoL|I.free] hs|by simpa using I.len] %[_,hs|.inl rfl]
  ·exact(hs.2 b (C1 (C3 (B0 e) I.ok.above))).trans (I.base.keep b o e n hb hx)
  ·obtain⟨sl,e1⟩:=I.base.slot b o e n hb hx;exact%[sl|(hs.2 b (C1 (C3 (B0 e) I.ok.above))).trans e1]
  ·obtain⟨o',e1⟩:=I.base.there b o e hx;exact%[o'|(hs.2 b (C1 (C3 (B0 e) I.ok.above))).trans e1]
  ·by_cases hj:j=i
   ·subst hj;rw[hi]at e1;cases e1;rw[List.getElem?_set_self hiσ]at e2;cases e2;exact%[u,r|.inl %[hk|by simp]]
   ·rw[List.getElem?_set_ne (Ne.symm hj)]at e2;obtain⟨u',r',q⟩:=hl j y v' e1 e2 e3;show%[u',r'|?_];rcases q with⟨k,e⟩ | ⟨k,c,e,z⟩
    ·show .inl %[k|?_];have:y≠x:=λ e=>hj (nv hN e1 (e ▸ hi));simp[this,e]
    ·exact .inr %[k,c,e|z.sameBut hs (cne y c e)]
  ·obtain⟨w',z⟩:=I.cell y c e;exact%[w'|z.sameBut hs (cne y c e)]
  ·obtain⟨e,n,ne,nf,d⟩:=I.pin p hp;exact%[(hs.2 p.1 ne).trans e,n,ne,nf|d]
 ·have hfn:X.fn x=true:=by
   rcases hf with z | z
   ·exact z
   ·rw[z]at hk;cases hk
  obtain⟨c,hc⟩:=I.ok.has x (.inl hk);obtain⟨w',z⟩:=I.cell x c hc;show wpAny_storeName_cell I.ok.kind hk hc z (λ h' hc' hs=>?_);obtain⟨oc,hoc,hocd⟩:=id z;show h { s with heap:=h' } %[I.ok,I.os,I.bare,%[λ b o e n hb hx=>?_,λ b o e n hb hx=>?_,I.base.free,λ b o e hx=>?_,I.base.tups,I.base.frzs|I.base.tbls],%[m,hn.sameBut hs (Ne.symm (cne x c hc))|λ j y v' e1 e2 e3=>?_],λ y c' e=>?_,I.free,I.freeC,λ p hp=>?_,tracked %[oc,hoc|I.freeC x c hc] hs|by simpa using I.len] %[c,hs|.inr hc]
  ·exact(hs.2 b (C1 (C3 (B0 e) (I.ok.cab x c hfn hc)))).trans (I.base.keep b o e n hb hx)
  ·obtain⟨sl,e1⟩:=I.base.slot b o e n hb hx;exact%[sl|(hs.2 b (C1 (C3 (B0 e) (I.ok.cab x c hfn hc)))).trans e1]
  ·obtain⟨o',e1⟩:=I.base.there b o e hx;exact%[o'|(hs.2 b (C1 (C3 (B0 e) (I.ok.cab x c hfn hc)))).trans e1]
  ·by_cases hj:j=i
   ·subst hj;rw[hi]at e1;cases e1;rw[List.getElem?_set_self hiσ]at e2;cases e2;exact%[u,r|.inr %[.inl hk,c,hc|hc']]
   ·rw[List.getElem?_set_ne (Ne.symm hj)]at e2;obtain⟨u',r',q⟩:=hl j y v' e1 e2 e3;show%[u',r'|?_];rcases q with q | ⟨k,c',e,z'⟩
    ·exact .inl q
    ·show .inr %[k,c',e|z'.sameBut hs ?_];rintro rfl;exact hj (nv hN e1 (I.ok.inj _ _ _ e hc ▸ hi))
  ·by_cases hcc:c'=c
   ·subst hcc;exact%[_|hc']
   ·obtain⟨w2,z2⟩:=I.cell y c' e;exact%[w2|z2.sameBut hs hcc]
  ·obtain⟨e,n,ne,nf,d⟩:=I.pin p hp;show%[(hs.2 p.1 ?_).trans e,n,ne,nf|d];intro q;rw[q,hoc]at e;have q':oc=p.2:=C0 e;exact d w' (by rw[<- q'];exact hocd)
theorem nw{M:Model}{A:Around}{E:G3->F9->Prop}{i:Nat}{x:Str}{v:V}{u:G3}{Q:Unit->F9->Prop}(I:Inv X Nq σ H s)(hN:X.N.Nodup)(hi:X.N[i]?=some x)(hx:Loc X.env.scope x)(r:RelV v u)
  (h:∀s',Inv X Nq (σ.set i (some v)) H s'->Q () s') (hf:X.fn x=true\/X.env.scope.names.lookup x=some .local:=by first | exact .inl rfl | exact .inr rfl | assumption):wpAny M A (storeName X.env x u) Q E s :=
 kZ I hN hi hx r (λ s' I' _=>h s' I') hf
theorem Inv.call'{s':F9}{ch:No Nj}(I:Inv X Nq σ H s)(ho:s'.os=s.os)(u:Un (frs X.stack) ch H H' s.heap s'.heap)(hok:HOk X.prog X.w H' s'.heap)(hg:AllBare s'.gens)
  (hch:∀b∈ch,(b∈X.ex\/X.s₀.heap.objs.size<=b)/\b≠X.env.locals/\(∀x c,X.env.cells.lookup x=some c->c≠b)/\∀p∈X.pn ++ Nq,p.1≠b):Inv X Nq σ H' s':=by
 obtain⟨h',g',d',t',o'⟩:=s';have e:o'=s.os:=ho;subst e;exact I.call (g':=g') (t':=t') (d':=d') u hok hg hch
end
abbrev XK:=Value->Nm Nj->Hp->Prop
abbrev St:=No (Nm V)
abbrev VK:=V->Hp->Prop
abbrev TE:=St->Hp->VK->Prop
abbrev TT:=St->Hp->(Bool->Hp->Prop)->Prop
abbrev TA:=St->Hp->(No V->Hp->Prop)->Prop
structure Ends where
 nx:St->Hp->Prop
 rt:VK
 bk:St->Hp->Prop:=λ _ _=>False
 ct:St->Hp->Prop:=λ _ _=>False
abbrev TS:=Ends->St->Hp->Prop
def EP(X:Cx)(Nq:P6)(σ:St)(Q:VK)(u:G3)(s':F9):Prop:=∃v H',Inv X Nq σ H' s'/\RelV v u/\Q v H'
def TP(X:Cx)(Nq:P6)(σ:St)(Q:Bool->Hp->Prop)(b:Bool)(s':F9):Prop:=∃H',Inv X Nq σ H' s'/\Q b H'
def AP(X:Cx)(Nq:P6)(σ:St)(Q:No V->Hp->Prop)(us:No G3)(s':F9):Prop:=∃vs H',Inv X Nq σ H' s'/\Vals vs us/\Q vs H'
def SP(X:Cx)(Nq:P6)(D:Ends)(f:Flow)(s':F9):Prop :=
 match f with
 | .next=>∃σ' H',Inv X Nq σ' H' s'/\D.nx σ' H'
 | .brk=>∃σ' H',Inv X Nq σ' H' s'/\D.bk σ' H'
 | .cont=>∃σ' H',Inv X Nq σ' H' s'/\D.ct σ' H'
 | .ret u=>∃v σ' H',Inv X Nq σ' H' s'/\RelV v u/\D.rt v H'
def PE(X:Cx)(e:Expr)(t:TE):Prop :=
 ∀(Nq:P6)(s:F9)(σ:St)(H:Hp)(Q:VK),Inv X Nq σ H s->t σ H Q->wpAny (model X.prog X.w) X.A (eval e X.env) (EP X Nq σ Q) X.xe s
def PT(X:Cx)(e:Expr)(t:TT):Prop :=
 ∀(Nq:P6)(s:F9)(σ:St)(H:Hp)(Q:Bool->Hp->Prop),Inv X Nq σ H s->t σ H Q->wpAny (model X.prog X.w) X.A (isTrue e X.env (eval e X.env)) (TP X Nq σ Q) X.xe s
def PW(X:Cx)(e:Expr)(t:TT):Prop :=
 ∀(bM:Sem G3)(Nq:P6)(s:F9)(σ:St)(H:Hp)(Q:Bool->Hp->Prop),Inv X Nq σ H s->t σ H Q->wpAny (model X.prog X.w) X.A (isTrue e X.env bM) (TP X Nq σ Q) X.xe s
theorem PW.pt{X:Cx}{e:Expr}{t:TT}(h:PW X e t):PT X e t:=h _
def PA(X:Cx)(es:No Expr)(t:TA):Prop :=
 ∀(pos:Pos)(Nq:P6)(s:F9)(σ:St)(H:Hp)(Q:No V->Hp->Prop),Inv X Nq σ H s->t σ H Q->wpAny (model X.prog X.w) X.A (spliced (backTo pos (starEach es X.env))) (AP X Nq σ Q) X.xe s
def PS(X:Cx)(st:Stmt)(t:TS):Prop :=
 ∀(Nq:P6)(s:F9)(σ:St)(H:Hp)(D:Ends),Inv X Nq σ H s->t D σ H->wpAny (model X.prog X.w) X.A (exec st X.env) (SP X Nq D) X.xe s
def PSs(X:Cx)(st:No Stmt)(t:TS):Prop :=
 ∀(Nq:P6)(s:F9)(σ:St)(H:Hp)(D:Ends),Inv X Nq σ H s->t D σ H->wpAny (model X.prog X.w) X.A (execs st X.env) (SP X Nq D) X.xe s
theorem thn{α:Type}{t:Sem α}{Q Q':α->F9->Prop}{M:Model}{A:Around}{E:G3->F9->Prop}{s:F9}(h:wpAny M A t Q E s)(hQ:∀a s,Q a s->Q' a s):wpAny M A t Q' E s:=OA h hQ λ _ _ x=>x
section
variable{X:Cx}
theorem bin{a b:Expr}{ta tb:TE}(ha:PE X a ta)(hb:PE X b tb){Nq:P6}{s:F9}{σ:St}{H:Hp}{R:V->V->Hp->Prop}(I:Inv X Nq σ H s)(h:ta σ H λ x H1=>tb σ H1 λ y H2=>R x y H2)
  {α:Type} {Q:α->F9->Prop} {f:G3->G3->Sem α}
  (hf:∀v u s2 x y H2,Inv X Nq σ H2 s2->RelV x v->RelV y u->R x y H2->wpAny (model X.prog X.w) X.A (f v u) Q X.xe s2) :
  wpAny (model X.prog X.w) X.A (eval a X.env) (λ v s₁=>wpAny (model X.prog X.w) X.A (eval b X.env) (λ u s₂=>wpAny (model X.prog X.w) X.A (f v u) Q X.xe s₂) X.xe s₁) X.xe s:=by
 show thn (ha Nq s σ H _ I h) ?_;rintro v s1 ⟨x,H1,I1,r1,q1⟩;show thn (hb Nq s1 σ H1 _ I1 q1) ?_;rintro u s2 ⟨y,H2,I2,r2,q2⟩;exact hf v u s2 x y H2 I2 r1 r2 q2
inductive tVar(i:Nat)(σ:St)(H:Hp)(Q:VK):Prop
|mk(v:V)(_:σ[i]?=some (some v))(_:Q v H)
def tC(v:V):TE:=λ _ H Q=>Q v H
theorem Al{i:Nat}{x:Str}{pos:Pos}(hN:X.N[i]?=some x)(hv:Vis X.env.scope x)(hd:(x == ("__debug__" : Str))=false:=by decide)(hcd:(x == ("__classdict__" : Str))=false:=by decide):PE X (.Name x pos) (tVar i):=by
 intro Nq s σ H Q I h;obtain⟨v,e,h⟩:=h;obtain⟨m,hn,hl⟩:=I.loc;obtain⟨u,r,l⟩:=hl i x v hN e hv;have fin:EP X Nq σ Q u s:=%[v,H,I,r|h]
 rcases l with⟨hk,hm⟩ | ⟨hk,c,hc,hcell⟩
 ·exact wpAny_Name (wpAny_loadName_local I.ok.kind hk hn hm fin) hd
 ·rcases hk with hk | hk
  ·exact wpAny_Name (wpAny_loadName_cell I.ok.kind hk hc hcell fin) hd
  ·exact wpAny_Name (wpAny_loadName_free I.ok.kind hk hc hcell fin hcd) hd
theorem ag{i j pos}:PE X (.Constant (.int i) j pos) (tC (.int i)):=λ _ _ _ H _ I h=>wpAny_Constant_int %[.int i,H,I.tok _,%[_|rfl]|h]
theorem dR{b j pos}:PE X (.Constant (.bool b) j pos) (tC (.bl b)):=λ _ _ _ H _ I h=>Constant_bool %[.bl b,H,I,rfl|h]
theorem dh{j pos}:PE X (.Constant .none j pos) (tC .non):=λ _ _ _ H _ I h=>Constant_none %[.non,H,I,rfl|h]
theorem gc{x j pos}:PE X (.Constant (.str x) j pos) (tC (.str x)):=λ _ _ _ H _ I h=>Calls.Constant_str %[.str x,H,I.tok _,%[_|U]|h]
def Gl(X:Cx)(x:Str):Prop:=X.env.kindOf x=some .globalImplicit
theorem mr{E:G3->F9->Prop}{Nq:P6}{s:F9}{σ:St}{H:Hp}{x:Str}{u:G3}{pos:Pos}{Q:G3->F9->Prop}(I:Inv X Nq σ H s)(hg:Gl X x)(hm:X.mg x=some u)(h:Q u s)
  (hd:(x == ("__debug__" : Str))=false:=by decide):wpAny (model X.prog X.w) X.A (eval (.Name x pos) X.env) Q E s :=
 Calls.Name_function_global I.ok.kind hg (Calls.loadGlobal_global (by rw[I.ok.glob];exact I.mod.glob.keeps I.bk) hm h) hd
theorem eF{E:G3->F9->Prop}{Nq:P6}{s:F9}{σ:St}{H:Hp}{x:Str}{u:G3}{pos:Pos}{Q:G3->F9->Prop}(I:Inv X Nq σ H s)(hg:Gl X x)(hm:X.mg x=none)(hv:bootBuiltins x=some u)(h:Q u s)
  (hn:x ≠ "__name__" := by decide) (hd:(x == ("__debug__" : Str))=false:=by decide):wpAny (model X.prog X.w) X.A (eval (.Name x pos) X.env) Q E s:=by
 obtain⟨mb,h1,h2⟩:=I.mod.blt;exact Calls.Name_function_global I.ok.kind hg (Calls.loadGlobal_builtin (by rw[I.ok.glob];exact I.mod.glob.keeps I.bk) hm (by rw[I.ok.blt];exact h1.keeps I.bk) ((h2 x hn).trans hv) h) hd
theorem cu{x:Str}{v:V}{u:G3}{pos:Pos}(hg:Gl X x)(hm:X.mg x=some u)(r:RelV v u)(hd:(x == ("__debug__" : Str))=false:=by decide):PE X (.Name x pos) (tC v) :=
 λ _ _ _ H _ I h=>mr I hg hm %[v,H,I,r|h] hd
theorem cw{x:Str}{v:V}{u:G3}{pos:Pos}(hg:Gl X x)(hm:X.mg x=none)(hv:bootBuiltins x=some u)(r:RelV v u)(hn:x ≠ "__name__" := by decide)(hd:(x == ("__debug__" : Str))=false:=by decide):PE X (.Name x pos) (tC v) :=
 λ _ _ _ H _ I h=>eF I hg hm hv %[v,H,I,r|h] hn hd
variable{a b:Expr}{ta tb:TE}{pos:Pos}
def PC(X:Cx)(op:CmpOp)(a b:Expr)(t:TE):Prop :=
 ∀(Nq:P6)(s:F9)(σ:St)(H:Hp)(Q:VK),Inv X Nq σ H s->t σ H Q ->
  wpAny (model X.prog X.w) X.A (eval a X.env) (λ v s₁=>wpAny (model X.prog X.w) X.A (eval b X.env) (λ u s₂=>wpAny (model X.prog X.w) X.A (compareOp op v u) (EP X Nq σ Q) X.xe s₂) X.xe s₁) X.xe s
inductive IsB(x:V)(Q:Bool->Prop):Prop
|mk(c:Bool)(e:x=.bl c)(q:Q c)
def tB(t:TE):TT:=λ σ H Q=>t σ H λ x H1=>IsB x λ c=>Q c H1
theorem Am{op:CmpOp}{t:TE}(h:PC X op a b t)(h1:behindInMarks op b=false:=by first | exact nobehind _ ∅ ∅ | rfl):PT X (.Compare a [op] [b] pos) (tB t):=by intro Nq s σ H Q I hw;show wpAny_isTrue_Compare1 (thn (h Nq s σ H _ I hw) λ v s1 h1=>thn h1 λ u s2 h2=>thn h2 ?_) h1;rintro c s3 ⟨x,H1,I1,r1,q1⟩;obtain⟨d,rfl,q⟩:=q1;cases r1;exact F5 %[H1,I1|q]
theorem aR{e:Expr}{t:TE}(h:PE X e t)(he:∀bM,isTrue e X.env bM=(do let v<-bM;standAt e.pos;holding [v] (truthy v)):=by intro _;rfl):PT X e (tB t):=by intro Nq s σ H Q I hw;show isTrue_plain (thn (h Nq s σ H _ I hw) ?_) (he _);rintro v s1 ⟨x,H1,I1,r1,q1⟩;obtain⟨d,rfl,q⟩:=q1;cases r1;exact F5 %[H1,I1|q]
variable{tA tB':TT}{rest:No Expr}
def Jl(t u:TT):TT:=λ σ H Q=>t σ H λ c H1=>if c=true then u σ H1 Q else Q false H1
def tOr(t u:TT):TT:=λ σ H Q=>t σ H λ c H1=>if c=true then Q true H1 else u σ H1 Q
def Jm(t:TT):TT:=λ σ H Q=>t σ H λ c H1=>Q (!c) H1
theorem js(ha:PT X a tA):PW X (.BoolOp .And [a] pos) tA:=by
 intro wh Nq s σ H Q I h;show isTrue_and (thn (ha Nq s σ H Q I h) λ c s1 e=>?_);cases c with
 | true=>exact isTrue_and_nil e
 | false=>exact e
theorem bT(ha:PT X a tA):PW X (.BoolOp .Or [a] pos) tA:=by
 intro wh Nq s σ H Q I h;show isTrue_or (thn (ha Nq s σ H Q I h) λ c s1 e=>?_);cases c with
 | false=>exact isTrue_or_nil e
 | true=>exact e
theorem mv(ha:PT X a tA)(hb:PW X (.BoolOp .And (b :: rest) pos) tB'):PW X (.BoolOp .And (a :: b :: rest) pos) (Jl tA tB'):=by
 intro wh Nq s σ H Q I h;show isTrue_and (thn (ha Nq s σ H _ I h) ?_);rintro c s1 ⟨H1,I1,q1⟩;cases c with
 | true=>exact hb wh Nq s1 σ H1 Q I1 q1
 | false=>exact%[H1,I1|q1]
theorem cj(ha:PT X a tA)(hb:PW X (.BoolOp .Or (b :: rest) pos) tB'):PW X (.BoolOp .Or (a :: b :: rest) pos) (tOr tA tB'):=by
 intro wh Nq s σ H Q I h;show isTrue_or (thn (ha Nq s σ H _ I h) ?_);rintro c s1 ⟨H1,I1,q1⟩;cases c with
 | true=>exact%[H1,I1|q1]
 | false=>exact hb wh Nq s1 σ H1 Q I1 q1
theorem aY(ha:PT X a tA):PT X (.UnaryOp .Not a pos) (Jm tA):=by intro Nq s σ H Q I h;exact isTrue_not (ha Nq s σ H (λ c H1=>Q (!c) H1) I h)
def Bw(ta tb:TE):TE:=λ σ H Q=>ta σ H λ x H1=>IsB x λ c=>if c=true then tb σ H1 Q else Q (.bl false) H1
def Jn(ta tb:TE):TE:=λ σ H Q=>ta σ H λ x H1=>IsB x λ c=>if c=true then Q (.bl true) H1 else tb σ H1 Q
def Bx(ta:TE):TE:=λ σ H Q=>ta σ H λ x H1=>IsB x λ c=>Q (.bl (!c)) H1
theorem dO{op}{t:TE}(h:PE X a t):PE X (.BoolOp op [a] pos) t:=λ Nq s σ H Q I hw=>BoolOp_one (h Nq s σ H Q I hw)
theorem di(ha:PE X a ta)(hb:PE X (.BoolOp .And (b :: rest) pos) tb):PE X (.BoolOp .And (a :: b :: rest) pos) (Bw ta tb):=by
 intro Nq s σ H Q I h;show BoolOp_and (thn (ha Nq s σ H _ I h) ?_);rintro v s1 ⟨x,H1,I1,r1,q1⟩;obtain⟨c,rfl,q1⟩:=q1;cases r1;show F5 ?_;cases c with
 | true=>exact hb Nq s1 σ H1 Q I1 q1
 | false=>exact%[.bl false,H1,I1,U|q1]
theorem zN(ha:PE X a ta)(hb:PE X (.BoolOp .Or (b :: rest) pos) tb):PE X (.BoolOp .Or (a :: b :: rest) pos) (Jn ta tb):=by
 intro Nq s σ H Q I h;show BoolOp_or (thn (ha Nq s σ H _ I h) ?_);rintro v s1 ⟨x,H1,I1,r1,q1⟩;obtain⟨c,rfl,q1⟩:=q1;cases r1;show F5 ?_;cases c with
 | false=>exact hb Nq s1 σ H1 Q I1 q1
 | true=>exact%[.bl true,H1,I1,U|q1]
theorem mx(ha:PE X a ta):PE X (.UnaryOp .Not a pos) (Bx ta):=by intro Nq s σ H Q I h;show UnaryOp_ (thn (ha Nq s σ H _ I h) ?_);rintro v s1 ⟨x,H1,I1,r1,q1⟩;obtain⟨c,rfl,q1⟩:=q1;cases r1;exact not_of (F5 %[.bl (!c),H1,I1,rfl|q1])
def tIf(t:TT)(ta tb:TE):TE:=λ σ H Q=>t σ H λ c H1=>if c=true then ta σ H1 Q else tb σ H1 Q
theorem vy{c:Expr}(hc:PT X c tA)(ha:PE X a ta)(hb:PE X b tb):PE X (.IfExp c a b pos) (tIf tA ta tb):=by
 intro Nq s σ H Q I h;show wpAny_IfExp (thn (hc Nq s σ H _ I h) ?_);rintro d s1 ⟨H1,I1,q1⟩;cases d with
 | true=>exact ha Nq s1 σ H1 Q I1 q1
 | false=>exact hb Nq s1 σ H1 Q I1 q1
end
def SqL(K:C6)(H:Hp)(a:Nj)(xs:No V):Prop :=
 Rd H a (.lst xs) \/
  ∃(o:Obj)(its:Nn G3)(n:Nat),K.lookup a=some o/\o.cls=.type "list" /\ o.dict=none/\o.data=.seq its n/\its.size<=sizeLine/\Vals xs its.toList
def SqT(K:C6)(H:Hp)(a:Nj)(xs:No V):Prop :=
 Rd H a (.tup xs) \/
  ∃(o:Obj)(its:Nn G3)(n:Nat),K.lookup a=some o/\o.cls=.type "tuple" /\ o.data=.seq its n/\its.size<=sizeLine/\Vals xs its.toList
def Jo:G3->Nm V
 | .none=>some .non
 | .bool b=>some (.bl b)
 | .int i _=>⇑i
 | .str x _=>some (.str x)
 | .bytes b _=>some (.byt b)
 | .float b _=>some (.flt b)
 | .ref a=>↑a
 | .type n=>some (.ty n)
 | _=>none
theorem RelV.abs{x:V}{u:G3}(r:RelV x u):Jo u=some x:=by
 cases x with
 | non=>cases r;rfl
 | bl _=>cases r;rfl
 | int _=>obtain⟨t,rfl⟩:=r;rfl
 | str _=>obtain⟨t,rfl⟩:=r;rfl
 | byt _=>obtain⟨t,rfl⟩:=r;rfl
 | flt _=>obtain⟨t,rfl⟩:=r;rfl
 | ref _=>cases r;rfl
 | ty _=>cases r;rfl
theorem RelV.inj{x y:V}{u:G3}(r:RelV x u)(q:RelV y u):x=y:=C0 (r.abs.symm.trans q.abs)
theorem Vals.inj:∀{xs ys:No V}{us:No G3},Vals xs us->Vals ys us->xs=ys
 | _,_,_,.nil,.nil=>rfl
 | _,_,_,.cons r t,.cons r' t'=>by rw[r.inj r',Vals.inj t t']
section
variable{X:Cx}{Nq:P6}{σ:St}{H:Hp}{s:F9}{a:Nj}{xs ys:No V}
theorem SqL.of{K:C6}(h:H a=↥xs):SqL K H a xs:=.inl (.inl h)
abbrev G6:=@SqL.of
theorem SqT.of{K:C6}(h:H a= ~~~xs):SqT K H a xs:=.inl (.inl h)
abbrev G5:=@SqT.of
theorem Inv.list(I:Inv X Nq σ H s)(h:SqL X.K H a xs):∃its:No G3,Vals xs its/\PlainL s.heap a its.toArray/\xs.length<=sizeLine:=by
 rcases h with h | ⟨o,its,n,hk,hc,hd,hs,hz,r⟩
 ·obtain⟨z,its,n,r,e⟩:=h.ok I.hok;exact%[its,r,%[_,n,e,U,U|U]|z]
 ·show%[its.toList,r,%[o,n,I.kIn a o hk,hc,hd|by simpa using hs]|?_];have e:=r.length;simp only[J7]at e;lia
theorem Inv.tuple(I:Inv X Nq σ H s)(h:SqT X.K H a xs):∃its:No G3,Vals xs its/\IsTup s.heap a its.toArray/\xs.length<=sizeLine:=by
 rcases h with h | ⟨o,its,n,hk,hc,hs,hz,r⟩
 ·obtain⟨z,its,r,p⟩:=h.ok I.hok;exact%[its,r,p|z]
 ·show%[its.toList,r,%[o,I.kIn a o hk,hc,n|by simpa using hs]|?_];have e:=r.length;simp only[J7]at e;lia
theorem Inv.list_inj(I:Inv X Nq σ H s)(h:SqL X.K H a xs)(h':SqL X.K H a ys):xs=ys:=by
 obtain⟨its,r,⟨o,n,e,_,_,d⟩,_⟩:=I.list h;obtain⟨its',r',⟨o',n',e',_,_,d'⟩,_⟩:=I.list h';rw[e]at e';cases e';rw[d]at d';injection d' with d1 _
 have:its=its':=by simpa using OD Array.toList d1
 subst this;exact r.inj r'
theorem Inv.tuple_inj(I:Inv X Nq σ H s)(h:SqT X.K H a xs)(h':SqT X.K H a ys):xs=ys:=by
 obtain⟨its,r,⟨o,e,_,n,d⟩,_⟩:=I.tuple h;obtain⟨its',r',⟨o',e',_,n',d'⟩,_⟩:=I.tuple h';rw[e]at e';cases e';rw[d]at d';injection d' with d1 _
 have:its=its':=by simpa using OD Array.toList d1
 subst this;exact r.inj r'
end
abbrev Cx.wish(X:Cx)(E:G3->F9->Prop):Cx:={ X with xe:=E }
abbrev Cx.nox(X:Cx):Cx:=X.wish λ _ _=>False
theorem Cx.Ok.wish{X:Cx}(ok:X.Ok)(E:G3->F9->Prop):(X.wish E).Ok :=
 %[ok.mod,ok.kind,ok.glob,ok.blt,ok.above,ok.inj,ok.has,ok.cab,ok.hd,ok.frames,ok.stk,ok.exf,ok.bs,ok.bsz,ok.noex,ok.exfs,ok.funs|ok.frf]
theorem Cx.Ok.unwish{X:Cx}{E:G3->F9->Prop}(ok:(X.wish E).Ok):X.Ok :=
 %[ok.mod,ok.kind,ok.glob,ok.blt,ok.above,ok.inj,ok.has,ok.cab,ok.hd,ok.frames,ok.stk,ok.exf,ok.bs,ok.bsz,ok.noex,ok.exfs,ok.funs|ok.frf]
section
variable{X:Cx}{Nq:P6}{σ:St}{H:Hp}{s:F9}{E:G3->F9->Prop}
theorem Inv.wish(I:Inv X Nq σ H s)(E:G3->F9->Prop):Inv (X.wish E) Nq σ H s:=%[I.ok.wish E,I.os,I.bare,I.base,I.loc,I.cell,I.free,I.freeC,I.pin,I.hok|I.len]
theorem Inv.unwish(I:Inv (X.wish E) Nq σ H s):Inv X Nq σ H s:=%[I.ok.unwish,I.os,I.bare,I.base,I.loc,I.cell,I.free,I.freeC,I.pin,I.hok|I.len]
theorem SP.unwish{D:Ends}{f:Flow}{s':F9}(h:SP (X.wish E) Nq D f s'):SP X Nq D f s':=by
 cases f with
 | next=>obtain⟨σ',H',I,q⟩:=h;exact%[σ',H',I.unwish|q]
 | brk=>obtain⟨σ',H',I,q⟩:=h;exact%[σ',H',I.unwish|q]
 | cont=>obtain⟨σ',H',I,q⟩:=h;exact%[σ',H',I.unwish|q]
 | ret u=>obtain⟨v,σ',H',I,r,q⟩:=h;exact%[v,σ',H',I.unwish,r|q]
theorem PSs.nox{st:No Stmt}{t:TS}(h:PSs X.nox st t):PSs X st t:=λ Nq s σ H D I hw=>
 OA (h Nq s σ H D (I.wish _) hw) (λ _ _ q=>q.unwish) λ _ _ z=>F0 z
end
section
variable{X:Cx}{st:Stmt}{rest:No Stmt}{t u:TS}{e:Expr}{te:TE}{pos:Pos}
def By:TS:=λ D σ H=>D.nx σ H
def yq(t u:TS):TS:=λ D σ H=>t { D with nx:=u D } σ H
theorem ay:PSs X [] By:=λ _ _ σ H _ I h=>wpAny_execs_nil %[σ,H,I|h]
theorem af(h1:PS X st t)(h2:PSs X rest u):PSs X (st :: rest) (yq t u):=by
 intro Nq s σ H D I h;show wpAny_execs_cons (thn (h1 Nq s σ H { D with nx:=u D } I h) λ f s1 q=>?_);cases f with
 | next=>
  obtain⟨σ',H',I',q⟩:=q;exact h2 Nq s1 σ' H' D I' q
 | ret v=>exact q
 | brk=>exact q
 | cont=>exact q
theorem ah(h1:PS X st t):PSs X [st] t:=by
 intro Nq s σ H D I h;show wpAny_execs_cons (thn (h1 Nq s σ H D I h) λ f s1 q=>?_);cases f with
 | next=>exact wpAny_execs_nil q
 | ret v=>exact q
 | brk=>exact q
 | cont=>exact q
theorem Inv.quiet{Nq:P6}{σ:St}{H:Hp}{s:F9}(I:Inv X Nq σ H s):interactive X.env=false:=by simp[interactive,I.ok.kind]
def Bz(te:TE):TS:=λ D σ H=>te σ H λ _ H1=>D.nx σ H1
theorem bL(he:PE X e te)(hs:swapsWith e none pos.line X.env=pure false:=by rfl):PS X (.Expr e pos) (Bz te):=by intro Nq s σ H D I h;exact wpAny_Expr_any (thn (he Nq s σ H _ I h) λ v s1 %[x,H1,I1,r1|q1]=>%[σ,H1,I1|q1]) I.quiet hs
def Jp(te:TE):TS:=λ D σ H=>te σ H D.rt
theorem ar(he:PE X e te):PS X (.Return (some e) pos) (Jp te):=by intro Nq s σ H D I h;exact wpAny_Return_some (thn (he Nq s σ H _ I h) λ v s1 %[x,H1,I1,r1|q1]=>%[x,σ,H1,I1,r1|q1])
def Jq(c:TT)(t u:TS):TS:=λ D σ H=>c σ H λ b H1=>if b=true then t D σ H1 else u D σ H1
theorem aP{c:Expr}{a b:No Stmt}{tc:TT}(hc:PT X c tc)(ha:PSs X a t)(hb:PSs X b u):PS X (.If c a b pos) (Jq tc t u):=by
 intro Nq s σ H D I h;show wpAny_If (thn (hc Nq s σ H _ I h) ?_);rintro d s1 ⟨H1,I1,q1⟩;cases d with
 | true=>exact ha Nq s1 σ H1 D I1 q1
 | false=>exact hb Nq s1 σ H1 D I1 q1
def vz:TS:=λ _ _ _=>False
theorem gG:PS X st vz:=λ _ _ _ _ _ _ h=>h.elim
theorem iq{sts:No Stmt}:PSs X sts vz:=λ _ _ _ _ _ _ h=>h.elim
end
abbrev TG:=V->St->Hp->(St->Hp->Prop)->Prop
abbrev TGs:=No V->St->Hp->(St->Hp->Prop)->Prop
def PG(X:Cx)(target:Expr)(t:TG):Prop :=
 ∀(Nq:P6)(s:F9)(σ:St)(H:Hp)(v:V)(u:G3)(Q:St->Hp->Prop),Inv X Nq σ H s->RelV v u->t v σ H Q ->
  wpAny (model X.prog X.w) X.A (assign target X.env u) (λ _ s'=>∃σ' H',Inv X Nq σ' H' s'/\Q σ' H') X.xe s
def PGs(X:Cx)(ts:No Expr)(t:TGs):Prop :=
 ∀(Nq:P6)(s:F9)(σ:St)(H:Hp)(vs:No V)(us:No G3)(Q:St->Hp->Prop),Inv X Nq σ H s->Vals vs us->t vs σ H Q ->
  wpAny (model X.prog X.w) X.A (assignInOrder ((assignEach ts X.env).map (·.2)) us) (λ _ s'=>∃σ' H',Inv X Nq σ' H' s'/\Q σ' H') X.xe s
abbrev An:=V->V->V->Hp->(Hp->Prop)->Prop
def BA(X:Cx)(t:An):Prop :=
 ∀(Nq:P6)(s:F9)(σ:St)(H:Hp)(o i v:V)(ov iv u:G3)(Q:Hp->Prop),Inv X Nq σ H s->RelV o ov->RelV i iv->RelV v u->t o i v H Q ->
  wpAny (model X.prog X.w) X.A (setItem ov iv u) (λ _ s'=>∃H',Inv X Nq σ H' s'/\Q H') X.xe s
section
variable{X:Cx}{pos:Pos}
def iV(i:Nat):TG:=λ v σ H Q=>Q (σ.set i (some v)) H
theorem am{i:Nat}{x:Str}(hN:X.N.Nodup)(hi:X.N[i]?=some x)(hx:Loc X.env.scope x)(hf:X.fn x=true\/X.env.scope.names.lookup x=some .local:=by first | exact .inl rfl | exact .inr rfl | assumption):PG X (.Name x pos) (iV i):=by intro Nq s σ H v u Q I r h;exact wpAny_assign_Name (nw I hN hi hx r (λ s' I'=>%[_,H,I'|h]) hf)
def Ao:TGs:=λ vs σ H Q=>vs=[]/\Q σ H
inductive gCons(t:TG)(u:TGs)(vs:No V)(σ:St)(H:Hp)(Q:St->Hp->Prop):Prop
|mk(v:V)(r:No V)(_:vs=v :: r)(_:t v σ H λ σ' H'=>u r σ' H' Q)
theorem bi:PGs X [] Ao:=by intro Nq s σ H vs us Q I r h;obtain⟨e,h⟩:=h;subst e;cases r;exact assignInOrder_nil %[σ,H,I|h]
theorem au{e:Expr}{es:No Expr}{t:TG}{u:TGs}(h1:PG X e t)(h2:PGs X es u)
  (hs:(assignEach (e :: es) X.env).map (·.2)=assign e X.env :: (assignEach es X.env).map (·.2):=by rfl):PGs X (e :: es) (gCons t u):=by
 intro Nq s σ H vs us Q I r h;obtain⟨v,vr,e1,h⟩:=h;subst e1;cases r with
 | cons r rr=>
  rw[hs];show assignInOrder_cons (thn (h1 Nq s σ H _ _ _ I r h) ?_);rintro _ s1 ⟨σ1,H1,I1,q1⟩;exact h2 Nq s1 σ1 H1 _ _ Q I1 rr q1
inductive gTup(K:C6)(n:Nat)(t:TGs)(v:V)(σ:St)(H:Hp)(Q:St->Hp->Prop):Prop
|mk(a:Nj)(xs:No V)(_:v=.ref a)(_:SqT K H a xs)(_:xs.length=n)(_:t xs σ H Q)
theorem bO{es:No Expr}{k:Nat}{t:TGs}{n:Nat}(hc:X.calm=true)(h:PGs X es t)
  (hn:(assignEach es X.env).length=n:=by rfl) (hst:(assignEach es X.env).findIdx? (·.1)=none:=by rfl):PG X (.Tuple es k pos) (gTup X.K n t):=by
 intro Nq s σ H v u Q I r hw;obtain⟨a,xs,e1,hq,hl,hw⟩:=hw;subst e1;cases r;obtain⟨its,rv,ht,hz⟩:=I.tuple hq;show assign_Tuple_tuple (I.ok.hd hc) ht (by simp[hn,<- hl,rv.length]) hst λ h' hx=>?_;have I1:Inv X Nq σ H { s with heap:=h' }:=I.kept (t':=s.toks) λ b o e=>hx b o (C1 (B0 e)) e;exact h Nq _ σ H xs _ Q I1 (by simpa using rv) hw
def Jr(to ti:TE)(t:An):TG:=λ v σ H Q=>to σ H λ o H1=>ti σ H1 λ i H2=>t o i v H2 λ H3=>Q σ H3
theorem pj{o i:Expr}{to ti:TE}{t:An}(ho:PE X o to)(hi:PE X i ti)(hs:BA X t)
  (ha:∀v,assign (.Subscript o i pos) X.env v=(do
   let ov<-holding [v] (eval o X.env)
   let iv<-holding [v,ov] (eval i X.env)
   standAt pos
   holding [v,ov,iv] (setItem ov iv v)
   release [v,ov,iv] []):=by intro _;rfl):PG X (.Subscript o i pos) (Jr to ti t):=by
 intro Nq s σ H v u Q I r h;rw[ha];show A0 (N2 (thn (ho Nq s σ H _ I h) ?_));rintro ov s1 ⟨x,H1,I1,r1,q1⟩;show A0 (N2 (thn (hi Nq s1 σ H1 _ I1 q1) ?_));rintro iv s2 ⟨y,H2,I2,r2,q2⟩;show A0 (Oi (A0 (N2 (thn (hs Nq s2 σ H2 x y v ov iv u _ I2 r1 r2 r q2) ?_))));rintro _ s3 ⟨H3,I3,q3⟩;exact wpAny_release %[σ,H3,I3|q3]
def Ap(te:TE)(g:TG):TS:=λ D σ H=>te σ H λ x H1=>g x σ H1 D.nx
theorem cR{tg e:Expr}{te:TE}{g:TG}(he:PE X e te)(hg:PG X tg g)(hs:swapsWithSole [tg] e pos.line X.env=pure false:=by rfl)(hw:swappedStores [tg] e X.env=pure none:=by rfl)
  (h1:(assignEach [tg] X.env).map (·.2)=[assign tg X.env]:=by rfl):PS X (.Assign [tg] e pos) (Ap te g):=by
 intro Nq s σ H D I h;show wpAny_Assign_stores (thn (he Nq s σ H _ I h) ?_) hs hw;rintro v s1 ⟨x,H1,I1,r1,q1⟩;rw[h1];exact thn (hg Nq s1 σ H1 x v _ I1 r1 q1) λ _ s2 q=>q
theorem aE{i:Nat}{x:Str}{e:Expr}{te:TE}{pos':Pos}(hN:X.N.Nodup)(hi:X.N[i]?=some x)(hx:Loc X.env.scope x)(he:PE X e te)(hs:swapsWith e (some (.Name x pos')) pos.line X.env=pure false:=by rfl)(hf:X.fn x=true\/X.env.scope.names.lookup x=some .local:=by first | exact .inl rfl | exact .inr rfl | assumption) :
  PS X (.Assign [.Name x pos'] e pos) (Ap te (iV i)):=by
 intro Nq s σ H D I h;show wpAny_Assign_Name (thn (he Nq s σ H _ I h) ?_) hs;rintro v s1 ⟨y,H1,I1,r1,q1⟩;exact nw I1 hN hi hx r1 (λ s2 I2=>%[_,H1,I2|q1]) hf
def Aq(c:TT)(tb:TS):TS:=λ D σ H=>∃W:Nat->St->Hp->Prop,(∃m,W m σ H)/\∀m σ H,W m σ H ->
 c σ H λ b H1=>if b=true then∃N:St->Hp->Prop,(∀σ' H',N σ' H'->∃m',m' < m/\W m' σ' H')/\tb { D with nx:=N,ct:=N,bk:=D.nx } σ H1 else D.nx σ H1
theorem ny{c:Expr}{body:No Stmt}{tc:TT}{tb:TS}(hp:PassesOwn (model X.prog X.w) X.A X.env X.xe)(hc:PT X c tc)(hb:PSs X body tb):PS X (.While c body [] pos) (Aq tc tb):=by
 intro Nq s σ H D I h;obtain⟨W,⟨m0,w0⟩,turn⟩:=h;show wpAny_While (codeAny_whileLoop (λ n s'=>∃σ' H',Inv X Nq σ' H' s'/\W n σ' H') ?_ m0 %[σ,H,I|w0]);rintro n s1 ⟨σ1,H1,I1,w1⟩;show Oe hp (thn (hc Nq s1 σ1 H1 _ I1 (turn n σ1 H1 w1)) ?_);rintro b s2 ⟨H2,I2,q2⟩;cases b with
 | true=>
  obtain⟨N,hN,q2⟩:=q2;rw[Nw rfl];show Oe hp (thn (hb Nq s2 σ1 H2 _ I2 q2) λ f s3 q3=>?_);cases f with
  | next=>
   obtain⟨σ3,H3,I3,n3⟩:=q3;obtain⟨m',hm,w3⟩:=hN σ3 H3 n3;exact%[m',hm,σ3,H3,I3|w3]
  | cont=>
   obtain⟨σ3,H3,I3,n3⟩:=q3;obtain⟨m',hm,w3⟩:=hN σ3 H3 n3;exact%[m',hm,σ3,H3,I3|w3]
  | brk=>exact q3
  | ret v=>exact q3
 | false=>
  rw[Nv B3];exact wpAny_execs_nil %[σ1,H2,I2|q2]
end
structure It where
 go:Nat->Hp->Prop
 yld:Nat->Hp->V->Hp->Prop
 stop:Nat->Hp->Prop
def FpOk(X:Cx)(Nq:P6)(H:Hp)(b:Nj):Prop :=
 H b=none/\b≠X.env.locals/\b∉X.fs/\(b∈X.ex\/X.s₀.heap.objs.size<=b)/\(∀x c,X.env.cells.lookup x=some c->c≠b)/\∀p∈X.pn ++ Nq,p.1≠b
theorem Inv.fpOk{X:Cx}{Nq:P6}{σ:St}{H H':Hp}{s:F9}{b:Nj}(I:Inv X Nq σ H s)(hb:s.heap.objs.size<=b)(hn:H' b=none):FpOk X Nq H' b:=by
 show%[hn,MU (C3 I.lt hb),I.nofs hb,.inr (C7 I.sz hb),λ x c e z=>?_|λ p hp z=>?_]
 ·obtain⟨v,q⟩:=I.cell x c e;exact absurd (C3 q.lt (by rw[z];exact hb)) (E2 _)
 ·exact absurd (C3 (B0 (I.pin p hp).1) (by rw[z];exact hb)) (E2 _)
structure Turn(P:Program)(w:World)(K:C6)(tg:Expr)(J:It)(fp:No Nj)(it:Nj)(tn:Nat->Heap->Prop):Prop where
 mem:it∈fp
 obj:∀i h,tn i h->∀b∈fp,∃o,h.get? b=some o/\∀v,o.data≠.cell v
 keep:∀i h h',tn i h->(∀b∈fp,∀o,h.get? b=some o->h'.get? b=some o)->tn i h'
 item:∀(X:Cx),X.prog=P->X.w=w->X.K=K->X.calm=true->∀(i:Nat)(Nq:P6)(s:F9)(σ:St)(H:Hp)(E:G3->F9->Prop),Inv X Nq σ H s->(∀b∈fp,FpOk X Nq H b)->tn i s.heap->J.go i H ->
  wpAny (model P w) X.A (pyNext (.ref it)) (λ r s1=>∃u,r=some u /\
   wpAny (model P w) X.A (letOwnedTupleGo tg (.ref it) u) (λ _ s2=>∃x H',Inv X Nq σ H' s2/\RelV x u/\J.yld i H x H'/\tn (i+1) s2.heap/\∀b∈fp,H' b=none) E s1) E s
 done:∀(X:Cx),X.prog=P->X.w=w->X.K=K->X.calm=true->∀(i:Nat)(Nq:P6)(s:F9)(σ:St)(H:Hp)(E:G3->F9->Prop),Inv X Nq σ H s->(∀b∈fp,FpOk X Nq H b)->tn i s.heap->J.stop i H ->
  wpAny (model P w) X.A (pyNext (.ref it)) (λ r s1=>r=none/\Inv X Nq σ H s1) E s
 self:∀(A:Around)(i:Nat)(s:F9)(Q E:G3->F9->Prop),tn i s.heap->Q (.ref it) s->wpAny (model P w) A (pyIter (.ref it)) Q E s
abbrev TI:=St->Hp->(It->Hp->Prop)->Prop
def PIE(X:Cx)(Nq:P6)(σ:St)(tg:Expr)(R:It->Hp->Prop)(itv:G3)(s2:F9):Prop :=
 ∃(it:Nj)(fp:No Nj)(tn:Nat->Heap->Prop)(J:It)(H':Hp),itv=.ref it/\Inv X Nq σ H' s2/\Turn X.prog X.w X.K tg J fp it tn/\tn 0 s2.heap/\(∀b∈fp,FpOk X Nq H' b)/\R J H'
def PI(X:Cx)(tg iter:Expr)(wi:TI):Prop :=
 ∀(Nq:P6)(s:F9)(σ:St)(H:Hp)(R:It->Hp->Prop),Inv X Nq σ H s->wi σ H R ->
  wpAny (model X.prog X.w) X.A (eval iter X.env) (λ v s1=>wpAny (model X.prog X.w) X.A (pyIter v) (PIE X Nq σ tg R) X.xe s1) X.xe s
theorem qI{M:Model}{A:Around}{E:G3->F9->Prop}{s:F9}{tg:Expr}{it:Nj}{u:G3}{o:Obj}{n:String}{vs:Nn G3}{Q:Unit->F9->Prop}(ho:s.heap.get? it=some o)(hc:o.cls=.type n)(hd:o.data=.fields vs)
    (hn:Ov.contains n=false) (hQ:Q () s):wpAny M A (letOwnedTupleGo tg (.ref it) u) Q E s:=by
  unfold letOwnedTupleGo;cases tg <;> first
    | exact A3 hQ
    | (cases u <;> first
        | exact A3 hQ
        | (show A0 (wpAny_load ho ?_)
           rw[hc,hd];change wpAny M A (if (Ov.contains n && vs[0]? == some (rawInt _))=true then _ else _) Q E s;rw[Nv (by intro h;rw[hn,Bool.false_and]at h;cases h)];exact A3 hQ))
def Itl(K:C6)(a:Nj):It :=
 %[λ i H=>∃xs x,SqL K H a xs/\xs[i]?=some x,λ i H x H'=>H'=H/\∀xs,SqL K H a xs->xs[i]?=some x|λ i H=>∃xs,SqL K H a xs/\xs.length<=i]
def Itt(K:C6)(a:Nj):It :=
 %[λ i H=>∃xs x,SqT K H a xs/\xs[i]?=some x,λ i H x H'=>H'=H/\∀xs,SqT K H a xs->xs[i]?=some x|λ i H=>∃xs,SqT K H a xs/\xs.length<=i]
def Itr(lo:Int)(n:Nat):It:=%[λ i _=>i < n,λ i H x H'=>H'=H/\x=.int (lo+i)|λ i _=>n<=i]
theorem sE{P:G0}{w:G2}{K:C6}{tg:Expr}(a it:Nj):Turn P w K tg (Itl K a) [it] it (λ i h=>h.IsListIter it a i) where
 mem:=by simp
 obj:=λ i h st b hb=>by
  have e:b=it:=by simpa using hb
  subst e;obtain⟨o,e,c,d⟩:=st;exact%[o,e|λ v z=>by rw[d]at z;cases z]
 keep:=λ i h h' st k=>st.at λ o e=>k it (by simp) o e
 item:=by intro X hP hw hK hc i Nq s σ H E I hf st hg;subst hP hw hK;obtain⟨xs,x,hq,hx⟩:=hg;obtain⟨its,rv,p,hz⟩:=I.list hq;obtain⟨u,hu,ru⟩:=rv.get hx;obtain⟨f0,f1,f2,f3,f4,f5⟩:=hf it (by simp);show wpAny_pyNext_list_item st p.isList (x:=u) (by simpa using hu) λ h' st' sb=>?_;have I1:Inv X Nq σ H { s with heap:=h' }:=I.turned (t':=s.toks) (λ b o hb e=>(sb.2 b hb).trans e) f0 f1 f3 f4 f5;obtain⟨o,e,c,d⟩:=id st';exact%[u,U|qI (s:={ s with heap:=h' }) e c d ∅ %[x,H,I1,ru,%[U|λ ys hy=>by rw[I.list_inj hy hq];exact hx],st'|λ b hb=>(hf b hb).1]]
 done:=by intro X hP hw hK hc i Nq s σ H E I hf st hg;subst hP hw hK;obtain⟨xs,hq,hx⟩:=hg;obtain⟨its,rv,p,hz⟩:=I.list hq;obtain⟨f0,f1,f2,f3,f4,f5⟩:=hf it (by simp);have hl:=rv.length;exact wpAny_pyNext_list_end (I.ok.hd hc) st p.isList (by simp;lia) λ h' eb=>%[U|I.turned (t':=s.toks) (λ b o hb e=>eb b o hb e) f0 f1 f3 f4 f5]
 self:=λ _ _ _ _ _ st h=>wpAny_pyIter_listiter st h
theorem pC{P:G0}{w:G2}{K:C6}{tg:Expr}(a it:Nj):Turn P w K tg (Itt K a) [it] it (λ i h=>h.IsTupleIter it a i) where
 mem:=by simp
 obj:=λ i h st b hb=>by
  have e:b=it:=by simpa using hb
  subst e;obtain⟨o,e,c,d⟩:=st;exact%[o,e|λ v z=>by rw[d]at z;cases z]
 keep:=λ i h h' st k=>st.at λ o e=>k it (by simp) o e
 item:=by intro X hP hw hK hc i Nq s σ H E I hf st hg;subst hP hw hK;obtain⟨xs,x,hq,hx⟩:=hg;obtain⟨its,rv,p,hz⟩:=I.tuple hq;obtain⟨u,hu,ru⟩:=rv.get hx;obtain⟨f0,f1,f2,f3,f4,f5⟩:=hf it (by simp);show wpAny_pyNext_tuple_item st (show s.heap.IsTuple a its.toArray from p) (x:=u) (by simpa using hu) λ h' st' sb=>?_;have I1:Inv X Nq σ H { s with heap:=h' }:=I.turned (t':=s.toks) (λ b o hb e=>(sb.2 b hb).trans e) f0 f1 f3 f4 f5;obtain⟨o,e,c,d⟩:=id st';exact%[u,U|qI (s:={ s with heap:=h' }) e c d ∅ %[x,H,I1,ru,%[U|λ ys hy=>by rw[I.tuple_inj hy hq];exact hx],st'|λ b hb=>(hf b hb).1]]
 done:=by intro X hP hw hK hc i Nq s σ H E I hf st hg;subst hP hw hK;obtain⟨xs,hq,hx⟩:=hg;obtain⟨its,rv,p,hz⟩:=I.tuple hq;obtain⟨f0,f1,f2,f3,f4,f5⟩:=hf it (by simp);have hl:=rv.length;exact wpAny_pyNext_tuple_end (I.ok.hd hc) st (show s.heap.IsTuple a its.toArray from p) (by simp;lia) λ h' eb=>%[U|I.turned (t':=s.toks) (λ b o hb e=>eb b o hb e) f0 f1 f3 f4 f5]
 self:=λ _ _ _ _ _ st h=>wpAny_pyIter_tupleiter st h
theorem jD{P:G0}{w:G2}{K:C6}{tg:Expr}(it:Nj)(lo:Int)(n:Nat):Turn P w K tg (Itr lo n) [it] it (λ i h=>IsRangeIter h it (lo+(i:Nat) * 1) ((n:Int) - (i:Nat)) 1) where
 mem:=by simp
 obj:=λ i h st b hb=>by
  have e:b=it:=by simpa using hb
  subst e;exact⟨_,st,λ v z=>by
   have z':Data.fields _=Data.cell v:=z;cases z'⟩
 keep:=λ i h h' st k=>k it (by simp) _ st
 item:=by intro X hP hw hK hc i Nq s σ H E I hf st hg;subst hP hw hK;obtain⟨f0,f1,f2,f3,f4,f5⟩:=hf it (by simp);have W:=Walks.range (prog:=X.prog) (w:=X.w) (I.ok.hd hc) it lo 1 n;show W.item i s _ _ hg st λ v h' tk hv st' kk=>?_;obtain⟨t,rfl⟩:=hv;have I1:Inv X Nq σ H { s with heap:=h',toks:=tk }:=I.turned (λ b o hb e=>kk b o (by simpa using hb) e) f0 f1 f3 f4 f5;show%[_,U|qI (s:={ s with heap:=h',toks:=tk }) (n := "range_iterator") st' rfl rfl ∅ %[.int (lo+i),H,I1,%[t|?_],%[U|U],st'|λ b hb=>(hf b hb).1]];rw[Int.mul_one]
 done:=by intro X hP hw hK hc i Nq s σ H E I hf st hg;subst hP hw hK;obtain⟨f0,f1,f2,f3,f4,f5⟩:=hf it (by simp);exact wpAny_pyNext_range_end (I.ok.hd hc) st (by have:n<=i:=hg;lia) λ h' eb=>%[U|I.turned (t':=s.toks) (λ b o hb e=>eb b o hb e) f0 f1 f3 f4 f5]
 self:=λ _ _ _ _ _ st h=>wpAny_pyIter_rangeiter st h
section
variable{X:Cx}{tg:Expr}
inductive iListA(K:C6)(R:It->Hp->Prop)(x:V)(H1:Hp):Prop
|mk(a:Nj)(_:x=.ref a)(_:(∃xs,SqL K H1 a xs))(_:R (Itl K a) H1)
def zO(K:C6)(tl:TE):TI:=λ σ H R=>tl σ H λ x H1=>iListA K R x H1
inductive iTupA(K:C6)(R:It->Hp->Prop)(x:V)(H1:Hp):Prop
|mk(a:Nj)(_:x=.ref a)(_:(∃xs,SqT K H1 a xs))(_:R (Itt K a) H1)
def BB(K:C6)(tl:TE):TI:=λ σ H R=>tl σ H λ x H1=>iTupA K R x H1
theorem bj{l:Expr}{tl:TE}(hl:PE X l tl):PI X tg l (zO X.K tl):=by
 intro Nq s σ H R I h;show thn (hl Nq s σ H _ I h) ?_;rintro v s1 ⟨x,H1,I1,r1,q1⟩;obtain⟨a,e,⟨xs,hq⟩,q⟩:=q1;subst e;cases r1;obtain⟨its,rv,p,hz⟩:=I1.list hq;show Of p.isList ?_;show%[s1.heap.objs.size,[s1.heap.objs.size],_,_,H1,U,I1.kept (t':=s1.toks) λ b o e=>A8 _ e,sE a _,%[_,A9 _ rfl,U|U],λ b hb=>?_|q];have e:b=s1.heap.objs.size:=by simpa using hb
 subst e;exact I1.fpOk (B4 _) (I1.hok.fresh (B4 _))
theorem jE{l:Expr}{tl:TE}(hl:PE X l tl):PI X tg l (BB X.K tl):=by
 intro Nq s σ H R I h;show thn (hl Nq s σ H _ I h) ?_;rintro v s1 ⟨x,H1,I1,r1,q1⟩;obtain⟨a,e,⟨xs,hq⟩,q⟩:=q1;subst e;cases r1;obtain⟨its,rv,p,hz⟩:=I1.tuple hq;show Oc (show s1.heap.IsTuple a its.toArray from p) ?_;show%[s1.heap.objs.size,[s1.heap.objs.size],_,_,H1,U,I1.kept (t':=s1.toks) λ b o e=>A8 _ e,pC a _,%[_,A9 _ rfl,U|U],λ b hb=>?_|q];have e:b=s1.heap.objs.size:=by simpa using hb
 subst e;exact I1.fpOk (B4 _) (I1.hok.fresh (B4 _))
theorem jF{Nq:P6}{σ:St}{H:Hp}{s:F9}{R:It->Hp->Prop}{E:G3->F9->Prop}{lo hi:Int}{t u v:Tok}{tk:Nat}(I:Inv X Nq σ H s)(h1:-(2 ^ 62)<=lo)(h2:lo < 2 ^ 62)(h3:-(2 ^ 62)<=hi)(h4:hi < 2 ^ 62)
  (q:R (Itr lo (hi - lo).toNat) H):wpAny (model X.prog X.w) X.A (pyIter (.ref s.heap.objs.size)) (PIE X Nq σ tg R) E { s with heap:=s.heap.push { cls:=.type "range",data:=.fields #[.int lo t,.int hi u,.int 1 v] },toks:=tk }:=by
 show wpAny_pyIter_range (IsRange.new ..) (small_one h1 h2 h3 h4) ?_;have I1:Inv X Nq σ H { s with heap:=s.heap.push { cls:=.type "range",data:=.fields #[.int lo t,.int hi u,.int 1 v] },toks:=tk }:=I.kept λ b o e=>A8 _ e;show⟨(s.heap.push { cls:=.type "range",data:=.fields #[.int lo t,.int hi u,.int 1 v] }).objs.size,[(s.heap.push { cls:=.type "range",data:=.fields #[.int lo t,.int hi u,.int 1 v] }).objs.size],_,_,H,U,
  I1.kept (t':=tk) λ b o e=>A8 _ e,jD _ lo (hi - lo).toNat,?_,λ b hb=>?_,q⟩
 ·have e1:lo+((0:Nat):Int) * 1=lo:=by simp
  have e2:(((hi - lo).toNat:Nat):Int) - ((0:Nat):Int)=Builtin.Range.rangeSize lo hi 1:=by rw[rangeSize_one];split <;> lia
  change IsRangeIter _ _ (lo+((0:Nat):Int) * 1) ((((hi - lo).toNat:Nat):Int) - ((0:Nat):Int)) 1;rw[e1,e2];exact A9 _ rfl
 ·have e:b=(s.heap.push { cls:=.type "range",data:=.fields #[.int lo t,.int hi u,.int 1 v] }).objs.size:=by simpa using hb
  subst e;exact I1.fpOk (B4 _) (I1.hok.fresh (B4 _))
def BC(ta:TA):TI:=λ σ H R=>ta σ H λ vs H1=>∃j:Int,vs=[.int j]/\-(2 ^ 62)<=j/\j < 2 ^ 62/\R (Itr 0 j.toNat) H1
def BD(ta:TA):TI:=λ σ H R=>ta σ H λ vs H1=>∃i j:Int,vs=[.int i,.int j]/\(-(2 ^ 62)<=i/\i < 2 ^ 62/\-(2 ^ 62)<=j/\j < 2 ^ 62)/\R (Itr i (j - i).toNat) H1
theorem fH{a:Expr}{ta:TA}{p pos:Pos}(hg:Gl X "range")(hm:X.mg "range" = none)(ha:PA X [a] ta)(hs:starEach [a] X.env=[(false,eval a X.env)]:=by rfl):PI X tg (.Call (.Name "range" p) [a] [] pos) (BC ta):=by
 intro Nq s σ H R I h;show Call_ (eF I hg hm boot_range (N8 (thn (ha pos Nq s σ H _ I h) ?_) hs rfl));rintro us s1 ⟨vs,H1,I1,r1,q1⟩;obtain⟨j,e,q1,q2,q⟩:=q1;subst e;cases r1 with
 | cons r rr=>
  cases rr;obtain⟨t,rfl⟩:=r;exact call_range_1 (jF I1 ⋯ ⋯ q1 q2 (by simpa using q))
theorem lc{a b:Expr}{ta:TA}{p pos:Pos}(hg:Gl X "range")(hm:X.mg "range" = none)(ha:PA X [a,b] ta)(hs:starEach [a,b] X.env=[(false,eval a X.env),(false,eval b X.env)]:=by rfl)(hs2:starEach [b] X.env=[(false,eval b X.env)]:=by rfl) :
  PI X tg (.Call (.Name "range" p) [a,b] [] pos) (BD ta):=by
 intro Nq s σ H R I h;show Call_ (eF I hg hm boot_range (N8 (thn (ha pos Nq s σ H _ I h) ?_) (by rw[hs,hs2]) (by rw[hs2];rfl)));rintro us s1 ⟨vs,H1,I1,r1,q1⟩;obtain⟨i,j,e,⟨q1,q2,q3,q4⟩,q⟩:=q1;subst e;cases r1 with
 | cons r rr=>
  cases rr with
  | cons r' rr=>
   cases rr;obtain⟨t,rfl⟩:=r;obtain⟨t',rfl⟩:=r';exact call_range_2 (jF I1 q1 q2 q3 q4 q)
def BE(wi:TI)(g:TG)(tb:TS):TS:=λ D σ H=>wi σ H λ J H1=>∃W:Nat->Nat->St->Hp->Prop,(∃m,W 0 m σ H1)/\∀i m σ H,W i m σ H ->
 (J.stop i H/\D.nx σ H)\/(J.go i H/\∃N:St->Hp->Prop,(∀σ' H',N σ' H'->∃m',m' < m/\W (i+1) m' σ' H')/\∀x H',J.yld i H x H'->g x σ H' λ σ2 H2=>tb { D with nx:=N,ct:=N,bk:=D.nx } σ2 H2)
def ge(fp:No Nj)(h:Heap):P6:=fp.filterMap λ b=>(h.get? b).map λ o=>(b,o)
theorem gf{fp:No Nj}{h:Heap}{b:Nj}{o:Obj}(hb:b∈fp)(e:h.get? b=some o):(b,o)∈ge fp h:=List.mem_filterMap.mpr %[b,hb|by rw[e];rfl]
theorem lh{fp:No Nj}{h:Heap}{p:Nj×Obj}(hp:p∈ge fp h):p.1∈fp/\h.get? p.1=some p.2:=by
 obtain⟨b,hb,e⟩:=List.mem_filterMap.mp hp;cases q:h.get? b with
 | none=>rw[q]at e;cases e
 | some o=>
  rw[q]at e;have e':(b,o)=p:=C0 e;subst e';exact%[hb|q]
theorem Inv.pinned{Nq:P6}{σ:St}{H:Hp}{s:F9}{fp:No Nj}(I:Inv X Nq σ H s)(hf:∀b∈fp,FpOk X Nq H b)(ho:∀b∈fp,∃o,s.heap.get? b=some o/\∀v,o.data≠.cell v):Inv X (Nq ++ ge fp s.heap) σ H s :=
 I.pins_of λ p hp=>(C4.mp hp).elim (λ z=>I.pin p (A6 _ z)) λ z=>by obtain⟨hb,e⟩:=lh z;obtain⟨f0,f1,f2,_⟩:=hf p.1 hb;obtain⟨o,e',d⟩:=ho p.1 hb;rw[e]at e';cases e';exact%[e,f0,f1,f2|d]
theorem Inv.unpinned{Nq pl:P6}{σ:St}{H:Hp}{s:F9}(I:Inv X (Nq ++ pl) σ H s):Inv X Nq σ H s:=I.pins_of λ p hp=>I.pin p (A6 _ (B8 _ hp))
theorem ce{iter:Expr}{body:No Stmt}{wi:TI}{g:TG}{tb:TS}{pos:Pos}(hp:PassesOwn (model X.prog X.w) X.A X.env X.xe)(hc:X.calm=true)(hi:PI X tg iter wi)(hg:PG X tg g)(hb:PSs X body tb)
  (hs:∀x,foldedSetIterable iter X.env x=pure x:=by intro _;rfl):PS X (.For tg iter body [] pos) (BE wi g tb):=by
 intro Nq s σ H D I h;show wpAny_For (thn (hi Nq s σ H _ I h) λ v s1 h1=>thn h1 λ itv s2 h2=>?_) hs;obtain⟨it,fp,tn,J,H2,e,I2,T,st2,f2,W,⟨m0,w0⟩,turn⟩:=h2;subst e;have stat:∀{H':Hp},(∀b∈fp,H' b=none)->∀b∈fp,FpOk X Nq H' b:=λ hn b hb=>%[hn b hb|(f2 b hb).2]
 show codeAny_forLoop_any (λ n s'=>∃i σ' H',Inv X Nq σ' H' s'/\tn i s'.heap/\(∀b∈fp,H' b=none)/\W i n σ' H') ?_ m0 %[0,σ,H2,I2,st2,λ b hb=>(f2 b hb).1|w0];rintro n s3 ⟨i,σ3,H3,I3,st3,fr3,w3⟩;rcases turn i n σ3 H3 w3 with⟨stop,qn⟩ | ⟨go,N,hN,step⟩
 ·show Oe hp (thn (T.done X rfl rfl rfl hc i Nq s3 σ3 H3 X.xe I3 (stat fr3) st3 stop) ?_);rintro r s4 ⟨hr,I4⟩;subst hr;exact wpAny_execs_nil %[σ3,H3,I4|qn]
 ·show Oe hp (thn (T.item X rfl rfl rfl hc i Nq s3 σ3 H3 X.xe I3 (stat fr3) st3 go) ?_);rintro r s4 ⟨u,hr,h4⟩;subst hr;show Oe hp (thn h4 ?_);rintro _ s5 ⟨x,H5,I5,r5,y5,st5,fr5⟩;have I5':=I5.pinned (stat fr5) (T.obj _ _ st5);show Oe hp (thn (hg _ s5 σ3 H5 x u _ I5' r5 (step x H5 y5)) ?_);rintro _ s6 ⟨σ6,H6,I6,q6⟩;show Oe hp (thn (hb _ s6 σ6 H6 _ I6 q6) λ f s7 q7=>?_);have again:∀{σ7:St}{H7:Hp},Inv X (Nq ++ ge fp s5.heap) σ7 H7 s7->N σ7 H7->∃m,m < n/\∃i σ' H',Inv X Nq σ' H' s7/\tn i s7.heap/\(∀b∈fp,H' b=none)/\W i m σ' H':=λ {σ7 H7} I7 n7=>by obtain⟨m',hm,w7⟩:=hN σ7 H7 n7;show%[m',hm,i+1,σ7,H7,I7.unpinned,T.keep _ _ _ st5 λ b hb o e=>(I7.pin (b,o) (A6 _ (A6 _ (gf hb e)))).1,λ b hb=>?_|w7];obtain⟨o,e,d⟩:=T.obj _ _ st5 b hb;exact(I7.pin (b,o) (A6 _ (A6 _ (gf hb e)))).2.1
  cases f with
  | next=>obtain⟨σ7,H7,I7,n7⟩:=q7;exact again I7 n7
  | cont=>obtain⟨σ7,H7,I7,n7⟩:=q7;exact again I7 n7
  | brk=>obtain⟨σ7,H7,I7,q7⟩:=q7;exact%[σ7,H7,I7.unpinned|q7]
  | ret v=>obtain⟨x7,σ7,H7,I7,r7,q7⟩:=q7;exact%[x7,σ7,H7,I7.unpinned,r7|q7]
end
theorem cN{K:C6}{a:Nj}{xs:No V}{g:TG}{tb:TS}{D:Ends}{σ:St}{H:Hp}(Pv:Nat->St->Hp->Prop)(h0:Pv 0 σ H)(hl:∀i σ H,i<=xs.length->Pv i σ H->SqL K H a xs)
  (hs:∀i x σ H,xs[i]?=some x->Pv i σ H->g x σ H λ σ2 H2=>tb { D with nx:=Pv (i+1),ct:=Pv (i+1),bk:=D.nx } σ2 H2) (hd:∀σ H,Pv xs.length σ H->D.nx σ H) :
  ∃W:Nat->Nat->St->Hp->Prop,(∃m,W 0 m σ H)/\∀i m σ H,W i m σ H ->
   ((Itl K a).stop i H/\D.nx σ H)\/((Itl K a).go i H/\∃N:St->Hp->Prop,(∀σ' H',N σ' H'->∃m',m' < m/\W (i+1) m' σ' H')/\∀x H',(Itl K a).yld i H x H'->g x σ H' λ σ2 H2=>tb { D with nx:=N,ct:=N,bk:=D.nx } σ2 H2):=by
 show%[λ i m σ H=>m=xs.length - i/\i<=xs.length/\Pv i σ H,%[xs.length,by simp,F1 _|h0]|?_];rintro i m σ H ⟨rfl,hi,p⟩;have q:=hl i σ H hi p
 by_cases hlt:i < xs.length
 ·show .inr %[%[xs,xs[i],q|by simp[hlt]],Pv (i+1),λ σ' H' p'=>%[xs.length - (i+1),⋯,U,hlt|p']|λ x H' y=>?_];obtain⟨e,y⟩:=y;subst e;exact hs i x σ _ (y xs q) p
 ·have e:i=xs.length:=⋯
  subst e;exact .inl %[%[xs,q|B4 _]|hd σ H p]
theorem yr{K:C6}{a:Nj}{xs:No V}{g:TG}{tb:TS}{D:Ends}{σ:St}{H:Hp}(Pv:Nat->St->Hp->Prop)(h0:Pv 0 σ H)(hl:∀i σ H,i<=xs.length->Pv i σ H->SqT K H a xs)
  (hs:∀i x σ H,xs[i]?=some x->Pv i σ H->g x σ H λ σ2 H2=>tb { D with nx:=Pv (i+1),ct:=Pv (i+1),bk:=D.nx } σ2 H2) (hd:∀σ H,Pv xs.length σ H->D.nx σ H) :
  ∃W:Nat->Nat->St->Hp->Prop,(∃m,W 0 m σ H)/\∀i m σ H,W i m σ H ->
   ((Itt K a).stop i H/\D.nx σ H)\/((Itt K a).go i H/\∃N:St->Hp->Prop,(∀σ' H',N σ' H'->∃m',m' < m/\W (i+1) m' σ' H')/\∀x H',(Itt K a).yld i H x H'->g x σ H' λ σ2 H2=>tb { D with nx:=N,ct:=N,bk:=D.nx } σ2 H2):=by
 show%[λ i m σ H=>m=xs.length - i/\i<=xs.length/\Pv i σ H,%[xs.length,by simp,F1 _|h0]|?_];rintro i m σ H ⟨rfl,hi,p⟩;have q:=hl i σ H hi p
 by_cases hlt:i < xs.length
 ·show .inr %[%[xs,xs[i],q|by simp[hlt]],Pv (i+1),λ σ' H' p'=>%[xs.length - (i+1),⋯,U,hlt|p']|λ x H' y=>?_];obtain⟨e,y⟩:=y;subst e;exact hs i x σ _ (y xs q) p
 ·have e:i=xs.length:=⋯
  subst e;exact .inl %[%[xs,q|B4 _]|hd σ H p]
theorem ix{lo:Int}{n:Nat}{g:TG}{tb:TS}{D:Ends}{σ:St}{H:Hp}(Pv:Nat->St->Hp->Prop)(h0:Pv 0 σ H)
  (hs:∀i σ H,i < n->Pv i σ H->g (.int (lo+i)) σ H λ σ2 H2=>tb { D with nx:=Pv (i+1),ct:=Pv (i+1),bk:=D.nx } σ2 H2) (hd:∀σ H,Pv n σ H->D.nx σ H) :
  ∃W:Nat->Nat->St->Hp->Prop,(∃m,W 0 m σ H)/\∀i m σ H,W i m σ H ->
   ((Itr lo n).stop i H/\D.nx σ H)\/((Itr lo n).go i H/\∃N:St->Hp->Prop,(∀σ' H',N σ' H'->∃m',m' < m/\W (i+1) m' σ' H')/\∀x H',(Itr lo n).yld i H x H'->g x σ H' λ σ2 H2=>tb { D with nx:=N,ct:=N,bk:=D.nx } σ2 H2):=by
 show%[λ i m σ H=>m=n - i/\i<=n/\Pv i σ H,%[n,by simp,F1 _|h0]|?_];rintro i m σ H ⟨rfl,hi,p⟩
 by_cases hlt:i < n
 ·show .inr %[hlt,Pv (i+1),λ σ' H' p'=>%[n - (i+1),⋯,U,hlt|p']|λ x H' y=>?_];obtain⟨e,y⟩:=y;subst e y;exact hs i σ _ hlt p
 ·have e:i=n:=⋯
  subst e;exact .inl %[B4 _|hd σ H p]
abbrev R2:=V->V->Hp->VK->Prop
def OpR(X:Cx)(f:G3->G3->Sem G3)(r:R2):Prop :=
 ∀(Nq:P6)(s:F9)(σ:St)(H:Hp)(x y:V)(v u:G3)(Q:VK),Inv X Nq σ H s->RelV x v->RelV y u->r x y H Q ->
  wpAny (model X.prog X.w) X.A (f v u) (EP X Nq σ Q) X.xe s
def bS(X:Cx)(f:G3)(r:No V->Hp->VK->Prop):Prop :=
 ∀(Nq:P6)(s:F9)(σ:St)(H:Hp)(xs:No V)(us:No G3)(Q:VK),Inv X Nq σ H s->Vals xs us->r xs H Q ->
  wpAny (model X.prog X.w) X.A (call f us) (EP X Nq σ Q) X.xe s
def tOp(r:R2)(ta tb:TE):TE:=λ σ H Q=>ta σ H λ x H1=>tb σ H1 λ y H2=>r x y H2 Q
inductive rI(C:Int->Int->Prop)(g:Int->Int->V)(x:V)(y:V)(H:Hp)(Q:VK):Prop
|mk(i j:Int)(_:x=.int i)(_:y=.int j)(_:C i j)(_:Q (g i j) H)
inductive rI0(g:Int->Int->V)(x:V)(y:V)(H:Hp)(Q:VK):Prop
|mk(i j:Int)(_:x=.int i)(_:y=.int j)(_:Q (g i j) H)
section
variable{X:Cx}{a b c:Expr}{ta tb tc:TE}{pos:Pos}
theorem Ar(ha:PE X a ta)(hb:PE X b tb){Nq:P6}{s:F9}{σ:St}{H:Hp}{R:V->V->Hp->Prop}(I:Inv X Nq σ H s)
  (h:ta σ H λ x H1=>tb σ H1 λ y H2=>R x y H2) {Q:G3->F9->Prop} {f:G3->G3->Sem G3}
  (hf:∀v u s2 x y H2,Inv X Nq σ H2 s2->RelV x v->RelV y u->R x y H2->wpAny (model X.prog X.w) X.A (f v u) Q X.xe s2) :
  wpAny (model X.prog X.w) X.A (eval a X.env) (λ v s₁=>wpAny (model X.prog X.w) X.A (eval b X.env) (λ u s₂=>wpAny (model X.prog X.w) X.A (f v u) Q X.xe s₂) X.xe s₁) X.xe s:=by
 show thn (ha Nq s σ H _ I h) ?_;rintro v s1 ⟨x,H1,I1,r1,q1⟩;show thn (hb Nq s1 σ H1 _ I1 q1) ?_;rintro u s2 ⟨y,H2,I2,r2,q2⟩;exact hf v u s2 x y H2 I2 r1 r2 q2
theorem aH{op:Operator}{r:R2}(ho:OpR X (binaryOp op) r)(ha:PE X a ta)(hb:PE X b tb):PE X (.BinOp a op b pos) (tOp r ta tb):=by intro Nq s σ H Q I h;exact wpAny_BinOp (Ar ha hb I h λ v u s2 x y H2 I2 rx ry q=>ho Nq s2 σ H2 x y v u Q I2 rx ry q)
theorem opI{f:G3->G3->Sem G3}{C:Int->Int->Prop}{g:Int->Int->Int}
  (rule:∀(i j:Int)(t u:Tok)(s:F9)(Q E:G3->F9->Prop),C i j->Q (.int (g i j) s.toks) { s with toks:=s.toks+1 }->wpAny (model X.prog X.w) X.A (f (.int i t) (.int j u)) Q E s) :
  OpR X f (rI C λ i j=>.int (g i j)):=by
 intro Nq s σ H x y v u Q I rx ry h;obtain⟨i,j,rfl,rfl,hc,q⟩:=h;obtain⟨t,rfl⟩:=rx;obtain⟨t',rfl⟩:=ry;exact rule i j t t' s _ _ hc %[.int (g i j),H,I.tok _,%[_|rfl]|q]
theorem BF{f:G3->G3->Sem G3}{g:Int->Int->Int}
  (rule:∀(i j:Int)(t u:Tok)(s:F9)(Q E:G3->F9->Prop),Q (.int (g i j) s.toks) { s with toks:=s.toks+1 }->wpAny (model X.prog X.w) X.A (f (.int i t) (.int j u)) Q E s) :
  OpR X f (rI0 λ i j=>.int (g i j)):=by
 intro Nq s σ H x y v u Q I rx ry h;obtain⟨i,j,rfl,rfl,q⟩:=h;obtain⟨t,rfl⟩:=rx;obtain⟨t',rfl⟩:=ry;exact rule i j t t' s _ _ %[.int (g i j),H,I.tok _,%[_|rfl]|q]
theorem yt{f:G3->G3->Sem G3}{g:Int->Int->Bool}
  (rule:∀(i j:Int)(t u:Tok)(s:F9)(Q E:G3->F9->Prop),Q (.bool (g i j)) s->wpAny (model X.prog X.w) X.A (f (.int i t) (.int j u)) Q E s) :
  OpR X f (rI0 λ i j=>.bl (g i j)):=by
 intro Nq s σ H x y v u Q I rx ry h;obtain⟨i,j,rfl,rfl,q⟩:=h;obtain⟨t,rfl⟩:=rx;obtain⟨t',rfl⟩:=ry;exact rule i j t t' s _ _ %[.bl (g i j),H,I,rfl|q]
def Js(i j:Int):Prop:=0 < j/\j < 1073741824
def Jt(i j:Int):Prop:=0<=j/\j<=1000000/\i.natAbs < 2 ^ 64
def CMul(i j:Int):Prop:=(-(2 ^ 64) < i/\i < 2 ^ 64)\/(-(2 ^ 64) < j/\j < 2 ^ 64)
theorem CMul.ok{i j:Int}(h:CMul i j):IntMulOk i j:=by
 rcases h with⟨h1,h2⟩ | ⟨h1,h2⟩
 ·exact .of_left (intBits_le_64 h1 h2)
 ·exact .of_right (intBits_le_64 h1 h2)
theorem be:OpR X (binaryOp .Add) (rI0 λ i j=>.int (i+j)):=BF λ _ _ _ _ _ _ _ q=>add_int q
theorem bU:OpR X (binaryOp .Sub) (rI0 λ i j=>.int (i - j)):=BF λ _ _ _ _ _ _ _ q=>sub_int q
theorem vA:OpR X (binaryOp .Mult) (rI CMul λ i j=>.int (i * j)):=opI λ _ _ _ _ _ _ _ hc q=>mul_int q hc.ok
theorem mB:OpR X (binaryOp .Mod) (rI (λ _ j=>0 < j) λ i j=>.int (i % j)):=opI λ i j _ _ _ _ _ hc q=>by have h1:(0:Int) < j:=hc;exact mod_int' ⋯ (by rw[Int.fmod_eq_emod_of_nonneg i ⋯];exact q)
theorem pE:OpR X (binaryOp .Pow) (rI Jt λ i j=>.int (i ^ j.toNat)):=opI λ _ _ _ _ _ _ _ hc q=>pow_int_small hc.1 hc.2.1 hc.2.2 q
inductive rz_op_add_ib(x:V)(y:V)(H:Hp)(Q:VK):Prop
|mk(i k:_)(_:x=.int i)(_:y=.bl k)(_:Q (.int (i+b2i k)) H)
end
def BG:V->V->Bool
 | .non,.non=>true | .non,.int _=>true | .int _,.non=>true | .non,.bl _=>true | .bl _,.non=>true | .non,.str _=>true | .str _,.non=>true
 | .int _,.int _=>true | .bl _,.bl _=>true | .str _,.str _=>true | .byt _,.byt _=>true
 | .int _,.str _=>true | .str _,.int _=>true | .bl _,.str _=>true | .str _,.bl _=>true
 | _,_=>false
def rEq:R2:=λ x y H Q=>BG x y=true/\Q (.bl (decide (x=y))) H
def rNe:R2:=λ x y H Q=>BG x y=true/\Q (.bl (!decide (x=y))) H
theorem mC{i j:Int}:decide (V.int i=V.int j)=(i == j):=by rw[ND];simp
theorem vB{i j:Bool}:decide (V.bl i=V.bl j)=(i == j):=by rw[ND];simp
theorem qJ{i j:Str}:decide (V.str i=V.str j)=(i == j):=by rw[ND];simp
theorem qK{i j:Nn UInt8}:decide (V.byt i=V.byt j)=(i.toList == j.toList):=by rw[ND];cases i;cases j;simp
section
variable{X:Cx}{a b c:Expr}{ta tb tc:TE}{pos:Pos}
theorem aS{Nq:P6}{σ:St}{H:Hp}{s:F9}{Q:VK}{k k':Bool}(I:Inv X Nq σ H s)(q:Q (.bl k) H)(e:k=k'):EP X Nq σ Q (.bool k') s:=by subst e;exact%[.bl k,H,I,U|q]
theorem dj:OpR X (compareOp .Eq) rEq:=by
 intro Nq s σ H x y v u Q I rx ry h;obtain⟨hs,q⟩:=h;cases x with
 | non=>
  cases rx;cases y with
  | non=>cases ry;exact PySem.EqNone.eq_none_none (aS I q (by simp))
  | bl j=>cases ry;exact PySem.EqNone.eq_none_bool (aS I q (by simp))
  | int j=>obtain⟨t',rfl⟩:=ry;exact PySem.EqNone.eq_none_int (aS I q (by simp))
  | str j=>obtain⟨t',rfl⟩:=ry;exact PySem.EqNone.eq_none_str (aS I q (by simp))
  | _=>exact absurd (show false=true from hs) B3
 | bl i=>
  cases rx;cases y with
  | non=>cases ry;exact PySem.EqNone.eq_bool_none (aS I q (by simp))
  | bl j=>cases ry;exact eq_bool (aS I q vB)
  | str j=>obtain⟨t',rfl⟩:=ry;exact PySem.EqMixed.eq_bool_str (aS I q (by simp))
  | _=>exact absurd (show false=true from hs) B3
 | int i=>
  obtain⟨t,rfl⟩:=rx;cases y with
  | non=>cases ry;exact PySem.EqNone.eq_int_none (aS I q (by simp))
  | int j=>obtain⟨t',rfl⟩:=ry;exact eq_int (aS I q mC)
  | str j=>obtain⟨t',rfl⟩:=ry;exact PySem.EqMixed.eq_int_str (aS I q (by simp))
  | _=>exact absurd (show false=true from hs) B3
 | str i=>
  obtain⟨t,rfl⟩:=rx;cases y with
  | non=>cases ry;exact PySem.EqNone.eq_str_none (aS I q (by simp))
  | bl j=>cases ry;exact PySem.EqMixed.eq_str_bool (aS I q (by simp))
  | int j=>obtain⟨t',rfl⟩:=ry;exact PySem.EqMixed.eq_str_int (aS I q (by simp))
  | str j=>obtain⟨t',rfl⟩:=ry;exact eq_str (aS I q qJ)
  | _=>exact absurd (show false=true from hs) B3
 | byt i=>
  obtain⟨t,rfl⟩:=rx;cases y with
  | byt j=>obtain⟨t',rfl⟩:=ry;exact PySem.W.eq_bytes (aS I q qK)
  | _=>exact absurd (show false=true from hs) B3
 | _=>cases y <;> exact absurd (show false=true from hs) B3
theorem fW:OpR X (compareOp .NotEq) rNe:=by
 intro Nq s σ H x y v u Q I rx ry h;obtain⟨hs,q⟩:=h;cases x with
 | non=>
  cases rx;cases y with
  | non=>cases ry;exact PySem.EqNone.ne_none_none (aS I q (by simp))
  | bl j=>cases ry;exact PySem.EqNone.ne_none_bool (aS I q (by simp))
  | int j=>obtain⟨t',rfl⟩:=ry;exact PySem.EqNone.ne_none_int (aS I q (by simp))
  | str j=>obtain⟨t',rfl⟩:=ry;exact PySem.EqNone.ne_none_str (aS I q (by simp))
  | _=>exact absurd (show false=true from hs) B3
 | bl i=>
  cases rx;cases y with
  | non=>cases ry;exact PySem.EqNone.ne_bool_none (aS I q (by simp))
  | bl j=>cases ry;exact ne_bool (aS I q (OD not vB))
  | str j=>obtain⟨t',rfl⟩:=ry;exact PySem.EqMixed.ne_bool_str (aS I q (by simp))
  | _=>exact absurd (show false=true from hs) B3
 | int i=>
  obtain⟨t,rfl⟩:=rx;cases y with
  | non=>cases ry;exact PySem.EqNone.ne_int_none (aS I q (by simp))
  | int j=>obtain⟨t',rfl⟩:=ry;exact ne_int (aS I q (OD not mC))
  | str j=>obtain⟨t',rfl⟩:=ry;exact PySem.EqMixed.ne_int_str (aS I q (by simp))
  | _=>exact absurd (show false=true from hs) B3
 | str i=>
  obtain⟨t,rfl⟩:=rx;cases y with
  | non=>cases ry;exact PySem.EqNone.ne_str_none (aS I q (by simp))
  | bl j=>cases ry;exact PySem.EqMixed.ne_str_bool (aS I q (by simp))
  | int j=>obtain⟨t',rfl⟩:=ry;exact PySem.EqMixed.ne_str_int (aS I q (by simp))
  | str j=>obtain⟨t',rfl⟩:=ry;exact ne_str (aS I q (OD not qJ))
  | _=>exact absurd (show false=true from hs) B3
 | byt i=>
  obtain⟨t,rfl⟩:=rx;cases y with
  | byt j=>obtain⟨t',rfl⟩:=ry;exact PySem.W.ne_bytes (aS I q (OD not qK))
  | _=>exact absurd (show false=true from hs) B3
 | _=>cases y <;> exact absurd (show false=true from hs) B3
theorem nA:OpR X (compareOp .Lt) (rI0 λ i j=>.bl (decide (i < j))):=yt λ _ _ _ _ _ _ _ q=>lt_int q
theorem jG:OpR X (compareOp .LtE) (rI0 λ i j=>.bl (decide (i<=j))):=yt λ _ _ _ _ _ _ _ q=>le_int q
theorem gH:OpR X (compareOp .Gt) (rI0 λ i j=>.bl (decide (j < i))):=yt λ _ _ _ _ _ _ _ q=>gt_int q
theorem nC:OpR X (compareOp .GtE) (rI0 λ i j=>.bl (decide (j<=i))):=yt λ _ _ _ _ _ _ _ q=>ge_int q
inductive rz_op_lt_str(x:V)(y:V)(H:Hp)(Q:VK):Prop
|mk(i j:_)(_:x=.str i)(_:y=.str j)(_:Q (.bl (decide (i.cps.toList < j.cps.toList))) H)
inductive rz_op_in_str(x:V)(y:V)(H:Hp)(Q:VK):Prop
|mk(i j:_)(_:x=.str i)(_:y=.str j)(_:Q (.bl (!(Builtin.Str.occurrences j i 0 j.length 1).isEmpty)) H)
theorem pF:OpR X (compareOp .Is) (λ x y H Q=>y=.non/\Q (.bl (decide (x=.non))) H):=by
 intro Nq s σ H x y v u Q I rx ry h;obtain⟨rfl,q⟩:=h;cases ry;show is_none_gen (aS I q ?_);cases x <;> first
  | (cases rx;rfl)
  | (obtain⟨t,rfl⟩:=rx;rfl)
inductive rz_op_notin_str(x:V)(y:V)(H:Hp)(Q:VK):Prop
|mk(i j:_)(_:x=.str i)(_:y=.str j)(_:Q (.bl (!(!(Builtin.Str.occurrences j i 0 j.length 1).isEmpty))) H)
def qL:HO->Bool
 | .lst _=>true
 | .ins _ _ _=>true
 | _=>false
inductive rz_op_is_ref(x:V)(y:V)(H:Hp)(Q:VK):Prop
|mk(a b oa ob:_)(_:x=.ref a)(_:y=.ref b)(_:H a=some oa)(_:qL oa=true)(_:H b=some ob)(_:qL ob=true)(_:Q (.bl (decide (a=b))) H)
inductive rz_op_isnot_ref(x:V)(y:V)(H:Hp)(Q:VK):Prop
|mk(a b oa ob:_)(_:x=.ref a)(_:y=.ref b)(_:H a=some oa)(_:qL oa=true)(_:H b=some ob)(_:qL ob=true)(_:Q (.bl (!decide (a=b))) H)
theorem ax(b:Expr){op:CmpOp}(h:op≠.In:=by decide)(h2:op≠.NotIn:=by decide):behindInMarks op b=false:=by
 have e1:(op == CmpOp.In)=false:=by cases op <;> first | rfl | exact absurd rfl h
 have e2:(op == CmpOp.NotIn)=false:=by cases op <;> first | rfl | exact absurd rfl h2
 cases b <;> simp[behindInMarks,e1,e2]
theorem bd{op:CmpOp}{r:R2}(ho:OpR X (compareOp op) r)(ha:PE X a ta)(hb:PE X b tb)(hm:behindInMarks op b=false):PE X (.Compare a [op] [b] pos) (tOp r ta tb):=by intro Nq s σ H Q I h;exact wpAny_Compare1 (Ar ha hb I h λ v u s2 x y H2 I2 rx ry q=>ho Nq s2 σ H2 x y v u Q I2 rx ry q) hm
def zP(t:TE):TT:=λ σ H Q=>t σ H λ x H'=>IsB x λ k=>Q k H'
theorem aA{op:CmpOp}{r:R2}(ho:OpR X (compareOp op) r)(ha:PE X a ta)(hb:PE X b tb)(hm:behindInMarks op b=false):PT X (.Compare a [op] [b] pos) (zP (tOp r ta tb)):=by
 intro Nq s σ H Q I h;show wpAny_isTrue_Compare1 (thn (ha Nq s σ H _ I h) λ v s1 %[x,H1,I1,r1|q1]=>thn (hb Nq s1 σ H1 _ I1 q1) λ u s2 %[y,H2,I2,r2|q2]=>
  thn (ho Nq s2 σ H2 x y v u _ I2 r1 r2 q2) λ c s3 %[z,H3,I3,r3,k,e|q3]=>?_) hm
 subst e;cases r3;exact F5 %[H3,I3|q3]
def As(r r':R2)(ta tb tc:TE):TE:=λ σ H Q=>ta σ H λ x H1=>tb σ H1 λ y H2=>r x y H2 λ z H3=>∃k,z=.bl k /\
 (if k=true then tc σ H3 λ w' H4=>r' y w' H4 Q else Q (.bl false) H3)
theorem vC{op op':CmpOp}{r r':R2}(ho:OpR X (compareOp op) r)(ho':OpR X (compareOp op') r')(ha:PE X a ta)(hb:PE X b tb)(hc:PE X c tc)
  (hm:lastMarks [op,op'] [b,c]=false:=by with_unfolding_all rfl):PT X (.Compare a [op,op'] [b,c] pos) (zP (As r r' ta tb tc)):=by
 intro Nq s σ H Q I h;show isTrue_chain (thn (ha Nq s σ H _ I h) λ v s1 %[x,H1,I1,r1|q1]=>test_link (thn (hb Nq s1 σ H1 _ I1 q1) λ u s2 %[y,H2,I2,r2|q2]=>
  thn (ho Nq s2 σ H2 x y v u _ I2 r1 r2 q2) λ d s3 %[z,H3,I3,r3,k,e|q3]=>?_)) hm
 subst e;cases r3;show F5 ?_;cases k with
 | false=>
  obtain⟨k',e',q'⟩:=q3;cases e';exact ite_ff %[H3,I3|q']
 | true=>
  show ite_tt (test_last (thn (hc Nq s3 σ H3 _ I3 q3) ?_));rintro w' s4 ⟨z',H4,I4,r4,q4⟩;show thn (ho' Nq s4 σ H4 y z' u w' _ I4 r2 r4 q4) ?_;rintro d' s5 ⟨z2,H5,I5,r5,k2,e2,q5⟩;subst e2;cases r5;exact F5 %[H5,I5|q5]
theorem mD:(sizeLine:Nat) < 2 ^ 63:=by rw[Ot];decide
inductive rz_op_add_str(x:V)(y:V)(H:Hp)(Q:VK):Prop
|mk(i j:_)(_:x=.str i)(_:y=.str j)(_:i.length+j.length<=sizeLine)(_:Q (.str (i ++ j)) H)
inductive rz_iop_add_str(x:V)(y:V)(H:Hp)(Q:VK):Prop
|mk(i j:_)(_:x=.str i)(_:y=.str j)(_:i.length+j.length<=sizeLine)(_:Q (.str (i ++ j)) H)
inductive rz_op_add_byt(x:V)(y:V)(H:Hp)(Q:VK):Prop
|mk(i j:_)(_:x=.byt i)(_:y=.byt j)(_:i.size+j.size<=16777216)(_:Q (.byt (i ++ j)) H)
theorem dk{x:V}{us:No G3}(r:Vals [x] us):∃u,us=[u]/\RelV x u:=by
 cases r with
 | cons r1 r2=>cases r2;exact%[_,U|r1]
theorem vD{x y:V}{us:No G3}(r:Vals [x,y] us):∃u w',us=[u,w']/\RelV x u/\RelV y w':=by
 cases r with
 | cons r1 r2=>
  cases r2 with
  | cons r3 r4=>cases r4;exact%[_,_,U,r1|r3]
inductive rz_call_abs(xs:No V)(H:Hp)(Q:VK):Prop
|mk(i:_)(_:xs=[.int i])(_:Q (.int (if i < 0 then -i else i)) H)
theorem nD:bS X (.builtin "abs") (rz_call_abs):=by intro Nq s σ H xs us Q I r h;obtain⟨i,rfl,q⟩:=h;obtain⟨u,rfl,t,rfl⟩:=dk r;exact call_abs_int λ u tk=>%[.int (if i < 0 then -i else i),H,I.tok _,%[_|U]|q]
inductive rz_call_max2(xs:No V)(H:Hp)(Q:VK):Prop
|mk(i j:_)(_:xs=[.int i,.int j])(_:Q (.int (if j > i then j else i)) H)
theorem iA(hc:X.calm=true):bS X (.builtin "max") (rz_call_max2):=by
 intro Nq s σ H xs us Q I r h;obtain⟨i,j,rfl,q⟩:=h;obtain⟨u,w',rfl,⟨t,rfl⟩,⟨t',rfl⟩⟩:=vD r;show max_two_ints (I.ok.hd hc) λ h' tk k=>%[_,H,I.kept k,?_|q]
 by_cases hj:j > i
 ·rw[Nw hj,Nw hj];exact%[_|U]
 ·rw[Nv hj,Nv hj];exact%[_|U]
inductive rz_call_min2(xs:No V)(H:Hp)(Q:VK):Prop
|mk(i j:_)(_:xs=[.int i,.int j])(_:Q (.int (if j < i then j else i)) H)
theorem dg(hc:X.calm=true):bS X (.builtin "min") (rz_call_min2):=by
 intro Nq s σ H xs us Q I r h;obtain⟨i,j,rfl,q⟩:=h;obtain⟨u,w',rfl,⟨t,rfl⟩,⟨t',rfl⟩⟩:=vD r;show min_two_ints (I.ok.hd hc) λ h' tk k=>%[_,H,I.kept k,?_|q]
 by_cases hj:j < i
 ·rw[Nw hj,Nw hj];exact%[_|U]
 ·rw[Nv hj,Nv hj];exact%[_|U]
theorem lj:bS X (.type "int") (λ xs H Q=>(∃i,xs=[.int i]/\Q (.int i) H)\/∃k,xs=[.bl k]/\Q (.int (if k then 1 else 0)) H):=by
 intro Nq s σ H xs us Q I r h;rcases h with⟨i,rfl,q⟩ | ⟨k,rfl,q⟩
 ·obtain⟨u,rfl,t,rfl⟩:=dk r;exact call_int_int %[.int i,H,I,%[_|rfl]|q]
 ·obtain⟨u,rfl,r1⟩:=dk r;cases r1;exact call_int_bool %[.int (if k then 1 else 0),H,I.tok _,%[_|rfl]|q]
inductive rz_call_str_int(xs:No V)(H:Hp)(Q:VK):Prop
|mk(i:_)(_:xs=[.int i])(_:i.natAbs.log2 < 1920)(_:Q (.str (toString i)) H)
inductive rz_call_ord(xs:No V)(H:Hp)(Q:VK):Prop
|mk(x:_)(_:xs=[.str x])(_:x.length=1)(_:Q (.int (x.cps.getD 0 0:Nat)) H)
inductive rz_call_chr(xs:No V)(H:Hp)(Q:VK):Prop
|mk(i:_)(_:xs=[.int i])(_:0<=i)(_:i<=1114111)(_:Q (.str ⟨#[i.toNat]⟩) H)
def Ju(K:C6)(x:V)(H:Hp)(n:Nat):Prop :=
 match x with
 | .str y=>y.length<=sizeLine/\n=y.length
 | .byt y=>y.size<=sizeLine/\n=y.size
 | .ref p=>(∃xs,SqL K H p xs/\n=xs.length)\/∃xs,SqT K H p xs/\n=xs.length
 | _=>False
inductive rz_call_len(K:C6)(xs:No V)(H:Hp)(Q:VK):Prop
|mk(x n:_)(_:xs=[x])(_:Ju K x H n)(_:Q (.int n) H)
inductive rz_call_divmod(xs:No V)(H:Hp)(Q:VK):Prop
|mk(i j:_)(_:xs=[.int i,.int j])(_:Js i j)(_:∀p,H p=none->Q (.ref p) (upd H p (.tup [.int (i / j),.int (i % j)])))
end
structure ObjM(h:Heap)(x dx C:Nj)(mA:Str->Nm Value):Prop where
 obj:h.get? x=some (PySem.W.instObj C dx)
 ns:h.Ns1 dx mA
 ne:dx≠x
theorem sG{h:Heap}{dx:Nj}{mA:Str->Nm G3}(n:h.Ns1 dx mA):∃od,h.get? dx=some od/\∀name,PySem.W.lookIn name od=some (mA name):=by
 obtain⟨o,es,ep,ho,hd,hk,_,hm⟩:=n;show%[o,ho|λ name=>?_];have e:=hm name;unfold nsFind findBy at e;rw[<- Array.find?_toList]at e;unfold PySem.W.lookIn;rw[hd];dsimp only
 split
 ·rename_i y q
  rw[q]at e;exact OD some e
 ·rename_i q
  rw[q]at e;have a:es.toList.any (·.refKey)=false:=by rw[List.any_eq_false];intro y hy;obtain⟨z,t,hkey⟩:=hk y (Array.mem_toList_iff.mp hy);simp[DictEntry.refKey,hkey]
  have a':¬ es.toList.any (·.refKey)=true:=by rw[a];exact B3
  rw[Nv a'];exact OD some e
theorem ObjM.look{h:Heap}{x dx C:Nj}{mA:Str->Nm G3}(I:ObjM h x dx C mA):∃od,PySem.W.InstAt h x (PySem.W.instObj C dx) C (some od)/\∀name,PySem.W.lookIn name od=some (mA name) :=
 let ⟨od,ho,hl⟩:=sG I.ns
 %[od,%[I.obj,rfl,rfl|ho]|hl]
section
variable{prog:G0}{w:G2}{A:Around}{E:G3->F9->Prop}{s:F9}{K:C6}{x dx C f:Nj}{mA:Str->Nm G3}{name:Str}{v:G3}
theorem yu{expr:Bool}{Q:G3->F9->Prop}(X:K.In s.heap)(I:ObjM s.heap x dx C mA)(hg:PySem.W.plainGet K C name=true)(hh:PySem.W.hasDictIn K C=true)
  (ha:PySem.W.findIn K (.ref C) name=some none) (hv:mA name=some v) (hv':PySem.W.handedIn v=true) (h:Q v { s with toks:=s.toks+1 }) :
  wpAny (model prog w) A (getAttr (.ref x) name expr) Q E s:=by
 obtain⟨od,J,hl⟩:=I.look;exact PySem.W.get_value X J (PySem.W.plainGet_of hg).1 (PySem.W.findObj_own hh ha rfl (by rw[hl,hv])) hv' h
theorem vE{pl:Sem Bool}{Q:G3×No G3->F9->Prop}(X:K.In s.heap)(I:ObjM s.heap x dx C mA)(hg:PySem.W.plainGet K C name=true)
  (hf:PySem.W.findIn K (.ref C) name=some (↑f)) (ht:PySem.W.isFn K (.ref f)=true) (hv:mA name=none) (h:Q (.ref f,[.ref x]) s) :
  wpAny (model prog w) A (getMethod (.ref x) name pl) Q E s:=by
 obtain⟨od,J,hl⟩:=I.look;exact PySem.W.method_fn X J (PySem.W.plainGet_of hg).1 (PySem.W.plainGet_of hg).2 hf (C5.mp ht) (by change(PySem.W.lookIn name od).map (·.isSome)=some false;rw[hl,hv];rfl) h
theorem yv{ns:No Str}{Q:Unit->F9->Prop}(X:K.In s.heap)(I:ObjM s.heap x dx C mA)
  (hs:PySem.W.findIn K (.ref C) "__setattr__" = some (some (.builtin "object.__setattr__"))) (hp:PySem.W.plainOver K C=true) (ht:PySem.W.takerIn K C name=some none) (hh:PySem.W.hasDictIn K C=true)
  (hw:PySem.Within mA ns) (hsz:ns.length<=sizeLine)
  (h:∀h',ObjM h' x dx C (λ y=>if y=name then some v else mA y)->Heap.SameBut dx s.heap h'->Q () { s with heap:=h',toks:=s.toks+2 }) :
  wpAny (model prog w) A (setAttr (.ref x) name v) Q E s:=by
 obtain⟨od,J,hl⟩:=I.look;show PySem.W.set_plain X J hs (PySem.W.osa_open (s:={ s with toks:=s.toks+1 }) (r:=none) X J hp ht λ b=>?_);obtain⟨cd,hc,hd'⟩:=PySem.W.any_some hh;have hx:s.heap.get? x=some %[.ref C,some dx,.plain|#[]]:=I.obj;show A0 (A3 (A0 (A0 (wpAny_loadPart hx (A0 (PySem.W.Looks.here (s:={ s with toks:=s.toks+1 }) (PySem.W.looks_clsIn X hc) ?_))))));rw[hd'];show A3 (a:=some dx) (A0 (A3 (A0 ?_)));show wpAny_nsSet1 (s:={ s with toks:=s.toks+1 }) I.ns λ h' hn2 hs2=>?_;obtain⟨oD,esD,epD,hoD,hdD,hcD⟩:=hn2.count (PySem.Within.cons name v hw);show A0 (wpAny_lookBehind hoD (by rw[hdD];exact pastItsLine_dict (C7 hcD (by rw[List.length_cons];lia))) ?_);exact A3 (h _ %[(hs2.2 _ (Ne.symm I.ne)).trans I.obj,hn2|I.ne] hs2)
theorem vF{R:Result->F9->Prop}{vs:No G3}{kw:No (Str×G3)}(X:K.In s.heap)(hm:PySem.W.makesIn K C=true)
  (hi:PySem.W.findIn K (.ref C) "__init__" = some (↑f)) (hf:PySem.W.typeIn K (.ref f)=some (.type "function"))
  (h:codeAny (model prog w) (A.under (.builtin "type.__call__" %[.ref C :: vs|kw])) (.call (.ref f) %[.ref (s.heap.objs.size+1) :: vs|kw]) (PySem.W.InitBack (s.heap.objs.size+1) R)
   { s with heap:=(s.heap.push PySem.W.emptyDict).push (PySem.W.instObj C s.heap.objs.size) }) :
  codeAny (model prog w) A (.call (.ref C) %[vs|kw]) R s:=by
 obtain⟨hh,g,d,t,os⟩:=s;exact PySem.W.make_core (PySem.W.makes_of X hm) (PySem.W.looks_findIn X hi) (λ self=>PySem.W.bind_fn X self hf) (.inl rfl) h
end
def dB(f:Str)(v:V):No (Str×V)->No (Str×V)
 | []=>[(f,v)]
 | (g,x) :: r=>if g=f then(g,v) :: r else(g,x) :: dB f v r
theorem bP(f g:Str)(v:V):∀fs:No (Str×V),(dB f v fs).lookup g=if g=f then some v else fs.lookup g
 | []=>by
  change List.lookup g [(f,v)]=_
  by_cases h:g=f
  ·have hb:(g == f)=true:=C5.mpr h;simp only[List.lookup,hb,Nw h]
  ·have hb:(g == f)=false:=OO.mpr h;simp only[List.lookup,hb,Nv h]
 | (k,x) :: r=>by
  have ih:=bP f g v r;rw[show dB f v ((k,x) :: r)=(if k=f then(k,v) :: r else(k,x) :: dB f v r)from rfl]
  by_cases hk:k=f
  ·rw[Nw hk]
   by_cases h:g=k
   ·have hb:(g == k)=true:=C5.mpr h;simp only[List.lookup,hb,Nw (h.trans hk)]
   ·have hb:(g == k)=false:=OO.mpr h;simp only[List.lookup,hb,Nv (λ e:g=f=>h (e.trans hk.symm))]
  ·rw[Nv hk]
   by_cases h:g=k
   ·have hb:(g == k)=true:=C5.mpr h;simp only[List.lookup,hb,Nv (λ e:g=f=>hk (h.symm.trans e))]
   ·have hb:(g == k)=false:=OO.mpr h;simp only[List.lookup,hb];exact ih
theorem iB(f:Str)(v:V):∀fs:No (Str×V),f∈(dB f v fs).map (·.1)/\∀g,g∈fs.map (·.1)->g∈(dB f v fs).map (·.1)
 | []=>%[by simp[dB]|λ g h=>by simp at h]
 | (k,x) :: r=>by
  obtain⟨i1,i2⟩:=iB f v r;rw[show dB f v ((k,x) :: r)=(if k=f then(k,v) :: r else(k,x) :: dB f v r)from rfl]
  by_cases hk:k=f
  ·rw[Nw hk];subst hk;exact%[by simp|λ g h=>by simpa using h]
  ·rw[Nv hk];show%[?_|λ g h=>?_]
   ·rw[J6];exact B6 _ i1
   ·rw[J6]at h ⊢;rcases J3.mp h with e | e
    ·exact J3.mpr (.inl e)
    ·exact B6 _ (i2 g e)
theorem eX(f:Str)(v:V):∀fs:No (Str×V),(dB f v fs).length<=fs.length+1
 | []=>by simp[dB]
 | (k,x) :: r=>by
  have ih:=eX f v r;rw[show dB f v ((k,x) :: r)=(if k=f then(k,v) :: r else(k,x) :: dB f v r)from rfl]
  by_cases hk:k=f
  ·rw[Nw hk,K3,K3];lia
  ·rw[Nv hk,K3,K3];lia
theorem RelO.some_of{v:V}{o:Nm G3}(r:RelO (some v) o):∃u,o=some u/\RelV v u:=by
 cases o with
 | none=>exact(show False from r).elim
 | some u=>exact%[u,U|r]
theorem RelO.none_of{o:Nm G3}(r:RelO none o):o=none:=by
 cases o with
 | none=>rfl
 | some u=>exact(show False from r).elim
theorem sH{v:V}{u:G3}(r:RelV v u):PySem.W.handedIn u=true:=by
 cases v with
 | non=>cases(show u=Value.none from r);rfl
 | bl b=>cases(show u=Value.bool b from r);rfl
 | int i=>obtain⟨t,e⟩:=(show∃t,u=Value.int i t from r);cases e;rfl
 | str x=>obtain⟨t,e⟩:=(show∃t,u=Value.str x t from r);cases e;rfl
 | byt b=>obtain⟨t,e⟩:=(show∃t,u=Value.bytes b t from r);cases e;rfl
 | flt b=>obtain⟨t,e⟩:=(show∃t,u=Value.float b t from r);cases e;rfl
 | ref a=>cases(show u=Value.ref a from r);rfl
 | ty n=>cases(show u=Value.type n from r);rfl
section
variable{P:G0}{w:G2}{H H':Hp}{h h':Heap}{a C dx:Nj}{fs fs':No (Str×V)}
theorem gI(hok:HOk P w H h)(e:H a=some (.ins C dx fs)):∃mA,ObjM h a dx C mA/\(∀f,RelO (fs.lookup f) (mA f))/\PySem.Within mA (fs.map (·.1))/\fs.length<=1000/\H dx=some (.own a):=by
 obtain⟨d,z,ne,ob,mA,n,r,q⟩:=(show ObjOk P w H h a (.ins C dx fs)from hok a _ e)
 exact%[mA,%[ob,n|ne],r,q,z|d]
end
structure Cls(K:C6)(C:Nj):Prop where
 pg:PySem.W.plainGet K C Str.empty=true
 hd:PySem.W.hasDictIn K C=true
 po:PySem.W.plainOver K C=true
 sa:PySem.W.findIn K (.ref C) "__setattr__" = some (some (.builtin "object.__setattr__"))
theorem Cls.get{K:C6}{C:Nj}(c:Cls K C)(f:Str):PySem.W.plainGet K C f=true:=c.pg
def NoAttr(K:C6)(C:Nj)(f:Str):Prop:=PySem.W.findIn K (.ref C) f=some none
theorem NoAttr.taker{K:C6}{C:Nj}{f:Str}(n:NoAttr K C f):PySem.W.takerIn K C f=some none:=by
 unfold PySem.W.takerIn;rw[show PySem.W.findIn K (.ref C) f=some none from n]
 rfl
structure Con(K:C6)(C:Nj)(f:Str)(v:V)(u:Value):Prop where
 at_:PySem.W.findIn K (.ref C) f=some (some u)
 rel:RelV v u
 get:PySem.W.specialIn K u "__get__" = some none
 cp:PySem.W.copiedNames.contains f=false
structure Meth(K:C6)(C:Nj)(m:Str)(f:Nj):Prop where
 at_:PySem.W.findIn K (.ref C) m=some (↑f)
 fn:PySem.W.isFn K (.ref f)=true
 kp:PySem.W.keepIn K (.ref f)=true
section
variable{X:Cx}{Nq:P6}{σ:St}{H:Hp}{s:F9}{a C dx:Nj}{fs:No (Str×V)}{f:Str}{v:V}{A:Around}{E:G3->F9->Prop}
theorem pG{b:Bool}{Q:G3->F9->Prop}(I:Inv X Nq σ H s)(e:H a=some (.ins C dx fs))(c:Cls X.K C)(n:NoAttr X.K C f)(l:fs.lookup f=some v)
  (h:∀u s',Inv X Nq σ H s'->RelV v u->Q u s'):wpAny (model X.prog X.w) A (getAttr (.ref a) f b) Q E s:=by
 obtain⟨mA,O,r,_,_,_⟩:=gI I.hok e;obtain⟨u,hu,ru⟩:=RelO.some_of (v:=v) (o:=mA f) (by rw[<- l];exact r f);exact yu I.kIn O (c.get f) c.hd n hu (sH ru) (h u _ (I.tok _) ru)
theorem gg{m:Str}{g:Nj}{pl:Sem Bool}{Q:G3×No G3->F9->Prop}(I:Inv X Nq σ H s)(e:H a=some (.ins C dx fs))(c:Cls X.K C)(k:Meth X.K C m g)(l:fs.lookup m=none)
  (h:Q (.ref g,[.ref a]) s):wpAny (model X.prog X.w) A (getMethod (.ref a) m pl) Q E s:=by
 obtain⟨mA,O,r,_,_,_⟩:=gI I.hok e;have hn:mA m=none:=RelO.none_of (by rw[<- l];exact r m);exact vE I.kIn O (c.get m) k.at_ k.fn hn h
theorem pH{y:V}{u:G3}{Q:Unit->F9->Prop}(I:Inv X Nq σ H s)(e:H a=some (.ins C dx fs))(c:Cls X.K C)(n:NoAttr X.K C f)(hl:fs.length < 1000)(ry:RelV y u)
  (h:∀s',Inv X Nq σ (upd H a (.ins C dx (dB f y fs))) s'->Q () s'):wpAny (model X.prog X.w) A (setAttr (.ref a) f u) Q E s:=by
 obtain⟨mA,O,r,wi,_,ho⟩:=gI I.hok e;have hz:(fs.map (·.1)).length<=sizeLine:=by rw[B5,Ot];lia
 show yv I.kIn O c.sa c.po n.taker c.hd wi hz λ h' O' sb=>h _ ?_;have hd:∃o,h'.get? dx=some o:=let ⟨o,_,_,e',_⟩:=O'.ns;%[o|e']
 show I.write (x:=a) (e:=dx) (by rw[e];exact True.intro) (.inr ho) (λ b q hb z=>(sb.2 b hb).trans z) hd ?_;show%[by rw[ak O.ne];exact ho,?_,O.ne,O'.obj,_,O'.ns,λ g=>?_|λ g hg=>?_]
 ·have:=eX f y fs;lia
 ·change RelO ((dB f y fs).lookup g) (if g=f then some u else mA g);rw[bP]
  by_cases q:g=f
  ·rw[Nw q,Nw q];exact ry
  ·rw[Nv q,Nv q];exact r g
 ·by_cases q:g=f
  ·rw[q];exact(iB f y fs).1
  ·show(iB f y fs).2 g (wi g λ z=>hg ?_);change(if g=f then some u else mA g)=none;rw[Nv q];exact z
theorem Inv.made(I:Inv X Nq σ H s):Inv X Nq σ (upd (upd H s.heap.objs.size (.own (s.heap.objs.size+1))) (s.heap.objs.size+1) (.ins C s.heap.objs.size []))
  { s with heap:=(s.heap.push PySem.W.emptyDict).push (PySem.W.instObj C s.heap.objs.size) }:=by
 have e1:(s.heap.push PySem.W.emptyDict).get? s.heap.objs.size=some PySem.W.emptyDict:=A9 s.heap rfl;have e2:((s.heap.push PySem.W.emptyDict).push (PySem.W.instObj C s.heap.objs.size)).get? (s.heap.objs.size+1)=some (PySem.W.instObj C s.heap.objs.size):=by have:=A9 (s.heap.push PySem.W.emptyDict) (o:=PySem.W.instObj C s.heap.objs.size) rfl;rwa [N5]at this
 have e3:(s.heap.push PySem.W.emptyDict).Ns s.heap.objs.size (λ _=>none):=%[PySem.W.emptyDict,#[],_,e1,U,(λ e he=>absurd he (by simp))|λ _=>rfl]
 have I1:=I.laid (a:=s.heap.objs.size) (o:=.own (s.heap.objs.size+1)) (h':=s.heap.push PySem.W.emptyDict) (t':=s.toks) (λ b u q=>A8 _ q) (B4 _) %[_|e1];show I1.laid (a:=s.heap.objs.size+1) (o:=.ins C s.heap.objs.size []) (t':=s.toks) (λ b u q=>A8 _ q) (NK (N5 _ _)) ?_;have ne:s.heap.objs.size≠s.heap.objs.size+1:=C1 (F3 _);show%[by rw[ak ne,ai],F1 _,ne,e2,λ _=>none,(Heap.Ns1.of_empty e3).at λ o q=>A8 _ q,λ _=>True.intro|λ y hy=>absurd rfl hy]
theorem yx{prog:G0}{w:G2}{env:Env}{e:Expr}{f:Str}{pos:Pos}{s:F9}{Q:G3->F9->Prop}(hb:attributeBase e f env (eval e env)=eval e env)
  (h:wpAny (model prog w) A (eval e env) (λ o s₁=>wpAny (model prog w) A (getAttr o f true) Q E s₁) E s):wpAny (model prog w) A (eval (.Attribute e f pos) env) Q E s :=
 Attribute_any_ h (by rw[arm_eval_Attribute,hb])
end
def Jv(K:C6)(ta:TE)(f:Str):TE:=λ σ H Q=>ta σ H λ x H1=>∃a C dx fs v,x=.ref a/\H1 a=some (.ins C dx fs)/\Cls K C/\NoAttr K C f/\fs.lookup f=some v/\Q v H1
def BH(K:C6)(ta tv:TE)(f:Str):TS:=λ D σ H=>tv σ H λ y H1=>ta σ H1 λ x H2=>∃a C dx fs,x=.ref a/\H2 a=some (.ins C dx fs)/\Cls K C/\NoAttr K C f/\fs.length < 1000 /\
 D.nx σ (upd H2 a (.ins C dx (dB f y fs)))
section
variable{X:Cx}{o e value:Expr}{f:Str}{pos pos' tpos:Pos}{ta tv:TE}
theorem iC(he:PE X e ta)(hb:attributeBase e f X.env (eval e X.env)=eval e X.env):PE X (.Attribute e f pos) (Jv X.K ta f):=by intro Nq s σ H Q I h;show yx hb (thn (he Nq s σ H _ I h) ?_);rintro u s1 ⟨x,H1,I1,rx,a,C,dx,fs,v,ex,ea,c,n,l,q⟩;subst ex;obtain rfl:u=Value.ref a:=rx;exact pG I1 ea c n l λ u' s2 I2 ru=>%[v,H1,I2,ru|q]
theorem vG(ha:PE X o ta)(hv:PE X value tv)(hs:swapsWith value (some (.Attribute o f pos')) pos.line X.env=pure false):PS X (.Assign [.Attribute o f pos'] value pos) (BH X.K ta tv f):=by intro Nq s σ H D I h;show plainObj_wpAny_Assign_Attribute (thn (hv Nq s σ H _ I h) ?_) hs;rintro u s1 ⟨y,H1,I1,ry,q⟩;show thn (ha Nq s1 σ H1 _ I1 q) ?_;rintro ov s2 ⟨x,H2,I2,rx,a,C,dx,fs,ex,ea,c,n,l,q2⟩;subst ex;obtain rfl:ov=Value.ref a:=rx;exact pH I2 ea c n l ry λ s3 I3=>%[σ,_,I3|q2]
theorem zQ{pl:Sem Bool}{m:Str}{apos:Pos}{args:No Expr}{Nq:P6}{s:F9}{σ:St}{H:Hp}{Q:G3->F9->Prop}{te:TE}(he:PE X e te)(I:Inv X Nq σ H s)
  (h:te σ H λ x H1=>∃a C dx fs g,x=.ref a/\H1 a=some (.ins C dx fs)/\Cls X.K C/\Meth X.K C m g/\fs.lookup m=none /\
   ∀s1,Inv X Nq σ H1 s1->wpAny (model X.prog X.w) X.A (callWith pos (.ref g) [.ref a] (backTo pos (starEach args X.env)) (backToKw pos (keywordEach [] X.env))) Q X.xe s1)
  (ht:eval (.Call (.Attribute e m apos) args [] pos) X.env=(do
   let ov<-eval e X.env
   standAt apos.atName
   let (f,first)<-holding [ov] (getMethod ov m pl)
   callWith pos f first (backTo pos (starEach args X.env)) (backToKw pos (keywordEach [] X.env)))) :
  wpAny (model X.prog X.w) X.A (eval (.Call (.Attribute e m apos) args [] pos) X.env) Q X.xe s:=by
 show PySem.W.methodCall_KW (pl:=pl) (thn (he Nq s σ H _ I h) ?_) ht;rintro u s1 ⟨x,H1,I1,rx,a,C,dx,fs,g,ex,ea,c,k,l,q⟩;subst ex;obtain rfl:u=Value.ref a:=rx;exact gg I1 ea c k l (q s1 I1)
end
section
variable{X:Cx}{Nq:P6}{σ:St}{H:Hp}{s:F9}{A:Around}{E Q:G3->F9->Prop}{c:G3}{b:Bool}
inductive TyOf(K:C6)(H:Hp):V->Value->Prop where
 | non:TyOf K H .non (.type "NoneType")
 | bl (x:Bool):TyOf K H (.bl x) (.type "bool")
 | int (i:Int):TyOf K H (.int i) (.type "int")
 | str (x:Str):TyOf K H (.str x) (.type "str")
 | flt (x:UInt64):TyOf K H (.flt x) (.type "float")
 | lst {a:Nj} {xs:No V} (e:H a=↥xs):TyOf K H (.ref a) (.type "list")
 | frz {a:Nj} {o:Obj} {xs:No V} (e:H a=some (.frz o (.lst xs))):TyOf K H (.ref a) (.type "list")
 | tup {a:Nj} {xs:No V} (e:H a= ~~~xs):TyOf K H (.ref a) (.type "tuple")
 | dK {a:Nj} {kvs:No (Key×V)} (e:H a=some (.dK kvs)):TyOf K H (.ref a) (.type "dict")
 | dT {a:Nj} {kvs:No (No Key×V)} (e:H a=some (.dT kvs)):TyOf K H (.ref a) (.type "dict")
 | ext {a:Nj} {φ:Heap->Prop} (e:H a=some (.ext φ)) (c:∀h,φ h->∃o,h.get? a=some o/\o.cls=.type "dict"):TyOf K H (.ref a) (.type "dict")
 | ins {a C dx:Nj} {fs:No (Str×V)} (e:H a=some (.ins C dx fs)) (cl:Cls K C) (ha:PySem.W.findIn K (.ref C) "__class__" = some (some (.builtin "object.__class__")))
   (hn:PySem.W.specialIn K (.builtin "object.__class__") "__get__" = some (some (.builtin "getset_descriptor.__get__"))) (htk:PySem.W.takesIn K (.builtin "object.__class__")=some true)
   (hm:PySem.W.mroIn K C (.type "object")=some true):TyOf K H (.ref a) (.ref C)
theorem sI{x:V}{u t:G3}(I:Inv X Nq σ H s)(rx:RelV x u)(ty:TyOf X.K H x t)(e:PySem.W.kitOne X.K t c=some b)(h:∀tk,Q (.bool b) { s with toks:=tk }) :
  wpAny (model X.prog X.w) A (call (.builtin "isinstance") [u,c]) Q E s:=by
 cases ty with
 | non=>cases(show u=Value.none from rx);exact PySem.W.kia_one PySem.W.kitx_none I.kIn True.intro e (λ z=>nomatch z) h
 | bl y=>cases(show u=Value.bool y from rx);exact PySem.W.kia_one PySem.W.kitx_bool I.kIn True.intro e (λ z=>nomatch z) h
 | int i=>obtain⟨t,q⟩:=(show∃t,u=Value.int i t from rx);cases q;exact PySem.W.kia_one PySem.W.kitx_int I.kIn True.intro e (λ z=>nomatch z) h
 | str y=>obtain⟨t,q⟩:=(show∃t,u=Value.str y t from rx);cases q;exact PySem.W.kia_one PySem.W.kitx_str I.kIn True.intro e (λ z=>nomatch z) h
 | flt y=>obtain⟨t,q⟩:=(show∃t,u=Value.float y t from rx);cases q;exact PySem.W.kia_one PySem.W.kitx_float I.kIn True.intro e (λ z=>nomatch z) h
 | @lst a xs ea=>
  cases(show u=Value.ref a from rx);obtain⟨_,_,n,_,h1⟩:=(show ObjOk X.prog X.w H s.heap a (.lst xs)from I.hok a _ ea)
  exact PySem.W.kia_one PySem.W.kitx_list I.kIn %[_,h1|U] e (λ z=>nomatch z) h
 | @frz a ob xs ea=>
  cases(show u=Value.ref a from rx);obtain⟨_,_,_,n,_,h1⟩:=(show ObjOk X.prog X.w H s.heap a (.frz ob (.lst xs))from I.hok a _ ea)
  exact PySem.W.kia_one PySem.W.kitx_list I.kIn %[_,h1|U] e (λ z=>nomatch z) h
 | @tup a xs ea=>
  cases(show u=Value.ref a from rx);obtain⟨_,_,_,p⟩:=(show ObjOk X.prog X.w H s.heap a (.tup xs)from I.hok a _ ea)
  obtain⟨o,h1,h2,_⟩:=p;exact PySem.W.kia_one PySem.W.kitx_tuple I.kIn %[o,h1|h2] e (λ z=>nomatch z) h
 | @dK a kvs ea=>
  cases(show u=Value.ref a from rx);obtain⟨_,_,vs,_,p⟩:=(show ObjOk X.prog X.w H s.heap a (.dK kvs)from I.hok a _ ea)
  obtain⟨o,es,ep,h1,h2,_⟩:=p;exact PySem.W.kia_one PySem.W.kitx_dict I.kIn %[o,h1|h2.1] e (λ z=>nomatch z) h
 | @dT a kvs ea=>
  cases(show u=Value.ref a from rx);obtain⟨_,_,xs,_,o,es,ep,h1,h2,_⟩:=(show ObjOk X.prog X.w H s.heap a (.dT kvs)from I.hok a _ ea)
  exact PySem.W.kia_one PySem.W.kitx_dict I.kIn %[o,h1|h2.1] e (λ z=>nomatch z) h
 | @ext a φ ea c=>
  cases(show u=Value.ref a from rx);obtain⟨p,_,_⟩:=(show ObjOk X.prog X.w H s.heap a (.ext φ)from I.hok a _ ea)
  obtain⟨o,h1,h2⟩:=c _ p;exact PySem.W.kia_one PySem.W.kitx_dict I.kIn %[o,h1|h2] e (λ z=>nomatch z) h
 | @ins a C dx fs ea cl ha hn htk hm=>
  cases(show u=Value.ref a from rx);obtain⟨mA,O,_⟩:=gI I.hok ea;obtain⟨od,J,_⟩:=O.look;exact PySem.W.kia_one (PySem.W.kitx_own (cl.get _) cl.hd ha hn htk hm) I.kIn J e (λ z=>nomatch z) h
end
structure Room(k:Nat)(A:Around):Prop where
 hd:A.handled=none
 dp:A.depth+3 * k+5 < recursionLimit
 un:A.units+16 * k+200 < cLine
 gd:A.guards=some []
theorem Room.mono{j k:Nat}{A:Around}(r:Room k A)(h:j<=k):Room j A:=%[r.hd,by have:=r.dp;lia,by have:=r.un;lia|r.gd]
theorem Room.deeper{k:Nat}{A:Around}(r:Room (k+1) A)(env:Env):Room k (A.deeper env) :=
 %[r.hd,by have:=r.dp;change A.depth+1+3 * k+5 < _;lia,by have:=r.un;change A.units+3+16 * k+200 < _;lia|r.gd]
theorem pI{A:Around}{C:Nj}{us:No G3}{kw:No (Str×G3)}:(A.under (.builtin "type.__call__" %[.ref C :: us|kw])).depth=A.depth+1:=by first | rfl | simp[Around.under,Code.weight,Code.isCreation,Code.isGuard,Code.isCaller,Code.frames,Code.isFrame,guardIds]
theorem pJ{A:Around}{C:Nj}{us:No G3}{kw:No (Str×G3)}:(A.under (.builtin "type.__call__" %[.ref C :: us|kw])).units=A.units+1:=by first | rfl | simp[Around.under,Code.cUnits,Code.frames,Code.isFrame]
theorem nE{A:Around}{C:Nj}{us:No G3}{kw:No (Str×G3)}:(A.under (.builtin "type.__call__" %[.ref C :: us|kw])).guards=A.guards:=by
 have e:Code.guards (.builtin "type.__call__" %[.ref C :: us|kw])=[]:=by
  have:(Code.builtin "type.__call__" %[.ref C :: us|kw]).isGuard=false:=by change guardIds.contains "type.__call__" = false;decide +kernel
  simp[Code.guards,this]
 unfold Around.under;dsimp only;rw[e]
 rfl
theorem Room.make{k:Nat}{A:Around}(r:Room (k+1) A)(C:Nj)(us:No G3)(kw:No (Str×G3)):Room k (A.under (.builtin "type.__call__" %[.ref C :: us|kw])) :=
 %[r.hd,by have:=r.dp;rw[pI];lia,by have:=r.un;rw[pJ];lia|by rw[nE];exact r.gd]
theorem Room.depth{k:Nat}{A:Around}(r:Room k A):A.depth < recursionLimit:=by have:=r.dp;lia
theorem Room.units{k:Nat}{A:Around}(r:Room k A):A.units+64 < cLine:=by have:=r.un;lia
def yy:TA:=λ _ H Q=>Q [] H
def zR(ta:TE)(tr:TA):TA:=λ σ H Q=>ta σ H λ x H1=>tr σ H1 λ xs H2=>Q (x :: xs) H2
section
variable{X:Cx}{e:Expr}{es:No Expr}{te:TE}{t:TA}{pos:Pos}
theorem ae:PA X [] yy:=λ _ _ _ _ H Q I h=>Calls.spliced_nil %[[],H,I,.nil|h]
theorem ad(ha:PE X e te)(hr:PA X es t)(hs:starEach (e :: es) X.env=(false,eval e X.env) :: starEach es X.env:=by rfl):PA X (e :: es) (zR te t):=by intro pos Nq s σ H Q I h;rw[hs];change wpAny _ _ (spliced ((false,eval e X.env) :: backTo pos (starEach es X.env))) _ _ s;show Calls.spliced_cons (thn (ha Nq s σ H _ I h) ?_);rintro u s1 ⟨x,H1,I1,r1,q1⟩;exact thn (hr pos Nq s1 σ H1 _ I1 q1) λ us s2 %[xs,H2,I2,r2|q2]=>%[x :: xs,H2,I2,.cons r1 r2|q2]
def Jw(t:TA):TE:=λ σ H Q=>t σ H λ xs H1=>xs.length<=sizeLine/\∀p,H1 p=none->Q (.ref p) (upd H1 p (.tup xs))
def Jx(t:TA):TE:=λ σ H Q=>t σ H λ xs H1=>xs.length<=sizeLine/\∀p,H1 p=none->Q (.ref p) (upd H1 p (.lst xs))
theorem aJ{x1}(h:PA X es t):PE X (.Tuple es x1 pos) (Jw t):=by intro Nq s σ H Q I hq;show wpAny_Tuple_spliced (thn (h pos Nq s σ H _ I hq) λ us s1 %[xs,H1,I1,r,z|q]=>%[by rw[<- r.length];exact z|?_]);have hf:H1 s1.heap.objs.size=none:=I1.hok.fresh (B4 _);show%[.ref s1.heap.objs.size,upd H1 s1.heap.objs.size (.tup xs),I1.laid (t':=s1.toks) (λ b u e=>A8 _ e) (B4 _) ?_,U|q _ hf];exact%[z,us,r|%[_,A9 _ rfl,U,_|U]]
theorem aZ(h:PA X es t):PE X (.List es pos) (Jx t):=by intro Nq s σ H Q I hq;show wpAny_List_spliced (thn (h pos Nq s σ H _ I hq) λ us s1 %[xs,H1,I1,r,z|q]=>%[by rw[<- r.length];exact z|?_]);have hf:H1 s1.heap.objs.size=none:=I1.hok.fresh (B4 _);show%[.ref s1.heap.objs.size,upd H1 s1.heap.objs.size (.lst xs),I1.laid (t':=s1.toks) (λ b u e=>A8 _ e) (B4 _) ?_,U|q _ hf];exact%[z,us,0,r|A9 _ rfl]
end
abbrev Sp:=No V->Hp->VK->XK->Prop
abbrev CXT:=No Env->Hp->F9->XK->G3->F9->Prop
structure Env0(P:Program)(w:World)(K:C6)(mg:Str->Nm Value)(base:Heap)(A:Around)(outer:No Env)(s:Shared)(H:Hp):Prop where
 frames:A.frames=some outer
 mod:Mod K mg base
 bs:∀b o,base.get? b=some o->s.heap.get? b=some o/\H b=none
 bsz:base.objs.size<=s.heap.objs.size
 funs:s.heap.FunFrames base outer
 frf:∀b∈frs outer,H b=none
 hok:HOk P w H s.heap
 bare:AllBare s.gens
def CE(outer:No Env)(P:G0)(w:G2)(H:Hp)(s:F9)(Q:VK)(u:G3)(s':F9):Prop :=
 ∃v H',s'.os=s.os/\AllBare s'.gens/\Un (frs outer) [] H H' s.heap s'.heap/\HOk P w H' s'.heap/\RelV v u/\Q v H'
def CR(CX:CXT)(outer:No Env)(P:G0)(w:G2)(H:Hp)(s:F9)(Q:VK)(E:XK)(r:Result)(s':F9):Prop :=
 match r with
 | .ok (.ret u)=>CE outer P w H s Q u s'
 | .ok _=>False
 | .error e=>CX outer H s E e s'
structure FnOk(P:Program)(w:World)(K:C6)(mg:Str->Nm Value)(base:Heap)(CX:CXT)(k:Nat)(f:Nj)(fd:FuncData)(ps:No Str)(sp:Sp):Prop where
 len:∀vs H Q E,sp vs H Q E->vs.length=ps.length
 run:∀(A:Around)(outer:No Env)(s:F9)(H:Hp)(args:Args)(us:No G3)(vs:No V)(Q:VK)(E:XK),Room k A->Env0 P w K mg base A outer s H->BindsTo s fd args (ps.zip us)->Vals vs us->sp vs H Q E ->
  codeAny (model P w) A (.call (.ref f) args) (CR CX outer P w H s Q E) s
theorem Env0.make{P:G0}{w:G2}{K:C6}{mg:Str->Nm G3}{base:Heap}{A:Around}{outer:No Env}{s:F9}{H:Hp}(e:Env0 P w K mg base A outer s H)(C:Nj)(us:No G3)(kw:No (Str×G3)) :
  Env0 P w K mg base (A.under (.builtin "type.__call__" %[.ref C :: us|kw])) outer s H:=⟨by first | exact e.frames | (simpa[Around.under,Code.envs,Code.isFrame,pushEnvs]using e.frames),e.mod,e.bs,e.bsz,e.funs,e.frf,e.hok,e.bare⟩
section
variable{X:Cx}{Nq:P6}{σ:St}{H:Hp}{s s':F9}
theorem Inv.env0(I:Inv X Nq σ H s):Env0 X.prog X.w X.K X.mg X.base X.A X.stack s H :=
 %[I.ok.frames,I.ok.mod,I.bs,C7 I.ok.bsz I.sz,I.stack,I.stkFree,I.hok|I.bare]
theorem Inv.after{Q:VK}{u:G3}(I:Inv X Nq σ H s)(h:CE X.stack X.prog X.w H s Q u s'):EP X Nq σ Q u s':=by obtain⟨v,H',os,bare,un,hok,r,q⟩:=h;obtain⟨hh,g,d,t,os'⟩:=s';obtain rfl:os'=s.os:=os;exact%[v,H',I.call (h':=hh) (g':=g) (d':=d) (t':=t) (ch:=[]) un hok bare (λ b z=>absurd z (by simp)),r|q]
end
def zS(sp:Sp)(dvs:No V)(E:XK)(t:TA):TE:=λ σ H Q=>t σ H λ vs H1=>sp (vs ++ dvs) H1 Q E
def qM(C:Nj)(m:Str)(sp:Sp)(dvs:No V)(E:XK)(ta:TE)(t:TA):TE:=λ σ H Q=>ta σ H λ x H1=>∃a dx fs,x=.ref a/\H1 a=some (.ins C dx fs)/\fs.lookup m=none /\
 t σ H1 λ vs H2=>sp (x :: (vs ++ dvs)) H2 Q E
def zT(C:Nj)(sp:Sp)(dvs:No V)(E:XK)(t:TA):TE:=λ σ H Q=>t σ H λ vs H1=>∀x dx,H1 x=none->H1 dx=none->dx≠x ->
 sp (.ref x :: (vs ++ dvs)) (upd (upd H1 dx (.own x)) x (.ins C dx [])) (λ v H2=>v=.non/\Q (.ref x) H2) E
def Binds(K:C6)(fd:G1)(ps:No Str)(ds:No G3):Prop :=
 ∀(s:F9)(us:No G3),K.In s.heap->(us ++ ds).length=ps.length->BindsTo s fd %[us|[]] (ps.zip (us ++ ds))
theorem Binds.all{K:C6}{fd:G1}{ps:No Str}(h:∀us:No G3,us.length=ps.length->bindArgs fd %[us|[]]=pure (ps.zip us)):Binds K fd ps []:=λ s us _ hl=>by rw[MR]at hl ⊢;exact .of_eq (h us hl)
def gh(CX:CXT)(X:Cx)(E:XK):Prop:=∀(Nq:P6)(σ:St)(H:Hp)(s:F9)(e:G3)(s':F9),Inv X Nq σ H s->CX X.stack H s E e s'->X.xe e s'
section
variable{X:Cx}{CX:CXT}{k:Nat}{f C:Nj}{fd:G1}{ps:No Str}{sp:Sp}{dvs:No V}{ds:No G3}{E:XK}{x m:Str}{p pos apos:Pos}{e o:Expr}{es:No Expr}{ta:TE}{t:TA}
theorem pK{Nq:P6}{σ:St}{H:Hp}{s:F9}{Q:VK}{us:No G3}{vs:No V}(F:FnOk X.prog X.w X.K X.mg X.base CX k f fd ps sp)(hr:Room k X.A)(hb:Binds X.K fd ps ds)(hd:Vals dvs ds)(hx:gh CX X E)
  (I:Inv X Nq σ H s) (r:Vals vs us) (h:sp (vs ++ dvs) H Q E):wpAny (model X.prog X.w) X.A (call (.ref f) us) (EP X Nq σ Q) X.xe s:=by
 have r2:Vals (vs ++ dvs) (us ++ ds):=r.append hd;have hl:(us ++ ds).length=ps.length:=by rw[<- r2.length];exact F.len _ _ _ _ h
 show wpAny_call (codeAny_mono (F.run X.A X.stack s H %[us|[]] (us ++ ds) (vs ++ dvs) Q E hr I.env0 (hb s us I.kIn hl) r2 h) λ r s' hq=>?_);cases r with
 | error e=>exact hx Nq σ H s e s' I hq
 | ok fl=>
  cases fl with
  | ret u=>exact I.after hq
  | next=>exact F0 hq
  | brk=>exact F0 hq
  | cont=>exact F0 hq
theorem yz(F:FnOk X.prog X.w X.K X.mg X.base CX k f fd ps sp)(hr:Room k X.A)(hg:Gl X x)(hm:X.mg x=↑f)(hk:PySem.W.keepIn X.K (.ref f)=true)(hb:Binds X.K fd ps ds)(hd:Vals dvs ds)(hx:gh CX X E)
  (ha:PA X (e :: es) t) (hdb:(x == ("__debug__" : Str))=false:=by decide) (he:starEach (e :: es) X.env=(false,eval e X.env) :: starEach es X.env:=by rfl) (hpl:(backTo pos (starEach es X.env)).any (·.1)=false:=by rfl) :
  PE X (.Call (.Name x p) (e :: es) [] pos) (zS sp dvs E t):=by
 intro Nq s σ H Q I h;show wpAny_Call_Name_kw (mr I hg hm ?_ hdb);show PySem.W.callWith_K (h₀:=X.base) I.ok.mod.kin hk (thn (ha pos Nq s σ H _ I h) λ us s1 %[vs,H1,I1,r|q]=>%[I1.kIn|?_]) he hpl;exact pK F hr hb hd hx I1 r q
theorem yA{pl:Sem Bool}(he:PE X o ta)(c:Cls X.K C)(hm:Meth X.K C m f)(F:FnOk X.prog X.w X.K X.mg X.base CX k f fd ps sp)(hr:Room k X.A)(hb:Binds X.K fd ps ds)(hd:Vals dvs ds)(hx:gh CX X E)(ha:PA X (e :: es) t)
  (hst:starEach (e :: es) X.env=(false,eval e X.env) :: starEach es X.env:=by rfl) (hpl:(backTo pos (starEach es X.env)).any (·.1)=false:=by rfl)
  (ht:eval (.Call (.Attribute o m apos) (e :: es) [] pos) X.env=(do
   let ov<-eval o X.env
   standAt apos.atName
   let (f,first)<-holding [ov] (getMethod ov m pl)
   callWith pos f first (backTo pos (starEach (e :: es) X.env)) (backToKw pos (keywordEach [] X.env))):=by rfl) :
  PE X (.Call (.Attribute o m apos) (e :: es) [] pos) (qM C m sp dvs E ta t):=by
 intro Nq s σ H Q I h;show PySem.W.methodCall_KW (pl:=pl) (thn (he Nq s σ H _ I h) ?_) ht;rintro u s1 ⟨x,H1,I1,rx,a,dx,fs,ex,ea,l,q⟩;subst ex;obtain rfl:u=Value.ref a:=rx;show gg I1 ea c hm l ?_;show PySem.W.callWith_K (first:=[.ref a]) (h₀:=X.base) I.ok.mod.kin hm.kp (thn (ha pos Nq s1 σ H1 _ I1 q) λ us s2 %[vs,H2,I2,r|q2]=>%[I2.kIn|?_]) hst hpl;exact pK (us:=.ref a :: us) (vs:=.ref a :: vs) F hr hb hd hx I2 (.cons rfl r) q2
theorem vH{pl:Sem Bool}(he:PE X o ta)(c:Cls X.K C)(hm:Meth X.K C m f)(F:FnOk X.prog X.w X.K X.mg X.base CX k f fd ps sp)(hr:Room k X.A)(hb:Binds X.K fd ps ds)(hd:Vals dvs ds)(hx:gh CX X E)
  (ht:eval (.Call (.Attribute o m apos) [] [] pos) X.env=(do
   let ov<-eval o X.env
   standAt apos.atName
   let (f,first)<-holding [ov] (getMethod ov m pl)
   callWith pos f first (backTo pos (starEach [] X.env)) (backToKw pos (keywordEach [] X.env))):=by rfl) :
  PE X (.Call (.Attribute o m apos) [] [] pos) (qM C m sp dvs E ta yy):=by
 intro Nq s σ H Q I h;show PySem.W.methodCall_KW (pl:=pl) (thn (he Nq s σ H _ I h) ?_) ht;rintro u s1 ⟨x,H1,I1,rx,a,dx,fs,ex,ea,l,q⟩;subst ex;obtain rfl:u=Value.ref a:=rx;show gg I1 ea c hm l ?_;exact PySem.W.callWith_K0 (first:=[.ref a]) I1.kIn hm.kp (pK (us:=[.ref a]) (vs:=[.ref a]) F hr hb hd hx I1 (.cons rfl .nil) q)
structure Mk(K:C6)(C f:Nj):Prop where
 makes:PySem.W.makesIn K C=true
 init:PySem.W.findIn K (.ref C) "__init__" = some (↑f)
 fn:PySem.W.isFn K (.ref f)=true
 kp:PySem.W.keepIn K (.ref C)=true
theorem vI{Nq:P6}{σ:St}{H:Hp}{s:F9}{Q:VK}{us:No G3}{vs:No V}(M:Mk X.K C f)(F:FnOk X.prog X.w X.K X.mg X.base CX k f fd ps sp)(hr:Room (k+1) X.A)(hb:Binds X.K fd ps ds)(hd:Vals dvs ds)
  (hx:gh CX X E) (I:Inv X Nq σ H s) (r:Vals vs us)
  (h:∀x dx,H x=none->H dx=none->dx≠x->sp (.ref x :: (vs ++ dvs)) (upd (upd H dx (.own x)) x (.ins C dx [])) (λ v H2=>v=.non/\Q (.ref x) H2) E) :
  wpAny (model X.prog X.w) X.A (call (.ref C) us) (EP X Nq σ Q) X.xe s:=by
 have hq:=h (s.heap.objs.size+1) s.heap.objs.size (I.hok.fresh (Nat.le_succ _)) (I.hok.fresh (B4 _)) (C1 (F3 _));have I2:=Inv.made (C:=C) I;have r2:Vals (V.ref (s.heap.objs.size+1) :: (vs ++ dvs)) (Value.ref (s.heap.objs.size+1) :: (us ++ ds)):=.cons rfl (r.append hd);have hl:(Value.ref (s.heap.objs.size+1) :: us ++ ds).length=ps.length:=by have e:=r2.length;rw[F.len _ _ _ _ hq]at e;exact e.symm
 show wpAny_call (vF (f:=f) I.kIn M.makes M.init (C5.mp M.fn) (codeAny_mono (F.run _ X.stack _ _ %[Value.ref (s.heap.objs.size+1) :: us|[]] (Value.ref (s.heap.objs.size+1) :: (us ++ ds)) _ _ E (hr.make C us [])
  (I2.env0.make C us []) (hb _ (Value.ref (s.heap.objs.size+1) :: us) I2.kIn hl) r2 hq) λ r s' hq'=>?_))
 cases r with
 | error e=>exact hx Nq σ _ _ e s' I2 hq'
 | ok fl=>
  cases fl with
  | ret u=>
   obtain⟨v,H',I3,rv,ev,q3⟩:=I2.after hq';subst ev;exact%[rv|%[V.ref (s.heap.objs.size+1),H',I3,U|q3]]
  | next=>exact F0 hq'
  | brk=>exact F0 hq'
  | cont=>exact F0 hq'
theorem yB(M:Mk X.K C f)(F:FnOk X.prog X.w X.K X.mg X.base CX k f fd ps sp)(hr:Room (k+1) X.A)(hg:Gl X x)(hm:X.mg x=↑C)(hb:Binds X.K fd ps ds)(hd:Vals dvs ds)(hx:gh CX X E)
  (ha:PA X (e :: es) t) (hdb:(x == ("__debug__" : Str))=false:=by decide) (he:starEach (e :: es) X.env=(false,eval e X.env) :: starEach es X.env:=by rfl) (hpl:(backTo pos (starEach es X.env)).any (·.1)=false:=by rfl) :
  PE X (.Call (.Name x p) (e :: es) [] pos) (zT C sp dvs E t):=by
 intro Nq s σ H Q I h;show wpAny_Call_Name_kw (mr I hg hm ?_ hdb);show PySem.W.callWith_K (h₀:=X.base) I.ok.mod.kin M.kp (thn (ha pos Nq s σ H _ I h) λ us s1 %[vs,H1,I1,r|q]=>%[I1.kIn|?_]) he hpl;exact vI M F hr hb hd hx I1 r q
end
section
variable{X:Cx}{CX:CXT}{k:Nat}{f C:Nj}{fd:G1}{ps ks:No Str}{sp:Sp}{E:XK}{x m:Str}{p pos apos kpos:Pos}{e o:Expr}{es:No Expr}{kws:No Keyword}{te ta:TE}{t tk:TA}{nm:Nm Str}
structure KBinds(K:C6)(fd:FuncData)(ps ks:No Str)(g:No Value->No Value->No Value)(gV:No V->No V->No V):Prop where
 to:∀(s:F9)(us ws:No G3),K.In s.heap->(g us ws).length=ps.length->BindsTo s fd %[us|ks.zip ws] (ps.zip (g us ws))
 rel:∀{vs:No V}{us:No G3}{zs:No V}{ws:No G3},Vals vs us->Vals zs ws->Vals (gV vs zs) (g us ws)
variable{g:No G3->No G3->No G3}{gV:No V->No V->No V}
end
structure FnScope(N P:No Str)(sc:Scope):Prop where
 kind:sc.kind=.function
 co:sc.isCoroutine=false
 gen:sc.isGenerator=false
 nd:N.Nodup
 pre:N.take P.length=P
 par:∀x∈P,sc.names.lookup x=some .local\/sc.names.lookup x=some .cell
 nofree:∀y∈sc.names,y.2≠.free
theorem lm{kindOf:Str->Nm NameKind}{x:Str}:∀{binds:No (Str×G3)}{m:Str->Nm G3},(∀v,(x,v)∉binds)->bindL kindOf binds m x=m x
 | [],_,_=>rfl
 | (n,v) :: r,m,h=>by
  unfold bindL;rw[lm λ w hw=>h w (B6 _ hw)]
  split
  ·have:x≠n:=by rintro rfl;exact h v B9
   simp[this]
  ·rfl
theorem lp{kindOf:Str->Nm NameKind}{x:Str}:∀{binds:No (Str×G3)}{m:Str->Nm G3},(∀v,(x,v)∉binds)->bindC kindOf binds m x=m x
 | [],_,_=>rfl
 | (n,v) :: r,m,h=>by
  unfold bindC;rw[lp λ w hw=>h w (B6 _ hw)]
  split
  ·rfl
  ·have:x≠n:=by rintro rfl;exact h v B9
   simp[this]
theorem lq{kindOf:Str->Nm NameKind}{x:Str}{v:G3}:∀{P:No Str}{vs:No G3}{i:Nat}{m:Str->Nm G3},P.Nodup->P[i]?=some x->vs[i]?=some v->kindOf x=some .local ->
  bindL kindOf (P.zip vs) m x=some v
 | [],_,_,_,_,h,_,_=>by simp at h
 | _ :: _,[],_,_,_,_,h,_=>by simp at h
 | p :: P,w :: vs,0,m,nd,h1,h2,hk=>by simp at h1 h2;subst h1;subst h2;change bindL kindOf ((p,w) :: P.zip vs) m p=_;unfold bindL;rw[lm λ v hv=>(Mq.mp nd).1 (List.of_mem_zip hv).1,Nw hk];simp
 | p :: P,w :: vs,i+1,m,nd,h1,h2,hk=>by change bindL kindOf ((p,w) :: P.zip vs) m x=_;unfold bindL;exact lq (i:=i) (Mq.mp nd).2 (by simpa using h1) (by simpa using h2) hk
theorem lw{kindOf:Str->Nm NameKind}{x:Str}{v:G3}:∀{P:No Str}{vs:No G3}{i:Nat}{m:Str->Nm G3},P.Nodup->P[i]?=some x->vs[i]?=some v->kindOf x≠some .local ->
  bindC kindOf (P.zip vs) m x=some v
 | [],_,_,_,_,h,_,_=>by simp at h
 | _ :: _,[],_,_,_,_,h,_=>by simp at h
 | p :: P,w :: vs,0,m,nd,h1,h2,hk=>by simp at h1 h2;subst h1;subst h2;change bindC kindOf ((p,w) :: P.zip vs) m p=_;unfold bindC;rw[lp λ v hv=>(Mq.mp nd).1 (List.of_mem_zip hv).1,Nv hk];simp
 | p :: P,w :: vs,i+1,m,nd,h1,h2,hk=>by change bindC kindOf ((p,w) :: P.zip vs) m x=_;unfold bindC;exact lw (i:=i) (Mq.mp nd).2 (by simpa using h1) (by simpa using h2) hk
def start(N:No Str)(vs:No V):St:=vs.map some ++ List.replicate (N.length - vs.length) none
def pL(CX:CXT)(P:G0)(w:G2)(K:C6)(mg:Str->Nm G3)(base:Heap)(N:No Str)(qual:Str)(scope:Scope)(f:Nj)(cd:G3)(A:Around)(outer:No Env)(s:F9)(H:Hp)(E:XK):Cx where
 prog:=P
 w:=w
 K:=K
 mg:=mg
 base:=base
 A:=A.deeper (envOfC qual scope s.heap.objs.size f cd)
 N:=N
 s₀:=s
 H₀:=H
 env:=envOfC qual scope s.heap.objs.size f cd
 outer:=outer
 stack:=envOfC qual scope s.heap.objs.size f cd :: outer
 ex:=[]
 calm:=true
 fn:=λ _=>true
 pn:=[]
 xe:=λ e s'=>wpAny (model P w) (A.deeper (envOfC qual scope s.heap.objs.size f cd)) (leaving (envOfC qual scope s.heap.objs.size f cd) e) (λ _ s''=>CX outer H s E e s'') (λ e' s''=>CX outer H s E e' s'') s'
theorem nF{sc:Scope}{n:Nat}{x:Str}(h:sc.names.lookup x=some .cell):∃c,(cellsFrom n sc.names []).lookup x=some c:=by have q:=PySem.W.cellsFrom_some sc.names n [] (.inl h);exact Option.isSome_iff_exists.mp q
theorem sJ{CX:CXT}{P:G0}{w:G2}{K:C6}{mg:Str->Nm G3}{base:Heap}{N ps:No Str}{qual:Str}{scope:Scope}{f:Nj}{cd:G3}{A:Around}{outer:No Env}{s s1:F9}{H:Hp}{E:XK}{us:No G3}{vs:No V}
  (S:FnScope N ps scope) (hd:A.handled=none) (e0:Env0 P w K mg base A outer s H) (hl:vs.length=ps.length) (r:Vals vs us)
  (x:InCallC s s.heap.objs.size (bindL (envOfC qual scope s.heap.objs.size f cd).kindOf (ps.zip us) λ _=>none) (cellsFrom (s.heap.objs.size+1) scope.names []) (bindC (envOfC qual scope s.heap.objs.size f cd).kindOf (ps.zip us) λ _=>none) s1) :
  Inv (pL CX P w K mg base N qual scope f cd A outer s H E) [] (start N vs) H s1:=by
 have hpl:ps.length<=N.length:=by have:=OD List.length S.pre;rw[K0]at this;lia
 obtain⟨h1,tk,rfl,hk⟩:=x.done;have noA:∀b:Nj,b∉(pL CX P w K mg base N qual scope f cd A outer s H E).ex:=λ b z=>absurd (show b∈([]:No Nj)from z) (by simp);show⟨%[e0.mod,S.kind,U,U,B4 _,λ y z c h1 h2=>?_,λ y hy=>?_,λ y c _ h=>?_,λ _=>hd,Around.frames_deeper e0.frames,.inr %[U|U],λ b z=>absurd z (noA b),e0.bs,e0.bsz,λ b _ _=>noA b,λ b z=>absurd z (noA b),e0.funs|e0.frf],
  rfl,e0.bare,Un.kept hk,%[_,x.toInCall.ns|λ i y v h1 h2 h3=>?_],λ y c h=>%[_|x.cell y c h],e0.hok.fresh (B4 _),λ y c h=>?_,λ p hp=>absurd (show p∈([]:P6)from hp) (by simp),e0.hok.kept hk,?_⟩
 ·exact name_of_addr x.apart (Oj h1) (Oj h2)
 ·have hy:scope.names.lookup y=some .cell\/scope.names.lookup y=some .free:=hy;rcases hy with hy | hy
  ·exact nF hy
  ·exact absurd rfl (S.nofree _ (Oj hy))
 ·exact C9 (x.above y c (Oj h))
 ·have hi:i < vs.length:=by
   unfold start at h2
   by_cases hi:i < vs.length
   ·exact hi
   ·rw[M9 (by simpa using hi)]at h2;rw[List.getElem?_replicate]at h2
    split at h2 <;> cases h2
  have ha:vs[i]?=some v:=by
   unfold start at h2;rw[List.getElem?_append_left (by simpa using hi),J0]at h2;cases e:vs[i]? with
   | none=>rw[e]at h2;cases h2
   | some a=>rw[e]at h2;cases h2;rfl
  obtain⟨u,hu,rv⟩:=r.get ha;have hp:ps[i]?=some y:=by rw[<- S.pre,NG ⋯];exact h1
  have ndP:ps.Nodup:=by rw[<- S.pre];exact S.nd.sublist (List.take_sublist _ _)
  show%[u,rv|?_];rcases S.par y (B7 hp)with k | k
  ·exact .inl %[k|lq ndP hp hu k]
  ·obtain⟨c,e⟩:=nF (n:=s.heap.objs.size+1) k;show .inr %[.inl k,c,e|?_];have q:=x.cell y c e;rw[lw ndP hp hu (by change scope.names.lookup y≠_;rw[k];decide)]at q;exact q
 ·exact e0.hok.fresh (C9 (x.above y c (Oj h)))
 ·unfold start;change _=N.length;rw[K4,B5,K8];lia
theorem BI{CX:CXT}{P:G0}{w:G2}{K:C6}{mg:Str->Nm G3}{base:Heap}{k:Nat}{f:Nj}{name qual:Str}{params:Arguments}{body:No Stmt}{scope:Scope}{dV kV doc pm cdv ct oc:G3}{an od:Nm Nj}
  {osl:Nn (Nm G3)} {N ps:No Str} {sp:Sp} (lk:K.lookup f=some %[oc,od,.func (E9 name qual params body scope dV kV doc pm an cdv ct)|osl]) (hcd:PySem.W.codeIn K cdv qual=true) (S:FnScope N ps scope)
  (len:∀vs H Q E,sp vs H Q E->vs.length=ps.length)
  (hbody:∀(A:Around)(outer:No Env)(s:F9)(H:Hp)(vs:No V)(Q:VK)(E:XK),Room k (A.deeper (envOfC qual scope s.heap.objs.size f cdv))->sp vs H Q E ->
   ∃t,PSs (pL CX P w K mg base N qual scope f cdv A outer s H E) body t/\t { nx:=λ _ H'=>Q .non H',rt:=Q } (start N vs) H) :
  FnOk P w K mg base CX (k+1) f (E9 name qual params body scope dV kV doc pm an cdv ct) ps sp:=by
 show%[len|λ A outer s H args us vs Q E hr e0 hb r hsp=>?_];have hl:=len _ _ _ _ hsp;have KX:K.In s.heap:=e0.mod.kin.keeps λ b o e=>(e0.bs b o e).1;have lim:s.heap.NoLimit:=e0.mod.nolimit.keeps λ b o e=>(e0.bs b o e).1;have hkind:∀y∈ps.zip us,scope.names.lookup y.1=some .local\/(scope.names.lookup y.1=some .cell/\((cellsFrom (s.heap.objs.size+1) scope.names []).lookup y.1).isSome=true):=λ⟨n,v⟩ hy=>by
  rcases S.par n (List.of_mem_zip hy).1 with q | q
  ·exact .inl q
  ·exact .inr %[q|PySem.W.cellsFrom_some _ _ _ (.inl q)]
 show codeAny_call_function hr.depth (KX _ _ lk) rfl S.co S.gen rfl (PySem.W.codeRec_of KX hcd) (hb _ _ _ _ ?_);show wpAny_newFunctionEnv_cells S.kind hkind λ env he s1 x=>?_;subst he;show%[lim.keeps x.toInCall.keep|codeAny_func ?_];obtain⟨t,ht,hq⟩:=hbody A outer s H vs Q E (hr.deeper _) hsp;have I:Inv (pL CX P w K mg base N qual scope f cdv A outer s H E) [] (start N vs) H s1:=sJ S hr.hd e0 hl r x;show OA (ht [] s1 (start N vs) H _ I hq) (λ fl s' hs=>?_) λ e s' hs=>hs;have fin:∀{σ':St}{H':Hp}{v:V}{u:G3},Inv (pL CX P w K mg base N qual scope f cdv A outer s H E) [] σ' H' s'->RelV v u->Q v H'->CE outer P w H s Q u s' :=
  λ {σ' H' v u} J rv q=>%[v,H',J.os,J.bare,J.base,J.hok,rv|q]
 cases fl with
 | ret u=>
  obtain⟨v,σ',H',J,rv,q⟩:=hs;exact fin J rv q
 | next=>
  obtain⟨σ',H',J,q⟩:=hs;exact fin (v:=V.non) (u:=Value.none) J rfl q
 | brk=>
  obtain⟨_,_,_,q⟩:=hs;exact F0 q
 | cont=>
  obtain⟨_,_,_,q⟩:=hs;exact F0 q
section
variable{X:Cx}{x:Str}{p pos:Pos}{e:Expr}{es:No Expr}{t:TA}{id T:String}{r:No V->Hp->VK->Prop}
def tCB(r:No V->Hp->VK->Prop)(t:TA):TE:=λ σ H Q=>t σ H λ vs H1=>r vs H1 Q
theorem ap(hc:bS X (.builtin id) r)(hg:Gl X x)(hm:X.mg x=none)(hv:bootBuiltins x=some (.builtin id))(ha:PA X (e :: es) t)(hn:x ≠ "__name__" := by decide)(hdb:(x == ("__debug__" : Str))=false:=by decide)
  (he:starEach (e :: es) X.env=(false,eval e X.env) :: starEach es X.env:=by rfl) (hpl:(backTo pos (starEach es X.env)).any (·.1)=false:=by rfl):PE X (.Call (.Name x p) (e :: es) [] pos) (tCB r t):=by
 intro Nq s σ H Q I h;show wpAny_Call_Name_kw (eF I hg hm hv ?_ hn hdb);exact PyProof.Rows.callWith_builtin1 (thn (ha pos Nq s σ H _ I h) λ us s1 %[vs,H1,I1,r1|q1]=>hc Nq s1 σ H1 vs us Q I1 r1 q1) he hpl
theorem aT(hc:bS X (.type T) r)(hg:Gl X x)(hm:X.mg x=none)(hv:bootBuiltins x=some (.type T))(ha:PA X (e :: es) t)(hn:x ≠ "__name__" := by decide)(hdb:(x == ("__debug__" : Str))=false:=by decide)
  (he:starEach (e :: es) X.env=(false,eval e X.env) :: starEach es X.env:=by rfl) (hpl:(backTo pos (starEach es X.env)).any (·.1)=false:=by rfl):PE X (.Call (.Name x p) (e :: es) [] pos) (tCB r t):=by
 intro Nq s σ H Q I h;show wpAny_Call_Name_kw (eF I hg hm hv ?_ hn hdb);exact N8 (thn (ha pos Nq s σ H _ I h) λ us s1 %[vs,H1,I1,r1|q1]=>hc Nq s1 σ H1 vs us Q I1 r1 q1) he hpl
end
end L2
namespace HT
open PySem PyProof.Rows
section
variable{prog:G0}{w:G2}{A:Around}{E:G3->F9->Prop}{s:F9}
theorem cat_tup{t b:Nj}{vs ws:No G3}{Q:G3->F9->Prop}(ht:IsTup s.heap t vs.toArray)(hb:IsTup s.heap b ws.toArray)(hv:vs≠[])
  (h1:ws=[]->Q (.ref t) s) (h2:ws≠[]->Q (.ref s.heap.objs.size) { s with heap:=s.heap.push { cls:=.type "tuple",data:=.seq (vs ++ ws).toArray } })
  (hsz:vs.length+ws.length<=sizeLine):wpAny (model prog w) A (binaryOp .Add (.ref t) (.ref b)) Q E s:=by
 obtain⟨⟨cls,dd,data,sl⟩,ho,hc,n,hd⟩:=id ht;obtain⟨⟨cls2,dd2,data2,sl2⟩,ho2,hc2,n2,hd2⟩:=id hb;simp only at hc hd hc2 hd2;subst hc hd hc2 hd2;have e:vs.toArray ++ ws.toArray=(vs ++ ws).toArray:=by simp
 by_cases hw:ws=[]
 ·exact concat_meets %[_,ho|rfl] %[_,ho2|rfl] noFill_tuple_add seq_tuple_add PySem.F.slot_tuple_add PySem.F.entry_tuple_add (PySem.F.args_tuple_add_2 _ _)
   (tuple_addW1 t b vs.toArray ws.toArray n n2 dd dd2 sl sl2 (by simpa using hv) (by simp[hw])) %[ho,ho2|h1 hw]
 ·show concat_meets %[_,ho|rfl] %[_,ho2|rfl] noFill_tuple_add seq_tuple_add PySem.F.slot_tuple_add PySem.F.entry_tuple_add (PySem.F.args_tuple_add_2 _ _)
   (tuple_addW2 t b vs.toArray ws.toArray n n2 dd dd2 sl sl2 (by simpa using hv) (by simpa using hw) (by rw[K1,K1];exact hsz)) %[ho,ho2|?_]
  rw[e];exact h2 hw
def sIx(n d:Nat):Nm Int->Nat
 | none=>d
 | some v=>if v < 0 then(v+(n:Int)).toNat else min v.toNat n
theorem sIx_none(n d:Nat):sIx n d none=d:=rfl
theorem sIx_nat(n d k:Nat):sIx n d (some (k:Int))=min k n:=by change(if (k:Int) < 0 then((k:Int)+(n:Int)).toNat else min (k:Int).toNat n)=min k n;rw[Nv ⋯,MF]
theorem At(n d:Nat)(hd:d<=n)(o:Nm Int):sIx n d o<=n:=by
 cases o with
 | none=>exact hd
 | some v=>
  change(if v < 0 then(v+(n:Int)).toNat else min v.toNat n)<=n
  by_cases hv:v < 0
  ·rw[Nw hv];lia
  ·rw[Nv hv];exact Nat.min_le_right _ _
theorem qN(v:Int)(n d:Nat):(if v < 0 then max (v+(n:Int)) 0 else min v (n:Int))=((sIx n d (some v):Nat):Int):=by
 change(if v < 0 then max (v+(n:Int)) 0 else min v (n:Int))=(((if v < 0 then(v+(n:Int)).toNat else min v.toNat n):Nat):Int)
 by_cases hv:v < 0
 ·simp only[Nw hv];lia
 ·simp only[Nv hv];lia
theorem pM(lo hi:Nm Int)(n:Nat):Builtin.Slice.sliceAdjust lo hi 1 (n:Int)=(((sIx n 0 lo:Nat):Int),((sIx n n hi:Nat):Int)):=by
 have h1:¬ ((1:Int) < 0):=⋯
 unfold Builtin.Slice.sliceAdjust;simp only[h1,OJ];show Prod.ext ?_ ?_
 ·cases lo with
  | none=>rfl
  | some v=>exact qN v n 0
 ·cases hi with
  | none=>rfl
  | some v=>exact qN v n n
theorem pN(i j:Nat):Builtin.Slice.slicePlaces (i:Int) (j:Int) 1=j - i:=by
 unfold Builtin.Slice.slicePlaces;have h1:(1:Int) > 0:=⋯
 simp only[h1,Oo,Int.ediv_one]
 split <;> lia
theorem jH{v:G3}{o:Nm Int}{Q:Nm Int->F9->Prop}(p:IsPart v o)(h:Q o s):wpAny (model prog w) A (Builtin.Slice.slicePartIndex v) Q E s:=by
 cases p with
 | none=>exact slicePart_none h
 | int i t=>exact slicePart_int h
theorem iD{sl:Nj}{vl vu:G3}{lo hi:Nm Int}{n:Nat}{Q:Int×Int×Nat->F9->Prop}(hs:s.heap.IsSliceOf sl vl vu .none)(pl:IsPart vl lo)(pu:IsPart vu hi)
  (h:Q (((sIx n 0 lo:Nat):Int),1,sIx n n hi - sIx n 0 lo) s):wpAny (model prog w) A (Builtin.Slice.sliceApplied (.ref sl) (pure (n:Int))) Q E s:=by
 obtain⟨os,hos,hcs,hds⟩:=id hs;unfold Builtin.Slice.sliceApplied Builtin.Slice.sliceFields;show A0 (A0 (OE hos hds (x:=vl) rfl (A0 (OE hos hds (x:=vu) rfl (A0 (OE hos hds (x:=.none) rfl (A3 ?_)))))));show A0 (slicePart_none ?_);change wpAny _ _ (if ((1:Int) == 0)=true then _ else _) _ _ s;rw[Nv ∅];show A0 (jH pl (A0 (jH pu (A0 (A3 ?_)))));change wpAny _ _ (match Builtin.Slice.sliceAdjust lo hi 1 (n:Int)with | (lo,hi)=>pure (lo,(1:Int),Builtin.Slice.slicePlaces lo hi 1)) _ _ s;rw[pM lo hi n];change wpAny _ _ (pure (((sIx n 0 lo:Nat):Int),(1:Int),Builtin.Slice.slicePlaces ((sIx n 0 lo:Nat):Int) ((sIx n n hi:Nat):Int) 1)) _ _ s;rw[pN];exact A3 h
theorem vJ(xs:Nn G3)(i k:Nat):((List.range k).filterMap λ (m:Nat)=>xs[((i:Int)+(m:Int) * 1).toNat]?).toArray=((xs.toList.drop i).take k).toArray:=by
 have e:(λ (m:Nat)=>xs[((i:Int)+(m:Int) * 1).toNat]?)=λ m=>xs[i+m]? := by
  funext m
  have:((i:Int)+(m:Int) * 1).toNat=i+m:=⋯
  rw[this]
 rw[e];have:=pick_run xs i k;rw[List.filterMap_map]at this;have e2:((λ x=>xs[x]?)∘λ x=>i+x)=λ m=>xs[i+m]? := rfl;rw[e2]at this;rw[this]
theorem getItem_tuple_cut{t sl:Nj}{items:Nn G3}{vl vu:G3}{lo hi:Nm Int}{Q:G3->F9->Prop}(ht:IsTup s.heap t items)(hs:s.heap.IsSliceOf sl vl vu .none)(pl:IsPart vl lo)(pu:IsPart vu hi)
  (hw:¬ (sIx items.size 0 lo=0/\sIx items.size items.size hi=items.size))
  (h:Q (.ref s.heap.objs.size) { s with heap:=s.heap.push { cls:=.type "tuple",data:=.seq ((items.toList.drop (sIx items.size 0 lo)).take (sIx items.size items.size hi - sIx items.size 0 lo)).toArray } })
  (hsz:items.size<=sizeLine):wpAny (model prog w) A (getItem (.ref t) (.ref sl)) Q E s:=by
 have htake:sizeOk (.seq ((items.toList.drop (sIx items.size 0 lo)).take (sIx items.size items.size hi - sIx items.size 0 lo)).toArray):=by change((items.toList.drop (sIx items.size 0 lo)).take (sIx items.size items.size hi - sIx items.size 0 lo)).toArray.size<=sizeLine;rw[K1,K0,NI,J7];lia
 have hj:sIx items.size items.size hi<=items.size:=At _ _ (B4 _) hi;obtain⟨os,hos,hcs,hds⟩:=id hs;have hTs:s.TypeIs (.ref sl) "slice" := %[os,hos|hcs]
 unfold getItem
 try with_reducible show N2 ?_
 first | show A0 (A3 ?_) | skip
 show A0 (wpAny_sequenceKey ht.typeIs ∅ ?_);show A0 (wpAny_callSpecial?_slot (name:=Str.ofString "__getitem__") ht.typeIs PyProof.Rows.slot_tuple_getitem
  (F6 PyProof.Rows.slot_tuple_getitem ht.typeIs entry_tuple_getitem ?_ (args_tuple_getitem _ _)))
 change wpAny _ _ (Builtin.Tuple.tupleItemsOf (.ref t) >>= _) _ _ s;show A0 (tupleItemsOf_ ht ?_);show A0 (wpAny_typeOf hTs ?_);rw[Nw ∅];show A0 (iD hs pl pu ?_);have hno:¬ ((((sIx items.size 0 lo:Nat):Int) == 0 && (1:Int) == 1 && (sIx items.size items.size hi - sIx items.size 0 lo) == items.size)=true):=by intro q;rw[MT,MT]at q;have q1:((sIx items.size 0 lo:Nat):Int)=0:=eq_of_beq q.1.1;have q2:sIx items.size items.size hi - sIx items.size 0 lo=items.size:=eq_of_beq q.2;exact hw %[⋯|⋯]
 change wpAny _ _ (if (((sIx items.size 0 lo:Nat):Int) == 0 && (1:Int) == 1 && (sIx items.size items.size hi - sIx items.size 0 lo) == items.size)=true then _ else _) _ _ s;rw[Nv hno,vJ]
 first
  | exact A0 (m:=Builtin.Tuple.tupleExact _) (F7 (A3 ⟨_,rfl,A3 h⟩) htake)
  | exact A0 (m:=Builtin.Tuple.tupleExact _) (F7 (A0 (A3 (A3 ⟨_,rfl,A3 h⟩))) htake)
  | exact A0 (A0 (m:=Builtin.Tuple.tupleExact _) (F7 (A3 (A3 ⟨_,rfl,A3 h⟩)) htake))
  | exact A0 (A0 (m:=Builtin.Tuple.tupleExact _) (F7 (A3 ⟨_,rfl,A3 h⟩) htake))
end
end HT
namespace L2
open PySem PySem.Spec PyProof.Rows
abbrev TO:=St->Hp->(Nm Int->Hp->Prop)->Prop
def PO(X:Cx)(e:Nm Expr)(t:TO):Prop :=
 ∀(Nq:P6)(s:F9)(σ:St)(H:Hp)(Q:Nm Int->Hp->Prop),Inv X Nq σ H s->t σ H Q ->
  wpAny (model X.prog X.w) X.A (evalPart e X.env) (λ u s'=>∃o H',Inv X Nq σ H' s'/\IsPart u o/\Q o H') X.xe s
def yC:TO:=λ _ H Q=>Q none H
def BJ(t:TE):TO:=λ σ H Q=>t σ H λ x H1=>∃i,x=.int i/\Q (some i) H1
section
variable{X:Cx}{e:Expr}{te:TE}{lo hi:Nm Expr}{tl th:TO}{pos p2:Pos}
theorem jt:PO X none yC:=by intro Nq s σ H Q I h;rw[evalPart_none];exact A3 %[none,H,I,.none|h]
theorem ju(h:PE X e te):PO X (some e) (BJ te):=by intro Nq s σ H Q I hw;rw[evalPart_some];show thn (h Nq s σ H _ I hw) ?_;rintro u s1 ⟨x,H1,I1,r1,q1⟩;obtain⟨i,rfl,q⟩:=q1;obtain⟨t,rfl⟩:=r1;exact%[some i,H1,I1,.int i t|q]
def SlR(X:Cx)(r:V->Nm Int->Nm Int->Hp->VK->Prop):Prop :=
 ∀(Nq:P6)(s:F9)(σ:St)(H:Hp)(x:V)(v vl vu:G3)(lo hi:Nm Int)(sl:Nj)(Q:VK),Inv X Nq σ H s->RelV x v->s.heap.IsSliceOf sl vl vu .none->IsPart vl lo->IsPart vu hi->r x lo hi H Q ->
  ∃T id,typeLookup (.type T) "__getitem__" = pure (some (.builtin id))/\s.TypeIs v T/\wpAny (model X.prog X.w) X.A (getItem v (.ref sl)) (EP X Nq σ Q) X.xe s
def tSl(r:V->Nm Int->Nm Int->Hp->VK->Prop)(te:TE)(tl th:TO):TE:=λ σ H Q=>te σ H λ x H1=>tl σ H1 λ l H2=>th σ H2 λ u H3=>r x l u H3 Q
theorem gJ{r:V->Nm Int->Nm Int->Hp->VK->Prop}(hr:SlR X r)(he:PE X e te)(hl:PO X lo tl)(hu:PO X hi th):PE X (.Subscript e (.Slice lo hi none p2) pos) (tSl r te tl th):=by intro Nq s σ H Q I h;show Subscript_ (thn (he Nq s σ H _ I h) ?_);rintro v s1 ⟨x,H1,I1,r1,q1⟩;show wpAny_Slice (thn (hl Nq s1 σ H1 _ I1 q1) ?_);rintro vl s2 ⟨l,H2,I2,pl,q2⟩;show thn (hu Nq s2 σ H2 _ I2 q2) ?_;rintro vu s3 ⟨u,H3,I3,pu,q3⟩;rw[evalPart_none];show A3 ?_;have I4:Inv X Nq σ H3 { s3 with heap:=s3.heap.push { cls:=.type "slice",data:=.fields #[vl,vu,.none] } }:=I3.kept (t':=s3.toks) λ b ob q=>A8 _ q;obtain⟨T,id,hT,ht,hg⟩:=hr Nq { s3 with heap:=s3.heap.push { cls:=.type "slice",data:=.fields #[vl,vu,.none] } } σ H3 x v vl vu l u s3.heap.objs.size Q I4 r1 (Heap.IsSliceOf.new ..) pl pu q3;change wpAny (model X.prog X.w) X.A (subscriptTail e (.Slice lo hi none p2) v (.ref s3.heap.objs.size)) (EP X Nq σ Q) X.xe { s3 with heap:=s3.heap.push { cls:=.type "slice",data:=.fields #[vl,vu,.none] } };exact tail_any (ops:=[.ref s3.heap.objs.size,v]) ht hT hg (by with_unfolding_all rfl)
def jf(xs:No V)(lo hi:Nm Int):No V:=(xs.drop (HT.sIx xs.length 0 lo)).take (HT.sIx xs.length xs.length hi - HT.sIx xs.length 0 lo)
theorem iW(xs:No V)(lo hi:Nm Int):(jf xs lo hi).length<=xs.length:=by unfold jf;rw[K0,NI];lia
def Jy(K:C6):V->Nm Int->Nm Int->Hp->VK->Prop:=λ x lo hi H Q=>∃a xs,x=.ref a/\SqT K H a xs /\
 ¬ (HT.sIx xs.length 0 lo=0/\HT.sIx xs.length xs.length hi=xs.length)/\∀p,H p=none->Q (.ref p) (upd H p (.tup (jf xs lo hi)))
theorem vK:SlR X (Jy X.K):=by
 intro Nq s σ H x v vl vu lo hi sl Q I rx hs pl pu h;obtain⟨a,xs,rfl,hx,hw,q⟩:=h;cases rx;obtain⟨its,r,ht,hz⟩:=I.tuple hx;have Nt:its.toArray.size=xs.length:=by rw[K1];exact r.length.symm
 show%["tuple",_,PyProof.Rows.slot_tuple_getitem.lookup,ht.typeIs|?_];show HT.getItem_tuple_cut ht hs pl pu (by rw[Nt];exact hw) ?_ (by rw[Nt];exact hz);rw[Nt];show%[.ref s.heap.objs.size,_,I.laid (t':=s.toks) (o:=.tup (jf xs lo hi)) (λ b ob q=>A8 _ q) (B4 _) ?_,U|q _ (I.hok.fresh (B4 _))];exact%[C7 (iW xs lo hi) hz,_,(r.drop (HT.sIx xs.length 0 lo)).take (HT.sIx xs.length xs.length hi - HT.sIx xs.length 0 lo)|IsTup.new _ _]
def zU(K:C6):R2:=λ x y H Q=>∃a b xs ys,x=.ref a/\y=.ref b/\SqT K H a xs/\SqT K H b ys/\xs≠[]/\xs.length+ys.length<=sizeLine /\
 (ys=[]->Q (.ref a) H)/\(ys≠[]->∀p,H p=none->Q (.ref p) (upd H p (.tup (xs ++ ys))))
theorem Vals.nil_iff{xs:No V}{us:No G3}(r:Vals xs us):us=[]↔xs=[]:=by
 cases r with
 | nil=>simp
 | cons _ _=>simp
theorem qO:OpR X (binaryOp .Add) (zU X.K):=by intro Nq s σ H x y v u Q I rx ry h;obtain⟨a,b,xs,ys,rfl,rfl,ha,hb,hx,hz,q1,q2⟩:=h;cases rx;cases ry;obtain⟨its,r1,p1,_⟩:=I.tuple ha;obtain⟨its2,r2,p2,_⟩:=I.tuple hb;show HT.cat_tup p1 p2 (λ z=>hx (r1.nil_iff.mp z)) (λ z=>%[.ref a,H,I,U|q1 (r2.nil_iff.mp z)]) (λ z=>?_) (by rw[<- r1.length,<- r2.length];exact hz);show%[.ref s.heap.objs.size,_,I.laid (t':=s.toks) (o:=.tup (xs ++ ys)) (λ b ob q=>A8 _ q) (B4 _) ?_,U|q2 (λ w=>z (r2.nil_iff.mpr w)) _ (I.hok.fresh (B4 _))];exact%[by rw[K4];exact hz,_,r1.append r2|IsTup.new _ _]
inductive rz_call_tupleT(K:C6)(xs:No V)(H:Hp)(Q:VK):Prop
|mk(a ys:_)(_:xs=[.ref a])(_:SqT K H a ys)(_:Q (.ref a) H)
end
def ixN(n:Nat)(i:Int):Nm Nat:=if 0<=i then(if i < n then some i.toNat else none)else if -(n:Int)<=i then some (i+n).toNat else none
def atI{α:Type}(xs:No α)(i:Int):Nm α:=(ixN xs.length i).bind λ j=>xs[j]?
theorem qQ{n:Nat}{i:Int}{j:Nat}(h:ixN n i=some j):seqIndex? i n=some j/\j < n/\-(n:Int)<=i/\i < n:=by
 unfold ixN at h
 by_cases h0:0<=i
 ·rw[Nw h0]at h
  by_cases h1:i < n
  ·rw[Nw h1]at h;have e:i.toNat=j:=C0 h;exact%[by rw[seqIndex_of h0 h1,e],⋯,⋯|h1]
  ·rw[Nv h1]at h;cases h
 ·rw[Nv h0]at h
  by_cases h1:-(n:Int)<=i
  ·rw[Nw h1]at h;have e:(i+n).toNat=j:=C0 h;exact%[by rw[seqIndex_neg ⋯ h1,e],⋯,h1|⋯]
  ·rw[Nv h1]at h;cases h
theorem qR{α:Type}{xs:No α}{i:Int}{v:α}(h:atI xs i=some v):∃j,seqIndex? i xs.length=some j/\xs[j]?=some v/\j < xs.length/\-(xs.length:Int)<=i/\i < xs.length:=by
 unfold atI at h;cases e:ixN xs.length i with
 | none=>rw[e]at h;cases h
 | some j=>
  rw[e]at h;obtain⟨h1,h2,h3,h4⟩:=qQ e;exact%[j,h1,h,h2,h3|h4]
theorem gL{α:Type}{xs:No α}{j:Nat}{v:α}(h:xs[j]?=some v):atI xs (j:Int)=some v:=by
 have hj:j < xs.length:=(A7.mp h).1;have e:ixN xs.length (j:Int)=some j:=by unfold ixN;rw[Nw ⋯,Nw ⋯];simp
 unfold atI;rw[e];exact h
def yD(b:Expr):Prop:=∀o i,subscripted b false o i=operate [o,i] (getItem o i)
def IxR(X:Cx)(r:R2):Prop :=
 ∀(value slice:Expr)(Nq:P6)(s:F9)(σ:St)(H:Hp)(x y:V)(v u:G3)(Q:VK),Inv X Nq σ H s->RelV x v->RelV y u->r x y H Q ->
  subscripted slice false v u=operate [v,u] (getItem v u)->wpAny (model X.prog X.w) X.A (subscriptTail value slice v u) (EP X Nq σ Q) X.xe s
def MtR(X:Cx)(id:String)(r:V->No V->Hp->VK->Prop):Prop :=
 ∀(Nq:P6)(s:F9)(σ:St)(H:Hp)(x:V)(xs:No V)(v:G3)(us:No G3)(Q:VK),Inv X Nq σ H s->RelV x v->Vals xs us->r x xs H Q ->
  wpAny (model X.prog X.w) X.A (call (.builtin id) (v :: us)) (EP X Nq σ Q) X.xe s
section
variable{X:Cx}{a b:Expr}{ta tb:TE}{pos:Pos}
theorem aB{r:R2}(hr:IxR X r)(ha:PE X a ta)(hb:PE X b tb)(hs:yD b):PE X (.Subscript a b pos) (tOp r ta tb):=by intro Nq s σ H Q I h;exact Subscript_ (Ar ha hb I h λ v u s2 x y H2 I2 rx ry q=>hr a b Nq s2 σ H2 x y v u Q I2 rx ry q (hs _ _))
inductive rIxL(K:C6)(x:V)(y:V)(H:Hp)(Q:VK):Prop
|mk(p:Nj)(xs:No V)(i:Int)(v:V)(_:x=.ref p)(_:y=.int i)(_:SqL K H p xs)(_:atI xs i=some v)(_:Q v H)
inductive rIxT(K:C6)(x:V)(y:V)(H:Hp)(Q:VK):Prop
|mk(p:Nj)(xs:No V)(i:Int)(v:V)(_:x=.ref p)(_:y=.int i)(_:SqT K H p xs)(_:atI xs i=some v)(_:Q v H)
theorem bq:IxR X (rIxL X.K):=by
 intro value slice Nq s σ H x y v u Q I rx ry h hs;obtain⟨p,xs,i,z,rfl,rfl,hq,he,q⟩:=h;cases rx;obtain⟨t,rfl⟩:=ry;obtain⟨its,r,pl,hz⟩:=I.list hq;obtain⟨j,h1,h2,h3,h4,h5⟩:=qR he;obtain⟨w,ew,rw'⟩:=r.get h2;have hl:=r.length;have hn:=mD;have fin:EP X Nq σ Q w s:=%[z,H,I,rw'|q]
 by_cases h0:0<=i
 ·have hj:i.toNat=j:=by rw[seqIndex_of h0 h5]at h1;exact C0 h1
  exact item_listR pl.isList h0 ⋯ (by rw[hj];simpa using ew) fin hs
 ·have hj:(i+(its.toArray.size:Int)).toNat=j:=by rw[seqIndex_neg ⋯ h4]at h1;rw[K1,<- hl];exact C0 h1
  exact subscriptTail_builtinR (x:=w) pl.isList.typeIs slot_list_getitem.lookup
   (wpAny_getItem_list_neg (Q:=λ r s'=>r=w/\EP X Nq σ Q r s') pl.isList ⋯ (by rw[K1] <;> lia) ⋯ (by rw[hj];simpa using ew) %[rfl|fin]) hs
theorem aD:IxR X (rIxT X.K):=by
 intro value slice Nq s σ H x y v u Q I rx ry h hs;obtain⟨p,xs,i,z,rfl,rfl,hq,he,q⟩:=h;cases rx;obtain⟨t,rfl⟩:=ry;obtain⟨its,r,pl,hz⟩:=I.tuple hq;obtain⟨j,h1,h2,h3,h4,h5⟩:=qR he;obtain⟨w,ew,rw'⟩:=r.get h2;have hl:=r.length;have hn:=mD;have fin:EP X Nq σ Q w s:=%[z,H,I,rw'|q]
 exact subscriptTail_builtinR (x:=w) pl.typeIs slot_tuple_getitem.lookup
  (getItem_tuple (j:=j) (Q:=λ r s'=>r=w/\EP X Nq σ Q r s') pl ⋯ ⋯ (by rw[K1,<- hl];exact h1) (by simpa using ew) %[rfl|fin]) hs
theorem pO(its:No G3)(n j:Nat)(u:G3):Obj.mapSeq (·.setIfInBounds j u) { cls:=.type "list",data:=.seq its.toArray n }={ cls:=.type "list",data:=.seq (its.set j u).toArray n }:=by simp[Obj.mapSeq]
theorem Inv.lst{Nq:P6}{σ:St}{H:Hp}{s:F9}{p:Nj}{xs:No V}(I:Inv X Nq σ H s)(h:H p=↥xs) :
  ∃(its:No G3)(n:Nat),Vals xs its/\s.heap.get? p=some { cls:=.type "list",data:=.seq its.toArray n }/\xs.length<=sizeLine:=by
 obtain⟨z,its,n,r,e⟩:=I.hok p _ h;exact%[its,n,r,e|z]
theorem Inv.lstUpd{Nq:P6}{σ:St}{H:Hp}{s:F9}{p:Nj}{xs ys:No V}{its its':No G3}{n n':Nat}{f:Obj->Obj}(I:Inv X Nq σ H s)(h:H p=↥xs)
  (ho:s.heap.get? p=some { cls:=.type "list",data:=.seq its.toArray n }) (hf:f { cls:=.type "list",data:=.seq its.toArray n }={ cls:=.type "list",data:=.seq its'.toArray n' }) (r:Vals ys its') (hz:ys.length<=sizeLine) (t:Nat) :
  Inv X Nq σ (upd H p (.lst ys)) { s with heap:=s.heap.update p f,toks:=t }:=by
 have e:(s.heap.update p f).get? p=some { cls:=.type "list",data:=.seq its'.toArray n' }:=by rw[OG f ho (by rw[hf] <;> rfl),hf]
 show I.write (x:=p) (e:=p) (by rw[h];trivial) (.inl rfl) (λ b u hb q=>(Heap.get?_update_other _ _ (Ne.symm hb)).trans q) %[_|e] ?_;exact%[hz,its',n',r|e]
inductive rSetL(o:V)(i:V)(v:V)(H:Hp)(Q:Hp->Prop):Prop
|mk(p:Nj)(xs:No V)(k:Int)(j:Nat)(_:o=.ref p)(_:i=.int k)(_:H p=↥xs)(_:ixN xs.length k=some j)(_:Q (upd H p (.lst (xs.set j v))))
theorem jI:BA X rSetL:=by
 intro Nq s σ H o i v ov iv u Q I ro ri rv h;obtain⟨p,xs,k,j,rfl,rfl,hp,hj,q⟩:=h;cases ro;obtain⟨t,rfl⟩:=ri;obtain⟨its,n,r,ho,hz⟩:=I.lst hp;obtain⟨h1,h2,h3,h4⟩:=qQ hj;have hl:=r.length;have hn:=mD;have I':Inv X Nq σ (upd H p (.lst (xs.set j v))) { s with heap:=s.heap.update p (Obj.mapSeq (·.setIfInBounds j u)) } :=
  I.lstUpd hp ho (pO its n j u) (r.set rv j) (by rw[List.length_set];exact hz) s.toks
 by_cases h0:0<=k
 ·have hk:k.toNat=j:=by rw[seqIndex_of h0 h4]at h1;exact C0 h1
  exact PySem.W.ki_setAt ho h0 ⋯ (by rw[K1,<- hl];exact h4) (by rw[hk];exact%[_,I'|q])
 ·have hk:(k+(its.toArray.size:Int)).toNat=j:=by rw[seqIndex_neg ⋯ h3]at h1;rw[K1,<- hl];exact C0 h1
  exact PySem.W.ki_setBack ho ⋯ (by rw[K1,<- hl];exact h3) ⋯ (by rw[hk];exact%[_,I'|q])
theorem mE(lo hi:Nm Int)(n:Nat):(sliceBounds lo hi none n).1=((HT.sIx n 0 lo:Nat):Int)/\(sliceBounds lo hi none n).2.1=((HT.sIx n n hi:Nat):Int)/\(sliceBounds lo hi none n).2.2=1:=by
 show%[?_,?_|U]
 ·cases lo with
  | none=>simp[sliceBounds,HT.sIx]
  | some i=>
   simp only[sliceBounds,HT.sIx,Option.getD_none,show(1:Int) > 0 by decide,Oo]
   by_cases h:i < 0
   ·simp only[h,Oo] <;> lia
   ·simp only[h,OJ] <;> lia
 ·cases hi with
  | none=>simp[sliceBounds,HT.sIx]
  | some i=>
   simp only[sliceBounds,HT.sIx,Option.getD_none,show(1:Int) > 0 by decide,Oo]
   by_cases h:i < 0
   ·simp only[h,Oo] <;> lia
   ·simp only[h,OJ] <;> lia
theorem kT(its:No G3)(lo hi:Nm Int):slicePick its.toArray lo hi none=((its.drop (HT.sIx its.length 0 lo)).take (HT.sIx its.length its.length hi - HT.sIx its.length 0 lo)).toArray:=by obtain⟨h1,h2,h3⟩:=mE lo hi its.toArray.size;unfold slicePick;rw[h1,h2,h3];simp only[sliceRange_one,pick_run,K1] <;> rfl
inductive rSlL(K:C6)(x:V)(lo:Nm Int)(hi:Nm Int)(H:Hp)(Q:VK):Prop
|mk(a:Nj)(xs:No V)(_:x=.ref a)(_:SqL K H a xs)(_:∀p,H p=none->Q (.ref p) (upd H p (.lst (jf xs lo hi))))
theorem qS:SlR X (rSlL X.K):=by intro Nq s σ H x v vl vu lo hi sl Q I rx hs pl pu h;obtain⟨a,xs,rfl,hx,q⟩:=h;cases rx;obtain⟨its,r,ht,hz⟩:=I.list hx;have Nt:=r.length;show%["list",_,slot_list_getitem.lookup,ht.isList.typeIs|?_];show wpAny_getItem_list_slice ht.isList hs pl pu .none (by simp) ?_ (by rw[K1] <;> lia);rw[kT,<- Nt];show%[.ref s.heap.objs.size,_,I.laid (t':=s.toks) (o:=.lst (jf xs lo hi)) (λ b ob q=>A8 _ q) (B4 _) ?_,U|q _ (I.hok.fresh (B4 _))];exact%[C7 (iW xs lo hi) hz,_,0,(r.drop (HT.sIx xs.length 0 lo)).take (HT.sIx xs.length xs.length hi - HT.sIx xs.length 0 lo)|A9 _ rfl]
def iX:V->Bool
 | .non=>true
 | .bl _=>true
 | .int _=>true
 | .str _=>true
 | _=>false
def eqV:V->V->Bool
 | .non,.non=>true
 | .bl a,.bl b=>a == b
 | .bl a,.int b=>(if a then 1 else 0) == b
 | .int a,.bl b=>a == (if b then 1 else 0)
 | .int a,.int b=>a == b
 | .str a,.str b=>a == b
 | _,_=>false
theorem Au{A:Around}{s:F9}{y x:V}{u v:G3}(ry:RelV y u)(rx:RelV x v)(fy:iX y=true)(fx:iX x=true):SeqAt.EqAt A s u v (eqV y x):=by
 cases y with
 | non=>
  cases ry;cases x with
  | non=>cases rx;exact SeqAt.EqAt.same _
  | bl b=>cases rx;exact SeqAt.EqAt.none_bool b
  | int b=>obtain⟨t,rfl⟩:=rx;exact SeqAt.EqAt.none_int b t
  | str b=>obtain⟨t,rfl⟩:=rx;exact SeqAt.EqAt.none_str b t
  | _=>exact absurd (show false=true from fx) B3
 | bl a=>
  cases ry;cases x with
  | non=>cases rx;exact SeqAt.EqAt.bool_none a
  | bl b=>cases rx;exact SeqAt.EqAt.bool_bool a b
  | int b=>obtain⟨t,rfl⟩:=rx;exact SeqAt.EqAt.bool_int a b t
  | str b=>obtain⟨t,rfl⟩:=rx;exact SeqAt.EqAt.bool_str a b t
  | _=>exact absurd (show false=true from fx) B3
 | int a=>
  obtain⟨t',rfl⟩:=ry;cases x with
  | non=>cases rx;exact SeqAt.EqAt.int_none a t'
  | bl b=>cases rx;exact SeqAt.EqAt.int_bool a t' b
  | int b=>obtain⟨t,rfl⟩:=rx;exact SeqAt.EqAt.int_int a t' b t
  | str b=>obtain⟨t,rfl⟩:=rx;exact SeqAt.EqAt.int_str a t' b t
  | _=>exact absurd (show false=true from fx) B3
 | str a=>
  obtain⟨t',rfl⟩:=ry;cases x with
  | non=>cases rx;exact SeqAt.EqAt.str_none a t'
  | bl b=>cases rx;exact SeqAt.EqAt.str_bool a t' b
  | int b=>obtain⟨t,rfl⟩:=rx;exact SeqAt.EqAt.str_int a t' b t
  | str b=>obtain⟨t,rfl⟩:=rx;exact SeqAt.EqAt.str_str a t' b t
  | _=>exact absurd (show false=true from fx) B3
 | _=>exact absurd (show false=true from fy) B3
def eqU(x:V)(u:G3):Bool:=match u with
 | .none=>eqV .non x
 | .bool b=>eqV (.bl b) x
 | .int i _=>eqV (.int i) x
 | .str z _=>eqV (.str z) x
 | _=>false
theorem vL{x y:V}{u:G3}(r:RelV y u)(f:iX y=true):eqU x u=eqV y x:=by
 cases y with
 | non=>cases r;rfl
 | bl b=>cases r;rfl
 | int i=>obtain⟨t,rfl⟩:=r;rfl
 | str z=>obtain⟨t,rfl⟩:=r;rfl
 | _=>exact absurd (show false=true from f) B3
theorem gM{x:V}:∀{xs:No V}{us:No G3},Vals xs us->xs.all iX=true->us.any (eqU x)=xs.any λ y=>eqV y x
 | _,_,.nil,_=>rfl
 | y :: xs,u :: us,.cons r t,f=>by rw[List.all_cons,MT]at f;rw[List.any_cons,List.any_cons,vL r f.1,gM t f.2]
theorem eY{A:Around}{s:F9}{x:V}{v:G3}(rx:RelV x v)(fx:iX x=true):∀{xs:No V}{us:No G3},Vals xs us->xs.all iX=true->∀u∈us,SeqAt.EqAt A s u v (eqU x u)
 | _,_,.nil,_=>λ u hu=>by cases hu
 | y :: xs,u :: us,.cons r t,f=>λ u' hu=>by
  rw[List.all_cons,MT]at f;rcases J3.mp hu with rfl | hu
  ·rw[vL r f.1];exact Au r rx f.1 fx
  ·exact eY rx fx t f.2 u' hu
def inV(x:V)(xs:No V):Bool:=xs.any λ y=>eqV y x
def rIn(K:C6)(neg:Bool):R2:=λ x y H Q=>∃p xs,y=.ref p/\(SqL K H p xs\/SqT K H p xs)/\iX x=true/\xs.all iX=true/\Q (.bl (if neg then !inV x xs else inV x xs)) H
theorem sK:OpR X (compareOp .In) (rIn X.K false):=by
 intro Nq s σ H x y v u Q I rx ry h;obtain⟨p,xs,rfl,hq,fx,fs,q⟩:=h;cases ry;rcases hq with hq | hq
 ·obtain⟨its,r,pl,hz⟩:=I.list hq;show SeqAt.in_listAt (eqU x) pl.isList (λ w hw=>eY rx fx r fs w (by simpa using hw)) %[.bl _,H,I,rfl|?_];rw[show its.toArray.any (eqU x)=its.any (eqU x)by simp,gM r fs];exact q
 ·obtain⟨its,r,pl,hz⟩:=I.tuple hq;show SeqAt.in_tupleAt (eqU x) pl (λ w hw=>eY rx fx r fs w (by simpa using hw)) %[.bl _,H,I,rfl|?_];rw[show its.toArray.any (eqU x)=its.any (eqU x)by simp,gM r fs];exact q
theorem mF:OpR X (compareOp .NotIn) (rIn X.K true):=by
 intro Nq s σ H x y v u Q I rx ry h;obtain⟨p,xs,rfl,hq,fx,fs,q⟩:=h;cases ry;rcases hq with hq | hq
 ·obtain⟨its,r,pl,hz⟩:=I.list hq;show SeqAt.notIn_listAt (eqU x) pl.isList (λ w hw=>eY rx fx r fs w (by simpa using hw)) %[.bl _,H,I,rfl|?_];rw[show its.toArray.any (eqU x)=its.any (eqU x)by simp,gM r fs];exact q
 ·obtain⟨its,r,pl,hz⟩:=I.tuple hq;show SeqAt.notIn_tupleAt (eqU x) pl (λ w hw=>eY rx fx r fs w (by simpa using hw)) %[.bl _,H,I,rfl|?_];rw[show its.toArray.any (eqU x)=its.any (eqU x)by simp,gM r fs];exact q
inductive rz_op_notIn_str(x:V)(y:V)(H:Hp)(Q:VK):Prop
|mk(i j:_)(_:x=.str i)(_:y=.str j)(_:Q (.bl (!(!(Builtin.Str.occurrences j i 0 j.length 1).isEmpty))) H)
inductive rz_call_len_seq(K:C6)(xs:No V)(H:Hp)(Q:VK):Prop
|mk(p ys:_)(_:xs=[.ref p])(_:(SqL K H p ys\/SqT K H p ys))(_:Q (.int ys.length) H)
theorem aI:bS X (.builtin "len") (rz_call_len_seq X.K):=by
 intro Nq s σ H xs us Q I r h;obtain⟨p,ys,rfl,hq,q⟩:=h;obtain⟨u,rfl,rx⟩:=dk r;cases rx;have hn:=mD;rcases hq with hq | hq
 ·obtain⟨its,r',pl,hz⟩:=I.list hq;have Nt:=r'.length;exact Calls.call_len_list pl.isList (by simp only[K1] <;> lia) %[.int ys.length,H,I.tok _,%[s.toks+1|by rw[K1,Nt]]|q]
 ·obtain⟨its,r',pl,hz⟩:=I.tuple hq;have Nt:=r'.length;exact len_tuple pl (by simp only[K1] <;> lia) %[.int ys.length,H,I.tok _,%[s.toks+1|by rw[K1,Nt]]|q]
inductive rz_call_len_str(xs:No V)(H:Hp)(Q:VK):Prop
|mk(z:_)(_:xs=[.str z])(_:z.length<=sizeLine)(_:Q (.int z.length) H)
inductive rz_call_list_of(K:C6)(xs:No V)(H:Hp)(Q:VK):Prop
|mk(p ys:_)(_:xs=[.ref p])(_:(SqL K H p ys\/SqT K H p ys))(_:∀l,H l=none->Q (.ref l) (upd H l (.lst ys)))
theorem mG:bS X (.type "list") (rz_call_list_of X.K):=by
 intro Nq s σ H xs us Q I r h;obtain⟨p,ys,rfl,hq,q⟩:=h;obtain⟨u,rfl,rx⟩:=dk r;cases rx;have fin:∀(its:No G3),Vals ys its->ys.length<=sizeLine->∀(h':Heap)(c':Nat),(∀b o',s.heap.get? b=some o'->h'.get? b=some o') ->
   h'.get? s.heap.objs.size=some { cls:=.type "list",dict:=none,data:=.seq its.toArray c',slots:=#[] }->EP X Nq σ Q (.ref s.heap.objs.size) { s with heap:=h' }:=λ its r' hz h' c' kp e=>
  %[.ref s.heap.objs.size,_,I.laid (t':=s.toks) kp (B4 _) (show ObjOk X.prog X.w _ h' _ (.lst ys)from%[hz,its,c',r'|e]),rfl|q _ (I.hok.fresh (B4 _))]
 rcases hq with hq | hq
 ·obtain⟨its,r',pl,hz⟩:=I.list hq;have Nt:=r'.length;obtain⟨o,ho,hc,n,hd⟩:=pl.isList;exact call_list_seq p (.inl rfl) ho hc hd (λ h' c' kp e=>fin its r' hz h' c' kp e) (by simp only[K1] <;> lia)
 ·obtain⟨its,r',pl,hz⟩:=I.tuple hq;have Nt:=r'.length;obtain⟨o,ho,hc,n,hd⟩:=pl;exact call_list_seq p (.inr rfl) ho hc hd (λ h' c' kp e=>fin its r' hz h' c' kp e) (by simp only[K1] <;> lia)
inductive rz_call_tuple_of(K:C6)(xs:No V)(H:Hp)(Q:VK):Prop
|mk(p ys:_)(_:xs=[.ref p])(_:((SqL K H p ys/\∀l,H l=none->Q (.ref l) (upd H l (.tup ys)))\/(SqT K H p ys/\Q (.ref p) H)))
theorem aQ:bS X (.type "tuple") (rz_call_tuple_of X.K):=by
 intro Nq s σ H xs us Q I r h;obtain⟨p,ys,rfl,h⟩:=h;obtain⟨u,rfl,rx⟩:=dk r;cases rx;rcases h with⟨hq,q⟩ | ⟨hq,q⟩
 ·obtain⟨its,r',pl,hz⟩:=I.list hq;have Nt:=r'.length;show call_tuple_list pl.isList (λ h' kp=>?_) (by simp only[K1] <;> lia);have I1:Inv X Nq σ H { s with heap:=h' }:=I.kept (t':=s.toks) kp;have I2:Inv X Nq σ (upd H h'.objs.size (.tup ys)) { s with heap:=h'.push { cls:=.type "tuple",data:=.seq its.toArray } } :=
   I1.laid (t':=s.toks) (λ b o e=>A8 _ e) (B4 _) (show ObjOk X.prog X.w _ _ _ (.tup ys)from%[hz,its,r'|IsTup.new _ _])
  exact%[.ref h'.objs.size,_,I2,U|q _ (I1.hok.fresh (B4 _))]
 ·obtain⟨its,r',pl,hz⟩:=I.tuple hq;exact call_tuple_same pl %[.ref p,H,I,rfl|q]
def tyV(K:C6)(T:String)(x:V)(H:Hp):Prop:=match x with
 | .str _=>T = "str"
 | .int _=>T = "int"
 | .ref p=>(T = "list" /\ ∃xs,SqL K H p xs)\/(T = "tuple" /\ ∃o,K.lookup p=some o/\o.cls=.type "tuple" /\ o.dict=none) \/
   (T = "dict" /\ ((∃kvs,H p=some (.dK kvs))\/∃kvs,H p=some (.dT kvs)))\/(T = "set" /\ ∃S n,H p=some (.set S n))
 | _=>False
theorem vM{Nq:P6}{σ:St}{H:Hp}{s:F9}{T:String}{x:V}{v:G3}(I:Inv X Nq σ H s)(r:RelV x v)(ty:tyV X.K T x H) :
  s.TypeIs v T/\∀a,v=.ref a->∃ob,s.heap.get? a=some ob/\ob.dict=none:=by
 cases x with
 | str z=>
  obtain⟨t,rfl⟩:=r;cases(show T = "str" from ty);exact%[typeIs_str s z t|λ _ e=>nomatch e]
 | int i=>
  obtain⟨t,rfl⟩:=r;cases(show T = "int" from ty);exact%[typeIs_int s i t|λ _ e=>nomatch e]
 | ref p=>
  cases r;rcases ty with⟨rfl,xs,hq⟩ | ⟨rfl,o,hk,hc,hd⟩ | ⟨rfl,hk⟩ | ⟨rfl,S,n,hk⟩
  ·obtain⟨its,_,pl,_⟩:=I.list hq;show%[pl.isList.typeIs|λ a e=>?_];cases e;obtain⟨o,n,e,c,hd,_⟩:=pl;exact%[o,e|hd]
  ·show%[%[o,I.kIn p o hk|hc]|λ a e=>?_];cases e;exact%[o,I.kIn _ o hk|hd]
  ·have z:∃o,s.heap.get? p=some o/\o.ExactDict:=by
    rcases hk with⟨kvs,hk⟩ | ⟨kvs,hk⟩
    ·obtain⟨_,_,_,_,o,_,_,e,ex,_⟩:=I.hok p _ hk;exact%[o,e|ex]
    ·obtain⟨_,_,_,_,o,_,_,e,ex,_⟩:=I.hok p _ hk;exact%[o,e|ex]
   obtain⟨o,e,ex⟩:=z;show%[%[o,e|ex.1]|λ a e2=>?_];cases e2;exact%[o,e|ex.2.1]
  ·obtain⟨o,_,_,_,e,ex,_⟩:=I.hok p _ hk;show%[%[o,e|ex.1]|λ a e2=>?_];cases e2;exact%[o,e|ex.2.1]
 | _=>exact F0 ty
def Jz(K:C6)(T:String)(r:V->No V->Hp->VK->Prop)(to:TE):TE:=λ σ H Q=>to σ H λ x H1=>tyV K T x H1/\r x [] H1 Q
def tBM(K:C6)(T:String)(r:V->No V->Hp->VK->Prop)(to:TE)(t:TA):TE:=λ σ H Q=>to σ H λ x H1=>tyV K T x H1/\t σ H1 λ xs H2=>r x xs H2 Q
variable{o e:Expr}{es:No Expr}{to:TE}{t:TA}{name:Str}{apos cpos:Pos}{T id:String}{r:V->No V->Hp->VK->Prop}
theorem Av(pa:PlainAttrs T)(slot:Slot T name id)(hty:typeOf (.builtin id)=pure (.type "method_descriptor"))(hm:MtR X id r)(ho:PE X o to)
  (hbase:attributeBase o name X.env (eval o X.env)=eval o X.env:=by rfl) (hline:(apos.endLine == cpos.line)=true:=by rfl):PE X (.Call (.Attribute o name apos) [] [] cpos) (Jz X.K T r to):=by
 intro Nq s σ H Q I h;show wpAny_Call_method0_late hbase hline (thn (ho Nq s σ H _ I h) ?_);rintro v s1 ⟨x,H1,I1,r1,ty,q1⟩;obtain⟨h1,h2⟩:=vM I1 r1 ty;exact%[T,id,pa,slot,hty,h1,h2|Calls.callWith_builtin rfl (PySem.evalArgs_none (hm Nq s1 σ H1 x [] v [] Q I1 r1 .nil q1))]
theorem fX(pa:PlainAttrs T)(slot:Slot T name id)(hty:typeOf (.builtin id)=pure (.type "method_descriptor"))(hm:MtR X id r)(ho:PE X o to)(ha:PA X (e :: es) t)
  (hbase:attributeBase o name X.env (eval o X.env)=eval o X.env:=by rfl)
  (hfew:((backTo cpos (starEach (e :: es) X.env)).all (λ x=>!x.1) && (backToKw cpos (keywordEach [] X.env)).all (λ x=>x.1.isSome)
   && decide ((e :: es).length+([]:No Keyword).length+(if ([]:No Keyword).isEmpty then 0 else 1) < 30))=true:=by rfl)
  (hline:(apos.endLine == cpos.line)=true:=by rfl) (hs:starEach (e :: es) X.env=(false,eval e X.env) :: starEach es X.env:=by rfl) (hplain:(backTo cpos (starEach es X.env)).any (·.1)=false:=by rfl) :
  PE X (.Call (.Attribute o name apos) (e :: es) [] cpos) (tBM X.K T r to t):=by
 intro Nq s σ H Q I h;show wpAny_Call_method_late hbase hfew hline rfl (thn (ho Nq s σ H _ I h) ?_);rintro v s1 ⟨x,H1,I1,r1,ty,q1⟩;obtain⟨h1,h2⟩:=vM I1 r1 ty;show%[T,id,pa,slot,hty,h1,h2|?_];have hA:=ha cpos Nq s1 σ H1 _ I1 q1;rw[hs]at hA ⊢;show Calls.callWith_builtin (by change(false || (backTo cpos (starEach es X.env)).any (·.1))=false;rw[hplain] <;> rfl) (Calls.evalArgs_plain ?_);exact thn hA λ us s2 %[vs,H2,I2,r2|q2]=>hm Nq s2 σ H2 x vs v us Q I2 r1 r2 q2
/- xs.append(e),list.index on a module's tuple .. are MtR facts of 06m -/
end
def MtM(X:Cx)(id:String)(r:V->No V->Hp->VK->Prop):Prop :=
 ∀(Nq:P6)(s:F9)(σ:St)(H:Hp)(x:V)(xs:No V)(v:G3)(us:No G3)(Q:VK),Inv X Nq σ H s->RelV x v->Vals xs us->r x xs H Q ->
  wpAny (model X.prog X.w) X.A (call (.builtin id) (v :: us)) (EP X Nq σ Q) X.xe s
theorem Vals.one:∀{x:V}{us:No G3},Vals [x] us->∃u,us=[u]/\RelV x u
 | _,_,.cons r .nil=>%[_,U|r]
theorem Vals.zero:∀{us:No G3},Vals [] us->us=[]
 | _,.nil=>rfl
theorem Vals.dropLast{xs:No V}{us:No G3}(h:Vals xs us):Vals xs.dropLast us.dropLast:=by
 induction h with
 | nil=>exact .nil
 | cons r t ih=>
  cases t with
  | nil=>exact .nil
  | cons q t'=>exact .cons r ih
theorem Vals.rep{xs:No V}{us:No G3}(h:Vals xs us):∀k:Nat,Vals (List.replicate k xs).flatten (List.replicate k us).flatten
 | 0=>.nil
 | k+1=>by rw[Mt,Mt,NW,NW];exact Vals.append h (Vals.rep h k)
theorem pP{α:Type}(l:No α):l.eraseIdx (l.length - 1)=l.dropLast:=by
 induction l with
 | nil=>rfl
 | cons a r ih=>
  cases r with
  | nil=>rfl
  | cons b r=>
   have e:(a :: b :: r).length - 1=((b :: r).length - 1)+1:=by have h1:(a :: b :: r).length=r.length+2:=rfl;have h2:(b :: r).length=r.length+1:=rfl;lia
   rw[e,List.eraseIdx_cons_succ,ih]
   all_goals rfl
theorem lA(its:No G3):∀(k:Nat)(acc:No G3),
  List.foldl (λ x1 x2=>x1 ++ x2) acc.toArray (List.replicate k its.toArray)=(acc ++ (List.replicate k its).flatten).toArray
 | 0,acc=>by simp
 | k+1,acc=>by
  have e:acc.toArray ++ its.toArray=(acc ++ its).toArray:=by simp
  have e2:(acc ++ its) ++ (List.replicate k its).flatten=acc ++ (List.replicate (k+1) its).flatten:=by rw[Mt,NW,MA]
  rw[<- e2,<- lA its k (acc ++ its),<- e,Mt,List.foldl_cons]
section
variable{X:Cx}{Nq:P6}{σ:St}{H:Hp}{s:F9}{l b:Nj}{xs ys zs:No V}
theorem Inv.lset{its its':No G3}{n:Nat}{f:Nn G3->Nn G3}{t':Nat}(I:Inv X Nq σ H s)(hH:H l=↥xs)
  (e:s.heap.get? l=some { cls:=.type "list",data:=.seq its.toArray n }) (hf:f its.toArray=its'.toArray) (hv:Vals ys its') (hz:ys.length<=sizeLine) :
  Inv X Nq σ (upd H l (.lst ys)) { s with heap:=s.heap.update l (Obj.mapSeq f),toks:=t' }:=by
 have q:=PySem.IsL.update e f;rw[hf]at q;show I.write (x:=l) (e:=l) (by rw[hH];exact trivial) (.inl rfl) (λ b' u hb hu=>(Heap.get?_update_other s.heap (Obj.mapSeq f) (Ne.symm hb)).trans hu) %[_|q] ?_;exact%[hz,its',_,hv|q]
theorem Inv.lnew{its:No G3}{t':Nat}(I:Inv X Nq σ H s)(hv:Vals ys its)(hz:ys.length<=sizeLine) :
  Inv X Nq σ (upd H s.heap.objs.size (.lst ys)) { s with heap:=s.heap.push { cls:=.type "list",data:=.seq its.toArray },toks:=t' } :=
 I.laid (λ _ _ q=>A8 _ q) (B4 _) %[hz,its,0,hv|A9 _ rfl]
theorem Inv.fresh(I:Inv X Nq σ H s):H s.heap.objs.size=none:=I.hok.fresh (B4 _)
theorem Inv.lstM(I:Inv X Nq σ H s)(hH:H l=↥xs):xs.length<=sizeLine/\∃(its:No G3)(n:Nat),Vals xs its/\xs.length=its.length/\s.heap.get? l=some { cls:=.type "list",data:=.seq its.toArray n }:=by obtain⟨z,its,n,r,e⟩:=I.hok l _ hH;exact%[z,its,n,r,r.length|e]
theorem nG{n:Nat}(h:n<=sizeLine):Builtin.List.listTooLong n=false:=by unfold Builtin.List.listTooLong;exact B2 ⋯
end
section
variable{X:Cx}
inductive rAppend(x:V)(vs:No V)(H:Hp)(Q:VK):Prop
|mk(l:Nj)(xs:No V)(y:V)(_:x=.ref l)(_:vs=[y])(_:H l=↥xs)(_:xs.length < sizeLine)(_:Q .non (upd H l (.lst (xs ++ [y]))))
theorem dS:MtM X "list.append" rAppend:=by intro Nq s σ H x vs v us Q I rx rv h;obtain⟨l,xs,y,rfl,rfl,hH,hz,q⟩:=h;cases rx;obtain⟨u,rfl,ru⟩:=rv.one;obtain⟨z,its,n,r,hl,e⟩:=I.lstM hH;show call_meets F.slot_list_append %[_,e|U] F.entry_list_append (F.args_list_append_2 _ _) (PySem.list_append l its.toArray n u (by rw[K1];lia)) %[e|?_];show%[.non,_,I.lset (its':=its ++ [u]) hH e (by simp) (r.append (.cons ru .nil)) ?_,U|q];rw[K4,List.length_singleton];lia
def yE:V->No V->Hp->VK->Prop:=λ x vs H Q=>∃l b xs zs,x=.ref l/\vs=[.ref b]/\H l=↥xs/\H b=↥zs/\xs.length+zs.length<=sizeLine/\Q .non (upd H l (.lst (xs ++ zs)))
theorem lB:MtM X "list.extend" yE:=by
 intro Nq s σ H x vs v us Q I rx rv h;obtain⟨l,b,xs,zs,rfl,rfl,hH,hB,hz,q⟩:=h;cases rx;obtain⟨u,rfl,ru⟩:=rv.one;cases ru;obtain⟨z,its,n,r,hl,e⟩:=I.lstM hH;obtain⟨z2,its2,n2,r2,hl2,e2⟩:=I.lstM hB;have hsz:its.toArray.size+its2.toArray.size<=sizeLine:=by rw[K1,K1];lia
 have hlong:¬ (!its.toArray.isEmpty && Builtin.List.listTooLong (its.toArray.size+its2.toArray.size))=true:=by rw[nG hsz,Bool.and_false];exact B3
 show call_meets F.slot_list_extend %[_,e|U] F.entry_list_extend (F.args_list_extend_2 _ _)
  (AutoSeq1.list_extend_list_list_0 l its.toArray n b its2.toArray n2 hlong (by rw[K1];lia) ⋯) %[e,e2|?_]
 show%[.non,_,I.lset (its':=its ++ its2) hH e (by simp) (r.append r2) ?_,U|q];rw[K4];lia
def JA:V->No V->Hp->VK->Prop:=λ x vs H Q=>∃l xs y,x=.ref l/\vs=[]/\H l=↥xs/\xs[xs.length - 1]?=some y/\Q y (upd H l (.lst xs.dropLast))
theorem Aw:MtM X "list.pop" JA:=by
 intro Nq s σ H x vs v us Q I rx rv h;obtain⟨l,xs,y,rfl,rfl,hH,hy,q⟩:=h;cases rx;have hus:=rv.zero;subst hus;obtain⟨z,its,n,r,hl,e⟩:=I.lstM hH;obtain⟨u,hu,ru⟩:=r.get hy;have hy':its.toArray[its.toArray.size - 1]?=some u:=by change its.toArray[its.length - 1]?=some u;rw[<- K2,<- hl];exact hu
 show call_meets F.slot_list_pop %[_,e|U] F.entry_list_pop (F.args_list_pop_1 _) (MeetsSeq.list_pop_last l its.toArray n u hy' (by rw[K1];lia)) %[e|?_];show%[y,_,I.lset (its':=its.dropLast) hH e ?_ r.dropLast ?_,ru|q]
 ·change its.toArray.eraseIdxIfInBounds (its.toArray.size - 1)=its.dropLast.toArray;rw[K1,List.eraseIdxIfInBounds_toArray,pP]
 ·rw[List.length_dropLast];lia
inductive rCat(x:V)(y:V)(H:Hp)(Q:VK):Prop
|mk(l b:Nj)(xs zs:No V)(_:x=.ref l)(_:y=.ref b)(_:H l=↥xs)(_:H b=↥zs)(_:xs.length+zs.length<=sizeLine)(_:∀p,H p=none->Q (.ref p) (upd H p (.lst (xs ++ zs))))
theorem mH:OpR X (binaryOp .Add) rCat:=by
 intro Nq s σ H x y v u Q I rx ry h;obtain⟨l,b,xs,zs,rfl,rfl,hH,hB,hz,q⟩:=h;cases rx;cases ry;obtain⟨z,its,n,r,hl,e⟩:=I.lstM hH;obtain⟨z2,its2,n2,r2,hl2,e2⟩:=I.lstM hB;show PySem.P.add_list e e2 ?_ (by rw[K1,K1];lia);have ea:its.toArray ++ its2.toArray=(its ++ its2).toArray:=by simp
 rw[ea];exact%[.ref _,_,I.lnew (t':=s.toks) (r.append r2) (by rw[K4];lia),U|q _ I.fresh]
def JB:R2:=λ x y H Q=>∃l k xs,x=.ref l/\y=.int k/\H l=↥xs/\-(2 ^ 63)<=k/\k < 2 ^ 63/\xs.length * k.toNat<=sizeLine /\
 ∀p,H p=none->Q (.ref p) (upd H p (.lst (List.replicate k.toNat xs).flatten))
theorem yF{α:Type}(xs:No α)(k:Nat):(List.replicate k xs).flatten.length=k * xs.length:=by
 induction k with
 | zero=>simp
 | succ k ih=>rw[Mt,NW,K4,ih,Nat.succ_mul,Nat.add_comm]
theorem Ax:OpR X (binaryOp .Mult) JB:=by
 intro Nq s σ H x y v u Q I rx ry h;obtain⟨l,k,xs,rfl,rfl,hH,h1,h2,hz,q⟩:=h;cases rx;obtain⟨t,rfl⟩:=ry;obtain⟨z,its,n,r,hl,e⟩:=I.lstM hH;have Nt:its.toArray.size * k.toNat<=sizeLine:=by rw[K1,<- hl];exact hz
 have hcap:¬ its.toArray.size * k.toNat > (2 ^ 63 - 1) / 8:=by
  have:(sizeLine:Nat)<=(2 ^ 63 - 1) / 8:=∅
  lia
 have hfit:¬ (!Builtin.List.listFitsIndex k)=true:=by rw[fitsIndex_both h1 h2];exact B3
 have hlong:¬ Builtin.List.listTooLong (its.toArray.size * k.toNat)=true:=by rw[nG Nt];exact B3
 have hnew:List.foldl (λ x1 x2=>x1 ++ x2) #[] (List.replicate (if its.toArray.isEmpty=true then 0 else k.toNat) its.toArray)=(List.replicate k.toNat its).flatten.toArray:=by
  have f0:∀m:Nat,List.foldl (λ x1 x2=>x1 ++ x2) #[] (List.replicate m its.toArray)=(List.replicate m its).flatten.toArray:=λ m=>by have:=lA its m [];rw[List.nil_append]at this;exact this
  rw[f0];cases its with
  | nil=>simp
  | cons a r'=>rw[Nv (by simp)]
 show wpAny_binaryOp_repeat_ref (T := "list") (U := "int") ∅ %[_,e|rfl] (λ s'=>typeIs_int s' k t) noFill_list_mul F.fills_int_mul F.slot_int_rmul repeat_list F.slot_int_index.lookup
  (call_meets F.slot_int_rmul (typeIs_int s k t) F.entry_int_rmul (F.args_int_rmul_2 _ _) (int___rmul___int_list k t l its.toArray n)
   %[e,rfl,%[_,e|rfl]|call_meets F.slot_list_mul %[_,e|rfl] F.entry_list_mul (F.args_list_mul_2 _ _) (AutoListH.list___mul___list_int_3 l its.toArray n k t hfit hcap hlong) %[e|?_]])
 rw[hnew];exact%[.ref _,_,I.lnew (t':=s.toks) (r.rep k.toNat) (by rw[yF,Nat.mul_comm];exact hz),U|q _ I.fresh]
end
end L2
namespace Att
open PySem PySem.W PySem.Calls PyProof.Rows
theorem jg{P:Params}{h:Heap}:∀(ns:Pz)(vs:No G3),WellAll P h vs (ns.map WData.int)->IntsAre vs ns:=by
 intro ns
 induction ns with
 | nil=>
  intro vs w;rw[MY]at w;cases w;exact .nil
 | cons n ns ih=>
  intro vs w;rw[J6]at w;cases w with
  | cons a b=>
   cases a;exact .cons _ _ (ih _ b)
theorem sL{l:OpenLaw}{n:Nat}(hn:l.most=some n){P:Params}{h:Heap}{args:No WData}{vals:No G3}
  (hpre:l.row.toRowW.claim.pre args=true) (hwl:WellAll P h vals args) :
  ∃a vs ns,vals=[Value.ref a]/\args=[WData.list (ns.map WData.int)]/\h.get? a=some { cls:=.type "list",data:=.seq vs.toArray }/\IntsAre vs ns/\ns.length<=n:=by
 have hsh:WShape.hasAll [] args [.list .int]=true:=(pre_splitW hpre).1;have hc:l.pre.holds [] { args:=args }=true:=(pre_splitW hpre).2;obtain⟨d,r,rfl,h1,h2⟩:=hasAllW_cons hsh;obtain rfl:=hasAllW_nil h2;obtain⟨xs,rfl,h3⟩:=hasW_list h1;obtain⟨ns,rfl⟩:=items_int h3;have Nt:ns.length<=n:=by
  unfold OpenLaw.pre at hc;have h4:(WTm.not (.lt (.lit (.int (n:Int))) (.len (.arg 0)))).holds [] { args:=[.list (ns.map .int)] }=true:=by have h4:=(holds_andW hc).1;rw[hn]at h4;exact h4
  have h5:=condW_of h4 (w_not (w_lt w_lit (w_len_list (w_arg rfl))));rw[B5]at h5;show Nat.le_of_not_lt λ q=>?_;have q':(n:Int) < ((ns.length:Nat):Int):=⋯
  first
   | (rw[Ny q']at h5;exact absurd h5 ∅)
   | (simp at h5;lia)
 cases hwl with
 | cons w1 w2=>
  cases w2;cases w1 with
  | list ho hall=>exact%[_,_,ns,U,U,ho,jg ns _ hall|Nt]
theorem sM(l:OpenLaw)(args:No WData):l.row.toRowW.claim.post args (.bool true) args=true :=
 postW_of (r:=l.row.toRowW) (X:=(true == true))
  (show WShape.has [] (.bool true) .bool=true by first | rfl | decide | simp[WShape.has,WShape.arms,WShape.armsAll])
  (show(WTm.eq .res (.lit (.bool true))).value [] { args:=args,res:=some (.bool true),after:=args }=some (.bool (true == true))from w_eq_bool (w_res rfl) w_lit) rfl
theorem attach_call{l:OpenLaw}{n:Nat}{q:G0}{loose:No Str}{XP:(Str->Nm G3)->Heap->Prop}{YP:G2->Heap->Prop}{d:DefRec}
  (hn:l.most=some n) (hdf:d.params.defaults=[])
  (call:∀(w:G2)(s₀ s₁:F9)(mg mb:Str->Nm G3)(fa:Nj)(o:Obj)(pm cd doc:G3)(a:Nj)(vs:No G3)(ns:Pz),
   Ground q loose [] XP w s₀ mg mb s₁.heap->YP w s₁.heap ->
   s₁.heap.get? fa=some o->o.data=.func (docDef d.name d.params d.body d.scope pm cd doc)->s₁.heap.CodeRec cd d.name->mg d.name=↑fa ->
   s₁.heap.get? a=some { cls:=.type "list",data:=.seq vs.toArray }->IntsAre vs ns->ns.length<=n->s₁.gens=#[] ->
   codeAny (model l.prog w) callerA (.call (.ref fa) %[[.ref a]|[]]) (λ r s'=>r=.ok (.ret (.bool true))/\OldK s₁.heap s'.heap/\s'.os=s₁.os/\AllBare s'.gens) s₁) :
  WalkO q loose XP YP l.row.toRowW d [] (λ f vs=>PySem.call f vs):=by
 intro w s₀ s₁ mg mb G Y fa o pm cd doc dV kV ho hd hcd hD hmg hg args vals as hpre hlay hrd hwl hlo;obtain rfl:dV=.none:=Dflts.none hD hdf;obtain rfl:kV=.none:=Dflts.noKw hD;obtain⟨a,vs,ns,rfl,rfl,hobj,hints,Nt⟩:=sL hn hpre hwl;show enter_call (codeAny_mono (call w s₀ s₁ mg mb fa o pm cd doc a vs ns G Y ho (fd_plain hd) hcd hmg hobj hints Nt hg) λ r s' hq=>?_);obtain⟨rfl,h2,h3,h4⟩:=hq;exact%[.inl %[.bool true,.bool true,[],U,λ _=>rfl,.bool true,sM l _|λ _=>%[List.Pairwise.nil|λ _ hm=>(nomatch hm)]],h2,h3|h4]
section
variable{prog:G0}{w:G2}{A:Around}{E:G3->F9->Prop}{s:F9}{K:Frag}
def JC(h:Heap)(L d:Nj):P6:=(List.range h.objs.size).filterMap λ a=>if a=L\/a=d then none else(h.get? a).map λ o=>(a,o)
end
end Att
namespace L2
open PySem PySem.Spec PyProof.Rows
theorem lC:∀{vs:No G3}{ns:Pz},IntsAre vs ns->Vals (ns.map V.int) vs
 | _,_,.nil=>.nil
 | _,_,.cons n t h=>.cons %[t|U] (lC h)
def Ay(H:Hp):Prop:=∀b,H b=none\/∃o xs,H b=some (.frz o (.lst xs))
theorem vN{P:G0}{w:G2}{K:C6}{mg mb:Str->Nm G3}{CX:CXT}{k:Nat}{fa a:Nj}{fd:G1}{x:Str}{sp:Sp}{s₁:F9}{vs:No G3}{ns:Pz}
  (KX:K.In s₁.heap) (hns:s₁.heap.Ns Np mg) (hb:s₁.heap.Ns builtinsNs mb) (hbb:∀x:Str,x ≠ "__name__" -> mb x=bootBuiltins x) (hlim:s₁.heap.NoLimit) (hg:s₁.gens=#[])
  (ha:s₁.heap.get? a=some { cls:=.type "list",data:=.seq vs.toArray }) (hi:IntsAre vs ns) (hl:ns.length<=sizeLine) (hr:Room k callerA)
  (F:∀base:Heap,K.In base->base.Ns Np mg->FnOk P w K mg base CX k fa fd [x] sp) (hbind:∀(s:F9)(u:G3),BindsTo s fd %[[u]|[]] [(x,u)])
  (hsp:∀H:Hp,Ay H->SqL K H a (ns.map V.int)->sp [.ref a] H (λ v _=>v=.bl true) λ _ _ _=>False)
  (hCX:∀H e s',CX [] H s₁ (λ _ _ _=>False) e s'->False) :
  codeAny (model P w) callerA (.call (.ref fa) %[[.ref a]|[]]) (λ r s'=>r=.ok (.ret (.bool true))/\OldK s₁.heap s'.heap/\s'.os=s₁.os/\AllBare s'.gens) s₁:=by
 have rv:=lC hi;have lenV:=hi.length;have core:∀H:Hp,Ay H->SqL K H a (ns.map V.int)->HOk P w H s₁.heap->(∀b,H b≠none->b=a)->(H a≠none->K.lookup a=none) ->
   codeAny (model P w) callerA (.call (.ref fa) %[[.ref a]|[]]) (λ r s'=>r=.ok (.ret (.bool true))/\OldK s₁.heap s'.heap/\s'.os=s₁.os/\AllBare s'.gens) s₁:=by
  intro H hO hS hok hA hK;have base_of:∀{b:Nj}{o:Obj},s₁.heap.get? b=some o->H b=none->(mj s₁.heap H).get? b=some o:=λ e n=>vw e n;have noA:∀{b:Nj}{o:Obj}{es:Nn DictEntry}{ep:Nat},s₁.heap.get? b=some o->o.data=.dict es ep->H b=none:=λ {b o es ep} e d=>by
   cases q:H b with
   | none=>rfl
   | some u=>
    have e':b=a:=hA b (by rw[q];simp);subst e';rw[ha]at e;cases e;have d':Data.seq vs.toArray _=Data.dict es ep:=d;cases d'
  have nsK:∀{b:Nj}{m:Str->Nm G3},s₁.heap.Ns b m->(mj s₁.heap H).Ns b m:=λ {b m} ⟨o,es,ep,e,d,r⟩=>%[o,es,ep,base_of e (noA e d),d|r]
  have hKb:K.In (mj s₁.heap H):=λ b o e=>base_of (KX b o e) (by
   cases q:H b with
   | none=>rfl
   | some u=>
    have e':b=a:=hA b (by rw[q];simp);subst e';rw[hK (by rw[q];simp)]at e;cases e)
  have hM:Mod K mg (mj s₁.heap H):=%[hKb,nsK hns,%[mb,nsK hb|hbb]|let ⟨mc,h1,h2⟩:=hlim;%[mc,nsK h1|h2]]
  have e0:Env0 P w K mg (mj s₁.heap H) callerA [] s₁ H:=%[U,hM,λ b o e=>yo e,NK (sD _ _),trivial,λ b hb=>absurd (show b∈([]:No Nj)from hb) (by simp),hok|.of_eq hg]
  show codeAny_mono ((F _ hKb (nsK hns)).run callerA [] s₁ H %[[.ref a]|[]] [.ref a] [.ref a] _ _ hr e0 (hbind s₁ (.ref a)) (.cons rfl .nil) (hsp H hO hS)) λ r s' h=>?_;cases r with
  | error e=>exact(hCX H e s' h).elim
  | ok fl=>
   cases fl with
   | next=>exact F0 h
   | brk=>exact F0 h
   | cont=>exact F0 h
   | ret u=>
    obtain⟨v,H',os,bare,un,hok',r',q⟩:=h;have q':v=.bl true:=q;subst q';obtain rfl:u=Value.bool true:=r';show%[U,OldK.of_keep λ b o e=>?_,os|bare];cases q:H b with
    | none=>exact un.keep b o e q (by intro z;exact absurd (show b∈([]:No Nj)from z) (by simp)) (by simp)
    | some u=>
     rcases hO b with z | ⟨ob,xs,z⟩
     ·rw[q]at z;cases z
     ·have z2:=un.frzs b ob _ z;obtain⟨e1,_⟩:=hok b _ z;obtain⟨e2,_⟩:=hok' b _ z2;rw[e]at e1;cases e1;exact e2
 cases hk:K.lookup a with
 | some o=>
  have e:=KX a o hk;rw[ha]at e;cases e;show core (λ _=>none) (λ _=>.inl rfl) (.inr %[_,vs.toArray,_,hk,U,U,U,by rw[K1,lenV];exact hl|by simpa using rv]) (λ b u z=>by have z':(none:Nm HO)=some u:=z;cases z') (λ b z=>absurd rfl z) λ z=>absurd rfl z
 | none=>
  show core (λ b=>if b=a then some (.frz { cls:=.type "list",data:=.seq vs.toArray } (.lst (ns.map V.int)))else none) (λ b=>?_) (.inl (.inr %[{ cls:=.type "list",data:=.seq vs.toArray }|Nw rfl])) (λ b u z=>?_) (λ b z=>?_) λ _=>hk
  ·by_cases hb:b=a
   ·exact .inr %[_,_|Nw hb]
   ·exact .inl (Nv hb)
  ·by_cases hb:b=a
   ·have z':=(Nw hb).symm.trans z;cases z';subst hb;exact%[ha,by rw[B5];exact hl,vs,_,rv|ha]
   ·have z':=(Nv hb).symm.trans z;cases z'
  ·by_cases hb:b=a
   ·exact hb
   ·exact absurd (Nv hb) z
theorem walk_of{l:PySem.W.OpenLaw}{n k:Nat}{q:G0}{loose:No Str}{XP:(Str->Nm G3)->Heap->Prop}{YP:G2->Heap->Prop}{d:DefRec}{K:Params->C6}{CX:G2->CXT}{sp:G2->Sp}{x:Str}
  (hn:l.most=some n) (hn2:n<=sizeLine) (hdf:d.params.defaults=[]) (hr:Room k callerA)
  (hY:∀(w:G2)(h:Heap),YP w h->(K w.params).In h)
  (F:∀(w:G2)(mg:Str->Nm G3)(fa:Nj)(h:Heap),(K w.params).In h->h.Ns Np mg->mg d.name=↑fa ->
   ∃fd:G1,(∀(s:F9)(u:G3),BindsTo s fd %[[u]|[]] [(x,u)]) /\
    ∀base:Heap,(K w.params).In base->base.Ns Np mg->FnOk l.prog w (K w.params) mg base (CX w) k fa fd [x] (sp w))
  (hsp:∀(w:G2)(H:Hp)(a:Nj)(ns:Pz),ns.length<=n->Ay H->SqL (K w.params) H a (ns.map V.int)->sp w [.ref a] H (λ v _=>v=.bl true) λ _ _ _=>False)
  (hCX:∀(w:G2)(H:Hp)(s:F9)(e:G3)(s':F9),CX w [] H s (λ _ _ _=>False) e s'->False) :
  PySem.W.WalkO q loose XP YP l.row.toRowW d [] (λ f vs=>PySem.call f vs):=by
 show Att.attach_call hn hdf λ w s₀ s₁ mg mb fa o pm cd doc a vs ns G Y ho hd hcd hmg hobj hints Nt hg=>?_;have KX:=hY w _ Y;obtain⟨fd,hb,hF⟩:=F w mg fa _ KX G.T.g hmg;exact vN KX G.T.g G.T.b G.T.builtins G.T.nolimit hg hobj hints (C7 Nt hn2) hr hF hb (λ H hO hS=>hsp w H a ns Nt hO hS) λ H e s'=>hCX w H s₁ e s'
def inClass(s:Stmt)(j:Nat):Stmt:=match s with
 | .ClassDef _ _ _ body _ _ _ _ _ _ _=>body.getD j (.Pass %[0,0,0|0])
 | _=>.Pass %[0,0,0|0]
def defArgs(s:Stmt):Arguments:=match s with
 | .FunctionDef _ a _ _ _ _ _ _ _ _=>a
 | _=>{ posonlyargs:=[],args:=[],vararg:=none,kwonlyargs:=[],kw_defaults:=[],kwarg:=none,defaults:=[] }
def defBody(s:Stmt):No Stmt:=match s with
 | .FunctionDef _ _ b _ _ _ _ _ _ _=>b
 | _=>[]
def defScope(s:Stmt):Scope:=match s with
 | .FunctionDef _ _ _ _ _ _ sc _ _ _=>sc
 | _=>{ kind:=.function,names:=[],isGenerator:=false,isCoroutine:=false }
abbrev CX0:CXT:=λ _ _ _ _ _ _=>False
abbrev E0:XK:=λ _ _ _=>False
theorem qU{X:Cx}:gh CX0 X E0:=λ _ _ _ _ _ _ _ h=>h.elim
structure Fun(K:C6)(x qual:Str)(st:Stmt)(f:Nj)(fd:FuncData):Prop where
 ex:∃(oc:G3)(od:Nm Nj)(kV doc pm:G3)(an:Nm Nj)(cdv ct:G3)(osl:Nn (Nm G3)),
  fd=E9 x qual (defArgs st) (defBody st) (defScope st) .none kV doc pm an cdv ct/\K.lookup f=some %[oc,od,.func fd|osl]/\PySem.W.codeIn K cdv qual=true
 kp:PySem.W.keepIn K (.ref f)=true
section
variable{P:G0}{w:G2}{K:C6}{mg:Str->Nm G3}{base:Heap}
theorem Fun.ok{x qual:Str}{st:Stmt}{f:Nj}{fd:G1}{N ps:No Str}{k:Nat}{sp:Sp}(F:Fun K x qual st f fd)(S:FnScope N ps (defScope st))(len:∀vs H Q E,sp vs H Q E->vs.length=ps.length)
  (hbody:∀(cdv:G3)(A:Around)(outer:No Env)(s:F9)(H:Hp)(vs:No V)(Q:VK)(E:XK),Room k (A.deeper (envOfC qual (defScope st) s.heap.objs.size f cdv))->sp vs H Q E ->
   ∃t,PSs (pL CX0 P w K mg base N qual (defScope st) f cdv A outer s H E).nox (defBody st) t/\t { nx:=λ _ H'=>Q .non H',rt:=Q } (start N vs) H):FnOk P w K mg base CX0 (k+1) f fd ps sp:=by
 obtain⟨oc,od,kV,doc,pm,an,cdv,ct,osl,rfl,lk,hcd⟩:=F.ex;show BI lk hcd S len λ A outer s H vs Q E hr hsp=>?_;obtain⟨t,h,q⟩:=hbody cdv A outer s H vs Q E hr hsp;exact%[t,h.nox|q]
theorem Fun.binds{x qual:Str}{st:Stmt}{f:Nj}{fd:G1}{ps:No Str}(F:Fun K x qual st f fd)
  (h:∀(kV doc pm:G3)(an:Nm Nj)(cdv ct:G3)(us:No G3),us.length=ps.length->bindArgs (E9 x qual (defArgs st) (defBody st) (defScope st) .none kV doc pm an cdv ct) %[us|[]]=pure (ps.zip us)):Binds K fd ps []:=by
 obtain⟨oc,od,kV,doc,pm,an,cdv,ct,osl,rfl,lk,hcd⟩:=F.ex;exact .all (h kV doc pm an cdv ct)
theorem pQ{x qual:Str}{st:Stmt}{f:Nj}{oc:G3}{od an:Nm Nj}{osl:Nn (Nm G3)}{kV doc pm cdv ct:G3}(l:K.lookup f=some %[oc,od,.func (E9 x qual (defArgs st) (defBody st) (defScope st) .none kV doc pm an cdv ct)|osl])
  (c:PySem.W.codeIn K cdv qual=true) (k:PySem.W.keepIn K (.ref f)=true):Fun K x qual st f (E9 x qual (defArgs st) (defBody st) (defScope st) .none kV doc pm an cdv ct):=%[%[oc,od,kV,doc,pm,an,cdv,ct,osl,U,l|c]|k]
end
section
variable{X:Cx}
theorem pv(i:Nat){x:Str}{pos:Pos}(hN:X.N[i]?=some x:=by rfl)(hv:Vis X.env.scope x:=by first | exact Or.inl rfl | exact Or.inr (Or.inl rfl) | exact Or.inr (Or.inr rfl))(hd:(x == ("__debug__" : Str))=false:=by decide)
  (hcd:(x == ("__classdict__" : Str))=false:=by decide):PE X (.Name x pos) (tVar i):=Al hN hv hd hcd
end
theorem aV{A B:Prop}(h:B):if false=true then A else B:=by rw[Nv B3];exact h
theorem bN{A B:Prop}(h:A):if true=true then A else B:=by rw[Nw rfl];exact h
theorem cx{c A B:Prop}[Decidable c](h1:c->A)(h2:¬ c->B):if c then A else B:=by
 by_cases h:c
 ·rw[Nw h];exact h1 h
 ·rw[Nv h];exact h2 h
def Same(H H':Hp):Prop:=∀b o,H b=some o->H' b=some o
theorem Same.refl(H:Hp):Same H H:=λ _ _ h=>h
theorem Same.trans{H H1 H2:Hp}(a:Same H H1)(b:Same H1 H2):Same H H2:=λ c o h=>b c o (a c o h)
theorem Same.free{H H':Hp}(e:Same H H'){l:Nj}(h:H' l=Option.none):H l=Option.none:=by
 cases q:H l with
 | none=>rfl
 | some o=>
  rw[e l o q]at h;cases h
theorem Same.seq{K:C6}{H H':Hp}{a:Nj}{xs:No V}(e:Same H H')(h:SqL K H a xs):SqL K H' a xs:=by
 rcases h with(h | ⟨o,h⟩) | h
 ·exact .inl (.inl (e _ _ h))
 ·exact .inl (.inr %[o|e _ _ h])
 ·exact .inr h
def bF(env:Env):No (Str×NameKind)->No (Str×Nj)->No (Str×Nj)
 | [],acc=>acc
 | (n,k) :: r,acc=>bF env r (if (k == NameKind.free)=true then(n,(env.cells.lookup n).getD 0) :: acc else acc)
theorem eG(env:Env):∀(names:No (Str×NameKind))(acc:No (Str×Nj))(x:Str)(c:Nj),(∀y∈names,y.2=.free->∃c,env.cells.lookup y.1=some c) ->
  (∀x c,acc.lookup x=some c->env.cells.lookup x=some c)->(bF env names acc).lookup x=some c->env.cells.lookup x=some c
 | [],acc,x,c,_,h,e=>h x c e
 | (n,k) :: r,acc,x,c,hf,h,e=>by
  show eG env r _ x c (λ y hy=>hf y (B6 _ hy)) (λ x c e'=>?_) e
  by_cases hk:(k == NameKind.free)=true
  ·rw[Nw hk]at e';obtain⟨c0,hc0⟩:=hf (n,k) B9 (by simpa using hk);have hc0':env.cells.lookup n=some c0:=hc0;rw[MK]at e';cases hx:x == n with
   | true=>
    rw[hx]at e';have:x=n:=by simpa using hx
    subst this;rw[hc0']at e' ⊢;simpa using e'
   | false=>rw[hx]at e';exact h x c e'
  ·rw[Nv hk]at e';exact h x c e'
theorem jJ(env:Env):∀(names:No (Str×NameKind))(acc:No (Str×Nj))(x:Str),(∃c,acc.lookup x=some c)->∃c,(bF env names acc).lookup x=some c
 | [],acc,x,h=>h
 | (n,k) :: r,acc,x,h=>by
  show jJ env r _ x ?_
  by_cases hk:(k == NameKind.free)=true
  ·rw[Nw hk,MK];cases hx:x == n with
   | true=>exact%[_|U]
   | false=>exact h
  ·rw[Nv hk];exact h
theorem iE(env:Env):∀(names:No (Str×NameKind))(acc:No (Str×Nj))(x:Str),(x,NameKind.free)∈names->∃c,(bF env names acc).lookup x=some c
 | [],acc,x,h=>by simp at h
 | (n,k) :: r,acc,x,h=>by
  rcases J3.mp h with e | e
  ·have e1:x=n:=OD Prod.fst e;have e2:NameKind.free=k:=OD Prod.snd e;subst e1;subst e2;show jJ env r _ x ?_;rw[Nw (by simp),MK];simp
  ·exact iE env r _ x e
theorem eI{env:Env}{scope:Scope}(hf:∀y∈scope.names,y.2=.free->∃c,env.cells.lookup y.1=some c):closureFor scope env=pure (bF env scope.names []):=by
 have key:∀(names:No (Str×NameKind))(acc:No (Str×Nj)),(∀y∈names,y.2=.free->∃c,env.cells.lookup y.1=some c) ->
   (forIn names acc (λ (x:Str×NameKind)(r:No (Str×Nj))=>(if (x.2 == NameKind.free)=true then do
    let a<-cellOf env x.1
    pure (ForInStep.yield ((x.1,a) :: r))else pure (ForInStep.yield r)) ):Sem (No (Str×Nj)))=pure (bF env names acc):=by
  intro names
  induction names with
  | nil=>intro acc _;rfl
  | cons y r ih=>
   intro acc h;obtain⟨n,k⟩:=y;have ih':=λ acc=>ih acc λ z hz=>h z (B6 _ hz);rw[List.forIn_cons]
   by_cases hk:(k == NameKind.free)=true
   ·obtain⟨c,hc⟩:=h (n,k) B9 (by simpa using hk);have hc':env.cells.lookup n=some c:=hc;have e1:cellOf env n=pure c:=by unfold cellOf;rw[hc']
    have e2:bF env ((n,k) :: r) acc=bF env r ((n,c) :: acc):=by change bF env r _=_;rw[Nw hk,hc'];rfl
    rw[Nw hk,e2,<- ih'];change((cellOf env n >>= λ a=>pure (ForInStep.yield ((n,a) :: acc))) >>= _)=_;rw[e1]
    rfl
   ·have e2:bF env ((n,k) :: r) acc=bF env r acc:=by change bF env r _=_;rw[Nv hk]
    rw[Nv hk,e2,<- ih']
    rfl
 have:=key scope.names [] hf;simp only[closureFor];exact(OD (λ m=>m >>= λ r=>(pure r:Sem _)) this).trans rfl
section
variable{M:Model}{A:Around}{E:G3->F9->Prop}{s:F9}
theorem yG{scope:Scope}{globals:Nj}{closure:No (Str×Nj)}{qual:Str}{func:Nm Nj}{code:G3}{env:Env}{builtins:Nj}{Q:Env->F9->Prop}
  (hQ:Q (newEnv scope s.heap.objs.size globals (cellsFrom (s.heap.objs.size+1) scope.names closure) qual func code (some env) builtins) { s with heap:=pushCells (s.heap.push { cls:=.type "dict",data:=.dict #[] }) scope.names }) :
  wpAny M A (newFunctionEnv scope globals closure [] qual func code (some env) builtins) Q E s:=by
 simp only[newFunctionEnv,Option.isSome_some,Oo];show A0 (wpAny_alloc ?_);show A0 (wpAny_layCells _ (λ name kind cells=>by cases hkc:kind == NameKind.cell <;> simp[hkc]) _ _ _ _ ?_);rw[show({ s with heap:=s.heap.push { cls:=.type "dict",data:=.dict #[] } }:F9).heap.objs.size=s.heap.objs.size+1 from N5 ..];exact A0 (A3 (A3 hQ))
end
theorem lD:∀(names:No (Str×NameKind))(n:Nat)(acc:No (Str×Nj))(x:Str)(c:Nj),(cellsFrom n names acc).lookup x=some c->acc.lookup x=some c\/n<=c
 | [],n,acc,x,c,e=>.inl e
 | (y,k) :: r,n,acc,x,c,e=>by
  unfold cellsFrom at e
  split at e
  ·rcases lD r _ _ x c e with z | z
   ·rw[MK]at z;cases hx:x == y with
    | true=>rw[hx]at z;cases z;exact .inr (B4 _)
    | false=>rw[hx]at z;exact .inl z
   ·exact .inr ⋯
  ·exact lD r _ _ x c e
theorem pR:∀(names:No (Str×NameKind))(n:Nat)(acc:No (Str×Nj)),(∀x c,acc.lookup x=some c->c < n)->(∀x y c,acc.lookup x=some c->acc.lookup y=some c->x=y) ->
  ∀x y c,(cellsFrom n names acc).lookup x=some c->(cellsFrom n names acc).lookup y=some c->x=y
 | [],_,_,_,h=>h
 | (z,k) :: r,n,acc,hl,h=>by
  unfold cellsFrom
  split
  ·show pR r _ _ (λ x c e=>?_) (λ x y c e1 e2=>?_)
   ·rw[MK]at e;cases hx:x == z with
    | true=>rw[hx]at e;cases e;exact F3 _
    | false=>rw[hx]at e;exact Mo (hl x c e)
   ·rw[MK]at e1 e2;cases hx:x == z with
    | true=>
     rw[hx]at e1;cases e1;cases hy:y == z with
     | true=>rw[Nz.mp hx,Nz.mp hy]
     | false=>rw[hy]at e2;exact absurd (hl y _ e2) (E2 _)
    | false=>
     rw[hx]at e1;cases hy:y == z with
     | true=>rw[hy]at e2;cases e2;exact absurd (hl x _ e1) (E2 _)
     | false=>rw[hy]at e2;exact h x y c e1 e2
  ·exact pR r n acc hl h
theorem mI:∀(names:No (Str×NameKind))(h:Heap)(acc:No (Str×Nj)),(∀x c,acc.lookup x=some c->∃v,h.IsCell c v)->∀x c,(cellsFrom h.objs.size names acc).lookup x=some c->∃v,(pushCells h names).IsCell c v
 | [],_,_,ha=>ha
 | (z,k) :: r,h,acc,ha=>by
  unfold cellsFrom pushCells
  split
  ·have:=mI r (h.push { cls:=.type "cell",data:=.cell none }) ((z,h.objs.size) :: acc) λ x c e=>by
    rw[MK]at e;cases hx:x == z with
    | true=>rw[hx]at e;cases e;exact%[none,_,A9 _ rfl|U]
    | false=>
     rw[hx]at e;obtain⟨v,z⟩:=ha x c e;exact%[v|z.keeps λ b o e=>A8 _ e]
   rw[N5]at this;exact this
  ·exact mI r h acc ha
theorem mJ:∀(names:No (Str×NameKind))(n:Nat)(acc:No (Str×Nj))(x:Str),(x,NameKind.cell)∉names->(cellsFrom n names acc).lookup x=acc.lookup x
 | [],_,_,_,_=>rfl
 | (z,k) :: r,n,acc,x,h=>by
  unfold cellsFrom
  split
  ·rename_i hk
   rw[mJ r _ _ x λ q=>h (B6 _ q),MK];cases hx:x == z with
   | true=>
    have e1:x=z:=C5.mp hx;have e2:k=.cell:=C5.mp hk;exact absurd (by rw[e1,e2];exact B9) h
   | false=>rfl
  ·exact mJ r n acc x λ q=>h (B6 _ q)
theorem pS:∀(names:No (Str×NameKind))(n:Nat)(acc:No (Str×Nj))(x:Str),((x,NameKind.cell)∈names\/∃c,acc.lookup x=some c)->∃c,(cellsFrom n names acc).lookup x=some c
 | [],_,_,x,h=>h.elim (λ z=>by simp at z) id
 | (z,k) :: r,n,acc,x,h=>by
  unfold cellsFrom
  split
  ·rename_i hk
   show pS r _ _ x ?_;cases hx:x == z with
   | true=>exact .inr %[n|by rw[MK,hx]]
   | false=>
    rcases h with h | ⟨c,h⟩
    ·rcases J3.mp h with q | q
     ·have:x=z:=OD Prod.fst q;rw[this]at hx;simp at hx
     ·exact .inl q
    ·exact .inr %[c|by rw[MK,hx];exact h]
  ·rename_i hk
   show pS r _ _ x ?_;rcases h with h | h
   ·rcases J3.mp h with q | q
    ·have:k=.cell:=(OD Prod.snd q).symm;rw[this]at hk;exact absurd rfl hk
    ·exact .inl q
   ·exact .inr h
theorem lE(env:Env):∀(names:No (Str×NameKind))(acc:No (Str×Nj))(x:Str)(c:Nj),(bF env names acc).lookup x=some c->acc.lookup x=some c\/(x,NameKind.free)∈names
 | [],acc,x,c,e=>.inl e
 | (n,k) :: r,acc,x,c,e=>by
  rcases lE env r _ x c e with z | z
  ·by_cases hk:(k == NameKind.free)=true
   ·rw[Nw hk,MK]at z;cases hx:x == n with
    | true=>exact .inr (by rw[Nz.mp hx,show k=.free from Nz.mp hk];exact B9)
    | false=>rw[hx]at z;exact .inl z
   ·rw[Nv hk]at z;exact .inl z
  ·exact .inr (B6 _ z)
theorem mK{env:Env}{scope:Scope}{x:Str}:((relabel scope env).names.lookup x=some .cell\/(relabel scope env).names.lookup x=some .free)->(x,NameKind.free)∈scope.names\/(x,NameKind.cell)∈scope.names:=by
  have key:∀names:No (Str×NameKind),∀k,(names.map λ(n,k)=>if (k == NameKind.free && env.scope.kind == .function && env.kindOf n == some .cell)then(n,NameKind.cell)else(n,k)).lookup x=some k ->
      (k=.cell\/k=.free)->(x,NameKind.free)∈names\/(x,NameKind.cell)∈names:=by
    intro names
    induction names with
    | nil=>intro k h _;simp at h
    | cons y r ih=>
      obtain⟨n,k'⟩:=y;intro k h hk;have up:((x,NameKind.free)∈r\/(x,NameKind.cell)∈r)->((x,NameKind.free)∈(n,k') :: r\/(x,NameKind.cell)∈(n,k') :: r):=λ z=>z.imp (B6 _) (B6 _);rw[J6]at h
      by_cases hb:(k' == NameKind.free && env.scope.kind == .function && env.kindOf n == some .cell)=true
      . have hb':k'=.free:=by simp at hb;exact hb.1.1
        dsimp only at h;rw[Nw hb,MK]at h;cases hx:x == n with
        | true=>have:x=n:=(by simpa using hx);subst this;subst hb';exact .inl B9
        | false=>rw[hx]at h;exact up (ih k h hk)
      . dsimp only at h
        rw[Nv hb,MK]at h;cases hx:x == n with
        | true=>
          rw[hx]at h;have:x=n:=by simpa using hx
          subst this;have e:k'=k:=by simpa using h
          rcases hk with q | q
          . rw[e,q];exact .inr B9
          . rw[e,q];exact .inl B9
        | false=>rw[hx]at h;exact up (ih k h hk)
  rintro(h | h)
  . exact key _ _ h (.inl rfl)
  . exact key _ _ h (.inr rfl)
def aO(X:Cx)(Nq:P6)(s2:F9)(H2:Hp)(scope:Scope)(C:Nj)(N':No Str)(fp:No Nj):Cx where
 prog:=X.prog
 w:=X.w
 K:=X.K
 mg:=X.mg
 base:=X.base
 A:=X.A
 N:=N'
 s₀:=s2
 H₀:=H2
 env:=compEnvC scope (cellsFrom (C+1) scope.names (bF X.env scope.names [])) C X.env
 outer:=X.stack
 stack:=X.stack
 ex:=fp
 fn:=λ x=>scope.names.lookup x == some .cell
 calm:=X.calm
 pn:=X.pn ++ Nq
 xe:=λ _ _=>False
def aW(σ:St)(cap:No Nat)(k:Nat):St:=List.replicate k none ++ cap.map λ j=>(σ[j]?).join
def leS(σ σ':St):Prop:=σ'.length=σ.length/\∀ (i:Nat) v,σ[i]?=some (some v)->σ'[i]?=some (some v)
theorem leS.set{σ:St}{i:Nat}{v:V}(h:σ[i]?=some none):leS σ (σ.set i (some v)):=by
 show%[by simp|λ j w e=>?_]
 by_cases hj:j=i
 ·subst hj;rw[h]at e;cases e
 ·rw[List.getElem?_set_ne (Ne.symm hj)];exact e
structure CompOk(X:Cx)(scope:Scope)(own:No Str)(cs:No Str)(cap:No Nat):Prop where
 kind:scope.kind=.function
 names:∀y∈scope.names,y.2=.local->scope.names.lookup y.1=some .local
 free:∀y∈scope.names,y.2=.free->X.env.kindOf y.1=some .cell\/X.env.kindOf y.1=some .free
 caps:∀ (i:Nat) y,cs[i]?=some y->∃j,cap[i]?=some j/\X.N[j]?=some y/\(y,NameKind.free)∈scope.names
 len:cs.length=cap.length
 free2:∀y,(y,NameKind.free)∈scope.names->scope.names.lookup y=some .local->False
 free3:∀y,(y,NameKind.free)∈scope.names->scope.names.lookup y=some .cell->False
 free4:∀y,(y,NameKind.free)∈scope.names->(y,NameKind.cell)∉scope.names
def iF(X:Cx)(ifs:No Expr)(tt:TT):Prop :=
 ∀(Nq:P6)(s:F9)(σ:St)(H:Hp)(Q:Bool->Hp->Prop),Inv X Nq σ H s->tt σ H Q ->
  wpAny (model X.prog X.w) X.A (forIn ifs true λ c r=>if r=true then do let ok<-isTrue c X.env (eval c X.env);pure (ForInStep.yield ok)else pure (ForInStep.yield r)) (TP X Nq σ Q) X.xe s
def BK:TT:=λ _ H Q=>Q true H
theorem aK{X:Cx}:iF X [] BK:=λ _ _ _ H _ I h=>wpAny_tests_nil %[H,I|h]
theorem jK{X:Cx}{c:Expr}{tt:TT}(h:PT X c tt):iF X [c] tt:=λ Nq s σ H Q I q=>wpAny_tests_one (h Nq s σ H Q I q)
def eS(σ:St)(cap:No Nat)(k:Nat)(J:It)(g:TG)(tt:TT)(te:TE)(Q:No V->Hp->Prop)(W:Nat->Nat->No V->Hp->Prop):Prop :=
 ∀i m ys H,W i m ys H->(J.stop i H/\ys.length<=sizeLine/\Q ys H) \/
  (J.go i H/\ys.length < sizeLine/\∀x H',J.yld i H x H'->g x (aW σ cap k) H' λ σ2 H2=>leS (aW σ cap k) σ2/\tt σ2 H2 λ ok H3=>
   if ok=true then te σ2 H3 (λ v H4=>∃m',m' < m/\W (i+1) m' (ys ++ [v]) H4)else∃m',m' < m/\W (i+1) m' ys H3)
theorem HOk.add{P:G0}{w:G2}{H:Hp}{h:Heap}{a:Nj}{o:HO}(x:HOk P w H h)(n:H a=none)(new:ObjOk P w (upd H a o) h a o):HOk P w (upd H a o) h:=λ b u e=>by
 by_cases hb:b=a
 ·subst hb;rw[ai]at e;cases e;exact new
 ·rw[ak hb]at e;exact(x b u e).stay (λ c v _ q=>q) (λ c q=>by rw[ak (aj q n)];exact q) λ c xs q=>by rw[ak (aj q n)];exact q
section
variable{X:Cx}{Nq:P6}{σ:St}{H2:Hp}{s2:F9}{scope:Scope}{own cs:No Str}{cap:No Nat}{fp:No Nj}
theorem sN{h1:Heap}{C:Nj}{tk:Nat}(I:Inv X Nq σ H2 s2)(ok:CompOk X scope own cs cap)(hf:∀b∈fp,FpOk X Nq H2 b)(hfl:∀b∈fp,b < s2.heap.objs.size)
  (hC:s2.heap.objs.size<=C) (hns:h1.Ns C (λ _=>none)) (hcl:∀x c,(cellsFrom (C+1) scope.names (bF X.env scope.names [])).lookup x=some c->∃v,h1.IsCell c v) (old:∀b o,s2.heap.get? b=some o->h1.get? b=some o) :
  Inv (aO X Nq s2 H2 scope C (own ++ cs) fp) [] (aW σ cap own.length) H2 { s2 with heap:=h1,toks:=tk }:=by
 have hfr:∀y∈scope.names,y.2=.free->∃c,X.env.cells.lookup y.1=some c:=λ y hy e=>I.ok.has y.1 (ok.free y hy e);have sub:∀x c,(bF X.env scope.names []).lookup x=some c->X.env.cells.lookup x=some c:=λ x c e=>eG X.env scope.names [] x c hfr (λ _ _ z=>by simp at z) e;have clt:∀x c,(bF X.env scope.names []).lookup x=some c->c < s2.heap.objs.size:=λ x c e=>by obtain⟨v,o,ho,_⟩:=I.cell x c (sub x c e);exact B0 ho
 show⟨%[I.ok.mod,ok.kind,I.ok.glob,I.ok.blt,hC,λ y z c h1 h2=>pR _ _ _ (λ x c e=>Mo (C3 (clt x c e) hC)) (λ x y c h1 h2=>I.ok.inj x y c (sub x c h1) (sub y c h2)) y z c h1 h2,λ y hy=>?_,λ y c z e=>?_,I.ok.hd,I.ok.frames,.inl rfl,λ b hb=>?_,I.bs,C7 I.ok.bsz I.sz,λ b o e hb=>?_,λ b hb z=>?_,I.stack|I.stkFree],
  rfl,I.bare,Un.kept old,%[_,hns|λ i y v e1 e2 e3=>?_],hcl,I.hok.fresh hC,λ y c e=>?_,λ p hp=>?_,I.hok.kept old,?_⟩
 ·show pS _ _ _ y ?_;rcases mK hy with hm | hm
  ·exact .inr (iE X.env scope.names [] y hm)
  ·exact .inl hm
 ·have z:(scope.names.lookup y == some .cell)=true:=z;rcases lD _ _ _ _ _ e with q | q
  ·rcases lE X.env scope.names [] y c q with q | q
   ·simp at q
   ·exact(ok.free3 y q (C5.mp z)).elim
  ·change s2.heap.objs.size<=c;lia
 ·show%[C1 (C3 (hfl b hb) hC)|λ x c e=>?_];rcases lD _ _ _ _ _ e with q | q
  ·exact(hf b hb).2.2.2.2.1 x c (sub x c q)
  ·exact Ne.symm (C1 (C3 (hfl b hb) (C7 hC (Nat.le_of_succ_le q))))
 ·rcases(hf b hb).2.2.2.1 with z | z
  ·exact I.ok.noex b o e z
  ·exact absurd (C3 (B0 (I.ok.bs b o e).1) z) (E2 _)
 ·rcases J3.mp (I.stkSub b z)with q | q
  ·exact(hf b hb).2.1 q
  ·exact(hf b hb).2.2.1 q
 ·have hi:own.length<=i:=by
   show Nat.le_of_not_lt λ q=>?_;unfold aW at e2;rw[List.getElem?_append_left (by simpa using q),List.getElem?_replicate]at e2
   split at e2 <;> cases e2
  have e1':cs[i - own.length]?=some y:=by have e1:(own ++ cs)[i]?=some y:=e1;rwa [M9 hi]at e1
  obtain⟨j,hj,hN,hm⟩:=ok.caps _ y e1';have hk:=ok.free _ hm rfl;have e2':σ[j]?=some (some v):=by
   unfold aW at e2;rw[M9 (by simpa using hi),K8,J0,hj]at e2;have e2:(σ[j]?).join=some v:=by simpa using e2
   cases q:σ[j]? with
   | none=>rw[q]at e2;cases e2
   | some w=>rw[q]at e2;have:w=some v:=e2;rw[this]
  obtain⟨m,hn,hl⟩:=I.loc;obtain⟨u,ru,l⟩:=hl j y v hN e2' (by rcases hk with q | q;exact .inr (.inl q);exact .inr (.inr q));show%[u,ru|.inr ?_];obtain⟨c,hc0⟩:=iE X.env scope.names [] y hm;have hc':=sub y c hc0;have hc:(cellsFrom (C+1) scope.names (bF X.env scope.names [])).lookup y=some c:=by rw[mJ _ _ _ y (ok.free4 y hm)];exact hc0
  have cellu:h1.IsCell c (some u):=by
   rcases l with⟨k,_⟩ | ⟨k,c',e,o,ho,hd⟩
   ·rcases hk with q | q <;> (have z:X.env.kindOf y=_:=q;rw[k]at z;cases z)
   ·rw[hc']at e;cases e;exact%[o,old _ _ ho|hd]
  show%[?_,c,hc|cellu];rcases e3 with z | z | z
  ·exfalso;have key:∀names:No (Str×NameKind),True:=λ _=>trivial;have z:(relabel scope X.env).names.lookup y=some .local:=z;have zz:scope.names.lookup y=some .local:=by
    unfold relabel at z;dsimp only at z;revert z;generalize scope.names=names
    induction names with
    | nil=>intro z;simp at z
    | cons q r ih=>
     obtain⟨n,k⟩:=q;intro z;rw[J6]at z
     by_cases hb:(k == NameKind.free && X.env.scope.kind == .function && X.env.kindOf n == some .cell)=true
     ·dsimp only at z;rw[Nw hb,MK]at z;rw[MK];cases hx:y == n with
      | true=>rw[hx]at z;cases z
      | false=>rw[hx]at z;exact ih z
     ·dsimp only at z;rw[Nv hb,MK]at z;rw[MK];cases hx:y == n with
      | true=>rw[hx]at z;exact z
      | false=>rw[hx]at z;exact ih z
   have:=ok.free2 y hm zz;exact this
  ·exact .inl z
  ·exact .inr z
 ·rcases lD _ _ _ _ _ e with q | q
  ·exact I.freeC y c (sub y c q)
  ·exact I.hok.fresh ⋯
 ·have hp':p∈X.pn ++ Nq:=by have:p∈(X.pn ++ Nq) ++ []:=hp;simpa using this
  obtain⟨e,n,ne,nf,d⟩:=I.pin p hp';show%[old _ _ e,n,C1 (C3 (B0 e) hC),λ z=>?_|d];rcases J3.mp (I.stkSub p.1 z)with q | q
  ·exact ne q
  ·exact nf q
 ·change(aW σ cap own.length).length=(own ++ cs).length;unfold aW;rw[K4,K8,B5,K4,ok.len]
end
structure TurnY(Y:Cx)(tg:Expr)(J:It)(fp:No Nj)(it:Nj)(tn:Nat->Heap->Prop)(qh:Hp->Prop):Prop where
 obj:∀i h,tn i h->∀b∈fp,∃o,h.get? b=some o/\∀v,o.data≠.cell v
 keep:∀i h h',tn i h->(∀b∈fp,∀o,h.get? b=some o->h'.get? b=some o)->tn i h'
 item:∀(i:Nat)(Nq:P6)(s:F9)(σ:St)(H:Hp)(E:G3->F9->Prop),qh H->Inv Y Nq σ H s->(∀b∈fp,FpOk Y Nq H b)->tn i s.heap->J.go i H ->
  wpAny (model Y.prog Y.w) Y.A (pyNext (.ref it)) (λ r s1=>∃u,r=some u /\
   wpAny (model Y.prog Y.w) Y.A (letOwnedTupleGo tg (.ref it) u) (λ _ s2=>∃x H',Inv Y Nq σ H' s2/\RelV x u/\J.yld i H x H'/\tn (i+1) s2.heap/\∀b∈fp,H' b=none) E s1) E s
 done:∀(i:Nat)(Nq:P6)(s:F9)(σ:St)(H:Hp)(E:G3->F9->Prop),qh H->Inv Y Nq σ H s->(∀b∈fp,FpOk Y Nq H b)->tn i s.heap->J.stop i H ->
  wpAny (model Y.prog Y.w) Y.A (pyNext (.ref it)) (λ r s1=>r=none/\Inv Y Nq σ H s1) E s
 self:∀(s:F9)(Q E:G3->F9->Prop),tn 0 s.heap->Q (.ref it) s->wpAny (model Y.prog Y.w) Y.A (pyIter (.ref it)) Q E s
theorem Turn.y{Y:Cx}{tg:Expr}{J:It}{fp:No Nj}{it:Nj}{tn:Nat->Heap->Prop}(T:Turn Y.prog Y.w Y.K tg J fp it tn)(hc:Y.calm=true):TurnY Y tg J fp it tn (λ _=>True) :=
 %[T.obj,T.keep,λ i Nq s σ H E _=>T.item Y rfl rfl rfl hc i Nq s σ H E,λ i Nq s σ H E _=>T.done Y rfl rfl rfl hc i Nq s σ H E|T.self _ 0]
theorem Inv.sub{Y:Cx}{P Q:P6}{σ:St}{H:Hp}{s:F9}(I:Inv Y P σ H s)(h:∀p∈Q,p∈P):Inv Y Q σ H s:=I.pins_of λ p hp=>I.pin p (A6 _ (h p hp))
theorem FpOk.sub{Y:Cx}{P Q:P6}{H H':Hp}{b:Nj}(f:FpOk Y P H b)(n:H' b=none)(h:∀p∈Q,p∈P\/p.1≠b):FpOk Y Q H' b :=
 %[n,f.2.1,f.2.2.1,f.2.2.2.1,f.2.2.2.2.1|λ p hp=>(C4.mp hp).elim (λ z=>f.2.2.2.2.2 p (B8 _ z)) λ z=>(h p z).elim (λ z=>f.2.2.2.2.2 p (A6 _ z)) id]
section
variable{ρ:Type}{Y:Cx}{P5:P6}{σ:St}{H0:Hp}{s0:F9}{D it:Nj}{o0:Obj}{fp:No Nj}{tn:Nat->Heap->Prop}{J:It}{g:TG}{tt:TT}{qh:Hp->Prop}{node tg:Expr}{ifs:No Expr}{lvl:Nat}{ipos:Pos}{body:Sem Unit}
 {Acc:No ρ->Obj->Prop} {W:Nat->Nat->No ρ->Hp->Prop} {B:Nat->Nat->No ρ->St->Hp->Prop} {Fin:No ρ->Hp->Prop} {Z:No ρ->Prop} {R:Result->F9->Prop} {ys0:No ρ}
def vO(node:Expr)(lvl:Nat)(ipos:Pos)(tg:Expr)(ifs:No Expr)(it acc:G3)(env:Env)(body:Sem Unit):Sem PySem.Fin:=do
 standAt ipos
 match<-pyNext it with
 | none=>pure (.done .next)
 | some v=>
  letOwnedTupleGo tg it v
  assign tg env v
  let mut ok:=true
  for c in ifs do
   if ok then ok<-isTrue c env (eval c env)
  if ok then body
  again (.compLoop node lvl it acc env)
def BM(σ:St)(J:It)(g:TG)(tt:TT)(qh:Hp->Prop)(Z:No ρ->Prop)(B:Nat->Nat->No ρ->St->Hp->Prop)(Fin:No ρ->Hp->Prop)(W:Nat->Nat->No ρ->Hp->Prop):Prop :=
 ∀i m ys H,W i m ys H->qh H/\((J.stop i H/\Fin ys H)\/(J.go i H/\Z ys/\∀x H',J.yld i H x H'->g x σ H' λ σ3 H2=>leS σ σ3/\tt σ3 H2 λ ok H3=>if ok=true then B i m ys σ3 H3 else∃m',m' < m/\W (i+1) m' ys H3))
def qV(Y:Cx)(P5:P6)(σ:St)(D:Nj)(body:Sem Unit)(Acc:No ρ->Obj->Prop)(Z:No ρ->Prop)(B:Nat->Nat->No ρ->St->Hp->Prop)(W:Nat->Nat->No ρ->Hp->Prop):Prop :=
 ∀i m ys o σ3 H3 s3 Q5,Z ys->B i m ys σ3 H3->leS σ σ3->Acc ys o->FpOk Y (P5 ++ Q5) H3 D->Inv Y (P5 ++ Q5) σ3 H3 s3->s3.heap.get? D=some o ->
  wpAny (model Y.prog Y.w) Y.A body (λ _ s4=>∃H4 ys' o',Inv Y (P5 ++ Q5) σ3 H4 s4/\s4.heap.get? D=some o'/\Acc ys' o'/\H4 D=none/\∃m',m' < m/\W (i+1) m' ys' H4) (λ _ _=>False) s3
theorem fI(hx:Y.xe=λ _ _=>False)(T:TurnY Y tg J fp it tn qh)(hg:PG Y tg g)(hi:iF Y ifs tt)
  (hturn:(model Y.prog Y.w).den (.compLoop node lvl (.ref it) (.ref D) Y.env)=(vO node lvl ipos tg ifs (.ref it) (.ref D) Y.env body).onRaise (λ x=>do noteFrame x Y.env;theTreesLotGoes x)) (hund:Y.A.under (.compLoop node lvl (.ref it) (.ref D) Y.env)=Y.A) (nc:∀ys o,Acc ys o->∀v,o.data≠.cell v)
  (turn:BM σ J g tt qh Z B Fin W) (hb:qV Y P5 σ D body Acc Z B W)
  (I0:Inv Y P5 σ H0 s0) (hD:FpOk Y P5 H0 D) (hf:∀b∈fp,FpOk Y P5 H0 b) (df:∀b∈fp,D≠b) (st:tn 0 s0.heap) (e0:s0.heap.get? D=some o0) (a0:Acc ys0 o0) (w0:∃m,W 0 m ys0 H0)
  (hR:∀s' H' ys o,Inv Y P5 σ H' s'->s'.heap.get? D=some o->Acc ys o->H' D=none->Fin ys H'->R (.ok .next) s') :
  codeAny (model Y.prog Y.w) Y.A (.compLoop node lvl (.ref it) (.ref D) Y.env) R s0:=by
 obtain⟨m0,w0⟩:=w0;show codeAny_loop rfl (λ n s'=>∃i H' ys o,Inv Y P5 σ H' s'/\tn i s'.heap/\(∀b∈fp,H' b=none)/\s'.heap.get? D=some o/\Acc ys o/\H' D=none/\W i n ys H') ?_ m0 %[0,H0,ys0,o0,I0,st,λ b hb=>(hf b hb).1,e0,a0,hD.1|w0];rintro n s3 ⟨i,H3,ys,o,I3,st3,fr3,pl3,ac,hD3,w3⟩;rw[hturn,hund];show wpAny_noted ?_;unfold vO;show A0 (Oi (A0 ?_));have one:∀{p:Nj×Obj},p∈[(D,o)]->p=(D,o):=λ hp=>by simpa using hp
 have I3':Inv Y (P5 ++ [(D,o)]) σ H3 s3:=I3.pins_of λ p hp=>(C4.mp hp).elim (λ z=>I3.pin p (A6 _ z)) λ z=>by rw[one z];exact%[pl3,hD3,hD.2.1,hD.2.2.1|nc _ _ ac]
 have stat:∀{H':Hp},(∀b∈fp,H' b=none)->∀b∈fp,FpOk Y (P5 ++ [(D,o)]) H' b:=λ {H'} hn b hb=>(hf b hb).sub (hn b hb) λ p hp=>(C4.mp hp).imp id λ z=>by rw[one z];exact df b hb
 obtain⟨hq,tu⟩:=turn i n ys H3 w3;rcases tu with⟨stop,qf⟩ | ⟨go,hz,step⟩
 ·show thn (T.done i _ s3 _ H3 _ hq I3' (stat fr3) st3 stop) ?_;rintro r s4 ⟨hr,I4⟩;subst hr;have p4:=I4.pin (D,o) (A6 _ (A6 _ (E5.mpr rfl)));exact A3 (hR _ _ _ _ (I4.sub λ p hp=>B8 _ hp) p4.1 ac p4.2.1 qf)
 ·show thn (T.item i _ s3 _ H3 _ hq I3' (stat fr3) st3 go) ?_;rintro r s4 ⟨u,hr,h4⟩;subst hr;show A0 (thn h4 ?_);rintro _ s5 ⟨x,H5,I5,r5,y5,st5,fr5⟩;have I5':=I5.pinned (stat fr5) (T.obj _ _ st5);have ms:=λ b hb=>T.obj _ _ st5 b hb;have mp:∀b∈fp,∀o,s5.heap.get? b=some o->(b,o)∈ge fp s5.heap:=λ b hb o e=>gf hb e;have mf:∀p∈ge fp s5.heap,p.1∈fp:=λ p hp=>(lh hp).1;generalize ge fp s5.heap=Q5 at I5' mp mf;have hx':∀{v:G3}{s':F9}{Z:Prop},Y.xe v s'->Z:=λ z=>by rw[hx]at z;exact z.elim
  show A0 (OA (hg _ s5 _ H5 x u _ I5' r5 (step x H5 y5)) (?_) λ _ _ z=>hx' z);rintro _ s6 ⟨σ6,H6,I6,le6,q6⟩;show A0 (OA (hi _ s6 σ6 H6 _ I6 q6) (?_) λ _ _ z=>hx' z);rintro b s7 ⟨H7,I7,q7⟩;have p7:=I7.pin (D,o) (A6 _ (B8 _ (A6 _ (E5.mpr rfl))));have I7':Inv Y (P5 ++ Q5) σ6 H7 s7:=I7.sub λ p hp=>(C4.mp hp).elim (λ z=>B8 _ (B8 _ z)) λ z=>A6 _ z;have fin:∀{s8:F9}{H8:Hp}{o8:Obj}{ys8:No ρ}{m':Nat},Inv Y (P5 ++ Q5) σ6 H8 s8->s8.heap.get? D=some o8->Acc ys8 o8->H8 D=none->m' < n->W (i+1) m' ys8 H8 ->
    wpAny (model Y.prog Y.w) Y.A (again (.compLoop node lvl (.ref it) (.ref D) Y.env)) (λ fin s'=>match fin with
     | .done f=>R (.ok f) s'
     | .again c'=>c'=.compLoop node lvl (.ref it) (.ref D) Y.env/\∃m,m < n/\∃i H' ys o,Inv Y P5 σ H' s'/\tn i s'.heap/\(∀b∈fp,H' b=none)/\s'.heap.get? D=some o/\Acc ys o/\H' D=none/\W i m ys H')
     (notedBy (model Y.prog Y.w) Y.A Y.env λ e s'=>R (.error e) s') s8:=λ {s8 H8 o8 ys8 m'} I8 e8 a8 d8 hm w8=>
   A3 ⟨rfl,m',hm,i+1,H8,ys8,o8,(I8.sub λ p hp=>B8 _ hp).weak le6.1.symm λ i v e=>le6.2 i v e,
    T.keep _ _ _ st5 λ b hb o e=>(I8.pin (b,o) (A6 _ (A6 _ (mp b hb o e)))).1,
    λ b hb=>by obtain⟨o,e,d⟩:=ms b hb;exact(I8.pin (b,o) (A6 _ (A6 _ (mp b hb o e)))).2.1,e8,a8,d8,w8⟩
  cases b with
  | false=>
   rw[Nv B3]at q7;obtain⟨m',hm,w7⟩:=q7;exact fin I7' p7.1 ac p7.2.1 hm w7
  | true=>
   rw[Nw rfl]at q7;show A0 (OA (hb i n ys o σ6 H7 s7 Q5 hz q7 le6 ac (hD.sub p7.2.1 λ p hp=>(C4.mp hp).imp id λ z=>λ e=>df _ (mf p z) e.symm) I7' p7.1) (λ _ s8 h9=>by obtain⟨H8,ys8,o8,I8,e8,a8,d8,m',hm,w8⟩:=h9;exact fin I8 e8 a8 d8 hm w8) λ _ _ z=>z.elim)
end
section
variable{ρ:Type}{X:Cx}{Nq:P6}{σ:St}{H2:Hp}{s2:F9}{scope:Scope}{own cs:No Str}{cap:No Nat}{fp:No Nj}{it:Nj}{tn:Nat->Heap->Prop}
 {node tg:Expr} {J:It} {qh:Hp->Prop} {E:G3->F9->Prop} {mk:Sem G3} {o0:Obj} {ho:No ρ->HO} {Acc:No ρ->Obj->Prop} {Fin:No ρ->Hp->Prop}
theorem gj{RR:G3->Nj->Result->F9->Prop}(I:Inv X Nq σ H2 s2)(ok:CompOk X scope own cs cap)(T:∀C,TurnY (aO X Nq s2 H2 scope C (own ++ cs) fp) tg J fp it tn qh)(st:tn 0 s2.heap)(hf:∀b∈fp,FpOk X Nq H2 b)
  (fr:o0.isFreed=false) (hmk:∀{Q E:G3->F9->Prop},Q (.ref s2.heap.objs.size) { s2 with heap:=s2.heap.push o0 }->wpAny (model X.prog X.w) X.A mk Q E s2)
  (hstart:∀{D:Nj}{env:Env}{R:Result->F9->Prop}{s:F9},codeAny (model X.prog X.w) X.A (.compLoop node 0 (.ref it) (.ref D) env) R s->wpAny (model X.prog X.w) X.A (pyIter (.ref it)) (λ it' s'=>codeAny (model X.prog X.w) X.A (.compLoop node 0 it' (.ref D) env) R s') (notedBy (model X.prog X.w) X.A env λ x s'=>R (.error x) s') s ->
   codeAny (model X.prog X.w) X.A (.compStart node 0 (.ref it) (.ref D) env) R s)
  (loop:∀(Y:Cx)(D C:Nj)(s':F9)(R:Result->F9->Prop),Y=aO X Nq s2 H2 scope C (own ++ cs) fp->Inv Y [] (aW σ cap own.length) H2 s'->FpOk Y [] H2 D->(∀b∈fp,FpOk Y [] H2 b)->(∀b∈fp,D≠b)->tn 0 s'.heap->s'.heap.get? D=some o0 ->
   (∀s' H' ys o,Inv Y [] (aW σ cap own.length) H' s'->s'.heap.get? D=some o->Acc ys o->H' D=none->Fin ys H'->R (.ok .next) s')->codeAny (model Y.prog Y.w) Y.A (.compLoop node 0 (.ref it) (.ref D) Y.env) R s')
  (hok:∀{D:Nj}{ys:No ρ}{o:Obj}{H':Hp}{s':F9},(D == sysModules)=false->Acc ys o->Fin ys H'->H' D=none->s'.heap.get? D=some o->ObjOk X.prog X.w (upd H' D (ho ys)) s'.heap D (ho ys))
  (hRR:∀D C s' ys H',H' D=none->Fin ys H'->Inv X Nq σ (upd H' D (ho ys)) s'->FpOk X Nq (upd H' D (ho ys)) C->(∃m,s'.heap.Ns C m)->RR (.ref D) C (.ok .next) s') :
  wpAny (model X.prog X.w) X.A mk (λ acc s₃=>wpAny (model X.prog X.w) X.A (newFunctionEnv scope X.env.globals (bF X.env scope.names []) [] X.env.qual none .none (some X.env)) (λ cenv s₄=>
   codeAny (model X.prog X.w) X.A (.compStart node 0 (.ref it) acc { cenv with scope:=relabel scope X.env }) (RR acc cenv.locals) s₄) E s₃) E s2:=by
 show hmk (yG ?_);dsimp only;generalize hHH:s2.heap.push o0=HH;have hCs:HH.objs.size=s2.heap.objs.size+1:=by rw[<- hHH,N5]
 have hDC:s2.heap.objs.size≠HH.objs.size:=by rw[hCs];exact C1 (F3 _)
 have hCle:s2.heap.objs.size<=HH.objs.size:=by rw[hCs];exact Nat.le_succ _
 have hsys:(s2.heap.objs.size == sysModules)=false:=OO.mpr (MU (Nat.lt_trans ∅ (I.mod.glob.keeps I.bk).lt));have hfl:∀b∈fp,b < s2.heap.objs.size:=λ b hb=>by obtain⟨o,e,_⟩:=(T 0).obj 0 _ st b hb;exact B0 e
 have hpk:∀b o,HH.get? b=some o->(pushCells (HH.push { cls:=.type "dict",data:=.dict #[] }) scope.names).get? b=some o:=λ b o e=>pushCells_keeps _ _ b o (A8 _ e);have hns₁:(pushCells (HH.push { cls:=.type "dict",data:=.dict #[] }) scope.names).Ns HH.objs.size (λ _=>none):=(Heap.Ns.new HH (.type "dict")).keeps (pushCells_keeps _ _);have old:∀b o,s2.heap.get? b=some o->(pushCells (HH.push { cls:=.type "dict",data:=.dict #[] }) scope.names).get? b=some o:=λ b o e=>hpk b o (hHH ▸ A8 _ e);have hacc:(pushCells (HH.push { cls:=.type "dict",data:=.dict #[] }) scope.names).get? s2.heap.objs.size=some o0:=hpk _ _ (hHH ▸ A9 _ fr);have sub:∀x c,(bF X.env scope.names []).lookup x=some c->X.env.cells.lookup x=some c:=λ x c e=>eG X.env scope.names [] x c (λ y hy e=>I.ok.has y.1 (ok.free y hy e)) (λ _ _ z=>by simp at z) e;have hcl₁:∀x c,(cellsFrom (HH.objs.size+1) scope.names (bF X.env scope.names [])).lookup x=some c->∃v,(pushCells (HH.push { cls:=.type "dict",data:=.dict #[] }) scope.names).IsCell c v:=by
  have:=mI scope.names (HH.push { cls:=.type "dict",data:=.dict #[] }) (bF X.env scope.names []) λ x c e=>by obtain⟨v,o,ho,hd⟩:=I.cell x c (sub x c e);exact%[v,o,A8 _ (hHH ▸ A8 _ ho)|hd]
  rw[N5]at this;exact this
 generalize pushCells (HH.push { cls:=.type "dict",data:=.dict #[] }) scope.names=h₁ at *;generalize hD:s2.heap.objs.size=D at *;generalize hCC:HH.objs.size=C at *;have I0:Inv (aO X Nq s2 H2 scope C (own ++ cs) fp) [] (aW σ cap own.length) H2 { s2 with heap:=h₁ } :=
  sN I ok hf (λ b hb=>by rw[hD];exact hfl b hb) (by rw[hD];exact hCle) hns₁ hcl₁ old
 have Dn:H2 D=none:=I.hok.fresh (by rw[hD];exact B4 _);have FD:FpOk (aO X Nq s2 H2 scope C (own ++ cs) fp) [] H2 D:=by
  show%[Dn,hDC,λ hb=>?_,.inr (by change s2.heap.objs.size<=D;rw[hD];exact B4 _),λ x c e=>?_|λ p hp=>?_]
  ·obtain⟨_,o,ho,_⟩:=I.stack.mem hb;exact absurd (B0 ho) (by rw[hD];exact E2 _)
  ·rcases lD _ _ _ _ _ e with q | q
   ·obtain⟨v,o,ho,_⟩:=I.cell x c (sub x c q);exact C1 (hD ▸ B0 ho)
   ·exact Ne.symm (C1 (C8 hCle (Nat.lt_of_succ_le q)))
  ·have hp':p∈X.pn ++ Nq:=by have:p∈(X.pn ++ Nq) ++ []:=hp;simpa using this
   exact C1 (hD ▸ B0 (I.pin p hp').1)
 have st1:tn 0 h₁:=(T 0).keep 0 _ _ st λ b _ o e=>old b o e;have main:=loop _ D C { s2 with heap:=h₁ } (RR (.ref D) C) rfl I0 FD (λ b hb=>by
   have q:=I0.ok.exf b hb;show%[(hf b hb).1,q.1,I0.ok.exfs b hb,.inl hb,q.2|λ p hp=>?_];have:p∈(X.pn ++ Nq) ++ []:=hp;exact(hf b hb).2.2.2.2.2 p (by simpa using this)) (λ b hb z=>absurd (hfl b hb) (by rw[<- z];exact E2 _)) st1 hacc λ s4 H3 ys o I4 pl4 ac hD3 qf=>by
  have u4:=I4.base;have Ds2:s2.heap.get? D=none:=Heap.get?_none_of_le (by rw[hD];exact B4 _);have CH:(upd H3 D (ho ys)) C=none:=by rw[ak (Ne.symm hDC)];exact I4.free
  show hRR D C s4 ys H3 hD3 qf ?_ (I.fpOk (H':=upd H3 D (ho ys)) (by rw[hD];exact hCle) CH) (let ⟨m,hn,_⟩:=I4.loc;%[m|hn]);show I.call' (s':=s4) (ch:=fp) I4.os %[u4.keep,u4.slot,λ b o e n hx=>?_,u4.there,λ b xs e=>?_,λ b o u e=>?_|λ b ps e=>?_] ?_ I4.bare λ b hb=>%[(hf b hb).2.2.2.1,(hf b hb).2.1,(hf b hb).2.2.2.2.1|(hf b hb).2.2.2.2.2]
  ·rw[ak (λ z=>by rw[z,Ds2]at e;cases e)];exact u4.free b o e n hx
  ·have:=u4.tups b xs e;rw[ak (aj this hD3)];exact this
  ·have:=u4.frzs b o u e;rw[ak (aj this hD3)];exact this
  ·obtain⟨more,e'⟩:=u4.tbls b ps e;exact%[more|by rw[ak (aj e' hD3)];exact e']
  ·exact I4.hok.add hD3 (hok hsys ac qf hD3 pl4)
 exact hstart main ((T C).self _ _ _ st1 main)
end
def AccL(ys:No V)(o:Obj):Prop:=∃its nn,o={ cls:=.type "list",data:=.seq (its:No G3).toArray nn }/\Vals ys its
theorem AccL.nc:∀ys o,AccL ys o->∀v,o.data≠.cell v:=by rintro _ _ ⟨its,nn,rfl,_⟩ v z;cases z
def BL(te:TE)(W:Nat->Nat->No V->Hp->Prop):Nat->Nat->No V->St->Hp->Prop:=λ i m ys σ3 H3=>te σ3 H3 (λ v H4=>∃m',m' < m/\W (i+1) m' (ys ++ [v]) H4)
theorem lF{Y:Cx}{P5:P6}{σ:St}{D:Nj}{elt:Expr}{te:TE}{W:Nat->Nat->No V->Hp->Prop}(hx:Y.xe=λ _ _=>False)(he:PE Y elt te) :
  qV Y P5 σ D (do let _<-call (.builtin "list.append") [.ref D,<- eval elt Y.env]) AccL (λ ys=>ys.length < sizeLine) (BL te W) W:=by
 rintro i m ys o σ3 H3 s3 Q5 hz hq le ⟨its,nn,rfl,rv⟩ fD I3 e3;have I3':Inv Y ((P5 ++ Q5) ++ [(D,{ cls:=.type "list",data:=.seq its.toArray nn })]) σ3 H3 s3:=I3.pins_of λ p hp=>(C4.mp hp).elim (λ z=>I3.pin p (A6 _ z)) λ z=>by
  obtain rfl:p=_:=by simpa using z
  exact%[e3,fD.1,fD.2.1,fD.2.2.1|λ v z=>by cases z]
 show A0 (OA (he _ s3 σ3 H3 _ I3' hq) (?_) λ _ _ z=>by rw[hx]at z;exact z.elim);rintro y s8 ⟨v,H8,I8,r8,m',hm,w8⟩;have pD:=I8.pin (D,{ cls:=.type "list",data:=.seq its.toArray nn }) (A6 _ (A6 _ (E5.mpr rfl)));have Nt:=rv.length;show A0 (wpAny_list_append_plain (hsz:=by rw[K1];lia) %[nn|pD.1] λ h9 %[n9|pl9] sb9=>A3 ?_);show%[H8,ys ++ [v],_,(I8.sub λ p hp=>B8 _ hp).turned (t':=s8.toks) (λ b o hb e=>sb9.extBut b o hb e) pD.2.1 fD.2.1 fD.2.2.2.1 fD.2.2.2.2.1 fD.2.2.2.2.2,pl9,%[its ++ [y],n9,by simp|rv.append (.cons r8 .nil)],pD.2.1,m',hm|w8]
section
variable{X:Cx}{Nq:P6}{σ:St}{H2:Hp}{s2:F9}{scope:Scope}{own cs:No Str}{cap:No Nat}{fp:No Nj}{it:Nj}{tn:Nat->Heap->Prop}
 {elt tg iter:Expr} {ifs:No Expr} {pos:Pos} {J:It} {g:TG} {tt:TT} {te:TE} {qh:Hp->Prop} {E:G3->F9->Prop} {W:Nat->Nat->No V->Hp->Prop} {Qf:No V->Hp->Prop}
theorem nH{RR:G3->Nj->Result->F9->Prop}(I:Inv X Nq σ H2 s2)(ok:CompOk X scope own cs cap)(T:∀C,TurnY (aO X Nq s2 H2 scope C (own ++ cs) fp) tg J fp it tn qh)(st:tn 0 s2.heap)(hf:∀b∈fp,FpOk X Nq H2 b)
  (hg:∀C,PG (aO X Nq s2 H2 scope C (own ++ cs) fp) tg g) (hi:∀C,iF (aO X Nq s2 H2 scope C (own ++ cs) fp) ifs tt) (he:∀C,PE (aO X Nq s2 H2 scope C (own ++ cs) fp) elt te)
  (w0:∃m,W 0 m [] H2) (hq:∀i m ys H,W i m ys H->qh H) (turn:eS σ cap own.length J g tt te Qf W)
  (hRR:∀D C s' ys H',H' D=none->(ys.length<=sizeLine/\Qf ys H')->Inv X Nq σ (upd H' D (.lst ys)) s'->FpOk X Nq (upd H' D (.lst ys)) C->(∃m,s'.heap.Ns C m)->RR (.ref D) C (.ok .next) s') :
  wpAny (model X.prog X.w) X.A (newList []) (λ acc s₃=>wpAny (model X.prog X.w) X.A (newFunctionEnv scope X.env.globals (bF X.env scope.names []) [] X.env.qual none .none (some X.env)) (λ cenv s₄=>
   codeAny (model X.prog X.w) X.A (.compStart (.ListComp elt [%[tg,iter,ifs|0]] scope pos) 0 (.ref it) acc { cenv with scope:=relabel scope X.env }) (RR acc cenv.locals) s₄) E s₃) E s2:=by
 show gj (Acc:=AccL) (Fin:=λ ys H=>ys.length<=sizeLine/\Qf ys H) (ho:=.lst) I ok T st hf rfl (λ h=>F7 h) codeAny_compStart_list (λ Y D C s' R hY I0 hD hf' df st0 e0 hR=>?_) (λ _ ⟨its,nn,e,rv⟩ q _ p=>%[q.1,its,nn,rv|e ▸ p]) hRR;subst hY;exact fI (ipos:=iter.pos) (body:=do let _<-call (.builtin "list.append") [.ref D,<-eval elt (aO X Nq s2 H2 scope C (own ++ cs) fp).env]) rfl (T C) (hg C) (hi C) rfl rfl AccL.nc (λ i m ys H w=>%[hq _ _ _ _ w|turn i m ys H w]) (lF rfl (he C)) I0 hD hf' df st0 e0 %[[],_,rfl|.nil] w0 hR
def vP(wi:TI)(cap:No Nat)(k:Nat)(g:TG)(tt:TT)(te:TE):TE:=λ σ H Q=>wi σ H λ J H1=>
 ∃W:Nat->Nat->No V->Hp->Prop,(∃m,W 0 m [] H1)/\eS σ cap k J g tt te (λ ys H'=>∀p,H' p=none->Q (.ref p) (upd H' p (.lst ys))) W
theorem aX{wi:TI}(hc:X.calm=true)(hit:PI X tg iter wi)(ok:CompOk X scope own cs cap)
  (hg:∀Nq s2 H2 C fp,PG (aO X Nq s2 H2 scope C (own ++ cs) fp) tg g) (hi:∀Nq s2 H2 C fp,iF (aO X Nq s2 H2 scope C (own ++ cs) fp) ifs tt) (he:∀Nq s2 H2 C fp,PE (aO X Nq s2 H2 scope C (own ++ cs) fp) elt te)
  (hs:∀x,foldedSetIterable iter X.env x=pure x:=by intro _;rfl):PE X (.ListComp elt [%[tg,iter,ifs|0]] scope pos) (vP wi cap own.length g tt te):=by
 intro Nq s σ H Q I h;rw[eval_ListComp];show wpAny_comprehension_free (use:=none) rfl hs (eI λ y hy e=>I.ok.has y.1 (ok.free y hy e)) ok.kind ok.names (thn (hit Nq s σ H _ I h) λ v s1 h1=>thn h1 λ itv s2 h2=>?_);obtain⟨it,fp,tn,J,H2,e,I2,T,st2,f2,W,w0,turn⟩:=h2;subst e;show nH (RR:=λ acc C=>compPost (model X.prog X.w) X.A X.xe none (EP X Nq σ Q) acc C) I2 ok (λ C=>Turn.y (Y:=aO X Nq s2 H2 scope C (own ++ cs) fp) T hc) st2 f2 (λ C=>hg _ _ _ _ _) (λ C=>hi _ _ _ _ _) (λ C=>he _ _ _ _ _) w0 (λ _ _ _ _ _=>trivial) turn λ D C s' ys H' hD %[_|q] I' fp' %[m|hn]=>?_;obtain⟨f0,f1,f2',f3,f4,f5⟩:=fp';exact%[m,hn|λ h' sb=>%[.ref D,_,I'.turned (t':=s'.toks) (λ b o hb e=>sb.extBut b o hb e) f0 f1 f3 f4 f5,U|q D hD]]
theorem fJ{wi:TI}{i:Nat}{y:Str}{py spos:Pos}(hc:X.calm=true)(hN:X.N.Nodup)(hiy:X.N[i]?=some y)(hy:X.env.scope.names.lookup y=some .local)
  (hsw:swapsWith (.ListComp elt [%[tg,iter,ifs|0]] scope pos) (some (.Name y py)) spos.line X.env=pure true) (hit:PI X tg iter wi) (ok:CompOk X scope own cs cap)
  (hg:∀Nq s2 H2 C fp,PG (aO X Nq s2 H2 scope C (own ++ cs) fp) tg g) (hi:∀Nq s2 H2 C fp,iF (aO X Nq s2 H2 scope C (own ++ cs) fp) ifs tt) (he:∀Nq s2 H2 C fp,PE (aO X Nq s2 H2 scope C (own ++ cs) fp) elt te)
  (hs:∀x,foldedSetIterable iter X.env x=pure x:=by intro _;rfl):PS X (.Assign [.Name y py] (.ListComp elt [%[tg,iter,ifs|0]] scope pos) spos) (Ap (vP wi cap own.length g tt te) (iV i)):=by
 intro Nq s σ H D0 I h;rw[exec_Assign_Name_used _ _ _ _ hsw];show A0 (Oi (A0 ?_));change wpAny _ X.A (do let _<-comprehension (.ListComp elt [%[tg,iter,ifs|0]] scope pos) scope X.env _ (newList []) false (eval iter X.env) (some (assign (.Name y py) X.env))) _ _ s;show A0 (OA (wpAny_comprehension_free (use:=some (assign (.Name y py) X.env)) (Q:=λ _ s'=>SP X Nq D0 .next s') rfl hs (eI λ y hy e=>I.ok.has y.1 (ok.free y hy e)) ok.kind ok.names
  (thn (hit Nq s σ H _ I h) λ v s1 h1=>thn h1 λ itv s2 h2=>?_)) (λ _ s' hq=>A3 (A3 hq)) λ _ _ e=>e)
 obtain⟨it,fp,tn,J,H2,e,I2,T,st2,f2,W,w0,turn⟩:=h2;subst e;show nH (RR:=λ acc C=>compPost (model X.prog X.w) X.A X.xe (some (assign (.Name y py) X.env)) (λ _ s'=>SP X Nq D0 .next s') acc C) I2 ok (λ C=>Turn.y (Y:=aO X Nq s2 H2 scope C (own ++ cs) fp) T hc) st2 f2 (λ C=>hg _ _ _ _ _) (λ C=>hi _ _ _ _ _) (λ C=>he _ _ _ _ _) w0 (λ _ _ _ _ _=>trivial) turn λ D C s' ys H' hD %[_|q] I' fp' %[m|hn]=>?_;obtain⟨f0,f1,f2',f3,f4,f5⟩:=fp';change wpAny _ X.A (assign (.Name y py) X.env (.ref D)) _ _ _;show wpAny_assign_Name (kZ I' hN hiy (.inl hy) (v:=.ref D) rfl (?_) (.inr hy));rintro s3 I3 ⟨a,sb,ha⟩;have hCa:C≠a:=by
  rcases ha with z | z
  ·rw[z];exact f1
  ·exactλ q=>f4 y a z q.symm
 show%[m,hn.sameBut sb hCa|λ h' sb'=>%[_,_,I3.turned (t':=s3.toks) (λ b o hb e=>sb'.extBut b o hb e) f0 f1 f3 f4 f5|q D hD]]
end
def CDivB(i j:Int):Prop:=0 < j/\j<=10 ^ 60
theorem CDivB.np{i j:Int}(h:CDivB i j):Builtin.divisionGoesByPylong i j=false:=by
 show PyProof.noPylong_of_log2 ?_;have h1:j.natAbs < 2 ^ 200:=by obtain⟨a,b⟩:=h;lia
 have h2:j.natAbs.log2 < 200:=(Nat.log2_lt (by have:=h.1;lia)).mpr h1;lia
section
variable{X:Cx}
theorem vQ:OpR X (binaryOp .FloorDiv) (rI CDivB λ i j=>.int (i / j)):=opI λ i j _ _ _ _ _ hc q=>by show floordiv_int (by have:=hc.1;lia) ?_ (.inl hc.np);rw[Int.fdiv_eq_ediv_of_nonneg _ (by have:=hc.1;lia)];exact q
theorem Inv.kitx{Nq:P6}{σ:St}{H:Hp}{s:F9}{x:V}{u t:G3}(I:Inv X Nq σ H s)(rx:RelV x u)(ty:TyOf X.K H x t) :
  ∃P:Heap->Prop,PySem.W.KitX X.K u t P/\P s.heap/\u≠.builtin "__main__.__loader__#opaque" := by
 cases ty with
 | non=>cases(show u=Value.none from rx);exact%[_,PySem.W.kitx_none,True.intro|λ z=>nomatch z]
 | bl y=>cases(show u=Value.bool y from rx);exact%[_,PySem.W.kitx_bool,True.intro|λ z=>nomatch z]
 | int i=>obtain⟨t,q⟩:=(show∃t,u=Value.int i t from rx);cases q;exact%[_,PySem.W.kitx_int,True.intro|λ z=>nomatch z]
 | str y=>obtain⟨t,q⟩:=(show∃t,u=Value.str y t from rx);cases q;exact%[_,PySem.W.kitx_str,True.intro|λ z=>nomatch z]
 | flt y=>obtain⟨t,q⟩:=(show∃t,u=Value.float y t from rx);cases q;exact%[_,PySem.W.kitx_float,True.intro|λ z=>nomatch z]
 | @lst a xs ea=>
  cases(show u=Value.ref a from rx);obtain⟨_,_,n,_,h1⟩:=(show ObjOk X.prog X.w H s.heap a (.lst xs)from I.hok a _ ea)
  exact%[_,PySem.W.kitx_list,%[_,h1|U]|λ z=>nomatch z]
 | @frz a ob xs ea=>
  cases(show u=Value.ref a from rx);obtain⟨_,_,_,n,_,h1⟩:=(show ObjOk X.prog X.w H s.heap a (.frz ob (.lst xs))from I.hok a _ ea)
  exact%[_,PySem.W.kitx_list,%[_,h1|U]|λ z=>nomatch z]
 | @tup a xs ea=>
  cases(show u=Value.ref a from rx);obtain⟨_,_,_,p⟩:=(show ObjOk X.prog X.w H s.heap a (.tup xs)from I.hok a _ ea)
  obtain⟨o,h1,h2,_⟩:=p;exact%[_,PySem.W.kitx_tuple,%[o,h1|h2]|λ z=>nomatch z]
 | @dK a kvs ea=>
  cases(show u=Value.ref a from rx);obtain⟨_,_,vs,_,p⟩:=(show ObjOk X.prog X.w H s.heap a (.dK kvs)from I.hok a _ ea)
  obtain⟨o,es,ep,h1,h2,_⟩:=p;exact%[_,PySem.W.kitx_dict,%[o,h1|h2.1]|λ z=>nomatch z]
 | @dT a kvs ea=>
  cases(show u=Value.ref a from rx);obtain⟨_,_,xs,_,o,es,ep,h1,h2,_⟩:=(show ObjOk X.prog X.w H s.heap a (.dT kvs)from I.hok a _ ea)
  exact%[_,PySem.W.kitx_dict,%[o,h1|h2.1]|λ z=>nomatch z]
 | @ext a φ ea c=>
  cases(show u=Value.ref a from rx);obtain⟨p,_,_⟩:=(show ObjOk X.prog X.w H s.heap a (.ext φ)from I.hok a _ ea)
  obtain⟨o,h1,h2⟩:=c _ p;exact%[_,PySem.W.kitx_dict,%[o,h1|h2]|λ z=>nomatch z]
 | @ins a C dx fs ea cl ha hn htk hm=>
  cases(show u=Value.ref a from rx);obtain⟨mA,O,_⟩:=gI I.hok ea;obtain⟨od,J,_⟩:=O.look;exact%[_,PySem.W.kitx_own (cl.get _) cl.hd ha hn htk hm,J|λ z=>nomatch z]
def clV:V->Nm Value
 | .ty T=>some (.type T)
 | .ref C=>↑C
 | _=>none
theorem clV.rel{v:V}{u c:G3}(e:clV v=some c)(r:RelV v u):u=c:=by
 cases v with
 | ty T=>have e':Value.type T=c:=C0 e;rw[<- e'];exact r
 | ref C=>have e':Value.ref C=c:=C0 e;rw[<- e'];exact r
 | _=>cases e
def clVs:No V->Nm (No G3)
 | []=>some []
 | v :: r=>match clV v,clVs r with
  | some c,some cs=>some (c :: cs)
  | _,_=>none
theorem clVs.rel:∀{vs:No V}{us cs:No G3},clVs vs=some cs->Vals vs us->us=cs
 | [],_,_,e,.nil=>C0 e
 | v :: r,_,_,e,.cons r1 r2=>by
  unfold clVs at e
  split at e
  ·rename_i c cs' e1 e2
   cases e;rw[clV.rel e1 r1,clVs.rel e2 r2]
  ·cases e
inductive rz_call_isinst(K:C6)(xs:No V)(H:Hp)(Q:VK):Prop
|mk(x cv t c b:_)(_:xs=[x,cv])(_:TyOf K H x t)(_:clV cv=some c)(_:PySem.W.kitOne K t c=some b)(_:Q (.bl b) H)
theorem br:bS X (.builtin "isinstance") (rz_call_isinst X.K):=by
 intro Nq s σ H xs us Q I rv h;obtain⟨x,cv,t,c,b,rfl,ty,e1,e2,q⟩:=h;cases rv with
 | cons r1 rr=>
  cases rr with
  | cons r2 rr=>
   cases rr;rw[clV.rel e1 r2];exact sI I r1 ty e2 λ tk=>%[.bl b,H,I.tok tk,U|q]
inductive rz_call_isinstT(K:C6)(xs:No V)(H:Hp)(Q:VK):Prop
|mk(x p t cvs cs b:_)(_:xs=[x,.ref p])(_:TyOf K H x t)(_:H p= ~~~cvs)(_:clVs cvs=some cs)(_:PySem.W.kitAny K t cs=some b)(_:Q (.bl b) H)
theorem mL:bS X (.builtin "isinstance") (rz_call_isinstT X.K):=by
 intro Nq s σ H xs us Q I rv h;obtain⟨x,p,t,cvs,cs,b,rfl,ty,hp,e1,e2,q⟩:=h;cases rv with
 | cons r1 rr=>
  cases rr with
  | cons r2 rr=>
   cases rr;cases r2;obtain⟨_,its,rits,o,ho,hc,n,hd⟩:=I.hok p _ hp;obtain⟨P,Z,p1,p2⟩:=I.kitx r1 ty;obtain⟨oc,od,dt,osl⟩:=o
   replace hc:oc=.type "tuple" := hc
   replace hd:dt=.seq its.toArray n:=hd
   subst hc hd;have e3:=clVs.rel e1 rits;subst e3;exact PySem.W.kia_tup Z I.kIn p1 ho e2 p2 λ tk=>%[.bl b,H,I.tok tk,U|q]
end
mutual
inductive DatV(K:C6)(H:Hp):V->PyData->Prop
 | non:DatV K H .non .none
 | bl (b:Bool):DatV K H (.bl b) (.bool b)
 | int (i:Int):DatV K H (.int i) (.int i)
 | str (x:Str):DatV K H (.str x) (.str x)
 | lst {a:Nj} {xs:No V} {ds:No PyData}:SqL K H a xs->DatVs K H xs ds->DatV K H (.ref a) (.list ds)
 | tup {a:Nj} {xs:No V} {ds:No PyData}:SqT K H a xs->DatVs K H xs ds->DatV K H (.ref a) (.tuple ds)
inductive DatVs(K:C6)(H:Hp):No V->No PyData->Prop
 | nil:DatVs K H [] []
 | cons {x:V} {d:PyData} {xs:No V} {ds:No PyData}:DatV K H x d->DatVs K H xs ds->DatVs K H (x :: xs) (d :: ds)
end
section
variable{X:Cx}{Nq:P6}{σ:St}{H:Hp}{s:F9}
mutual
theorem Inv.reads(I:Inv X Nq σ H s):∀{v:V}{d:PyData},DatV X.K H v d->∀{u:G3},RelV v u->∃as,Reads s.heap u d as
 | _,_,.non,u,r=>by cases(show u=Value.none from r);exact%[_|.none]
 | _,_,.bl b,u,r=>by cases(show u=Value.bool b from r);exact%[_|.bool b]
 | _,_,.int i,u,r=>by obtain⟨t,e⟩:=(show∃t,u=Value.int i t from r);subst e;exact%[_|.int i t]
 | _,_,.str x,u,r=>by obtain⟨t,e⟩:=(show∃t,u=Value.str x t from r);subst e;exact%[_|.str x t]
 | _,_,.lst (a:=a) h hs,u,r=>by cases(show u=Value.ref a from r);obtain⟨its,rv,⟨o,n,e,c,_,d⟩,_⟩:=I.list h;obtain⟨as,ra⟩:=I.readsAll hs rv;exact%[_|.list e c d (by simpa using ra)]
 | _,_,.tup (a:=a) h hs,u,r=>by cases(show u=Value.ref a from r);obtain⟨its,rv,⟨o,e,c,n,d⟩,_⟩:=I.tuple h;obtain⟨as,ra⟩:=I.readsAll hs rv;exact%[_|.tuple e c d (by simpa using ra)]
theorem Inv.readsAll(I:Inv X Nq σ H s):∀{vs:No V}{ds:No PyData},DatVs X.K H vs ds->∀{us:No G3},Vals vs us->∃as,ReadsAll s.heap us ds as
 | _,_,.nil,_,.nil=>%[_|.nil]
 | _,_,.cons h hs,_,.cons r rs=>by obtain⟨as,ra⟩:=I.reads h r;obtain⟨bs,rb⟩:=I.readsAll hs rs;exact%[_|.cons ra rb]
end
end
section
variable{X:Cx}
inductive rz_op_neD(K:C6)(x:V)(y:V)(H:Hp)(Q:VK):Prop
|mk(da db:_)(_:DatV K H x da)(_:DatV K H y db)(_:SeqAt.shaped da=true)(_:SeqAt.shaped db=true)(_:Q (.bl (!PyData.eqv da db)) H)
theorem pT(hu:X.A.units+64 < cLine):OpR X (compareOp .NotEq) (rz_op_neD X.K):=by intro Nq s σ H x y v u Q I rx ry h;obtain⟨da,db,hx,hy,s1,s2,q⟩:=h;obtain⟨as,ra⟩:=I.reads hx rx;obtain⟨bs,rb⟩:=I.reads hy ry;exact ne_dataH ra rb s1 s2 hu %[.bl _,H,I,rfl|q]
inductive rz_op_eqD(K:C6)(x:V)(y:V)(H:Hp)(Q:VK):Prop
|mk(da db:_)(_:DatV K H x da)(_:DatV K H y db)(_:SeqAt.shaped da=true)(_:SeqAt.shaped db=true)(_:Q (.bl (PyData.eqv da db)) H)
theorem vR(hu:X.A.units+64 < cLine):OpR X (compareOp .Eq) (rz_op_eqD X.K):=by intro Nq s σ H x y v u Q I rx ry h;obtain⟨da,db,hx,hy,s1,s2,q⟩:=h;obtain⟨as,ra⟩:=I.reads hx rx;obtain⟨bs,rb⟩:=I.reads hy ry;exact eq_dataH ra rb s1 s2 hu %[.bl _,H,I,rfl|q]
end
section
variable{prog:G0}{w:G2}{A:Around}{E:G3->F9->Prop}
theorem jL{it l:Nj}{items:Nn G3}(hne:l≠it):∀(n i:Nat)(s:F9)(Q:No G3->F9->Prop),s.heap.IsListIter it l i->s.heap.IsList l items->i+n<=items.size ->
  (∀h',h'.IsListIter it l (i+n)->Heap.SameBut it s.heap h'->Q ((items.toList.drop i).take n) { s with heap:=h' })->wpAny (model prog w) A (draw (.ref it) n) Q E s
 | 0,i,s,Q,hit,_,_,hQ=>by change wpAny _ _ (pure []) Q E s;exact A3 (by simpa using hQ s.heap hit (Heap.SameBut.refl ..))
 | n+1,i,s,Q,hit,ht,hle,hQ=>by
  have hlt:i < items.size:=⋯
  change wpAny _ _ (pyNext (.ref it) >>= _) Q E s;show A0 (wpAny_pyNext_list_item hit ht (x:=items[i]) (by simp[hlt]) λ h₁ hit₁ hs₁=>?_);show A0 (N2 (jL hne n (i+1) _ _ hit₁ (ht.extBut hs₁.extBut hne) ⋯ λ h₂ hit₂ hs₂=>A3 ?_));have hd:items.toList.drop i=items[i] :: items.toList.drop (i+1):=by simp[Ms,hlt]
  have q:=hQ h₂ (by rw[show i+(n+1)=i+1+n by lia];exact hit₂) (hs₁.trans hs₂);rw[hd,List.take_succ_cons]at q;exact q
theorem gO{s:F9}{l:Nj}{items:Nn G3}{Q:No G3->F9->Prop}(hh:A.handled=none)(ht:s.heap.IsList l items)
  (hQ:∀h',Heap.ExtBut s.heap.objs.size s.heap h'->Q items.toList { s with heap:=h' }):wpAny (model prog w) A (unpackItems (.ref l) items.size none) Q E s:=by
 have hlt:l≠s.heap.objs.size:=by obtain⟨o,ho,_⟩:=ht;exact C1 (B0 ho)
 have hp:(s.heap.push { cls:=.type "list_iterator",data:=.fields #[.ref l,.int 0 0] }).IsList l items:=by obtain⟨o,ho,r⟩:=ht;exact%[o,A8 _ ho|r]
 unfold unpackItems;show A0 ?_
 ·unfold notIterableAtAll;show A0 (wpAny_specialOf ht.typeIs PySem.slot_list_iter.lookup ?_);show A3 ?_;simp only[MN,OJ];show A0 (N2 (Of ht ?_));show A0 (N2 (jL hlt items.size 0 _ _ %[_,A9 _ rfl,rfl|rfl] hp ⋯ λ h₁ hit₁ hs₁=>?_));have hall:List.take items.size (List.drop 0 items.toList)=items.toList:=by rw[List.drop_zero];exact K5 (by simp)
  rw[hall];rw[Nv (by simp)];have ht₁:h₁.IsList l items:=hp.extBut hs₁.extBut hlt;show A0 (N2 (wpAny_pyNext_list_end hh hit₁ ht₁ (by simp) λ h₂ he₂=>?_));simp only[Option.isSome_none,MN,if_false];show A3 (hQ h₂ λ b o hb e=>he₂ b o hb (hs₁.extBut b o hb (A8 _ e)))
theorem gp{s:F9}{env:Env}{elts:No Expr}{x1}{pos:Pos}{l:Nj}{items:Nn G3}{Q:Unit->F9->Prop}(hh:A.handled=none)(ht:s.heap.IsList l items)
  (hn:(assignEach elts env).length=items.size) (hstar:(assignEach elts env).findIdx? (·.1)=none)
  (h:∀h',Heap.ExtBut s.heap.objs.size s.heap h'->wpAny (model prog w) A (assignInOrder ((assignEach elts env).map (·.2)) items.toList) Q E { s with heap:=h' }) :
  wpAny (model prog w) A (assign (.Tuple elts x1 pos) env (.ref l)) Q E s:=by
 rw[assign_Tuple];show A0 (Oi ?_);unfold unpack;rw[hn,hstar];exact A0 (N2 (gO hh ht h))
end
section
variable{X:Cx}{pos:Pos}
def JD(K:C6)(n:Nat)(t:TGs):TG:=λ v σ H Q=>∃a xs,v=.ref a/\(SqL K H a xs\/SqT K H a xs)/\xs.length=n/\t xs σ H Q
theorem vS{es:No Expr}{k:Nat}{t:TGs}{n:Nat}(hc:X.calm=true)(h:PGs X es t)
  (hn:(assignEach es X.env).length=n:=by rfl) (hst:(assignEach es X.env).findIdx? (·.1)=none:=by rfl):PG X (.Tuple es k pos) (JD X.K n t):=by
 intro Nq s σ H v u Q I r hw;obtain⟨a,xs,e1,hq,hl,hw⟩:=hw;rcases hq with hq | hq
 ·subst e1;cases r;obtain⟨its,rv,ht,hz⟩:=I.list hq;show gp (I.ok.hd hc) ht.isList (by simp[hn,<- hl,rv.length]) hst λ h' hx=>?_;have I1:Inv X Nq σ H { s with heap:=h' }:=I.kept (t':=s.toks) λ b o e=>hx b o (C1 (B0 e)) e;exact h Nq _ σ H xs _ Q I1 (by simpa using rv) hw
 ·exact bO hc h hn hst Nq s σ H v u Q I r %[a,xs,e1,hq,hl|hw]
end
def Itz(l1 l2:Nj):It :=
  ⟨λ i H=>∃xs ys x y,H l1=↥xs/\H l2=↥ys/\xs[i]?=some x/\ys[i]?=some y,
   λ i H v H'=>∃p xs ys x y,H p=none/\v=.ref p/\H'=upd H p (.tup [x,y])/\H l1=↥xs/\H l2=↥ys/\xs[i]?=some x/\ys[i]?=some y,
   λ i H=>∃xs ys,H l1=↥xs/\H l2=↥ys/\(xs.length<=i\/ys.length<=i)⟩
section
variable{X:Cx}
theorem Inv.turnedN{Nq:P6}{σ:St}{H:Hp}{s:F9}{h':Heap}{t':Nat}{ch:No Nj}(I:Inv X Nq σ H s)(hf:∀b∈ch,FpOk X Nq H b)(k:∀b o,b∉ch->s.heap.get? b=some o->h'.get? b=some o):Inv X Nq σ H { s with heap:=h',toks:=t' }:=by
 have hLc:X.env.locals∉ch:=λ z=>(hf _ z).2.1 rfl;have nt:∀b u,H b=some u->b∉ch:=λ b u e z=>by rw[(hf b z).1]at e;cases e
 show I.step (g':=s.gens) (d':=s.drawn) (ch:=ch) (λ b hb=>%[(hf b hb).2.2.2.1,(hf b hb).2.1,(hf b hb).2.2.2.2.1|(hf b hb).2.2.2.2.2]) (λ b o _ _ hc e _=>k b o hc e) (λ b o _ _ hc e _=>%[o.slots|k b o hc e]) (λ _ _ _ _ n=>n)
  (λ b o hc e=>%[o|k b o hc e]) (λ _ _ e=>e) (λ _ _ _ e=>e) (λ b ps e=>%[#[]|by rw[e];simp]) (λ m hm=>?_) (λ b u e=>?_) I.bare
 ·obtain⟨o,es,ep,ho,r⟩:=hm;exact%[o,es,ep,k _ o hLc ho|r]
 ·show(I.hok b u e).stay (λ c v hc q=>k c v ?_ q) (λ _ q=>q) λ _ _ q=>q;rcases hc with z | z
  ·rw[z];exact nt b u e
  ·exact nt c _ z
theorem Inv.track{Nq:P6}{σ:St}{H:Hp}{s:F9}{a:Nj}{o:HO}(I:Inv X Nq σ H s)(hf:FpOk X Nq H a)(fa:X.s₀.heap.objs.size<=a)(new:ObjOk X.prog X.w (upd H a o) s.heap a o):Inv X Nq σ (upd H a o) s:=by
 obtain⟨f0,f1,f2,f3,f4,f5⟩:=hf;have s0:∀b o,X.s₀.heap.get? b=some o->b≠a:=λ b o e=>C1 (C3 (B0 e) fa);show%[I.ok,I.os,I.bare,%[I.base.keep,I.base.slot,λ b o e n hx=>?_,I.base.there,λ b xs e=>?_,λ b o u e=>?_|λ b ps e=>?_],I.loc,I.cell,?_,λ x c e=>?_,λ p hp=>?_,I.hok.add f0 new|I.len]
 ·rw[ak (s0 b o e)];exact I.base.free b o e n hx
 ·have q:=I.base.tups b xs e;rw[ak (aj q f0)];exact q
 ·have q:=I.base.frzs b o u e;rw[ak (aj q f0)];exact q
 ·obtain⟨more,q⟩:=I.base.tbls b ps e;exact%[more|by rw[ak (aj q f0)];exact q]
 ·rw[ak (Ne.symm f1)];exact I.free
 ·rw[ak (f4 x c e)];exact I.freeC x c e
 ·obtain⟨e,n,r⟩:=I.pin p hp;exact%[e,by rw[ak (f5 p hp)];exact n|r]
end
structure ZipAp(z TI TO i1 i2:Nj):Prop where
 nd:[z,TI,TO,i1,i2].Nodup
theorem vT{P:G0}{w:G2}{K:C6}{es:No Expr}{kk:Nat}{tp:Pos}(l1 l2 z TI TO i1 i2:Nj)(D:ZipAp z TI TO i1 i2) :
  Turn P w K (.Tuple es kk tp) (Itz l1 l2) [z,TI,TO,i1,i2] z (λ i h=>IsZip h z TI TO .none/\IsPair h TI (.ref i1) (.ref i2)/\(∃a b,IsPair h TO a b)/\h.IsListIter i1 l1 i/\h.IsListIter i2 l2 i) where
 mem:=by simp
 obj:=λ i h st b hb=>by
  obtain⟨a1,a2,⟨x,y,a3⟩,⟨o4,a4,_,d4⟩,⟨o5,a5,_,d5⟩⟩:=st;simp only[J3,K7,OB]at hb;rcases hb with rfl | rfl | rfl | rfl | rfl
  ·exact%[_,a1|λ v q=>by cases q]
  ·exact%[_,a2|λ v q=>by cases q]
  ·exact%[_,a3|λ v q=>by cases q]
  ·exact%[_,a4|λ v q=>by rw[d4]at q;cases q]
  ·exact%[_,a5|λ v q=>by rw[d5]at q;cases q]
 keep:=λ i h h' st k=>by obtain⟨a1,a2,⟨x,y,a3⟩,a4,a5⟩:=st;exact%[k z (by simp) _ a1,k TI (by simp) _ a2,%[x,y|k TO (by simp) _ a3],a4.at λ o e=>k i1 (by simp) o e|a5.at λ o e=>k i2 (by simp) o e]
 item:=by
  intro X hP hw hK hc i Nq s σ H E I hf st hg;subst hP hw hK;obtain⟨a1,a2,⟨x0,y0,a3⟩,a4,a5⟩:=st;obtain⟨xs,ys,x,y,e1,e2,ex,ey⟩:=hg;have tr:∀{l:Nj}{zs:No V},H l=↥zs->∀b∈[z,TI,TO,i1,i2],l≠b:=λ e b hb q=>by rw[q,(hf b hb).1]at e;cases e
  have nd:=D.nd;simp only[Mq,J3,K7,OB,Ou,List.nodup_nil,and_true,not_false_eq_true]at nd;obtain⟨⟨n1,n2,n3,n4⟩,⟨n5,n6,n7⟩,⟨n8,n9⟩,n10⟩:=nd;have A':ZipApart z TI TO i1 i2 l1 l2:=%[Ne.symm n1,Ne.symm n2,Ne.symm n3,Ne.symm n4,n5,n6,n7,n8,n9,n10,tr e1 z (by simp),tr e1 TO (by simp),tr e1 i1 (by simp),tr e1 i2 (by simp),tr e2 z (by simp),tr e2 TO (by simp),tr e2 i1 (by simp)|tr e2 i2 (by simp)]
  obtain⟨its1,rv1,p1,_⟩:=I.list (G6 e1);obtain⟨its2,rv2,p2,_⟩:=I.list (G6 e2);obtain⟨u1,hu1,r1⟩:=rv1.get ex;obtain⟨u2,hu2,r2⟩:=rv2.get ey;show wpAny_pyNext_zip_item A' a1 a2 a3 a4 a5 p1.isList p2.isList (x:=u1) (y:=u2) (by simpa using hu1) (by simpa using hu2) λ h' b1 b2 b3 b4 b5 b6 bk=>%[_,U|?_]
  show wpAny_letOwnedTupleGo_zip b1 λ h'' c1 cs=>?_;have zs:z < s.heap.objs.size:=B0 a1;have k2:∀b o,b∉[z,TI,TO,i1,i2]->s.heap.get? b=some o->h''.get? b=some o:=λ b o hb e=>by simp only[J3,K7,OB,Ou]at hb;exact cs.extBut b o hb.1 (bk b o hb.1 hb.2.2.1 hb.2.2.2.1 hb.2.2.2.2 e)
  have I1:Inv X Nq σ H { s with heap:=h'' }:=I.turnedN (t':=s.toks) hf k2;have hp:h''.get? s.heap.objs.size=some { cls:=.type "tuple",data:=.seq #[u1,u2] }:=cs.extBut _ _ (MU zs) b5;have hn:H s.heap.objs.size=none:=I.hok.fresh (B4 _);have fpk:=I.fpOk (H':=H) (B4 _) hn;have I2:Inv X Nq σ (upd H s.heap.objs.size (.tup [x,y])) { s with heap:=h'' }:=I1.track fpk I.sz %[by change 2<=sizeLine;decide,[u1,u2],.cons r1 (.cons r2 .nil),_,hp,U,_|U];show%[.ref s.heap.objs.size,_,I2,U,%[_,xs,ys,x,y,hn,U,U,e1,e2,ex|ey],%[c1,?_,%[u1,u2|cs.extBut _ _ (Ne.symm n2) b2],b3.extBut cs.extBut (Ne.symm n3)|b4.extBut cs.extBut (Ne.symm n4)]|λ b hb=>?_]
  ·exact cs.extBut _ _ (Ne.symm n1) (bk _ _ (Ne.symm n1) n5 n6 n7 a2)
  ·have hbl:b < s.heap.objs.size:=by
    simp only[J3,K7,OB]at hb;obtain⟨o4,a4',_⟩:=a4;obtain⟨o5,a5',_⟩:=a5;rcases hb with rfl | rfl | rfl | rfl | rfl
    ·exact zs
    ·exact B0 a2
    ·exact B0 a3
    ·exact B0 a4'
    ·exact B0 a5'
   rw[ak (C1 hbl)];exact(hf b hb).1
 done:=by
  intro X hP hw hK hc i Nq s σ H E I hf st hg;subst hP hw hK;obtain⟨a1,a2,⟨x0,y0,a3⟩,a4,a5⟩:=st;obtain⟨xs,ys,e1,e2,ex⟩:=hg;have tr:∀{l:Nj}{zs:No V},H l=↥zs->∀b∈[z,TI,TO,i1,i2],l≠b:=λ e b hb q=>by rw[q,(hf b hb).1]at e;cases e
  have nd:=D.nd;simp only[Mq,J3,K7,OB,Ou,List.nodup_nil,and_true,not_false_eq_true]at nd;obtain⟨⟨n1,n2,n3,n4⟩,⟨n5,n6,n7⟩,⟨n8,n9⟩,n10⟩:=nd;have A':ZipApart z TI TO i1 i2 l1 l2:=%[Ne.symm n1,Ne.symm n2,Ne.symm n3,Ne.symm n4,n5,n6,n7,n8,n9,n10,tr e1 z (by simp),tr e1 TO (by simp),tr e1 i1 (by simp),tr e1 i2 (by simp),tr e2 z (by simp),tr e2 TO (by simp),tr e2 i1 (by simp)|tr e2 i2 (by simp)]
  obtain⟨its1,rv1,p1,_⟩:=I.list (G6 e1);obtain⟨its2,rv2,p2,_⟩:=I.list (G6 e2);have l1':=rv1.length;have l2':=rv2.length;show wpAny_pyNext_zip_end (I.ok.hd hc) A' a1 a2 a3 a4 a5 p1.isList p2.isList (by rcases ex with q | q;exact .inl (by simp;lia);exact .inr (by simp;lia)) λ h' bk=>%[U|?_]
  exact I.turnedN (t':=s.toks) hf λ b o hb e=>by simp only[J3,K7,OB,Ou]at hb;exact bk b o hb.1 hb.2.2.1 hb.2.2.2.1 hb.2.2.2.2 e
 self:=λ _ _ _ _ _ st h=>wpAny_pyIter_zip st.1 h
def JE(ta:TA):TI:=λ σ H R=>ta σ H λ vs H1=>∃l1 l2 xs ys,vs=[.ref l1,.ref l2]/\H1 l1=↥xs/\H1 l2=↥ys/\R (Itz l1 l2) H1
theorem Az{X:Cx}{a b:Expr}{ta:TA}{p pos tp:Pos}{es:No Expr}{kk:Nat}(hg:Gl X "zip")(hm:X.mg "zip" = none)(ha:PA X [a,b] ta)
  (hs:starEach [a,b] X.env=[(false,eval a X.env),(false,eval b X.env)]:=by rfl) (hs2:starEach [b] X.env=[(false,eval b X.env)]:=by rfl) :
  PI X (.Tuple es kk tp) (.Call (.Name "zip" p) [a,b] [] pos) (JE ta):=by
 intro Nq s σ H R I h;show Call_ (eF I hg hm PyProof.Rows.boot_zip (N8 (thn (ha pos Nq s σ H _ I h) ?_) (by rw[hs,hs2]) (by rw[hs2];rfl)));rintro us s1 ⟨vs,H1,I1,r1,q1⟩;obtain⟨l1,l2,xs,ys,rfl,e1,e2,q⟩:=q1;cases r1 with
 | cons r rr=>
  cases rr with
  | cons r' rr=>
   cases rr;cases r;cases r';obtain⟨its1,rv1,p1,_⟩:=I1.list (G6 e1);obtain⟨its2,rv2,p2,_⟩:=I1.list (G6 e2);show call_zip_2 p1.isList p2.isList λ h' z1 z2 z3 z4 z5 sz keep=>?_;have I2:Inv X Nq σ H1 { s1 with heap:=h' }:=I1.kept (t':=s1.toks) keep;show wpAny_pyIter_zip z1 %[s1.heap.objs.size+4,[s1.heap.objs.size+4,s1.heap.objs.size+2,s1.heap.objs.size+3,s1.heap.objs.size,s1.heap.objs.size+1],_,_,H1,rfl,I2,vT l1 l2 _ _ _ _ _ %[|by simp],%[z1,z2,%[_,_|z3],z4|z5],λ b hb=>?_|q];have hb':s1.heap.objs.size<=b:=by simp only[J3,K7,OB]at hb;rcases hb with rfl | rfl | rfl | rfl | rfl <;> lia
   exact I1.fpOk hb' (I1.hok.fresh hb')
end L2
namespace L2
open PySem PySem.Spec PyProof.Rows
def Dn(P:G0)(w:G2)(K:C6)(mg:Str->Nm G3)(base:Heap)(x:Str)(ps:No Str)(k:Nat)(sp:Sp):Prop :=
 ∃(f:Nj)(fd:G1),FnOk P w K mg base CX0 k f fd ps sp/\Binds K fd ps []/\PySem.W.keepIn K (.ref f)=true/\mg x=↑f
theorem av{X:Cx}{k:Nat}{ps:No Str}{sp:Sp}{x:Str}{p pos:Pos}{e:Expr}{es:No Expr}{t:TA}(D:Dn X.prog X.w X.K X.mg X.base x ps k sp)(hr:Room k X.A)(hg:Gl X x)(ha:PA X (e :: es) t)
  (hdb:(x == ("__debug__" : Str))=false:=by decide) (he:starEach (e :: es) X.env=(false,eval e X.env) :: starEach es X.env:=by rfl) (hpl:(backTo pos (starEach es X.env)).any (·.1)=false:=by rfl) :
  PE X (.Call (.Name x p) (e :: es) [] pos) (zS sp [] E0 t):=by
 obtain⟨f,fd,F,hb,hk,hm⟩:=D;exact yz F hr hg hm hk hb .nil qU ha hdb he hpl
def mM(sc:Scope)(N:No Str)(scope:Scope)(own cs:No Str)(cap:No Nat):Bool :=
 decide (scope.kind=.function) && scope.names.all (λ y=>decide (y.2=.local->scope.names.lookup y.1=some .local)) &&
 scope.names.all (λ y=>decide (y.2=.free->sc.names.lookup y.1=some .cell\/sc.names.lookup y.1=some .free)) &&
 decide (cs.length=cap.length) && (cs.zip cap).all (λ y=>decide (N[y.2]?=some y.1) && decide ((y.1,NameKind.free)∈scope.names)) && scope.names.all (λ y=>decide (y.2=.free->scope.names.lookup y.1≠some .local)) && scope.names.all (λ y=>decide (y.2=.free->scope.names.lookup y.1≠some .cell)) && scope.names.all (λ y=>decide (y.2=.free->(y.1,NameKind.cell)∉scope.names))
theorem az{X:Cx}{sc:Scope}{N:No Str}{scope:Scope}{own cs:No Str}{cap:No Nat}(h1:X.env.scope=sc)(h2:X.N=N)(h:mM sc N scope own cs cap=true):CompOk X scope own cs cap:=by
 subst h1 h2;unfold mM at h;simp only[MT,Nc,OM]at h;obtain⟨⟨⟨⟨⟨⟨⟨a1,a3⟩,a4⟩,a6⟩,a7⟩,a8⟩,a9⟩,a10⟩:=h;show%[a1,a3,a4,λ i y e=>?_,a6,λ y hy e=>a8 _ hy rfl e,λ y hy e=>a9 _ hy rfl e|λ y hy=>a10 _ hy rfl];have hi:i < cs.length:=(A7.mp e).1;have hj:i < cap.length:=by rw[<- a6];exact hi
 show%[cap[i],F4 hj|?_];have hm:(y,cap[i])∈cs.zip cap:=by
  have:(cs.zip cap)[i]?=some (y,cap[i]):=by rw[List.getElem?_zip_eq_some];exact%[e|F4 hj]
  exact B7 this
 exact a7 _ hm
theorem aL{σ:St}{H:Hp}{A B:Hp->Prop}(h:A H):BK σ H (λ ok H3=>if ok=true then A H3 else B H3):=by change(if (true:Bool)=true then A H else B H);rw[Nw rfl];exact h
section
variable{X:Cx}{tg:Expr}
def AA(K:C6)(tl:TE):TI:=λ σ H R=>zO K tl σ H R\/BB K tl σ H R
theorem vU{l:Expr}{tl:TE}(hl:PE X l tl):PI X tg l (AA X.K tl):=by
 intro Nq s σ H R I h;rcases h with h | h
 ·exact bj hl Nq s σ H R I h
 ·exact jE hl Nq s σ H R I h
end
def bE:No String:=["NoneType","bool","int","str","list","tuple","dict"]
theorem yH{K:C6}:∀T∈bE,PySem.W.kitOne K (.type T) (.type "int")=some (T == "int" || T == "bool"):=by intro T h;simp only[bE,J3,K7,OB]at h;rcases h with rfl | rfl | rfl | rfl | rfl | rfl | rfl <;> kernel_rfl
theorem nI{K:C6}:∀T∈bE,PySem.W.kitOne K (.type T) (.type "bool")=some (T == "bool"):=by intro T h;simp only[bE,J3,K7,OB]at h;rcases h with rfl | rfl | rfl | rfl | rfl | rfl | rfl <;> kernel_rfl
theorem vV{K:C6}:∀T∈bE,PySem.W.kitOne K (.type T) (.type "list")=some (T == "list"):=by intro T h;simp only[bE,J3,K7,OB]at h;rcases h with rfl | rfl | rfl | rfl | rfl | rfl | rfl <;> kernel_rfl
theorem sO{K:C6}:∀T∈bE,PySem.W.kitOne K (.type T) (.type "tuple")=some (T == "tuple"):=by intro T h;simp only[bE,J3,K7,OB]at h;rcases h with rfl | rfl | rfl | rfl | rfl | rfl | rfl <;> kernel_rfl
theorem yI{K:C6}:∀T∈bE,PySem.W.kitAny K (.type T) [.type "list",.type "tuple"]=some (T == "list" || T == "tuple"):=by
 intro T h;have h1:=vV (K:=K) T h;have h2:=sO (K:=K) T h;unfold PySem.W.kitAny;rw[h1];cases e:(T == "list")with
 | true=>rfl
 | false=>
  change PySem.W.kitAny K (.type T) [.type "tuple"]=_;unfold PySem.W.kitAny;rw[h2];cases e2:(T == "tuple") <;> rfl
def Ty(K:C6)(H:Hp)(x:V)(T:String):Prop:=T∈bE/\TyOf K H x (.type T)
theorem Ty.int{K:C6}{H:Hp}{i:Int}:Ty K H (.int i) "int" := %[by simp[bE]|.int i]
theorem Ty.bl{K:C6}{H:Hp}{b:Bool}:Ty K H (.bl b) "bool" := %[by simp[bE]|.bl b]
theorem Ty.lst{K:C6}{H:Hp}{a:Nj}{xs:No V}(e:H a=↥xs):Ty K H (.ref a) "list" := %[by simp[bE]|.lst e]
theorem Ty.tup{K:C6}{H:Hp}{a:Nj}{xs:No V}(e:H a= ~~~xs):Ty K H (.ref a) "tuple" := %[by simp[bE]|.tup e]
def bM:V->Int->Bool
 | .int i,l=>decide (l<=i)
 | _,_=>false
def sP:V->Bool
 | .bl _=>true
 | _=>false
theorem AB{K:C6}{H:Hp}{x:V}{T:String}(t:TyOf K H x (.type T))(h:T∈bE):(T == "int")=true->∃i,x=.int i:=by
 intro e;have e':T = "int" := by simpa using e
 subst e';generalize hv:Value.type "int" = tv at t;cases t with
 | int i=>exact%[i|U]
 | _=>exact absurd hv (by simp)
theorem qW{K:C6}{H:Hp}{x:V}{T:String}(t:TyOf K H x (.type T)):(T == "bool")=sP x:=by
 generalize hv:Value.type T=tv at t;cases t with
 | bl b=>cases hv;rfl
 | non=>cases hv;rfl
 | int i=>cases hv;rfl
 | str i=>cases hv;rfl
 | flt i=>cases hv;rfl
 | lst i=>cases hv;rfl
 | frz i=>cases hv;rfl
 | tup i=>cases hv;rfl
 | dK i=>cases hv;rfl
 | dT i=>cases hv;rfl
 | ext i _=>cases hv;rfl
 | ins=>cases hv
end L2
local macro_rules|`($a ^^^ $b)=>`(@L2.ad _ _ _ _ _ $a $b rfl)
local macro_rules|`($c:char)=>if c.getChar.toNat<66 then `(L2.pv $(Lean.quote (c.getChar.toNat-48))) else Lean.Macro.throwUnsupported
local macro_rules|`($a<<<$b)=>`(@L2.af _ _ _ _ _ $a $b)
local macro_rules|`($a>>>$b)=>`(@L2.af _ _ _ _ _ $a (@L2.ah _ _ _ $b))
local macro_rules|`($a⁻¹)=>`(@L2.ah _ _ _ (@L2.ar _ _ _ _ $a))
local macro_rules|`($a∩$b)=>`(@L2.av _ _ _ _ _ _ _ _ _ _ $a (($(Lean.mkIdent `hr)).mono ∅) rfl $b ∅ rfl rfl)
local macro_rules|`($a∪$b)=>`(@L2.av _ _ _ _ _ _ _ _ _ _ $a $(Lean.mkIdent `hr) rfl $b ∅ rfl rfl)
local macro_rules|`($a∣$b)=>`(@L2.aE _ _ $a _ _ _ _ $(Lean.mkIdent `nd) rfl (Or.inl rfl) $b rfl (Or.inl rfl))
local macro_rules|`($a&&&$o&&&$b)=>`(@L2.aB _ _ _ _ _ _ _ $o $a $b (fun _ _=>rfl))
local macro_rules|`($a|||$o|||$b)=>`(@L2.aH _ _ _ _ _ _ _ _ $o $a $b)
local macro_rules|`($a•$b)=>`(L2.au (L2.am (i:=$a) $(Lean.mkIdent `nd) rfl (Or.inl rfl)) $b)
local macro_rules|`($a<*>$o<*>$b)=>`(@L2.aA _ _ _ _ _ _ _ _ $o $a $b (L2.ax _))
local macro_rules|`($a<|>$b<|>$c)=>`(@L2.aP _ _ _ _ _ _ _ _ $a $b $c)
namespace Pc
open PySem L2
structure Pot(a b:Int):Prop where
 a0:0<=a
 b0:0<=b
 b1:b < 2147483629
def But(p:Nj)(H H':Hp):Prop:=∀b o,b≠p->H b=some o->H' b=some o
theorem But.trans{p:Nj}{H H1 H2:Hp}(a:But p H H1)(b:But p H1 H2):But p H H2:=λ c o n e=>b c o n (a c o n e)
theorem But.upd{p:Nj}{H:Hp}{o:HO}:But p H (upd H p o):=λ b u n e=>by rw[ak n];exact e
theorem But.new{p q:Nj}{H:Hp}{o:HO}(h:H q=none):But p H (L2.upd H q o):=λ b u n e=>by rw[ak (aj e h)];exact e
structure Kd where
 w:Int
 h:Int
 wo:Int
 wa:Int
 tu:Bool
def kdV(k:Kd):No V:=[.int k.w,.int k.h,.int k.wo,.int k.wa,.bl k.tu]
structure Good(k:Kd):Prop where
 w:1<=k.w
 h:1<=k.h
 wo:0<=k.wo
 wa:0<=k.wa
 w':k.w < 10 ^ 60
 h':k.h < 10 ^ 60
 wo':k.wo < 10 ^ 60
 wa':k.wa < 10 ^ 60
def zV(H:Hp)(v:V)(k:Kd):Prop:=∃a,v=.ref a/\H a= ~~~(kdV k)
def BN(H:Hp)(v:V)(k:Kd):Prop:=∃a,v=.ref a/\H a=↥(kdV k)
def RowAt(H:Hp)(v:V)(k:Kd):Prop:=zV H v k\/BN H v k
abbrev Tups(H:Hp):No V->No Kd->Prop:=Paired (zV H)
theorem Tups.keep{H H':Hp}(k:∀b xs,H b= ~~~xs->H' b= ~~~xs):∀{xs:No V}{ks:No Kd},Tups H xs ks->Tups H' xs ks:=λ r=>
 G7 r λ v kd %[a,e|h]=>%[a,e|k a _ h]
structure ToldAt(H:Hp)(t l:Nj)(bl:Int)(xs:No V)(ks:No Kd):Prop where
 t:H t= ~~~[.int bl,.ref l]
 l:H l=↥xs
 r:Tups H xs ks
 b0:0<=bl
 b1:bl < 10 ^ 60
 g:∀k∈ks,Good k
 n0:1<=xs.length
 n1:xs.length<=8
def fK(K:C6):Sp:=λ vs H Q _=>∃(x:V)(T:String)(l:Int),vs=[x,.int l]/\Ty K H x T/\Q (.bl (bM x l)) H
def mN(K:C6):Sp:=λ vs H Q _=>∃(x:V)(T:String),vs=[x]/\Ty K H x T/\Q (.bl (sP x)) H
def vW(K:C6):Sp:=λ vs H Q _=>∃(x:V)(T:String),vs=[x]/\Ty K H x T/\∀H',Same H H'->Q (.bl (T == "list" || T == "tuple")) H'
def lG:No V->Bool
 | [w,h,wo,wa,tu]=>bM w 1 && bM h 1 && bM wo 0 && bM wa 0 && sP tu
 | _=>false
def jM(K:C6):Sp:=λ vs H Q _=>∃(x:V)(T:String),vs=[x]/\Ty K H x T /\ 
 ((T ≠ "list" /\ T ≠ "tuple" /\ ∀H',Same H H'->Q (.bl false) H')\/∃(a:Nj)(xs:No V),x=.ref a/\(H a=↥xs\/H a= ~~~xs)/\(∀y∈xs,∃UU0,Ty K H y UU0)/\∀H',Same H H'->Q (.bl (lG xs)) H')
theorem jN{k:Kd}(g:Good k):lG (kdV k)=true:=by
 change(decide (1<=k.w) && decide (1<=k.h) && decide (0<=k.wo) && decide (0<=k.wa) && true)=true;rw[Ny g.w,Ny g.h,Ny g.wo,Ny g.wa]
 rfl
theorem Ty.same{K:C6}{H H':Hp}{x:V}{T:String}(s:Same H H')(t:Ty K H x T):Ty K H' x T:=by
 show%[t.1|?_];have t2:=t.2;generalize hv:Value.type T=tv at t2 ⊢;cases t2 with
 | non=>exact .non
 | bl b=>exact .bl b
 | int b=>exact .int b
 | str b=>exact .str b
 | flt b=>exact .flt b
 | lst e=>exact .lst (s _ _ e)
 | frz e=>exact .frz (s _ _ e)
 | tup e=>exact .tup (s _ _ e)
 | dK e=>exact .dK (s _ _ e)
 | dT e=>exact .dT (s _ _ e)
 | ext e c=>exact .ext (s _ _ e) c
 | ins=>cases hv
end Pc
namespace L2
open PySem PySem.Spec PyProof.Rows
abbrev vX(K:C6):No V->Hp->VK->Prop:=rz_call_tuple_of K
theorem vY{K:C6}{j:Nat}{a:Nj}{xs:No V}{g:TG}{tb:TS}{D:Ends}{σ:St}{H:Hp}(hσ:σ[j]?=some (↑a))(hs:H a=↥xs\/H a= ~~~xs)(Pv:Nat->St->Hp->Prop)(h0:Pv 0 σ H)
  (hk:∀i σ H',i<=xs.length->Pv i σ H'->∀o,H a=some o->H' a=some o)
  (ht:∀i x σ H,xs[i]?=some x->Pv i σ H->g x σ H λ σ2 H2=>tb { D with nx:=Pv (i+1),ct:=Pv (i+1),bk:=D.nx } σ2 H2) (hd:∀σ H,Pv xs.length σ H->D.nx σ H):BE (AA K (tVar j)) g tb D σ H:=by
 rcases hs with z | z
 ·exact .inl %[_,hσ,a,U,%[xs|G6 z]|cN (xs:=xs) Pv h0 (λ i σ H' hi p=>G6 (hk i σ H' hi p _ z)) ht hd]
 ·exact .inr %[_,hσ,a,U,%[xs|G5 z]|yr (xs:=xs) Pv h0 (λ i σ H' hi p=>G5 (hk i σ H' hi p _ z)) ht hd]
def Nx(n:Nat)(Pv:Nat->No V->Hp->Prop)(i:Nat)(ys:No V)(H:Hp):Prop:=∃m',m' < n - i/\m'=n - (i+1)/\i+1<=n/\Pv (i+1) ys H
theorem Nx.of{n:Nat}{Pv:Nat->No V->Hp->Prop}{i:Nat}{ys:No V}{H:Hp}(h:i < n)(p:Pv (i+1) ys H):Nx n Pv i ys H:=%[n - (i+1),⋯,U,h|p]
theorem bu{K:C6}{a:Nj}{xs:No V}{σ:St}{cap:No Nat}{k:Nat}{g:TG}{tt:TT}{te:TE}{Q:No V->Hp->Prop}{H:Hp}(hs:H a=↥xs\/H a= ~~~xs)(Pv:Nat->No V->Hp->Prop)
  (hk:∀i ys H',i<=xs.length->Pv i ys H'->∀o,H a=some o->H' a=some o) (h0:Pv 0 [] H)
  (ht:∀i x ys H',xs[i]?=some x->Pv i ys H'->ys.length < sizeLine/\g x (aW σ cap k) H' λ σ2 H2=>leS (aW σ cap k) σ2/\tt σ2 H2 λ ok H3=>if ok=true then te σ2 H3 (λ v H4=>Nx xs.length Pv i (ys ++ [v]) H4)else Nx xs.length Pv i ys H3)
  (hd:∀ys H',Pv xs.length ys H'->ys.length<=sizeLine/\Q ys H') :
  (H a=↥xs->∃W,(∃m,W 0 m [] H)/\eS σ cap k (Itl K a) g tt te Q W)/\(H a= ~~~xs->∃W,(∃m,W 0 m [] H)/\eS σ cap k (Itt K a) g tt te Q W):=by
 show%[λ z=>%[λ i m ys H'=>m=xs.length - i/\i<=xs.length/\Pv i ys H',%[_,U,F1 _|h0]|?_]|λ z=>%[λ i m ys H'=>m=xs.length - i/\i<=xs.length/\Pv i ys H',%[_,U,F1 _|h0]|?_]]
 ·rintro i m ys H' ⟨rfl,hi,p⟩;have z':=hk i ys H' hi p _ z
  by_cases hin:i < xs.length
  ·obtain⟨e,hg⟩:=ht i xs[i] ys H' (by simp[hin]) p;show .inr %[%[xs,xs[i],G6 z'|by simp[hin]],e|λ x H2 yl=>?_];obtain⟨e1,e2⟩:=yl;have e3:=e2 xs (G6 z');have e4:x=xs[i]:=by simpa[hin]using e3.symm
   subst e1 e4;exact hg
  ·have e:i=xs.length:=⋯
   subst e;obtain⟨a1,a2⟩:=hd ys H' p;exact .inl %[%[xs,G6 z'|B4 _],a1|a2]
 ·rintro i m ys H' ⟨rfl,hi,p⟩;have z':=hk i ys H' hi p _ z
  by_cases hin:i < xs.length
  ·obtain⟨e,hg⟩:=ht i xs[i] ys H' (by simp[hin]) p;show .inr %[%[xs,xs[i],G5 z'|by simp[hin]],e|λ x H2 yl=>?_];obtain⟨e1,e2⟩:=yl;have e3:=e2 xs (G5 z');have e4:x=xs[i]:=by simpa[hin]using e3.symm
   subst e1 e4;exact hg
  ·have e:i=xs.length:=⋯
   subst e;obtain⟨a1,a2⟩:=hd ys H' p;exact .inl %[%[xs,G5 z'|B4 _],a1|a2]
theorem sQ{K:C6}{j:Nat}{a:Nj}{xs:No V}{σ:St}{cap:No Nat}{k:Nat}{g:TG}{tt:TT}{te:TE}{Q:VK}{H:Hp}(hσ:σ[j]?=some (↑a))(hs:H a=↥xs\/H a= ~~~xs)(Pv:Nat->No V->Hp->Prop)
  (hk:∀i ys H',i<=xs.length->Pv i ys H'->∀o,H a=some o->H' a=some o) (h0:Pv 0 [] H)
  (ht:∀i x ys H',xs[i]?=some x->Pv i ys H'->ys.length < sizeLine/\g x (aW σ cap k) H' λ σ2 H2=>leS (aW σ cap k) σ2/\tt σ2 H2 λ ok H3=>if ok=true then te σ2 H3 (λ v H4=>Nx xs.length Pv i (ys ++ [v]) H4)else Nx xs.length Pv i ys H3)
  (hd:∀ys H',Pv xs.length ys H'->ys.length<=sizeLine/\∀p,H' p=none->Q (.ref p) (upd H' p (.lst ys))):vP (AA K (tVar j)) cap k g tt te σ H Q:=by
 obtain⟨c1,c2⟩:=bu (K:=K) (σ:=σ) (cap:=cap) (k:=k) (g:=g) (tt:=tt) (te:=te) hs Pv hk h0 ht hd;rcases hs with z | z
 ·exact .inl %[_,hσ,a,U,%[xs|G6 z]|c1 z]
 ·exact .inr %[_,hσ,a,U,%[xs|G5 z]|c2 z]
end L2
namespace Pc
open PySem L2
def pU(b:Int)(r:Nj):No (Str×V):=dB "kind_rows" (.ref r) (dB "blade_width" (.int b) [])
theorem kbw:¬ (("blade_width" : Str) = "kind_rows"):=∅
theorem pV(b:Int)(r:Nj):(pU b r).lookup ("blade_width" : Str)=⇑b:=by unfold pU;rw[bP,Nv kbw,bP,Nw rfl]
theorem dU(b:Int)(r:Nj):(pU b r).lookup ("kind_rows" : Str)=↑r:=by unfold pU;rw[bP,Nw rfl]
theorem cX(b:Int)(r:Nj){m:Str}(h1:¬ m = "kind_rows")(h2:¬ m = "blade_width"):(pU b r).lookup m=none:=by
 unfold pU;rw[bP,Nv h1,bP,Nv h2]
 all_goals rfl
def ShopAt(C:Nj)(H:Hp)(x:Nj)(b:Int)(ks:No Kd):Prop:=∃dx r rs,H x=some (.ins C dx (pU b r))/\H r= ~~~rs/\Tups H rs ks
theorem ShopAt.keep{C:Nj}{H H':Hp}{x:Nj}{b:Int}{ks:No Kd}(s:ShopAt C H x b ks)(k1:∀b xs,H b= ~~~xs->H' b= ~~~xs)(k2:∀b C dx fs,H b=some (.ins C dx fs)->H' b=some (.ins C dx fs)):ShopAt C H' x b ks:=by obtain⟨dx,r,rs,h1,h2,h3⟩:=s;exact%[dx,r,rs,k2 _ _ _ _ h1,k1 _ _ h2|Tups.keep k1 h3]
def pW(C:Nj):Sp:=λ vs H Q _=>∃(x dx ks:Nj)(b:Int)(rs:No V)(kds:No Kd),vs=[.ref x,.int b,.ref ks]/\H x=some (.ins C dx [])/\0<=b/\(H ks=↥rs\/H ks= ~~~rs)/\Paired (RowAt H) rs kds/\(∀k∈kds,Good k)/\1<=rs.length/\rs.length<=8 /\
 ∀H':Hp,ShopAt C H' x b kds->(∀c o,c≠x->H c=some o->H' c=some o)->Q .non H'
def mO(C:Nj):Sp:=λ vs H Q _=>∃(x:Nj)(b:Int)(ks:No Kd),vs=[.ref x]/\ShopAt C H x b ks/\Q (.int b) H
theorem qX{K:C6}{H:Hp}{k:Kd}:∀y∈kdV k,∃UU0,Ty K H y UU0:=by
 intro y hy;simp only[kdV,J3,K7,OB]at hy;rcases hy with rfl | rfl | rfl | rfl | rfl
 ·exact%[_|.int]
 ·exact%[_|.int]
 ·exact%[_|.int]
 ·exact%[_|.int]
 ·exact%[_|.bl]
theorem Paired.getR{α β:Type}{F:α->β->Prop}:∀{l₁:No α}{l₂:No β}{i:Nat}{x:α},Paired F l₁ l₂->l₁[i]?=some x->∃y,l₂[i]?=some y/\F x y
 | _,_,_,_,.nil,e=>by simp at e
 | _,_,0,_,.cons h _,e=>by simp at e;subst e;exact%[_,U|h]
 | _,_,i+1,x,.cons _ t,e=>by obtain⟨y,h1,h2⟩:=Paired.getR (i:=i) (x:=x) t (by simpa using e);exact%[y,by simpa using h1|h2]
abbrev G8:=@Paired.getR
theorem RowAt.same{H H':Hp}{v:V}{k:Kd}(s:Same H H')(r:RowAt H v k):RowAt H' v k:=by
 rcases r with⟨a,e,h⟩ | ⟨a,e,h⟩
 ·exact .inl %[a,e|s _ _ h]
 ·exact .inr %[a,e|s _ _ h]
theorem sR{K:C6}{H:Hp}{v:V}{k:Kd}{Q:VK}{E:XK}(r:RowAt H v k)(g:Good k)(q:∀H',Same H H'->Q (.bl true) H'):jM K [v] H Q E:=by
 rcases r with⟨a,rfl,h⟩ | ⟨a,rfl,h⟩
 ·exact%[_,_,U,.tup h|.inr %[a,_,U,.inr h,qX|λ H' s=>by rw[jN g];exact q H' s]]
 ·exact%[_,_,U,.lst h|.inr %[a,_,U,.inl h,qX|λ H' s=>by rw[jN g];exact q H' s]]
structure ShopTxt(K:C6)(C:Nj):Prop where
 cl:Cls K C
 nB:NoAttr K C "blade_width"
 nK:NoAttr K C "kind_rows"
end Pc
namespace L2
open PySem PySem.Spec PyProof.Rows
def Mn(P:G0)(w:G2)(K:C6)(mg:Str->Nm G3)(base:Heap)(C:Nj)(m:Str)(ps:No Str)(k:Nat)(sp:Sp):Prop :=
 ∃(f:Nj)(fd:G1),FnOk P w K mg base CX0 k f fd ps sp/\Binds K fd ps []/\Meth K C m f
theorem iG{X:Cx}{k:Nat}{C:Nj}{ps:No Str}{sp:Sp}{m:Str}{o:Expr}{ta:TE}{apos pos:Pos}{pl:Sem Bool}(he:PE X o ta)(c:Cls X.K C)(D:Mn X.prog X.w X.K X.mg X.base C m ps k sp)(hr:Room k X.A)
  (ht:eval (.Call (.Attribute o m apos) [] [] pos) X.env=(do
   let ov<-eval o X.env
   standAt apos.atName
   let (f,first)<-holding [ov] (getMethod ov m pl)
   callWith pos f first (backTo pos (starEach [] X.env)) (backToKw pos (keywordEach [] X.env))):=by rfl):PE X (.Call (.Attribute o m apos) [] [] pos) (qM C m sp [] E0 ta yy):=by
 obtain⟨f,fd,F,hb,hm⟩:=D;exact vH he c hm F hr hb .nil qU ht
def Kn(P:G0)(w:G2)(K:C6)(mg:Str->Nm G3)(base:Heap)(x:Str)(C:Nj)(ps:No Str)(k:Nat)(sp:Sp):Prop :=
 ∃(f:Nj)(fd:G1),Mk K C f/\FnOk P w K mg base CX0 k f fd ps sp/\Binds K fd ps []/\mg x=↑C
theorem BO{X:Cx}{k:Nat}{C:Nj}{ps:No Str}{sp:Sp}{x:Str}{p pos:Pos}{e:Expr}{es:No Expr}{t:TA}(D:Kn X.prog X.w X.K X.mg X.base x C ps k sp)(hr:Room (k+1) X.A)(hg:Gl X x)(ha:PA X (e :: es) t)
  (hdb:(x == ("__debug__" : Str))=false:=by decide) (he:starEach (e :: es) X.env=(false,eval e X.env) :: starEach es X.env:=by rfl) (hpl:(backTo pos (starEach es X.env)).any (·.1)=false:=by rfl) :
  PE X (.Call (.Name x p) (e :: es) [] pos) (zT C sp [] E0 t):=by
 obtain⟨f,fd,M,F,hb,hm⟩:=D;exact yB M F hr hg hm hb .nil qU ha hdb he hpl
theorem sS(xs:No V)(k:Nat):jf xs none (some (k:Int))=xs.take k:=by
 unfold jf;rw[HT.sIx_none,HT.sIx_nat];simp only[List.drop_zero,Nat.sub_zero];rcases Nat.le_total k xs.length with h | h
 ·rw[Nf h]
 ·rw[Nat.min_eq_right h,K5 (B4 _),K5 h]
end L2
namespace Pc
open PySem L2
theorem Paired.app{α β:Type}{F:α->β->Prop}:∀{l₁ m₁:No α}{l₂ m₂:No β},Paired F l₁ l₂->Paired F m₁ m₂->Paired F (l₁ ++ m₁) (l₂ ++ m₂)
 | _,_,_,_,.nil,s=>s
 | _,_,_,_,.cons r t,s=>.cons r (Paired.app t s)
theorem Paired.takeP{α β:Type}{F:α->β->Prop}:∀{l₁:No α}{l₂:No β}(n:Nat),Paired F l₁ l₂->Paired F (l₁.take n) (l₂.take n)
 | _,_,0,_=>.nil
 | _,_,_+1,.nil=>.nil
 | _,_,n+1,.cons r t=>.cons r (Paired.takeP n t)
theorem Same.but{p:Nj}{H H':Hp}(s:Same H H'):But p H H':=λ b o _ e=>s b o e
theorem Same.new{q:Nj}{H:Hp}{o:HO}(h:H q=none):Same H (upd H q o):=λ b u e=>by rw[ak (aj e h)];exact e
abbrev G4:=@Same.new
end Pc
namespace PySem
open Sem (wp)
open AutoSeq1 (wpAny_loadPart')
section
variable{prog:G0}{w:G2}{A:Around}{E:G3->F9->Prop}{s:F9}
theorem eT{it t:Nj}{i:Nat}{items}{x:G3}{Q:G3->F9->Prop}(hit:s.heap.IsTupleIter it t i)
  (ht:s.heap.IsTuple t items) (hx:items[i]?=some x)
  (hQ:∀h',h'.IsTupleIter it t (i+1)->Heap.SameBut it s.heap h'->Q x { s with heap:=h' }) :
  wpAny (model prog w) A (Builtin.SmallTypes.nextOf (.ref it)) Q E s:=by
 obtain⟨o,ho,hc,hd⟩:=id hit;obtain⟨ol,hol,_,nl,hdl⟩:=ht;unfold Builtin.SmallTypes.nextOf;show A0 (wpAny_callSpecial?_slot (name:=Str.ofString "__next__") hit.typeIs F.slot_tuple_iterator_next
  (F6 F.slot_tuple_iterator_next hit.typeIs F.entry_tuple_iterator_next ?_ (F.args_tuple_iterator_next_1 _)))
 change wpAny _ _ (field (.ref it) 0 >>= _) _ _ s;show A0 (OE ho hd (x:=.ref t) rfl ?_);change wpAny _ _ (if (Value.ref t == Value.none)=true then _ else _) _ _ s;rw[Nv (show¬ ((Value.ref t == Value.none)=true)from B3)];change wpAny _ _ (field (.ref it) 1 >>= _) _ _ s;show A0 (OE ho hd (x:=.int i 0) rfl ?_);change wpAny _ _ (seqItems? (.ref t) >>= _) _ _ s;show A0 (Ol hol hdl ?_);simp only[MF,hx];show A0 (wpAny_setField ho hd (by simp) (A3 %[x,rfl|A3 (hQ _ ?_ (N9 ..))]));exact⟨_,OG _ ho (Obj.isFreed_of_fields (Obj.data_mapFields hd _)),(Obj.cls_mapFields ..).trans hc,by
  rw[Obj.data_mapFields hd];simp[rawInt]⟩
theorem dq{it t:Nj}{i:Nat}{items}{Q:G3->F9->Prop}(hh:A.handled=none)
  (hit:s.heap.IsTupleIter it t i) (ht:s.heap.IsTuple t items) (hx:items[i]?=none)
  (hE:∀h' e,Heap.ExtBut it s.heap h'->(∃o,h'.get? e=some o/\o.cls=.type "StopIteration")->E (.ref e) { s with heap:=h' }) :
  wpAny (model prog w) A (Builtin.SmallTypes.nextOf (.ref it)) Q E s:=by
 obtain⟨o,ho,hc,hd⟩:=id hit;obtain⟨ol,hol,_,nl,hdl⟩:=ht;unfold Builtin.SmallTypes.nextOf;show A0 (wpAny_callSpecial?_slot (name:=Str.ofString "__next__") hit.typeIs F.slot_tuple_iterator_next
  (F6 F.slot_tuple_iterator_next hit.typeIs F.entry_tuple_iterator_next ?_ (F.args_tuple_iterator_next_1 _)))
 change wpAny _ _ (field (.ref it) 0 >>= _) _ _ s;show A0 (OE ho hd (x:=.ref t) rfl ?_);change wpAny _ _ (if (Value.ref t == Value.none)=true then _ else _) _ _ s;rw[Nv (show¬ ((Value.ref t == Value.none)=true)from B3)];change wpAny _ _ (field (.ref it) 1 >>= _) _ _ s;show A0 (OE ho hd (x:=.int i 0) rfl ?_);change wpAny _ _ (seqItems? (.ref t) >>= _) _ _ s;show A0 (Ol hol hdl ?_);simp only[MF,hx];show A0 (OI (A0 (wpAny_setField ho hd (by simp) ?_)));change wpAny _ _ (newExc (.type "StopIteration") [] >>= _) _ _ _;show A0 ?_;simp only[newExc,newTuple];show A0 (F7 ?_ (by size_fits));show A0 (m:=firstArgMember _ _) (OV (a:=Value.none) (by first | rfl | (simp only[firstArgMember];rfl)) ?_);show F7 ?_ (by size_fits);simp only[raiseNew];show A0 (wpAny_handled ?_)
 first | rw[show A.in1.handled=none from hh] | rw[hh]
 show A0 (A3 (wpAny_throw ?_));exact hE _ _ (((N9 ..).extBut.push _).push _) %[_,A9 _ rfl|rfl]
end
theorem vZ{prog:G0}{w:G2}{A:Around}(hh:A.handled=none)(it l:Nj)(hne:l≠it)(items:Nn G3) :
  Draws prog w A it [it,l] items.size (λ i v=>items[i]?=some v) (λ i h=>h.IsTupleIter it l i/\h.IsTuple l items) where
 live:=λ _ _ st=>let ⟨o,ho,_⟩:=st.1;%[o|ho]
 frame:=λ _ _ _ st hk=>%[st.1.at λ o e=>hk it (by simp) o e|let ⟨o,ho,r⟩:=st.2;%[o,hk l (by simp) o ho|r]]
 item:=λ i s Q E hi st hQ=>by show eT st.1 st.2 (x:=items[i]) (by simp[hi]) λ h' hit' hs'=>?_;exact hQ _ h' s.toks (by simp[hi]) %[hit'|st.2.extBut hs'.extBut hne] hs'
 done:=λ s Q E st hE=>dq hh st.1 st.2 (by simp) hE
theorem jO(l:Nj)(items:Nn G3)(n:Nat)(dct:Nm Nj)(sl:Nn (Nm G3)) :
  Meets (Builtin.«enumerate.__new__» %[[.type "enumerate",.ref l]|[]]) (λ _ R s=>s.heap.get? l=some { cls:=.type "tuple",dict:=dct,data:=.seq items n,slots:=sl } /\
   R (.ok (.ret (.ref (s.heap.push { cls:=.type "tuple_iterator",data:=.fields #[.ref l,.int 0 0] }).objs.size)))
    { s with heap:=(s.heap.push { cls:=.type "tuple_iterator",data:=.fields #[.ref l,.int 0 0] }).push { cls:=.type "enumerate",data:=.fields #[.none,.bool false,.ref s.heap.objs.size,rawInt 0,.none,.none] } }) :=
 .of_wp λ prog w A R s h=>by
  obtain⟨hp,g,d,tk,os⟩:=s;obtain⟨hl,h⟩:=h;have hsub:=sub_enumerate;have hL:Heap.IsTuple (Shared.heap %[hp,g,d,tk|os]) l items:=%[_,hl,U,n|U]
  wp_walk using wpAny_loadPart' hl
  show wpAny_stack_any λ st=>A3 ?_
  split
  ·rename_i c _ _ _ _ _
   cases(c == Value.type "enumerate")
   ·wp_walk using wpAny_loadPart' hl,Oc hL
    exact%[_,U|h]
   ·wp_walk using wpAny_loadPart' hl,Oc hL
    exact%[_,U|h]
  ·wp_walk using wpAny_loadPart' hl,Oc hL
   exact%[_,U|h]
section
variable{prog:G0}{w:G2}{A:Around}{E:G3->F9->Prop}{s:F9}
theorem gq{l:Nj}{items:Nn G3}{Q:G3->F9->Prop}(hL:s.heap.IsTuple l items)
  (h:∀h',IsEnum h' (s.heap.objs.size+1) s.heap.objs.size 0 .none->h'.IsTupleIter s.heap.objs.size l 0->h'.objs.size=s.heap.objs.size+2 ->
   (∀b o,s.heap.get? b=some o->h'.get? b=some o)->Q (.ref (s.heap.objs.size+1)) { s with heap:=h' }) :
  wpAny (model prog w) A (call (.type "enumerate") [.ref l]) Q E s:=by
 obtain⟨⟨c,dct,dt,sl⟩,hl,hc,n,hd⟩:=hL
 replace hc:c=.type "tuple" := hc
 replace hd:dt=.seq items n:=hd
 subst hc hd;show callType_new F.called_enumerate ∅ (F.typeCall_enumerate_1 _) (F.newCall_enumerate_1 _) (λ obj=>F.args_object_init_2 obj _) F.entry_enumerate_new
  (jO l items n dct sl) %[hl|?_]
 have hz:(s.heap.push { cls:=.type "tuple_iterator",data:=.fields #[.ref l,.int 0 0] }).objs.size=s.heap.objs.size+1:=N5 ..;change _/\_;rw[hz];have he:IsEnum ((s.heap.push { cls:=.type "tuple_iterator",data:=.fields #[.ref l,.int 0 0] }).push
   { cls:=.type "enumerate",data:=.fields #[.none,.bool false,.ref s.heap.objs.size,rawInt 0,.none,.none] }) (s.heap.objs.size+1) s.heap.objs.size 0 .none:=by
  have:=A9 (s.heap.push { cls:=.type "tuple_iterator",data:=.fields #[.ref l,.int 0 0] })
   (o:={ cls:=.type "enumerate",data:=.fields #[.none,.bool false,.ref s.heap.objs.size,rawInt 0,.none,.none] }) rfl
  rw[hz]at this;exact this
 show%[%[_,he|U]|h _ he %[_,A8 _ (A9 _ rfl),U|U] (by rw[N5,hz]) λ b o x=>A8 _ (A8 _ x)]
end
end PySem
namespace L2
open PySem PySem.Spec PyProof.Rows
def Ite(f:No V->HO)(l:Nj):It :=
  ⟨λ i H=>∃xs x,H l=some (f xs)/\xs[i]?=some x,
   λ i H v H'=>∃p xs x,H p=none/\v=.ref p/\H'=upd H p (.tup [.int i,x])/\H l=some (f xs)/\xs[i]?=some x,
   λ i H=>∃xs,H l=some (f xs)/\xs.length<=i⟩
section
variable{X:Cx}{Nq:P6}{σ:St}{H:Hp}{s:F9}
theorem lH{f:No V->HO}{tn:Nat->Heap->Prop}{es:No Expr}{kk:Nat}{tp:Pos}{e it l:Nj}{i:Nat}{xs:No V}{x:V}{u:G3}{tk:Nat}{h':Heap}{E:G3->F9->Prop}(hne:e≠it)(I:Inv X Nq σ H s)(hf:∀b∈[e,it],FpOk X Nq H b)(hl:H l=some (f xs))(hx:xs[i]?=some x)
  (ho:∀b∈[e,it],b < s.heap.objs.size) (r:RelV x u) (b1:IsEnumOut h' e it ((i:Int)+1) u s.heap.objs.size) (b3:h'.get? s.heap.objs.size=some { cls:=.type "tuple",data:=.seq #[.int i tk,u] })
  (bk:∀b o,b≠e->b≠it->s.heap.get? b=some o->h'.get? b=some o) (hn:∀h'',IsEnum h'' e it ((i+1:Nat):Int) u->Heap.SameBut e h' h''->tn (i+1) h'') :
  wpAny (model X.prog X.w) X.A (letOwnedTupleGo (.Tuple es kk tp) (.ref e) (.ref s.heap.objs.size)) (λ _ s2=>∃x H',Inv X Nq σ H' s2/\RelV x (.ref s.heap.objs.size)/\(Ite f l).yld i H x H'/\tn (i+1) s2.heap/\∀b∈[e,it],H' b=none) E { s with heap:=h',toks:=tk+1 }:=by
 show wpAny_letOwnedTupleGo_enum b1 λ h'' c1 cs=>?_;have es':e < s.heap.objs.size:=ho e (by simp);have k2:∀b o,b∉[e,it]->s.heap.get? b=some o->h''.get? b=some o:=λ b o hb q=>by simp only[J3,K7,OB,Ou]at hb;exact cs.extBut b o hb.1 (bk b o hb.1 hb.2 q)
 have I1:Inv X Nq σ H { s with heap:=h'',toks:=tk+1 }:=I.turnedN (t':=tk+1) hf k2;have hp:h''.get? s.heap.objs.size=some { cls:=.type "tuple",data:=.seq #[.int i tk,u] }:=cs.extBut _ _ (MU es') b3;have hn0:H s.heap.objs.size=none:=I.hok.fresh (B4 _);have fpk:=I.fpOk (H':=H) (B4 _) hn0;have I2:Inv X Nq σ (upd H s.heap.objs.size (.tup [.int i,x])) { s with heap:=h'',toks:=tk+1 }:=I1.track fpk I.sz %[by change 2<=sizeLine;decide,[.int i tk,u],.cons %[tk|U] (.cons r .nil),_,hp,U,_|U];show%[.ref s.heap.objs.size,_,I2,U,%[_,xs,x,hn0,U,U,hl|hx],hn h'' c1 cs|λ b hb=>?_];rw[ak (C1 (ho b hb))];exact(hf b hb).1
end
theorem pX{P:G0}{w:G2}{K:C6}{es:No Expr}{kk:Nat}{tp:Pos}(l e it:Nj)(hne:e≠it) :
  Turn P w K (.Tuple es kk tp) (Ite .lst l) [e,it] e (λ i h=>(∃old,IsEnum h e it i old)/\h.IsListIter it l i) where
 mem:=by simp
 obj:=λ i h st b hb=>by
  obtain⟨⟨old,a1⟩,⟨o2,a2,_,d2⟩⟩:=st;simp only[J3,K7,OB]at hb;rcases hb with rfl | rfl
  ·exact%[_,a1|λ v q=>by cases q]
  ·exact%[_,a2|λ v q=>by rw[d2]at q;cases q]
 keep:=λ i h h' st k=>by obtain⟨⟨old,a1⟩,a2⟩:=st;exact%[%[old|k e (by simp) _ a1]|a2.at λ o q=>k it (by simp) o q]
 item:=by
  intro X hP hw hK hc i Nq s σ H E I hf st hg;subst hP hw hK;obtain⟨⟨old,a1⟩,a2⟩:=st;obtain⟨xs,x,e1,ex⟩:=hg;obtain⟨its,rv,p1,_⟩:=I.list (G6 e1);obtain⟨u,hu,r⟩:=rv.get ex;have ho:∀b∈[e,it],b < s.heap.objs.size:=λ b hb=>by
   obtain⟨o2,a2',_⟩:=a2;simp only[J3,K7,OB]at hb;rcases hb with rfl | rfl
   ·exact B0 a1
   ·exact B0 a2'
  show wpAny_pyNext_enum_item a1 a2 p1.isList (x:=u) (by simpa using hu) hne λ h' b1 b2 b3 b4 bk=>%[_,U|?_]
  exact lH (tn:=λ i h=>(∃old,IsEnum h e it i old)/\h.IsListIter it l i) hne I hf e1 ex ho r b1 b3 bk λ h'' c1 cs=>%[%[u|c1]|b2.extBut cs.extBut (Ne.symm hne)]
 done:=by
  intro X hP hw hK hc i Nq s σ H E I hf st hg;subst hP hw hK;obtain⟨⟨old,a1⟩,a2⟩:=st;obtain⟨xs,e1,ex⟩:=hg;obtain⟨its,rv,p1,_⟩:=I.list (G6 e1);have lv:=rv.length;show wpAny_pyNext_enum_end (I.ok.hd hc) a1 a2 p1.isList (by simp;lia) λ h' bk=>%[U|?_]
  exact I.turnedN (t':=s.toks) hf λ b o hb q=>by simp only[J3,K7,OB,Ou]at hb;exact bk b o hb.2 q
 self:=λ _ _ _ _ _ st h=>by obtain⟨⟨old,a1⟩,_⟩:=st;exact wpAny_pyIter_enum a1 h
theorem pY{P:G0}{w:G2}{K:C6}{es:No Expr}{kk:Nat}{tp:Pos}(l e it:Nj)(hne:e≠it) :
  Turn P w K (.Tuple es kk tp) (Ite .tup l) [e,it] e (λ i h=>(∃old,IsEnum h e it i old)/\h.IsTupleIter it l i) where
 mem:=by simp
 obj:=λ i h st b hb=>by
  obtain⟨⟨old,a1⟩,⟨o2,a2,_,d2⟩⟩:=st;simp only[J3,K7,OB]at hb;rcases hb with rfl | rfl
  ·exact%[_,a1|λ v q=>by cases q]
  ·exact%[_,a2|λ v q=>by rw[d2]at q;cases q]
 keep:=λ i h h' st k=>by obtain⟨⟨old,a1⟩,a2⟩:=st;exact%[%[old|k e (by simp) _ a1]|a2.at λ o q=>k it (by simp) o q]
 item:=by
  intro X hP hw hK hc i Nq s σ H E I hf st hg;subst hP hw hK;obtain⟨⟨old,a1⟩,a2⟩:=st;obtain⟨xs,x,e1,ex⟩:=hg;obtain⟨its,rv,p1,_⟩:=I.tuple (G5 e1);obtain⟨u,hu,r⟩:=rv.get ex;have lt:i < its.toArray.size:=by simp;exact(A7.mp hu).1
  have ho:∀b∈[e,it],b < s.heap.objs.size:=λ b hb=>by
   obtain⟨o2,a2',_⟩:=a2;simp only[J3,K7,OB]at hb;rcases hb with rfl | rfl
   ·exact B0 a1
   ·exact B0 a2'
  have nl:∀b∈[e,it],l≠b:=λ b hb q=>by rw[q,(hf b hb).1]at e1;cases e1
  have p1':s.heap.IsTuple l its.toArray:=p1;have DD:Draws X.prog X.w X.A.in1 it [it,l] its.toArray.size (λ i v=>its.toArray[i]?=some v) (λ i h=>h.IsTupleIter it l i/\h.IsTuple l its.toArray):=vZ (show X.A.in1.handled=none from I.ok.hd hc) it l (nl it (by simp)) its.toArray;show wpAny_pyNext_enum_itemD DD a1 %[a2|p1'] lt hne (by simp only[J3,K7,OB,Ou];exact%[hne|Ne.symm (nl e (by simp))]) λ x' h' tk px b1 b2 b3 b4 bk=>%[_,U|?_]
  have hu':its.toArray[i]?=some u:=by simpa using hu
  have eu:u=x':=C0 (hu'.symm.trans px);subst eu;exact lH (tn:=λ i h=>(∃old,IsEnum h e it i old)/\h.IsTupleIter it l i) hne I hf e1 ex ho r b1 b3 bk λ h'' c1 cs=>%[%[u|c1]|b2.1.extBut cs.extBut (Ne.symm hne)]
 done:=by
  intro X hP hw hK hc i Nq s σ H E I hf st hg;subst hP hw hK;obtain⟨⟨old,a1⟩,a2⟩:=st;obtain⟨xs,e1,ex⟩:=hg;obtain⟨its,rv,p1,_⟩:=I.tuple (G5 e1);have lv:=rv.length;have p1':s.heap.IsTuple l its.toArray:=p1;have hT:s.TypeIs (.ref e) "enumerate" := %[_,a1|U]
  unfold pyNext;show A0 (OS (wpAny_callSpecial?_slot (name:=Str.ofString "__next__") hT F.slot_enumerate_next
   (F6 F.slot_enumerate_next hT F.entry_enumerate_next ?_ (F.args_enumerate_next_1 _))))
  change wpAny _ _ (field (.ref e) 2 >>= _) _ _ _;show A0 (OE a1 rfl (x:=.ref it) rfl ?_);show A0 (dq (I.ok.hd hc) a2 p1' (by simp;lia) λ h' x he' hx'=>?_);obtain⟨o,ho,hc⟩:=hx';show A0 (OL (T := "StopIteration") (b:=true) %[o,ho|hc] isSubtype_stop ?_);show A3 %[rfl|?_];exact I.turnedN (t':=s.toks) hf λ b o hb q=>by simp only[J3,K7,OB,Ou]at hb;exact he' b o hb.2 q
 self:=λ _ _ _ _ _ st h=>by obtain⟨⟨old,a1⟩,_⟩:=st;exact wpAny_pyIter_enum a1 h
def BP(ta:TA):TI:=λ σ H R=>ta σ H λ vs H1=>∃l xs,vs=[.ref l]/\((H1 l=↥xs/\R (Ite .lst l) H1)\/(H1 l= ~~~xs/\R (Ite .tup l) H1))
theorem mP{X:Cx}{a:Expr}{ta:TA}{p pos tp:Pos}{es:No Expr}{kk:Nat}(hg:Gl X "enumerate")(hm:X.mg "enumerate" = none)(ha:PA X [a] ta)
  (hs:starEach [a] X.env=[(false,eval a X.env)]:=by rfl) :
  PI X (.Tuple es kk tp) (.Call (.Name "enumerate" p) [a] [] pos) (BP ta):=by
 intro Nq s σ H R I h;show Call_ (eF I hg hm PyProof.Rows.boot_enumerate (N8 (thn (ha pos Nq s σ H _ I h) ?_) (by rw[hs];rfl) (by rfl)));rintro us s1 ⟨vs,H1,I1,r1,q1⟩;obtain⟨l,xs,rfl,q⟩:=q1;cases r1 with
 | cons r rr=>
  cases rr;cases r;rcases q with⟨e1,q⟩ | ⟨e1,q⟩
  ·obtain⟨its1,rv1,p1,_⟩:=I1.list (G6 e1);show call_enumerate_list p1.isList λ h' z1 z2 sz keep=>?_;have I2:Inv X Nq σ H1 { s1 with heap:=h' }:=I1.kept (t':=s1.toks) keep;show wpAny_pyIter_enum z1 %[s1.heap.objs.size+1,[s1.heap.objs.size+1,s1.heap.objs.size],_,_,H1,rfl,I2,pX l _ _ (Nat.succ_ne_self _),%[%[_|z1]|z2],λ b hb=>?_|q];have hb':s1.heap.objs.size<=b:=by simp only[J3,K7,OB]at hb;rcases hb with rfl | rfl <;> lia
   exact I1.fpOk hb' (I1.hok.fresh hb')
  ·obtain⟨its1,rv1,p1,_⟩:=I1.tuple (G5 e1);have p1':s1.heap.IsTuple l its1.toArray:=p1;show gq p1' λ h' z1 z2 sz keep=>?_;have I2:Inv X Nq σ H1 { s1 with heap:=h' }:=I1.kept (t':=s1.toks) keep;show wpAny_pyIter_enum z1 %[s1.heap.objs.size+1,[s1.heap.objs.size+1,s1.heap.objs.size],_,_,H1,rfl,I2,pY l _ _ (Nat.succ_ne_self _),%[%[_|z1]|z2],λ b hb=>?_|q];have hb':s1.heap.objs.size<=b:=by simp only[J3,K7,OB]at hb;rcases hb with rfl | rfl <;> lia
   exact I1.fpOk hb' (I1.hok.fresh hb')
theorem wc{f:No V->HO}(hf:∀xs ys,f xs=f ys->xs=ys){l:Nj}{xs:No V}{g:TG}{tb:TS}{D:Ends}{σ:St}{H:Hp}(Pv:Nat->St->Hp->Prop)(h0:Pv 0 σ H)(hk:∀i σ H',Pv i σ H'->H' l=some (f xs))
  (ht:∀i x p σ H,xs[i]?=some x->H p=none->Pv i σ H->g (.ref p) σ (upd H p (.tup [.int i,x])) λ σ2 H2=>tb { D with nx:=Pv (i+1),ct:=Pv (i+1),bk:=D.nx } σ2 H2) (hd:∀σ H,Pv xs.length σ H->D.nx σ H) :
  ∃W:Nat->Nat->St->Hp->Prop,(∃m,W 0 m σ H)/\∀i m σ H,W i m σ H ->
   ((Ite f l).stop i H/\D.nx σ H)\/((Ite f l).go i H/\∃N:St->Hp->Prop,(∀σ' H',N σ' H'->∃m',m' < m/\W (i+1) m' σ' H')/\∀x H',(Ite f l).yld i H x H'->g x σ H' λ σ2 H2=>tb { D with nx:=N,ct:=N,bk:=D.nx } σ2 H2):=by
 show%[λ i m σ H=>m=xs.length - i/\i<=xs.length/\Pv i σ H,%[xs.length,by simp,F1 _|h0]|?_];rintro i m σ H ⟨rfl,hi,p⟩;have e1:=hk i σ H p
 by_cases hlt:i < xs.length
 ·show .inr %[%[xs,xs[i],e1|by simp[hlt]],Pv (i+1),λ σ' H' p'=>%[xs.length - (i+1),⋯,U,hlt|p']|λ v H' y=>?_];obtain⟨q,xs',x,hq,rfl,rfl,e1',ex⟩:=y;rw[e1]at e1';cases hf _ _ (C0 e1');exact ht i x q σ H ex hq p
 ·have e:i=xs.length:=⋯
  subst e;exact .inl %[%[xs,e1|B4 _]|hd σ H p]
end L2
namespace Pc
open PySem L2
def bv(k:Kd):Bool:=k.tu && !decide (k.w=k.h)
def lyT(i:Nat)(k:Kd):No (Nat×Bool):=(i,false) :: if bv k=true then[(i,true)]else[]
def lyK:No Kd->Nat->No (Nat×Bool)
 | [],_=>[]
 | k :: r,i=>lyT i k ++ lyK r (i+1)
theorem nJ(k:Kd):∀(ks:No Kd)(i:Nat),lyK (ks ++ [k]) i=lyK ks i ++ lyT (i+ks.length) k
 | [],i=>by simp[lyK]
 | c :: r,i=>by change lyT i c ++ lyK (r ++ [k]) (i+1)=(lyT i c ++ lyK r (i+1)) ++ _;rw[nJ k r (i+1),MA];congr 2;simp only[K3];congr 1;lia
theorem yJ(i:Nat)(k:Kd):(lyT i k).length<=2:=by unfold lyT;split <;> simp
theorem mQ:∀(ks:No Kd)(i:Nat),(lyK ks i).length<=2 * ks.length
 | [],i=>by simp[lyK]
 | c :: r,i=>by have:=mQ r (i+1);have:=yJ i c;simp only[lyK,K4,K3];lia
def JF(H:Hp)(v:V)(p:Nat×Bool):Prop:=∃a,v=.ref a/\H a= ~~~[.int p.1,.bl p.2]
abbrev Lys(H:Hp):No V->No (Nat×Bool)->Prop:=Paired (JF H)
theorem Lys.keep{H H':Hp}(k:∀b xs,H b= ~~~xs->H' b= ~~~xs){xs:No V}{ps:No (Nat×Bool)}(r:Lys H xs ps):Lys H' xs ps :=
 G7 r λ v kd %[a,e|h]=>%[a,e|k a _ h]
theorem wd{H H3:Hp}{l t:Nj}{ys:No V}{ps:No (Nat×Bool)}{i:Nat}{b:Bool}(hl:H l=none)(s3:Same H H3)(l3:H3 l=↥ys)(y3:Lys H3 ys ps)(ht:H3 t=none) :
  Same H (upd (upd H3 t (.tup [.int (i:Int),.bl b])) l (.lst (ys ++ [.ref t])))/\(upd (upd H3 t (.tup [.int (i:Int),.bl b])) l (.lst (ys ++ [.ref t]))) l=↥(ys ++ [.ref t]) /\
   Lys (upd (upd H3 t (.tup [.int (i:Int),.bl b])) l (.lst (ys ++ [.ref t]))) (ys ++ [.ref t]) (ps ++ [(i,b)]):=by
 have lt:l≠t:=aj l3 ht;show%[λ c o e=>?_,ai|Paired.snoc (Lys.keep (λ c xs e=>?_) y3) %[t,U|by rw[ak (Ne.symm lt),ai]]]
 ·have e3:=s3 c o e;rw[ak (aj e hl),ak (aj e3 ht)];exact e3
 ·have cl:c≠l:=λ z=>by rw[z,l3]at e;cases e
  rw[ak cl,ak (aj e ht)];exact e
def jP(K:C6):Sp:=λ vs H Q _=>∃(a:Nj)(k:Kd),vs=[.ref a]/\H a= ~~~(kdV k)/\Q (.bl (bv k)) H
def jQ(C:Nj):Sp:=λ vs H Q _=>∃(x:Nj)(b:Int)(ks:No Kd),vs=[.ref x]/\ShopAt C H x b ks/\ks.length<=8 /\
 ∀(l:Nj)(ys:No V)(H':Hp),H l=none->H' l=↥ys->Lys H' ys (lyK ks 0)->Same H H'->Q (.ref l) H'
def iH(ks:No Kd)(x t:V):Bool:=match x,t with
 | .int i,.bl b=>decide (0<=i) && match ks[i.toNat]? with
  | some k=>!b || bv k
  | none=>false
 | _,_=>false
def fL(K:C6)(C:Nj):Sp:=λ vs H Q _=>∃(s:Nj)(b:Int)(ks:No Kd)(x t:V)(T UU0:String),vs=[.ref s,x,t]/\ShopAt C H s b ks/\Ty K H x T/\Ty K H t UU0/\Q (.bl (iH ks x t)) H
end Pc
namespace L2
open PySem PySem.Spec PyProof.Rows
section
variable{X:Cx}
inductive rz_op_inD(K:C6)(x:V)(y:V)(H:Hp)(Q:VK):Prop
|mk(d xs:_)(_:DatV K H x d)(_:DatV K H y (.list xs))(_:SeqAt.shaped (.list xs)=true)(_:SeqAt.shaped d=true)(_:(∀y∈xs,SeqAt.noMix y d=true))(_:Q (.bl (decide (countIn d xs≠0))) H)
theorem we{k:Nat}{C:Nj}{ps:No Str}{sp:Sp}{m:Str}{o:Expr}{e:Expr}{es:No Expr}{ta:TE}{t:TA}{apos pos:Pos}{pl:Sem Bool}(he:PE X o ta)(c:Cls X.K C)(D:Mn X.prog X.w X.K X.mg X.base C m ps k sp)(hr:Room k X.A)(ha:PA X (e :: es) t)
  (hst:starEach (e :: es) X.env=(false,eval e X.env) :: starEach es X.env:=by rfl) (hpl:(backTo pos (starEach es X.env)).any (·.1)=false:=by rfl)
  (ht:eval (.Call (.Attribute o m apos) (e :: es) [] pos) X.env=(do
   let ov<-eval o X.env
   standAt apos.atName
   let (f,first)<-holding [ov] (getMethod ov m pl)
   callWith pos f first (backTo pos (starEach (e :: es) X.env)) (backToKw pos (keywordEach [] X.env))):=by rfl):PE X (.Call (.Attribute o m apos) (e :: es) [] pos) (qM C m sp [] E0 ta t):=by
 obtain⟨f,fd,F,hb,hm⟩:=D;exact yA he c hm F hr hb .nil qU ha hst hpl ht
inductive rz_op_catT0(K:C6)(x:V)(y:V)(H:Hp)(Q:VK):Prop
|mk(a b ys:_)(_:x=.ref a)(_:y=.ref b)(_:SqT K H a [])(_:SqT K H b ys)(_:Q (.ref b) H)
theorem wf:OpR X (binaryOp .Add) (rz_op_catT0 X.K):=by
 intro Nq s σ H x y v u Q I rx ry h;obtain⟨a,b,ys,rfl,rfl,ha,hb,q⟩:=h;cases rx;cases ry;obtain⟨its,r1,p1,_⟩:=I.tuple ha;obtain⟨its2,r2,p2,_⟩:=I.tuple hb;cases r1;obtain⟨⟨cls,dd,data,sl⟩,ho,hc,n,hd⟩:=p1;obtain⟨⟨cls2,dd2,data2,sl2⟩,ho2,hc2,n2,hd2⟩:=p2;simp only at hc hd hc2 hd2;subst hc hd hc2 hd2;exact concat_meets %[_,ho|rfl] %[_,ho2|rfl] noFill_tuple_add seq_tuple_add PySem.F.slot_tuple_add PySem.F.entry_tuple_add (PySem.F.args_tuple_add_2 _ _)
   (tuple_addW0 a b _ _ n n2 dd dd2 sl sl2 rfl) %[ho,ho2|%[.ref b,H,I,rfl|q]]
def BQ:R2:=λ x y H Q=>∃a b xs ys,x=.ref a/\y=.ref b/\H a= ~~~xs/\H b= ~~~ys/\xs.length+ys.length<=sizeLine /\
 ∀m H',(H'=H/\(m=a\/m=b))\/(H m=none/\H'=upd H m (.tup (xs ++ ys)))->H' m= ~~~(xs ++ ys)->Q (.ref m) H'
theorem qY:OpR X (binaryOp .Add) BQ:=by
 intro Nq s σ H x y v u Q I rx ry h;obtain⟨a,b,xs,ys,rfl,rfl,ha,hb,hz,q⟩:=h
 by_cases hx:xs=[]
 ·subst hx;exact wf Nq s σ H _ _ v u Q I rx ry %[a,b,ys,rfl,rfl,G5 ha,G5 hb|q b H (.inl %[rfl|.inr rfl]) hb]
 ·show qO Nq s σ H _ _ v u Q I rx ry %[a,b,xs,ys,rfl,rfl,G5 ha,G5 hb,hx,hz,λ e=>?_|λ e p hp=>q p _ (.inr %[hp|rfl]) ai];subst e;exact q a H (.inl %[U|.inl rfl]) (by rw[MR];exact ha)
end
theorem sT(xs:No V)(k:Nat):jf xs (some (k:Int)) none=xs.drop k:=by
 unfold jf;rw[HT.sIx_none,HT.sIx_nat];rcases Nat.le_total k xs.length with h | h
 ·rw[Nf h,K5 (by rw[NI];exact B4 _)]
 ·rw[Nat.min_eq_right h,NL (B4 _),NL h,List.take_nil]
theorem mR:∀{ns:Pz}{its:No G3},Vals (ns.map V.int) its->IntsAre its ns
 | [],_,r=>by cases r;exact .nil
 | n :: ns,_,r=>by
  cases r with
  | cons r1 r2=>
   obtain⟨t,e⟩:=r1;subst e;exact .cons n t (mR r2)
section
variable{X:Cx}
inductive rz_call_divmodB(xs:No V)(H:Hp)(Q:VK):Prop
|mk(i j:_)(_:xs=[.int i,.int j])(_:CDivB i j)(_:∀p,H p=none->Q (.ref p) (upd H p (.tup [.int (i / j),.int (i % j)])))
theorem mS:bS X (.builtin "divmod") (rz_call_divmodB):=by intro Nq s σ H xs us Q I r h;obtain⟨i,j,rfl,hc,q⟩:=h;have h1:=hc.1;obtain⟨u,w',rfl,⟨t,rfl⟩,⟨t',rfl⟩⟩:=vD r;show divmod_int ⋯ ?_ (.inl hc.np);rw[Int.fdiv_eq_ediv_of_nonneg i ⋯,Int.fmod_eq_emod_of_nonneg i ⋯];have hn:H s.heap.objs.size=none:=I.hok.fresh (B4 _);show%[.ref s.heap.objs.size,_,?_,U|q _ hn];show I.laid (λ b o e=>A8 _ e) (B4 _) %[by simp only[K3,List.length_nil];rw[Ot];decide,[.int (i / j) s.toks,.int (i % j) (s.toks+1)],.cons %[_|rfl] (.cons %[_|rfl] .nil)|?_];exact%[_,A9 s.heap rfl,U,0|U]
inductive rz_call_sortedI(K:C6)(xs:No V)(H:Hp)(Q:VK):Prop
|mk(p:Nj)(ns:Pz)(_:xs=[.ref p])(_:SqL K H p (ns.map V.int))(_:ns.length < 64)(_:∀(l:Nj)(ns':Pz),H l=none->ns'.Perm ns->ns'.Pairwise (·<=·)->Q (.ref l) (upd H l (.lst (ns'.map V.int))))
inductive rz_call_sumI(K:C6)(xs:No V)(H:Hp)(Q:VK):Prop
|mk(p:Nj)(ns:Pz)(_:xs=[.ref p])(_:SqL K H p (ns.map V.int))(_:Q (.int ns.sum) H)
theorem lI(hc:X.calm=true):bS X (.builtin "sum") (rz_call_sumI X.K):=by
 intro Nq s σ H xs us Q I r h;obtain⟨p,ns,rfl,hs,q⟩:=h;obtain⟨u,rfl,rfl⟩:=dk r;obtain⟨its,rv,pl,_⟩:=I.list hs;have hi:=mR rv;obtain⟨xs,e⟩:=hi.allInts.items;have pl':=pl.isList;rw[e]at pl';show sum_intListG (I.ok.hd hc) pl' λ h' tk t' hk=>?_;have e2:preSum (numAt xs) xs.size=ns.sum:=by rw[preSum_eq,K5 (by simp),<- nums_intItems,<- e,show its.toArray.toList=its from rfl,hi.numsOf]
 rw[e2];exact%[.int ns.sum,H,I.kept hk,%[_|U]|q]
theorem jR:∀{bs:No Bool}{its:No G3},Vals (bs.map V.bl) its->its=bs.map Value.bool
 | [],_,r=>by cases r;rfl
 | b :: bs,_,r=>by
  cases r with
  | cons r1 r2=>
   have e:_=Value.bool b:=r1;subst e;rw[J6,jR r2]
theorem sU(bs:No Bool):(List.range bs.length).all (λ i=>bs.getD i false)=bs.all id:=by
 rw[ND,Nc,Nc];constructor
 ·intro h b hb;obtain⟨i,hi,e⟩:=List.getElem_of_mem hb;have:=h i (MD.mpr hi);rw[Mp,F4 hi]at this;simpa[e]using this
 ·intro h i hi;have hi':=MD.mp hi;rw[Mp,F4 hi'];exact h _ (M8 hi')
inductive rz_call_allB(K:C6)(xs:No V)(H:Hp)(Q:VK):Prop
|mk(p:Nj)(bs:No Bool)(_:xs=[.ref p])(_:SqL K H p (bs.map V.bl))(_:Q (.bl (bs.all id)) H)
theorem iI(hc:X.calm=true):bS X (.builtin "all") (rz_call_allB X.K):=by
 intro Nq s σ H xs us Q I r h;obtain⟨p,bs,rfl,hs,q⟩:=h;obtain⟨u,rfl,rfl⟩:=dk r;obtain⟨its,rv,pl,_⟩:=I.list hs;have e:=jR rv;subst e;have hlt:p < s.heap.objs.size:=by obtain⟨_,_,e,_⟩:=pl;exact B0 e
 show call_all_walk (Of pl.isList ?_);show%[_,_,_,_,_,_,λ i=>bs.getD i false,U,Walks.list (A:=X.A.in1) (I.ok.hd hc) _ p (C1 hlt) _,%[%[_,A9 _ rfl,U|U]|pl.isList.push _],λ i v s' Q' E' hP hQ'=>?_|λ h' tk hk=>?_]
 ·have hP':(bs.map Value.bool)[i]?=some v:=by simpa using hP
  rw[J0]at hP';cases hb:bs[i]? with
  | none=>rw[hb]at hP';cases hP'
  | some b=>
   rw[hb]at hP';cases hP';have hQ2:Q' (bs.getD i false) s':=hQ';rw[Mp,hb]at hQ2;exact F5 hQ2
 ·have e2:((bs.map Value.bool).toArray.size)=bs.length:=by simp
  rw[e2,sU];show%[.bl (bs.all id),H,I.kept (h':=h') (t':=tk) (λ b o e=>hk b o ?_ (A8 _ e)),U|q];intro z;rw[E5.mp z]at e;exact absurd (B0 e) (E2 _)
inductive rz_call_repr(K:C6)(xs:No V)(H:Hp)(Q:VK):Prop
|mk(a d:_)(_:xs=[.ref a])(_:DatV K H (.ref a) d)(_:d.showable=true)(_:d.hasDict=false)(_:d.depth<=64)(_:d.shown.length<=sizeLine)(_:Q (.str d.shown) H)
theorem lJ(hg:X.A.guards=some [])(hu:X.A.units+66 < cLine):bS X (.builtin "repr") (rz_call_repr X.K):=by intro Nq s σ H xs us Q I r h;obtain⟨a,d,rfl,hd,h1,h2,h3,h4,q⟩:=h;obtain⟨u,rfl,rfl⟩:=dk r;obtain⟨as,ra⟩:=I.reads hd (u:=.ref a) rfl;exact repr_of_reads' ra h1 (λ z=>by rw[h2]at z;cases z) hg ⋯ (λ _ _ e=>e) (λ h' u tk hk=>%[.str d.shown,H,I.kept hk,%[_|U]|q]) h4
end
theorem cY{α:Type}{xs:No α}{i:Int}{v:α}(h0:0<=i)(h:xs[i.toNat]?=some v):atI xs i=some v:=by
 have e:i=((i.toNat:Nat):Int):=⋯
 have z:atI xs ((i.toNat:Nat):Int)=some v:=gL h;rw[<- e]at z;exact z
end L2
namespace Pc
open PySem L2
def PotB(H:Hp)(p:Nj):Prop:=∃a b:Int,0<=a/\0<=b/\b < 2147483648/\H p=↥[.int a,.int b]
theorem PotB.same{H H':Hp}{p:Nj}(x:PotB H p)(s:Same H H'):PotB H' p:=by obtain⟨a,b,h1,h2,h3,e⟩:=x;exact%[a,b,h1,h2,h3|s _ _ e]
def wg(K:C6):Sp:=λ vs H Q _=>∃(a:Nj)(ns:Pz)(n:Int),vs=[.ref a,.int n]/\SqL K H a (ns.map V.int)/\0<=n/\∀c:Int,Q (.int c) H
def wj:Sp:=λ vs H Q _=>∃(c:Int),vs=[.int c]/\∀(p:Nj)(H':Hp),H p=none->PotB H' p->Same H H'->Q (.ref p) H'
def fM:Sp:=λ vs H Q _=>∃(p:Nj)(m:Int),vs=[.ref p,.int m]/\PotB H p/\0 < m/\m<=10 ^ 60/\∀(r:Int)(H':Hp),0<=r->r < m->PotB H' p->But p H H'->Q (.int r) H'
end Pc
namespace L2
open PySem
theorem Room.units66{k:Nat}{A:Around}(r:Room k A):A.units+66 < cLine:=by have:=r.un;lia
end L2
namespace Pc
open PySem L2
theorem AC{K:C6}{H:Hp}:∀ns:Pz,DatVs K H (ns.map V.int) (ns.map PyData.int)
 | []=>.nil
 | n :: r=>.cons (.int n) (AC r)
def Short(i:Int):Prop:=i.natAbs < 10 ^ 62
theorem Short.log{i:Int}(h:Short i):i.natAbs.log2 < 1920:=by
 unfold Short at h;rcases Nat.eq_zero_or_pos i.natAbs with h0 | hp
 ·rw[h0];decide
 ·show(Nat.log2_lt (MU hp)).mpr (Nat.lt_trans h ?_)
  decide +kernel
theorem Short.len{i:Int}(h:Short i):(PyData.shown (.int i)).length<=63:=by change(Str.ofString (toString i)).length<=63;rw[ofString_length];exact int_text_length_le10 ∅ h
end Pc
namespace L2
open PySem PySem.Spec PyProof.Rows
section
variable{κ:Type}[DecidableEq κ]
def cS(kvs:No (κ×V))(k:κ):Nm V:=(kvs.find? λ kv=>decide (kv.1=k)).map (·.2)
def dW(kvs:No (κ×V))(k:κ)(v:V):No (κ×V) :=
 if (kvs.any λ kv=>decide (kv.1=k))=true then kvs.map (λ kv=>if kv.1=k then(kv.1,v)else kv)else kvs ++ [(k,v)]
theorem dX{p:κ×V}{r:No (κ×V)}{k:κ}(e:p.1=k):cS (p :: r) k=some p.2:=by simp[cS,NT,e]
theorem cO{p:κ×V}{r:No (κ×V)}{k:κ}(e:¬ p.1=k):cS (p :: r) k=cS r k:=by simp[cS,NT,e]
theorem jS(k:κ):∀kvs:No (κ×V),(kvs.any λ kv=>decide (kv.1=k))=(cS kvs k).isSome
 | []=>rfl
 | p :: r=>by
  rw[List.any_cons]
  by_cases e:p.1=k
  ·simp only[dX e,Ny e,Bool.true_or,Option.isSome_some]
  ·rw[cO e,N3 e,Bool.false_or];exact jS k r
theorem eZ(kvs:No (κ×V))(k:κ)(v:V):(dW kvs k v).length<=kvs.length+1:=by
 unfold dW
 split
 ·rw[B5];lia
 ·rw[K4,K3,List.length_nil];lia
theorem nL{kvs:No (κ×V)}{k:κ}(v:V)(h:cS kvs k=none):dW kvs k v=kvs ++ [(k,v)]:=by unfold dW;rw[jS,h];exact Nv ∅
theorem RelO.isSome_eq{o:Nm V}{u:Nm G3}(r:RelO o u):o.isSome=u.isSome:=by
 cases o with
 | none=>cases u with
  | none=>rfl
  | some _=>exact(show False from r).elim
 | some _=>cases u with
  | none=>exact(show False from r).elim
  | some _=>rfl
theorem KV.val{kvs:No (κ×V)}{vs:No (κ×G3)}(r:KV kvs vs)(k:κ):RelO (cS kvs k) (valueAt vs k):=by
 unfold KV at r
 induction r with
 | nil=>exact True.intro
 | @cons p q ps qs h t ih=>
  obtain⟨h1,h2⟩:=h
  by_cases e:p.1=k
  ·have e':q.1=k:=h1.symm.trans e;have b:valueAt (q :: qs) k=some q.2:=by simp[valueAt,NT,e']
   rw[dX e,b];exact h2
  ·have e':¬ q.1=k:=λ z=>e (h1.trans z);have b:valueAt (q :: qs) k=valueAt qs k:=by simp[valueAt,NT,e']
   rw[cO e,b];exact ih
theorem KV.any{kvs:No (κ×V)}{vs:No (κ×G3)}(r:KV kvs vs)(k:κ):(kvs.any λ kv=>decide (kv.1=k))=vs.any λ kv=>decide (kv.1=k):=by
 unfold KV at r
 induction r with
 | nil=>rfl
 | cons h t ih=>rw[List.any_cons,List.any_cons,ih,h.1]
theorem KV.repl{kvs:No (κ×V)}{vs:No (κ×G3)}(r:KV kvs vs)(k:κ){y:V}{u:G3}(ry:RelV y u) :
  KV (kvs.map λ kv=>if kv.1=k then(kv.1,y)else kv) (vs.map λ kv=>if kv.1=k then(kv.1,u)else kv):=by
 unfold KV at r ⊢
 induction r with
 | nil=>exact .nil
 | @cons p q ps qs h t ih=>
  rw[J6,J6];show .cons ?_ ih;obtain⟨h1,h2⟩:=h
  by_cases e:p.1=k
  ·rw[Nw e,Nw (h1.symm.trans e)];exact%[h1|ry]
  ·rw[Nv e,Nv (λ z=>e (h1.trans z))];exact%[h1|h2]
theorem KV.put{kvs:No (κ×V)}{vs:No (κ×G3)}(r:KV kvs vs)(k:κ){y:V}{u:G3}(ry:RelV y u):KV (dW kvs k y) (stored vs k u):=by
 unfold dW stored;rw[r.any k]
 by_cases e:(vs.any λ kv=>decide (kv.1=k))=true
 ·rw[Nw e,Nw e];exact r.repl k ry
 ·rw[Nv e,Nv e];exact Paired.snoc r %[rfl|ry]
theorem KV.length{kvs:No (κ×V)}{vs:No (κ×G3)}(r:KV kvs vs):kvs.length=vs.length:=E6 r
end
theorem qZ{P:G0}{w:G2}{k:Key}{u:G3}(r:RelV (kV k) u):(bh P w).is k u=true:=by
 cases k with
 | inl i=>obtain⟨t,e⟩:=(show∃t,u=Value.int i t from r);subst e;exact nr P w i t
 | inr x=>obtain⟨t,e⟩:=(show∃t,u=Value.str x t from r);subst e;exact nu P w x t
theorem lK{P:G0}{w:G2}:∀{ks:No Key}{us:No G3},Vals (ks.map kV) us->ItemsAre (bh P w) ks us
 | [],_,r=>by rw[MY]at r;cases r;exact .nil
 | k :: ks,_,r=>by
  rw[J6]at r;cases r with
  | cons h t=>exact .cons (qZ h) (lK t)
abbrev KT(H:Hp):No (No Key×V)->No (No Key×Nj×G3)->Prop:=Paired λ p q=>p.1=q.1/\H q.2.1= ~~~(p.1.map kV)/\RelV p.2 q.2.2
theorem KT.val{H:Hp}{kvs:No (No Key×V)}{xs:No (No Key×Nj×G3)}(r:KT H kvs xs)(k:No Key):RelO (cS kvs k) ((atKey xs k).map (·.2)):=by
 induction r with
 | nil=>exact True.intro
 | @cons p q ps qs h t ih=>
  obtain⟨h1,_,h2⟩:=h
  by_cases e:p.1=k
  ·have e':q.1=k:=h1.symm.trans e;have b:atKey (q :: qs) k=some q.2:=by simp[atKey,NT,e']
   rw[dX e,b];exact h2
  ·have e':¬ q.1=k:=λ z=>e (h1.trans z);have b:atKey (q :: qs) k=atKey qs k:=by simp[atKey,NT,e']
   rw[cO e,b];exact ih
theorem KT.repl{H:Hp}{kvs:No (No Key×V)}{xs:No (No Key×Nj×G3)}(r:KT H kvs xs)(k:No Key){y:V}{u:G3}(ry:RelV y u) :
  KT H (kvs.map λ kv=>if kv.1=k then(kv.1,y)else kv) (xs.map (putAt k u)):=by
 induction r with
 | nil=>exact .nil
 | @cons p q ps qs h t ih=>
  rw[J6,J6];show .cons ?_ ih;obtain⟨h1,h2,h3⟩:=h;unfold putAt
  by_cases e:p.1=k
  ·rw[Nw e,Nw (h1.symm.trans e)];exact%[h1,h2|ry]
  ·rw[Nv e,Nv (λ z=>e (h1.trans z))];exact%[h1,h2|h3]
theorem KT.put{H:Hp}{kvs:No (No Key×V)}{xs:No (No Key×Nj×G3)}(r:KT H kvs xs)(k:No Key){b:Nj}{y:V}{u:G3}(hb:H b= ~~~(k.map kV))(ry:RelV y u) :
  KT H (dW kvs k y) (storedH xs k b u):=by
 have e:(kvs.any λ kv=>decide (kv.1=k))=(atKey xs k).isSome:=by rw[jS,(r.val k).isSome_eq,Option.isSome_map]
 unfold dW storedH;rw[e]
 by_cases q:(atKey xs k).isSome=true
 ·rw[Nw q,Nw q];exact r.repl k ry
 ·rw[Nv q,Nv q];exact Paired.snoc r %[rfl,hb|ry]
theorem KT.keeps{H H':Hp}{kvs:No (No Key×V)}{xs:No (No Key×Nj×G3)}(r:KT H kvs xs)(ht:∀b ys,H b= ~~~ys->H' b= ~~~ys):KT H' kvs xs :=
 G7 r λ _ _ z=>%[z.1,ht _ _ z.2.1|z.2.2]
section
variable{P:G0}{w:G2}{H:Hp}{h:Heap}{a:Nj}
theorem zW{u:HO}(ok:HOk P w H h)(e:Rd H a u):ObjOk P w H h a u:=e.ok ok
theorem rc{kvs:No (Key×V)}(ok:HOk P w H h)(e:Rd H a (.dK kvs)):kvs.length<=sizeLine/\(a == sysModules)=false/\∃vs,KV kvs vs/\h.DictOf (bh P w) a vs :=
 show ObjOk P w H h a (.dK kvs)from zW ok e
theorem BR{kvs:No (Key×V)}(ok:HOk P w H h)(e:H a=some (.dK kvs)):kvs.length<=sizeLine/\(a == sysModules)=false/\∃vs,KV kvs vs/\h.DictOf (bh P w) a vs:=rc ok (.inl e)
theorem fb{ks:No Key}(ok:HOk P w H h)(e:H a= ~~~(ks.map kV)):(tupleKind (bh P w)).is h ks a:=by
 obtain⟨_,its,r,o,h1,h2,n,h3⟩:=(show ObjOk P w H h a (.tup (ks.map kV))from ok a _ e)
 exact%[o,its.toArray,n,h1,h2,h3|by simpa using lK r]
theorem re{kvs:No (No Key×V)}(ok:HOk P w H h)(e:Rd H a (.dT kvs)):kvs.length<=sizeLine/\(a == sysModules)=false /\
  ∃xs,KT H kvs xs/\h.DictOfH (tupleKind (bh P w)) a xs:=by
 obtain⟨z,y,xs,r,o,es,ep,h1,h2,h3,h4,h5⟩:=(show ObjOk P w H h a (.dT kvs)from zW ok e)
 show%[z,y,xs,r,o,es,ep,h1,h2,h3,h4,λ x hx=>?_|h5];have all:∀{l:No (No Key×V)}{m:No (No Key×Nj×G3)},KT H l m->∀x∈m,(tupleKind (bh P w)).is h x.1 x.2.1:=by
  intro l m q
  induction q with
  | nil=>intro x hx;exact nomatch hx
  | @cons p q ps qs hq t ih=>
   intro x hx;rcases J3.mp hx with e | hx
   ·subst e;exact fb ok (by rw[<- hq.1];exact hq.2.1)
   ·exact ih x hx
 exact all r x hx
theorem wq{kvs:No (No Key×V)}(ok:HOk P w H h)(e:H a=some (.dT kvs)):kvs.length<=sizeLine/\(a == sysModules)=false /\
  ∃xs,KT H kvs xs/\h.DictOfH (tupleKind (bh P w)) a xs:=re ok (.inl e)
end
def DGet(H:Hp)(a:Nj)(y:V)(r:Nm V):Prop :=
 (∃kvs k,Rd H a (.dK kvs)/\y=kV k/\r=cS kvs k)\/∃kvs k b,Rd H a (.dT kvs)/\y=.ref b/\H b= ~~~(k.map kV)/\r=cS kvs k
def DPut(H:Hp)(a:Nj)(y v:V)(H':Hp):Prop :=
 (∃kvs k,H a=some (.dK kvs)/\y=kV k/\kvs.length < sizeLine/\H'=upd H a (.dK (dW kvs k v))) \/
 ∃kvs k b,H a=some (.dT kvs)/\y=.ref b/\H b= ~~~(k.map kV)/\kvs.length < sizeLine/\H'=upd H a (.dT (dW kvs k v))
theorem DGet.t{H:Hp}{a b:Nj}{kvs:No (No Key×V)}{k:No Key}(e:H a=some (.dT kvs))(eb:H b= ~~~(k.map kV)):DGet H a (.ref b) (cS kvs k):=.inr %[kvs,k,b,.inl e,U,eb|U]
theorem DPut.t{H:Hp}{a b:Nj}{kvs:No (No Key×V)}{k:No Key}{v:V}(e:H a=some (.dT kvs))(eb:H b= ~~~(k.map kV))(hl:kvs.length < sizeLine) :
  DPut H a (.ref b) v (upd H a (.dT (dW kvs k v))):=.inr %[kvs,k,b,e,U,eb,hl|U]
section
variable{X:Cx}{Nq:P6}{σ:St}{H:Hp}{s:F9}{a:Nj}{y v:V}{u r:G3}{o:Nm V}{A:Around}{E:G3->F9->Prop}
theorem Inv.big(I:Inv X Nq σ H s):sysModules < s.heap.objs.size:=by have h:Np < s.heap.objs.size:=(I.mod.glob.keeps I.bk).lt;exact Nat.lt_trans ∅ h
theorem sV{Q:G3->F9->Prop}(hu:A.units+1 < cLine)(I:Inv X Nq σ H s)(g:DGet H a y (some v))(ry:RelV y u)(h:∀w' s',Inv X Nq σ H s'->RelV v w'->Q w' s') :
  wpAny (model X.prog X.w) A (getItem (.ref a) u) Q E s:=by
 rcases g with⟨kvs,k,e,ey,l⟩ | ⟨kvs,k,b,e,ey,eb,l⟩
 ·subst ey;obtain⟨z,hd,vs,rel,dd⟩:=rc I.hok e;obtain⟨w',hw,rw'⟩:=RelO.some_of (v:=v) (o:=valueAt vs k) (by rw[l];exact rel.val k);exact wpAny_getItem_of (qZ ry) dd.mapOf hw (h w' _ (I.tok _) rw')
 ·subst ey;cases(show u=Value.ref b from ry);obtain⟨z,hd,xs,rel,dd⟩:=re I.hok e;obtain⟨w',hw,rw'⟩:=RelO.some_of (v:=v) (o:=(atKey xs k).map (·.2)) (by rw[l];exact rel.val k);obtain⟨p,hp,hp2⟩:=J8.mp hw;show wpAny_getItem_heap (tupleKind_room_in1 hu) (fb I.hok eb) dd hp ?_;rw[hp2];exact h w' _ (I.tok _) rw'
theorem yK{Q:G3->F9->Prop}(hu:A.units+1 < cLine)(I:Inv X Nq σ H s)(g:DGet H a y o)(ry:RelV y u)(h:∀s',Inv X Nq σ H s'->Q (.bool (!o.isSome)) s') :
  wpAny (model X.prog X.w) A (compareOp .NotIn u (.ref a)) Q E s:=by
 rcases g with⟨kvs,k,e,ey,l⟩ | ⟨kvs,k,b,e,ey,eb,l⟩
 ·subst ey;obtain⟨z,hd,vs,rel,dd⟩:=rc I.hok e;show wpAny_notIn_of (qZ ry) hd dd.mapOf ?_;rw[<- (rel.val k).isSome_eq,<- l];exact h _ (I.tok _)
 ·subst ey;cases(show u=Value.ref b from ry);obtain⟨z,hd,xs,rel,dd⟩:=re I.hok e;show wpAny_notIn_heap (tupleKind_room_in1 hu) (fb I.hok eb) hd dd ?_;have q:=(rel.val k).isSome_eq;rw[Option.isSome_map]at q;rw[<- q,<- l];exact h _ (I.tok _)
theorem mT{h':Heap}{t':Nat}{ob:HO}(I:Inv X Nq σ H s)(mu:Mut (H a))(hs:Heap.SameBut a s.heap h')(he:∃q,h'.get? a=some q)(new:ObjOk X.prog X.w (upd H a ob) h' a ob) :
  Inv X Nq σ (upd H a ob) { s with heap:=h',toks:=t' } :=
 I.write (x:=a) (e:=a) mu (.inl rfl) (λ b q hb z=>(hs.2 b hb).trans z) he new
theorem AD{P:G0}{w:G2}{H':Hp}{h':Heap}{kvs:No (Key×V)}{vs:No (Key×G3)}(z:kvs.length<=sizeLine)(hd:(a == sysModules)=false)(rel:KV kvs vs)(dd:h'.DictOf (bh P w) a vs) :
  ObjOk P w H' h' a (.dK kvs):=%[z,hd,vs,rel|dd]
theorem sW{H':Hp}{Q:Unit->F9->Prop}(hu:A.units+1 < cLine)(I:Inv X Nq σ H s)(g:DPut H a y v H')(ry:RelV y u)(rv:RelV v r)(h:∀s',Inv X Nq σ H' s'->Q () s') :
  wpAny (model X.prog X.w) A (setItem (.ref a) u r) Q E s:=by
 rcases g with⟨kvs,k,e,ey,l,eH⟩ | ⟨kvs,k,b,e,ey,eb,l,eH⟩
 ·subst ey eH;obtain⟨z,hd,vs,rel,dd⟩:=BR I.hok e;have hz:vs.length<=sizeLine:=by rw[<- rel.length];exact z
  have hl:(dW kvs k v).length<=sizeLine:=by have:=eZ kvs k v;lia
  show wpAny_setItem_pairs (hsz:=hz) (qZ ry) dd λ h' dd' hs=>h _ ?_;have he:∃q,h'.get? a=some q:=let ⟨q,_,_,hq,_⟩:=dd';%[q|hq]
  exact mT I (by rw[e];exact True.intro) hs he (AD hl hd (rel.put k rv) dd')
 ·subst ey eH;cases(show u=Value.ref b from ry);obtain⟨z,hd,xs,rel,dd⟩:=wq I.hok e;have hz:xs.length<=sizeLine:=by rw[<- Paired.length rel];exact z
  have hl:(dW kvs k v).length<=sizeLine:=by have:=eZ kvs k v;lia
  show wpAny_setItem_heap (hsz:=hz) (tupleKind_room_in1 hu) (fb I.hok eb) dd λ h' dd' hs=>h _ ?_;obtain⟨q,es,ep,hq,h2,h3,h4,_,h5⟩:=dd';show mT I (by rw[e];exact True.intro) hs %[q|hq] %[hl,hd,_,(rel.put k eb rv).keeps λ c ys ec=>?_,q,es,ep,hq,h2,h3,h4|h5];rw[ak (zM ec e (λ z=>nomatch z))];exact ec
end
def BS(i:Expr):Prop:=∀ov iv,subscripted i false ov iv=operate [ov,iv] (getItem ov iv)
theorem yL{prog:G0}{w:G2}{A:Around}{E:G3->F9->Prop}{s:F9}{env:Env}{value slice:Expr}{pos:Pos}{T id:String}{Q:G3->F9->Prop}
  (hl:typeLookup (.type T) "__getitem__" = pure (some (.builtin id))) (hs:BS slice)
  (h:wpAny (model prog w) A (eval value env) (λ o s₁=>wpAny (model prog w) A (eval slice env) (λ i s₂=>s₂.TypeIs o T/\wpAny (model prog w) A (getItem o i) Q E s₂) E s₁) E s) :
  wpAny (model prog w) A (eval (.Subscript value slice pos) env) Q E s:=by
 show Subscript_ (OA h (λ o s₁ h₁=>OA h₁ (λ i s₂ h₂=>?_) λ _ _ x=>x) λ _ _ x=>x);obtain⟨hT,h₂⟩:=h₂;unfold subscriptTail;show A0 ?_;rw[getitemInPython_of_ne hT.not_modules];show A0 (wpAny_specialOf hT hl ?_);have fin:wpAny (model prog w) A (subscripted slice false o i) (λ r s₃=>wpAny (model prog w) A (letTemporaryGo value o r >>= λ _=>pure r) Q E s₃) E s₂:=by rw[hs o i];exact wpAny_operating (OA h₂ (λ r s₃ h₃=>A0 (wpAny_letTemporaryGo (A3 h₃))) λ _ _ x=>x)
 first
  | exact A3 (A0 fin)
  | exact A0 (A3 (A0 fin))
  | exact A0 fin
theorem nM{X:Cx}{Nq:P6}{σ:St}{H:Hp}{s:F9}{a:Nj}{y:V}{o:Nm V}(I:Inv X Nq σ H s)(g:DGet H a y o):s.TypeIs (.ref a) "dict" := by
 rcases g with⟨kvs,k,e,_,_⟩ | ⟨kvs,k,b,e,_,_,_⟩
 ·obtain⟨_,_,vs,_,dd⟩:=rc I.hok e;exact dd.typeIs
 ·obtain⟨_,_,xs,_,dd⟩:=re I.hok e;exact dd.typeIs
def BU(td ty:TE):TE:=λ σ H Q=>td σ H λ x H1=>ty σ H1 λ y H2=>∃a v,x=.ref a/\DGet H2 a y (some v)/\Q v H2
def yM(ty td:TE):TE:=λ σ H Q=>ty σ H λ y H1=>td σ H1 λ x H2=>∃a o,x=.ref a/\DGet H2 a y o/\Q (.bl (!o.isSome)) H2
def BV(td ty tv:TE):TS:=λ D σ H=>tv σ H λ v H1=>td σ H1 λ x H2=>ty σ H2 λ y H3=>∃a H4,x=.ref a/\DPut H3 a y v H4/\D.nx σ H4
section
variable{X:Cx}{o i e value:Expr}{pos pos' tpos:Pos}{td ty tv:TE}
theorem dC(hu:X.A.units+1 < cLine)(ho:PE X o td)(hi:PE X i ty)(hs:BS i):PE X (.Subscript o i pos) (BU td ty):=by intro Nq s σ H Q I h;show yL PySem.F.slot_dict_getitem.lookup hs (thn (ho Nq s σ H _ I h) ?_);rintro u s1 ⟨x,H1,I1,rx,q1⟩;show thn (hi Nq s1 σ H1 _ I1 q1) ?_;rintro iv s2 ⟨y,H2,I2,ry,a,v,ex,g,q2⟩;subst ex;obtain rfl:u=Value.ref a:=rx;exact%[nM I2 g|sV hu I2 g ry λ w' s3 I3 rw'=>%[v,H2,I3,rw'|q2]]
theorem sX(hu:X.A.units+1 < cLine)(hi:PE X i ty)(ho:PE X o td):PC X .NotIn i o (yM ty td):=by intro Nq s σ H Q I h;show thn (hi Nq s σ H _ I h) ?_;rintro iv s1 ⟨y,H1,I1,ry,q1⟩;show thn (ho Nq s1 σ H1 _ I1 q1) ?_;rintro u s2 ⟨x,H2,I2,rx,a,ov,ex,g,q2⟩;subst ex;obtain rfl:u=Value.ref a:=rx;exact yK hu I2 g ry λ s3 I3=>%[.bl (!ov.isSome),H2,I3,U|q2]
theorem yN(hu:X.A.units+1 < cLine)(ho:PE X o td)(hi:PE X i ty)(hv:PE X value tv)(hs:swapsWith value (some (.Subscript o i pos')) pos.line X.env=pure false) :
  PS X (.Assign [.Subscript o i pos'] value pos) (BV td ty tv):=by
 intro Nq s σ H D I h;show wpAny_Assign_Subscript (thn (hv Nq s σ H _ I h) ?_) hs;rintro r s1 ⟨v,H1,I1,rv,q1⟩;show thn (ho Nq s1 σ H1 _ I1 q1) ?_;rintro u s2 ⟨x,H2,I2,rx,q2⟩;show thn (hi Nq s2 σ H2 _ I2 q2) ?_;rintro iv s3 ⟨y,H3,I3,ry,a,H4,ex,g,q3⟩;subst ex;obtain rfl:u=Value.ref a:=rx;exact sW hu I3 g ry rv λ s4 I4=>%[σ,H4,I4|q3]
end
theorem nN{P:G0}{w:G2}{H:Hp}(h:Heap)(hb:sysModules < h.objs.size):ObjOk P w H (h.push { cls:=.type "dict",data:=.dict #[] }) h.objs.size (.dT []) :=
 %[F1 _,OO.mpr (Ne.symm (C1 hb)),[],.nil,_,#[],0,A9 _ rfl,%[rfl,rfl|rfl],rfl,rfl|List.nodup_nil]
def AE:TE:=λ _ H Q=>∀p,H p=none->Q (.ref p) (upd H p (.dT []))
section
variable{X:Cx}{pos:Pos}
theorem nO:PE X (.Dict [] [] pos) AE:=λ Nq s σ H Q I h=>
 wpAny_Dict_empty %[.ref s.heap.objs.size,_,I.laid (a:=s.heap.objs.size) (o:=.dT []) (t':=s.toks) (λ _ _ q=>A8 _ q) (B4 _) (nN s.heap I.big),rfl|h _ (I.hok.fresh (B4 _))]
end
structure M1(X:Cx)(o:Expr)(m:Str)(apos:Pos)(e:Expr)(cpos:Pos):Prop where
 base:attributeBase o m X.env (eval o X.env)=eval o X.env
 few:((backTo cpos (starEach [e] X.env)).all (λ x=>!x.1) && (backToKw cpos (keywordEach [] X.env)).all (λ x=>x.1.isSome)
  && decide (([e]:No Expr).length+([]:No Keyword).length+(if ([]:No Keyword).isEmpty then 0 else 1) < 30))=true
 line:(apos.endLine == cpos.line)=true
 trees:backTo cpos (starEach [e] X.env)=[(false,eval e X.env)]
structure M2(X:Cx)(o:Expr)(m:Str)(apos:Pos)(e f:Expr)(cpos:Pos):Prop where
 base:attributeBase o m X.env (eval o X.env)=eval o X.env
 few:((backTo cpos (starEach [e,f] X.env)).all (λ x=>!x.1) && (backToKw cpos (keywordEach [] X.env)).all (λ x=>x.1.isSome)
  && decide (([e,f]:No Expr).length+([]:No Keyword).length+(if ([]:No Keyword).isEmpty then 0 else 1) < 30))=true
 line:(apos.endLine == cpos.line)=true
 trees:backTo cpos (starEach [e,f] X.env)=[(false,eval e X.env),(false,eval f X.env)]
end L2
/- THE LAST THEOREM (shape;LID,My.* are yours):
   My.Adr: a structure of the addresses that your layer names (classes,functions);My.Txt K t: a structure (Prop) of the equations over K;
   My.txt_mk : {K} {implicit addresses ..} (e1 : nsIn K Np "law" = some (↑f)) (e2 : K.lookup f=some %[oc,od,.func (fnOf "law" "law" params body scope dV kV doc pm an cdv ct)|sl]) (e3 : codeIn K cdv "law" = true) .. : ∃ t,My.Txt K t
(the tactic k_is has no namespace: write k_is) -/
namespace L2
open PySem PySem.Spec PyProof.Rows
section
variable{X:Cx}
inductive rz_call_lenD(xs:No V)(H:Hp)(Q:VK):Prop
|mk(a kvs:_)(_:xs=[V.ref a])(_:H a=some (.dK kvs))(_:Q (.int kvs.length) H)
end
theorem cU{X:Cx}(K:C6){x y:Str}{px py pos:Pos}{k:Nat}(hK:X.K=K)(hc:X.calm=true)(hN:X.N.Nodup)(h0:X.N[0]?=some x)(h1:X.N[1]?=some y)(l0:X.env.scope.names.lookup x=some .local)(l1:X.env.scope.names.lookup y=some .local) :
  PG X (.Tuple [.Name x px,.Name y py] k pos) (gTup K 2 (gCons (iV 0) (gCons (iV 1) Ao))) :=
 hK ▸ bO hc (au (am hN h0 (.inl l0) (.inr l0)) (au (am hN h1 (.inl l1) (.inr l1)) bi))
theorem wr{X:Cx}(K:C6){x y z:Str}{px py pz pos:Pos}{k:Nat}(hK:X.K=K)(hc:X.calm=true)(hN:X.N.Nodup)(h0:X.N[0]?=some x)(h1:X.N[1]?=some y)(h2:X.N[2]?=some z)(l0:X.env.scope.names.lookup x=some .local)(l1:X.env.scope.names.lookup y=some .local)(l2:X.env.scope.names.lookup z=some .local) :
  PG X (.Tuple [.Name x px,.Name y py,.Name z pz] k pos) (gTup K 3 (gCons (iV 0) (gCons (iV 1) (gCons (iV 2) Ao)))) :=
 hK ▸ bO hc (au (am hN h0 (.inl l0) (.inr l0)) (au (am hN h1 (.inl l1) (.inr l1)) (au (am hN h2 (.inl l2) (.inr l2)) bi)))
theorem wu{l1 l2:Nj}{xs ys:No V}{σ:St}{cap:No Nat}{k:Nat}{g:TG}{tt:TT}{te:TE}{Q:No V->Hp->Prop}{H:Hp}(Pv:Nat->No V->Hp->Prop)(hn:xs.length=ys.length)
  (hk:∀i zs H',Pv i zs H'->H' l1=↥xs/\H' l2=↥ys) (h0:Pv 0 [] H)
  (hz:∀i zs H',i < xs.length->Pv i zs H'->zs.length < sizeLine)
  (ht:∀i x y p zs H',xs[i]?=some x->ys[i]?=some y->H' p=none->Pv i zs H'->g (.ref p) (aW σ cap k) (upd H' p (.tup [x,y])) λ σ2 H2=>leS (aW σ cap k) σ2/\tt σ2 H2 λ ok H3=>if ok=true then te σ2 H3 (λ v H4=>Nx xs.length Pv i (zs ++ [v]) H4)else Nx xs.length Pv i zs H3)
  (hd:∀zs H',Pv xs.length zs H'->zs.length<=sizeLine/\Q zs H'):∃W,(∃m,W 0 m [] H)/\eS σ cap k (Itz l1 l2) g tt te Q W:=by
 show%[λ i m zs H'=>m=xs.length - i/\i<=xs.length/\Pv i zs H',%[_,U,F1 _|h0]|?_];rintro i m zs H' ⟨rfl,hi,p⟩;obtain⟨e1,e2⟩:=hk i zs H' p
 by_cases hlt:i < xs.length
 ·have hx:xs[i]?=some xs[i]:=by simp[hlt]
  have hy:ys[i]?=some (ys[i]'⋯):=by simp[show i < ys.length by lia]
  show .inr %[%[xs,ys,_,_,e1,e2,hx|hy],hz i zs H' hlt p|λ v H2 yl=>?_]
  ·obtain⟨q,xs',ys',x,y,hq,rfl,rfl,e1',e2',ex,ey⟩:=yl;rw[e1]at e1';cases e1';rw[e2]at e2';cases e2';exact ht i x y q zs H' ex ey hq p
 ·have e:i=xs.length:=⋯
  subst e;obtain⟨a1,a2⟩:=hd zs H' p;exact .inl %[%[xs,ys,e1,e2|.inl (B4 _)],a1|a2]
section
variable{X:Cx}
inductive rz_call_maxI(K:C6)(xs:No V)(H:Hp)(Q:VK):Prop
|mk(p:Nj)(ns:Pz)(_:xs=[.ref p])(_:SqL K H p (ns.map V.int))(_:ns≠[])(_:∀m,m∈ns->(∀x∈ns,x<=m)->Q (.int m) H)
end
end L2
namespace PySem
def SqA:Bool->Heap->Nj->Nn G3->Prop
 | true,h,l,xs=>h.IsTuple l xs
 | false,h,l,xs=>h.IsList l xs
def ItA:Bool->Heap->Nj->Nj->Nat->Prop
 | true,h,a,l,k=>h.IsTupleIter a l k
 | false,h,a,l,k=>h.IsListIter a l k
abbrev nP(h:Heap)(T:Nj)(vs:No G3):Prop:=h.get? T=some { cls:=.type "tuple",data:=.seq vs.toArray }
theorem SqA.at{b:Bool}{h h':Heap}{l:Nj}{xs:Nn G3}(x:SqA b h l xs)(e:∀o,h.get? l=some o->h'.get? l=some o):SqA b h' l xs:=by cases b <;> (obtain⟨o,ho,r⟩:=x;exact%[o,e _ ho|r])
theorem ItA.at{b:Bool}{h h':Heap}{a l:Nj}{k:Nat}(x:ItA b h a l k)(e:∀o,h.get? a=some o->h'.get? a=some o):ItA b h' a l k:=by cases b <;> (obtain⟨o,ho,r⟩:=x;exact%[o,e _ ho|r])
theorem ItA.obj{b:Bool}{h:Heap}{a l:Nj}{k:Nat}(x:ItA b h a l k):∃o,h.get? a=some o/\∀v,o.data≠.cell v:=by cases b <;> (obtain⟨o,ho,_,d⟩:=x;exact%[o,ho|λ v q=>by rw[d]at q;cases q])
abbrev fpZ(z TI TO:Nj)(its:No (Bool×Nj×Nj)):No Nj:=z :: TI :: TO :: its.map (·.2.1)
def StZ(f:G3)(z TI TO:Nj)(its:No (Bool×Nj×Nj))(i:Nat)(h:Heap):Prop :=
 IsZip h z TI TO f/\nP h TI (its.map λ p=>.ref p.2.1)/\(∃os,os.length=its.length/\nP h TO os)/\∀p∈its,ItA p.1 h p.2.1 p.2.2 i
section
variable{prog:G0}{w:G2}{A:Around}{E:G3->F9->Prop}{s:F9}
theorem wx{α:Type}{vs os:No α}{n:Nat}{y:α}(hy:vs[n]?=some y)(ho:n < os.length):(vs.take n ++ os.drop n).set n y=vs.take (n+1) ++ os.drop (n+1):=by
 have h:=(A7.mp hy).1;have hl:(vs.take n).length=n:=by simp;lia
 rw[Ms ho,List.set_append_right _ _ ⋯,hl,Nat.sub_self,List.set_cons_zero,List.take_succ,hy];simp
theorem sY{b:Bool}{it l:Nj}{i:Nat}{items}{Q:G3->F9->Prop}(hh:A.handled=none)(hit:ItA b s.heap it l i)(hl:SqA b s.heap l items)
  (hQ:∀x,items[i]?=some x->∀h',ItA b h' it l (i+1)->Heap.SameBut it s.heap h'->Q x { s with heap:=h' }) (hE:items[i]?=none->∀h' e,Heap.ExtBut it s.heap h'->(∃o,h'.get? e=some o/\o.cls=.type "StopIteration")->E (.ref e) { s with heap:=h' }) :
  wpAny (model prog w) A (Builtin.SmallTypes.nextOf (.ref it)) Q E s:=by
 cases hx:items[i]? with
 | none=>cases b;exact wpAny_nextOf_list_end hh hit hl hx (hE hx);exact dq hh hit hl hx (hE hx)
 | some x=>cases b;exact wpAny_nextOf_list_item hit hl hx (hQ x hx);exact eT hit hl hx (hQ x hx)
theorem iY{z TI TO:Nj}{its:No (Bool×Nj×Nj)}{k:Nat}{vs:No G3}{Q:Nm G3->F9->Prop}(hh:A.handled=none)(nd:(fpZ z TI TO its).Nodup)(n0:its≠[])(hl:its.length<=9)(st:StZ .none z TI TO its k s.heap)(ha:∀p∈its,p.2.2∉fpZ z TI TO its)(hvl:vs.length<=its.length)
  (hv:∀ (j:Nat) p,its[j]?=some p->∃xs,SqA p.1 s.heap p.2.2 xs/\(j<=vs.length->xs[k]?=vs[j]?))
  (hQ:vs.length=its.length->∀h',StZ (rawInt s.heap.objs.size) z TI TO its (k+1) h'->nP h' s.heap.objs.size vs->(∀c o,c∉fpZ z TI TO its->s.heap.get? c=some o->h'.get? c=some o)->Q (↑s.heap.objs.size) { s with heap:=h' })
  (hE:vs.length < its.length->∀h',(∀c o,c∉fpZ z TI TO its->s.heap.get? c=some o->h'.get? c=some o)->Q none { s with heap:=h' }):wpAny (model prog w) A (pyNext (.ref z)) Q E s:=by
 obtain⟨hz,hTI,⟨os,ho,hTO⟩,hi⟩:=st;have hT:s.TypeIs (.ref z) "zip" := %[_,hz|U]
 unfold pyNext;show A0 (OS (wpAny_callSpecial?_slot (name:=Str.ofString "__next__") hT F.slot_zip_next
  (F6 F.slot_zip_next hT F.entry_zip_next ?_ (F.args_zip_next_1 _))))
 change wpAny _ _ (field (.ref z) 2 >>= _) _ _ _;show A0 (OE hz rfl (x:=.bool false) rfl ?_);change wpAny _ _ (field (.ref z) 3 >>= _) _ _ _;show A0 (OE hz rfl (x:=.ref TI) rfl ?_);show A0 (Ol hTI rfl ?_);have em:(its.map λ p=>Value.ref p.2.1).toArray.isEmpty=false:=by cases its with | nil=>exact absurd rfl n0 | cons a t=>simp
 dsimp only;rw[em];change wpAny _ _ (Builtin.SmallTypes.ownedTupleIsFree (.ref z) >>= _) _ _ _;show A0 ?_;unfold Builtin.SmallTypes.ownedTupleIsFree;show A0 (OE hz rfl (x:=.none) rfl (A3 ?_));simp only[Oo];show A0 (OI ?_);show A0 (OE hz rfl (x:=.ref TO) rfl ?_);show A0 (N7 hz (by simp) λ h₁ hz₁ hs₁=>?_)
 replace hz₁:IsZip h₁ z TI TO .ellipsis:=hz₁
 simp only[Mq,J3,Ou]at nd;obtain⟨⟨n1,n2,n3⟩,⟨n4,n5⟩,n6,n7⟩:=nd;show A0 (Om _ (λ rest b s'=>b.1=none/\∃n h',rest=((its.map λ p=>Value.ref p.2.1).zipIdx).drop n/\n<=vs.length/\s'={ s with heap:=h' }/\IsZip h' z TI TO .ellipsis/\nP h' TO (vs.take n ++ os.drop n)/\(∀ (j:Nat) p,its[j]?=some p->ItA p.1 h' p.2.1 p.2.2 (if j < n then k+1 else k))/\h'.objs.size=s.heap.objs.size/\∀c o,c≠z->c≠TO->c∉its.map (·.2.1)->s.heap.get? c=some o->h'.get? c=some o) _ ?_ ?_ _ _ ?_)
 ·rintro x rest b s' ⟨hb,n,h',hr,hn,rfl,hz',hTO',hi',hsz,hk⟩;obtain⟨b1,b2⟩:=b;cases(show b1=none from hb);have hnl:n < its.length:=by
   rcases Nh n its.length with h | h
   ·exact h
   ·rw[NL (by simpa using h)]at hr;cases hr
  have hp:its[n]?=some its[n]:=by simp[hnl]
  generalize its[n]=p at hp;have hm:p∈its:=B7 hp;have hx:x=(Value.ref p.2.1,n)/\rest=((its.map λ p=>Value.ref p.2.1).zipIdx).drop (n+1):=by
   have e:((its.map λ p=>Value.ref p.2.1).zipIdx)[n]?=some (Value.ref p.2.1,n):=by simp[hp]
   rw[Ms (by simpa using hnl)]at hr;cases hr;exact%[by simpa[F4 (show n < ((its.map λ p=>Value.ref p.2.1).zipIdx).length by simpa using hnl)]using e|U]
  obtain⟨rfl,rfl⟩:=hx;obtain⟨xs,sq,ex⟩:=hv n p hp;have A1:=ha p hm;simp only[J3,Ou]at A1;have sq':SqA p.1 h' p.2.2 xs:=sq.at λ o e=>hk _ o A1.1 A1.2.2.1 A1.2.2.2 e;have it':=hi' n p hp;rw[Nv (E2 n)]at it';have mi:p.2.1∈its.map (·.2.1):=Mu hm;have iz:p.2.1≠z:=λ e=>n3 (e ▸ mi);have iT:p.2.1≠TO:=λ e=>n6 (e ▸ mi);have ne:∀ (j:Nat) q,its[j]?=some q->j≠n->q.2.1≠p.2.1:=λ j q hj h e=>h ((List.getElem?_inj (by have:=(A7.mp hj).1;simpa using this) n7).mp (by simp[hj,hp,e]));dsimp only;show A0 (wpAny_onRaise ?_);change wpAny _ _ (Builtin.SmallTypes.nextOf (.ref p.2.1) >>= _) _ _ _;show A0 (sY hh it' sq' (λ y hy h₂ i₂ hs₂=>A3 ?_) λ hy h₂ e hs₂ he=>?_)
  ·have hnv:n < vs.length:=by
    rcases Nh n vs.length with h | h
    ·exact h
    ·rw[ex hn,MX h]at hy;cases hy
   rw[ex hn]at hy;have hTO₂:=hs₂.extBut _ _ (Ne.symm iT) hTO';show A0 (Ol hTO₂ rfl ?_);show A0 (wpAny_updateSeq hTO₂ rfl ?_ ?_ ?_)
   ·show A0 (wpAny_letGo (A3 ?_));have hs₃:=N9 h₂ TO (Obj.mapSeq λ x=>x.setIfInBounds n y);show%[U,n+1,_,U,hnv,U,hs₃.extBut _ _ n2 (hs₂.extBut _ _ (Ne.symm iz) hz'),?_,λ j q hj=>?_,by rw[hs₃.1,hs₂.1,hsz]|λ c o c1 c2 c3 e=>hs₃.extBut _ _ c2 (hs₂.extBut _ _ (λ e'=>c3 (e' ▸ mi)) (hk c o c1 c2 c3 e))]
    ·change Heap.get? _ _=_;rw[OG _ hTO₂ rfl,<- wx hy ⋯];simp[Obj.mapSeq]
    ·have qT:q.2.1≠TO:=λ e=>n6 (e ▸ Mu (B7 hj));rcases NX j n with h | h | h
     ·have:=hi' j q hj;rw[Nw h]at this;rw[Nw ⋯];exact this.at λ o e=>hs₃.extBut _ _ qT (hs₂.extBut _ _ (ne j q hj ⋯) e)
     ·subst h;rw[hp]at hj;cases hj;rw[Nw (F3 _)];exact i₂.at λ o e=>hs₃.extBut _ _ qT e
     ·have:=hi' j q hj;rw[Nv ⋯]at this;rw[Nv ⋯];exact this.at λ o e=>hs₃.extBut _ _ qT (hs₂.extBut _ _ (ne j q hj ⋯) e)
   ·exact C7 (by simp;lia) (show 9<=sizeLine by decide)
   ·exact C7 (by simp;lia) (show 9<=sizeLine+1 by decide)
  ·have hnv:vs.length<=n:=by rw[ex hn]at hy;exact List.getElem?_eq_none_iff.mp hy
   obtain⟨oe,hoe,hce⟩:=he;have hz₂:=hs₂ _ _ (Ne.symm iz) hz';have hez:e≠z:=λ x=>by subst x;rw[hz₂]at hoe;cases hoe;simp at hce
   show N7 hz₂ (by simp) λ h₃ _ hs₃=>A0 (OL (T := "StopIteration") (b:=true) %[oe,hs₃.extBut _ _ hez hoe|hce] isSubtype_stop (A3 (hE ⋯ h₃ λ c o hc q=>?_)));simp only[J3,Ou]at hc;exact hs₃.extBut _ _ hc.1 (hs₂ _ _ (λ e'=>hc.2.2.2 (e' ▸ mi)) (hk c o hc.1 hc.2.2.1 hc.2.2.2 q))
 ·rintro⟨b1,b2⟩ s' ⟨hb,n,h',hr,hn,rfl,hz',hTO',hi',hsz,hk⟩;cases(show b1=none from hb);have hnl:its.length<=n:=by
   rcases Nh n its.length with h | h
   ·have:=OD List.length hr;simp at this;lia
   ·exact h
  have e1:vs.take n ++ os.drop n=vs:=by rw[NL ⋯,K5 ⋯,MR]
  rw[e1]at hTO';show A0 (Ol hTO' rfl ?_);show A0 (wpAny_newTuple ?_ (C7 (by simp;lia) (show 9<=sizeLine by decide)));have hzl:z < h'.objs.size:=B0 hz';change wpAny _ _ (Builtin.SmallTypes.ownedTupleHandOut (.ref z) (.ref h'.objs.size) >>= _) _ _ _;show A0 ?_;unfold Builtin.SmallTypes.ownedTupleHandOut;show A0 (N7 (A8 _ hz') (by simp) λ h₇ hz₇ hs₇=>?_);show N7 hz₇ (by simp) λ h₈ hz₈ hs₈=>?_
  replace hz₈:IsZip h₈ z TI TO (rawInt h'.objs.size):=hz₈
  have up:∀c o,c≠z->h'.get? c=some o->h₈.get? c=some o:=λ c o c1 e=>hs₈.extBut _ _ c1 (hs₇.extBut _ _ c1 (A8 _ e));have hT₈:nP h₈ h'.objs.size vs:=hs₈.extBut _ _ (MU hzl) (hs₇.extBut _ _ (MU hzl) (A9 _ rfl));show A3 %[_,rfl|?_];show A3 ?_;rw[hsz]at hz₈ hT₈ ⊢;show hQ ⋯ h₈ %[hz₈,up _ _ (Ne.symm n1) (hk _ _ (Ne.symm n1) n4 n5 hTI),%[vs,⋯|up _ _ (Ne.symm n2) hTO']|λ p hp=>?_] hT₈ λ c o hc e=>?_
  ·obtain⟨j,hj⟩:=List.getElem?_of_mem hp;have:=hi' j p hj;rw[Nw (by have:=(A7.mp hj).1;lia)]at this;exact this.at λ o e=>up _ o (λ e'=>n3 (e' ▸ Mu hp)) e
  ·simp only[J3,Ou]at hc;exact up c o hc.1 (hk c o hc.1 hc.2.2.1 hc.2.2.2 e)
 ·exact%[U,0,h₁,U,F1 _,U,hz₁,hs₁.extBut _ _ (Ne.symm n2) hTO,λ j p e=>by rw[Nv (F2 _)];exact(hi p (B7 e)).at λ o q=>hs₁.extBut _ _ (λ e'=>n3 (e' ▸ Mu (B7 e))) q,hs₁.1|λ c o c1 _ _ e=>hs₁.extBut _ _ c1 e]
structure ZIts(h h':Heap)(its:No (Bool×Nj×Nj)):Prop where
 nd:(its.map (·.2.1)).Nodup
 it:∀p∈its,h.objs.size<=p.2.1/\p.2.1 < h'.objs.size/\ItA p.1 h' p.2.1 p.2.2 0
 keep:∀c o,h.get? c=some o->h'.get? c=some o
 le:h.objs.size<=h'.objs.size
theorem ZIts.push{h h':Heap}{its:No (Bool×Nj×Nj)}(Z:ZIts h h' its)(o:Obj):ZIts h (h'.push o) its :=
 %[Z.nd,λ p hp=>let ⟨a1,a2,a3⟩:=Z.it p hp;%[a1,by rw[N5];exact Mo a2|a3.at λ o e=>A8 _ e],λ c o e=>A8 _ (Z.keep c o e)|by rw[N5];have:=Z.le;lia]
theorem ZIts.add{h h':Heap}{its:No (Bool×Nj×Nj)}(Z:ZIts h h' its){o:Obj}{b:Bool}{l:Nj}(i:ItA b (h'.push o) h'.objs.size l 0):ZIts h (h'.push o) (its ++ [(b,h'.objs.size,l)]):=by
 have P:=Z.push o;show%[?_,λ p hp=>?_,P.keep|P.le]
 ·rw[J4,NY];show%[P.nd,by simp|λ a ha c hc e=>?_];obtain⟨p,hp,rfl⟩:=J5.mp ha;simp at hc;exact C1 (Z.it p hp).2.1 (e.trans hc)
 ·rcases C4.mp hp with hp | hp
  ·exact P.it p hp
  ·cases E5.mp hp;exact%[Z.le,by rw[N5];exact F3 _|i]
theorem pZ{ls:No (Bool×Nj)}{Q:No G3->F9->Prop}(hs:∀p∈ls,∃xs,SqA p.1 s.heap p.2 xs)
  (hQ:∀(h':Heap)(its:No (Bool×Nj×Nj)),its.map (λ p=>(p.1,p.2.2))=ls->ZIts s.heap h' its->Q (its.map λ p=>.ref p.2.1) { s with heap:=h' }) :
  wpAny (model prog w) A (Builtin.SmallTypes.iterAll (ls.map λ p=>.ref p.2)) Q E s:=by
 unfold Builtin.SmallTypes.iterAll;show A0 (Om _ (λ rest b s'=>∃(its:No (Bool×Nj×Nj))(ls':No (Bool×Nj))(h':Heap),b=(its.map λ p=>Value.ref p.2.1).toArray/\rest=(ls'.map λ p=>Value.ref p.2)/\its.map (λ p=>(p.1,p.2.2)) ++ ls'=ls/\s'={ s with heap:=h' }/\ZIts s.heap h' its) _ ?_ ?_ _ _ %[[],ls,s.heap,rfl,rfl,rfl,rfl,.nil,by simp,λ _ _ e=>e|B4 _])
 ·rintro x rest b s' ⟨its,ls',h',rfl,hr,he,rfl,Z⟩;cases ls' with
  | nil=>cases hr
  | cons p t=>
   obtain⟨b,l⟩:=p;cases hr;obtain⟨xs,sq⟩:=hs (b,l) (by rw[<- he];simp);have sq':SqA b h' l xs:=sq.at λ o e=>Z.keep _ o e;show A0 (N2 ?_);cases b
   ·exact Of sq' (A3 %[its ++ [(false,h'.objs.size,l)],t,_,by simp,rfl,by rw[<- he];simp,rfl|Z.add %[_,A9 _ rfl,rfl|rfl]])
   ·exact Oc sq' (A3 %[its ++ [(true,h'.objs.size,l)],t,_,by simp,rfl,by rw[<- he];simp,rfl|Z.add %[_,A9 _ rfl,rfl|rfl]])
 ·rintro b s' ⟨its,ls',h',rfl,hr,he,rfl,Z⟩;cases ls' with
  | cons p t=>cases hr
  | nil=>exact A3 (by simpa using hQ h' its (by simpa using he) Z)
structure ZipNew(h h':Heap)(ls:No (Bool×Nj))(z TI TO:Nj)(its:No (Bool×Nj×Nj)):Prop where
 src:its.map (λ p=>(p.1,p.2.2))=ls
 nd:(fpZ z TI TO its).Nodup
 old:∀a∈fpZ z TI TO its,h.objs.size<=a
 st:StZ .none z TI TO its 0 h'
 keep:∀c o,h.get? c=some o->h'.get? c=some o
theorem wy(ls:No (Bool×Nj))(hl:ls.length<=9) :
  Meets (Builtin.«zip.__new__» %[.type "zip" :: ls.map λ p=>.ref p.2|[]]) (λ _ R s=>(∀p∈ls,∃xs,SqA p.1 s.heap p.2 xs) /\
   ∀h' z TI TO its,ZipNew s.heap h' ls z TI TO its->R (.ok (.ret (.ref z))) { s with heap:=h' }) :=
 .of_wp λ prog w A R s h=>by
  obtain⟨hs,h⟩:=h;have nine:9<=sizeLine:=∅
  unfold Builtin.«zip.__new__» Builtin.SmallTypes.newClass;simp only[isType,sub_zip,pure_bind];change wpAny _ _ (Builtin.SmallTypes.iterAll (ls.map λ p=>.ref p.2) >>= _) _ _ _;show A0 (pZ hs λ h' its e Z=>?_);have len:its.length<=sizeLine:=by rw[<- e,B5]at hl;lia
  show A0 (wpAny_newTuple ?_ (by simpa using len));show A0 (wpAny_newTuple ?_ (by simpa using len));generalize h1:h'.push _=g;have e1:g.objs.size=h'.objs.size+1:=by rw[<- h1,N5]
  generalize h2:g.push _=g2;have e2:g2.objs.size=h'.objs.size+2:=by rw[<- h2,N5,e1]
  change wpAny _ _ (newObj (.type "zip") (.fields #[.none,.bool false,.bool false,.ref h'.objs.size,.ref g.objs.size]) >>= _) _ _ _;show A0 (F7 ?_);have Z2:ZIts s.heap g2 its:=h2 ▸ (h1 ▸ Z.push _:ZIts s.heap g its).push _;have g1:nP g h'.objs.size (its.map λ p=>.ref p.2.1):=h1 ▸ A9 _ rfl;have gi:nP g2 h'.objs.size (its.map λ p=>.ref p.2.1):=h2 ▸ A8 _ g1;have go:nP g2 g.objs.size ((its.map λ p=>Value.ref p.2.1).map λ _=>.none):=h2 ▸ A9 _ rfl;rw[MO]at go;have Z3:=Z2.push { cls:=.type "zip",data:=.fields #[.none,.bool false,.bool false,.ref h'.objs.size,.ref g.objs.size] };have lt:∀a∈its.map (·.2.1),s.heap.objs.size<=a/\a < h'.objs.size:=λ a ha=>by obtain⟨p,hp,rfl⟩:=J5.mp ha;exact%[(Z.it p hp).1|(Z.it p hp).2.1]
  show A3 %[_,rfl|h _ g2.objs.size h'.objs.size g.objs.size its %[e,?_,λ a ha=>?_,%[A9 _ rfl,A8 _ gi,%[_,by simp|A8 _ go]|λ p hp=>(Z3.it p hp).2.2]|Z3.keep]]
  ·simp only[Mq,J3,Ou];exact%[%[MU ⋯,MU ⋯|λ x=>by have:=(lt _ x).2;lia],%[C1 ⋯|λ x=>by have:=(lt _ x).2;lia],λ x=>by have:=(lt _ x).2;lia|Z.nd]
  ·have le:=Z.le;simp only[J3]at ha;rcases ha with rfl | rfl | rfl | ha
   ·lia
   ·lia
   ·lia
   ·exact(lt _ ha).1
theorem tf{ls:No (Bool×Nj)}{Q:G3->F9->Prop}(hl:ls.length<=9)(hct:checkTypeCall "zip" %[ls.map λ p=>.ref p.2|[]]=pure ())(hcn:checkBuiltinCall "zip.__new__" %[.type "zip" :: ls.map λ p=>.ref p.2|[]]=pure ())
  (hok:∀obj,argsOk "object.__init__" %[obj :: ls.map λ p=>.ref p.2|[]]) (hs:∀p∈ls,∃xs,SqA p.1 s.heap p.2 xs) (h:∀h' z TI TO its,ZipNew s.heap h' ls z TI TO its->Q (.ref z) { s with heap:=h' }) :
  wpAny (model prog w) A (call (.type "zip") (ls.map λ p=>.ref p.2)) Q E s :=
 callType_new F.called_zip ∅ hct hcn hok F.entry_zip_new (wy ls hl) %[hs|λ h' z TI TO its Z=>show _/\_ from%[%[_,Z.st.1|rfl]|h h' z TI TO its Z]]
end
end PySem
namespace L2
open PySem PySem.Spec PyProof.Rows
def sqO:Bool->No V->HO
 | true,xs=>.tup xs
 | false,xs=>.lst xs
theorem Inv.sq{X:Cx}{Nq:P6}{σ:St}{H:Hp}{s:F9}(I:Inv X Nq σ H s){b:Bool}{l:Nj}{xs:No V}(e:H l=some (sqO b xs)):∃its:No G3,Vals xs its/\SqA b s.heap l its.toArray:=by
 cases b
 ·obtain⟨its,r,p,_⟩:=I.list (G6 e);exact%[its,r|p.isList]
 ·obtain⟨its,r,p,_⟩:=I.tuple (G5 e);exact%[its,r|p]
def RowN(H:Hp)(i:Nat):No (Bool×Nj)->No V->Prop
 | [],vs=>vs=[]
 | p :: ls,[]=>(∃xs,H p.2=some (sqO p.1 xs)/\xs.length<=i)/\∀q∈ls,∃xs,H q.2=some (sqO q.1 xs)
 | p :: ls,v :: vs=>(∃xs,H p.2=some (sqO p.1 xs)/\xs[i]?=some v)/\RowN H i ls vs
def yO(ls:No (Bool×Nj)):It :=
 %[λ i H=>∃vs,RowN H i ls vs/\vs.length=ls.length,λ i H v H'=>∃p vs,H p=none/\v=.ref p/\H'=upd H p (.tup vs)/\RowN H i ls vs/\vs.length=ls.length|λ i H=>∃vs,RowN H i ls vs/\vs.length < ls.length]
section
variable{X:Cx}{Nq:P6}{σ:St}{H:Hp}{s:F9}
theorem RowN.src{i:Nat}:∀{ls:No (Bool×Nj)}{vs:No V},RowN H i ls vs->∀p∈ls,∃xs,H p.2=some (sqO p.1 xs)
 | [],_,_,p,hp=>by cases hp
 | q :: ls,[],h,p,hp=>by
  rcases J3.mp hp with rfl | hp
  ·obtain⟨xs,e,_⟩:=h.1;exact%[xs|e]
  ·exact h.2 p hp
 | q :: ls,v :: vs,h,p,hp=>by
  rcases J3.mp hp with rfl | hp
  ·obtain⟨xs,e,_⟩:=h.1;exact%[xs|e]
  ·exact RowN.src h.2 p hp
theorem RowN.vals(I:Inv X Nq σ H s){i:Nat}:∀{ls:No (Bool×Nj)}{vs:No V},RowN H i ls vs->∃us,Vals vs us/\∀ (j:Nat) p,ls[j]?=some p->∃xs,SqA p.1 s.heap p.2 xs/\(j<=us.length->xs[i]?=us[j]?)
 | [],vs,h=>by cases h;exact%[[],.nil|λ j p e=>by simp at e]
 | q :: ls,[],h=>by
  show%[[],.nil|λ j p e=>?_];cases j with
  | zero=>
   cases e;obtain⟨xs,e,l⟩:=h.1;obtain⟨its,rv,p⟩:=I.sq e;exact%[_,p|λ _=>by simpa using by rw[<- rv.length];exact l]
  | succ j=>
   obtain⟨xs,e⟩:=h.2 p (B7 (by simpa using e));obtain⟨its,rv,p⟩:=I.sq e;exact%[_,p|λ h=>absurd h (by simp)]
 | q :: ls,v :: vs,h=>by
  obtain⟨xs,e,ev⟩:=h.1;obtain⟨us,r1,r3⟩:=RowN.vals I h.2;obtain⟨its,rv,p⟩:=I.sq e;obtain⟨u,hu,ru⟩:=rv.get ev;show%[u :: us,.cons ru r1|λ j p' e'=>?_];cases j with
  | zero=>cases e';exact%[_,p|λ _=>by simpa using hu]
  | succ j=>
   obtain⟨ys,y1,y2⟩:=r3 j p' (by simpa using e');exact%[ys,y1|λ h=>by simpa using y2 (by simpa using h)]
end
theorem tj{P:G0}{w:G2}{K:C6}{es:No Expr}{kk:Nat}{tp:Pos}{ls:No (Bool×Nj)}{z TI TO:Nj}{its:No (Bool×Nj×Nj)}(src:its.map (λ p=>(p.1,p.2.2))=ls)(nd:(fpZ z TI TO its).Nodup)(n0:its≠[])(hl:its.length<=9) :
  Turn P w K (.Tuple es kk tp) (yO ls) (fpZ z TI TO its) z (StZ .none z TI TO its) where
 mem:=by simp
 obj:=λ i h st b hb=>by
  obtain⟨a1,a2,⟨os,_,a3⟩,a4⟩:=st;simp only[J3]at hb;rcases hb with rfl | rfl | rfl | hb
  ·exact%[_,a1|λ v q=>by cases q]
  ·exact%[_,a2|λ v q=>by cases q]
  ·exact%[_,a3|λ v q=>by cases q]
  ·obtain⟨p,hp,rfl⟩:=J5.mp hb;exact(a4 p hp).obj
 keep:=λ i h h' st k=>by obtain⟨a1,a2,⟨os,l,a3⟩,a4⟩:=st;exact%[k z (by simp) _ a1,k TI (by simp) _ a2,%[os,l|k TO (by simp) _ a3]|λ p hp=>(a4 p hp).at λ o e=>k _ (by simp only[J3];exact .inr (.inr (.inr (Mu hp)))) o e]
 item:=by
  intro X hP hw hK hc i Nq s σ H E I hf st ⟨vs,row,hvl⟩;subst hP hw hK src;obtain⟨a1,a2,⟨os,ol,a3⟩,a4⟩:=id st;obtain⟨us,rv,hu⟩:=row.vals I;have ul:=rv.length;rw[B5]at hvl;show iY (I.ok.hd hc) nd n0 hl st (λ p hp hb=>?_) (vs:=us) ⋯ (λ j p e=>hu j (p.1,p.2.2) (by simp[e])) (λ _ h' ⟨b1,b2,⟨ot,ol',b3⟩,b4⟩ b5 bk=>%[_,U|?_]) λ h=>⋯
  ·obtain⟨xs,e⟩:=row.src (p.1,p.2.2) (Mu (f:=λ p=>(p.1,p.2.2)) hp);rw[(hf _ hb).1]at e;cases e
  ·show wpAny_letOwnedTupleGo_zip b1 λ h'' c1 cs=>?_;have zs:z < s.heap.objs.size:=B0 a1;have ne:∀b∈TI :: TO :: its.map (·.2.1),b≠z:=λ b hb e=>(Mq.mp nd).1 (e ▸ hb);have I1:Inv X Nq σ H { s with heap:=h'' }:=I.turnedN (t':=s.toks) hf λ b o hb e=>cs.extBut b o (λ e'=>hb (by simp[e'])) (bk b o hb e);have hn:H s.heap.objs.size=none:=I.hok.fresh (B4 _);have I2:Inv X Nq σ (upd H s.heap.objs.size (.tup vs)) { s with heap:=h'' }:=I1.track (I.fpOk (H':=H) (B4 _) hn) I.sz %[C7 ⋯ (show 9<=sizeLine by decide),us,rv,_,cs.extBut _ _ (MU zs) b5,U,_|U];have tn:StZ .none z TI TO its (i+1) h'':=%[c1,cs.extBut _ _ (ne TI (by simp)) b2,%[ot,ol'|cs.extBut _ _ (ne TO (by simp)) b3]|λ p hp=>(b4 p hp).at λ o e=>cs.extBut _ _ (ne _ (by simp only[J3];exact .inr (.inr (Mu hp)))) e]
   show%[.ref s.heap.objs.size,_,I2,U,%[_,vs,hn,U,U,row|by simpa using hvl],tn|λ b hb=>?_];have hbl:b < s.heap.objs.size:=by
    simp only[J3]at hb;rcases hb with rfl | rfl | rfl | hb
    ·exact zs
    ·exact B0 a2
    ·exact B0 a3
    ·obtain⟨p,hp,rfl⟩:=J5.mp hb;obtain⟨o,ho,_⟩:=(a4 p hp).obj;exact B0 ho
   rw[ak (C1 hbl)];exact(hf b hb).1
 done:=by
  intro X hP hw hK hc i Nq s σ H E I hf st ⟨vs,row,hvl⟩;subst hP hw hK src;obtain⟨us,rv,hu⟩:=row.vals I;have ul:=rv.length;rw[B5]at hvl;show iY (I.ok.hd hc) nd n0 hl st (λ p hp hb=>?_) (vs:=us) ⋯ (λ j p e=>hu j (p.1,p.2.2) (by simp[e])) (λ h=>⋯) λ _ h' bk=>%[U|I.turnedN (t':=s.toks) hf bk]
  obtain⟨xs,e⟩:=row.src (p.1,p.2.2) (Mu (f:=λ p=>(p.1,p.2.2)) hp);rw[(hf _ hb).1]at e;cases e
 self:=λ _ _ _ _ _ st h=>wpAny_pyIter_zip st.1 h
theorem Turn.conv{P:G0}{w:G2}{K:C6}{tg:Expr}{J J':It}{fp:No Nj}{it:Nj}{tn:Nat->Heap->Prop}(T:Turn P w K tg J fp it tn)(h1:∀i H,J'.go i H->J.go i H)(h2:∀i H v H',J.yld i H v H'->J'.yld i H v H')(h3:∀i H,J'.stop i H->J.stop i H):Turn P w K tg J' fp it tn :=
 ⟨T.mem,T.obj,T.keep,λ X a b c d i Nq s σ H E I hf t g=>OA (T.item X a b c d i Nq s σ H E I hf t (h1 _ _ g)) (λ r s1 ⟨u,e,z⟩=>%[u,e|OA z (λ _ s2 h9=>by obtain⟨x,H',q1,q2,q3,q4⟩:=h9;exact%[x,H',q1,q2,h2 _ _ _ _ q3|q4]) λ _ _ z=>z]) λ _ _ z=>z,λ X a b c d i Nq s σ H E I hf t g=>T.done X a b c d i Nq s σ H E I hf t (h3 _ _ g),T.self⟩
theorem rf:∀{ls:No (Bool×Nj)}{us:No G3},Vals (ls.map λ p=>V.ref p.2) us->us=ls.map λ p=>Value.ref p.2
 | [],_,.nil=>rfl
 | _ :: _,_,.cons r rr=>by cases r;exact OD _ (rf rr)
theorem rg{X:Cx}{a:Expr}{as:No Expr}{ta:TA}{p pos tp:Pos}{es:No Expr}{kk:Nat}{C:No V->Hp->(It->Hp->Prop)->Prop}(hg:Gl X "zip")(hm:X.mg "zip" = none)(ha:PA X (a :: as) ta)
  (hs:starEach (a :: as) X.env=(false,eval a X.env) :: starEach as X.env) (hp:(backTo pos (starEach as X.env)).any (·.1)=false) (n:Nat) (hn:n < 9) (hct:∀vs:No G3,vs.length=n+1->checkTypeCall "zip" %[vs|[]]=pure ()/\checkBuiltinCall "zip.__new__" %[.type "zip" :: vs|[]]=pure ()/\∀obj,argsOk "object.__init__" %[obj :: vs|[]])
  (hw:∀vs H1 R,C vs H1 R->∃(ls:No (Bool×Nj))(J:It),ls.length=n+1/\vs=ls.map (λ p=>.ref p.2)/\(∀p∈ls,∃xs,H1 p.2=some (sqO p.1 xs))/\R J H1/\(∀i H,J.go i H->(yO ls).go i H)/\(∀i H v H',(yO ls).yld i H v H'->J.yld i H v H')/\∀i H,J.stop i H->(yO ls).stop i H) :
  PI X (.Tuple es kk tp) (.Call (.Name "zip" p) (a :: as) [] pos) (λ σ H R=>ta σ H λ vs H1=>C vs H1 R):=by
 intro Nq s σ H R I h;show Call_ (eF I hg hm PyProof.Rows.boot_zip (N8 (thn (ha pos Nq s σ H _ I h) ?_) hs hp));rintro us s1 ⟨vs,H1,I1,r1,q1⟩;obtain⟨ls,J,ln,rfl,sq,q,c1,c2,c3⟩:=hw _ _ _ q1;have e:=rf r1;subst e;obtain⟨d1,d2,d3⟩:=hct (ls.map λ p=>Value.ref p.2) (by simpa using ln);show tf ⋯ d1 d2 d3 (λ p hp=>?_) λ h' z TI TO its Z=>?_
 ·obtain⟨xs,e⟩:=sq p hp;obtain⟨_,_,q⟩:=I1.sq e;exact%[_|q]
 ·have il:its.length=n+1:=by rw[<- ln,<- Z.src,B5]
  exact wpAny_pyIter_zip Z.st.1 ⟨z,_,_,J,H1,U,I1.kept (t':=s1.toks) Z.keep,(tj Z.src Z.nd (λ e=>by rw[e]at il;cases il) ⋯).conv c1 c2 c3,Z.st,λ b hb=>I1.fpOk (Z.old b hb) (I1.hok.fresh (Z.old b hb)),q⟩
theorem gr(a b c d:G3):argsOk "object.__init__" %[[a,b,c,d]|[]]:=by unfold argsOk;rw[signature?_of (id := "object.__init__") (n:=['_','_','t','i','n','i','_','_']) (o:=['t','c','e','j','b','o']) (by kernel_rfl) F.owner_object];kernel_rfl
end L2
namespace PyProof.Rows
set_option autoImplicit false
open PySem
structure SBaseT(κ0:SortKind)(a₀:Nn Nk)(st:SortSt):Prop where
 perm:(arrOf st).Perm a₀
 kind:kindOf st=κ0
 failed:failedOf st=none
 pend:pendingOf st=#[]
theorem SBaseT.size{κ0:SortKind}{a₀:Nn Nk}{st:SortSt}(h:SBaseT κ0 a₀ st):(arrOf st).size=a₀.size:=h.perm.size_eq
theorem SBaseT.setArr{κ0:SortKind}{a₀:Nn Nk}{st:SortSt}(h:SBaseT κ0 a₀ st){xs:Nn Nk}(hp:xs.Perm (arrOf st)):SBaseT κ0 a₀ (setArr st xs) :=
 %[hp.trans h.perm,h.kind,h.failed|h.pend]
theorem SBaseT.atK{κ:KeyKind}{κ0:SortKind}{a₀:Nn Nk}{st:SortSt}(h:SBaseT κ0 a₀ st)(h0:KeysOf κ a₀){i:Nat}(hi:i < a₀.size) :
  ∃x p a,(arrOf st)[i]?=some (x,p)/\κ.keyOf x=some a/\KK κ (arrOf st) i=a:=by
 have hi':i < (arrOf st).size:=by rw[h.size];exact hi
 have hm:(arrOf st)[i]∈a₀.toList:=(MP.mp h.perm).mem_iff.mp (by simp);obtain⟨a,ha⟩:=h0 _ hm;have e:(arrOf st)[i]?=some (arrOf st)[i]:=getElem?_pos _ i hi';show%[(arrOf st)[i].1,(arrOf st)[i].2,a,by rw[e],ha|?_];unfold KK;rw[e];simp[ha]
def bf(prog:G0)(w:G2)(A:Around)(s:F9)(κ0:SortKind)(κ:KeyKind):Prop :=
 ∀(E:G3->F9->Prop)(x y:G3)(a b:κ.α)(Q:Bool->F9->Prop),κ.keyOf x=some a->κ.keyOf y=some b->Q (κ.blt a b) s->wpAny (model prog w) A (keyLt' κ0 x y) Q E s
section
variable{prog:G0}{w:G2}{A:Around}{E:G3->F9->Prop}{s:F9}{a₀:Nn Nk}{κ:KeyKind}{κ0:SortKind}
theorem qb(hO:bf prog w A s κ0 κ){st:SortSt}{i j:Nat}{x y:G3}{a b:κ.α}{p q:G3}{Q:Nm Bool->SortSt->Prop}(hk:kindOf st=κ0)
  (hi:(arrOf st)[i]?=some (x,p)) (hj:(arrOf st)[j]?=some (y,q)) (ha:κ.keyOf x=some a) (hb:κ.keyOf y=some b) (h:Q (some (κ.blt a b)) st) :
  wpS (model prog w) A E s (ltAt' i j) Q st:=by
 rw[ltAt'_eq];show A4 (Og ?_);change wpS _ _ _ _ (do let x<-elem' (arrOf st) i;let y<-elem' (arrOf st) j;lt' x y) Q st;rw[elem'_eq,elem'_eq,hi,hj];show A4 (A5 (A4 (A5 ?_)));rw[lt'_eq];show A4 (Og ?_);rw[hk];show A4 (wpS_lift (OS (hO _ x y a b _ ha hb %[rfl|?_])));exact A5 h
theorem dY{st:SortSt}{i j:Nat}{Q:Nm Bool->SortSt->Prop}(hO:bf prog w A s κ0 κ)(hB:SBaseT κ0 a₀ st)(h0:KeysOf κ a₀)(hi:i < a₀.size)(hj:j < a₀.size)
  (h:Q (some (κ.blt (KK κ (arrOf st) i) (KK κ (arrOf st) j))) st):wpS (model prog w) A E s (ltAt' i j) Q st:=by
 obtain⟨x,p,a,e1,ha,ka⟩:=hB.atK h0 hi;obtain⟨y,q,b,e2,hb,kb⟩:=hB.atK h0 hj;rw[ka,kb]at h;exact qb hO hB.kind e1 e2 ha hb h
theorem iJ{st:SortSt}{n ok:Nat}{Q:Bool->SortSt->Prop}(hO:bf prog w A s κ0 κ)(h0:KeysOf κ a₀)(hn:n<=a₀.size)(hok:ok<=n)(hB:SBaseT κ0 a₀ st)(hs:SortedToK κ (arrOf st) ok)
  (h:∀st',SBaseT κ0 a₀ st'->SortedToK κ (arrOf st') n->Q true st'):wpS (model prog w) A E s (binarySort' 0 n ok) Q st:=by
 rw[binarySort'_eq];simp only[Nat.zero_add];show A4 (OC (N1 (I:=λ k c st'=>c=(none,())/\SBaseT κ0 a₀ st'/\SortedToK κ (arrOf st') (min k n))
  (Q:=λ c st'=>c=(none,())/\SBaseT κ0 a₀ st'/\SortedToK κ (arrOf st') n) ?step ?fin ?init) ?post)
 case post=>
  rintro c st' ⟨rfl,hB',hs'⟩;exact A5 (h st' hB' hs')
 case init=>
  show%[U,hB|λ i j hij hj=>?_]
  by_cases h1:ok=0
  ·have:i=j:=⋯
   subst this;exact OH _
  ·exact hs i j hij ⋯
 case fin=>
  rintro c st' ⟨hc,hB',hs'⟩;show%[hc,hB'|?_];rwa [show min (max (max ok 1) n) n=n by lia]at hs'
 case step=>
  rintro k c st' hak hkn ⟨rfl,hB',hs'⟩;rw[show min k n=k by lia]at hs';have hk:k < a₀.size:=⋯
  show A4 (OC (N1 (I:=λ x c st''=>st''=st'/\∃l r,c=(none,l,r)/\l<=r/\r<=k/\r - l<=k - x /\
    (∀i,i < l->κ.kle (KK κ (arrOf st') i) (KK κ (arrOf st') k))/\(∀i,r<=i->i < k->κ.klt (KK κ (arrOf st') k) (KK κ (arrOf st') i)))
   (Q:=λ c st''=>st''=st'/\∃l r,c=(none,l,r)/\l<=k /\
    (∀i,i < l->κ.kle (KK κ (arrOf st') i) (KK κ (arrOf st') k))/\(∀i,l<=i->i < k->κ.klt (KK κ (arrOf st') k) (KK κ (arrOf st') i))) ?istep ?ifin ?iinit) ?ipost)
  case iinit=>exact%[U,0,k,U,⋯,⋯,⋯,λ i hi=>⋯|λ i h1 h2=>⋯]
  case ifin=>
   rintro c st'' ⟨rfl,l,r,rfl,hlr,hrk,hm,hlo,hhi⟩;have:l=r:=⋯
   subst this;exact%[U,l,l,U,hrk,hlo|hhi]
  case istep=>
   rintro x c st'' _ hxk ⟨rfl,l,r,rfl,hlr,hrk,hm,hlo,hhi⟩;dsimp only
   by_cases hge:l≥r
   ·rw[Nw hge];have:l=r:=⋯
    subst this;exact A5 %[rfl,l,l,rfl,hrk,hlo|hhi]
   ·rw[Nv hge];show A4 (dY hO hB' h0 hk ⋯ ?_);cases hless:κ.blt (KK κ (arrOf st'') k) (KK κ (arrOf st'') ((l+r) / 2))
    case true=>
     simp only[Oo];show A5 %[rfl,l,(l+r) / 2,rfl,⋯,⋯,⋯,hlo|λ i h1 h2=>?_];exact KeyOrd.klt_of_klt_of_kle hless (hs' _ _ h1 h2)
    case false=>
     simp only[MN,OJ];show A5 %[rfl,(l+r) / 2+1,r,rfl,⋯,⋯,⋯,λ i h1=>?_|hhi];exact KeyOrd.kle_trans (hs' i ((l+r) / 2) ⋯ ⋯) (show κ.kle _ _ from hless)
  case ipost=>
   rintro c st'' ⟨rfl,l,r,rfl,hlk,hlo,hhi⟩;change wpS _ _ _ _ (do moveDown' k l;pure (ForInStep.yield (none,()))) _ _;rw[moveDown'_eq];show A4 (ON (A5 %[rfl,hB'.setArr (bubble_perm _ _ _)|?_]));rw[show min (k+1) n=k+1 by lia];have hks:k < (arrOf st'').size:=by rw[hB'.size];exact hk
   intro i j hij hj;change κ.kle (KK κ (bubble (arrOf st'') k (k - l)) i) (KK κ (bubble (arrOf st'') k (k - l)) j);rw[KK_bubble hks ⋯,KK_bubble hks ⋯,show k - (k - l)=l by lia]
   repeat' split
   all_goals first
    | (exfalso;lia)
    | exact OH _
    | exact hlo _ ⋯
    | exact KeyOrd.kle_of_klt (hhi _ ⋯ ⋯)
    | exact hs' _ _ ⋯ ⋯
theorem fY{st:SortSt}{a nrem:Nat}{Q:AscSt->SortSt->Prop}(hO:bf prog w A s κ0 κ)(h0:KeysOf κ a₀)(hn:nrem<=a₀.size)(ha:1<=a)(han:a<=nrem)(hB:SBaseT κ0 a₀ st)
  (hs:SortedToK κ (arrOf st) a)
  (h:∀n,a<=n->n<=nrem->SortedToK κ (arrOf st) n->(n=nrem\/κ.klt (KK κ (arrOf st) n) (KK κ (arrOf st) (n - 1)))->Q (none,n) st) :
  wpS (model prog w) A E s (ascLoop a nrem) Q st:=by
 unfold ascLoop;show N1 (I:=λ x c st'=>st'=st/\c=(none,x)/\SortedToK κ (arrOf st) x) ?step ?fin %[rfl,rfl|hs]
 case fin=>
  rintro c st' ⟨rfl,rfl,hs'⟩;rw[show max a nrem=nrem by lia]at hs' ⊢;exact h nrem han (B4 _) hs' (.inl rfl)
 case step=>
  rintro x c st' hax hxn ⟨rfl,rfl,hs'⟩;dsimp only;show A4 (dY hO hB h0 ⋯ ⋯ ?_);cases hless:κ.blt (KK κ (arrOf st') x) (KK κ (arrOf st') (x - 1))
  case true=>
   simp only[Oo];exact A5 (h x hax ⋯ hs' (.inr hless))
  case false=>
   simp only[MN,OJ];show A5 %[rfl,rfl|λ i j hij hj=>?_]
   by_cases hjx:j < x
   ·exact hs' i j hij hjx
   ·have hj':j=x:=⋯
    subst hj'
    by_cases hi':i=j
    ·subst hi';exact OH _
    ·exact KeyOrd.kle_trans (hs' i (j - 1) ⋯ ⋯) hless
theorem iZ{st:SortSt}{n nrem:Nat}{Q:Nm Nat->SortSt->Prop}(hO:bf prog w A s κ0 κ)(h0:KeysOf κ a₀)(hn:nrem<=a₀.size)(h1:1<=n)(hnn:n<=nrem)(hB:SBaseT κ0 a₀ st)
  (hs:NonIncK κ (arrOf st) n) (h:∀m st',SBaseT κ0 a₀ st'->1<=m->m<=nrem->SortedToK κ (arrOf st') m->Q (some m) st') :
  wpS (model prog w) A E s (tail3 n nrem) Q st:=by
 unfold tail3;have hsz:n<=(arrOf st).size:=by rw[hB.size];lia
 show A4 (wpS_reverse ?_);have hB':SBaseT κ0 a₀ (setArr st (mirror (arrOf st) 0 n ((n - 0) / 2))):=hB.setArr (mirror_perm _ _ _ _);show A4 (fY hO h0 hn h1 hnn hB' ?_ λ m hm1 hm2 hsm _=>A5 (h m _ hB' ⋯ hm2 hsm));intro i j hij hj;change κ.kle (KK κ (mirror (arrOf st) 0 n ((n - 0) / 2)) i) (KK κ (mirror (arrOf st) 0 n ((n - 0) / 2)) j);rw[KK_mirror hsz,KK_mirror hsz,Nw ⋯,Nw ⋯];exact hs _ _ ⋯ ⋯
theorem jT{st:SortSt}{n nrem:Nat}{Q:DescSt->SortSt->Prop}(hO:bf prog w A s κ0 κ)(h0:KeysOf κ a₀)(hn:nrem<=a₀.size)(h1:1<=n)(hnn:n<=nrem)(hB:SBaseT κ0 a₀ st)
  (hs:NonIncK κ (arrOf st) n)
  (h:∀m neq st',SBaseT κ0 a₀ st'->n<=m->m<=nrem->NonIncK κ (arrOf st') m->neq+1<=m->(∀i,m - (neq+1)<=i->i < m->KK κ (arrOf st') i=KK κ (arrOf st') (m - 1))->Q (none,m,neq) st') :
  wpS (model prog w) A E s (descLoop n nrem) Q st:=by
 unfold descLoop;show N1 (I:=λ x c st'=>∃neq,c=(none,x,neq)/\SBaseT κ0 a₀ st'/\NonIncK κ (arrOf st') x/\neq+1<=x /\
   (∀i,x - (neq+1)<=i->i < x->KK κ (arrOf st') i=KK κ (arrOf st') (x - 1))) ?step ?fin %[0,rfl,hB,hs,⋯|λ i h1 h2=>by congr 1;lia]
 case fin=>
  rintro c st' ⟨neq,rfl,hB',hs',hq,he⟩;rw[show max n nrem=nrem by lia]at hs' hq he ⊢;exact h nrem neq st' hB' hnn (B4 _) hs' hq he
 case step=>
  rintro x c st' hax hxn ⟨neq,rfl,hB',hs',hq,he⟩;dsimp only;have hsz:x<=(arrOf st').size:=by rw[hB'.size];lia
  show A4 (dY hO hB' h0 ⋯ ⋯ ?_);cases hless:κ.blt (KK κ (arrOf st') x) (KK κ (arrOf st') (x - 1))
  case true=>
   simp only[Oo];have step1:∀xs:Nn Nk,(∀k,KK κ xs k=KK κ (arrOf st') k)->NonIncK κ xs (x+1):=by
    intro xs hk i j hij hj;rw[hk,hk]
    by_cases hjx:j < x
    ·exact hs' i j hij hjx
    ·have hj':j=x:=⋯
     subst hj'
     by_cases hi':i=j
     ·subst hi';exact OH _
     ·exact KeyOrd.kle_trans (KeyOrd.kle_of_klt hless) (hs' i (j - 1) ⋯ ⋯)
   by_cases hneq:neq > 0
   ·rw[Nw hneq];show A4 (wpS_reverse (A5 %[0,rfl,hB'.setArr (mirror_perm _ _ _ _),step1 _ (KK_mirror_equal hsz he),⋯|λ i h1 h2=>by congr 1;lia]))
   ·rw[Nv hneq];exact A5 %[0,rfl,hB',step1 _ (λ _=>rfl),⋯|λ i h1 h2=>by congr 1;lia]
  case false=>
   simp only[MN,OJ];show A4 (dY hO hB' h0 ⋯ ⋯ ?_);cases hlarger:κ.blt (KK κ (arrOf st') (x - 1)) (KK κ (arrOf st') x)
   case true=>
    simp only[Oo];exact A5 (h x neq st' hB' hax ⋯ hs' hq he)
   case false=>
    simp only[MN,OJ];have heqx:KK κ (arrOf st') x=KK κ (arrOf st') (x - 1):=KeyOrd.kle_antisymm hlarger hless;show A5 %[neq+1,rfl,hB',λ i j hij hj=>?_,⋯|λ i h1 h2=>?_]
    ·by_cases hjx:j < x
     ·exact hs' i j hij hjx
     ·have hj':j=x:=⋯
      subst hj'
      by_cases hi':i=j
      ·subst hi';exact OH _
      ·rw[heqx];exact hs' i (j - 1) ⋯ ⋯
    ·rw[show x+1 - 1=x by lia]
     by_cases hix:i=x
     ·subst hix;rfl
     ·rw[heqx];exact he i ⋯ ⋯
theorem fe{st:SortSt}{n nrem:Nat}{Q:Nm Nat->SortSt->Prop}(hO:bf prog w A s κ0 κ)(h0:KeysOf κ a₀)(hn:nrem<=a₀.size)(hnn:n+1<=nrem)(hB:SBaseT κ0 a₀ st)
  (hs:NonIncK κ (arrOf st) (n+1)) (h:∀m st',SBaseT κ0 a₀ st'->1<=m->m<=nrem->SortedToK κ (arrOf st') m->Q (some m) st') :
  wpS (model prog w) A E s (descPart n nrem) Q st:=by
 unfold descPart;show A4 (wpS_lift (OI %[rfl|?_]));show A4 (jT hO h0 hn ⋯ hnn hB hs λ m neq st' hB' hm1 hm2 hs' hq he=>?_);dsimp only;have hsz:m<=(arrOf st').size:=by rw[hB'.size];lia
 by_cases hneq:neq > 0
 ·rw[Nw hneq];show A4 (wpS_reverse (iZ hO h0 hn ⋯ hm2 (hB'.setArr (mirror_perm _ _ _ _)) ?_ h));intro i j hij hj;change κ.kle (KK κ (mirror (arrOf st') _ _ _) j) (KK κ (mirror (arrOf st') _ _ _) i);rw[KK_mirror_equal hsz he,KK_mirror_equal hsz he];exact hs' i j hij hj
 ·rw[Nv hneq];exact iZ hO h0 hn ⋯ hm2 hB' hs' h
theorem jU{st:SortSt}{nrem:Nat}{Q:Nm Nat->SortSt->Prop}(hO:bf prog w A s κ0 κ)(h0:KeysOf κ a₀)(hn:nrem<=a₀.size)(h1:1<=nrem)(hB:SBaseT κ0 a₀ st)
  (h:∀m st',SBaseT κ0 a₀ st'->1<=m->m<=nrem->SortedToK κ (arrOf st') m->Q (some m) st') :
  wpS (model prog w) A E s (countRun' 0 nrem) Q st:=by
 rw[countRun0_eq];show A4 (fY hO h0 hn (B4 1) h1 hB (λ i j hij hj=>by have:i=j:=⋯;subst this;exact OH _) λ n hn1 hn2 hsn hor=>?_);dsimp only
 by_cases hnn:n=nrem
 ·rw[Nw (by simpa using hnn)];exact A5 (h n st hB hn1 hn2 hsn)
 ·rw[Nv (by simpa using hnn)];have hlt:κ.klt (KK κ (arrOf st) n) (KK κ (arrOf st) (n - 1)):=hor.resolve_left hnn
  by_cases hgt:n > 1
  ·rw[Nw hgt];show A4 (dY hO hB h0 ⋯ ⋯ ?_);cases hrose:κ.blt (KK κ (arrOf st) 0) (KK κ (arrOf st) (n - 1))
   case true=>
    simp only[Oo];exact A5 (h n st hB hn1 hn2 hsn)
   case false=>
    simp only[MN,OJ];have hsz:n<=(arrOf st).size:=by rw[hB.size];lia
    have hall:∀k,0<=k->k < n->KK κ (arrOf st) k=KK κ (arrOf st) (n - 1):=by intro k _ hk;have a1:=hsn 0 k ⋯ hk;have a2:=hsn k (n - 1) ⋯ ⋯;exact KeyOrd.kle_antisymm a2 (KeyOrd.kle_trans hrose a1)
    show A4 (wpS_reverse (fe hO h0 hn ⋯ (hB.setArr (mirror_perm _ _ _ _)) ?_ h));intro i j hij hj;change κ.kle (KK κ (mirror (arrOf st) _ _ _) j) (KK κ (mirror (arrOf st) _ _ _) i);rw[KK_mirror_equal hsz hall,KK_mirror_equal hsz hall]
    by_cases hjn:j < n
    ·rw[hall i ⋯ ⋯,hall j ⋯ hjn];exact OH _
    ·have hj':j=n:=⋯
     subst hj'
     by_cases hi':i=j
     ·subst hi';exact OH _
     ·rw[hall i ⋯ ⋯];exact KeyOrd.kle_of_klt hlt
  ·rw[Nv hgt];have hn1':n=1:=⋯
   subst hn1';show fe hO h0 hn ⋯ hB ?_ h;intro i j hij hj
   by_cases hi':i=j
   ·subst hi';exact OH _
   ·have hi0:i=0:=⋯
    have hj1:j=1:=⋯
    subst hi0;subst hj1;exact KeyOrd.kle_of_klt hlt
theorem SBaseT.doneK{st:SortSt}(hB:SBaseT κ0 a₀ st)(hs:SortedToK κ (arrOf st) a₀.size):SDoneK κ a₀ (setPending st ((pendingOf st).push (0,a₀.size,0))) :=
 %[hB.perm,hB.failed,by change(pendingOf st).push _=_;rw[hB.pend];rfl|hs]
theorem jV{st:SortSt}{Q:Unit->SortSt->Prop}(hO:bf prog w A s κ0 κ)(h0:KeysOf κ a₀)(hB:SBaseT κ0 a₀ st)(h2:2<=a₀.size)(h64:a₀.size < 64)
  (h:∀st',(arrOf st').Perm a₀->failedOf st'=none->SortedToK κ (arrOf st') a₀.size->Q () st'):wpS (model prog w) A E s sortRuns' Q st:=by
 rw[sortRuns'_eq];show A4 (Og ?_);dsimp only;have hmr:minRun' a₀.size a₀.size 0=a₀.size:=by
  obtain⟨f,hf⟩:∃f,a₀.size=f+1:=%[a₀.size - 1|⋯]
  have:minRun' (f+1) a₀.size 0=a₀.size:=by rw[minRun'_succ,Nw h64];rfl
  rwa [<- hf]at this
 simp only[hB.size,hmr];show A4 (OC (N1
  (I:=λ x c st'=>(x=0/\c=(none,0)/\SBaseT κ0 a₀ st')\/(1<=x/\c=(none,a₀.size)/\SDoneK κ a₀ st'))
  (Q:=λ c st'=>c=(none,a₀.size)/\SDoneK κ a₀ st') ?step ?fin (.inl %[U,U|hB])) ?post)
 case fin=>
  rintro c st' (⟨hx,_,_⟩ | ⟨_,hc,hD⟩)
  ·lia
  ·exact%[hc|hD]
 case step=>
  rintro x c st' _ hx (⟨rfl,rfl,hB'⟩ | ⟨hx1,rfl,hD⟩)
  ·dsimp only;rw[Nv ⋯];simp only[Nat.sub_zero,Nat.min_self,Nat.zero_add];show A4 (jU hO h0 (B4 _) ⋯ hB' λ m st2 hB2 hm1 hm2 hs2=>?_);dsimp only
   by_cases hlt:m < a₀.size
   ·rw[Nw hlt];show A4 (wpS_lift (OI %[rfl|?_]));show A4 (iJ hO h0 (B4 _) hm2 hB2 hs2 λ st3 hB3 hs3=>?_);simp only[Bool.not_true,MN,OJ];show A4 (Og ?_);have hb:(pendingOf st3).back?=none:=by rw[hB3.pend];rfl
    rw[hb];dsimp only;exact A4 (ON (A5 (.inr %[⋯,U|hB3.doneK hs3])))
   ·rw[Nv hlt];have hm:m=a₀.size:=⋯
    subst hm;show A4 (Og ?_);have hb:(pendingOf st2).back?=none:=by rw[hB2.pend];rfl
    rw[hb];dsimp only;exact A4 (ON (A5 (.inr %[⋯,U|hB2.doneK hs2])))
  ·dsimp only;rw[Nw (B4 _)];exact A5 %[rfl|hD]
 case post=>
  rintro c st' ⟨rfl,hD⟩;dsimp only;show A4 (OC (N1 (I:=λ _ c st''=>st''=st'/\c=(none,())) (Q:=λ c st''=>st''=st'/\c=(none,())) ?_ (λ _ _ hh=>hh) %[rfl|rfl]) ?_)
  ·rintro x c st'' _ _ ⟨rfl,rfl⟩;show A4 (Og ?_);rw[Nw (by rw[hD.2.2.1];exact B4 1)];exact A5 %[rfl|rfl]
  ·rintro c st'' ⟨rfl,rfl⟩;exact A5 (h _ hD.1 hD.2.1 hD.2.2.2)
end
section
variable{prog:G0}{w:G2}{A:Around}{E:G3->F9->Prop}{s:F9}
theorem jh{κ:KeyKind}{κ0:SortKind}{a:Nj}{vs:No G3}{n:Nat}{P:Fin->F9->Prop}(ho:s.heap.get? a=some (seqObj "list" vs.toArray n))
  (h0:KeysOf κ (pairsOf vs)) (hkk:∀s':F9,(∀b o,b≠a->s.heap.get? b=some o->s'.heap.get? b=some o)->bf prog w A s' κ0 κ/\∀v₁ v₂ rest,vs=v₁ :: v₂ :: rest->∀(Q:SortKind->F9->Prop),Q κ0 s'->wpAny (model prog w) A (keyKind' (v₁ :: v₂ :: rest).toArray) Q E s') (h64:vs.length < 64)
  (h:∀st':SortSt,(arrOf st').Perm (pairsOf vs)->SortedToK κ (arrOf st') (pairsOf vs).size->P (.done (.ret .none)) { s with heap:=sortedHeap s.heap a vs ((arrOf st').map (·.2)) }) :
  wpAny (model prog w) A (Builtin.«list.sort» %[[.ref a]|[]]) P E s:=by
 rw[list_sort_plain];have ha:a < s.heap.objs.size:=B0 ho;show A0 (listItems_at ho rfl ?_);show A0 (listUpdate_at ho rfl ?_);obtain⟨e1,ho1⟩:∃e1,(s.heap.update a (Obj.mapSeq λ _=>#[])).get? a=some (seqObj "list" #[] e1):=%[_|get?_update_seq ho (λ _=>#[])]
 show A0 (seqEpoch_at ho1 rfl ?_);show A0 (wpAny_newTuple ?_);show A0 (wpAny_newList ?_);show N2 ?_;have ho6:(((s.heap.update a (Obj.mapSeq λ _=>#[])).push (seqObj "tuple" vs.toArray 0)).push (seqObj "list" #[] 0)).get? a=some (seqObj "list" #[] e1):=by rw[Heap.get?_push_ne _ _ _ (by rw[size_push',On];exact C1 (Mo ha)),Heap.get?_push_ne _ _ _ (by rw[On];exact C1 ha)];exact ho1
 change wpAny (model prog w) A _ P E { s with heap:=((s.heap.update a (Obj.mapSeq λ _=>#[])).push (seqObj "tuple" vs.toArray 0)).push (seqObj "list" #[] 0) };dsimp only;have hsz:vs.toArray.size=vs.length:=by simp
 have fin:=h
 by_cases h2:vs.toArray.size < 2
 ·rw[Nw h2,Nw h2];show A0 (A3 ?_);rw[StateT.run_pure];show A0 (A3 ?_);dsimp only;show A0 (seqEpoch_at ho6 rfl ?_);show A0 (listUpdate_at ho6 rfl ?_ (hsz2:=by rw[Na];change(pairsOf vs).size<=_;rw[pairsOf_size,Ot];lia));simp only[bne_self_eq_false,MN,OJ];show A3 (fin (SortSt.mk' general' (vs.toArray.zip vs.toArray) #[] 7 none) (Array.Perm.refl _) ?_);intro i j hij hj;have:i=j:=by rw[pairsOf_size]at hj;lia
  subst this;exact OH _
 ·rw[Nv h2,Nv h2];obtain⟨v₁,v₂,rest,rfl⟩:∃v₁ v₂ rest,vs=v₁ :: v₂ :: rest:=by
   match vs,hsz,h2 with
   | [],_,h2=>simp at h2
   | [_],_,h2=>simp at h2
   | v₁ :: v₂ :: rest,_,_=>exact%[v₁,v₂,rest|U]
  have kp:∀b o,b≠a->s.heap.get? b=some o->(((s.heap.update a (Obj.mapSeq λ _=>#[])).push (seqObj "tuple" (v₁ :: v₂ :: rest).toArray 0)).push (seqObj "list" #[] 0)).get? b=some o:=λ b o nb e=>
   A8 _ (A8 _ (by rw[Heap.get?_update_ne _ _ _ _ nb];exact e))
  obtain⟨hO,hK⟩:=hkk { s with heap:=((s.heap.update a (Obj.mapSeq λ _=>#[])).push (seqObj "tuple" (v₁ :: v₂ :: rest).toArray 0)).push (seqObj "list" #[] 0) } kp;show A0 (hK _ _ _ rfl _ ?_);show A0 (OA (jV (κ:=κ) (κ0:=κ0) hO (a₀:=pairsOf (v₁ :: v₂ :: rest)) (st:=SortSt.mk' κ0 ((v₁ :: v₂ :: rest).toArray.zip (v₁ :: v₂ :: rest).toArray) #[] 7 none)
   (Q:=λ _ st'=>(arrOf st').Perm (pairsOf (v₁ :: v₂ :: rest))/\failedOf st'=none/\SortedToK κ (arrOf st') (pairsOf (v₁ :: v₂ :: rest)).size)
   h0 %[Array.Perm.refl _,rfl,rfl|rfl] (by rw[pairsOf_size];simp) (by rw[pairsOf_size];exact h64) λ st' a1 a2 a3=>%[a1,a2|a3]) ?_ λ _ _ e=>e)
  rintro⟨⟨⟩,st'⟩ s' ⟨rfl,hp,hf,hs⟩;dsimp only;show A0 (seqEpoch_at ho6 rfl ?_);show A0 (listUpdate_at ho6 rfl ?_ (hsz2:=by show C7 (NK ((Na ..).trans (hp.size_eq.trans (pairsOf_size _)))) ?_;rw[Ot];lia));rw[hf];simp only[bne_self_eq_false,MN,OJ];exact A3 (fin st' hp hs)
end
end PyProof.Rows
namespace L2
open PySem PySem.Spec PyProof.Rows
def cz:No Bool->No G3->Nm Pz
 | [],[]=>some []
 | false :: r,.int i _ :: vs=>(cz r vs).map (i :: ·)
 | true :: r,.bool b :: vs=>(cz r vs).map ((if b=true then 1 else 0) :: ·)
 | _,_=>none
def eJ:No Bool->No V->Nm Pz
 | [],[]=>some []
 | false :: r,.int i :: vs=>(eJ r vs).map (i :: ·)
 | true :: r,.bl b :: vs=>(eJ r vs).map ((if b=true then 1 else 0) :: ·)
 | _,_=>none
theorem qc:∀{sh:No Bool}{vs:No V}{us:No G3}{k:Pz},Vals vs us->eJ sh vs=some k->cz sh us=some k
 | [],[],_,_,r,h=>by cases r;exact h
 | [],_ :: _,_,_,_,h=>by cases h
 | false :: r,v :: vs,us,k,rv,h=>by
  cases rv with
  | cons r1 r2=>
   cases v with
   | int i=>
    obtain⟨t,rfl⟩:=r1;have h:(eJ r vs).map (i :: ·)=some k:=h;change(cz r _).map (i :: ·)=some k;cases e:eJ r vs with
    | none=>rw[e]at h;cases h
    | some k'=>rw[e]at h;rw[qc r2 e];exact h
   | _=>cases h
 | true :: r,v :: vs,us,k,rv,h=>by
  cases rv with
  | cons r1 r2=>
   cases v with
   | bl b=>
    cases(show _=Value.bool b from r1);have h:(eJ r vs).map ((if b=true then 1 else 0) :: ·)=some k:=h;change(cz r _).map ((if b=true then 1 else 0) :: ·)=some k;cases e:eJ r vs with
    | none=>rw[e]at h;cases h
    | some k'=>rw[e]at h;rw[qc r2 e];exact h
   | _=>cases h
 | false :: _,[],_,_,_,h=>by cases h
 | true :: _,[],_,_,_,h=>by cases h
def cr:Pz->Pz->Bool
 | [],[]=>false
 | [],_ :: _=>true
 | _ :: _,[]=>false
 | a :: r,b :: t=>if a=b then cr r t else decide (a < b)
theorem gu:∀a,cr a a=false
 | []=>rfl
 | a :: r=>by rw[cr,Nw rfl];exact gu r
theorem iK:∀a b c,cr a b=true->cr b c=true->cr a c=true
 | [],[],_,h,_=>by cases h
 | [],_ :: _,[],_,h=>by cases h
 | [],_ :: _,_ :: _,_,_=>rfl
 | _ :: _,[],_,h,_=>by cases h
 | _ :: _,_ :: _,[],_,h=>by cases h
 | a :: r,b :: t,c :: u,h1,h2=>by
  rw[cr]at h1 h2 ⊢
  by_cases e1:a=b
  ·rw[Nw e1]at h1
   by_cases e2:b=c
   ·rw[Nw e2]at h2;rw[Nw (e1.trans e2)];exact iK r t u h1 h2
   ·rw[Nv e2]at h2;rw[Nv (by rw[e1];exact e2),e1];exact h2
  ·rw[Nv e1]at h1;have h1:=C2 h1
   by_cases e2:b=c
   ·rw[Nv ⋯];exact B1 ⋯
   ·rw[Nv e2]at h2;have h2:=C2 h2;rw[Nv ⋯];exact B1 ⋯
theorem mU:∀a b c,cr a c=true->cr a b=true\/cr b c=true
 | [],[],_,h=>.inr h
 | [],_ :: _,_,_=>.inl rfl
 | _ :: _,_,[],h=>by cases h
 | _ :: _,[],_ :: _,_=>.inr rfl
 | a :: r,b :: t,c :: u,h=>by
  rw[cr]at h;rw[cr,cr]
  by_cases e1:a=b
  ·rw[Nw e1]
   by_cases e2:b=c
   ·rw[Nw (e1.trans e2)]at h;rw[Nw e2];exact mU r t u h
   ·rw[Nv (by rw[e1];exact e2)]at h;rw[Nv e2];exact .inr (by rw[<- e1];exact h)
  ·rw[Nv e1]
   by_cases e3:a=c
   ·rw[Nv ⋯]
    by_cases z:a < b
    ·exact .inl (B1 z)
    ·exact .inr (B1 ⋯)
   ·rw[Nv e3]at h;have h:=C2 h
    by_cases z:a < b
    ·exact .inl (B1 z)
    ·rw[Nv ⋯];exact .inr (B1 ⋯)
theorem iL:∀a b,cr a b=false->cr b a=false->a=b
 | [],[],_,_=>rfl
 | [],_ :: _,h,_=>by cases h
 | _ :: _,[],_,h=>by cases h
 | a :: r,b :: t,h1,h2=>by
  rw[cr]at h1 h2
  by_cases e:a=b
  ·rw[Nw e]at h1;rw[Nw e.symm]at h2;rw[e,iL r t h1 h2]
  ·rw[Nv e]at h1;rw[Nv (Ne.symm e)]at h2;have:=Op h1;have:=Op h2;exact absurd (show a=b by lia) e
def tm(h:Heap)(sh:No Bool):KeyKind where
 α:=Pz
 blt:=cr
 irrefl:=gu
 trans:=iK
 negTrans:=mU
 total:=iL
 keyOf:=λ v=>match v with
  | .ref a=>match h.get? a with
   | some o=>match o.data with
    | .seq xs _=>cz sh xs.toList
    | _=>none
   | none=>none
  | _=>none
 dflt:=[]
theorem rh{h:Heap}{sh:No Bool}{v:G3}{k:Pz}(e:(tm h sh).keyOf v=some k):∃a o xs n,v=.ref a/\h.get? a=some o/\o.data=.seq xs n/\cz sh xs.toList=some k:=by
 cases v with
 | ref a=>
  have e:(match h.get? a with
   | some o=>match o.data with
    | .seq xs _=>cz sh xs.toList
    | _=>none
   | none=>none)=some k:=e
  cases h1:h.get? a with
  | none=>rw[h1]at e;cases e
  | some o=>
   rw[h1]at e;cases h2:o.data with
   | seq xs n=>
    have e:(match o.data with
     | .seq xs _=>cz sh xs.toList
     | _=>none)=some k:=e
    rw[h2]at e;exact%[a,o,xs,n,U,h1,h2|e]
   | _=>
    have e:(match o.data with
     | .seq xs _=>cz sh xs.toList
     | _=>none)=some k:=e
    rw[h2]at e;cases e
 | _=>cases e
theorem gP:∀{sh:No Bool}{us:No G3}{k:Pz},cz sh us=some k->us.length=sh.length
 | [],[],_,_=>rfl
 | [],_ :: _,_,h=>by cases h
 | false :: r,[],_,h=>by cases h
 | true :: r,[],_,h=>by cases h
 | false :: r,v :: vs,k,h=>by
  cases v with
  | int i t=>
   have h:(cz r vs).map (i :: ·)=some k:=h;cases e:cz r vs with
   | none=>rw[e]at h;cases h
   | some k'=>rw[K3,K3,gP e]
  | _=>cases h
 | true :: r,v :: vs,k,h=>by
  cases v with
  | bool b=>
   have h:(cz r vs).map ((if b=true then 1 else 0) :: ·)=some k:=h;cases e:cz r vs with
   | none=>rw[e]at h;cases h
   | some k'=>rw[K3,K3,gP e]
  | _=>cases h
section
variable{prog:G0}{w:G2}{A:Around}{E:G3->F9->Prop}{s:F9}
theorem nQ{a b:Bool}{Q:Bool->F9->Prop}(h:Q (a == b) s):wpAny (model prog w) A (eqBool (.bool a) (.bool b)) Q E s:=by
 unfold eqBool;change wpAny _ _ (if (Value.bool a == Value.bool b)=true then _ else _) Q E s
 by_cases hab:(Value.bool a == Value.bool b)=true
 ·rw[Nw hab];have e:a=b:=by have:=eq_of_beq hab;injection this
  subst e;exact A0 (OI (A3 (by simpa using h)))
 ·rw[Nv hab];exact A0 (eq_bool (F5 h))
theorem mV{bb:Bool}{Q:Bool->F9->Prop}:∀(sh:No Bool)(xs ys:No G3)(a c:Pz)(i:Nat),cz sh xs=some a->cz sh ys=some c->((bb && i == 0)=true->sh.head?=some false\/sh=[])->Q (cr a c) s->PySem.W.KatLex prog w A bb false Q (xs.zip ys) i s
 | [],[],[],a,c,i,h1,h2,_,q=>by cases h1;cases h2;exact PySem.W.kat_nil q
 | [],_ :: _,_,_,_,_,h,_,_,_=>by cases h
 | [],[],_ :: _,_,_,_,_,h,_,_=>by cases h
 | false :: r,[],_,_,_,_,h,_,_,_=>by cases h
 | true :: r,[],_,_,_,_,h,_,_,_=>by cases h
 | false :: r,_ :: _,[],_,_,_,_,h,_,_=>by cases h
 | true :: r,_ :: _,[],_,_,_,_,h,_,_=>by cases h
 | false :: r,v :: vs,u :: us,a,c,i,h1,h2,hb,q=>by
  cases v with
  | int p t=>cases u with
   | int p' t'=>
    have h1:(cz r vs).map (p :: ·)=some a:=h1;have h2:(cz r us).map (p' :: ·)=some c:=h2;cases e1:cz r vs with
    | none=>rw[e1]at h1;cases h1
    | some a'=>
     cases e2:cz r us with
     | none=>rw[e2]at h2;cases h2
     | some c'=>
      rw[e1]at h1;rw[e2]at h2;cases h1;cases h2;rw[cr]at q;show PySem.W.kat_cons (wpAny_eqBool_int (PySem.W.kat_go (λ e=>PySem.W.kat_yes ?_) (λ e=>PySem.W.kat_no ?_)))
      ·rw[Nw (by simpa using e)]at q;exact mV r vs us a' c' (i+1) e1 e2 (λ z=>by simp at z) q
      ·rw[Nv (by simpa using e)]at q;cases z:(bb && i == 0)with
       | true=>exact oneLt_int q
       | false=>exact PySem.W.kat_one _ _ (PyProof.Rows.lt_int q)
   | _=>cases h2
  | _=>cases h1
 | true :: r,v :: vs,u :: us,a,c,i,h1,h2,hb,q=>by
  cases v with
  | bool p=>cases u with
   | bool p'=>
    have h1:(cz r vs).map ((if p=true then 1 else 0) :: ·)=some a:=h1;have h2:(cz r us).map ((if p'=true then 1 else 0) :: ·)=some c:=h2;cases e1:cz r vs with
    | none=>rw[e1]at h1;cases h1
    | some a'=>
     cases e2:cz r us with
     | none=>rw[e2]at h2;cases h2
     | some c'=>
      rw[e1]at h1;rw[e2]at h2;cases h1;cases h2;rw[cr]at q;show PySem.W.kat_cons (nQ (PySem.W.kat_go (λ e=>PySem.W.kat_yes ?_) (λ e=>PySem.W.kat_no ?_)))
      ·have e:p=p':=by simpa using e
       rw[Nw (by rw[e])]at q;exact mV r vs us a' c' (i+1) e1 e2 (λ z=>by simp at z) q
      ·have e:p≠p':=by simpa using e
       rw[Nv (by cases p <;> cases p' <;> simp_all)]at q;cases z:(bb && i == 0)with
       | true=>rcases hb z with z | z <;> cases z
       | false=>
        show PySem.W.kat_one _ _ (PyProof.Rows.lt_bool ?_);change Q (decide (b2i p < b2i p')) s;rw[show decide (b2i p < b2i p')=decide ((if p=true then(1:Int)else 0) < (if p'=true then 1 else 0))by cases p <;> cases p' <;> rfl];exact q
   | _=>cases h2
  | _=>cases h1
theorem tq{h:Heap}{sh:No Bool}(h0:sh.head?=some false)(k:∀b o,h.get? b=some o->s.heap.get? b=some o):bf prog w A s (tuples' true) (tm h sh):=by intro E x y a b Q ha hb q;obtain⟨x',ox,xs,n,rfl,hx,dx,fx⟩:=rh ha;obtain⟨y',oy,ys,m,rfl,hy,dy,fy⟩:=rh hb;have l1:=gP fx;have l2:=gP fy;show PySem.W.kat_lt (k _ _ hx) dx (k _ _ hy) dy ?_;rw[show decide (xs.size < ys.size)=false from N3 (by rw[<- J7,<- J7];lia)];exact mV sh _ _ a b 0 fx fy (λ _=>.inl h0) q
end
theorem iM:∀as:No Nj,Vals (as.map V.ref) (as.map Value.ref)
 | []=>.nil
 | a :: as=>.cons rfl (iM as)
theorem wz{α β:Type}{f:α->β}(g:β->Nm α)(hg:∀a,g (f a)=some a){l:No β}{as:No α}(h:l.Perm (as.map f)):∃as':No α,l=as'.map f/\as'.Perm as:=by
 show%[l.filterMap g,?_|?_]
 ·have all:∀x∈l,∃a,f a=x:=λ x hx=>by obtain⟨a,_,e⟩:=J5.mp (h.mem_iff.mp hx);exact%[a|e]
  clear h
  induction l with
  | nil=>rfl
  | cons x r ih=>
   obtain⟨a,rfl⟩:=all x B9;rw[List.filterMap_cons,hg a,J6,<- ih λ y hy=>all y (B6 _ hy)]
 ·have:=h.filterMap g;rw[List.filterMap_map,show(g∘f)=some from funext hg,List.filterMap_some]at this;exact this
theorem ja{h:Heap}{sh:No Bool}{key:Nj->Pz}(h0:sh.head?=some false):∀(as:No Nj),(∀a∈as,∃o us n,h.get? a=some o/\o.cls=.type "tuple" /\ o.data=.seq (List.toArray us) n/\cz sh us=some (key a))->∃fs,PySem.W.KatTups h (as.map Value.ref) fs/\fs.length=as.length/\∀v∈fs,∃i t,v=Value.int i t
 | [],_=>%[[],trivial,U|λ v hv=>by cases hv]
 | a :: as,H=>by
  obtain⟨fs,h1,h2,h3⟩:=ja h0 as λ b hb=>H b (B6 _ hb);obtain⟨o,us,n,e,c,d,f⟩:=H a B9;obtain⟨r,hr⟩:∃r,sh=false :: r:=by
   cases sh with
   | nil=>cases h0
   | cons x r=>cases h0;exact%[r|U]
  subst hr;cases us with
  | nil=>cases f
  | cons u us=>
   cases u with
   | int i t=>exact%[.int i t :: fs,PySem.W.KatTups.cons e c d (by simp) h1,by rw[K3,K3,h2]|λ v hv=>(J3.mp hv).elim (λ z=>%[i,t|z]) (h3 v)]
   | _=>cases f
end L2
namespace PySem
open Spec
section
variable{prog:G0}{w:G2}{A:Around}{E:G3->F9->Prop}{s:F9}{l:Nj}{xs:Nn (Int×Tok)}
theorem nR{Q:G3->F9->Prop}(hh:A.handled=none)(hl:s.heap.IsTuple l (intItems xs))
  (h:∀h' tk t',(∀b o,s.heap.get? b=some o->h'.get? b=some o)->Q (.int (preSum (numAt xs) xs.size) t') { s with heap:=h',toks:=tk }) :
  wpAny (model prog w) A (call (.builtin "sum") [.ref l]) Q E s:=by
 have hlt:l < s.heap.objs.size:=by obtain⟨_,e,_⟩:=hl;exact B0 e
 show call_sum_walkG (Oc hl %[_,_,_,_,_,_,numAt xs,rfl,Walks.tuple (A:=A.in1) hh _ l (C1 hlt) (intItems xs),%[%[_,A9 _ rfl,rfl|rfl]|?_],λ b hb=>?_,(λ _ _=>intItems_at)|λ h' tk t' hk=>?_])
 ·obtain⟨o,e,r⟩:=hl;exact%[o,A8 _ e|r]
 ·change b < (s.heap.push _).objs.size;rw[N5];rcases J3.mp hb with rfl | hb
  ·exact F3 _
  ·rcases J3.mp hb with rfl | hb
   ·exact Mo hlt
   ·cases hb
 ·have:=h h' tk t' λ b o e=>hk b o (λ hm=>by
   have:b=s.heap.objs.size:=by simpa using hm
   subst this;exact absurd (B0 e) (E2 _)) (A8 _ e)
  simpa[intItems]using this
end
end PySem
namespace L2
open PySem PySem.Spec PyProof.Rows
section
variable{X:Cx}
inductive rz_call_sumT(K:C6)(xs:No V)(H:Hp)(Q:VK):Prop
|mk(p:Nj)(ns:Pz)(_:xs=[.ref p])(_:SqT K H p (ns.map V.int))(_:Q (.int ns.sum) H)
theorem iN(hc:X.calm=true):bS X (.builtin "sum") (rz_call_sumT X.K):=by
 intro Nq s σ H xs us Q I r h;obtain⟨p,ns,rfl,hs,q⟩:=h;obtain⟨u,rfl,rfl⟩:=dk r;obtain⟨its,rv,pl,_⟩:=I.tuple hs;have hi:=mR rv;obtain⟨xs,e⟩:=hi.allInts.items;rw[e]at pl;show nR (I.ok.hd hc) pl λ h' tk t' hk=>?_;have e2:preSum (numAt xs) xs.size=ns.sum:=by rw[preSum_eq,K5 (by simp),<- nums_intItems,<- e,show its.toArray.toList=its from rfl,hi.numsOf]
 rw[e2];exact%[.int ns.sum,H,I.kept hk,%[_|U]|q]
inductive rz_mt_extendT(K:C6)(x:V)(vs:No V)(H:Hp)(Q:VK):Prop
|mk(l b xs zs:_)(_:x=.ref l)(_:vs=[.ref b])(_:H l=↥xs)(_:SqT K H b zs)(_:xs.length+zs.length<=sizeLine)(_:Q .non (upd H l (.lst (xs ++ zs))))
theorem jW{lo:Int}{n:Nat}{σ:St}{cap:No Nat}{k:Nat}{g:TG}{tt:TT}{te:TE}{Q:No V->Hp->Prop}{H:Hp}(Pv:Nat->No V->Hp->Prop)(h0:Pv 0 [] H)
  (ht:∀i ys H',i < n->Pv i ys H'->ys.length < sizeLine/\g (.int (lo+i)) (aW σ cap k) H' λ σ2 H2=>leS (aW σ cap k) σ2/\tt σ2 H2 λ ok H3=>if ok=true then te σ2 H3 (λ v H4=>Nx n Pv i (ys ++ [v]) H4)else Nx n Pv i ys H3)
  (hd:∀ys H',Pv n ys H'->ys.length<=sizeLine/\Q ys H'):∃W,(∃m,W 0 m [] H)/\eS σ cap k (Itr lo n) g tt te Q W:=by
 show%[λ i m ys H'=>m=n - i/\i<=n/\Pv i ys H',%[_,U,F1 _|h0]|?_];rintro i m ys H' ⟨rfl,hi,p⟩
 by_cases hin:i < n
 ·obtain⟨e,hg⟩:=ht i ys H' hin p;show .inr %[hin,e|λ x H2 yl=>?_];obtain⟨e1,e2⟩:=yl;subst e1 e2;exact hg
 ·have e:i=n:=⋯
  subst e;obtain⟨a1,a2⟩:=hd ys H' p;exact .inl %[B4 _,a1|a2]
end
end L2
namespace PySem
theorem Paired.getL{α β:Type}{F:α->β->Prop}:∀{l₁:No α}{l₂:No β}{i:Nat}{y:β},Paired F l₁ l₂->l₂[i]?=some y->∃x,l₁[i]?=some x/\F x y
 | _,_,_,_,.nil,e=>by simp at e
 | _,_,0,_,.cons h _,e=>by simp at e;subst e;exact%[_,U|h]
 | _,_,i+1,y,.cons _ t,e=>by obtain⟨x,h1,h2⟩:=Paired.getL (i:=i) t (by simpa using e);exact%[x,by simpa using h1|h2]
end PySem
namespace L2
open PySem PySem.Spec PyProof.Rows
abbrev wA:=@fJ
theorem qd{X:Cx}{sc:Scope}{N:No Str}{scope:Scope}{own cs:No Str}{cap:No Nat}(h1:X.env.scope=sc)(h2:X.N=N)(h:mM sc N scope own cs cap=true):CompOk X scope own cs cap:=az h1 h2 h
theorem mW(elt tg iter:Expr)(ifs:No Expr)(tg2 Nu:Expr)(ifs2:No Expr)(scope:Scope)(pos:Pos)(it acc:G3)(env:Env) :
  compTurn (.ListComp elt [%[tg,iter,ifs|0],%[tg2,Nu,ifs2|0]] scope pos) 0 it acc env=(do
   standAt iter.pos
   match<-pyNext it with
   | none=>pure (.done .next)
   | some v=>
    letOwnedTupleGo tg it v
    assign tg env v
    let mut ok:=true
    for c in ifs do
     if ok then ok<-isTrue c env (eval c env)
    if ok then
     let x<-eval Nu env
     standAt Nu.pos
     let x<-foldedSetIterable Nu env x
     let i2<-holding [x] (pyIter x)
     let _<-runOwn (.compStart (.ListComp elt [%[tg,iter,ifs|0],%[tg2,Nu,ifs2|0]] scope pos) 1 i2 acc env) env
    again (.compLoop (.ListComp elt [%[tg,iter,ifs|0],%[tg2,Nu,ifs2|0]] scope pos) 0 it acc env)):=by rfl
theorem eW{prog:G0}{w:G2}{A:Around}{R:Result->F9->Prop}{s:F9}{elt tg iter tg2 Nu:Expr}{ifs ifs2:No Expr}{scope:Scope}{pos:Pos}{it acc:G3}{env:Env}
  (h0:codeAny (model prog w) A (.compLoop (.ListComp elt [%[tg,iter,ifs|0],%[tg2,Nu,ifs2|0]] scope pos) 1 it acc env) R s)
  (h:wpAny (model prog w) A (pyIter it) (λ it' s'=>codeAny (model prog w) A (.compLoop (.ListComp elt [%[tg,iter,ifs|0],%[tg2,Nu,ifs2|0]] scope pos) 1 it' acc env) R s')
   (notedBy (model prog w) A env λ x s'=>R (.error x) s') s) :
  codeAny (model prog w) A (.compStart (.ListComp elt [%[tg,iter,ifs|0],%[tg2,Nu,ifs2|0]] scope pos) 1 it acc env) R s:=by
 show codeAny_of_tree ?_;change wpAny _ _ ((compStart (.ListComp elt [%[tg,iter,ifs|0],%[tg2,Nu,ifs2|0]] scope pos) 1 it acc env).onRaise (λ x=>do noteFrame x env;standAt theWindowsPlace)) _ _ s;show wpAny_notedAt ?_;unfold compStart;change wpAny _ _ (ask >>= _) _ _ s;show A0 (wpAny_askSetting (wpAny_ite ?_))
 split
 ·first
   | exact A0 (A3 (A3 (And.intro rfl h0)))
   | exact A3 (And.intro rfl h0)
 ·first
   | exact A0 (OI (A0 (Oi (A0 (OA h (λ it' s' h'=>A3 (And.intro rfl h')) λ _ _ x=>x)))))
   | (show A0 (OI ?_);change wpAny _ _ (standAt Nu.pos >>= _) _ _ s;exact A0 (Oi (A0 (OA h (λ it' s' h'=>A3 (And.intro rfl h')) λ _ _ x=>x))))
def jX(σ2:St)(J:It)(g:TG)(tt:TT)(te:TE)(N:No V->Hp->Prop)(W:Nat->Nat->No V->Hp->Prop):Prop :=
 ∀i m ys H,W i m ys H->(J.stop i H/\N ys H) \/
  (J.go i H/\ys.length < sizeLine/\∀x H',J.yld i H x H'->g x σ2 H' λ σ3 H2=>leS σ2 σ3/\tt σ3 H2 λ ok H3=>
   if ok=true then te σ3 H3 (λ v H4=>∃m',m' < m/\W (i+1) m' (ys ++ [v]) H4)else∃m',m' < m/\W (i+1) m' ys H3)
def mX(σ:St)(cap:No Nat)(k:Nat)(J:It)(g:TG)(tt:TT)(wi2:TI)(g2:TG)(tt2:TT)(te:TE)(Q:No V->Hp->Prop)(W:Nat->Nat->No V->Hp->Prop):Prop :=
 ∀i m ys H,W i m ys H->(J.stop i H/\ys.length<=sizeLine/\Q ys H) \/
  (J.go i H/\∀x H',J.yld i H x H'->g x (aW σ cap k) H' λ σ2 H2=>leS (aW σ cap k) σ2/\tt σ2 H2 λ ok H3=>
   if ok=true then wi2 σ2 H3 (λ J2 H4=>∃W2:Nat->Nat->No V->Hp->Prop,(∃m2,W2 0 m2 ys H4)/\jX σ2 J2 g2 tt2 te (λ zs H5=>∃m',m' < m/\W (i+1) m' zs H5) W2)else∃m',m' < m/\W (i+1) m' ys H3)
section
variable{X:Cx}{Nq:P6}{σ:St}{H2:Hp}{s2:F9}{scope:Scope}{own cs:No Str}{cap:No Nat}{fp:No Nj}{it:Nj}{tn:Nat->Heap->Prop}
 {elt tg iter tg2 Nu:Expr} {ifs ifs2:No Expr} {pos:Pos} {J:It} {g g2:TG} {tt tt2:TT} {te:TE} {wi2:TI} {E:G3->F9->Prop} {W:Nat->Nat->No V->Hp->Prop} {Qf:No V->Hp->Prop}
theorem wB{Y:Cx}{P5:P6}{σ:St}{D:Nj}(hx:Y.xe=λ _ _=>False)(hc:Y.calm=true)
  (hit2:PI Y tg2 Nu wi2) (hs2:∀x,foldedSetIterable Nu Y.env x=pure x) (hg2:PG Y tg2 g2) (hi2:iF Y ifs2 tt2) (he:PE Y elt te)
  (hu:∀it2,Y.A.under (.compLoop (.ListComp elt [%[tg,iter,ifs|0],%[tg2,Nu,ifs2|0]] scope pos) 1 (.ref it2) (.ref D) Y.env)=Y.A) :
  qV Y P5 σ D (do
   let x<-eval Nu Y.env
   standAt Nu.pos
   let x<-foldedSetIterable Nu Y.env x
   let i2<-holding [x] (pyIter x)
   let _<-runOwn (.compStart (.ListComp elt [%[tg,iter,ifs|0],%[tg2,Nu,ifs2|0]] scope pos) 1 i2 (.ref D) Y.env) Y.env) AccL (λ _=>True)
   (λ i m ys σ2 H3=>wi2 σ2 H3 (λ J2 H4=>∃W2:Nat->Nat->No V->Hp->Prop,(∃m2,W2 0 m2 ys H4)/\jX σ2 J2 g2 tt2 te (λ zs H5=>∃m',m' < m/\W (i+1) m' zs H5) W2)) W:=by
 rintro i m ys o σ3 H3 s3 Q5 hz hq le ac fD I3 e3;have hx':∀{v:G3}{s':F9}{Z:Prop},Y.xe v s'->Z:=λ z=>by rw[hx]at z;exact z.elim
 have one:∀{p:Nj×Obj},p∈[(D,o)]->p=(D,o):=λ hp=>by simpa using hp
 have I3':Inv Y ((P5 ++ Q5) ++ [(D,o)]) σ3 H3 s3:=I3.pins_of λ p hp=>(C4.mp hp).elim (λ z=>I3.pin p (A6 _ z)) λ z=>by rw[one z];exact%[e3,fD.1,fD.2.1,fD.2.2.1|AccL.nc _ _ ac]
 show A0 (OA (hit2 _ s3 σ3 H3 _ I3' hq) (λ xv s8 h8=>?_) λ _ _ z=>hx' z);show A0 (Oi (A0 (OV (hs2 xv) ?_)));show A0 (N2 (OA h8 (λ itv s9 h9=>?_) λ _ _ z=>hx' z));obtain⟨it2,fp2,tn2,J2,H9,rfl,I9,T2,st9,f9,W2,w20,turn2⟩:=h9;have pD:=I9.pin (D,o) (A6 _ (A6 _ (E5.mpr rfl)));have inner:=λ(R:Result->F9->Prop) hR=>fI (R:=R) (Fin:=λ zs H5=>∃m',m' < m/\W (i+1) m' zs H5) (ipos:=Nu.pos) (node:=.ListComp elt [%[tg,iter,ifs|0],%[tg2,Nu,ifs2|0]] scope pos) (lvl:=1) (body:=do let _<-call (.builtin "list.append") [.ref D,<-eval elt Y.env]) hx (T2.y hc) hg2 hi2 rfl (hu it2) AccL.nc
  (λ i m ys H w=>%[trivial|turn2 i m ys H w]) (lF hx he) (I9.sub λ p hp=>B8 _ hp) (fD.sub pD.2.1 λ _ h=>.inl h) (λ b hb=>(f9 b hb).sub (f9 b hb).1 λ p hp=>.inl (B8 _ hp))
  (λ b hb=>(f9 b hb).2.2.2.2.2 (D,o) (A6 _ (A6 _ (E5.mpr rfl)))) st9 pD.1 ac w20 hR
 show A0 (wpAny_runOwn ((λ h=>eW h (T2.self _ 0 _ _ _ st9 h)) (inner _ ?_)));exactλ s' H' ys o a b c d e=>A3 %[H',ys,o,a,b,c,d|e]
theorem tw{RR:G3->Nj->Result->F9->Prop}(I:Inv X Nq σ H2 s2)(ok:CompOk X scope own cs cap)(hc:X.calm=true)(T:Turn X.prog X.w X.K tg J fp it tn)(st:tn 0 s2.heap)(hf:∀b∈fp,FpOk X Nq H2 b)
  (hg:∀C,PG (aO X Nq s2 H2 scope C (own ++ cs) fp) tg g) (hi:∀C,iF (aO X Nq s2 H2 scope C (own ++ cs) fp) ifs tt) (hit2:∀C,PI (aO X Nq s2 H2 scope C (own ++ cs) fp) tg2 Nu wi2) (hs2:∀C x,foldedSetIterable Nu (aO X Nq s2 H2 scope C (own ++ cs) fp).env x=pure x) (hg2:∀C,PG (aO X Nq s2 H2 scope C (own ++ cs) fp) tg2 g2) (hi2:∀C,iF (aO X Nq s2 H2 scope C (own ++ cs) fp) ifs2 tt2) (he:∀C,PE (aO X Nq s2 H2 scope C (own ++ cs) fp) elt te)
  (w0:∃m,W 0 m [] H2) (turn:mX σ cap own.length J g tt wi2 g2 tt2 te Qf W)
  (hRR:∀D C s' ys H',H' D=none->(ys.length<=sizeLine/\Qf ys H')->Inv X Nq σ (upd H' D (.lst ys)) s'->FpOk X Nq (upd H' D (.lst ys)) C->(∃m,s'.heap.Ns C m)->RR (.ref D) C (.ok .next) s') :
  wpAny (model X.prog X.w) X.A (newList []) (λ acc s₃=>wpAny (model X.prog X.w) X.A (newFunctionEnv scope X.env.globals (bF X.env scope.names []) [] X.env.qual none .none (some X.env)) (λ cenv s₄=>
   codeAny (model X.prog X.w) X.A (.compStart (.ListComp elt [%[tg,iter,ifs|0],%[tg2,Nu,ifs2|0]] scope pos) 0 (.ref it) acc { cenv with scope:=relabel scope X.env }) (RR acc cenv.locals) s₄) E s₃) E s2:=by
 show gj (Acc:=AccL) (Fin:=λ ys H=>ys.length<=sizeLine/\Qf ys H) (ho:=.lst) I ok (λ C=>Turn.y (Y:=aO X Nq s2 H2 scope C (own ++ cs) fp) T hc) st hf rfl (λ h=>F7 h) codeAny_compStart_list (λ Y D C s' R hY I0 hD hf' df st0 e0 hR=>?_) (λ _ ⟨its,nn,e,rv⟩ q _ p=>%[q.1,its,nn,rv|e ▸ p]) hRR;subst hY;have hb:=wB (Y:=aO X Nq s2 H2 scope C (own ++ cs) fp) (tg:=tg) (iter:=iter) (ifs:=ifs) (scope:=scope) (pos:=pos) (P5:=[]) (σ:=aW σ cap own.length) (W:=W) (D:=D) rfl hc (hit2 C) (hs2 C) (hg2 C) (hi2 C) (he C) λ _=>rfl;exact fI (ipos:=iter.pos) rfl (Turn.y (Y:=aO X Nq s2 H2 scope C (own ++ cs) fp) T hc) (hg C) (hi C) (by
   change Sem.onRaise (compTurn _ _ _ _ _) _=_;rw[mW];unfold vO;simp only[bind_assoc,pure_bind] <;> rfl) rfl AccL.nc
  (λ i m ys H w=>%[trivial|(turn i m ys H w).imp id λ h=>%[h.1,trivial|h.2]]) hb I0 hD hf' df st0 e0 %[[],_,rfl|.nil] w0 hR
def AF(wi:TI)(cap:No Nat)(k:Nat)(g:TG)(tt:TT)(wi2:TI)(g2:TG)(tt2:TT)(te:TE):TE:=λ σ H Q=>wi σ H λ J H1=>
 ∃W:Nat->Nat->No V->Hp->Prop,(∃m,W 0 m [] H1)/\mX σ cap k J g tt wi2 g2 tt2 te (λ ys H'=>∀p,H' p=none->Q (.ref p) (upd H' p (.lst ys))) W
theorem wC{wi:TI}(hc:X.calm=true)(hit:PI X tg iter wi)(ok:CompOk X scope own cs cap)
  (hg:∀Nq s2 H2 C fp,PG (aO X Nq s2 H2 scope C (own ++ cs) fp) tg g) (hi:∀Nq s2 H2 C fp,iF (aO X Nq s2 H2 scope C (own ++ cs) fp) ifs tt)
  (hit2:∀Nq s2 H2 C fp,PI (aO X Nq s2 H2 scope C (own ++ cs) fp) tg2 Nu wi2) (hg2:∀Nq s2 H2 C fp,PG (aO X Nq s2 H2 scope C (own ++ cs) fp) tg2 g2) (hi2:∀Nq s2 H2 C fp,iF (aO X Nq s2 H2 scope C (own ++ cs) fp) ifs2 tt2)
  (he:∀Nq s2 H2 C fp,PE (aO X Nq s2 H2 scope C (own ++ cs) fp) elt te)
  (hs:∀x,foldedSetIterable iter X.env x=pure x:=by intro _;rfl) (hs2:∀Nq s2 H2 C fp x,foldedSetIterable Nu (aO X Nq s2 H2 scope C (own ++ cs) fp).env x=pure x:=by intro _ _ _ _ _ _;rfl):PE X (.ListComp elt [%[tg,iter,ifs|0],%[tg2,Nu,ifs2|0]] scope pos) (AF wi cap own.length g tt wi2 g2 tt2 te):=by
 intro Nq s σ H Q I h;rw[eval_ListComp];show wpAny_comprehension_free (use:=none) rfl hs (eI λ y hy e=>I.ok.has y.1 (ok.free y hy e)) ok.kind ok.names (thn (hit Nq s σ H _ I h) λ v s1 h1=>thn h1 λ itv s2 h2=>?_);obtain⟨it,fp,tn,J,H2,e,I2,T,st2,f2,W,w0,turn⟩:=h2;subst e;show tw (RR:=λ acc C=>compPost (model X.prog X.w) X.A X.xe none (EP X Nq σ Q) acc C) I2 ok hc T st2 f2 (λ C=>hg _ _ _ _ _) (λ C=>hi _ _ _ _ _) (λ C=>hit2 _ _ _ _ _) (λ C=>hs2 _ _ _ _ _) (λ C=>hg2 _ _ _ _ _) (λ C=>hi2 _ _ _ _ _) (λ C=>he _ _ _ _ _) w0 turn λ D C s' ys H' hD %[_|q] I' fp' %[m|hn]=>?_;obtain⟨f0,f1,f2',f3,f4,f5⟩:=fp';exact%[m,hn|λ h' sb=>%[.ref D,_,I'.turned (t':=s'.toks) (λ b o hb e=>sb.extBut b o hb e) f0 f1 f3 f4 f5,U|q D hD]]
end
end L2
namespace PySem
open Sem (wp)
section
variable{prog:G0}{w:G2}{A:Around}{E:G3->F9->Prop}{s:F9}
theorem cf{d:Nj}{es:Nn DictEntry}{ep:Nat}{Q:G3->F9->Prop}(hd:(d == sysModules)=false)(hm:(∃o,s.heap.get? d=some o/\o.ExactDict/\o.data=.dict es ep))
  (hQ:Q (.ref s.heap.objs.size) { s with heap:=s.heap.push { cls:=.type "dict_keyiterator",data:=.fields #[.ref d,.int 0 0,.int es.size 0,.int ep 0] } }) :
  wpAny (model prog w) A (pyIter (.ref d)) Q E s:=by
 obtain⟨o,ho,hc,hdat⟩:=id hm;have hT:s.TypeIs (.ref d) "dict" := %[_,ho|hc.1]
 show wpAny_pyIter_slot hT F.slot_dict_iter (F6 F.slot_dict_iter hT F.entry_dict_iter ?_ (F.args_dict_iter_1 _));unfold Builtin.«dict.__iter__»;show A0 ?_;unfold Builtin.Dict.dictSlotNone;show A0 (wpAny_notOrdered_dict hT ?_);change wpAny _ _ (pure (Value.ref d)) _ _ s;show A3 ?_;change wpAny _ _ (Builtin.Dict.showsAll d >>= _) _ _ s;unfold Builtin.Dict.showsAll;rw[Nv (by rw[hd];exact B3)];show A0 (A3 ?_);show A0 (OY ho hdat ?_);show A0 (Oq ho hdat ?_);have hsz:es.size=es.size:=rfl;show A0 (F7 (A3 %[_,rfl,"dict_keyiterator",_,%[_,A9 _ rfl|rfl],F.slot_dict_keyiterator_next.lookup|?_]));simpa[rawInt,hsz]using hQ
theorem cq{it d:Nj}{i ep:Nat}{es:Nn DictEntry}{en:DictEntry}{Q:Nm G3->F9->Prop}(hit:s.heap.IsKeyIter it d i es.size ep)
  (hm:(∃o,s.heap.get? d=some o/\o.ExactDict/\o.data=.dict es ep)) (hx:es[i]?=some en)
  (hQ:∀h',h'.IsKeyIter it d (i+1) es.size ep->Heap.SameBut it s.heap h'->Q (some en.key) { s with heap:=h' }) :
  wpAny (model prog w) A (pyNext (.ref it)) Q E s:=by
 obtain⟨o,ho,hc,hd⟩:=id hit;obtain⟨od,hod,hcd,hdd⟩:=id hm;unfold pyNext;show A0 (OS (wpAny_callSpecial?_slot (name:=Str.ofString "__next__") hit.typeIs OZ
  (F6 OZ hit.typeIs F.entry_dict_keyiterator_next ?_ (F.args_dict_keyiterator_next_1 _))))
 show A0 (A3 ?_);show A0 ?_;show A0 ?_
 first | show A0 (OW hit.typeIs (A3 ?_)) | show A0 (wpAny_typeNameOf_keyiter hit.typeIs (A3 ?_))
 show A0 (wpAny_fieldsOf ho hd ?_);have hown:Builtin.Dict_items.ownsTuple "dict_keyiterator" = false:=∅
 simp only[hown,MN,OJ];change wpAny _ _ (if (Value.ref d == Value.none)=true then _ else _) _ _ s;rw[Nv (show¬ ((Value.ref d == Value.none)=true)from B3)];show A0 (A3 ?_);show A0 (OY hod hdd ?_);have hsz:es.size=es.size:=rfl;rw[Nv (by simp)];show A0 (A3 ?_);show A0 (Oq hod hdd ?_);rw[Nv (by simp)];show A3 ?_;have hlt:i < es.size:=by
  rcases Nh i es.size with h | h
  ·exact h
  ·rw[MH h]at hx;cases hx
 have hlt':i < es.size:=by rw[hsz];exact hlt
 have hkey:es[i]=en:=by rw[J9 hlt']at hx;exact C0 hx
 simp only[show¬ ((i:Int) < 0)from by lia,OJ,MF,J9 hlt'];show A0 ?_
 first | show A0 (OW hit.typeIs (A3 ?_)) | show A0 (wpAny_typeNameOf_keyiter hit.typeIs (A3 ?_))
 show A0 (wpAny_isOneOf_keyiter hit.typeIs ?_);change wpAny _ _ (setField (.ref it) 1 (rawInt ((i:Int)+1)) >>= _) _ _ s;show A0 (wpAny_setField ho hd (by simp) ?_);have hit':(s.heap.update it (Obj.mapFields (·.setIfInBounds 1 (rawInt ((i:Int)+1))))).IsKeyIter it d (i+1) es.size ep :=
  %[_,OG _ ho (Obj.isFreed_of_fields (Obj.data_mapFields hd _)),(Obj.cls_mapFields ..).trans hc|by rw[Obj.data_mapFields hd];simp[rawInt]]
 show A0 (N2 ?_);show A0 (wpAny_isOneOf_keyiter (s:={ s with heap:=s.heap.update it (Obj.mapFields (·.setIfInBounds 1 (rawInt ((i:Int)+1)))) }) hit'.typeIs ?_);change wpAny _ _ (pure es[i].key) _ _ _;exact A3 (A3 %[_,rfl|A3 (by rw[hkey];exact hQ _ hit' (N9 ..))])
theorem cA{it d:Nj}{i ep:Nat}{es:Nn DictEntry}{Q:Nm G3->F9->Prop}(hh:A.handled=none)(hit:s.heap.IsKeyIter it d i es.size ep)
  (hm:(∃o,s.heap.get? d=some o/\o.ExactDict/\o.data=.dict es ep)) (hx:es[i]?=none)
  (hQ:∀h',Heap.ExtBut it s.heap h'->Q none { s with heap:=h' }):wpAny (model prog w) A (pyNext (.ref it)) Q E s:=by
 obtain⟨o,ho,hc,hd⟩:=id hit;obtain⟨od,hod,hcd,hdd⟩:=id hm;unfold pyNext;show A0 (OS (wpAny_callSpecial?_slot (name:=Str.ofString "__next__") hit.typeIs OZ
  (F6 OZ hit.typeIs F.entry_dict_keyiterator_next ?_ (F.args_dict_keyiterator_next_1 _))))
 show A0 (A3 ?_);show A0 ?_;show A0 ?_
 first | show A0 (OW hit.typeIs (A3 ?_)) | show A0 (wpAny_typeNameOf_keyiter hit.typeIs (A3 ?_))
 show A0 (wpAny_fieldsOf ho hd ?_);have hown:Builtin.Dict_items.ownsTuple "dict_keyiterator" = false:=∅
 simp only[hown,MN,OJ];change wpAny _ _ (if (Value.ref d == Value.none)=true then _ else _) _ _ s;rw[Nv (show¬ ((Value.ref d == Value.none)=true)from B3)];show A0 (A3 ?_);show A0 (OY hod hdd ?_);have hsz:es.size=es.size:=rfl;rw[Nv (by simp)];show A0 (A3 ?_);show A0 (Oq hod hdd ?_);rw[Nv (by simp)];show A3 ?_;have hge:es.size<=i:=by simpa using hx
 simp only[show¬ ((i:Int) < 0)from by lia,OJ,MF,MH hge];show A0 ?_
 first | show A0 (OW hit.typeIs (A3 ?_)) | show A0 (wpAny_typeNameOf_keyiter hit.typeIs (A3 ?_))
 change wpAny _ _ (setField (.ref it) 0 .none >>= _) _ _ s;show A0 (wpAny_setField ho hd (by simp) ?_);change wpAny _ _ (newExc (.type "StopIteration") [] >>= _) _ _ _;show A0 ?_;simp only[newExc,newTuple];show A0 (F7 ?_ (by size_fits));show A0 (m:=firstArgMember _ _) (OV (a:=Value.none) (by first | rfl | (simp only[firstArgMember];rfl)) ?_);show F7 ?_ (by size_fits);simp only[raiseNew];show A0 (wpAny_handled ?_);rw[show A.in1.handled=none from hh];show A0 (A3 (wpAny_throw ?_));show A0 (OL (T := "StopIteration") (b:=true) %[_,A9 _ rfl|rfl] isSubtype_stop ?_);exact A3 (hQ _ (((N9 ..).extBut.push _).push _))
end
end PySem
namespace L2
open PySem PySem.Spec PyProof.Rows
def Itd(a:Nj)(ob:Obj)(kvs:No (No Key×V)):It :=
 %[λ i H=>i < kvs.length/\H a=some (.frz ob (.dT kvs)),λ i H x H'=>H'=H/\∃q k v,kvs[i]?=some (k,v)/\x=.ref q/\H q= ~~~(k.map kV)|λ i H=>i=kvs.length/\H a=some (.frz ob (.dT kvs))]
theorem nS{α β:Type}{F:α->β->Prop}:∀{l₁:No α}{l₂:No β}{i:Nat}{x:α},Paired F l₁ l₂->l₁[i]?=some x->∃y,l₂[i]?=some y/\F x y
 | _,_,0,_,.cons h _,e=>%[_,U|by cases e;exact h]
 | _,_,i+1,_,.cons _ r,e=>nS (i:=i) r (by simpa using e)
 | _,_,_,_,.nil,e=>by simp at e
theorem wD{α β:Type}{F G:α->β->Prop}:∀{l₁:No α}{l₂:No β},Paired F l₁ l₂->(∀x y,F x y->G x y)->Paired G l₁ l₂
 | _,_,.nil,_=>.nil
 | _,_,.cons h r,f=>.cons (f _ _ h) (wD r f)
theorem lL{α β:Type}{F:α->β->Prop}:∀{l₁:No α}{l₂:No β},Paired F l₁ l₂->l₁.length=l₂.length
 | _,_,.nil=>rfl
 | _,_,.cons _ r=>by rw[K3,K3,lL r]
theorem jY{P:G0}{w:G2}{K:C6}{tg:Expr}(a it:Nj)(ob:Obj)(kvs:No (No Key×V))(es:Nn DictEntry)(ep:Nat)(hx:ob.ExactDict)(hd:ob.data=.dict es ep)(hn:es.size=kvs.length) :
  Turn P w K tg (Itd a ob kvs) [it] it (λ i h=>h.IsKeyIter it a i es.size ep) where
 mem:=by simp
 obj:=λ i h st b hb=>by
  have e:b=it:=by simpa using hb
  subst e;obtain⟨o,e,c,d⟩:=st;exact%[o,e|λ v z=>by rw[d]at z;cases z]
 keep:=λ i h h' st k=>st.at λ o e=>k it (by simp) o e
 item:=by
  intro X hP hw hK hc i Nq s σ H E I hf st hg;subst hP hw hK;obtain⟨hi,hH⟩:=hg;obtain⟨h1,_,_,xs,pr,o,es',ep',h2,_,h3,h4,_⟩:=(show ObjOk X.prog X.w H s.heap a (.frz ob (.dT kvs))from I.hok a _ hH)
  rw[h1]at h2;cases h2;rw[hd]at h3;cases h3;have hk:kvs[i]?=some kvs[i]:=F4 hi;obtain⟨⟨k',q,v'⟩,hy,e1,e2,e3⟩:=nS pr hk;have hen:es[i]?=some (entryOfKey (tupleKind (bh X.prog X.w)) (k',q,v')):=by rw[<- K2,h4,J0,hy];rfl
  obtain⟨f0,f1,f2,f3,f4,f5⟩:=hf it (by simp);show cq st %[ob,h1,hx|hd] hen λ h' st' sb=>?_;have I1:Inv X Nq σ H { s with heap:=h' }:=I.turned (t':=s.toks) (λ b o hb e=>(sb.2 b hb).trans e) f0 f1 f3 f4 f5;obtain⟨o,e,c,d⟩:=id st';exact%[_,U|qI (s:={ s with heap:=h' }) e c d ∅ %[.ref q,H,I1,U,%[U,q,kvs[i].1,kvs[i].2,hk,U|e2],st'|λ b hb=>(hf b hb).1]]
 done:=by
  intro X hP hw hK hc i Nq s σ H E I hf st hg;subst hP hw hK;obtain⟨hi,hH⟩:=hg;obtain⟨h1,_⟩:=(show ObjOk X.prog X.w H s.heap a (.frz ob (.dT kvs))from I.hok a _ hH)
  obtain⟨f0,f1,f2,f3,f4,f5⟩:=hf it (by simp);exact cA (I.ok.hd hc) st %[ob,h1,hx|hd] (by rw[MH];lia) λ h' eb=>%[U|I.turned (t':=s.toks) (λ b o hb e=>eb b o hb e) f0 f1 f3 f4 f5]
 self:=λ _ _ _ _ _ st h=>wpAny_pyIter_keyiter st h
theorem nT{a:Nj}{ob:Obj}{kvs:No (No Key×V)}{g:TG}{tb:TS}{D:Ends}{σ:St}{H:Hp}(Pv:Nat->St->Hp->Prop)(h0:Pv 0 σ H)(hl:∀i σ H,i<=kvs.length->Pv i σ H->H a=some (.frz ob (.dT kvs)))
  (hs:∀i k v q σ H,kvs[i]?=some (k,v)->H q= ~~~(k.map kV)->Pv i σ H->g (.ref q) σ H λ σ2 H2=>tb { D with nx:=Pv (i+1),ct:=Pv (i+1),bk:=D.nx } σ2 H2) (hd:∀σ H,Pv kvs.length σ H->D.nx σ H) :
  ∃W:Nat->Nat->St->Hp->Prop,(∃m,W 0 m σ H)/\∀i m σ H,W i m σ H ->
   ((Itd a ob kvs).stop i H/\D.nx σ H)\/((Itd a ob kvs).go i H/\∃N:St->Hp->Prop,(∀σ' H',N σ' H'->∃m',m' < m/\W (i+1) m' σ' H')/\∀x H',(Itd a ob kvs).yld i H x H'->g x σ H' λ σ2 H2=>tb { D with nx:=N,ct:=N,bk:=D.nx } σ2 H2):=by
 show%[λ i m σ H=>m=kvs.length - i/\i<=kvs.length/\Pv i σ H,%[kvs.length,by simp,F1 _|h0]|?_];rintro i m σ H ⟨rfl,hi,p⟩;have q:=hl i σ H hi p
 by_cases hlt:i < kvs.length
 ·show .inr %[%[hlt|q],Pv (i+1),λ σ' H' p'=>%[_,⋯,U,hlt|p']|λ x H' y=>?_];obtain⟨e,qa,k,v,e1,e2,e3⟩:=y;subst e e2;exact hs i k v qa σ _ e1 e3 p
 ·have e:i=kvs.length:=⋯
  subst e;exact .inl %[%[U|q]|hd σ H p]
theorem tD{lo:Int}{n:Nat}{σ:St}{cap:No Nat}{k:Nat}{g g2:TG}{tt tt2:TT}{te:TE}{wi2:TI}{Q:No V->Hp->Prop}{H:Hp}(Pv:Nat->No V->Hp->Prop)(h0:Pv 0 [] H)
  (ht:∀i ys H',i < n->Pv i ys H'->g (.int (lo+i)) (aW σ cap k) H' λ σ2 H2=>leS (aW σ cap k) σ2/\tt σ2 H2 λ ok H3=>if ok=true then wi2 σ2 H3 (λ J2 H4=>∃W2:Nat->Nat->No V->Hp->Prop,(∃m2,W2 0 m2 ys H4)/\jX σ2 J2 g2 tt2 te (λ zs H5=>Nx n Pv i zs H5) W2)else Nx n Pv i ys H3)
  (hd:∀ys H',Pv n ys H'->ys.length<=sizeLine/\Q ys H'):∃W,(∃m,W 0 m [] H)/\mX σ cap k (Itr lo n) g tt wi2 g2 tt2 te Q W:=by
 show%[λ i m ys H'=>m=n - i/\i<=n/\Pv i ys H',%[_,U,F1 _|h0]|?_];rintro i m ys H' ⟨rfl,hi,p⟩
 by_cases hin:i < n
 ·show .inr %[hin|λ x H2 yl=>?_];obtain⟨e1,e2⟩:=yl;subst e1 e2;exact ht i ys _ hin p
 ·have e:i=n:=⋯
  subst e;obtain⟨a1,a2⟩:=hd ys H' p;exact .inl %[B4 _,a1|a2]
theorem AG{lo:Int}{n:Nat}{σ2:St}{g2:TG}{tt2:TT}{te:TE}{N:No V->Hp->Prop}{H:Hp}{ys:No V}(Pv:Nat->No V->Hp->Prop)(h0:Pv 0 ys H)
  (ht:∀i zs H',i < n->Pv i zs H'->zs.length < sizeLine/\g2 (.int (lo+i)) σ2 H' λ σ3 H2=>leS σ2 σ3/\tt2 σ3 H2 λ ok H3=>if ok=true then te σ3 H3 (λ v H4=>Nx n Pv i (zs ++ [v]) H4)else Nx n Pv i zs H3)
  (hd:∀zs H',Pv n zs H'->N zs H'):∃W2:Nat->Nat->No V->Hp->Prop,(∃m2,W2 0 m2 ys H)/\jX σ2 (Itr lo n) g2 tt2 te N W2:=by
 show%[λ i m zs H'=>m=n - i/\i<=n/\Pv i zs H',%[_,U,F1 _|h0]|?_];rintro i m zs H' ⟨rfl,hi,p⟩
 by_cases hin:i < n
 ·obtain⟨e,hg⟩:=ht i zs H' hin p;show .inr %[hin,e|λ x H2 yl=>?_];obtain⟨e1,e2⟩:=yl;subst e1 e2;exact hg
 ·have e:i=n:=⋯
  subst e;exact .inl %[B4 _|hd zs H' p]
theorem qe{P:G0}{w:G2}{K:C6}{tg:Expr}(it:Nj)(lo left:Int)(h0:left<=0):Turn P w K tg (Itr lo 0) [it] it (λ i h=>IsLongIter h it lo left 1) where
 mem:=by simp
 obj:=λ i h st b hb=>by
  have e:b=it:=by simpa using hb
  subst e;exact⟨_,st,λ v z=>by
   have z':Data.fields _=Data.cell v:=z;cases z'⟩
 keep:=λ i h h' st k=>k it (by simp) _ st
 item:=by intro X hP hw hK hc i Nq s σ H E I hf st hg;exact absurd hg (F2 _)
 done:=by intro X hP hw hK hc i Nq s σ H E I hf st hg;subst hP hw hK;obtain⟨f0,f1,f2,f3,f4,f5⟩:=hf it (by simp);exact wpAny_pyNext_long_end (I.ok.hd hc) st h0 λ h' eb=>%[U|I.turned (t':=s.toks) (λ b o hb e=>eb b o hb e) f0 f1 f3 f4 f5]
 self:=λ _ _ _ _ _ st h=>wpAny_pyIter_longiter st h
section
variable{X:Cx}{tg:Expr}
def AH(ta:TA):TI:=λ σ H R=>ta σ H λ vs H1=>∃i j:Int,vs=[.int i,.int j]/\(-(2 ^ 62)<=i/\i < 2 ^ 62/\j < 2 ^ 62)/\R (Itr i (j - i).toNat) H1
theorem jZ{a b:Expr}{ta:TA}{p pos:Pos}(hg:Gl X "range")(hm:X.mg "range" = none)(ha:PA X [a,b] ta)(hs:starEach [a,b] X.env=[(false,eval a X.env),(false,eval b X.env)]:=by rfl)(hs2:starEach [b] X.env=[(false,eval b X.env)]:=by rfl) :
  PI X tg (.Call (.Name "range" p) [a,b] [] pos) (AH ta):=by
 intro Nq s σ H R I h;show Call_ (eF I hg hm boot_range (N8 (thn (ha pos Nq s σ H _ I h) ?_) (by rw[hs,hs2]) (by rw[hs2];rfl)));rintro us s1 ⟨vs,H1,I1,r1,q1⟩;obtain⟨i,j,e,⟨q1,q2,q4⟩,q⟩:=q1;subst e;cases r1 with
 | cons r rr=>
  cases rr with
  | cons r' rr=>
   cases rr;obtain⟨t,rfl⟩:=r;obtain⟨t',rfl⟩:=r'
   by_cases q3:-(2 ^ 62)<=j
   ·exact call_range_2 (jF I1 q1 q2 q3 q4 q)
   show call_range_2 ?_;have z0:(j - i).toNat=0:=⋯
   rw[z0]at q;have I2:Inv X Nq σ H1 { s1 with heap:=s1.heap.push { cls:=.type "range",data:=.fields #[.int i t,.int j t',.int 1 s1.toks] },toks:=s1.toks+1 }:=I1.kept λ b o e=>A8 _ e;have rs0:Builtin.Range.rangeSize i j 1=0:=by rw[rangeSize_one,Nv ⋯]
   cases hsm:Builtin.Range.small i j 1 with
   | false=>
    show wpAny_pyIter_longrange (IsRange.new ..) hsm ?_;show%[_,[(s1.heap.push { cls:=.type "range",data:=.fields #[.int i t,.int j t',.int 1 s1.toks] }).objs.size],_,_,H1,U,I2.kept (t':=s1.toks+1) λ b o e=>A8 _ e,qe _ i 0 (E8 _),?_,λ b hb=>?_|q]
    ·rw[rs0];exact A9 _ rfl
    ·have e:b=(s1.heap.push { cls:=.type "range",data:=.fields #[.int i t,.int j t',.int 1 s1.toks] }).objs.size:=by simpa using hb
     subst e;exact I2.fpOk (B4 _) (I2.hok.fresh (B4 _))
   | true=>
    show wpAny_pyIter_range (IsRange.new ..) hsm ?_;show%[_,[(s1.heap.push { cls:=.type "range",data:=.fields #[.int i t,.int j t',.int 1 s1.toks] }).objs.size],_,_,H1,U,I2.kept (t':=s1.toks+1) λ b o e=>A8 _ e,jD _ i 0,?_,λ b hb=>?_|q]
    ·rw[rs0];change IsRangeIter _ _ (i+((0:Nat):Int) * 1) (((0:Nat):Int) - ((0:Nat):Int)) 1;have e1:i+((0:Nat):Int) * 1=i:=by simp
     have e2:((0:Nat):Int) - ((0:Nat):Int)=0:=rfl;rw[e1,e2];exact A9 _ rfl
    ·have e:b=(s1.heap.push { cls:=.type "range",data:=.fields #[.int i t,.int j t',.int 1 s1.toks] }).objs.size:=by simpa using hb
     subst e;exact I2.fpOk (B4 _) (I2.hok.fresh (B4 _))
def AI(tl:TE):TI:=λ σ H R=>tl σ H λ x H1=>∃a kvs,x=.ref a/\((H1 a=some (.dT kvs)/\∀ob,R (Itd a ob kvs) (upd H1 a (.frz ob (.dT kvs))))\/∃ob,H1 a=some (.frz ob (.dT kvs))/\R (Itd a ob kvs) H1)
theorem wE{l:Expr}{tl:TE}(hl:PE X l tl):PI X tg l (AI tl):=by
 intro Nq s σ H R I h;show thn (hl Nq s σ H _ I h) ?_;rintro v s1 ⟨x,H1,I1,r1,q1⟩;obtain⟨a,kvs,e,q⟩:=q1;subst e;cases r1;rcases q with⟨hH,q⟩ | ⟨ob,hH,q⟩
 ·obtain⟨hz,hs,xs,pr,o,es,ep,h1,h2,h3,h4,h5⟩:=(show ObjOk X.prog X.w H1 s1.heap a (.dT kvs)from I1.hok a _ hH)
  have hn:es.size=kvs.length:=by rw[lL pr,<- J7,h4,B5]
  have I2:Inv X Nq σ (upd H1 a (.frz o (.dT kvs))) s1:=by
   have:=I1.write (x:=a) (e:=a) (o:=.frz o (.dT kvs)) (h':=s1.heap) (t':=s1.toks) (by rw[hH];trivial) (.inl rfl) (λ b u _ e=>e) %[o|h1] %[h1,hz,hs,xs,?_,o,es,ep,h1,h2,h3,h4|h5]
   ·exact this
   ·show wD pr λ p q %[e1,e2|e3]=>%[e1,?_|e3]
    rw[ak (λ z=>by rw[z,hH]at e2;cases e2)];exact e2
  show cf hs %[o,h1,h2|h3] ?_;show%[s1.heap.objs.size,[s1.heap.objs.size],_,_,_,U,I2.kept (t':=s1.toks) λ b o e=>A8 _ e,jY a _ o kvs es ep h2 h3 hn,%[_,A9 _ rfl,U|U],λ b hb=>?_|q o];have e:b=s1.heap.objs.size:=by simpa using hb
  subst e;exact I2.fpOk (B4 _) (I2.hok.fresh (B4 _))
 ·obtain⟨h0,hz,hs,xs,pr,o,es,ep,h1,h2,h3,h4,h5⟩:=(show ObjOk X.prog X.w H1 s1.heap a (.frz ob (.dT kvs))from I1.hok a _ hH)
  rw[h0]at h1;cases h1;have hn:es.size=kvs.length:=by rw[lL pr,<- J7,h4,B5]
  show cf hs %[ob,h0,h2|h3] ?_;show%[s1.heap.objs.size,[s1.heap.objs.size],_,_,_,U,I1.kept (t':=s1.toks) λ b o e=>A8 _ e,jY a _ ob kvs es ep h2 h3 hn,%[_,A9 _ rfl,U|U],λ b hb=>?_|q];have e:b=s1.heap.objs.size:=by simpa using hb
  subst e;exact I1.fpOk (B4 _) (I1.hok.fresh (B4 _))
end
theorem tE{a:Nj}{ob:Obj}{kvs:No (No Key×V)}{σ:St}{cap:No Nat}{k:Nat}{g:TG}{tt:TT}{te:TE}{Q:No V->Hp->Prop}{H:Hp}(Pv:Nat->No V->Hp->Prop)(h0:Pv 0 [] H)
  (hl:∀i ys H',i<=kvs.length->Pv i ys H'->H' a=some (.frz ob (.dT kvs)))
  (ht:∀i kk v q ys H',kvs[i]?=some (kk,v)->H' q= ~~~(kk.map kV)->Pv i ys H'->g (.ref q) (aW σ cap k) H' λ σ2 H2=>leS (aW σ cap k) σ2/\tt σ2 H2 λ ok H3=>if ok=true then te σ2 H3 (λ v H4=>Nx kvs.length Pv i (ys ++ [v]) H4)else Nx kvs.length Pv i ys H3)
  (hz:∀i ys H',i < kvs.length->Pv i ys H'->ys.length < sizeLine) (hd:∀ys H',Pv kvs.length ys H'->ys.length<=sizeLine/\Q ys H'):∃W,(∃m,W 0 m [] H)/\eS σ cap k (Itd a ob kvs) g tt te Q W:=by
 show%[λ i m ys H'=>m=kvs.length - i/\i<=kvs.length/\Pv i ys H',%[_,U,F1 _|h0]|?_];rintro i m ys H' ⟨rfl,hi,p⟩;have q:=hl i ys H' hi p
 by_cases hin:i < kvs.length
 ·show .inr %[%[hin|q],hz i ys H' hin p|λ x H2 yl=>?_];obtain⟨e,qa,k',v',e1,e2,e3⟩:=yl;subst e e2;exact ht i k' v' qa ys _ e1 e3 p
 ·have e:i=kvs.length:=⋯
  subst e;obtain⟨a1,a2⟩:=hd ys H' p;exact .inl %[%[U|q],a1|a2]
end L2
namespace PySem
open Sem (wp)
section
variable{prog:G0}{w:G2}{A:Around}{E:G3->F9->Prop}{s:F9}
theorem fU{v d:Nj}{es:Nn DictEntry}{ep:Nat}{Q:G3->F9->Prop}(hv:s.heap.IsItemsView v d)(hm:(∃o,s.heap.get? d=some o/\o.ExactDict/\o.data=.dict es ep))
  (hQ:Q (.ref s.heap.objs.size) { s with heap:=s.heap.push { cls:=.type "dict_itemiterator",data:=.fields #[.none,.bool false,.ref d,.int 0 0,.int es.size 0,.int ep 0,.none,.none] } }) :
  wpAny (model prog w) A (pyIter (.ref v)) Q E s:=by
 obtain⟨ov,hov,hcv,hdv⟩:=id hv;obtain⟨o,ho,hc,hdat⟩:=id hm;show wpAny_pyIter_slot hv.typeIs F.slot_dict_items_iter (F6 F.slot_dict_items_iter hv.typeIs F.entry_dict_items_iter ?_ (F.args_dict_items_iter_1 _));unfold Builtin.«dict_items.__iter__»;show A0 (A3 ?_);show A0 ?_;unfold Builtin.Dict_items.dictOf;show A0 (OE hov hdv (x:=.ref d) rfl (A3 ?_));show A0 ?_;unfold Builtin.Dict_items.newIterator;show A0 (OY ho hdat ?_);show A0 (Oq ho hdat ?_);have hsz:es.size=es.size:=rfl;have hown:Builtin.Dict_items.ownsTuple "dict_itemiterator" = true:=∅
 simp only[hown,Oo];show F7 (A3 %[_,rfl,"dict_itemiterator",_,%[_,A9 _ rfl|rfl],F.slot_dict_itemiterator_next.lookup|?_])
  (by simp only[sizeOk,Builtin.Dict_items.ownedTupleFields,K1,K4,K3,List.length_nil,Ot];lia)
 simpa[rawInt,hsz,Builtin.Dict_items.ownedTupleFields]using hQ
theorem dP{it d:Nj}{i ep:Nat}{es:Nn DictEntry}{en:DictEntry}{ok ov:G3}{Q:Nm G3->F9->Prop}(hit:IsItemIter s.heap it d i es.size ep ok ov)
  (hm:(∃o,s.heap.get? d=some o/\o.ExactDict/\o.data=.dict es ep)) (hx:es[i]?=some en)
  (hQ:∀h',IsItemIterOut h' it d (i+1) es.size ep en.key en.val s.heap.objs.size ->
   h'.get? s.heap.objs.size=some { cls:=.type "tuple",data:=.seq #[en.key,en.val] }->h'.objs.size=s.heap.objs.size+1 ->
   (∀b o,b≠it->s.heap.get? b=some o->h'.get? b=some o)->Q (↑s.heap.objs.size) { s with heap:=h' }) :
  wpAny (model prog w) A (pyNext (.ref it)) Q E s:=by
 obtain⟨hp,g,dr,tk,os⟩:=s;obtain⟨od,hod,hcd,hdd⟩:=id hm;have hT:Shared.TypeIs %[hp,g,dr,tk|os] (.ref it) "dict_itemiterator" := %[_,hit|U]
 unfold pyNext;show A0 (OS (wpAny_callSpecial?_slot (name:=Str.ofString "__next__") hT OX
  (F6 OX hT F.entry_dict_itemiterator_next ?_ (F.args_dict_itemiterator_next_1 _))))
 show A0 (A3 ?_);show A0 ?_;show A0 ?_
 first | show A0 (OR hT (A3 ?_)) | show A0 (wpAny_typeNameOf_itemiter hT (A3 ?_))
 show A0 (wpAny_fieldsOf hit rfl ?_);have hown:Builtin.Dict_items.ownsTuple "dict_itemiterator" = true:=∅
 simp only[hown,Oo];change wpAny _ _ (if (Value.ref d == Value.none)=true then _ else _) _ _ _;rw[Nv (show¬ ((Value.ref d == Value.none)=true)from B3)];show A0 (A3 ?_);show A0 (OY hod hdd ?_);have hsz:es.size=es.size:=rfl;rw[Nv (by simp)];show A0 (A3 ?_);show A0 (Oq hod hdd ?_);rw[Nv (by simp)];show A3 ?_;have hlt:i < es.size:=by
  rcases Nh i es.size with h | h
  ·exact h
  ·rw[MH h]at hx;cases hx
 have hlt':i < es.size:=hlt;have hkey:es[i]=en:=by rw[J9 hlt']at hx;exact C0 hx
 subst hkey;simp only[show¬ ((i:Int) < 0)from by lia,OJ,MF,J9 hlt'];show A0 ?_
 first | show A0 (OR hT (A3 ?_)) | show A0 (wpAny_typeNameOf_itemiter hT (A3 ?_))
 show A0 (wpAny_isOneOf_itemiter hT ?_);change wpAny _ _ (setField (.ref it) 3 (rawInt ((i:Int)+1)) >>= _) _ _ %[hp,g,dr,tk|os];show A0 (N7 hit (by simp) λ h₁ he₁ hs₁=>?_)
 replace hs₁:Heap.SameBut it hp h₁:=hs₁
 replace he₁:IsItemIter h₁ it d (i+1) es.size ep ok ov:=by
  have e:((i+1:Nat):Int)=(i:Int)+1:=⋯
  unfold IsItemIter;rw[e];simpa[rawInt]using he₁
 have hT₁:Shared.TypeIs %[h₁,g,dr,tk|os] (.ref it) "dict_itemiterator" := %[_,he₁|U]
 show A0 (N2 ?_);show A0 (wpAny_isOneOf_itemiter hT₁ ?_);show A0 (wpAny_isOneOf_itemiter hT₁ ?_);change wpAny _ _ (Builtin.Dict_items.pairFromOwner (.ref it) 6 es[i].key es[i].val) _ _ %[h₁,g,dr,tk|os];unfold Builtin.Dict_items.pairFromOwner;show A0 (wpAny_newTuple ?_);have he₂:IsItemIter (h₁.push { cls:=.type "tuple",data:=.seq #[es[i].key,es[i].val] }) it d (i+1) es.size ep ok ov:=A8 _ he₁;generalize hh₂:h₁.push { cls:=.type "tuple",data:=.seq #[es[i].key,es[i].val] }=h₂ at he₂;have hz₁:h₁.objs.size=hp.objs.size:=hs₁.1;have hil:it < hp.objs.size:=B0 hit;have ht₂:h₂.get? hp.objs.size=some { cls:=.type "tuple",data:=.seq #[es[i].key,es[i].val] }:=by rw[<- hh₂,<- hz₁];exact A9 _ rfl
 have hz₂:h₂.objs.size=hp.objs.size+1:=by rw[<- hh₂,N5,hz₁]
 have hk₂:∀b o,b≠it->hp.get? b=some o->h₂.get? b=some o:=λ b o hb e=>by rw[<- hh₂];exact A8 _ (hs₁.extBut b o hb e)
 change wpAny _ _ (Builtin.Dict_items.ownedTupleIsFree (.ref it) >>= _) _ _ %[h₂,g,dr,tk|os];rw[hz₁];clear hh₂ he₁ hs₁ hT₁ hz₁ h₁;show A0 ?_;unfold Builtin.Dict_items.ownedTupleIsFree;show A0 (OE he₂ rfl (x:=.none) rfl (A3 ?_));simp only[Oo];show A0 (OE he₂ rfl (x:=ok) rfl ?_);show A0 (OE he₂ rfl (x:=ov) rfl ?_);show A0 (N7 he₂ (by simp) λ h₃ he₃ hs₃=>?_)
 replace hs₃:Heap.SameBut it h₂ h₃:=hs₃
 replace he₃:IsItemIter h₃ it d (i+1) es.size ep es[i].key ov:=he₃
 show A0 (N7 he₃ (by simp) λ h₄ he₄ hs₄=>?_)
 replace hs₄:Heap.SameBut it h₃ h₄:=hs₄
 replace he₄:IsItemIter h₄ it d (i+1) es.size ep es[i].key es[i].val:=he₄
 show A0 (N7 he₄ (by simp) λ h₅ he₅ hs₅=>?_)
 replace hs₅:Heap.SameBut it h₄ h₅:=hs₅
 replace he₅:IsItemIterOut h₅ it d (i+1) es.size ep es[i].key es[i].val hp.objs.size:=he₅
 show A0 (N7 he₅ (by simp) λ h₆ he₆ hs₆=>?_)
 replace hs₆:Heap.SameBut it h₅ h₆:=hs₆
 replace he₆:IsItemIterOut h₆ it d (i+1) es.size ep es[i].key es[i].val hp.objs.size:=he₆
 show A0 (wpAny_letGo (A3 (A3 %[_,rfl|A3 (hQ h₆ he₆ ?_ ?_ ?_)])))
 ·exact hs₆.extBut _ _ (MU hil) (hs₅.extBut _ _ (MU hil) (hs₄.extBut _ _ (MU hil) (hs₃.extBut _ _ (MU hil) ht₂)))
 ·change h₆.objs.size=hp.objs.size+1;rw[hs₆.1,hs₅.1,hs₄.1,hs₃.1,hz₂]
 ·exactλ b o hb e=>hs₆.extBut b o hb (hs₅.extBut b o hb (hs₄.extBut b o hb (hs₃.extBut b o hb (hk₂ b o hb e))))
theorem dZ{it d:Nj}{i ep:Nat}{es:Nn DictEntry}{ok ov:G3}{Q:Nm G3->F9->Prop}(hh:A.handled=none)(hit:IsItemIter s.heap it d i es.size ep ok ov)
  (hm:(∃o,s.heap.get? d=some o/\o.ExactDict/\o.data=.dict es ep)) (hx:es[i]?=none)
  (hQ:∀h',Heap.ExtBut it s.heap h'->Q none { s with heap:=h' }):wpAny (model prog w) A (pyNext (.ref it)) Q E s:=by
 obtain⟨od,hod,hcd,hdd⟩:=id hm;have hT:s.TypeIs (.ref it) "dict_itemiterator" := %[_,hit|U]
 unfold pyNext;show A0 (OS (wpAny_callSpecial?_slot (name:=Str.ofString "__next__") hT OX
  (F6 OX hT F.entry_dict_itemiterator_next ?_ (F.args_dict_itemiterator_next_1 _))))
 show A0 (A3 ?_);show A0 ?_;show A0 ?_
 first | show A0 (OR hT (A3 ?_)) | show A0 (wpAny_typeNameOf_itemiter hT (A3 ?_))
 show A0 (wpAny_fieldsOf hit rfl ?_);have hown:Builtin.Dict_items.ownsTuple "dict_itemiterator" = true:=∅
 simp only[hown,Oo];change wpAny _ _ (if (Value.ref d == Value.none)=true then _ else _) _ _ s;rw[Nv (show¬ ((Value.ref d == Value.none)=true)from B3)];show A0 (A3 ?_);show A0 (OY hod hdd ?_);have hsz:es.size=es.size:=rfl;rw[Nv (by simp)];show A0 (A3 ?_);show A0 (Oq hod hdd ?_);rw[Nv (by simp)];show A3 ?_;have hge:es.size<=i:=by simpa using hx
 simp only[show¬ ((i:Int) < 0)from by lia,OJ,MF,MH hge];show A0 ?_
 first | show A0 (OR hT (A3 ?_)) | show A0 (wpAny_typeNameOf_itemiter hT (A3 ?_))
 change wpAny _ _ (setField (.ref it) 2 .none >>= _) _ _ s;show A0 (wpAny_setField hit rfl (by simp) ?_);change wpAny _ _ (newExc (.type "StopIteration") [] >>= _) _ _ _;show A0 ?_;simp only[newExc,newTuple];show A0 (F7 ?_ (by size_fits));show A0 (m:=firstArgMember _ _) (OV (a:=Value.none) (by first | rfl | (simp only[firstArgMember];rfl)) ?_);show F7 ?_ (by size_fits);simp only[raiseNew];show A0 (wpAny_handled ?_);rw[show A.in1.handled=none from hh];show A0 (A3 (wpAny_throw ?_));show A0 (OL (T := "StopIteration") (b:=true) %[_,A9 _ rfl|rfl] isSubtype_stop ?_);exact A3 (hQ _ (((N9 ..).extBut.push _).push _))
theorem ke:entryFor table "dict_itemiterator.__iter__" = some Builtin.«dict_keyiterator.__iter__» :=
 entryFor_alias (id' := "dict_keyiterator.__iter__") (by kernel_rfl) rfl ∅ (by kernel_rfl)
theorem eK{it d:Nj}{i n ep:Nat}{ok ov:G3}{Q:G3->F9->Prop}(hit:IsItemIter s.heap it d i n ep ok ov)(h:Q (.ref it) s):wpAny (model prog w) A (pyIter (.ref it)) Q E s:=by
 have hT:s.TypeIs (.ref it) "dict_itemiterator" := %[_,hit|U]
 show wpAny_pyIter_slot hT F.slot_dict_itemiterator_iter (F6 F.slot_dict_itemiterator_iter hT ke ?_ (F.args_dict_itemiterator_iter_1 _));change wpAny _ _ (ret (.ref it)) _ _ s;exact A3 %[_,rfl,"dict_itemiterator",_,hT,F.slot_dict_itemiterator_next.lookup|h]
theorem AJ{d:Nj}{o:Obj}{Q:G3->F9->Prop}(ho:s.heap.get? d=some o)(hc:o.ExactDict)(hz:(d == sysModules)=false)(h:Q (.ref s.heap.objs.size) { s with heap:=s.heap.push { cls:=.type "dict_items",data:=.fields #[.ref d] } }) :
  wpAny (model prog w) A (call (.builtin "dict.items") [.ref d]) Q E s:=by
 have ty:s.TypeIs (.ref d) "dict" := %[o,ho|hc.1]
 show call_meetsIn (S:=λ _ R s'=>s'=s/\R (.ok (.ret (.ref s.heap.objs.size))) { s with heap:=s.heap.push { cls:=.type "dict_items",data:=.fields #[.ref d] } }) PySem.F.slot_dict_items ty PySem.F.entry_dict_items (PySem.F.args_dict_items_1 _) (.of_wp λ A R s' %[e|h]=>?_) %[rfl|h];subst e;unfold Builtin.«dict.items»;show A0 ?_;unfold Builtin.Dict.noArgs;show A0 (wpAny_notOrdered_dict ty ?_);change wpAny _ _ (pure d) _ _ s';show A3 ?_;change wpAny _ _ (Builtin.Dict.showsAll d >>= _) _ _ s';unfold Builtin.Dict.showsAll;rw[Nv (by rw[hz];exact B3)];show A0 (A3 ?_);exact A0 (F7 (A3 %[_,rfl|h]))
end
end PySem
namespace L2
open PySem PySem.Spec PyProof.Rows
def Iti(a:Nj)(ob:Obj)(kvs:No (No Key×V)):It :=
 %[λ i H=>i < kvs.length/\H a=some (.frz ob (.dT kvs)),λ i H x H'=>∃p q k v,kvs[i]?=some (k,v)/\H p=none/\H q= ~~~(k.map kV)/\x=.ref p/\H'=upd H p (.tup [.ref q,v])|λ i H=>i=kvs.length/\H a=some (.frz ob (.dT kvs))]
theorem qg{P:G0}{w:G2}{K:C6}{el:No Expr}{kk:Nat}{tp:Pos}(a it:Nj)(ob:Obj)(kvs:No (No Key×V))(es:Nn DictEntry)(ep:Nat)(hx:ob.ExactDict)(hd:ob.data=.dict es ep)(hn:es.size=kvs.length) :
  Turn P w K (.Tuple el kk tp) (Iti a ob kvs) [it] it (λ i h=>∃ok ov,IsItemIter h it a i es.size ep ok ov) where
 mem:=by simp
 obj:=λ i h st b hb=>by
  have e:b=it:=by simpa using hb
  subst e;obtain⟨ok,ov,st⟩:=st;exact%[_,st|λ v z=>by cases z]
 keep:=λ i h h' ⟨ok,ov,st⟩ k=>%[ok,ov|k it (by simp) _ st]
 item:=by
  intro X hP hw hK hc i Nq s σ H E I hf st hg;subst hP hw hK;obtain⟨hi,hH⟩:=hg;obtain⟨ok,ov,st⟩:=st;obtain⟨h1,_,_,xs,pr,o,es',ep',h2,_,h3,h4,_⟩:=(show ObjOk X.prog X.w H s.heap a (.frz ob (.dT kvs))from I.hok a _ hH)
  rw[h1]at h2;cases h2;rw[hd]at h3;cases h3;have hk:kvs[i]?=some kvs[i]:=F4 hi;obtain⟨⟨k',q,v'⟩,hy,e1,e2,e3⟩:=nS pr hk;have hen:es[i]?=some (entryOfKey (tupleKind (bh X.prog X.w)) (k',q,v')):=by rw[<- K2,h4,J0,hy];rfl
  have il:it < s.heap.objs.size:=B0 st;show dP st %[ob,h1,hx|hd] hen λ h' b1 b2 b3 bk=>%[_,U|?_]
  show wpAny_letOwnedTupleGo_items (s:={ s with heap:=h' }) b1 λ h'' c1 cs=>?_;have cs:Heap.SameBut it h' h'':=cs;have k2:∀b o,b∉[it]->s.heap.get? b=some o->h''.get? b=some o:=λ b o hb q=>by
   have hb:b≠it:=by simpa using hb
   exact cs.extBut b o hb (bk b o hb q)
  have I1:Inv X Nq σ H { s with heap:=h'' }:=I.turnedN (t':=s.toks) hf k2;have hp:=cs.extBut _ _ (MU il) b2;have hn0:H s.heap.objs.size=none:=I.hok.fresh (B4 _);have fpk:=I.fpOk (H':=H) (B4 _) hn0;have I2:Inv X Nq σ (upd H s.heap.objs.size (.tup [.ref q,kvs[i].2])) { s with heap:=h'' }:=I1.track fpk I.sz %[by change 2<=sizeLine;decide,[.ref q,v'],.cons rfl (.cons e3 .nil),_,hp,U,_|U];show%[.ref s.heap.objs.size,_,I2,U,%[_,q,_,_,hk,hn0,e2,U|U],%[_,_|c1]|λ b hb=>?_];have e:b=it:=by simpa using hb
  subst e;rw[ak (C1 il)];exact(hf b hb).1
 done:=by
  intro X hP hw hK hc i Nq s σ H E I hf st hg;subst hP hw hK;obtain⟨hi,hH⟩:=hg;obtain⟨ok,ov,st⟩:=st;obtain⟨h1,_⟩:=(show ObjOk X.prog X.w H s.heap a (.frz ob (.dT kvs))from I.hok a _ hH)
  obtain⟨f0,f1,f2,f3,f4,f5⟩:=hf it (by simp);exact dZ (I.ok.hd hc) st %[ob,h1,hx|hd] (by rw[MH];lia) λ h' eb=>%[U|I.turned (t':=s.toks) (λ b o hb e=>eb b o hb e) f0 f1 f3 f4 f5]
 self:=λ A i s Q E ⟨ok,ov,st⟩ h=>eK st h
section
variable{X:Cx}
def AK(tl:TE):TI:=λ σ H R=>tl σ H λ x H1=>∃a kvs,x=.ref a/\H1 a=some (.dT kvs)/\∀ob,R (Iti a ob kvs) (upd H1 a (.frz ob (.dT kvs)))
theorem nU{l:Expr}{tl:TE}{apos cpos tp:Pos}{el:No Expr}{kk:Nat}(hl:PE X l tl)
  (hbase:attributeBase l "items" X.env (eval l X.env)=eval l X.env:=by rfl) (hline:(apos.endLine == cpos.line)=true:=by rfl):PI X (.Tuple el kk tp) (.Call (.Attribute l "items" apos) [] [] cpos) (AK tl):=by
 intro Nq s σ H R I h;show wpAny_Call_method0_late hbase hline (thn (hl Nq s σ H _ I h) ?_);rintro v s1 ⟨x,H1,I1,r1,a,kvs,e,hH,q⟩;subst e;cases r1;obtain⟨hz,hs,xs,pr,o,es,ep,h1,h2,h3,h4,h5⟩:=(show ObjOk X.prog X.w H1 s1.heap a (.dT kvs)from I1.hok a _ hH)
 have hn:es.size=kvs.length:=by rw[lL pr,<- J7,h4,B5]
 have I2:Inv X Nq σ (upd H1 a (.frz o (.dT kvs))) s1:=by
  have:=I1.write (x:=a) (e:=a) (o:=.frz o (.dT kvs)) (h':=s1.heap) (t':=s1.toks) (by rw[hH];trivial) (.inl rfl) (λ b u _ e=>e) %[o|h1] %[h1,hz,hs,xs,?_,o,es,ep,h1,h2,h3,h4|h5]
  ·exact this
  ·show wD pr λ p q %[e1,e2|e3]=>%[e1,?_|e3]
   rw[ak (λ z=>by rw[z,hH]at e2;cases e2)];exact e2
 show⟨"dict","dict.items",PySem.F.plainAttrs_dict,PySem.F.slot_dict_items,PySem.F.type_dict_items,%[o,h1|h2.1],(λ b e2=>by cases e2;exact%[o,h1|h2.2.1]),Calls.callWith_builtin rfl (PySem.evalArgs_none (AJ h1 h2 hs ?_))⟩;have h1':(s1.heap.push { cls:=.type "dict_items",data:=.fields #[.ref a] }).get? a=some o:=A8 _ h1;show fU (d:=a) (es:=es) (ep:=ep) %[_,A9 _ rfl,rfl|rfl] %[o,h1',h2|h3] ?_;show%[_,[_],_,_,_,U,I2.kept (t':=s1.toks) λ b o e=>A8 _ (A8 _ e),qg a _ o kvs es ep h2 h3 hn,%[_,_|A9 _ rfl],λ b hb=>?_|q o];have e:b=(s1.heap.push { cls:=.type "dict_items",data:=.fields #[.ref a] }).objs.size:=by simpa using hb
 have hb':s1.heap.objs.size<=b:=by rw[e,N5];lia
 exact I2.fpOk hb' (I2.hok.fresh hb')
end
end L2
namespace PyProof.Rows
set_option autoImplicit false
open PySem
def yP:Bool->Nk->Nn Nk->Nat->Nat->Nat->StateT SortSt Sem (Nm Nat):=sortPriv% PySem.Builtin.gallop
def wF:Nn Nk->Nn Nk->StateT SortSt Sem (Nn Nk):=sortPriv% PySem.Builtin.mergeLo
def wG:Nn Nk->Nn Nk->StateT SortSt Sem (Nn Nk):=sortPriv% PySem.Builtin.mergeHi
def KdA(κ:KeyKind)(a:Nn Nk):Prop:=∀(i:Nat)(p:Nk),a[i]?=some p->∃k,κ.keyOf p.1=some k
section
variable{prog:G0}{w:G2}{A:Around}{E:G3->F9->Prop}{s:F9}{κ:KeyKind}{κ0:SortKind}
theorem gQ(hO:bf prog w A s κ0 κ){st:SortSt}{x y:Nk}{Q:Nm Bool->SortSt->Prop}(hk:kindOf st=κ0)(hx:∃k,κ.keyOf x.1=some k)(hy:∃k,κ.keyOf y.1=some k)
  (h:∀b,Q (some b) st):wpS (model prog w) A E s (lt' x y) Q st:=by
 obtain⟨a,ha⟩:=hx;obtain⟨b,hb⟩:=hy;rw[lt'_eq];show A4 (Og ?_);rw[hk];show A4 (wpS_lift (OS (hO _ _ _ a b _ ha hb %[rfl|?_])));exact A5 (h _)
theorem bg{st:SortSt}{arr:Nn Nk}{i:Nat}{Q:Nk->SortSt->Prop}(hi:i < arr.size)(h:∀p,arr[i]?=some p->Q p st):wpS (model prog w) A E s (elem' arr i) Q st:=by rw[elem'_eq,getElem?_pos arr i hi];exact A5 (h _ (getElem?_pos arr i hi))
theorem cL(hO:bf prog w A s κ0 κ){st:SortSt}{left:Bool}{key:Nk}{arr:Nn Nk}{base n hint:Nat}{Q:Nm Nat->SortSt->Prop}(hk:kindOf st=κ0)(hn:base+n<=arr.size)(hh:hint < n)
  (ha:KdA κ arr) (hy:∃k,κ.keyOf key.1=some k) (h:∀k,k<=n->Q (some k) st):wpS (model prog w) A E s (yP left key arr base n hint) Q st:=by
 have ask:∀(i:Nat),i < n->∀(R:Nm Bool->SortSt->Prop),(∀b,R (some b) st)->wpS (model prog w) A E s (elem' arr (base+i) >>= λ x=>if left=true then lt' x key else lt' key x >>= λ r=>pure (r.map (!·))) R st:=by
  intro i hi R hR;show A4 (bg ⋯ λ p hp=>?_)
  split
  ·exact gQ hO hk (ha _ _ hp) hy hR
  ·exact A4 (gQ hO hk hy (ha _ _ hp) λ b=>A5 (hR _))
 show A4 (ask hint hh _ λ b=>?_);dsimp only
 split
 ·show A4 (OC (N1 (I:=λ _ c st'=>c.1=none/\st'=st) (Q:=λ c st'=>c.1=none/\st'=st) ?_ (λ c st' hc=>hc) %[rfl|rfl]) ?_)
  ·rintro i ⟨r,lo,ofs⟩ st' _ _ ⟨h1,rfl⟩;dsimp only at h1 ⊢
   split
   ·exact A5 %[rfl|rfl]
   ·show A4 (ask _ ⋯ _ λ b=>?_);dsimp only
    split
    ·exact A5 %[rfl|rfl]
    ·exact A5 %[rfl|rfl]
  ·rintro⟨r,lo,ofs⟩ st' ⟨h1,rfl⟩;dsimp only at h1 ⊢;subst h1;show A4 (OC (N1 (I:=λ _ c st2=>c.1=none/\c.2.2<=n/\st2=st') (Q:=λ c st2=>c.1=none/\c.2.2<=n/\st2=st') ?_ (λ c st2 hc=>hc) %[rfl,!⋯|rfl]) ?_)
   ·rintro i ⟨r,l2,h2⟩ st2 _ _ ⟨g1,g2,rfl⟩;dsimp only at g1 g2 ⊢
    split
    ·exact A5 %[rfl,g2|rfl]
    ·show A4 (ask _ ⋯ _ λ b=>?_);dsimp only
     split
     ·exact A5 %[rfl,g2|rfl]
     ·exact A5 %[rfl,!⋯|rfl]
   ·rintro⟨r,l2,h2⟩ st2 ⟨g1,g2,rfl⟩;dsimp only at g1 g2 ⊢;subst g1;exact A5 (h _ g2)
 ·show A4 (OC (N1 (I:=λ _ c st'=>c.1=none/\st'=st) (Q:=λ c st'=>c.1=none/\st'=st) ?_ (λ c st' hc=>hc) %[rfl|rfl]) ?_)
  ·rintro i ⟨r,lo,ofs⟩ st' _ _ ⟨h1,rfl⟩;dsimp only at h1 ⊢
   split
   ·exact A5 %[rfl|rfl]
   ·show A4 (ask _ ⋯ _ λ b=>?_);dsimp only
    split
    ·exact A5 %[rfl|rfl]
    ·exact A5 %[rfl|rfl]
  ·rintro⟨r,lo,ofs⟩ st' ⟨h1,rfl⟩;dsimp only at h1 ⊢;subst h1;show A4 (OC (N1 (I:=λ _ c st2=>c.1=none/\c.2.2<=n/\st2=st') (Q:=λ c st2=>c.1=none/\c.2.2<=n/\st2=st') ?_ (λ c st2 hc=>hc) %[rfl,!⋯|rfl]) ?_)
   ·rintro i ⟨r,l2,h2⟩ st2 _ _ ⟨g1,g2,rfl⟩;dsimp only at g1 g2 ⊢
    split
    ·exact A5 %[rfl,g2|rfl]
    ·show A4 (ask _ ⋯ _ λ b=>?_);dsimp only
     split
     ·exact A5 %[rfl,g2|rfl]
     ·exact A5 %[rfl,!⋯|rfl]
   ·rintro⟨r,l2,h2⟩ st2 ⟨g1,g2,rfl⟩;dsimp only at g1 g2 ⊢;subst g1;exact A5 (h _ g2)
theorem aq{α:Type}{c:Prop}[Decidable c]{x y:StateT SortSt Sem α}{Q:α->SortSt->Prop}{st:SortSt}(h1:c->wpS (model prog w) A E s x Q st)(h2:¬ c->wpS (model prog w) A E s y Q st):wpS (model prog w) A E s (if c then x else y) Q st:=by
 split
 ·exact h1 ‹_›
 ·exact h2 ‹_›
def SameG(st st':SortSt):Prop:=kindOf st'=kindOf st/\arrOf st'=arrOf st/\pendingOf st'=pendingOf st/\failedOf st'=failedOf st
theorem SameG.rfl'{st:SortSt}:SameG st st:=%[U,U,U|U]
theorem nV(a:Nn Nk)(i:Nat):(a.extract i a.size).toList=a.toList.drop i:=by rw[Array.toList_extract,NB];exact K5 (by simp)
theorem rm(a:Nn Nk)(i k:Nat):(a.extract i (i+k)).toList ++ a.toList.drop (i+k)=a.toList.drop i:=by rw[Array.toList_extract,NB,show i+k - i=k by lia,<- List.drop_drop];exact Mx k _
theorem rn{a:Nn Nk}{i:Nat}{p:Nk}(e:a[i]?=some p):a.toList.drop i=p :: a.toList.drop (i+1):=by rw[<- K2]at e;obtain⟨h,rfl⟩:=A7.mp e;exact Ms h
def MLo(a b out:Nn Nk)(ia ib:Nat):Prop:=(out.toList ++ a.toList.drop ia ++ b.toList.drop ib).Perm (a.toList ++ b.toList)
theorem MLo.done{a b out:Nn Nk}{ia ib:Nat}(h:MLo a b out ia ib):(out ++ a.extract ia a.size ++ b.extract ib b.size).Perm (a ++ b):=by rw[MP];simp only[MZ,nV];exact h
theorem MLo.last{a b out:Nn Nk}{ia ib:Nat}(h:MLo a b out ia ib):(out ++ b.extract ib b.size ++ a.extract ia a.size).Perm (a ++ b):=by rw[MP];simp only[MZ,nV];show E4 ?_ h;rw[MA,MA];exact Mw _ NA
theorem MLo.pb{a b out:Nn Nk}{ia ib:Nat}{p:Nk}(h:MLo a b out ia ib)(e:b[ib]?=some p):MLo a b (out.push p) ia (ib+1):=by unfold MLo at h ⊢;rw[rn e]at h;show E4 ?_ h;rw[Mv];simp only[MA];exact Mw _ (List.perm_middle (a:=p) (l₁:=a.toList.drop ia) (l₂:=b.toList.drop (ib+1))).symm
theorem MLo.pa{a b out:Nn Nk}{ia ib:Nat}{p:Nk}(h:MLo a b out ia ib)(e:a[ia]?=some p):MLo a b (out.push p) (ia+1) ib:=by unfold MLo at h ⊢;rw[rn e]at h;rw[Mv];simpa only[MA,List.cons_append,List.nil_append]using h
theorem MLo.ca{a b out:Nn Nk}{ia ib:Nat}(h:MLo a b out ia ib)(k:Nat):MLo a b (out ++ a.extract ia (ia+k)) (ia+k) ib:=by unfold MLo at h ⊢;rw[<- rm a ia k]at h;rw[MZ];simpa only[MA]using h
theorem MLo.cb{a b out:Nn Nk}{ia ib:Nat}(h:MLo a b out ia ib)(k:Nat):MLo a b (out ++ b.extract ib (ib+k)) ia (ib+k):=by unfold MLo at h ⊢;rw[<- rm b ib k]at h;show E4 ?_ h;rw[MZ];simp only[MA];show Mw _ ?_;rw[<- MA,<- MA];exact M7 _ NA
theorem rp{α:Type}{m:StateT SortSt Sem α}{Q:α->SortSt->Prop}{st:SortSt}(h:∀Q':α->SortSt->Prop,(∀a st',Q a st'->Q' a st')->wpS (model prog w) A E s m Q' st):wpS (model prog w) A E s m Q st:=h Q λ _ _ z=>z
theorem rq{α:Type}{c:Prop}[Decidable c]{jp:Unit->Nat->StateT SortSt Sem α}{x y:Nat}{Q:α->SortSt->Prop}{st:SortSt}(h:∀g,wpS (model prog w) A E s (jp () g) Q st):wpS (model prog w) A E s (if c then jp () x else jp () y) Q st:=aq (λ _=>h _) (λ _=>h _)
def AL:Nat->StateT SortSt Sem Unit:=sortPriv% PySem.Builtin.setMinGallop
theorem nW{g:Nat}{Q:Unit->SortSt->Prop}{st:SortSt}(h:∀st',SameG st st'->Q () st'):wpS (model prog w) A E s (AL g) Q st:=ON (h _ %[rfl,rfl,rfl|rfl])
theorem SameG.trans{st st' st'':SortSt}(a:SameG st st')(b:SameG st' st''):SameG st st'':=%[b.1.trans a.1,b.2.1.trans a.2.1,b.2.2.1.trans a.2.2.1|b.2.2.2.trans a.2.2.2]
theorem nX(hO:bf prog w A s κ0 κ){st:SortSt}{a b:Nn Nk}{Q:Nn Nk->SortSt->Prop}(hk:kindOf st=κ0)(ha:KdA κ a)(hb:KdA κ b)(la:1<=a.size)(lb:1<=b.size)
  (h:∀r st',r.Perm (a ++ b)->SameG st st'->Q r st'):wpS (model prog w) A E s (wF a b) Q st:=by
 show A4 (wpS_lift (OI %[rfl|?_]));show A4 (bg ⋯ λ p hp=>?_);have m0:MLo a b #[p] 0 1:=by
  have:MLo a b #[] 0 0:=by unfold MLo;simp
  exact this.pb hp
 dsimp -zeta only
 extract_lets
 show aq (λ c1=>A5 (h _ _ m0.done .rfl')) (λ c1=>?_);show aq (λ c2=>A5 (h _ _ m0.last .rfl')) (λ c2=>?_);simp only[Nz]at c1 c2;show A4 (Og ?_);show A4 (OC (N1 (I:=λ x c st2=>SameG st st2/\c.1=none/\MLo a b c.2.1 c.2.2.1 c.2.2.2.1/\c.2.2.1+1 < a.size/\c.2.2.2.1 < b.size/\x+1<=c.2.2.1+c.2.2.2.1)
  (Q:=λ c st2=>SameG st st2/\∃r,c.1=some r/\r.Perm (a ++ b)) ?step ?fin %[.rfl',rfl,m0,!⋯,!⋯|!⋯]) ?post)
 case fin=>
  rintro⟨r,out,ia,ib,mg⟩ st2 ⟨hs,h1,hm,b1,b2,b3⟩;dsimp only at b1 b2 b3;exact absurd b3 ⋯
 case post=>
  rintro⟨r,out,ia,ib,mg⟩ st2 ⟨hs,r',h1,hr⟩;dsimp -zeta only at h1 ⊢;subst h1;exact A5 (h _ _ hr hs)
 case step=>
  clear c1 c2 m0 la lb;rintro x ⟨r,out,ia,ib,mg⟩ st2 _ hx ⟨hs,h1,hm,b1,b2,b3⟩;dsimp -zeta only at h1 hm b1 b2 b3 ⊢;show A4 (OC (N1 (I:=λ y c st3=>st3=st2/\c.1=none/\MLo a b c.2.1 c.2.2.1 c.2.2.2.1/\c.2.2.1+1 < a.size/\c.2.2.2.1 < b.size/\x+1+min y 1<=c.2.2.1+c.2.2.2.1)
   (Q:=λ c st3=>SameG st st3/\((∃r,c.1=some r/\r.Perm (a ++ b))\/(c.1=none/\MLo a b c.2.1 c.2.2.1 c.2.2.2.1/\c.2.2.1+1 < a.size/\c.2.2.2.1 < b.size/\x+2<=c.2.2.1+c.2.2.2.1))) ?s1 ?f1 %[rfl,rfl,hm,b1,b2|!⋯]) ?p1)
  case f1=>
   rintro⟨r,out,ia,ib,ac,bc⟩ st3 ⟨rfl,g1,g2,g3,g4,g5⟩;dsimp only at g1 g2 g3 g4 g5;exact%[hs|.inr %[g1,g2,g3,g4|!⋯]]
  case s1=>
   clear hm b1 b2 b3 hx;rintro y ⟨r,out,ia,ib,ac,bc⟩ st3 _ hy ⟨rfl,g1,hm,b1,b2,b3⟩;have sg:=hs;dsimp only at g1 hm b1 b2 b3 ⊢;show A4 (bg ⋯ λ p1 hp1=>?_);show A4 (bg ⋯ λ p2 hp2=>?_);show A4 (gQ hO (sg.1.trans hk) (hb _ _ hp1) (ha _ _ hp2) λ bw=>?_);dsimp only;show aq (λ c5=>?_) (λ c5=>?_)
   ·show A4 (bg ⋯ λ q hq=>?_);show aq (λ c2=>?_) (λ c2=>?_)
    ·simp only[Nz]at c2;exact A5 %[sg|.inl %[_,rfl|(hm.pb hq).done]]
    ·simp only[Nz]at c2;show aq (λ c1=>?_) (λ c1=>?_)
     ·exact A5 %[sg|.inr %[rfl,hm.pb hq,!⋯,!⋯|!⋯]]
     ·exact A5 %[rfl,rfl,hm.pb hq,!⋯,!⋯|!⋯]
   ·show A4 (bg ⋯ λ q hq=>?_);show aq (λ c4=>?_) (λ c4=>?_)
    ·simp only[Nz]at c4;exact A5 %[sg|.inl %[_,rfl|(hm.pa hq).last]]
    ·simp only[Nz]at c4;show aq (λ c3=>?_) (λ c3=>?_)
     ·exact A5 %[sg|.inr %[rfl,hm.pa hq,!⋯,!⋯|!⋯]]
     ·exact A5 %[rfl,rfl,hm.pa hq,!⋯,!⋯|!⋯]
  case p1=>
   clear hm b1 b2 b3 hx;rintro⟨r,out,ia,ib,ac,bc⟩ st3 ⟨hs,(⟨r',h1,hr⟩ | ⟨h1,hm,b1,b2,b3⟩)⟩
   ·dsimp -zeta only at h1 ⊢;subst h1;exact A5 %[hs,r',rfl|hr]
   ·dsimp -zeta only at h1 hm b1 b2 b3 ⊢;subst h1;show A4 (wpS_lift (OI %[rfl|?_]));show A4 (OC (N1 (I:=λ y c st3=>SameG st st3/\c.1=none/\MLo a b c.2.1 c.2.2.1 c.2.2.2.1/\c.2.2.1+1 < a.size/\c.2.2.2.1 < b.size/\x+2<=c.2.2.1+c.2.2.2.1)
     (Q:=λ c st3=>SameG st st3/\((∃r,c.1=some r/\r.Perm (a ++ b))\/(c.1=none/\MLo a b c.2.1 c.2.2.1 c.2.2.2.1/\c.2.2.1+1 < a.size/\c.2.2.2.1 < b.size/\x+2<=c.2.2.1+c.2.2.2.1))) ?s2 ?f2 %[hs,rfl,hm,b1,b2|b3]) ?p2)
    case f2=>exactλ c st3 z=>%[z.1|.inr z.2]
    case p2=>
     clear hm b1 b2 b3;rintro⟨r,out,ia,ib,mg,ac,bc⟩ st3 ⟨hs,(⟨r',h1,hr⟩ | ⟨h1,hm,b1,b2,b3⟩)⟩
     ·dsimp -zeta only at h1 ⊢;subst h1;exact A5 %[hs,r',rfl|hr]
     ·dsimp -zeta only at h1 hm b1 b2 b3 ⊢;subst h1;exact A4 (ON (A5 %[hs,rfl,hm,b1,b2|!⋯]))
    case s2=>
     clear hm b1 b2 b3;rintro y ⟨r,out,ia,ib,mg,ac,bc⟩ st2 _ hy ⟨hs,g1,hm,b1,b2,b3⟩;dsimp only at g1 hm b1 b2 b3;show rp λ Qx hQ=>?_
     extract_lets
     show rq λ mg=>?_;dsimp -zeta +zetaDelta only;show A4 (nW λ st3 sg3=>?_);have sg:=hs.trans sg3;show A4 (bg ⋯ λ p1 hp1=>?_);show A4 (cL hO (sg.1.trans hk) ⋯ ⋯ ha (hb _ _ hp1) λ k1 hk1=>?_);dsimp -zeta only
     extract_lets _ jp1
     have hj1:∀o i,MLo a b o i ib->i+1 < a.size->x+2<=i+ib->wpS (model prog w) A E s (jp1 () o i) Qx st3:=by
      clear hm b1 b3 g1 hy;intro out ia m1 b1 b3;dsimp -zeta only[jp1];show A4 (bg ⋯ λ q hq=>?_)
      try extract_lets
      show aq (λ c5=>?_) (λ c5=>?_)
      ·simp only[Nz]at c5;exact A5 (hQ _ _ %[sg|.inl %[_,rfl|(m1.pb hq).done]])
      ·simp only[Nz]at c5;show A4 (bg ⋯ λ q2 hq2=>?_);show A4 (cL hO (sg.1.trans hk) ⋯ ⋯ hb (ha _ _ hq2) λ k2 hk2=>?_);dsimp -zeta only
       extract_lets _ jp2
       have hj2:∀o i,MLo a b o ia i->i < b.size->x+2<=ia+i->wpS (model prog w) A E s (jp2 () o i) Qx st3:=by
        intro o i m2 h1 h2;dsimp -zeta only[jp2];show A4 (bg ⋯ λ q3 hq3=>?_);dsimp only;show aq (λ c2=>?_) (λ c2=>?_)
        ·simp only[Nz]at c2;exact A5 (hQ _ _ %[sg|.inl %[_,rfl|(m2.pa hq3).last]])
        ·simp only[Nz]at c2;show aq (λ c1=>?_) (λ c1=>?_)
         ·exact A5 (hQ _ _ %[sg|.inr %[rfl,m2.pa hq3,!⋯,!⋯|!⋯]])
         ·exact A5 (hQ _ _ %[sg,rfl,m2.pa hq3,!⋯,!⋯|!⋯])
       show aq (λ c4=>?_) (λ c4=>?_)
       ·try extract_lets
        show aq (λ c3=>?_) (λ c3=>?_)
        ·simp only[Nz]at c3;exact A5 (hQ _ _ %[sg|.inl %[_,rfl|((m1.pb hq).cb k2).done]])
        ·simp only[Nz]at c3;exact hj2 _ _ ((m1.pb hq).cb k2) ⋯ ⋯
       ·exact hj2 _ _ (m1.pb hq) ⋯ ⋯
     show aq (λ c8=>?_) (λ c8=>?_)
     ·try extract_lets
      show aq (λ c7=>?_) (λ c7=>?_)
      ·simp only[Nz]at c7;exact A5 (hQ _ _ %[sg|.inl %[_,rfl|(hm.ca k1).last]])
      ·simp only[Nz]at c7;show aq (λ c6=>?_) (λ c6=>?_)
       ·simp only[Nz]at c6;exact A5 (hQ _ _ %[sg|.inl %[_,rfl|(hm.ca k1).done]])
       ·simp only[Nz]at c6;exact hj1 _ _ (hm.ca k1) ⋯ ⋯
     ·exact hj1 _ _ hm ⋯ ⋯
theorem rz{a:Nn Nk}{i:Nat}{p:Nk}(e:a[i]?=some p):a.toList.take (i+1)=a.toList.take i ++ [p]:=by rw[<- K2]at e;obtain⟨h,rfl⟩:=A7.mp e;rw[List.take_succ,F4 h];rfl
theorem nY(a:Nn Nk)(i:Nat):(a.extract 0 i).toList=a.toList.take i:=by rw[Array.toList_extract,NB];simp
theorem gR(a:Nn Nk){i n:Nat}(h:i<=n):a.toList.take i ++ (a.extract i n).toList=a.toList.take n:=by
 obtain⟨k,rfl⟩:∃k,n=i+k:=%[n - i|⋯]
 rw[Array.toList_extract,NB,show i+k - i=k by lia];exact List.take_add.symm
def MHi(a b out:Nn Nk)(na nb:Nat):Prop:=(a.toList.take na ++ b.toList.take nb ++ out.toList.reverse).Perm (a.toList ++ b.toList)
theorem MHi.done{a b out:Nn Nk}{na nb:Nat}(h:MHi a b out na nb):(a.extract 0 na ++ b.extract 0 nb ++ out.reverse).Perm (a ++ b):=by rw[MP];simp only[MZ,nY,Array.toList_reverse];exact h
theorem MHi.first{a b out:Nn Nk}{na nb:Nat}(h:MHi a b out na nb):(b.extract 0 nb ++ a.extract 0 na ++ out.reverse).Perm (a ++ b):=by rw[MP];simp only[MZ,nY,Array.toList_reverse];exact E4 (M7 _ NA) h
theorem MHi.cb{a b out:Nn Nk}{na nb i:Nat}(h:MHi a b out na nb)(hi:i<=nb):MHi a b (out ++ (b.extract i nb).reverse) na i:=by unfold MHi at h ⊢;rw[<- gR b hi]at h;rw[MZ,Array.toList_reverse,List.reverse_append,List.reverse_reverse];simpa only[MA]using h
theorem MHi.ca{a b out:Nn Nk}{na nb i:Nat}(h:MHi a b out na nb)(hi:i<=na):MHi a b (out ++ (a.extract i na).reverse) i nb:=by unfold MHi at h ⊢;rw[<- gR a hi]at h;show E4 ?_ h;rw[MZ,Array.toList_reverse,List.reverse_append,List.reverse_reverse];simp only[MA];show Mw _ ?_;rw[<- MA,<- MA];exact M7 _ NA
theorem MHi.pb{a b out:Nn Nk}{na nb:Nat}{p:Nk}(h:MHi a b out na nb)(h1:1<=nb)(e:b[nb - 1]?=some p):MHi a b (out.push p) na (nb - 1):=by unfold MHi at h ⊢;rw[<- show nb - 1+1=nb by lia,rz e]at h;rw[Mv,List.reverse_append];simpa only[MA,List.reverse_cons,List.reverse_nil,List.nil_append]using h
theorem MHi.pa{a b out:Nn Nk}{na nb:Nat}{p:Nk}(h:MHi a b out na nb)(h1:1<=na)(e:a[na - 1]?=some p):MHi a b (out.push p) (na - 1) nb:=by unfold MHi at h ⊢;rw[<- show na - 1+1=na by lia,rz e]at h;show E4 ?_ h;rw[Mv,List.reverse_append];simp only[MA,List.reverse_cons,List.reverse_nil,List.nil_append];show Mw _ ?_;rw[<- MA,<- MA];exact M7 _ NA
theorem nZ(hO:bf prog w A s κ0 κ){st:SortSt}{a b:Nn Nk}{Q:Nn Nk->SortSt->Prop}(hk:kindOf st=κ0)(ha:KdA κ a)(hb:KdA κ b)(la:1<=a.size)(lb:1<=b.size)
  (h:∀r st',r.Perm (a ++ b)->SameG st st'->Q r st'):wpS (model prog w) A E s (wG a b) Q st:=by
 show A4 (wpS_lift (OI %[rfl|?_]));show A4 (bg ⋯ λ p hp=>?_);have m0:MHi a b #[p] (a.size - 1) b.size:=by
  have:MHi a b #[] a.size b.size:=by unfold MHi;rw[K5 (by simp),K5 (by simp)];simp
  exact this.pa la hp
 dsimp -zeta only
 extract_lets
 show aq (λ c1=>A5 (h _ _ m0.done .rfl')) (λ c1=>?_);show aq (λ c2=>A5 (h _ _ m0.first .rfl')) (λ c2=>?_);simp only[Nz]at c1 c2;show A4 (Og ?_);show A4 (OC (N1 (I:=λ x c st2=>SameG st st2/\c.1=none/\MHi a b c.2.2.2.1 c.2.1 c.2.2.1/\1<=c.2.1/\c.2.1 < a.size/\2<=c.2.2.1/\c.2.2.1<=b.size/\x+1+c.2.1+c.2.2.1<=a.size+b.size)
  (Q:=λ c st2=>SameG st st2/\∃r,c.1=some r/\r.Perm (a ++ b)) ?step ?fin %[.rfl',rfl,m0,!⋯,!⋯|!⋯]) ?post)
 case fin=>
  rintro⟨r,ia,ib,out,mg⟩ st2 ⟨hs,h1,hm,b1,b2,b3⟩;dsimp only at b1 b2 b3;exact absurd b3 ⋯
 case post=>
  rintro⟨r,ia,ib,out,mg⟩ st2 ⟨hs,r',h1,hr⟩;dsimp -zeta only at h1 ⊢;subst h1;exact A5 (h _ _ hr hs)
 case step=>
  clear c1 c2 m0 la lb;rintro x ⟨r,ia,ib,out,mg⟩ st2 _ hx ⟨hs,h1,hm,b1,b2,b3⟩;dsimp -zeta only at h1 hm b1 b2 b3 ⊢;show A4 (OC (N1 (I:=λ y c st3=>st3=st2/\c.1=none/\MHi a b c.2.2.2.1 c.2.1 c.2.2.1/\1<=c.2.1/\c.2.1 < a.size/\2<=c.2.2.1/\c.2.2.1<=b.size/\x+1+min y 1+c.2.1+c.2.2.1<=a.size+b.size)
   (Q:=λ c st3=>SameG st st3/\((∃r,c.1=some r/\r.Perm (a ++ b))\/(c.1=none/\MHi a b c.2.2.2.1 c.2.1 c.2.2.1/\1<=c.2.1/\c.2.1 < a.size/\2<=c.2.2.1/\c.2.2.1<=b.size/\x+2+c.2.1+c.2.2.1<=a.size+b.size))) ?s1 ?f1 %[rfl,rfl,hm,b1,b2|!⋯]) ?p1)
  case f1=>
   rintro⟨r,ia,ib,out,ac,bc⟩ st3 ⟨rfl,g1,g2,g3,g4,g5⟩;dsimp only at g1 g2 g3 g4 g5;exact%[hs|.inr %[g1,g2,g3,g4|!⋯]]
  case s1=>
   clear hm b1 b2 b3 hx;rintro y ⟨r,ia,ib,out,ac,bc⟩ st3 _ hy ⟨rfl,g1,hm,b1,b2,b3⟩;have sg:=hs;dsimp only at g1 hm b1 b2 b3 ⊢;show A4 (bg ⋯ λ p1 hp1=>?_);show A4 (bg ⋯ λ p2 hp2=>?_);show A4 (gQ hO (sg.1.trans hk) (hb _ _ hp1) (ha _ _ hp2) λ bw=>?_);dsimp only;show aq (λ c10=>?_) (λ c10=>?_)
   ·show A4 (bg ⋯ λ q hq=>?_);show aq (λ c7=>?_) (λ c7=>?_)
    ·simp only[Nz]at c7;exact A5 %[sg|.inl %[_,rfl|(hm.pa ⋯ hq).done]]
    ·simp only[Nz]at c7;show aq (λ c6=>?_) (λ c6=>?_)
     ·exact A5 %[sg|.inr %[rfl,(hm.pa ⋯ hq),!⋯,!⋯|!⋯]]
     ·exact A5 %[rfl,rfl,(hm.pa ⋯ hq),!⋯,!⋯|!⋯]
   ·show A4 (bg ⋯ λ q hq=>?_);show aq (λ c9=>?_) (λ c9=>?_)
    ·simp only[Nz]at c9;exact A5 %[sg|.inl %[_,rfl|(hm.pb ⋯ hq).first]]
    ·simp only[Nz]at c9;show aq (λ c8=>?_) (λ c8=>?_)
     ·exact A5 %[sg|.inr %[rfl,(hm.pb ⋯ hq),!⋯,!⋯|!⋯]]
     ·exact A5 %[rfl,rfl,(hm.pb ⋯ hq),!⋯,!⋯|!⋯]
  case p1=>
   clear hm b1 b2 b3 hx;rintro⟨r,ia,ib,out,ac,bc⟩ st3 ⟨hs,(⟨r',h1,hr⟩ | ⟨h1,hm,b1,b2,b3⟩)⟩
   ·dsimp -zeta only at h1 ⊢;subst h1;exact A5 %[hs,r',rfl|hr]
   ·dsimp -zeta only at h1 hm b1 b2 b3 ⊢;subst h1;show A4 (wpS_lift (OI %[rfl|?_]));show A4 (OC (N1 (I:=λ y c st3=>SameG st st3/\c.1=none/\MHi a b c.2.2.2.1 c.2.1 c.2.2.1/\1<=c.2.1/\c.2.1 < a.size/\2<=c.2.2.1/\c.2.2.1<=b.size/\x+2+c.2.1+c.2.2.1<=a.size+b.size)
     (Q:=λ c st3=>SameG st st3/\((∃r,c.1=some r/\r.Perm (a ++ b))\/(c.1=none/\MHi a b c.2.2.2.1 c.2.1 c.2.2.1/\1<=c.2.1/\c.2.1 < a.size/\2<=c.2.2.1/\c.2.2.1<=b.size/\x+2+c.2.1+c.2.2.1<=a.size+b.size))) ?s2 ?f2 %[hs,rfl,hm,b1,b2|b3]) ?p2)
    case f2=>exactλ c st3 z=>%[z.1|.inr z.2]
    case p2=>
     clear hm b1 b2 b3;rintro⟨r,ia,ib,out,mg,ac,bc⟩ st3 ⟨hs,(⟨r',h1,hr⟩ | ⟨h1,hm,b1,b2,b3⟩)⟩
     ·dsimp -zeta only at h1 ⊢;subst h1;exact A5 %[hs,r',rfl|hr]
     ·dsimp -zeta only at h1 hm b1 b2 b3 ⊢;subst h1;exact A4 (ON (A5 %[hs,rfl,hm,b1,b2|!⋯]))
    case s2=>
     clear hm b1 b2 b3;rintro y ⟨r,ia,ib,out,mg,ac,bc⟩ st2 _ hy ⟨hs,g1,hm,b1,b2,b3⟩;dsimp only at g1 hm b1 b2 b3;show rp λ Qx hQ=>?_
     extract_lets
     show rq λ mg=>?_;dsimp -zeta +zetaDelta only;show A4 (nW λ st3 sg3=>?_);have sg:=hs.trans sg3;show A4 (bg ⋯ λ p1 hp1=>?_);show A4 (cL hO (sg.1.trans hk) ⋯ ⋯ ha (hb _ _ hp1) λ k1 hk1=>?_);dsimp -zeta only
     extract_lets _ _ jp1
     have bB:2<=ib/\ib<=b.size:=%[b3.1|b3.2.1]
     have hj1:∀i o,MHi a b o i ib->1<=i->i < a.size->x+2+i+ib<=a.size+b.size->wpS (model prog w) A E s (jp1 () i o) Qx st3:=by
      clear hm b1 b3 g1 hy;intro ia out m1 b1 b1' b3;dsimp -zeta only[jp1]
      try extract_lets
      show A4 (bg ⋯ λ q hq=>?_)
      try extract_lets
      show aq (λ c6=>?_) (λ c6=>?_)
      ·simp only[Nz]at c6;exact A5 (hQ _ _ %[sg|.inl %[_,rfl|(m1.pb ⋯ hq).first]])
      ·simp only[Nz]at c6;show A4 (bg ⋯ λ q2 hq2=>?_);show A4 (cL hO (sg.1.trans hk) ⋯ ⋯ hb (ha _ _ hq2) λ k2 hk2=>?_);dsimp -zeta only
       extract_lets _ _ jp2
       have hj2:∀i o,MHi a b o ia i->2<=i->i<=b.size->x+2+ia+i<=a.size+b.size->wpS (model prog w) A E s (jp2 () i o) Qx st3:=by
        intro i o m2 h1 h2 h3;dsimp -zeta only[jp2]
        try extract_lets
        show A4 (bg ⋯ λ q3 hq3=>?_);dsimp only;show aq (λ c2=>?_) (λ c2=>?_)
        ·simp only[Nz]at c2;exact A5 (hQ _ _ %[sg|.inl %[_,rfl|(m2.pa ⋯ hq3).done]])
        ·simp only[Nz]at c2;show aq (λ c1=>?_) (λ c1=>?_)
         ·exact A5 (hQ _ _ %[sg|.inr %[rfl,(m2.pa ⋯ hq3),!⋯,!⋯|!⋯]])
         ·exact A5 (hQ _ _ %[sg,rfl,(m2.pa ⋯ hq3),!⋯,!⋯|!⋯])
       show aq (λ c5=>?_) (λ c5=>?_)
       ·try extract_lets
        show aq (λ c4=>?_) (λ c4=>?_)
        ·simp only[Nz]at c4;exact A5 (hQ _ _ %[sg|.inl %[_,rfl|((m1.pb ⋯ hq).cb hk2).first]])
        ·simp only[Nz]at c4;show aq (λ c3=>?_) (λ c3=>?_)
         ·simp only[Nz]at c3;exact A5 (hQ _ _ %[sg|.inl %[_,rfl|((m1.pb ⋯ hq).cb hk2).done]])
         ·simp only[Nz]at c3;exact hj2 _ _ ((m1.pb ⋯ hq).cb hk2) ⋯ ⋯ ⋯
       ·exact hj2 _ _ (m1.pb ⋯ hq) ⋯ ⋯ ⋯
     show aq (λ c8=>?_) (λ c8=>?_)
     ·try extract_lets
      show aq (λ c7=>?_) (λ c7=>?_)
      ·simp only[Nz]at c7;exact A5 (hQ _ _ %[sg|.inl %[_,rfl|(hm.ca hk1).done]])
      ·simp only[Nz]at c7;exact hj1 _ _ (hm.ca hk1) ⋯ ⋯ ⋯
     ·exact hj1 _ _ hm ⋯ ⋯ ⋯
end
end PyProof.Rows
namespace PyProof.Rows
set_option autoImplicit false
open PySem
def Tile:No (Nat×Nat×Nat)->Nat->Nat->Prop
 | [],lo,hi=>lo=hi
 | x :: l,lo,hi=>x.1=lo/\1<=x.2.1/\Tile l (lo+x.2.1) hi
theorem Tile.le:∀{l:No (Nat×Nat×Nat)}{lo hi:Nat},Tile l lo hi->lo<=hi
 | [],_,_,h=>NK h
 | x :: l,lo,hi,h=>C7 (NJ _ _) (Tile.le h.2.2)
theorem Tile.two:∀{l:No (Nat×Nat×Nat)}{i lo hi:Nat}{x y:Nat×Nat×Nat},Tile l lo hi->l[i]?=some x->l[i+1]?=some y->∀q:Nat,
  y.1=x.1+x.2.1/\1<=x.2.1/\1<=y.2.1/\y.1+y.2.1<=hi/\Tile ((l.set i (x.1,x.2.1+y.2.1,q)).eraseIdx (i+1)) lo hi
 | x' :: y' :: l,0,lo,hi,x,y,h,e1,e2,q=>by cases e1;cases e2;obtain⟨h1,h2,h3,h4,h5⟩:=h;show%[⋯,h2,h4,by have:=h5.le;lia,h1,by change 1<=x'.2.1+y'.2.1;lia|?_];change Tile l (lo+(x'.2.1+y'.2.1)) hi;rw[<- Nat.add_assoc];exact h5
 | [x'],0,_,_,_,_,_,_,e2,_=>by cases e2
 | [],_,_,_,_,_,_,e1,_,_=>by simp at e1
 | z :: l,i+1,lo,hi,x,y,h,e1,e2,q=>by obtain⟨h1,h2,h3⟩:=h;obtain⟨a1,a2,a3,a4,a5⟩:=Tile.two h3 (i:=i) (x:=x) (y:=y) (by simpa using e1) (by simpa using e2) q;exact%[a1,a2,a3,a4,h1,h2|a5]
theorem Tile.push:∀{l:No (Nat×Nat×Nat)}{lo hi n q:Nat},Tile l lo hi->1<=n->Tile (l ++ [(hi,n,q)]) lo (hi+n)
 | [],_,_,_,_,h,hn=>by cases h;exact%[U,hn|U]
 | x :: l,_,_,_,_,h,hn=>%[h.1,h.2.1|Tile.push h.2.2 hn]
theorem Tile.upd{f:Nat×Nat×Nat->Nat×Nat×Nat}(hf:∀x,(f x).1=x.1/\(f x).2.1=x.2.1):∀{l:No (Nat×Nat×Nat)}{lo hi:Nat}(i:Nat),Tile l lo hi->Tile (l.modify i f) lo hi
 | [],_,_,i,h=>by simpa using h
 | x :: l,_,_,0,h=>by change Tile (f x :: l) _ _;exact%[(hf x).1.trans h.1,by rw[(hf x).2];exact h.2.1|by rw[(hf x).2];exact h.2.2]
 | x :: l,_,_,i+1,h=>by change Tile (x :: l.modify i f) _ _;exact%[h.1,h.2.1|Tile.upd hf i h.2.2]
theorem lM(sa:Nat):∀(m:No Nk)(j:Nat)(a:Nn Nk),sa+j+m.length<=a.size ->
  ((m.zipIdx j).foldl (λ a (x:Nk×Nat)=>match x with | (p,j)=>a.setIfInBounds (sa+j) p) a).toList=a.toList.take (sa+j) ++ m ++ a.toList.drop (sa+j+m.length)
 | [],j,a,h=>by simp
 | p :: m,j,a,h=>by
  rw[List.zipIdx_cons,List.foldl_cons];have hl:(p :: m).length=m.length+1:=rfl;rw[hl]at h ⊢;rw[lM sa m (j+1) _ (by rw[Array.size_setIfInBounds];lia)];rw[Array.toList_setIfInBounds];have hj:sa+j < a.toList.length:=by simp;lia
  rw[show sa+(j+1)=sa+j+1 by lia,List.take_succ,List.getElem?_set_self hj,List.take_set_of_le (B4 _),List.drop_set_of_lt ⋯,show sa+j+1+m.length=sa+j+(m.length+1)by lia];simp
theorem yQ{M:Model}{A:Around}{E:G3->F9->Prop}{s:F9}{σ:Type}{st st2:σ}{Q:PUnit->σ->Prop}(h:Q ⟨⟩ st2):wpS M A E s (set st2:StateT σ Sem PUnit) Q st:=by unfold wpS;rw[StateT.run_set];exact wpAny_pure %[rfl|h]
structure SP(κ0:SortKind)(a₀:Nn Nk)(st:SortSt):Prop where
 perm:(arrOf st).Perm a₀
 kind:kindOf st=κ0
 failed:failedOf st=none
theorem SP.size{κ0:SortKind}{a₀:Nn Nk}{st:SortSt}(h:SP κ0 a₀ st):(arrOf st).size=a₀.size:=h.perm.size_eq
theorem SP.kd{κ0:SortKind}{κ:KeyKind}{a₀:Nn Nk}{st:SortSt}(h:SP κ0 a₀ st)(h0:KeysOf κ a₀):KdA κ (arrOf st):=λ i p e=>by
 have:p∈(arrOf st).toList:=by rw[<- K2]at e;exact B7 e
 exact h0 _ ((MP.mp h.perm).mem_iff.mp this)
theorem KdA.ext{κ:KeyKind}{a:Nn Nk}(h:KdA κ a)(i j:Nat):KdA κ (a.extract i j):=λ k p e=>by
 rw[Array.getElem?_extract]at e
 split at e
 ·exact h _ _ e
 ·cases e
section
variable{prog:G0}{w:G2}{A:Around}{E:G3->F9->Prop}{s:F9}{κ:KeyKind}{κ0:SortKind}{a₀:Nn Nk}
theorem ff(hO:bf prog w A s κ0 κ)(h0:KeysOf κ a₀){st:SortSt}{i hi:Nat}{Q:Bool->SortSt->Prop}(hP:SP κ0 a₀ st)(hi2:i+1 < (pendingOf st).size)(T:Tile (pendingOf st).toList 0 hi)(hh:hi<=a₀.size)
  (h:∀st',SP κ0 a₀ st'->Tile (pendingOf st').toList 0 hi->Q true st'):wpS (model prog w) A E s (mergeAt' i) Q st:=by
 show A4 (Og ?_);obtain⟨⟨sa,na,pw⟩,e1⟩:∃x,(pendingOf st)[i]?=some x:=%[_|getElem?_pos (pendingOf st) i ⋯]
 obtain⟨⟨sb,nb,pw2⟩,e2⟩:∃x,(pendingOf st)[i+1]?=some x:=%[_|getElem?_pos (pendingOf st) (i+1) hi2]
 obtain⟨t1,t2,t3,t4,t5⟩:=T.two (by rw[K2];exact e1) (by rw[K2];exact e2) pw;dsimp only at t1 t2 t3 t4 t5;have hz:=hP.size;have kd:=hP.kd h0;rw[e1,e2];dsimp only;show A4 (yQ (st2:=SortSt.mk' (kindOf st) (arrOf st) (((pendingOf st).setIfInBounds i (sa,na+nb,pw)).eraseIdxIfInBounds (i+1)) (gallopOf st) (failedOf st)) ?_);have T2:Tile (((pendingOf st).setIfInBounds i (sa,na+nb,pw)).eraseIdxIfInBounds (i+1)).toList 0 hi:=by simpa using t5
 generalize hst2:SortSt.mk' (kindOf st) (arrOf st) (((pendingOf st).setIfInBounds i (sa,na+nb,pw)).eraseIdxIfInBounds (i+1)) (gallopOf st) (failedOf st)=st2;have P2:SP κ0 a₀ st2:=by subst hst2;exact%[hP.perm,hP.kind|hP.failed]
 have A2:arrOf st2=arrOf st:=by subst hst2;rfl
 have T3:Tile (pendingOf st2).toList 0 hi:=by subst hst2;exact T2
 show A4 (bg (arr:=arrOf st) (i:=sb) ⋯ λ p hp=>?_);show A4 (cL (arr:=arrOf st) (base:=sa) (n:=na) hO P2.kind ⋯ ⋯ kd (kd _ _ hp) λ k hk=>?_);dsimp only;show aq (λ c1=>A5 (h _ P2 T3)) (λ c1=>?_);simp only[Nz]at c1;show A4 (bg (arr:=arrOf st) (i:=sa+k+(na - k) - 1) ⋯ λ q hq=>?_);show A4 (cL (arr:=arrOf st) (base:=sb) (n:=nb) hO P2.kind ⋯ ⋯ kd (kd _ _ hq) λ k2 hk2=>?_);dsimp only;show aq (λ c2=>A5 (h _ P2 T3)) (λ c2=>?_);simp only[Nz]at c2;have g1:sa+k < sb:=⋯
 have g2:1<=k2:=⋯
 have g3:sb+k2<=(arrOf st).size:=⋯
 clear c1 c2 hk hk2 hi2 t1 t2 t3 t4 hh hz;have sx:((arrOf st).extract (sa+k) sb).size=sb - (sa+k):=by rw[Array.size_extract,Nf (C7 (NJ sb k2) g3)]
 have sy:((arrOf st).extract sb (sb+k2)).size=k2:=by rw[Array.size_extract,Nf g3,Nat.add_sub_cancel_left]
 have fin:∀(r:Nn Nk)(st3:SortSt),r.Perm ((arrOf st).extract (sa+k) sb ++ (arrOf st).extract sb (sb+k2))->SameG st2 st3 ->
   wpS (model prog w) A E s ((modify λ (s:SortSt)=>setArr s (r.toList.zipIdx.foldl (λ a (x:Nk×Nat)=>match x with | (p,j)=>a.setIfInBounds (sa+k+j) p) (arrOf s))) >>= λ _=>(get:StateT SortSt Sem SortSt) >>= λ s=>pure (failedOf s).isNone) Q st3:=by
  intro r st3 hr hg;show A4 (ON (A4 (Og (A5 ?_))));have hrl:=MP.mp hr;have Nt:r.toList.length=sb+k2 - (sa+k):=by rw[hrl.length_eq,MZ,K4,J7,J7,sx,sy];lia
  have hw:=lM (sa+k) r.toList 0 (arrOf st3) (by rw[hg.2.1,A2,Nt];lia);have e:failedOf st3=none:=hg.2.2.2.trans P2.failed;change Q (failedOf st3).isNone _;rw[e];show h _ %[?_,hg.1.trans P2.kind|hg.2.2.2.trans P2.failed] (by change Tile (pendingOf st3).toList 0 hi;rw[hg.2.2.1];exact T3);show Array.Perm.trans ?_ hP.perm;rw[MP];change List.Perm (r.toList.zipIdx.foldl _ (arrOf st3)).toList _;rw[hw,hg.2.1,A2,Nt,Nd,show sa+k+(sb+k2 - (sa+k))=sb+k2 by lia];have e3:(arrOf st).toList=(arrOf st).toList.take (sa+k) ++ ((arrOf st).extract (sa+k) sb ++ (arrOf st).extract sb (sb+k2)).toList ++ (arrOf st).toList.drop (sb+k2):=by rw[MZ,<- MA,gR _ ⋯,gR _ ⋯,Mx]
  conv=>rhs;rw[e3]
  exact M7 _ (Mw _ hrl)
 show aq (λ c3=>?_) (λ c3=>?_)
 ·exact A4 (nX hO P2.kind (kd.ext _ _) (kd.ext _ _) (by rw[sx];lia) (by rw[sy];lia) fin)
 ·exact A4 (nZ hO P2.kind (kd.ext _ _) (kd.ext _ _) (by rw[sx];lia) (by rw[sy];lia) fin)
theorem cB(hO:bf prog w A s κ0 κ)(h0:KeysOf κ a₀){st:SortSt}{i j:Nat}{Q:Nm Bool->SortSt->Prop}(hP:SP κ0 a₀ st)(hi:i < a₀.size)(hj:j < a₀.size)(h:∀b,Q (some b) st) :
  wpS (model prog w) A E s (ltAt' i j) Q st:=by
 have kd:=hP.kd h0;have hz:=hP.size;show A4 (Og ?_);show A4 (bg (arr:=arrOf st) ⋯ λ p hp=>?_);show A4 (bg (arr:=arrOf st) ⋯ λ q hq=>?_);exact gQ hO hP.kind (kd _ _ hp) (kd _ _ hq) h
def SPp(κ0:SortKind)(a₀:Nn Nk)(p:Nn (Nat×Nat×Nat))(st:SortSt):Prop:=SP κ0 a₀ st/\pendingOf st=p
theorem cC{st:SortSt}{p:Nn (Nat×Nat×Nat)}{i j:Nat}{Q:Unit->SortSt->Prop}(hP:SPp κ0 a₀ p st)(h:∀st',SPp κ0 a₀ p st'->Q () st'):wpS (model prog w) A E s (reverseSlice' i j) Q st:=by rw[reverseSlice'_eq];exact ON (h _ %[%[(mirror_perm _ _ _ _).trans hP.1.perm,hP.1.kind|hP.1.failed]|hP.2])
theorem tF{st:SortSt}{p:Nn (Nat×Nat×Nat)}{i j:Nat}{Q:Unit->SortSt->Prop}(hP:SPp κ0 a₀ p st)(h:∀st',SPp κ0 a₀ p st'->Q () st'):wpS (model prog w) A E s (moveDown' i j) Q st:=by rw[moveDown'_eq];exact ON (h _ %[%[(bubble_perm _ _ _).trans hP.1.perm,hP.1.kind|hP.1.failed]|hP.2])
theorem og(hO:bf prog w A s κ0 κ)(h0:KeysOf κ a₀){st:SortSt}{p:Nn (Nat×Nat×Nat)}{lo n ok:Nat}{Q:Bool->SortSt->Prop}(hP:SPp κ0 a₀ p st)(hn:lo+n<=a₀.size)
  (h:∀st',SPp κ0 a₀ p st'->Q true st'):wpS (model prog w) A E s (binarySort' lo n ok) Q st:=by
 show A4 (OC (N1 (I:=λ _ c st'=>c.1=none/\SPp κ0 a₀ p st') (Q:=λ c st'=>c.1=none/\SPp κ0 a₀ p st') ?step (λ _ _ z=>z) %[rfl|hP]) ?post)
 case post=>
  rintro⟨r,u⟩ st' ⟨h1,hP'⟩;dsimp only at h1 ⊢;subst h1;exact A5 (h _ hP')
 case step=>
  rintro k ⟨r,u⟩ st' _ hk ⟨h1,hP'⟩;dsimp only;show A4 (OC (N1 (I:=λ _ c st2=>c.1=none/\c.2.2<=k/\st2=st') (Q:=λ c st2=>c.1=none/\st2=st') ?_ (λ _ _ z=>%[z.1|z.2.2]) %[rfl,B4 _|rfl]) ?_)
  ·rintro j ⟨r,l,q⟩ st2 _ _ ⟨g1,g2,rfl⟩;dsimp only at g1 g2 ⊢;show aq (λ c1=>A5 %[rfl|rfl]) (λ c1=>?_);show A4 (cB hO h0 hP'.1 ⋯ ⋯ λ b=>?_);dsimp only;show aq (λ c2=>A5 %[rfl,!⋯|rfl]) (λ c2=>A5 %[rfl,!⋯|rfl])
  ·rintro⟨r,l,q⟩ st2 ⟨g1,rfl⟩;dsimp only at g1 ⊢;subst g1;exact A4 (tF hP' λ st3 hP3=>A5 %[rfl|hP3])
theorem qi(hO:bf prog w A s κ0 κ)(h0:KeysOf κ a₀){st:SortSt}{p:Nn (Nat×Nat×Nat)}{lo nrem:Nat}{Q:Nm Nat->SortSt->Prop}(hP:SPp κ0 a₀ p st)(hn:lo+nrem<=a₀.size)(h1:1<=nrem)
  (h:∀n st',1<=n->n<=nrem->SPp κ0 a₀ p st'->Q (some n) st'):wpS (model prog w) A E s (countRun' lo nrem) Q st:=by
 show A4 (OC (N1 (I:=λ i c st'=>c.1=none/\1<=c.2/\c.2<=i/\st'=st) (Q:=λ c st'=>c.1=none/\1<=c.2/\c.2<=nrem/\st'=st) ?step (λ c _ z=>%[z.1,z.2.1,by have:=z.2.2.1;lia|z.2.2.2]) %[rfl,B4 _,B4 _|rfl]) ?post)
 case step=>
  rintro i ⟨r,n⟩ st' _ hi ⟨g1,g2,g3,rfl⟩;dsimp only at g1 g2 g3 ⊢;show A4 (cB hO h0 hP.1 ⋯ ⋯ λ b=>?_);dsimp only;exact aq (λ c2=>A5 %[rfl,g2,!⋯|rfl]) (λ c2=>A5 %[rfl,!⋯,!⋯|rfl])
 case post=>
  rintro⟨r,n⟩ st' ⟨g1,g2,g3,rfl⟩;dsimp only at g1 g2 g3 ⊢;subst g1;show aq (λ c1=>A5 (h _ _ g2 g3 hP)) (λ c1=>?_);simp only[Nz]at c1;show aq (λ c2=>?_) (λ c2=>?_)
  ·show A4 (cB hO h0 hP.1 ⋯ ⋯ λ b=>?_);dsimp only;show aq (λ c3=>A5 (h _ _ g2 g3 hP)) (λ c3=>?_);show A4 (cC hP λ st2 P2=>?_);show A4 (wpS_lift (OI %[rfl|?_]));show A4 (OC (N1 (I:=λ i c st'=>c.1=none/\1<=c.2.1/\c.2.1<=i/\SPp κ0 a₀ p st') (Q:=λ c st'=>c.1=none/\1<=c.2.1/\c.2.1<=nrem/\SPp κ0 a₀ p st') ?_ (λ c _ z=>%[z.1,z.2.1,by have:=z.2.2.1;lia|z.2.2.2]) %[rfl,!⋯,B4 _|P2]) ?_)
   ·rintro i ⟨r,n2,nq⟩ st3 _ hi ⟨g1,g2,g3,P3⟩;dsimp only at g1 g2 g3 ⊢;show A4 (cB hO h0 P3.1 ⋯ ⋯ λ b=>?_);dsimp only;show aq (λ c4=>?_) (λ c4=>?_)
    ·show aq (λ c5=>?_) (λ c5=>?_)
     ·exact A4 (cC P3 λ st4 P4=>A5 %[rfl,!⋯,!⋯|P4])
     ·exact A5 %[rfl,!⋯,!⋯|P3]
    ·show A4 (cB hO h0 P3.1 ⋯ ⋯ λ b=>?_);dsimp only;exact aq (λ c5=>A5 %[rfl,g2,!⋯|P3]) (λ c5=>A5 %[rfl,!⋯,!⋯|P3])
   ·rintro⟨r,n2,nq⟩ st3 ⟨g1,g2,g3,P3⟩;dsimp only at g1 g2 g3 ⊢;subst g1;show aq (λ c6=>?_) (λ c6=>?_)
    ·show A4 (cC P3 λ st4 P4=>?_);show A4 (cC P4 λ st5 P5=>?_);show A4 (OC (N1 (I:=λ i c st'=>c.1=none/\1<=c.2/\c.2<=i/\st'=st5) (Q:=λ c st'=>c.1=none/\1<=c.2/\c.2<=nrem/\st'=st5) ?_ (λ c _ z=>%[z.1,z.2.1,by have:=z.2.2.1;lia|z.2.2.2]) %[rfl,g2,B4 _|rfl]) ?_)
     ·rintro i ⟨r,n3⟩ st6 _ hi ⟨g1,g2,g3,rfl⟩;dsimp only at g1 g2 g3 ⊢;show A4 (cB hO h0 P5.1 ⋯ ⋯ λ b=>?_);dsimp only;exact aq (λ c2=>A5 %[rfl,g2,!⋯|rfl]) (λ c2=>A5 %[rfl,!⋯,!⋯|rfl])
     ·rintro⟨r,n3⟩ st6 ⟨g1,g2,g3,rfl⟩;dsimp only at g1 g2 g3 ⊢;subst g1;exact A5 (h _ _ g2 g3 P5)
    ·show A4 (cC P3 λ st5 P5=>?_);show A4 (OC (N1 (I:=λ i c st'=>c.1=none/\1<=c.2/\c.2<=i/\st'=st5) (Q:=λ c st'=>c.1=none/\1<=c.2/\c.2<=nrem/\st'=st5) ?_ (λ c _ z=>%[z.1,z.2.1,by have:=z.2.2.1;lia|z.2.2.2]) %[rfl,g2,B4 _|rfl]) ?_)
     ·rintro i ⟨r,n3⟩ st6 _ hi ⟨g1,g2,g3,rfl⟩;dsimp only at g1 g2 g3 ⊢;show A4 (cB hO h0 P5.1 ⋯ ⋯ λ b=>?_);dsimp only;exact aq (λ c2=>A5 %[rfl,g2,!⋯|rfl]) (λ c2=>A5 %[rfl,!⋯,!⋯|rfl])
     ·rintro⟨r,n3⟩ st6 ⟨g1,g2,g3,rfl⟩;dsimp only at g1 g2 g3 ⊢;subst g1;exact A5 (h _ _ g2 g3 P5)
  ·have P2:=hP;show A4 (wpS_lift (OI %[rfl|?_]));show A4 (OC (N1 (I:=λ i c st'=>c.1=none/\1<=c.2.1/\c.2.1<=i/\SPp κ0 a₀ p st') (Q:=λ c st'=>c.1=none/\1<=c.2.1/\c.2.1<=nrem/\SPp κ0 a₀ p st') ?_ (λ c _ z=>%[z.1,z.2.1,by have:=z.2.2.1;lia|z.2.2.2]) %[rfl,!⋯,B4 _|P2]) ?_)
   ·rintro i ⟨r,n2,nq⟩ st3 _ hi ⟨g1,g2,g3,P3⟩;dsimp only at g1 g2 g3 ⊢;show A4 (cB hO h0 P3.1 ⋯ ⋯ λ b=>?_);dsimp only;show aq (λ c4=>?_) (λ c4=>?_)
    ·show aq (λ c5=>?_) (λ c5=>?_)
     ·exact A4 (cC P3 λ st4 P4=>A5 %[rfl,!⋯,!⋯|P4])
     ·exact A5 %[rfl,!⋯,!⋯|P3]
    ·show A4 (cB hO h0 P3.1 ⋯ ⋯ λ b=>?_);dsimp only;exact aq (λ c5=>A5 %[rfl,g2,!⋯|P3]) (λ c5=>A5 %[rfl,!⋯,!⋯|P3])
   ·rintro⟨r,n2,nq⟩ st3 ⟨g1,g2,g3,P3⟩;dsimp only at g1 g2 g3 ⊢;subst g1;show aq (λ c6=>?_) (λ c6=>?_)
    ·show A4 (cC P3 λ st4 P4=>?_);show A4 (cC P4 λ st5 P5=>?_);show A4 (OC (N1 (I:=λ i c st'=>c.1=none/\1<=c.2/\c.2<=i/\st'=st5) (Q:=λ c st'=>c.1=none/\1<=c.2/\c.2<=nrem/\st'=st5) ?_ (λ c _ z=>%[z.1,z.2.1,by have:=z.2.2.1;lia|z.2.2.2]) %[rfl,g2,B4 _|rfl]) ?_)
     ·rintro i ⟨r,n3⟩ st6 _ hi ⟨g1,g2,g3,rfl⟩;dsimp only at g1 g2 g3 ⊢;show A4 (cB hO h0 P5.1 ⋯ ⋯ λ b=>?_);dsimp only;exact aq (λ c2=>A5 %[rfl,g2,!⋯|rfl]) (λ c2=>A5 %[rfl,!⋯,!⋯|rfl])
     ·rintro⟨r,n3⟩ st6 ⟨g1,g2,g3,rfl⟩;dsimp only at g1 g2 g3 ⊢;subst g1;exact A5 (h _ _ g2 g3 P5)
    ·show A4 (cC P3 λ st5 P5=>?_);show A4 (OC (N1 (I:=λ i c st'=>c.1=none/\1<=c.2/\c.2<=i/\st'=st5) (Q:=λ c st'=>c.1=none/\1<=c.2/\c.2<=nrem/\st'=st5) ?_ (λ c _ z=>%[z.1,z.2.1,by have:=z.2.2.1;lia|z.2.2.2]) %[rfl,g2,B4 _|rfl]) ?_)
     ·rintro i ⟨r,n3⟩ st6 _ hi ⟨g1,g2,g3,rfl⟩;dsimp only at g1 g2 g3 ⊢;show A4 (cB hO h0 P5.1 ⋯ ⋯ λ b=>?_);dsimp only;exact aq (λ c2=>A5 %[rfl,g2,!⋯|rfl]) (λ c2=>A5 %[rfl,!⋯,!⋯|rfl])
     ·rintro⟨r,n3⟩ st6 ⟨g1,g2,g3,rfl⟩;dsimp only at g1 g2 g3 ⊢;subst g1;exact A5 (h _ _ g2 g3 P5)
theorem kU(hO:bf prog w A s κ0 κ)(h0:KeysOf κ a₀){st:SortSt}{Q:Unit->SortSt->Prop}(hP:SPp κ0 a₀ #[] st)
  (h:∀st',SP κ0 a₀ st'->Q () st'):wpS (model prog w) A E s sortRuns' Q st:=by
 show A4 (Og ?_);have hz:(arrOf st).size=a₀.size:=hP.1.size;show A4 (OC (N1 (I:=λ _ c st'=>c.1=none/\SP κ0 a₀ st'/\Tile (pendingOf st').toList 0 c.2/\c.2<=a₀.size) (Q:=λ c st'=>c.1=none/\SP κ0 a₀ st'/\Tile (pendingOf st').toList 0 c.2/\c.2<=a₀.size) ?step (λ _ _ z=>z) %[rfl,hP.1,by rw[hP.2];rfl|F1 _]) ?post)
 case post=>
  rintro⟨r,lo⟩ st1 ⟨g1,P1,T1,l1⟩;dsimp only at g1 T1 l1 ⊢;subst g1;show A4 (OC (N1 (I:=λ _ c st'=>c.1=none/\SP κ0 a₀ st'/\Tile (pendingOf st').toList 0 lo) (Q:=λ c st'=>c.1=none/\SP κ0 a₀ st') ?_ (λ _ _ z=>%[z.1|z.2.1]) %[rfl,P1|T1]) ?_)
  ·rintro i ⟨r,u⟩ st2 _ _ ⟨g1,P2,T2⟩;show A4 (Og ?_);show aq (λ c1=>A5 %[rfl|P2]) (λ c1=>?_);have c2:1 < (pendingOf st2).size:=Nat.lt_of_not_le c1;show A4 (ff hO h0 P2 ?_ T2 l1 λ st3 P3 T3=>?_)
   ·have ie:∀ (c:Prop) [Decidable c] (x y z:Nat),x < z->y < z->(if c then x else y) < z:=λ c _ x y z h1 h2=>by split <;> assumption
    exact C3 (Nat.add_lt_add_right (ie _ _ _ _ (show(pendingOf st2).size - 2 - 1 < (pendingOf st2).size - 1 by lia) (show(pendingOf st2).size - 2 < (pendingOf st2).size - 1 by lia)) 1) ⋯
   ·exact aq (λ c3=>absurd c3 ∅) (λ c3=>A5 %[rfl,P3|T3])
  ·rintro⟨r,u⟩ st2 ⟨g1,P2⟩;dsimp only at g1 ⊢;subst g1;exact A5 (h _ P2)
 case step=>
  rintro i ⟨r,lo⟩ st1 _ _ ⟨g1,P1,T1,l1⟩;dsimp only at g1 T1 l1 ⊢;show aq (λ c1=>A5 %[rfl,P1,T1|l1]) (λ c1=>?_);have c2:lo < a₀.size:=by have:¬ (arrOf st).size<=lo:=c1;lia
  show A4 (qi hO h0 %[P1|rfl] (nrem:=(arrOf st).size - lo) ⋯ ⋯ λ n st2 n1 n2 P2=>?_);have hz':=hz;unfold arrOf at hz' n2;rw[hz']at n2;simp only[hz'];show aq (λ c3=>?_) (λ c3=>?_)
  ·show A4 (wpS_lift (OI %[rfl|?_]));obtain⟨mn,hmn⟩:∃mn,min (a₀.size - lo) (minRun' a₀.size a₀.size 0)=mn:=%[_|U]
   have h1mn:1<=mn/\lo+mn<=a₀.size:=by have:n < minRun' a₀.size a₀.size 0:=c3;lia
   unfold minRun' at hmn;simp only[hmn];show A4 (og hO h0 P2 ?_ λ st3 P3=>?_)
   ·skip
    lia
   show aq (λ c4=>absurd c4 ∅) (λ c4=>?_);have TX:=T1;rw[<- P3.2]at TX;have nx:1<=mn/\lo+mn<=a₀.size:=⋯
   show A4 (Og ?_)
   split
   ·show A4 (OC (N1 (I:=λ _ c st'=>c.1=none/\SP κ0 a₀ st'/\Tile (pendingOf st').toList 0 lo) (Q:=λ c st'=>c.1=none/\SP κ0 a₀ st'/\Tile (pendingOf st').toList 0 lo) ?_ (λ _ _ z=>z) %[rfl,P3.1|TX]) ?_)
    ·rintro i ⟨r,u⟩ st4 _ _ ⟨_,P4,T4⟩;show A4 (Og ?_)
     split
     ·rename_i he
      show aq (λ c5=>A5 %[rfl,P4|T4]) (λ c5=>?_);show A4 (ff hO h0 P4 ?_ T4 l1 λ st5 P5 T5=>?_)
      ·have z:1 < (pendingOf st4).size:=by
        split at he
        ·assumption
        ·cases he
       change(pendingOf st4).size - 2+1 < (pendingOf st4).size;lia
      ·exact aq (λ c=>absurd c ∅) (λ _=>A5 %[rfl,P5|T5])
     ·exact A5 %[rfl,P4|T4]
    ·rintro⟨r,u⟩ st4 ⟨g1,P4,T4⟩;dsimp only at g1 ⊢;subst g1;show A4 (ON ?_);show A4 (ON (A5 %[rfl,%[P4.perm,P4.kind|P4.failed],?_|?_]))
     ·change Tile (((pendingOf st4).modify _ _).push _).toList 0 _;rw[Mv];show Tile.push ?_ nx.1;rw[Array.toList_modify];show Tile.upd ?_ _ T4;exactλ _=>%[U|U]
     ·exact nx.2
   ·show A4 (ON (A5 %[rfl,%[P3.1.perm,P3.1.kind|P3.1.failed],?_|?_]))
    ·change Tile (Array.push _ _).toList 0 _;rw[Mv];exact Tile.push TX nx.1
    ·exact nx.2
  ·skip
   have TX:=T1;rw[<- P2.2]at TX;have nx:1<=n/\lo+n<=a₀.size:=⋯
   show A4 (Og ?_)
   split
   ·show A4 (OC (N1 (I:=λ _ c st'=>c.1=none/\SP κ0 a₀ st'/\Tile (pendingOf st').toList 0 lo) (Q:=λ c st'=>c.1=none/\SP κ0 a₀ st'/\Tile (pendingOf st').toList 0 lo) ?_ (λ _ _ z=>z) %[rfl,P2.1|TX]) ?_)
    ·rintro i ⟨r,u⟩ st4 _ _ ⟨_,P4,T4⟩;show A4 (Og ?_)
     split
     ·rename_i he
      show aq (λ c5=>A5 %[rfl,P4|T4]) (λ c5=>?_);show A4 (ff hO h0 P4 ?_ T4 l1 λ st5 P5 T5=>?_)
      ·have z:1 < (pendingOf st4).size:=by
        split at he
        ·assumption
        ·cases he
       change(pendingOf st4).size - 2+1 < (pendingOf st4).size;lia
      ·exact aq (λ c=>absurd c ∅) (λ _=>A5 %[rfl,P5|T5])
     ·exact A5 %[rfl,P4|T4]
    ·rintro⟨r,u⟩ st4 ⟨g1,P4,T4⟩;dsimp only at g1 ⊢;subst g1;show A4 (ON ?_);show A4 (ON (A5 %[rfl,%[P4.perm,P4.kind|P4.failed],?_|?_]))
     ·change Tile (((pendingOf st4).modify _ _).push _).toList 0 _;rw[Mv];show Tile.push ?_ nx.1;rw[Array.toList_modify];show Tile.upd ?_ _ T4;exactλ _=>%[U|U]
     ·exact nx.2
   ·show A4 (ON (A5 %[rfl,%[P2.1.perm,P2.1.kind|P2.1.failed],?_|?_]))
    ·change Tile (Array.push _ _).toList 0 _;rw[Mv];exact Tile.push TX nx.1
    ·exact nx.2
end
end PyProof.Rows
namespace PyProof.Rows
set_option autoImplicit false
open PySem
section
variable{prog:G0}{w:G2}{A:Around}{E:G3->F9->Prop}{s:F9}
theorem jj{κ:KeyKind}{κ0:SortKind}{a:Nj}{vs:No G3}{n:Nat}{P:Fin->F9->Prop}(ho:s.heap.get? a=some (seqObj "list" vs.toArray n))
  (h0:KeysOf κ (pairsOf vs)) (hkk:∀s':F9,(∀b o,b≠a->s.heap.get? b=some o->s'.heap.get? b=some o)->bf prog w A s' κ0 κ/\∀v₁ v₂ rest,vs=v₁ :: v₂ :: rest->∀(Q:SortKind->F9->Prop),Q κ0 s'->wpAny (model prog w) A (keyKind' (v₁ :: v₂ :: rest).toArray) Q E s') (h64:vs.length < 4096)
  (h:∀st':SortSt,(arrOf st').Perm (pairsOf vs)->P (.done (.ret .none)) { s with heap:=sortedHeap s.heap a vs ((arrOf st').map (·.2)) }) :
  wpAny (model prog w) A (Builtin.«list.sort» %[[.ref a]|[]]) P E s:=by
 rw[list_sort_plain];have ha:a < s.heap.objs.size:=B0 ho;show A0 (listItems_at ho rfl ?_);show A0 (listUpdate_at ho rfl ?_);obtain⟨e1,ho1⟩:∃e1,(s.heap.update a (Obj.mapSeq λ _=>#[])).get? a=some (seqObj "list" #[] e1):=%[_|get?_update_seq ho (λ _=>#[])]
 show A0 (seqEpoch_at ho1 rfl ?_);show A0 (wpAny_newTuple ?_);show A0 (wpAny_newList ?_);show N2 ?_;have ho6:(((s.heap.update a (Obj.mapSeq λ _=>#[])).push (seqObj "tuple" vs.toArray 0)).push (seqObj "list" #[] 0)).get? a=some (seqObj "list" #[] e1):=by rw[Heap.get?_push_ne _ _ _ (by rw[size_push',On];exact C1 (Mo ha)),Heap.get?_push_ne _ _ _ (by rw[On];exact C1 ha)];exact ho1
 change wpAny (model prog w) A _ P E { s with heap:=((s.heap.update a (Obj.mapSeq λ _=>#[])).push (seqObj "tuple" vs.toArray 0)).push (seqObj "list" #[] 0) };dsimp only;have hsz:vs.toArray.size=vs.length:=by simp
 have fin:=h
 by_cases h2:vs.toArray.size < 2
 ·rw[Nw h2,Nw h2];show A0 (A3 ?_);rw[StateT.run_pure];show A0 (A3 ?_);dsimp only;show A0 (seqEpoch_at ho6 rfl ?_);show A0 (listUpdate_at ho6 rfl ?_ (hsz2:=by rw[Na];change(pairsOf vs).size<=_;rw[pairsOf_size,Ot];lia));simp only[bne_self_eq_false,MN,OJ];exact A3 (fin (SortSt.mk' general' (vs.toArray.zip vs.toArray) #[] 7 none) (Array.Perm.refl _))
 ·rw[Nv h2,Nv h2];obtain⟨v₁,v₂,rest,rfl⟩:∃v₁ v₂ rest,vs=v₁ :: v₂ :: rest:=by
   match vs,hsz,h2 with
   | [],_,h2=>simp at h2
   | [_],_,h2=>simp at h2
   | v₁ :: v₂ :: rest,_,_=>exact%[v₁,v₂,rest|U]
  have kp:∀b o,b≠a->s.heap.get? b=some o->(((s.heap.update a (Obj.mapSeq λ _=>#[])).push (seqObj "tuple" (v₁ :: v₂ :: rest).toArray 0)).push (seqObj "list" #[] 0)).get? b=some o:=λ b o nb e=>
   A8 _ (A8 _ (by rw[Heap.get?_update_ne _ _ _ _ nb];exact e))
  obtain⟨hO,hK⟩:=hkk { s with heap:=((s.heap.update a (Obj.mapSeq λ _=>#[])).push (seqObj "tuple" (v₁ :: v₂ :: rest).toArray 0)).push (seqObj "list" #[] 0) } kp;show A0 (hK _ _ _ rfl _ ?_);show A0 (OA (kU (κ:=κ) (κ0:=κ0) hO (a₀:=pairsOf (v₁ :: v₂ :: rest)) h0 (st:=SortSt.mk' κ0 ((v₁ :: v₂ :: rest).toArray.zip (v₁ :: v₂ :: rest).toArray) #[] 7 none)
   (Q:=λ _ st'=>SP κ0 (pairsOf (v₁ :: v₂ :: rest)) st') %[%[Array.Perm.refl _,rfl|rfl]|rfl] λ st' z=>z) ?_ λ _ _ e=>e)
  rintro⟨⟨⟩,st'⟩ s' ⟨rfl,hp,hk2,hf⟩;dsimp only;show A0 (seqEpoch_at ho6 rfl ?_);show A0 (listUpdate_at ho6 rfl ?_ (hsz2:=by show C7 (NK ((Na ..).trans (hp.size_eq.trans (pairsOf_size _)))) ?_;rw[Ot];lia));rw[hf];simp only[bne_self_eq_false,MN,OJ];exact A3 (fin st' hp)
end
end PyProof.Rows
namespace L2
open PySem PySem.Spec PyProof.Rows
theorem lN{f:No V->HO}(hf:∀xs ys,f xs=f ys->xs=ys){l:Nj}{xs:No V}{σ:St}{cap:No Nat}{k:Nat}{g:TG}{tt:TT}{te:TE}{Q:No V->Hp->Prop}{H:Hp}(Pv:Nat->No V->Hp->Prop)
  (hk:∀i zs H',Pv i zs H'->H' l=some (f xs)) (h0:Pv 0 [] H)
  (hz:∀i zs H',i < xs.length->Pv i zs H'->zs.length < sizeLine)
  (ht:∀i x p zs H',xs[i]?=some x->H' p=none->Pv i zs H'->g (.ref p) (aW σ cap k) (upd H' p (.tup [.int i,x])) λ σ2 H2=>leS (aW σ cap k) σ2/\tt σ2 H2 λ ok H3=>if ok=true then te σ2 H3 (λ v H4=>Nx xs.length Pv i (zs ++ [v]) H4)else Nx xs.length Pv i zs H3)
  (hd:∀zs H',Pv xs.length zs H'->zs.length<=sizeLine/\Q zs H'):∃W,(∃m,W 0 m [] H)/\eS σ cap k (Ite f l) g tt te Q W:=by
 show%[λ i m zs H'=>m=xs.length - i/\i<=xs.length/\Pv i zs H',%[_,U,F1 _|h0]|?_];rintro i m zs H' ⟨rfl,hi,p⟩;have e1:=hk i zs H' p
 by_cases hlt:i < xs.length
 ·have hx:xs[i]?=some xs[i]:=by simp[hlt]
  show .inr %[%[xs,_,e1|hx],hz i zs H' hlt p|λ v H2 yl=>?_]
  ·obtain⟨q,xs',x,hq,rfl,rfl,e1',ex⟩:=yl;rw[e1]at e1';have e2:=hf _ _ (C0 e1');subst e2;exact ht i x q zs H' ex hq p
 ·have e:i=xs.length:=⋯
  subst e;obtain⟨a1,a2⟩:=hd zs H' p;exact .inl %[%[xs,e1|B4 _],a1|a2]
end L2
namespace PySem
open PySem.W
section
variable{prog:G0}{w:G2}{A:Around}{E:G3->F9->Prop}{s:F9}{d a:Nj}{K:Type}[DecidableEq K]{knd:HeapKind prog w K}{k:K}{xs:No (K×Nj×G3)}
theorem yR{x:G3}{Q:G3->F9->Prop}(hu:knd.room A.in1)(hkey:knd.is s.heap k a)(hS:(d == sysModules)=false)(hm:s.heap.DictOfH knd d xs)(hsz:xs.length<=sizeLine)
  (h1:∀p,atKey xs k=some p->Q p.2 { s with toks:=s.toks+knd.draws k })
  (h2:atKey xs k=none->∀h',h'.DictOfH knd d (storedH xs k a x)->Heap.SameBut d s.heap h'->Q x { s with heap:=h',toks:=s.toks+knd.draws k }) :
  wpAny (model prog w) A (call (.builtin "dict.setdefault") [.ref d,.ref a,x]) Q E s:=by
 have ty:=hm.typeIs;show call_meetsIn (S:=λ A' R s'=>A'=A/\s'=s/\(∀p,atKey xs k=some p->R (.ok (.ret p.2)) { s with toks:=s.toks+knd.draws k })/\(atKey xs k=none->∀h',h'.DictOfH knd d (storedH xs k a x)->Heap.SameBut d s.heap h'->R (.ok (.ret x)) { s with heap:=h',toks:=s.toks+knd.draws k })) Oa ty PySem.F.entry_dict_setdefault (PySem.F.args_dict_setdefault_3 _ _ _) (.of_wp λ A' R s' %[e0,e,g1|g2]=>?_) %[rfl,rfl,λ p hp=>h1 p hp|λ hn h' a1 a2=>h2 hn h' a1 a2];subst e e0;obtain⟨o,es,ep,ho,hc,hd,he,his,hn⟩:=hm;unfold Builtin.«dict.setdefault»;show A0 ?_;unfold Builtin.Dict.keyAndDefault;show A0 (wpAny_notOrdered_dict ty ?_);change wpAny _ _ (pure (d,Value.ref a,some x)) _ _ s';show A3 ?_;change wpAny _ _ (if (d == sysModules)=true then _ else(dictSetDefault d (.ref a) x >>= _)) _ _ s';rw[Nv (by rw[hS];exact B3)];show A0 ?_;unfold dictSetDefault
 try with_reducible show N2 ?_
 show A0 (knd.pyHash hu hkey ?_);show A0 (wpAny_dictFind_heap (s:={ s' with toks:=s'.toks+knd.draws k }) hu hkey ho hd he his hn ?_ ?_)
 ·intro hno;have hnot:k∉xs.map (·.1):=not_mem_keys_of_get hno;show A0 (OI (A0 (wpAny_updateDictKeys (hz:=by have e:=size_of_entries he;lia) (s:={ s' with toks:=s'.toks+knd.draws k }) ho hd (A3 (A3 ⟨x,rfl,g2 (atKey_none_of_get hno) _ ⟨_,_,ep+1,OG _ ho (Obj.isFreed_of_dict (Obj.data_mapDictKeys hd _)),
   hc.mapDictKeys _,Obj.data_mapDictKeys hd _,?_,?_,?_⟩ (N9 ..)⟩)))))
  ·rw[storedH_new (atKey_none_of_get hno)];simp[he,entryOfKey]
  ·rw[storedH_new (atKey_none_of_get hno)];intro x hx;rcases C4.mp hx with hx | hx
   ·exact knd.keeps (his x hx) ho hd (N9 ..)
   ·simp only[E5]at hx;subst hx;exact knd.keeps hkey ho hd (N9 ..)
  ·rw[storedH_new (atKey_none_of_get hno)];rw[J4,NY];show%[hn,by simp|?_];intro x hx y hy;simp only[J6,MY,E5]at hy;subst hy;exactλ e=>hnot (e ▸ hx)
 ·intro j p hj;show A0 (OY (s:={ s' with toks:=s'.toks+knd.draws k }) ho hd ?_);rw[entry_at he j,hj];exact A0 (OI (A3 (A3 %[p.2,rfl|g1 p (atKey_of_get hn hj)])))
end
end PySem
namespace L2
open PySem PySem.Spec PyProof.Rows
section
variable{X:Cx}
def wH:V->No V->Hp->VK->Prop:=λ x ys H Q=>∃(a b:Nj)(v:V)(kvs:No (No Key×V))(k:No Key),x=.ref a/\ys=[.ref b,v]/\H a=some (.dT kvs)/\H b= ~~~(k.map kV)/\kvs.length < sizeLine /\
 (∀v',cS kvs k=some v'->Q v' H)/\(cS kvs k=none->Q v (upd H a (.dT (dW kvs k v))))
theorem gv(hu:X.A.units+1 < cLine):MtR X "dict.setdefault" wH:=by
 intro Nq s σ H x ys v us Q I rx rv h;obtain⟨a,b,v',kvs,k,rfl,rfl,hH,hb,hl,q1,q2⟩:=h;cases rx;obtain⟨u,us',rfl,ru,rv'⟩:∃u us',us=u :: us'/\RelV (.ref b) u/\Vals [v'] us':=by
  cases rv with
  | cons r1 r2=>exact%[_,_,U,r1|r2]
 obtain⟨u2,rfl,r2⟩:=rv'.one;cases ru;obtain⟨z,hd,xs,rel,dd⟩:=wq I.hok hH;have hz:xs.length<=sizeLine:=by rw[<- Paired.length rel];exact z
 have hlp:(dW kvs k v').length<=sizeLine:=by have:=eZ kvs k v';lia
 have rv:=rel.val k;show yR (tupleKind_room_in1 hu) (fb I.hok hb) hd dd hz (λ p hp=>?_) (λ hn h' dd' hs=>?_)
 ·rw[hp]at rv;cases hv:cS kvs k with
  | none=>rw[hv]at rv;exact F0 rv
  | some y=>rw[hv]at rv;exact%[y,H,I.tok _,rv|q1 y hv]
 ·rw[hn]at rv;cases hv:cS kvs k with
  | some y=>rw[hv]at rv;exact F0 rv
  | none=>
   show%[v',upd H a (.dT (dW kvs k v')),?_,r2|q2 hv];obtain⟨q,es,ep,hq,h2,h3,h4,_,h5⟩:=dd';show mT I (by rw[hH];exact True.intro) hs %[q|hq] %[hlp,hd,_,(rel.put k hb r2).keeps λ c ys ec=>?_,q,es,ep,hq,h2,h3,h4|h5];rw[ak (zM ec hH (λ z=>nomatch z))];exact ec
end
end L2
namespace PySem
open PySem.W PyProof.Rows
section
variable{prog:G0}{w:G2}{A:Around}{E:G3->F9->Prop}{s:F9}{d:Nj}{es:Nn DictEntry}{ep:Nat}
def OKE(d:Nj)(es:Nn DictEntry)(ep:Nat)(h:Heap):Prop:=∃o,h.get? d=some o/\o.ExactDict/\o.data=.dict es ep
theorem AM(hh:A.handled=none)(I d:Nj)(hne:d≠I)(es:Nn DictEntry)(ep:Nat) :
  Walks prog w A I [I,d] [I] es.size (λ i v=>∃en,es[i]?=some en/\en.key=v) (λ i h=>h.IsKeyIter I d i es.size ep/\OKE d es ep h) where
 sub:=λ b hb=>by simp at hb;simp[hb]
 frame:=λ _ _ _ st hk=>%[st.1.at λ o e=>hk I (by simp) o e|let ⟨o,e,x⟩:=st.2;%[o,hk d (by simp) o e|x]]
 item:=λ i s Q E hi st hQ=>by
  obtain⟨en,hx⟩:∃en,es[i]?=some en:=%[es[i]|J9 hi]
  show cq st.1 st.2 hx λ h' hit' hs'=>?_;exact hQ en.key h' s.toks %[en,hx|U] %[hit'|let ⟨o,e,x⟩:=st.2;%[o,hs'.extBut d o hne e|x]] λ b o hb e=>hs'.extBut b o (λ h=>hb (by simp[h])) e
 done:=λ s Q E st hQ=>cA hh st.1 st.2 (MH (B4 _)) λ h' he'=>hQ h' s.toks λ b o hb e=>he' b o (λ h=>hb (by simp[h])) e
 self:=λ _ _ _ _ st hQ=>wpAny_pyIter_keyiter st.1 hQ
theorem BW(lo:(d == sysModules)=false):KdlSrc prog w "dict" d d es.size (λ i v=>∃en,es[i]?=some en/\en.key=v) (OKE d es ep) where
 type:=λ _ ⟨o,e,c,_⟩=>%[o,e|c.1]
 there:=λ _ ⟨o,e,_⟩=>%[B0 e|B0 e]
 keep:=λ _ _ ⟨o,e,x⟩ hk=>%[o,hk d (.inl rfl) o e|x]
 notList:=∅
 notTuple:=∅
 hint:=λ _ _ _ _ ⟨o,e,c,_⟩ hq=>kdl_hint_dict %[o,e|c.1] hq
 iter:=λ _ _ hh hm=>%[_,_,(λ _ _ hq=>cf lo hm hq),AM hh _ d (let ⟨_,e,_⟩:=hm;C1 (B0 e)) es ep|%[%[_,A9 _ rfl,U|U]|let ⟨o,e,x⟩:=hm;%[o,A8 _ e|x]]]
theorem oh{α:Type}{T:String}{r d:Nj}{n:Nat}{OK:Heap->Prop}{xs:Nn α}{f:α->G3}(src:KdlSrc prog w T r d n (λ i v=>∃e,xs[i]?=some e/\f e=v) OK)(en:xs.size=n){Q:No G3->F9->Prop}(hh:A.handled=none)(hm:OK s.heap)(hn:n<=sizeLine)
  (h:∀h' tk,(∀b o,s.heap.get? b=some o->h'.get? b=some o)->s.heap.objs.size<=h'.objs.size->Q (xs.toList.map f) { s with heap:=h',toks:=tk }):wpAny (model prog w) A (collect (.ref r)) Q E s:=by
 unfold collect;show A0 (wpAny_runValue (Os F.entry_proto_collect ?_));rw[Oh F.plain_proto_collect _];change wpAny _ A.in1 (newList [] >>= λ l=>again (.builtin "list.__iadd__" %[[l,.ref r]|[]])) _ _ s;show A0 (F7 ?_);show A3 %[plainId_quiet F.plain_list_iadd _|Os F.entry_list_iadd ?_];rw[Oh F.plain_list_iadd _];change wpAny _ A.in1 (Builtin.List.listExtendWith (.ref s.heap.objs.size) (.ref r) (.ref s.heap.objs.size)) _ _ { s with heap:=s.heap.push (seqObj "list" #[] 0) };obtain⟨rl,dl⟩:=src.there _ hm;have hS:(s.heap.push (seqObj "list" #[] 0)).get? s.heap.objs.size=some (seqObj "list" #[] 0):=A9 _ rfl;show kdl_extend (R:=λ r s'=>match r with
  | .ok (.ret v)=>wpAny (model prog w) A (match v with
   | .ref a=>do match (<- load a).data with
    | .seq xs _=>pure xs.toList
    | _=>unsupported "internal:collect"
   | _=>unsupported "internal:collect") Q E s'
  | .ok _=>False
  | .error e=>E e s') (s:={ s with heap:=s.heap.push (seqObj "list" #[] 0) }) src (by exact hh) (src.keep _ _ hm λ b _ o e=>A8 _ e) s.heap.objs.size (MU rl) (MU dl) (.ref s.heap.objs.size) 0 hS (λ h' tk acc' c' hk hS' hacc=>?_) hn
 have ea:acc'.toList=xs.toList.map f:=by
  show NZ λ j=>?_;rw[J0,K2,K2]
  by_cases c:j < n
  ·have c2:j < acc'.size:=by rw[hacc.1];exact c
   obtain⟨en,e1,e2⟩:=hacc.2 j acc'[j] (J9 c2);rw[e1,J9 c2,<- e2]
   rfl
  ·rw[MH (by rw[hacc.1];lia),MH ⋯]
   rfl
 change wpAny (model prog w) A (do
   let o<-load s.heap.objs.size
   match o.data with
   | .seq xs _=>pure xs.toList
   | _=>unsupported "internal:collect") Q E { s with heap:=h',toks:=tk }
 show A0 (wpAny_load hS' ?_);change wpAny _ _ (pure acc'.toList) Q E _;rw[ea];exact A3 (h h' tk (λ b o e=>hk b o (C1 (B0 e)) (A8 _ e)) (C9 (B0 hS')))
theorem wI{Q:No G3->F9->Prop}(lo:(d == sysModules)=false)(hh:A.handled=none)(hm:OKE d es ep s.heap)(hn:es.size<=sizeLine)
  (h:∀h' tk,(∀b o,s.heap.get? b=some o->h'.get? b=some o)->s.heap.objs.size<=h'.objs.size->Q (es.toList.map (·.key)) { s with heap:=h',toks:=tk }):wpAny (model prog w) A (collect (.ref d)) Q E s :=
 oh (BW lo) rfl hh hm hn h
end
end PySem
namespace L2
open PySem PySem.Spec PyProof.Rows
theorem dD{α β:Type}(f:α->β){l l':No β}(h:l.Perm l'):∀xs:No α,l'=xs.map f->∃xs':No α,l=xs'.map f/\xs'.Perm xs:=by
 induction h with
 | nil=>intro xs e;cases xs with
  | nil=>exact%[[],U|.nil]
  | cons _ _=>cases e
 | cons x _ ih=>intro xs e;cases xs with
  | nil=>cases e
  | cons y ys=>
   rw[J6]at e;injection e with e1 e2
   obtain⟨xs',a,b⟩:=ih ys e2;exact%[y :: xs',by rw[J6,<- e1,<- a]|b.cons y]
 | swap x y l=>intro xs e;cases xs with
  | nil=>cases e
  | cons u us=>cases us with
   | nil=>injection e with _ e;cases e
   | cons v vs=>
    rw[J6,J6]at e;injection e with e1 e
    injection e with e2 e3
    exact%[v :: u :: vs,by rw[J6,J6,<- e1,<- e2,<- e3]|List.Perm.swap _ _ _]
 | trans _ _ i1 i2=>intro xs e;obtain⟨ys,a,b⟩:=i2 xs e;obtain⟨zs,c,d⟩:=i1 ys a;exact%[zs,c|d.trans b]
section
variable{X:Cx}
def gS(H:Hp)(sh:No Bool)(a:Nj):Pz:=match H a with
 | some (.tup vs)=>(eJ sh vs).getD []
 | _=>[]
theorem rA{H:Hp}{sh:No Bool}{a:Nj}{vs:No V}{k:Pz}(h:H a= ~~~vs)(f:eJ sh vs=some k):gS H sh a=k:=by unfold gS;rw[h];dsimp only;rw[f];rfl
end
abbrev Rw:=Nj×No Key×V
def kvR(Nr:No Rw):No (No Key×V):=Nr.map (·.2)
def RowD(Nr:No Rw)(xs:No (No Key×Nj×G3)):Prop:=Paired (λ (r:Rw)(x:No Key×Nj×G3)=>x.1=r.2.1/\x.2.1=r.1/\RelV r.2.2 x.2.2) Nr xs
theorem RowD.len{Nr:No Rw}{xs:No (No Key×Nj×G3)}(h:RowD Nr xs):Nr.length=xs.length:=E6 h
theorem RowD.keys{Nr:No Rw}{xs:No (No Key×Nj×G3)}(h:RowD Nr xs):xs.map (·.1)=Nr.map (·.2.1):=by
 unfold RowD at h
 induction h with
 | nil=>rfl
 | cons a _ ih=>rw[J6,J6,ih,a.1]
theorem RowD.nodup{Nr:No Rw}{xs:No (No Key×Nj×G3)}(h:RowD Nr xs)(n:(Nr.map (·.2.1)).Nodup):(xs.map (·.1)).Nodup:=by rw[h.keys];exact n
theorem RowD.of_mem{Nr:No Rw}{xs:No (No Key×Nj×G3)}(h:RowD Nr xs){x:No Key×Nj×G3}(hx:x∈xs):∃r∈Nr,x.1=r.2.1/\x.2.1=r.1:=by
 unfold RowD at h
 induction h with
 | nil=>cases hx
 | @cons r y rs ys a _ ih=>
  rcases J3.mp hx with rfl | hx
  ·exact%[r,B9,a.1|a.2.1]
  ·obtain⟨r',m,e⟩:=ih hx;exact%[r',B6 _ m|e]
theorem rB{α β:Type}{F:α->β->Prop}:∀{a c:No α}{b d:No β},Paired F a b->Paired F c d->Paired F (a ++ c) (b ++ d)
 | _,_,_,_,.nil,h=>h
 | _,_,_,_,.cons x r,h=>.cons x (rB r h)
theorem RowD.snoc{Nr:No Rw}{xs:No (No Key×Nj×G3)}(h:RowD Nr xs){b:Nj}{k:No Key}{v:V}{u:G3}(r:RelV v u):RowD (Nr ++ [(b,k,v)]) (xs ++ [(k,b,u)]):=rB h (.cons %[U,U|r] .nil)
theorem RowD.no{Nr:No Rw}{xs:No (No Key×Nj×G3)}(h:RowD Nr xs){k:No Key}(n:k∉Nr.map (·.2.1)):atKey xs k=none:=by show atKey_none_of_get λ j p e=>n ?_;rw[<- h.keys];exact J5.mpr %[_,B7 e|U]
theorem RowD.kt{H:Hp}{D:Nj}{ob:HO}{Nr:No Rw}{xs:No (No Key×Nj×G3)}(h:RowD Nr xs)(kept:∀r∈Nr,H r.1= ~~~(r.2.1.map kV))(hD:H D=none):KT (upd H D ob) (kvR Nr) xs:=by
 unfold RowD at h
 induction h with
 | nil=>exact .nil
 | @cons r y rs ys a _ ih=>
  show .cons %[a.1.symm,?_|a.2.2] (ih λ r hr=>kept r (B6 _ hr));have e:=kept r B9;rw[a.2.1,ak (aj e hD)];exact e
def rC(σ:St)(cap:No Nat)(k:Nat)(J:It)(g:TG)(tt:TT)(tk tv:TE)(Qf:No Rw->Hp->Prop)(W:Nat->Nat->No Rw->Hp->Prop):Prop:=∀i m Nr H,W i m Nr H->(∀r∈Nr,H r.1= ~~~(r.2.1.map kV)) /\
 ((J.stop i H/\Nr.length<=sizeLine/\Qf Nr H) \/
  (J.go i H/\Nr.length < sizeLine/\∀x H',J.yld i H x H'->g x (aW σ cap k) H' λ σ2 H2=>leS (aW σ cap k) σ2/\tt σ2 H2 λ ok H3=>
   if ok=true then tk σ2 H3 (λ kv H4=>tv σ2 H4 λ v H5=>∃b ks,kv=.ref b/\H5 b= ~~~(ks.map kV)/\ks∉Nr.map (·.2.1)/\∃m',m' < m/\W (i+1) m' (Nr ++ [(b,ks,v)]) H5)else∃m',m' < m/\W (i+1) m' Nr H3))
def BX(P:G0)(w:G2)(Nr:No Rw)(o:Obj):Prop:=∃xs es ep,o.ExactDict/\o.data=.dict es ep/\es.toList=xs.map (entryOfKey (tupleKind (bh P w)))/\RowD Nr xs/\(Nr.map (·.2.1)).Nodup
section
variable{X:Cx}{Nq:P6}{σ:St}{H2:Hp}{s2:F9}{scope:Scope}{own cs:No Str}{cap:No Nat}{fp:No Nj}{it:Nj}{tn:Nat->Heap->Prop}
 {kx vx tg iter:Expr} {ifs:No Expr} {pos:Pos} {J:It} {g:TG} {tt:TT} {tk tv:TE} {E:G3->F9->Prop} {W:Nat->Nat->No Rw->Hp->Prop} {Qf:No Rw->Hp->Prop}
theorem tG{Y:Cx}{P5:P6}{σ:St}{D:Nj}(hx:Y.xe=λ _ _=>False)(hu:Y.A.units+1 < cLine)(hk:PE Y kx tk)(he:PE Y vx tv)(kept:∀i m Nr H,W i m Nr H->∀r∈Nr,H r.1= ~~~(r.2.1.map kV)) :
  qV Y P5 σ D (do
      let kv<-eval kx Y.env
      let vv<-holding [kv] (eval vx Y.env)
      standAt { kx.pos with endLine:=vx.pos.endLine,endCol:=vx.pos.endCol }
      holding [kv,vv] (dictSet D kv vv)) (BX Y.prog Y.w) (λ ys=>ys.length < sizeLine)
   (λ i m Nr σ2 H3=>tk σ2 H3 (λ kv H4=>tv σ2 H4 λ v H5=>∃b ks,kv=.ref b/\H5 b= ~~~(ks.map kV)/\ks∉Nr.map (·.2.1)/\∃m',m' < m/\W (i+1) m' (Nr ++ [(b,ks,v)]) H5)) W:=by
 rintro i m Nr o σ3 H3 s3 Q5 hz hq le ⟨xs,es,ep,ex3,dt3,ee3,rv3,nd3⟩ fD I3 e3;have I3':Inv Y ((P5 ++ Q5) ++ [(D,o)]) σ3 H3 s3:=I3.pins_of λ p hp=>(C4.mp hp).elim (λ z=>I3.pin p (A6 _ z)) λ z=>by
  obtain rfl:p=_:=by simpa using z
  exact%[e3,fD.1,fD.2.1,fD.2.2.1|λ v z=>by rw[dt3]at z;cases z]
 show A0 (OA (hk _ s3 σ3 H3 _ I3' hq) (?_) λ _ _ z=>by rw[hx]at z;exact z.elim);rintro y s8 ⟨v,H8,I8,r8,q8⟩;show A0 (N2 (OA (he _ s8 σ3 H8 _ I8 q8) (?_) λ _ _ z=>by rw[hx]at z;exact z.elim));rintro y2 s9 ⟨v2,H9,I9,r9,bb,kk,ev,hb9,new,m',hm,w9⟩;subst ev;obtain rfl:y=Value.ref bb:=r8;have pD:=I9.pin (D,o) (A6 _ (A6 _ (E5.mpr rfl)));have his:∀x∈xs,(tupleKind (bh Y.prog Y.w)).is s9.heap x.1 x.2.1:=λ x hx=>by obtain⟨r,hr,e1,e2⟩:=rv3.of_mem hx;rw[e1,e2];exact fb I9.hok (kept _ _ _ _ w9 r (B8 _ hr))
 have hno:atKey xs kk=none:=rv3.no new;show A0 (Oi (N2 (wpAny_dictSet_heap (hsz:=by rw[<- rv3.len];lia) (xs:=xs) (show Y.A.units < cLine from Nat.lt_of_succ_lt hu) (fb I9.hok hb9) %[o,es,ep,pD.1,ex3,dt3,ee3,his|rv3.nodup nd3] λ h9 dd sb9=>?_)));rw[storedH_new hno]at dd;obtain⟨o9,es9,ep9,hq9,ex9,dt9,ee9,_,nd9⟩:=dd;show%[H9,Nr ++ [(bb,kk,v2)],o9,(I9.sub λ p hp=>B8 _ hp).turned (t':=_) (λ b o hb e=>sb9.extBut b o hb e) pD.2.1 fD.2.1 fD.2.2.2.1 fD.2.2.2.2.1 fD.2.2.2.2.2,hq9,%[_,es9,ep9,ex9,dt9,ee9,rv3.snoc r9|?_],pD.2.1,m',hm|w9];rw[J4,NY];show%[nd3,by simp|?_];intro x hx y hy;simp only[J6,MY,E5]at hy;subst hy;exactλ e=>new (e ▸ hx)
theorem tH{RR:G3->Nj->Result->F9->Prop}(I:Inv X Nq σ H2 s2)(ok:CompOk X scope own cs cap)(hc:X.calm=true)(hu:X.A.units+1 < cLine)(T:Turn X.prog X.w X.K tg J fp it tn)(st:tn 0 s2.heap)(hf:∀b∈fp,FpOk X Nq H2 b)
  (hg:∀C,PG (aO X Nq s2 H2 scope C (own ++ cs) fp) tg g) (hi:∀C,iF (aO X Nq s2 H2 scope C (own ++ cs) fp) ifs tt) (hk:∀C,PE (aO X Nq s2 H2 scope C (own ++ cs) fp) kx tk) (he:∀C,PE (aO X Nq s2 H2 scope C (own ++ cs) fp) vx tv)
  (w0:∃m,W 0 m [] H2) (turn:rC σ cap own.length J g tt tk tv Qf W)
  (hRR:∀D C s' ys H',H' D=none->(ys.length<=sizeLine/\Qf ys H'/\∀r∈ys,H' r.1= ~~~(r.2.1.map kV))->Inv X Nq σ (upd H' D (.dT (kvR ys))) s'->FpOk X Nq (upd H' D (.dT (kvR ys))) C->(∃m,s'.heap.Ns C m)->RR (.ref D) C (.ok .next) s') :
  wpAny (model X.prog X.w) X.A newDict (λ acc s₃=>wpAny (model X.prog X.w) X.A (newFunctionEnv scope X.env.globals (bF X.env scope.names []) [] X.env.qual none .none (some X.env)) (λ cenv s₄=>
   codeAny (model X.prog X.w) X.A (.compStart (.DictComp kx vx [%[tg,iter,ifs|0]] scope pos) 0 (.ref it) acc { cenv with scope:=relabel scope X.env }) (RR acc cenv.locals) s₄) E s₃) E s2:=by
 show gj (Acc:=BX X.prog X.w) (Fin:=λ ys H=>ys.length<=sizeLine/\Qf ys H/\∀r∈ys,H r.1= ~~~(r.2.1.map kV)) (ho:=λ ys=>.dT (kvR ys)) I ok (λ C=>Turn.y (Y:=aO X Nq s2 H2 scope C (own ++ cs) fp) T hc) st hf rfl (λ h=>F7 h) codeAny_compStart_dict (λ Y D C s' R hY I0 hD hf' df st0 e0 hR=>?_)
  (λ hs ⟨xs,es,ep,a,b,c,d,e⟩ q n p=>%[by rw[kvR,B5];exact q.1,hs,xs,d.kt q.2.2 n,_,es,ep,p,a,b,c|d.nodup e]) hRR
 subst hY;have hb:=tG (Y:=aO X Nq s2 H2 scope C (own ++ cs) fp) (P5:=[]) (σ:=aW σ cap own.length) (W:=W) (D:=D) rfl hu (hk C) (he C) λ i m ys H w=>(turn i m ys H w).1;exact fI (ipos:=iter.pos) rfl (Turn.y (Y:=aO X Nq s2 H2 scope C (own ++ cs) fp) T hc) (hg C) (hi C) rfl rfl (by rintro _ _ ⟨_,_,_,_,e,_⟩ v z;rw[e]at z;cases z)
  (λ i m ys H w=>%[trivial|(turn i m ys H w).2.imp (λ h=>%[h.1,h.2.1,h.2.2|(turn i m ys H w).1]) id]) hb I0 hD hf' df st0 e0 %[[],#[],0,%[rfl,rfl|rfl],rfl,rfl,.nil|List.nodup_nil] w0 hR
def AN(wi:TI)(cap:No Nat)(k:Nat)(g:TG)(tt:TT)(tk tv:TE):TE:=λ σ H Q=>wi σ H λ J H1=>
 ∃W:Nat->Nat->No Rw->Hp->Prop,(∃m,W 0 m [] H1)/\rC σ cap k J g tt tk tv (λ Nr H'=>∀p,H' p=none->Q (.ref p) (upd H' p (.dT (kvR Nr)))) W
theorem oj{wi:TI}(hc:X.calm=true)(hu:X.A.units+1 < cLine)(hit:PI X tg iter wi)(ok:CompOk X scope own cs cap)
  (hg:∀Nq s2 H2 C fp,PG (aO X Nq s2 H2 scope C (own ++ cs) fp) tg g) (hi:∀Nq s2 H2 C fp,iF (aO X Nq s2 H2 scope C (own ++ cs) fp) ifs tt) (hk:∀Nq s2 H2 C fp,PE (aO X Nq s2 H2 scope C (own ++ cs) fp) kx tk) (he:∀Nq s2 H2 C fp,PE (aO X Nq s2 H2 scope C (own ++ cs) fp) vx tv)
  (hs:∀x,foldedSetIterable iter X.env x=pure x:=by intro _;rfl):PE X (.DictComp kx vx [%[tg,iter,ifs|0]] scope pos) (AN wi cap own.length g tt tk tv):=by
 intro Nq s σ H Q I h;rw[arm_eval_DictComp];show wpAny_comprehension_free (use:=none) rfl hs (eI λ y hy e=>I.ok.has y.1 (ok.free y hy e)) ok.kind ok.names (thn (hit Nq s σ H _ I h) λ v s1 h1=>thn h1 λ itv s2 h2=>?_);obtain⟨it,fp,tn,J,H2,e,I2,T,st2,f2,W,w0,turn⟩:=h2;subst e;show tH (RR:=λ acc C=>compPost (model X.prog X.w) X.A X.xe none (EP X Nq σ Q) acc C) I2 ok hc hu T st2 f2 (λ C=>hg _ _ _ _ _) (λ C=>hi _ _ _ _ _) (λ C=>hk _ _ _ _ _) (λ C=>he _ _ _ _ _) w0 turn λ D C s' ys H' hD %[_,q|_] I' fp' %[m|hn]=>?_;obtain⟨f0,f1,f2',f3,f4,f5⟩:=fp';exact%[m,hn|λ h' sb=>%[.ref D,_,I'.turned (t':=s'.toks) (λ b o hb e=>sb.extBut b o hb e) f0 f1 f3 f4 f5,U|q D hD]]
end
section
variable{X:Cx}
inductive rz_call_listT(xs:No V)(H:Hp)(Q:VK):Prop
|mk(a kvs:_)(_:xs=[V.ref a])(_:Rd H a (.dT kvs))(_:∀l as,H l=none->Paired (λ (b:Nj)(kv:No Key×V)=>H b= ~~~(kv.1.map kV)) as kvs->Q (.ref l) (upd H l (.lst (as.map V.ref))))
theorem kf(hc:X.calm=true):bS X (.type "list") (rz_call_listT):=by
 intro Nq s σ H xs us Q I r h;obtain⟨a,kvs,rfl,ha,q⟩:=h;obtain⟨u,rfl,ru⟩:=dk r;cases ru;obtain⟨hz,hs,ys,pr,o,es,ep,h1,h2,h3,h4,h5⟩:=(show ObjOk X.prog X.w H s.heap a (.dT kvs)from ha.ok I.hok)
 have yl:kvs.length=ys.length:=lL pr;have el:es.size=kvs.length:=by rw[yl,<- J7,h4,B5]
 show PySem.W.kdl_call (BW (d:=a) (es:=es) (ep:=ep) hs) (I.ok.hd hc) %[o,h1,h2|h3] ⋯ λ h' tk acc c hk hL hacc=>?_;have ea:acc.toList=(ys.map (·.2.1)).map Value.ref:=by
  show NZ λ j=>?_;rw[J0,J0,K2]
  by_cases cc:j < es.size
  ·have c2:j < acc.size:=by rw[hacc.1];exact cc
   obtain⟨en,e1,e2⟩:=hacc.2 j acc[j] (J9 c2);rw[<- K2,h4,J0]at e1;cases ey:ys[j]? with
   | none=>rw[ey]at e1;cases e1
   | some y=>
    rw[ey]at e1;cases e1;rw[J9 c2,<- e2]
    rfl
  ·rw[MH (by rw[hacc.1];lia),MX ⋯]
   rfl
 have pk:Paired (λ (b:Nj)(kv:No Key×V)=>H b= ~~~(kv.1.map kV)) (ys.map (·.2.1)) kvs:=by
  clear ea hacc hL h4 yl el q h5 hz ha
  induction pr with
  | nil=>exact .nil
  | cons x _ ih=>exact .cons x.2.1 ih
 show%[.ref s.heap.objs.size,_,I.laid (t':=tk) hk (B4 _) (show ObjOk X.prog X.w _ h' _ (.lst ((ys.map (·.2.1)).map V.ref))from%[by rw[B5,B5];lia,acc.toList,c,?_|by rw[Array.toArray_toList];exact hL]),U|q _ _ (I.hok.fresh (B4 _)) pk];rw[ea];exact iM _
end
def NxD(n:Nat)(Pv:Nat->No Rw->Hp->Prop)(i:Nat)(Nr:No Rw)(H:Hp):Prop:=∃m',m' < n - i/\m'=n - (i+1)/\i+1<=n/\Pv (i+1) Nr H
theorem NxD.of{n i:Nat}{Pv:Nat->No Rw->Hp->Prop}{Nr:No Rw}{H:Hp}(h:i < n)(p:Pv (i+1) Nr H):NxD n Pv i Nr H:=%[n - (i+1),⋯,U,h|p]
theorem qj{K:C6}{a:Nj}{xs:No V}{σ:St}{cap:No Nat}{k:Nat}{g:TG}{tt:TT}{tk tv:TE}{Q:No Rw->Hp->Prop}{H:Hp}(hs:H a=↥xs)(Pv:Nat->No Rw->Hp->Prop)
  (hk:∀i Nr H',i<=xs.length->Pv i Nr H'->H' a=↥xs/\∀r∈Nr,H' r.1= ~~~(r.2.1.map kV)) (h0:Pv 0 [] H)
  (ht:∀i x Nr H',xs[i]?=some x->Pv i Nr H'->Nr.length < sizeLine/\g x (aW σ cap k) H' λ σ2 H2=>leS (aW σ cap k) σ2/\tt σ2 H2 λ ok H3=>if ok=true then tk σ2 H3 (λ kv H4=>tv σ2 H4 λ v H5=>∃b ks,kv=.ref b/\H5 b= ~~~(ks.map kV)/\ks∉Nr.map (·.2.1)/\NxD xs.length Pv i (Nr ++ [(b,ks,v)]) H5)else NxD xs.length Pv i Nr H3)
  (hd:∀Nr H',Pv xs.length Nr H'->Nr.length<=sizeLine/\Q Nr H') :
  ∃W,(∃m,W 0 m [] H)/\rC σ cap k (Itl K a) g tt tk tv Q W:=by
 show%[λ i m Nr H'=>m=xs.length - i/\i<=xs.length/\Pv i Nr H',%[_,U,F1 _|h0]|?_];rintro i m Nr H' ⟨rfl,hi,p⟩;obtain⟨z',kp⟩:=hk i Nr H' hi p;show%[kp|?_]
 by_cases hin:i < xs.length
 ·obtain⟨e,hg⟩:=ht i xs[i] Nr H' (by simp[hin]) p;show .inr %[%[xs,xs[i],G6 z'|by simp[hin]],e|λ x H2 yl=>?_];obtain⟨e1,e2⟩:=yl;have e3:=e2 xs (G6 z');have e4:x=xs[i]:=by simpa[hin]using e3.symm
  subst e1 e4;exact hg
 ·have e:i=xs.length:=⋯
  subst e;obtain⟨a1,a2⟩:=hd Nr H' p;exact .inl %[%[xs,G6 z'|B4 _],a1|a2]
theorem oo{a:Nj}{ob:Obj}{kvs:No (No Key×V)}{σ:St}{cap:No Nat}{k:Nat}{g:TG}{tt:TT}{tk tv:TE}{Q:No Rw->Hp->Prop}{H:Hp}(Pv:Nat->No Rw->Hp->Prop)(h0:Pv 0 [] H)
  (hl:∀i Nr H',i<=kvs.length->Pv i Nr H'->H' a=some (.frz ob (.dT kvs))/\∀r∈Nr,H' r.1= ~~~(r.2.1.map kV))
  (ht:∀i kk v p q Nr H',kvs[i]?=some (kk,v)->H' p=none->H' q= ~~~(kk.map kV)->Pv i Nr H'->g (.ref p) (aW σ cap k) (upd H' p (.tup [.ref q,v])) λ σ2 H2=>leS (aW σ cap k) σ2/\tt σ2 H2 λ ok H3=>if ok=true then tk σ2 H3 (λ kv H4=>tv σ2 H4 λ v H5=>∃b ks,kv=.ref b/\H5 b= ~~~(ks.map kV)/\ks∉Nr.map (·.2.1)/\NxD kvs.length Pv i (Nr ++ [(b,ks,v)]) H5)else NxD kvs.length Pv i Nr H3)
  (hz:∀i Nr H',i < kvs.length->Pv i Nr H'->Nr.length < sizeLine) (hd:∀Nr H',Pv kvs.length Nr H'->Nr.length<=sizeLine/\Q Nr H'):∃W,(∃m,W 0 m [] H)/\rC σ cap k (Iti a ob kvs) g tt tk tv Q W:=by
 show%[λ i m Nr H'=>m=kvs.length - i/\i<=kvs.length/\Pv i Nr H',%[_,U,F1 _|h0]|?_];rintro i m Nr H' ⟨rfl,hi,p⟩;obtain⟨z',kp⟩:=hl i Nr H' hi p;show%[kp|?_]
 by_cases hin:i < kvs.length
 ·show .inr %[%[hin|z'],hz i Nr H' hin p|λ x H2 yl=>?_];obtain⟨pa,q,k',v',e1,e2,e3,e4,e5⟩:=yl;subst e4 e5;exact ht i k' v' pa q Nr _ e1 e2 e3 p
 ·have e:i=kvs.length:=⋯
  subst e;obtain⟨a1,a2⟩:=hd Nr H' p;exact .inl %[%[U|z'],a1|a2]
section
variable{X:Cx}
def yS(tk tv:TE):TE:=λ σ H Q=>∀p,H p=none->tk σ (upd H p (.dT [])) λ x H1=>tv σ H1 λ y H2=>H2 p=some (.dT [])/\∃b ks,x=.ref b/\H2 b= ~~~(ks.map kV)/\Q (.ref p) (upd H2 p (.dT [(ks,y)]))
theorem lO{kx vx:Expr}{tk tv:TE}{pos:Pos}(hu:X.A.units < cLine)(hk:PE X kx tk)(hv:PE X vx tv):PE X (.Dict [some kx] [vx] pos) (yS tk tv):=by
 intro Nq s σ H Q I h;have hb:sysModules < s.heap.objs.size:=Nat.lt_trans (show sysModules < Np by decide) (I.mod.glob.keeps I.bk).lt;have hn:=I.hok.fresh (B4 s.heap.objs.size);have hd:(s.heap.objs.size == sysModules)=false:=OO.mpr (MU hb);have I1:Inv X Nq σ (upd H s.heap.objs.size (.dT [])) { s with heap:=s.heap.push { cls:=.type "dict",data:=.dict #[] } } :=
  I.laid (a:=s.heap.objs.size) (o:=.dT []) (t':=s.toks) (λ _ _ q=>A8 _ q) (B4 _) (nN s.heap I.big)
 show wpAny_Dict_any rfl rfl (by simp) (by change 1<=15;decide) (pairTrees_cons_walk (thn (hk Nq _ σ _ _ I1 (h _ hn)) λ u s1 %[x,H1,J1,rx|q1]=>thn (hv Nq s1 σ H1 _ J1 q1) λ w2 s2 %[y,H2,J2,ry,e,kt,ks,ex,ek|q2]=>pairTrees_nil_walk ?_));subst ex;cases rx;obtain⟨_,_,xs,rel,dm⟩:=wq J2.hok e;cases rel;have ne:kt≠s.heap.objs.size:=λ z=>by rw[z,e]at ek;cases ek
 unfold storeAll;show Om _ (λ rest (_:PUnit) s'=>(rest=[(Value.ref kt,w2)]/\s'=s2)\/(rest=[]/\∃v H,Inv X Nq σ H s'/\RelV v (.ref s.heap.objs.size)/\Q v H)) _ ?_ ?_ _ _ (.inl %[U|U])
 ·rintro x rest b s' (⟨e1,rfl⟩ | ⟨e1,_⟩)
  ·cases e1;show A0 (wpAny_dictSet_heap (knd:=tupleKind (bh X.prog X.w)) (hsz:=F1 _) hu (fb J2.hok ek) dm λ h' dd' hs=>A3 (.inr %[U|?_]));show%[.ref s.heap.objs.size,_,?_,U|q2];obtain⟨o',es',ep',g0',g1',g2',g3',_,g4'⟩:=dd';show J2.write (x:=s.heap.objs.size) (e:=s.heap.objs.size) (by rw[e];exact True.intro) (.inl rfl) (λ b q hb z=>(hs.2 b hb).trans z) %[_|g0'] ?_;exact%[by change 1<=sizeLine;decide,hd,[(ks,kt,w2)],.cons %[U,by rw[ak ne];exact ek|ry] .nil,o',es',ep',g0',g1',g2',g3'|g4']
  ·cases e1
 ·rintro b s' (⟨e1,_⟩ | ⟨_,r⟩)
  ·cases e1
  ·exact r
end
def BY(l1 l2 l3:Nj):It :=
  ⟨λ i H=>∃xs ys zs x y w,H l1= ~~~xs/\H l2= ~~~ys/\H l3= ~~~zs/\xs[i]?=some x/\ys[i]?=some y/\zs[i]?=some w,
   λ i H v H'=>∃p xs ys zs x y w,H p=none/\v=.ref p/\H'=upd H p (.tup [x,y,w])/\H l1= ~~~xs/\H l2= ~~~ys/\H l3= ~~~zs/\xs[i]?=some x/\ys[i]?=some y/\zs[i]?=some w,
   λ i H=>∃xs ys zs,H l1= ~~~xs/\H l2= ~~~ys/\H l3= ~~~zs/\xs.length<=i⟩
def AO(ta:TA):TI:=λ σ H R=>ta σ H λ vs H1=>∃l1 l2 l3 xs ys zs,vs=[.ref l1,.ref l2,.ref l3]/\H1 l1= ~~~xs/\H1 l2= ~~~ys/\H1 l3= ~~~zs/\R (BY l1 l2 l3) H1
theorem wJ{X:Cx}{a b c:Expr}{ta:TA}{p pos tp:Pos}{es:No Expr}{kk:Nat}(hg:Gl X "zip")(hm:X.mg "zip" = none)(ha:PA X [a,b,c] ta)
  (hs:starEach [a,b,c] X.env=[(false,eval a X.env),(false,eval b X.env),(false,eval c X.env)]:=by rfl) (hs2:starEach [b,c] X.env=[(false,eval b X.env),(false,eval c X.env)]:=by rfl) :
  PI X (.Tuple es kk tp) (.Call (.Name "zip" p) [a,b,c] [] pos) (AO ta):=by
 show rg hg hm ha (by rw[hs,hs2]) (by rw[hs2];rfl) 2 ⋯ (λ vs hv=>?_) λ vs H1 R %[l1,l2,l3,xs,ys,zs,e,e1,e2,e3|q]=>%[[(true,l1),(true,l2),(true,l3)],_,U,e,?_,q,?_,?_|?_]
 ·match vs,hv with
  | [x,y,z],_=>exact%[by kernel_rfl,by kernel_rfl|λ obj=>gr obj _ _ _]
 ·simp only[J3,K7,OB];rintro p (rfl | rfl | rfl)
  ·exact%[_|e1]
  ·exact%[_|e2]
  ·exact%[_|e3]
 ·rintro i H ⟨xs,ys,zs,x,y,z,a1,a2,a3,b1,b2,b3⟩;exact%[[x,y,z],%[%[_,a1|b1],%[_,a2|b2],%[_,a3|b3]|U]|U]
 ·rintro i H v H' ⟨p,vs,a0,rfl,rfl,r,hl⟩
  match vs,r,hl with
  | [x,y,z],⟨⟨xs,a1,b1⟩,⟨ys,a2,b2⟩,⟨zs,a3,b3⟩,_⟩,_=>exact%[p,xs,ys,zs,x,y,z,a0,U,U,a1,a2,a3,b1,b2|b3]
 ·rintro i H ⟨xs,ys,zs,a1,a2,a3,h⟩;show%[[],%[%[_,a1|h]|?_]|by simp];simp only[J3,K7,OB];rintro q (rfl | rfl)
  ·exact%[_|a2]
  ·exact%[_|a3]
theorem ql{l1 l2 l3:Nj}{xs ys zs:No V}{σ:St}{cap:No Nat}{k:Nat}{g:TG}{tt:TT}{te:TE}{Q:No V->Hp->Prop}{H:Hp}(Pv:Nat->No V->Hp->Prop)(hn:xs.length=ys.length)(hn':xs.length=zs.length)
  (hk:∀i us H',Pv i us H'->H' l1= ~~~xs/\H' l2= ~~~ys/\H' l3= ~~~zs) (h0:Pv 0 [] H)
  (hz:∀i us H',i < xs.length->Pv i us H'->us.length < sizeLine)
  (ht:∀i x y w p us H',xs[i]?=some x->ys[i]?=some y->zs[i]?=some w->H' p=none->Pv i us H'->g (.ref p) (aW σ cap k) (upd H' p (.tup [x,y,w])) λ σ2 H2=>leS (aW σ cap k) σ2/\tt σ2 H2 λ ok H3=>if ok=true then te σ2 H3 (λ v H4=>Nx xs.length Pv i (us ++ [v]) H4)else Nx xs.length Pv i us H3)
  (hd:∀us H',Pv xs.length us H'->us.length<=sizeLine/\Q us H'):∃W,(∃m,W 0 m [] H)/\eS σ cap k (BY l1 l2 l3) g tt te Q W:=by
 show%[λ i m us H'=>m=xs.length - i/\i<=xs.length/\Pv i us H',%[_,U,F1 _|h0]|?_];rintro i m us H' ⟨rfl,hi,p⟩;obtain⟨e1,e2,e3⟩:=hk i us H' p
 by_cases hlt:i < xs.length
 ·have hx:xs[i]?=some xs[i]:=by simp[hlt]
  have hy:ys[i]?=some (ys[i]'⋯):=by simp[show i < ys.length by lia]
  have hw:zs[i]?=some (zs[i]'⋯):=by simp[show i < zs.length by lia]
  show .inr %[%[xs,ys,zs,_,_,_,e1,e2,e3,hx,hy|hw],hz i us H' hlt p|λ v H2 yl=>?_]
  ·obtain⟨q,xs',ys',zs',x,y,w,hq,rfl,rfl,e1',e2',e3',ex,ey,ew⟩:=yl;rw[e1]at e1';cases e1';rw[e2]at e2';cases e2';rw[e3]at e3';cases e3';exact ht i x y w q us H' ex ey ew hq p
 ·have e:i=xs.length:=⋯
  subst e;obtain⟨a1,a2⟩:=hd us H' p;exact .inl %[%[xs,ys,zs,e1,e2,e3|B4 _],a1|a2]
def BZ(l1 l2:Nj):It :=
  ⟨λ i H=>∃xs ys x y,H l1= ~~~xs/\H l2= ~~~ys/\xs[i]?=some x/\ys[i]?=some y,
   λ i H v H'=>∃p xs ys x y,H p=none/\v=.ref p/\H'=upd H p (.tup [x,y])/\H l1= ~~~xs/\H l2= ~~~ys/\xs[i]?=some x/\ys[i]?=some y,
   λ i H=>∃xs ys,H l1= ~~~xs/\H l2= ~~~ys/\xs.length<=i⟩
def AQ(ta:TA):TI:=λ σ H R=>ta σ H λ vs H1=>∃l1 l2 xs ys,vs=[.ref l1,.ref l2]/\H1 l1= ~~~xs/\H1 l2= ~~~ys/\R (BZ l1 l2) H1
theorem gT{X:Cx}{a b:Expr}{ta:TA}{p pos tp:Pos}{es:No Expr}{kk:Nat}(hg:Gl X "zip")(hm:X.mg "zip" = none)(ha:PA X [a,b] ta)
  (hs:starEach [a,b] X.env=[(false,eval a X.env),(false,eval b X.env)]:=by rfl) (hs2:starEach [b] X.env=[(false,eval b X.env)]:=by rfl) :
  PI X (.Tuple es kk tp) (.Call (.Name "zip" p) [a,b] [] pos) (AQ ta):=by
 show rg hg hm ha (by rw[hs,hs2]) (by rw[hs2];rfl) 1 ⋯ (λ vs hv=>?_) λ vs H1 R %[l1,l2,xs,ys,e,e1,e2|q]=>%[[(true,l1),(true,l2)],_,U,e,?_,q,?_,?_|?_]
 ·match vs,hv with
  | [x,y],_=>exact%[F.typeCall_zip_2 _ _,F.newCall_zip_2 _ _|λ obj=>F.args_object_init_3 obj _ _]
 ·simp only[J3,K7,OB];rintro p (rfl | rfl)
  ·exact%[_|e1]
  ·exact%[_|e2]
 ·rintro i H ⟨xs,ys,x,y,a1,a2,b1,b2⟩;exact%[[x,y],%[%[_,a1|b1],%[_,a2|b2]|U]|U]
 ·rintro i H v H' ⟨p,vs,a0,rfl,rfl,r,hl⟩
  match vs,r,hl with
  | [x,y],⟨⟨xs,a1,b1⟩,⟨ys,a2,b2⟩,_⟩,_=>exact%[p,xs,ys,x,y,a0,U,U,a1,a2,b1|b2]
 ·rintro i H ⟨xs,ys,a1,a2,h⟩;show%[[],%[%[_,a1|h]|?_]|by simp];simp only[J3,K7,OB];rintro q rfl;exact%[_|a2]
theorem eL{l1 l2:Nj}{xs ys:No V}{σ:St}{cap:No Nat}{k:Nat}{g:TG}{tt:TT}{te:TE}{Q:No V->Hp->Prop}{H:Hp}(Pv:Nat->No V->Hp->Prop)(hn:xs.length=ys.length)
  (hk:∀i us H',Pv i us H'->H' l1= ~~~xs/\H' l2= ~~~ys) (h0:Pv 0 [] H)
  (hz:∀i us H',i < xs.length->Pv i us H'->us.length < sizeLine)
  (ht:∀i x y p us H',xs[i]?=some x->ys[i]?=some y->H' p=none->Pv i us H'->g (.ref p) (aW σ cap k) (upd H' p (.tup [x,y])) λ σ2 H2=>leS (aW σ cap k) σ2/\tt σ2 H2 λ ok H3=>if ok=true then te σ2 H3 (λ v H4=>Nx xs.length Pv i (us ++ [v]) H4)else Nx xs.length Pv i us H3)
  (hd:∀us H',Pv xs.length us H'->us.length<=sizeLine/\Q us H'):∃W,(∃m,W 0 m [] H)/\eS σ cap k (BZ l1 l2) g tt te Q W:=by
 show%[λ i m us H'=>m=xs.length - i/\i<=xs.length/\Pv i us H',%[_,U,F1 _|h0]|?_];rintro i m us H' ⟨rfl,hi,p⟩;obtain⟨e1,e2⟩:=hk i us H' p
 by_cases hlt:i < xs.length
 ·have hx:xs[i]?=some xs[i]:=by simp[hlt]
  have hy:ys[i]?=some (ys[i]'⋯):=by simp[show i < ys.length by lia]
  show .inr %[%[xs,ys,_,_,e1,e2,hx|hy],hz i us H' hlt p|λ v H2 yl=>?_]
  ·obtain⟨q,xs',ys',x,y,hq,rfl,rfl,e1',e2',ex,ey⟩:=yl;rw[e1]at e1';cases e1';rw[e2]at e2';cases e2';exact ht i x y q us H' ex ey hq p
 ·have e:i=xs.length:=⋯
  subst e;obtain⟨a1,a2⟩:=hd us H' p;exact .inl %[%[xs,ys,e1,e2|B4 _],a1|a2]
section
variable{X:Cx}
theorem tI(bs:No Bool):(List.range bs.length).any (λ i=>bs.getD i false)=bs.any id:=by
 rw[ND,Mz,Mz];constructor
 ·rintro⟨i,hi,e⟩;have hi':=MD.mp hi;rw[Mp,F4 hi']at e;exact%[_,M8 hi'|e]
 ·rintro⟨b,hb,e⟩;obtain⟨i,hi,e2⟩:=List.getElem_of_mem hb;show%[i,MD.mpr hi|?_];rw[Mp,F4 hi];change bs[i]=true;rw[e2];exact e
def Ca(K:C6):No V->Hp->VK->Prop:=λ xs H Q=>∃(p:Nj)(bs:No Bool),xs=[.ref p]/\SqL K H p (bs.map V.bl)/\Q (.bl (bs.any id)) H
theorem fN(hc:X.calm=true):bS X (.builtin "any") (Ca X.K):=by
 intro Nq s σ H xs us Q I r h;obtain⟨p,bs,rfl,hs,q⟩:=h;obtain⟨u,rfl,rfl⟩:=dk r;obtain⟨its,rv,pl,_⟩:=I.list hs;have e:=jR rv;subst e;have hlt:p < s.heap.objs.size:=by obtain⟨_,_,e,_⟩:=pl;exact B0 e
 show call_any_walk (Of pl.isList ?_);show%[_,_,_,_,_,_,λ i=>bs.getD i false,U,Walks.list (A:=X.A.in1) (I.ok.hd hc) _ p (C1 hlt) _,%[%[_,A9 _ rfl,U|U]|pl.isList.push _],λ i v s' Q' E' hP hQ'=>?_|λ h' tk hk=>?_]
 ·have hP':(bs.map Value.bool)[i]?=some v:=by simpa using hP
  rw[J0]at hP';cases hb:bs[i]? with
  | none=>rw[hb]at hP';cases hP'
  | some b=>
   rw[hb]at hP';cases hP';have hQ2:Q' (bs.getD i false) s':=hQ';rw[Mp,hb]at hQ2;exact F5 hQ2
 ·have e2:((bs.map Value.bool).toArray.size)=bs.length:=by simp
  rw[e2,tI];show%[.bl (bs.any id),H,I.kept (h':=h') (t':=tk) (λ b o e=>hk b o ?_ (A8 _ e)),U|q];intro z;rw[E5.mp z]at e;exact absurd (B0 e) (E2 _)
end
abbrev Tps(H H':Hp):Prop:=∀a xs,H a= ~~~xs->H' a= ~~~xs
theorem Same.tps{H H':Hp}(s:Same H H'):Tps H H':=λ _ _ e=>s _ _ e
def Sf(F:Nj->Prop)(H H':Hp):Prop:=∀b o,H b=some o->H' b=some o\/(F b/\∃ob kvs,o=.dT kvs/\H' b=some (.frz ob (.dT kvs)))
theorem Same.sf{F:Nj->Prop}{H H':Hp}(s:Same H H'):Sf F H H':=λ b o e=>.inl (s b o e)
theorem Sf.trans{F:Nj->Prop}{H H1 H2:Hp}(a:Sf F H H1)(b:Sf F H1 H2):Sf F H H2:=λ c o e=>by
 rcases a c o e with h | ⟨f,ob,kvs,rfl,h⟩
 ·exact b c o h
 ·rcases b c _ h with h | ⟨_,_,_,z,_⟩
  ·exact .inr %[f,ob,kvs,U|h]
  ·cases z
theorem Sf.mono{F G:Nj->Prop}{H H':Hp}(h:∀a,F a->G a)(s:Sf F H H'):Sf G H H':=λ b o e=>(s b o e).imp id λ%[f|r]=>%[h b f|r]
theorem Sf.not{F:Nj->Prop}{H H':Hp}(s:Sf F H H'){b:Nj}{o:HO}(n:¬ F b)(e:H b=some o):H' b=some o:=(s b o e).resolve_right λ%[f|_]=>n f
theorem Sf.tps{F:Nj->Prop}{H H':Hp}(s:Sf F H H'):Tps H H':=λ b xs e=>(s b _ e).resolve_right λ%[_,_,_,z|_]=>by cases z
theorem Sf.lst{F:Nj->Prop}{H H':Hp}(s:Sf F H H'){b:Nj}{xs:No V}(e:H b=↥xs):H' b=↥xs:=(s b _ e).resolve_right λ%[_,_,_,z|_]=>by cases z
theorem Sf.frz{F:Nj->Prop}{H H':Hp}(s:Sf F H H'){b:Nj}{ob:Obj}{u:HO}(e:H b=some (.frz ob u)):H' b=some (.frz ob u):=(s b _ e).resolve_right λ%[_,_,_,z|_]=>by cases z
theorem Sf.rd{F:Nj->Prop}{H H':Hp}(s:Sf F H H'){b:Nj}{kvs:No (No Key×V)}(e:Rd H b (.dT kvs)):Rd H' b (.dT kvs):=by
 rcases e with e | ⟨ob,e⟩
 ·rcases s b _ e with h | ⟨_,ob,kvs',z,h⟩
  ·exact .inl h
  ·cases z;exact .inr %[ob|h]
 ·exact .inr %[ob|s.frz e]
theorem Sf.free{F:Nj->Prop}{H H':Hp}(s:Sf F H H'){b:Nj}(h:H' b=none):H b=none:=by
 cases e:H b with
 | none=>rfl
 | some o=>rcases s b o e with z | ⟨_,_,_,_,z⟩ <;> rw[h]at z <;> cases z
theorem Sf.same{F:Nj->Prop}{H H0 H':Hp}(s0:Same H H0)(s:Sf F H0 H')(n:∀a,F a->H a=none):Same H H':=λ b o e=>s.not (λ f=>by rw[n b f]at e;cases e) (s0 _ _ e)
theorem yT{a:Nj}{H:Hp}{kvs:No (No Key×V)}{R:It->Hp->Prop}(rd:Rd H a (.dT kvs))(h:∀ob H',H' a=some (.frz ob (.dT kvs))->Sf (· = a) H H'->R (Itd a ob kvs) H') :
  (H a=some (.dT kvs)/\∀ob,R (Itd a ob kvs) (upd H a (.frz ob (.dT kvs))))\/∃ob,H a=some (.frz ob (.dT kvs))/\R (Itd a ob kvs) H:=by
 rcases rd with e | ⟨ob,e⟩
 ·show .inl %[e|λ ob=>h ob _ ai λ b o eb=>?_]
  by_cases z:b=a
  ·subst z;rw[e]at eb;cases eb;exact .inr %[U,ob,kvs,U|ai]
  ·rw[ak z];exact .inl eb
 ·exact .inr %[ob,e|h ob H e (Same.sf (Same.refl _))]
theorem DGet.r{H:Hp}{a b:Nj}{kvs:No (No Key×V)}{k:No Key}(e:Rd H a (.dT kvs))(eb:H b= ~~~(k.map kV)):DGet H a (.ref b) (cS kvs k):=.inr %[kvs,k,b,e,U,eb|U]
def Sg(F:Nj->Prop)(st:Nj)(H H':Hp):Prop:=∀b o,H b=some o->H' b=some o\/(F b/\∃ob kvs,o=.dT kvs/\H' b=some (.frz ob (.dT kvs)))\/(b=st/\∃kvs kvs',o=.dT kvs/\Rd H' b (.dT kvs'))
theorem Sf.sg{F:Nj->Prop}{st:Nj}{H H':Hp}(s:Sf F H H'):Sg F st H H':=λ b o e=>(s b o e).imp id .inl
theorem Same.sg{F:Nj->Prop}{st:Nj}{H H':Hp}(s:Same H H'):Sg F st H H':=λ b o e=>.inl (s b o e)
theorem Sg.refl{F:Nj->Prop}{st:Nj}(H:Hp):Sg F st H H:=λ _ _ e=>.inl e
theorem Sg.put{F:Nj->Prop}{st:Nj}{H:Hp}{kvs kvs':No (No Key×V)}(h:H st=some (.dT kvs)):Sg F st H (upd H st (.dT kvs')):=λ b o e=>by
 by_cases z:b=st
 ·subst z;rw[h]at e;cases e;exact .inr (.inr %[U,kvs,kvs',U|.inl ai])
 ·rw[ak z];exact .inl e
theorem Sg.trans{F:Nj->Prop}{st:Nj}{H H1 H2:Hp}(a:Sg F st H H1)(b:Sg F st H1 H2):Sg F st H H2:=λ c o e=>by
 rcases a c o e with h | ⟨f,ob,kvs,rfl,h⟩ | ⟨rfl,kvs,kvs',rfl,h⟩
 ·exact b c o h
 ·rcases b c _ h with h | ⟨_,_,_,z,_⟩ | ⟨_,_,_,z,_⟩
  ·exact .inr (.inl %[f,ob,kvs,U|h])
  ·cases z
  ·cases z
 ·show .inr (.inr %[U,kvs|?_]);rcases h with h | ⟨ob,h⟩
  ·rcases b c _ h with h | ⟨_,ob,k2,z,h⟩ | ⟨_,_,k2,z,h⟩
   ·exact%[kvs',U|.inl h]
   ·exact%[k2,U|.inr %[ob|h]]
   ·exact%[k2,U|h]
  ·rcases b c _ h with h | ⟨_,_,_,z,_⟩ | ⟨_,_,_,z,_⟩
   ·exact%[kvs',U|.inr %[ob|h]]
   ·cases z
   ·cases z
theorem Sg.keep{F:Nj->Prop}{st:Nj}{H H':Hp}(s:Sg F st H H'){b:Nj}{o:HO}(n:∀kvs,o≠.dT kvs)(e:H b=some o):H' b=some o:=by
 rcases s b o e with h | ⟨_,_,kvs,z,_⟩ | ⟨_,kvs,_,z,_⟩
 ·exact h
 ·exact absurd z (n kvs)
 ·exact absurd z (n kvs)
theorem Sg.tps{F:Nj->Prop}{st:Nj}{H H':Hp}(s:Sg F st H H'):Tps H H':=λ _ _ e=>s.keep (λ _ z=>by cases z) e
theorem Sg.lst{F:Nj->Prop}{st:Nj}{H H':Hp}(s:Sg F st H H'){b:Nj}{xs:No V}(e:H b=↥xs):H' b=↥xs:=s.keep (λ _ z=>by cases z) e
theorem Sg.ins{F:Nj->Prop}{st:Nj}{H H':Hp}(s:Sg F st H H'){b C d:Nj}{fs:No (Str×V)}(e:H b=some (.ins C d fs)):H' b=some (.ins C d fs):=s.keep (λ _ z=>by cases z) e
theorem Sg.frz{F:Nj->Prop}{st:Nj}{H H':Hp}(s:Sg F st H H'){b:Nj}{ob:Obj}{u:HO}(e:H b=some (.frz ob u)):H' b=some (.frz ob u):=s.keep (λ _ z=>by cases z) e
theorem Sg.rd{F:Nj->Prop}{st:Nj}{H H':Hp}(s:Sg F st H H'){b:Nj}(n:b≠st){kvs:No (No Key×V)}(e:Rd H b (.dT kvs)):Rd H' b (.dT kvs):=by
 rcases e with e | ⟨ob,e⟩
 ·rcases s b _ e with h | ⟨_,ob,k2,z,h⟩ | ⟨z,_⟩
  ·exact .inl h
  ·cases z;exact .inr %[ob|h]
  ·exact absurd z n
 ·exact .inr %[ob|s.frz e]
theorem Sg.not{F:Nj->Prop}{st:Nj}{H H':Hp}(s:Sg F st H H'){b:Nj}{o:HO}(n:b≠st)(nf:¬ F b)(e:H b=some o):H' b=some o:=by
 rcases s b _ e with h | ⟨f,_⟩ | ⟨z,_⟩
 ·exact h
 ·exact absurd f nf
 ·exact absurd z n
theorem Sg.sf{F:Nj->Prop}{st:Nj}{H H':Hp}(s:Sg F st H H')(n:H st=none):Sf F H H':=λ b o e=>by
 rcases s b _ e with h | f | ⟨z,_⟩
 ·exact .inl h
 ·exact .inr f
 ·rw[z,n]at e;cases e
section
variable{X:Cx}
def wK(tl:TE):TI:=λ σ H R=>tl σ H λ x H1=>∃a kvs,x=.ref a/\Rd H1 a (.dT kvs)/\∀ob H',H' a=some (.frz ob (.dT kvs))->Sf (· = a) H1 H'->R (Itd a ob kvs) H'
theorem kg{tg l:Expr}{tl:TE}(hl:PE X l tl):PI X tg l (wK tl):=by
 intro Nq s σ H R I h;have h2:PE X l (λ σ' H' Q=>∃Q1:VK,tl σ' H' Q1/\∀x H1,Q1 x H1->Q x H1):=by intro Nq s σ H Q I ⟨Q1,h1,h2⟩;show thn (hl Nq s σ H Q1 I h1) λ v s1 z=>?_;obtain⟨x,H1,a1,a2,a3⟩:=z;exact%[x,H1,a1,a2|h2 _ _ a3]
 show wE h2 Nq s σ H R I %[_,h|λ x H1 z=>?_];obtain⟨a,kvs,e,rd,hh⟩:=z;exact%[a,kvs,e|yT rd hh]
theorem tJ{tg l:Expr}{tl:TE}(K:C6)(hK:X.K=K)(hl:PE X l tl):PI X tg l (wK tl):=kg hl
end
theorem tK{a:Nj}{ob:Obj}{kvs:No (No Key×V)}{g:TG}{tb:TS}{D:Ends}{σ:St}{H:Hp}(Pv:Nat->St->Hp->Prop)(h0:Pv 0 σ H)(hl:∀i σ H,i<=kvs.length->Pv i σ H->H a=some (.frz ob (.dT kvs)))
  (hs:∀i k v p q σ H,kvs[i]?=some (k,v)->H p=none->H q= ~~~(k.map kV)->Pv i σ H->g (.ref p) σ (upd H p (.tup [.ref q,v])) λ σ2 H2=>tb { D with nx:=Pv (i+1),ct:=Pv (i+1),bk:=D.nx } σ2 H2) (hd:∀σ H,Pv kvs.length σ H->D.nx σ H) :
  ∃W:Nat->Nat->St->Hp->Prop,(∃m,W 0 m σ H)/\∀i m σ H,W i m σ H ->
   ((Iti a ob kvs).stop i H/\D.nx σ H)\/((Iti a ob kvs).go i H/\∃N:St->Hp->Prop,(∀σ' H',N σ' H'->∃m',m' < m/\W (i+1) m' σ' H')/\∀x H',(Iti a ob kvs).yld i H x H'->g x σ H' λ σ2 H2=>tb { D with nx:=N,ct:=N,bk:=D.nx } σ2 H2):=by
 show%[λ i m σ H=>m=kvs.length - i/\i<=kvs.length/\Pv i σ H,%[kvs.length,by simp,F1 _|h0]|?_];rintro i m σ H ⟨rfl,hi,p⟩;have q:=hl i σ H hi p
 by_cases hin:i < kvs.length
 ·show .inr %[%[hin|q],Pv (i+1),λ σ' H' p'=>%[kvs.length - (i+1),⋯,U,hin|p']|λ x H' y=>?_];obtain⟨pa,q,k',v',e1,e2,e3,e4,e5⟩:=y;subst e4 e5;exact hs i k' v' pa q σ _ e1 e2 e3 p
 ·have e:i=kvs.length:=⋯
  subst e;exact .inl %[%[U|q]|hd σ H p]
end L2
namespace PyProof.Rows
open PySem PySem.W
section
variable{prog:G0}{w:G2}{A:Around}{E:G3->F9->Prop}{s:F9}
theorem jk{κ:KeyKind}{κ0:SortKind}{a:Nj}{vs:No G3}{n:Nat}{P:Fin->F9->Prop}(ho:s.heap.get? a=some (seqObj "list" vs.toArray n))
  (h0:KeysOf κ (pairsOf vs)) (hkk:∀s':F9,(∀b o,b≠a->s.heap.get? b=some o->s'.heap.get? b=some o)->bf prog w A s' κ0 κ/\∀v₁ v₂ rest,vs=v₁ :: v₂ :: rest->∀(Q:SortKind->F9->Prop),Q κ0 s'->wpAny (model prog w) A (keyKind' (v₁ :: v₂ :: rest).toArray) Q E s') (h64:vs.length < 4096)
  (h:∀st':SortSt,(arrOf st').Perm (pairsOf vs)->(vs.length < 64->SortedToK κ (arrOf st') (pairsOf vs).size)->P (.done (.ret .none)) { s with heap:=sortedHeap s.heap a vs ((arrOf st').map (·.2)) }) :
  wpAny (model prog w) A (Builtin.«list.sort» %[[.ref a]|[]]) P E s:=by
 by_cases c:vs.length < 64
 ·exact jh ho h0 hkk c λ st' a1 a2=>h st' a1 λ _=>a2
 ·exact jj ho h0 hkk h64 λ st' a1=>h st' a1 λ z=>absurd z c
theorem wL{κ:KeyKind}{κ0:SortKind}{d:Nj}{vs:No G3}{Q:G3->F9->Prop}(hcol:∀ {Q:No G3->F9->Prop},(∀h' tk,(∀b o,s.heap.get? b=some o->h'.get? b=some o)->s.heap.objs.size<=h'.objs.size->Q vs { s with heap:=h',toks:=tk })->wpAny (model prog w) A.in1 (collect (.ref d)) Q E s)(h0:KeysOf κ (pairsOf vs))(hkk:∀ (A':Around) (s':F9),(∀b o,s.heap.get? b=some o->s'.heap.get? b=some o)->bf prog w A' s' κ0 κ/\∀v₁ v₂ rest,vs=v₁ :: v₂ :: rest->∀ (Q:SortKind->F9->Prop) (E':G3->F9->Prop),Q κ0 s'->wpAny (model prog w) A' (keyKind' (v₁ :: v₂ :: rest).toArray) Q E' s')(h64:vs.length < 4096)
  (h:∀(st':SortSt)(L:Nj)(h':Heap)(tk e:Nat),(arrOf st').Perm (pairsOf vs)->(vs.length < 64->SortedToK κ (arrOf st') (pairsOf vs).size)->(∀b o,s.heap.get? b=some o->h'.get? b=some o)->s.heap.objs.size<=L->h'.get? L=some (seqObj "list" ((arrOf st').map (·.2)) e)->Q (.ref L) { s with heap:=h',toks:=tk }) :
  wpAny (model prog w) A (call (.builtin "sorted") [.ref d]) Q E s:=by
 show Calls.call_function_entry kind_sorted plain_sorted entry_sorted (args_sorted1 _) ?_;unfold Builtin.«sorted»;show A0 (m:=checkCount "sorted" 1 1 _) (A3 ?_);show A0 (hcol λ h1 tk k1 hle=>?_);show A0 (wpAny_newList ?_);have hoL:(h1.push (seqObj "list" vs.toArray 0)).get? h1.objs.size=some (seqObj "list" vs.toArray 0):=A9 _ rfl;change wpAny _ _ _ _ _ { s with heap:=h1.push (seqObj "list" vs.toArray 0),toks:=tk };show A0 (N2 (F6 slot_list_sort %[_,hoL|rfl] entry_list_sort (jk hoL h0 (λ s' k=>by
  obtain⟨a1,a2⟩:=hkk _ s' (λ b o e=>k b o (C1 (B0 (k1 b o e))) (A8 _ (k1 b o e)));exact%[a1|λ v1 v2 r e Q q=>a2 v1 v2 r e Q _ q]) h64 λ st' a1 a2=>%[_,U|?_]) (args_list_sort _)))
 obtain⟨e,he⟩:=sortedHeap_at (out:=(arrOf st').map (·.2)) (vs:=vs) hoL;show A3 %[_,rfl|h st' h1.objs.size _ tk e a1 a2 (λ b o eb=>?_) hle he];have:=B0 (k1 b o eb);rw[sortedHeap_old (C1 this) (by rw[size_push'];exact Mo this)];exact A8 _ (k1 b o eb)
end
end PyProof.Rows
namespace L2
open PySem PySem.Spec PyProof.Rows
section
variable{X:Cx}
theorem jc(hc:X.calm=true){Nq:P6}{s:F9}{σ:St}{H:Hp}{d:Nj}{as:No Nj}{sh:No Bool}{Q:VK}(I:Inv X Nq σ H s)
  (hcol:∀{A':Around}{E:G3->F9->Prop}{Q:No G3->F9->Prop},A'.handled=none->(∀h' tk,(∀b o,s.heap.get? b=some o->h'.get? b=some o)->s.heap.objs.size<=h'.objs.size->Q (as.map Value.ref) { s with heap:=h',toks:=tk })->wpAny (model X.prog X.w) A' (collect (.ref d)) Q E s)
  (h64:as.length < 4096) (h0:sh.head?=some false) (ht:∀a∈as,∃vs,H a= ~~~vs/\eJ sh vs=some (gS H sh a))
  (q:∀(L:Nj)(as':No Nj),H L=none->as'.Perm as->(as.length < 64->(as'.map (gS H sh)).Pairwise (λ x y=>cr y x=false))->Q (.ref L) (upd H L (.lst (as'.map V.ref)))) :
  wpAny (model X.prog X.w) X.A (call (.builtin "sorted") [.ref d]) (EP X Nq σ Q) X.xe s:=by
 have tu:∀a∈as,∃o us n,s.heap.get? a=some o/\o.cls=.type "tuple" /\ o.data=.seq (List.toArray us) n/\cz sh us=some (gS H sh a):=λ a ha=>by obtain⟨vs,e2,k2⟩:=ht a ha;obtain⟨us,r,⟨o,e,c,n,d⟩,_⟩:=I.tuple (G5 (K:=X.K) e2);exact%[o,us,n,e,c,d|qc r k2]
 have kof:∀a∈as,(tm s.heap sh).keyOf (.ref a)=some (gS H sh a):=λ a ha=>by
  obtain⟨o,us,n,e,c,d,f⟩:=tu a ha;change(match s.heap.get? a with
   | some o=>match o.data with
    | .seq xs _=>cz sh xs.toList
    | _=>none
   | none=>none)=some (gS H sh a)
  rw[e];change(match o.data with
    | .seq xs _=>cz sh xs.toList
    | _=>none)=some (gS H sh a)
  rw[d];exact f
 show wL (κ:=tm s.heap sh) (κ0:=tuples' true) (hcol (I.ok.hd hc)) ?keys ?kk (by rw[B5];lia) λ st' L h' tk e hp hs' kp hL he=>?_
 case keys=>
  intro pr hpr;rw[pairsOf_toList]at hpr;obtain⟨a,ha,e⟩:=J5.mp (List.of_mem_zip (show(pr.1,pr.2)∈_ from hpr)).1;exact%[gS H sh a|by rw[<- e];exact kof a ha]
 case kk=>
  intro A' s' k;show%[tq h0 k|λ v1 v2 rest e Q E' q=>?_];obtain⟨fs,f1,f2,f3⟩:=ja (h:=s'.heap) (key:=gS H sh) h0 as λ a ha=>by obtain⟨o,us,n,e,c,d,f⟩:=tu a ha;exact%[o,us,n,k _ _ e,c,d|f]
  rw[e]at f1;have:(as.map Value.ref).length=rest.length+2:=by rw[e];rfl
  rw[B5]at this;show PySem.W.kat_kind (T:=.type "int") f1 ⋯ (λ v hv=>?_) rfl q;obtain⟨i,t,rfl⟩:=f3 v hv;exact PySem.W.Looks.of_pure rfl
 have pz:∀l:No Nj,(l.map Value.ref).zip (l.map Value.ref)=l.map λ a=>(Value.ref a,Value.ref a):=λ l=>by
  induction l with
  | nil=>rfl
  | cons a l ih=>rw[J6,List.zip_cons_cons,ih,J6]
 have hp':=MP.mp hp;rw[pairsOf_toList,pz]at hp';obtain⟨as',ea,pa⟩:=wz (f:=λ a=>(Value.ref a,Value.ref a)) (λ pr=>match pr.1 with
  | .ref a=>some a
  | _=>none) (λ a=>rfl) hp'
 have eo:((arrOf st').map (·.2)).toList=as'.map Value.ref:=by rw[Array.toList_map,ea,MO];rfl
 have hn:H L=none:=I.hok.fresh hL;show%[.ref L,upd H L (.lst (as'.map V.ref)),I.laid (o:=.lst (as'.map V.ref)) (t':=tk) kp hL (show ObjOk _ _ _ _ _ (.lst _)from%[?_,((arrOf st').map (·.2)).toList,e,?_|?_]),U|q L as' hn pa ?_]
 ·rw[B5,pa.length_eq];have:(4096:Nat)<=sizeLine:=∅
  lia
 ·rw[eo];exact iM as'
 ·rw[he]
 ·intro h63;have hs':=hs' (by rw[B5];exact h63);rw[NC];intro i j hi hj hij;rw[B5]at hi hj;have sz:(pairsOf (as.map Value.ref)).size=as.length:=by rw[pairsOf_size,B5]
  have kk:∀i (hi:i < as'.length),KK (tm s.heap sh) (arrOf st') i=gS H sh as'[i]:=λ i hi=>by
   have e:(arrOf st')[i]?=some (Value.ref as'[i],Value.ref as'[i]):=by rw[<- K2,ea,J0,F4 hi];rfl
   unfold KK;rw[e];change((tm s.heap sh).keyOf (.ref as'[i])).getD _=_;rw[kof _ (pa.mem_iff.mp (M8 hi))];rfl
  have:=hs' i j ⋯ (by rw[sz,<- pa.length_eq];exact hj);rw[kk i hi,kk j hj]at this;rw[List.getElem_map,List.getElem_map];exact this
def yU(xs:No V)(H:Hp)(Q:VK):Prop:=∃(p:Nj)(kvs:No (No Key×V))(sh:No Bool)(key:No Key->Pz),xs=[.ref p]/\Rd H p (.dT kvs)/\kvs.length < 4096/\sh.head?=some false/\(∀kv∈kvs,eJ sh (kv.1.map kV)=some (key kv.1)) /\
 ∀(l:Nj)(as':No Nj)(ks':No (No Key)),H l=none->Paired (λ a k=>H a= ~~~(k.map kV)) as' ks'->ks'.Perm (kvs.map (·.1))->(kvs.length < 64->(ks'.map key).Pairwise (λ x y=>cr y x=false))->Q (.ref l) (upd H l (.lst (as'.map V.ref)))
theorem kW(hc:X.calm=true):bS X (.builtin "sorted") yU:=by
 intro Nq s σ H xs us Q I r h;obtain⟨p,kvs,sh,key,rfl,hp,h64,h0,hk,q⟩:=h;obtain⟨u,rfl,rfl⟩:=dk r;obtain⟨hz,hs,ys,pr,o,es,ep,h1,h2,h3,h4,h5⟩:=(show ObjOk X.prog X.w H s.heap p (.dT kvs)from hp.ok I.hok)
 have yl:ys.length=kvs.length:=(lL pr).symm;have at':∀y∈ys,∃kv∈kvs,kv.1=y.1/\H y.2.1= ~~~(y.1.map kV):=λ y hy=>by obtain⟨j,hj⟩:=MJ.mp hy;have jl:j < ys.length:=(A7.mp hj).1;have hkj:kvs[j]?=some kvs[j]:=F4 ⋯;obtain⟨z,hz',z1,z2,_⟩:=nS pr hkj;rw[hj]at hz';cases hz';exact%[_,B7 hkj,z1|by rw[<- z1];exact z2]
 have km:∀y∈ys,gS H sh y.2.1=key y.1/\eJ sh (y.1.map kV)=some (key y.1):=λ y hy=>by obtain⟨kv,m,e1,e2⟩:=at' y hy;have f:=hk kv m;rw[e1]at f;exact%[rA e2 f|f]
 obtain⟨as,has⟩:∃as,as=ys.map (·.2.1):=%[_|U]
 have ev:es.toList.map (·.key)=as.map Value.ref:=by rw[h4,has,MO,MO];rfl
 have al:as.length=kvs.length:=by rw[has,B5,yl]
 have hsz:es.size<=sizeLine:=by
  have:es.size=as.length:=by rw[<- J7,<- B5 (f:=(·.key)),ev,B5]
  have z:(4096:Nat)<=sizeLine:=∅
  lia
 show jc hc I (λ hh k=>wI hs hh %[o,h1,h2|h3] hsz λ h' tk k1 k2=>by rw[ev];exact k h' tk k1 k2) ⋯ h0 (λ a ha=>?_) λ L as' hn pa hs'=>?_
 ·rw[has]at ha;obtain⟨y,hy,rfl⟩:=J5.mp ha;obtain⟨kv,m,e1,e2⟩:=at' y hy;obtain⟨k1,k2⟩:=km y hy;exact%[_,e2|by rw[k1];exact k2]
 obtain⟨ys',ey,py⟩:=dD (λ y:No Key×Nj×Value=>y.2.1) pa ys has;have my:∀y∈ys',y∈ys:=λ y hy=>py.mem_iff.mp hy;have pk:∀zs:No (No Key×Nj×G3),(∀y∈zs,y∈ys)->Paired (λ a k=>H a= ~~~(List.map kV k)) (zs.map λ y=>y.2.1) (zs.map (·.1)):=λ zs=>by
  induction zs with
  | nil=>intro _;exact .nil
  | cons z zs ih=>intro hz;exact .cons (let ⟨_,_,_,e2⟩:=at' z (hz z B9);e2) (ih λ y hy=>hz y (B6 _ hy))
 have ek:kvs.map (·.1)=ys.map (·.1):=by
  show NZ λ j=>?_;rw[J0,J0]
  by_cases c:j < kvs.length
  ·rw[F4 c];obtain⟨z,hz',z1,_⟩:=nS pr (F4 c);rw[hz',Option.map_some,Option.map_some,z1]
  ·rw[MX ⋯,MX ⋯];rfl
 show q L as' (ys'.map (·.1)) hn ?_ ?_ ?_
 ·rw[ey];exact pk ys' my
 ·rw[ek];exact py.map _
 ·intro h63;have e0:(ys'.map (·.1)).map key=as'.map (gS H sh):=by rw[ey,MO,MO];exact List.map_congr_left λ y hy=>(km y (my y hy)).1.symm
  rw[e0];exact hs' ⋯
end
end L2
namespace L2
open PySem PySem.SetTable
def fg(mask:Nat)(p:Probe):Probe:=advance { (default:SetTable)with mask:=mask } p
def prS(mask:Nat)(h:Int):Probe:=probeStart { (default:SetTable)with mask:=mask } h
def prN(mask:Nat)(h:Int):Nat->Probe
 | 0=>prS mask h
 | n+1=>fg mask (prN mask h n)
def ilN(mask b:Nat):Nat->Nat
 | 0=>b % (mask+1)
 | k+1=>(ilN mask b k * 5+1+b / 32 ^ k / 32) % (mask+1)
def stK(mask b k:Nat):Probe:={ j:=ilN mask b k,more:=runEnd mask (ilN mask b k) - ilN mask b k,i:=ilN mask b k,perturb:=b / 32 ^ k,dummy:=none }
theorem kh(mask:Nat):∀(m:Nat)(p:Probe)(h:Int)(n:Nat),prN mask h n=p->p.more=m->prN mask h (n+m)={ p with j:=p.j+m,more:=0 }
 | 0,p,h,n,e,em=>by rw[Nd,e];cases p;cases em;rfl
 | m+1,p,h,n,e,em=>by
  have e1:prN mask h (n+1)={ p with j:=p.j+1,more:=m }:=by
   change fg mask (prN mask h n)=_;rw[e];unfold fg advance;rw[Nw (by rw[em];exact NM m),em]
   rfl
  have:=kh mask m _ h (n+1) e1 rfl;rw[show n+(m+1)=n+1+m by lia,this];change Probe.mk _ _ _ _ _=Probe.mk _ _ _ _ _;rw[Nat.add_assoc,Nat.add_comm 1 m]
theorem tL(mask i:Nat):runEnd mask i - i<=9:=by unfold runEnd;split <;> lia
theorem wM(mask:Nat)(h:Int):∀k,∃n,n<=10 * k/\prN mask h n=stK mask (bits h) k
 | 0=>⟨0,B4 _,by
  change prS mask h=_;unfold prS probeStart stK ilN;rw[Nat.pow_zero,Nat.div_one]⟩
 | k+1=>by
  obtain⟨n,hn,e⟩:=wM mask h k;have r:=kh mask _ _ h n e rfl;show%[n+(stK mask (bits h) k).more+1,?_|?_]
  ·have:(stK mask (bits h) k).more<=9:=tL _ _;lia
  ·change fg mask (prN mask h _)=_;rw[r];unfold fg advance;rw[Nv (E2 0)];unfold leap stK;dsimp only;rw[show ilN mask (bits h) (k+1)=(ilN mask (bits h) k * 5+1+bits h / 32 ^ k / 32) % (mask+1)from rfl,Nat.pow_succ,NO (bits h)]
theorem yV(h:Int):bits h < 2 ^ 64:=by
 unfold bits;have h1:=Ng h (show(2 ^ 64:Int)≠0 by decide);have h2:=NP h (show(0:Int) < 2 ^ 64 by decide);have e:((2 ^ 64:Nat):Int)=(2 ^ 64:Int):=∅
 lia
theorem rD(mask:Nat)(h:Int)(k:Nat)(hk:12<=k):ilN mask (bits h) (k+1)=(ilN mask (bits h) k * 5+1) % (mask+1):=by
 have z:bits h / 32 ^ k / 32=0:=by rw[NO,<- Nat.pow_succ];show Nat.div_eq_of_lt (C3 (yV h) ?_);exact C7 (by decide:2 ^ 64<=32 ^ 13) (NE ∅ ⋯)
 change(_+bits h / 32 ^ k / 32) % _=_;rw[z,Nd]
def orb(mask:Nat):Nat->Nat->No Nat
 | 0,_=>[]
 | n+1,i=>i :: orb mask n ((i * 5+1) % (mask+1))
theorem qo(mask:Nat):∀(n i j:Nat),j∈orb mask n i->∀f:Nat->Nat,f 0=i->(∀k,f (k+1)=(f k * 5+1) % (mask+1))->∃d,d < n/\f d=j
 | 0,_,_,m,_,_,_=>by cases m
 | n+1,i,j,m,f,f0,fs=>by
  rcases J3.mp m with rfl | m
  ·exact%[0,NM n|f0]
  ·obtain⟨d,h1,h2⟩:=qo mask n _ j m (λ k=>f (k+1)) (by rw[fs,f0]) (λ k=>fs (k+1));exact%[d+1,Nat.succ_lt_succ h1|h2]
def fV(mask:Nat):Prop:=mask=7\/mask=31\/mask=127
def gN(mask:Nat):Nat->Nat
 | 0=>0
 | n+1=>(gN mask n * 5+1) % (mask+1)
theorem mY(mask a:Nat)(f:Nat->Nat)(f0:f 0=gN mask a)(fs:∀k,f (k+1)=(f k * 5+1) % (mask+1)):∀d,f d=gN mask (a+d)
 | 0=>f0
 | d+1=>by rw[fs,mY mask a f f0 fs d];rfl
theorem AR{mask:Nat}(hm:fV mask):(∀j,j < mask+1->j∈orb mask (mask+1) 0)/\gN mask (mask+1)=0:=by
 rcases hm with rfl | rfl | rfl
 ·exact%[∅|∅]
 ·exact%[∅|∅]
 ·exact%[∅|∅]
theorem rE{mask:Nat}(hm:fV mask){i j:Nat}(hi:i < mask+1)(hj:j < mask+1)(f:Nat->Nat)(f0:f 0=i)(fs:∀k,f (k+1)=(f k * 5+1) % (mask+1)):∃d,d < mask+1/\f d=j:=by
 obtain⟨o1,o2⟩:=AR hm;obtain⟨a,a1,a2⟩:=qo mask _ 0 i (o1 i hi) (gN mask) rfl (λ _=>rfl);obtain⟨b,b1,b2⟩:=qo mask _ 0 j (o1 j hj) (gN mask) rfl (λ _=>rfl);have F:=mY mask a f (f0.trans a2.symm) fs
 by_cases c:a<=b
 ·exact%[b - a,⋯|by rw[F,show a+(b - a)=b by lia];exact b2]
 ·have P:=mY mask (mask+1) (gN mask) (by rw[o2];rfl) (λ _=>rfl) b;exact%[b+(mask+1) - a,⋯|by rw[F,show a+(b+(mask+1) - a)=mask+1+b by lia,<- P];exact b2]
theorem Cb{mask:Nat}(hm:fV mask)(h:Int){j:Nat}(hj:j<=mask):∃n,n < 10 * turns mask/\(prN mask h n).j=j:=by
 have il:∀k,ilN mask (bits h) k < mask+1:=λ k=>by cases k <;> exact Ni _ (NM _)
 obtain⟨d,d1,d2⟩:=rE hm (il 12) (show j < mask+1 by lia) (λ k=>ilN mask (bits h) (12+k)) rfl (λ k=>rD mask h (12+k) ⋯);obtain⟨n,n1,n2⟩:=wM mask h (12+d);show%[n,?_|by rw[n2];exact d2];unfold turns;lia
def Rsg(xs:No Nat):Prop:=xs.Pairwise (· < ·)
theorem Rsg.lt{xs:No Nat}(h:Rsg xs){i k a b:Nat}(hik:i < k)(ha:xs[i]?=some a)(hb:xs[k]?=some b):a < b:=by obtain⟨i1,rfl⟩:=A7.mp ha;obtain⟨k1,rfl⟩:=A7.mp hb;exact NC.mp h i k i1 k1 hik
theorem Rsg.le{xs:No Nat}(h:Rsg xs){i k a b:Nat}(hik:i<=k)(ha:xs[i]?=some a)(hb:xs[k]?=some b):a<=b:=by
 by_cases e:i=k
 ·subst e;rw[ha]at hb;cases hb;exact B4 _
 ·exact C9 (h.lt ⋯ ha hb)
theorem ki{xs:Nn Nat}(h:Rsg xs.toList)(j:Nat):∀(n lo hi:Nat),lo<=hi->hi<=xs.size->hi - lo<=n->(∀i a,i < lo->xs.toList[i]?=some a->a < j)->(∀i a,hi<=i->xs.toList[i]?=some a->j<=a) ->
  ∃r,below.go xs j n lo hi=r/\r<=xs.size/\(∀i a,i < r->xs.toList[i]?=some a->a < j)/\(∀i a,r<=i->xs.toList[i]?=some a->j<=a)
 | 0,lo,hi,h1,h2,h3,l,u=>%[lo,U,⋯,l|λ i a hi'=>u i a ⋯]
 | n+1,lo,hi,h1,h2,h3,l,u=>by
  unfold below.go
  by_cases c:lo < hi
  ·rw[Nw c];dsimp only;have hm:(lo+hi) / 2 < xs.size:=⋯
   have hx:xs.toList[(lo+hi) / 2]?=some (xs.getD ((lo+hi) / 2) j):=by rw[K2,MC,J9 hm];rfl
   by_cases d:xs.getD ((lo+hi) / 2) j < j
   ·rw[Nw d];exact ki h j n _ _ ⋯ h2 ⋯ (λ i a hi' e=>C8 (h.le ⋯ e hx) d) u
   ·rw[Nv d];exact ki h j n _ _ ⋯ ⋯ ⋯ l (λ i a hi' e=>C7 ⋯ (h.le hi' hx e))
  ·rw[Nv c];exact%[lo,U,⋯,l|λ i a hi'=>u i a ⋯]
theorem kj{xs:Nn Nat}(h:Rsg xs.toList)(j:Nat):below xs j<=xs.size/\(∀i a,i < below xs j->xs.toList[i]?=some a->a < j)/\(∀i a,below xs j<=i->xs.toList[i]?=some a->j<=a):=by
 obtain⟨r,e,h1⟩:=ki h j xs.size 0 xs.size (F1 _) (B4 _) (B4 _) (λ i a z=>absurd z (F2 _)) (λ i a z e=>by
  have:=(A7.mp e).1;rw[J7]at this;lia)
 unfold below;rw[e];exact h1
structure TbOk(t:SetTable)(n:Nat):Prop where
 mok:fV t.mask
 nod:t.dummies=#[]
 rs:Rsg t.place.toList
 le:∀j∈t.place.toList,j<=t.mask
 sz:t.place.size=n
theorem TbOk.slot_live{t:SetTable}{n i j:Nat}(h:TbOk t n)(e:t.place[i]?=some j):t.slot j=.live i:=by
 obtain⟨b1,b2,b3⟩:=kj h.rs j;have e':t.place.toList[i]?=some j:=by rw[K2];exact e
 have:below t.place j=i:=by
  rcases NX (below t.place j) i with c | c | c
  ·have l:below t.place j < t.place.toList.length:=Nat.lt_trans c (A7.mp e').1;have hx:=F4 l;have:=b3 _ _ (B4 _) hx;have:=h.rs.lt c hx e';lia
  ·exact c
  ·exact absurd (b2 i j c e') (E2 _)
 unfold slot;dsimp only;rw[this,e,Nw (by simp)]
theorem rF(j:Nat):has #[] j=false:=rfl
theorem TbOk.slot_empty{t:SetTable}{n j:Nat}(h:TbOk t n)(e:j∉t.place.toList):t.slot j=.empty:=by
 unfold slot;dsimp only;rw[Nv (λ z=>e (by
  have z:=eq_of_beq z;rw[<- K2]at z;exact B7 z)),h.nod,rF]
 rfl
theorem TbOk.slot_mem{t:SetTable}{n j:Nat}(h:TbOk t n)(e:j∈t.place.toList):∃i,t.place[i]?=some j/\t.slot j=.live i:=by obtain⟨i,hi⟩:=MJ.mp e;rw[K2]at hi;exact%[i,hi|h.slot_live hi]
theorem TbOk.free{t:SetTable}{n:Nat}(h:TbOk t n)(l:n<=t.mask):∃j,j<=t.mask/\j∉t.place.toList:=by
 by_cases c:∃j,j<=t.mask/\j∉t.place.toList
 ·exact c
 ·have all:∀j∈List.range (t.mask+1),j∈t.place.toList:=λ j hj=>by
   by_cases m:j∈t.place.toList
   ·exact m
   ·exact absurd %[j,by rw[MD]at hj;lia|m] c
  have:=List.Nodup.length_le_of_subset (List.nodup_range (n:=t.mask+1)) (λ j hj=>all j hj);rw[Mj,J7,h.sz]at this;lia
theorem TbOk.put{t:SetTable}{n j:Nat}(h:TbOk t n)(e:j∉t.place.toList)(hj:j<=t.mask):TbOk (t.put j).1 (n+1)/\(t.put j).2<=n/\(t.put j).1.place=insertAt t.place (t.put j).2 j/\(t.put j).1.mask=t.mask:=by
 obtain⟨b1,b2,b3⟩:=kj h.rs j;have pl:(t.put j).1.place=insertAt t.place (below t.place j) j:=rfl;have tl:=toList_insertAt t.place (below t.place j) j;show%[%[h.mok,?_,?_,?_|?_],by rw[<- h.sz];exact b1,U|U]
 ·change(if has t.dummies j=true then _ else t.dummies)=_;rw[h.nod,rF];rfl
 ·rw[pl,tl];show List.pairwise_append.mpr %[h.rs.sublist (List.take_sublist _ _),List.pairwise_cons.mpr %[λ a m=>?_|h.rs.sublist (List.drop_sublist _ _)]|λ a m b mb=>?_]
  ·obtain⟨i,hi⟩:=MJ.mp m;rw[List.getElem?_drop]at hi;have:=b3 _ _ ⋯ hi;have ne:a≠j:=λ z=>e (z ▸ B7 hi);lia
  ·obtain⟨i,hi⟩:=MJ.mp m;have il:=(A7.mp hi).1;rw[K0]at il;rw[NG ⋯]at hi;have la:=b2 _ _ ⋯ hi;rcases J3.mp mb with rfl | mb
   ·exact la
   ·obtain⟨k,hk⟩:=MJ.mp mb;rw[List.getElem?_drop]at hk;exact C3 la (b3 _ _ ⋯ hk)
 ·intro a m;rw[pl,tl]at m;rcases C4.mp m with m | m
  ·exact h.le a (NF m)
  ·rcases J3.mp m with rfl | m
   ·exact hj
   ·exact h.le a (List.mem_of_mem_drop m)
 ·rw[pl];have:=OD List.length tl;rw[J7,K4,K3,K0,NI,J7,h.sz]at this;rw[h.sz]at b1;lia
theorem lP(mask:Nat)(h:Int):∀n,(prN mask h n).dummy=none
 | 0=>rfl
 | n+1=>by
  have ih:=lP mask h n;change(fg mask (prN mask h n)).dummy=none;unfold fg advance
  split
  ·exact ih
  ·exact ih
structure FstE(t:SetTable)(h:Int)(N:Nat):Prop where
 out:(prN t.mask h N).j∉t.place.toList
 inn:∀m,m < N->(prN t.mask h m).j∈t.place.toList
 le:N < 10 * turns t.mask
theorem least{p:Nat->Prop}[DecidablePred p]:∀n,p n->∃N,N<=n/\p N/\∀m,m < N->¬ p m
 | 0,h=>%[0,B4 _,h|λ m z=>absurd z (F2 _)]
 | n+1,h=>by
  by_cases c:∃m,m<=n/\p m
  ·obtain⟨m,m1,m2⟩:=c;obtain⟨N,n1,n2⟩:=least m m2;exact%[N,⋯|n2]
  ·exact%[n+1,B4 _,h|λ m hm pm=>c %[m,⋯|pm]]
theorem TbOk.fst{t:SetTable}{n:Nat}(T:TbOk t n)(l:n<=t.mask)(h:Int):∃N,FstE t h N/\(prN t.mask h N).j<=t.mask:=by
 obtain⟨j,j1,j2⟩:=T.free l;obtain⟨k,k1,k2⟩:=Cb T.mok h j1;obtain⟨N,n1,n2,n3⟩:=least (p:=λ n=>(prN t.mask h n).j∉t.place.toList) k (by rw[k2];exact j2);show%[N,%[n2,λ m hm=>?_|⋯]|?_]
 ·by_cases c:(prN t.mask h m).j∈t.place.toList
  ·exact c
  ·exact absurd c (n3 m hm)
 ·-- every step of a way lies within the table
  have W:∀n,(prN t.mask h n).j+(prN t.mask h n).more<=t.mask:=λ n=>by
   have run:∀i,i<=t.mask->i+(runEnd t.mask i - i)<=t.mask:=λ i hi=>by unfold runEnd;split <;> lia
   induction n with
   | zero=>exact run _ (E3 (Ni _ (NM _)))
   | succ n ih=>
    change(fg t.mask (prN t.mask h n)).j+(fg t.mask (prN t.mask h n)).more<=_;unfold fg advance
    by_cases c:(prN t.mask h n).more > 0
    ·rw[Nw c];change _+1+(_ - 1)<=_;lia
    ·rw[Nv c];exact run _ (E3 (Ni _ (NM _)))
  have:=W N;lia
theorem zX{t:SetTable}{n N:Nat}{h:Int}(T:TbOk t n)(F:FstE t h N)(hashAt:Nat->Int):∀(f m:Nat),m<=N->N < m+f ->
  (∃k i,m<=k/\k < N/\t.place[i]?=some (prN t.mask h k).j/\hashAt i=h/\probe.go t hashAt h f (prN t.mask h m)=some (.candidate (prN t.mask h k).j i (prN t.mask h (k+1)))/\(∀k',m<=k'->k' < k->∀i',t.place[i']?=some (prN t.mask h k').j->hashAt i'≠h)) \/
  ((∀k,m<=k->k < N->∀i,t.place[i]?=some (prN t.mask h k).j->hashAt i≠h)/\probe.go t hashAt h f (prN t.mask h m)=some (.empty (prN t.mask h N).j none))
 | 0,m,h1,h2=>⋯
 | f+1,m,h1,h2=>by
  unfold probe.go
  by_cases c:m=N
  ·subst c;rw[T.slot_empty F.out];exact .inr %[λ k a b=>⋯|by dsimp only;rw[lP]]
  ·obtain⟨i,i1,i2⟩:=T.slot_mem (F.inn m ⋯);rw[i2];dsimp only;have one:∀i',t.place[i']?=some (prN t.mask h m).j->i'=i:=λ i' e=>by
    have:=T.slot_live e;rw[i2]at this;injection this with this
    exact this.symm
   by_cases d:hashAt i=h
   ·rw[Nw (by rw[d];exact beq_self_eq_true h)];exact .inl %[m,i,B4 _,⋯,i1,d,U|λ k' a b=>⋯]
   ·rw[Nv (λ z=>d (eq_of_beq z))];change _\/(_/\probe.go t hashAt h f (prN t.mask h (m+1))=_)
    rcases zX T F hashAt f (m+1) ⋯ ⋯ with⟨k,i',a1,a2,a3,a4,a5,a6⟩ | ⟨a1,a2⟩
    ·show .inl %[k,i',⋯,a2,a3,a4,a5|λ k' b1 b2 i2' e=>?_]
     by_cases z:k'=m
     ·subst z;rw[one i2' e];exact d
     ·exact a6 k' ⋯ b2 i2' e
    ·show .inr %[λ k b1 b2 i2' e=>?_|a2]
     by_cases z:k=m
     ·subst z;rw[one i2' e];exact d
     ·exact a1 k ⋯ b2 i2' e
def Pth(t:SetTable)(hs:Pz):Prop:=∀p∈t.place.toList.zip hs,∃n,(prN t.mask p.2 n).j=p.1/\∀m,m < n->(prN t.mask p.2 m).j∈t.place.toList
theorem Pth.met{t:SetTable}{hs:Pz}{h:Int}{N i j:Nat}(P:Pth t hs)(F:FstE t h N)(e:t.place[i]?=some j)(eh:hs[i]?=some h):∃k,k < N/\(prN t.mask h k).j=j:=by
 obtain⟨n,n1,n2⟩:=P (j,h) (B7 (i:=i) (by rw[List.getElem?_zip_eq_some];exact%[by rw[K2];exact e|eh]));show%[n,?_|n1];rcases NX n N with c | c | c
 ·exact c
 ·subst c;exact absurd (n1 ▸ B7 (by rw[K2];exact e)) F.out
 ·exact absurd (n2 N c) F.out
theorem Pth.put{t:SetTable}{hs:Pz}{h:Int}{N:Nat}(T:TbOk t hs.length)(P:Pth t hs)(F:FstE t h N)(le:(prN t.mask h N).j<=t.mask):Pth (t.put (prN t.mask h N).j).1 (hs.take (t.put (prN t.mask h N).j).2 ++ h :: hs.drop (t.put (prN t.mask h N).j).2):=by
 obtain⟨q1,q2,q3,q4⟩:=T.put F.out le;generalize t.put (prN t.mask h N).j=tp at q1 q2 q3 q4;obtain⟨t',p⟩:=tp;dsimp only at q1 q2 q3 q4 ⊢;have tl:=toList_insertAt t.place p (prN t.mask h N).j;have sub:∀x∈t.place.toList,x∈t'.place.toList:=λ x hx=>by
  rw[q3,tl];rw[<- Mx p t.place.toList]at hx;rcases C4.mp hx with z | z
  ·exact B8 _ z
  ·exact A6 _ (B6 _ z)
 intro z hz;rw[q3,tl,List.zip_append (by rw[K0,K0,J7,T.sz])]at hz;have old:z∈t.place.toList.zip hs->∃n,(prN t'.mask z.2 n).j=z.1/\∀m,m < n->(prN t'.mask z.2 m).j∈t'.place.toList:=λ m=>by obtain⟨n,n1,n2⟩:=P z m;rw[q4];exact%[n,n1|λ m hm=>sub _ (n2 m hm)]
 rcases C4.mp hz with m | m
 ·show old ?_;rw[show List.zip (t.place.toList.take p) (hs.take p)=(List.zip t.place.toList hs).take p from List.take_zipWith.symm]at m;exact NF m
 ·rw[List.zip_cons_cons]at m;rcases J3.mp m with rfl | m
  ·rw[q4];exact%[N,U|λ m hm=>sub _ (F.inn m hm)]
  ·show old ?_;rw[show List.zip (t.place.toList.drop p) (hs.drop p)=(List.zip t.place.toList hs).drop p from List.drop_zipWith.symm]at m;exact List.mem_of_mem_drop m
def nK(mask b:Nat):Nat->Nat
 | 0=>0
 | k+1=>nK mask b k+(runEnd mask (ilN mask b k) - ilN mask b k)+1
theorem rG(mask:Nat)(h:Int){n:Nat}{p:Probe}(e:prN mask h n=p):∀d,d<=p.more->prN mask h (n+d)={ p with j:=p.j+d,more:=p.more - d }
 | 0,_=>by rw[Nd,e];rfl
 | d+1,hd=>by change fg mask (prN mask h (n+d))=_;rw[rG mask h e d ⋯];unfold fg advance;rw[Nw (by change p.more - d > 0;lia)];change Probe.mk _ _ _ _ _=Probe.mk _ _ _ _ _;rw[Nat.add_assoc,Nat.sub_sub]
theorem wN(mask:Nat)(h:Int):∀k,prN mask h (nK mask (bits h) k)=stK mask (bits h) k
 | 0=>by change prS mask h=_;unfold prS probeStart stK ilN;rw[Nat.pow_zero,Nat.div_one]
 | k+1=>by have r:=kh mask _ _ h _ (wN mask h k) rfl;change fg mask (prN mask h (nK mask (bits h) k+(stK mask (bits h) k).more))=_;rw[r];unfold fg advance;rw[Nv (E2 0)];unfold leap stK;dsimp only;rw[show ilN mask (bits h) (k+1)=(ilN mask (bits h) k * 5+1+bits h / 32 ^ k / 32) % (mask+1)from rfl,Nat.pow_succ,NO (bits h)]
theorem qp(mask:Nat)(h:Int)(k d:Nat)(hd:d<=runEnd mask (ilN mask (bits h) k) - ilN mask (bits h) k):(prN mask h (nK mask (bits h) k+d)).j=ilN mask (bits h) k+d:=by rw[rG mask h (wN mask h k) d hd];rfl
def Occ(O:Nn (Nm Nat))(j:Nat):Prop:=(O.getD j (some 0)).isNone=false
theorem rH{mask:Nat}{h:Int}(O:Nn (Nm Nat)):∀(f k:Nat),(∀m,m < nK mask (bits h) k->Occ O (prN mask h m).j)->(∃k',k<=k'/\k' < k+f/\(O.getD (ilN mask (bits h) k') (some 0)).isNone=true) ->
  ∃n,layClean.free mask O f (ilN mask (bits h) k) (bits h / 32 ^ k)=some (prN mask h n).j/\(O.getD (prN mask h n).j (some 0)).isNone=true/\∀m,m < n->Occ O (prN mask h m).j
 | 0,k,_,⟨k',a,b,_⟩=>⋯
 | f+1,k,hm,⟨k',a,b,c⟩=>by
  unfold layClean.free;cases e:(List.range (runEnd mask (ilN mask (bits h) k)+1 - ilN mask (bits h) k)).find? λ x=>(O.getD (ilN mask (bits h) k+x) (some 0)).isNone with
  | some d=>
   have d1:=MD.mp (List.mem_of_find?_eq_some e);have d2:=List.find?_some e;have g:=qp mask h k d ⋯;show%[nK mask (bits h) k+d,by dsimp only;rw[g],by rw[g];exact d2|λ m hlt=>?_]
   by_cases z:m < nK mask (bits h) k
   ·exact hm m z
   ·obtain⟨x,rfl⟩:∃x,m=nK mask (bits h) k+x:=%[m - nK mask (bits h) k|⋯]
    rw[qp mask h k x ⋯];obtain⟨_,l1,l2,e1,e2⟩:=List.find?_eq_some_iff_append.mp e;have xm:x∈l1:=by
     have ll:l1.length=d:=by have:=OD (·[l1.length]?) e1;simp only[M9 (B4 _),Nat.sub_self,M3]at this;obtain⟨_,q⟩:=A7.mp this;rw[List.getElem_range]at q;exact q
     have:=OD (·[x]?) e1;rw[List.getElem?_range ⋯,List.getElem?_append_left ⋯]at this;exact B7 this.symm
    have:=e2 x xm;unfold Occ;simpa using this
  | none=>
   have nn:=List.find?_eq_none.mp e;have big:ilN mask (bits h) k<=runEnd mask (ilN mask (bits h) k):=by unfold runEnd;split <;> lia
   have occ:∀d,d<=runEnd mask (ilN mask (bits h) k) - ilN mask (bits h) k->Occ O (ilN mask (bits h) k+d):=λ d hd=>by have:=nn d (MD.mpr ⋯);exact Bool.eq_false_iff.mpr λ z=>this z
   have ne:k≠k':=λ z=>by subst z;have:=occ 0 (F1 _);unfold Occ at this;rw[Nd,c]at this;cases this
   have ih:=rH O f (k+1) (λ m hlt=>by
    by_cases z:m < nK mask (bits h) k
    ·exact hm m z
    ·obtain⟨x,rfl⟩:∃x,m=nK mask (bits h) k+x:=%[m - nK mask (bits h) k|⋯]
     have hx:x<=runEnd mask (ilN mask (bits h) k) - ilN mask (bits h) k:=by have:nK mask (bits h) (k+1)=nK mask (bits h) k+(runEnd mask (ilN mask (bits h) k) - ilN mask (bits h) k)+1:=rfl;lia
     rw[qp mask h k x hx];exact occ x hx) %[k',⋯,⋯|c]
   obtain⟨n,n1,n2,n3⟩:=ih;show%[n,?_,n2|n3];rw[<- n1];unfold leap;dsimp only;rw[show ilN mask (bits h) (k+1)=(ilN mask (bits h) k * 5+1+bits h / 32 ^ k / 32) % (mask+1)from rfl,Nat.pow_succ,NO (bits h)]
theorem wO{mask:Nat}(hm:fV mask)(h:Int){j:Nat}(hj:j<=mask):∃k,k < turns mask/\ilN mask (bits h) k=j:=by
 have il:∀k,ilN mask (bits h) k < mask+1:=λ k=>by cases k <;> exact Ni _ (NM _)
 obtain⟨d,d1,d2⟩:=rE hm (il 12) (show j < mask+1 by lia) (λ k=>ilN mask (bits h) (12+k)) rfl (λ k=>rD mask h (12+k) ⋯);exact%[12+d,by unfold turns;lia|d2]
theorem wP{mask:Nat}(hm:fV mask)(h:Int)(O:Nn (Nm Nat)){j:Nat}(hj:j<=mask)(e:(O.getD j (some 0)).isNone=true) :
  ∃n,layClean.free mask O (turns mask) (bits h % (mask+1)) (bits h)=some (prN mask h n).j/\(O.getD (prN mask h n).j (some 0)).isNone=true/\∀m,m < n->Occ O (prN mask h m).j:=by
 obtain⟨k,k1,k2⟩:=wO hm h hj;have:=rH (h:=h) O (turns mask) 0 (λ m z=>absurd z (F2 _)) %[k,F1 _,⋯|by rw[k2];exact e];rw[Nat.pow_zero,Nat.div_one]at this;exact this
theorem wQ(mask:Nat)(h:Int)(n:Nat):(prN mask h n).j<=mask:=by
 have W:∀n,(prN mask h n).j+(prN mask h n).more<=mask:=λ n=>by
  have run:∀i,i<=mask->i+(runEnd mask i - i)<=mask:=λ i hi=>by unfold runEnd;split <;> lia
  induction n with
  | zero=>exact run _ (E3 (Ni _ (NM _)))
  | succ n ih=>
   change(fg mask (prN mask h n)).j+(fg mask (prN mask h n)).more<=_;unfold fg advance
   by_cases c:(prN mask h n).more > 0
   ·rw[Nw c];change _+1+(_ - 1)<=_;lia
   ·rw[Nv c];exact run _ (E3 (Ni _ (NM _)))
 have:=W n;lia
structure LI(mask:Nat)(hs:Pz)(l:Nat)(O:Nn (Nm Nat)):Prop where
 size:O.size=mask+1
 lt:∀{j a:Nat},O[j]?=some (some a)->a < l
 ex:∀a:Nat,a < l->∃j:Nat,O[j]?=some (some a)
 un:∀{j j' a:Nat},O[j]?=some (some a)->O[j']?=some (some a)->j=j'
 way:∀{j a:Nat}{h:Int},O[j]?=some (some a)->hs[a]?=some h->∃n,(prN mask h n).j=j/\∀m,m < n->Occ O (prN mask h m).j
theorem LI.start(mask:Nat)(hs:Pz):LI mask hs 0 (Array.replicate (mask+1) none):=by
 have no:∀{j a:Nat},(Array.replicate (mask+1) (none:Nm Nat))[j]?=some (some a)->False:=λ {j a} e=>by
  rw[Array.getElem?_replicate]at e
  split at e
  ·cases e
  ·cases e
 exact%[Array.size_replicate,λ e=>(no e).elim,λ a h=>absurd h (F2 _),λ e=>(no e).elim|λ e=>(no e).elim]
theorem LI.room{mask l:Nat}{hs:Pz}{O:Nn (Nm Nat)}(I:LI mask hs l O)(hl:l<=mask):∃j,j<=mask/\(O.getD j (some 0)).isNone=true:=by
 by_cases c:∃j,j<=mask/\(O.getD j (some 0)).isNone=true
 ·exact c
 have at':∀j:Nat,j<=mask->∃a,O[j]?=some (some a):=λ j hj=>by
  have hs:j < O.size:=by rw[I.size];lia
  have e:=J9 hs;cases z:O[j]with
  | some a=>exact%[a|by rw[e,z]]
  | none=>exact absurd %[j,hj|by rw[MC,e,z];rfl] c
 have nd:((List.range (mask+1)).map λ j=>(O.getD j none).getD 0).Nodup:=by show List.pairwise_map.mpr (List.nodup_range.imp_of_mem λ {a b} ha hb ne e=>ne ?_);obtain⟨x,hx⟩:=at' a (E3 (MD.mp ha));obtain⟨y,hy⟩:=at' b (E3 (MD.mp hb));rw[MC,MC,hx,hy]at e;have e:x=y:=e;subst e;exact I.un hx hy
 have:=List.Nodup.length_le_of_subset nd (λ x hx=>by
  obtain⟨j,hj,rfl⟩:=J5.mp hx;obtain⟨y,hy⟩:=at' j (E3 (MD.mp hj));rw[MC,hy];exact MD.mpr (I.lt hy):_ ⊆ List.range l)
 rw[B5,Mj,Mj]at this;lia
theorem LI.step{mask l:Nat}{hs:Pz}{O:Nn (Nm Nat)}{h:Int}(hm:fV mask)(I:LI mask hs l O)(hl:l<=mask)(e:hs[l]?=some h) :
  ∃j,layClean.free mask O (turns mask) (bits h % (mask+1)) (bits h)=some j/\LI mask hs (l+1) (O.setIfInBounds j (some l)):=by
 obtain⟨j,j1,j2⟩:=I.room hl;obtain⟨n,n1,n2,n3⟩:=wP hm h O j1 j2;have jb:(prN mask h n).j < O.size:=by rw[I.size];exact Nat.lt_succ_of_le (wQ mask h n)
 have jn:O[(prN mask h n).j]?=some none:=by
  rw[J9 jb];rw[MC,J9 jb]at n2;cases z:O[(prN mask h n).j]with
  | none=>rfl
  | some a=>rw[z]at n2;cases n2
 obtain⟨j0,ej⟩:∃j0,(prN mask h n).j=j0:=%[_|U]
 rw[ej]at n1 n2 jb jn;show%[_,n1|?_];have at':∀{j a:Nat},(O.setIfInBounds j0 (some l))[j]?=some (some a)->(j=j0/\a=l)\/(j≠j0/\O[j]?=some (some a)):=λ {j a} z=>by
  by_cases c:j0=j
  ·subst c;rw[M0 jb]at z;cases z;exact .inl %[U|U]
  ·rw[Array.getElem?_setIfInBounds_ne c]at z;exact .inr %[λ w=>c w.symm|z]
 have up:∀{j a:Nat},O[j]?=some (some a)->(O.setIfInBounds j0 (some l))[j]?=some (some a):=λ {j a} z=>by rw[Array.getElem?_setIfInBounds_ne (λ w=>by subst w;rw[jn]at z;cases z)];exact z
 have occ:∀{j:Nat},Occ O j->Occ (O.setIfInBounds j0 (some l)) j:=λ {j} z=>by
  unfold Occ at z ⊢;rw[MC]at z ⊢
  by_cases c:j0=j
  ·subst c;rw[M0 jb];rfl
  ·rw[Array.getElem?_setIfInBounds_ne c];exact z
 show%[by rw[Array.size_setIfInBounds];exact I.size,λ z=>?_,λ a ha=>?_,λ z z'=>?_|λ z z'=>?_]
 ·rcases at' z with⟨_,rfl⟩ | ⟨_,w⟩
  ·exact F3 _
  ·exact Mo (I.lt w)
 ·by_cases c:a=l
  ·subst c;exact%[j0|M0 jb]
  ·obtain⟨j,hj⟩:=I.ex a ⋯;exact%[j|up hj]
 ·rcases at' z with⟨rfl,rfl⟩ | ⟨_,w⟩
  ·rcases at' z' with⟨rfl,_⟩ | ⟨_,w'⟩
   ·rfl
   ·exact absurd (I.lt w') (E2 _)
  ·rcases at' z' with⟨_,rfl⟩ | ⟨_,w'⟩
   ·exact absurd (I.lt w) (E2 _)
   ·exact I.un w w'
 ·rcases at' z with⟨rfl,rfl⟩ | ⟨_,w⟩
  ·rw[e]at z';cases z';exact%[n,ej|λ m hm=>occ (n3 m hm)]
  ·obtain⟨n',a1,a2⟩:=I.way w z';exact%[n',a1|λ m hm=>occ (a2 m hm)]
def yW(mask:Nat)(acc:Nm (Nn (Nm Nat)×Nat))(h:Int):Nm (Nn (Nm Nat)×Nat):=do
  let (owner,k)<-acc
  let j<-layClean.free mask owner (turns mask) (bits h % (mask+1)) (bits h)
  pure (owner.setIfInBounds j (some k),k+1)
theorem oq{mask:Nat}{hs:Pz}(hm:fV mask)(hl:hs.length<=mask+1):∀(rest:Pz)(l:Nat)(O:Nn (Nm Nat)),LI mask hs l O->hs.drop l=rest->l<=hs.length ->
  ∃O',rest.foldl (yW mask) (some (O,l))=some (O',hs.length)/\LI mask hs hs.length O'
 | [],l,O,I,e,le=>by
  have:hs.length<=l:=List.drop_eq_nil_iff.mp e;obtain rfl:l=hs.length:=⋯
  exact%[O,U|I]
 | h :: rest,l,O,I,e,le=>by
  have el:hs[l]?=some h:=by have:=OD (·[0]?) e;simp only[List.getElem?_drop,Nd,M3]at this;exact this
  have ll:=(A7.mp el).1;obtain⟨j,j1,j2⟩:=I.step hm ⋯ el;have st:yW mask (some (O,l)) h=some (O.setIfInBounds j (some l),l+1):=by unfold yW;change(layClean.free mask O (turns mask) (bits h % (mask+1)) (bits h)).bind _=_;rw[j1];rfl
  rw[List.foldl_cons,st];show oq hm hl rest (l+1) _ j2 ?_ ⋯;rw[<- List.drop_drop,e];rfl
theorem AS{mask:Nat}{hs:Nn Int}(hm:fV mask)(hl:hs.size<=mask+1):∃O,layClean mask hs=some O/\LI mask hs.toList hs.size O:=by
 obtain⟨O,o1,o2⟩:=oq (hs:=hs.toList) hm (by rw[J7];exact hl) hs.toList 0 _ (LI.start mask _) rfl (F1 _);show%[O,?_|by rw[J7]at o2;exact o2];change Option.map _ (hs.foldl (yW mask) (some (Array.replicate (mask+1) none,0)))=_;rw[<- Array.foldl_toList,o1]
 rfl
theorem yX{mask finger moves:Nat}{led plain:Bool}{hs:Nn Int}(hm:fV mask)(hl:hs.size<=mask+1) :
  ∃t order,laid mask finger moves led plain hs=some (t,order)/\TbOk t hs.size/\t.mask=mask/\t.led=led/\t.plain=plain/\order.toList.Perm (List.range hs.size)/\Pth t (order.toList.map λ a=>hs.getD a 0):=by
 obtain⟨O,o1,I⟩:=AS hm hl;obtain⟨live,el⟩:∃live,live=(List.range (mask+1)).filterMap λ j=>(O.getD j none).map (j,·):=%[_|U]
 have ml:∀p,p∈live↔O[p.1]?=some (some p.2):=λ p=>by
  rw[el,List.mem_filterMap];constructor
  ·rintro⟨j,hj,e⟩;rw[MC]at e;cases z:O[j]? with
   | none=>rw[z]at e;cases e
   | some x=>cases x with
    | none=>rw[z]at e;cases e
    | some a=>rw[z]at e;cases e;exact z
  ·intro e;show%[p.1,MD.mpr ?_|by rw[MC,e];rfl];have:=(Array.getElem?_eq_some_iff.mp e).1;rw[I.size]at this;exact this
 have pw:(live.map (·.1)).Pairwise (· < ·):=by rw[el,List.pairwise_map,List.pairwise_filterMap];show List.pairwise_lt_range.imp λ {a b} ab x hx y hy=>?_;obtain⟨_,_,rfl⟩:=J8.mp hx;obtain⟨_,_,rfl⟩:=J8.mp hy;exact ab
 have nd:(live.map (·.2)).Nodup:=by show List.pairwise_map.mpr ((List.pairwise_map.mp pw).imp_of_mem λ {a b} ma mb ab e=>?_);have h1:=(ml a).mp ma;have h2:=(ml b).mp mb;rw[e]at h1;have:=I.un h1 h2;lia
 have perm:(live.map (·.2)).Perm (List.range hs.size):=by
  show(List.perm_ext_iff_of_nodup nd List.nodup_range).mpr λ a=>%[λ m=>?_|λ m=>?_]
  ·obtain⟨p,hp,rfl⟩:=J5.mp m;exact MD.mpr (I.lt ((ml p).mp hp))
  ·obtain⟨j,hj⟩:=I.ex a (MD.mp m);exact J5.mpr %[(j,a),(ml (j,a)).mpr hj|U]
 have len:live.length=hs.size:=by have:=perm.length_eq;rw[B5,Mj]at this;exact this
 have occ:∀j,j<=mask->Occ O j->j∈live.map (·.1):=λ j hj z=>by
  have jb:j < O.size:=by rw[I.size];lia
  unfold Occ at z;rw[MC]at z;cases w:O[j]? with
  | none=>rw[J9 jb]at w;cases w
  | some x=>cases x with
   | none=>rw[w]at z;cases z
   | some a=>exact J5.mpr %[(j,a),(ml (j,a)).mpr w|U]
 show%[{ mask,place:=(live.map (·.1)).toArray,dummies:=#[],finger,led,moves,plain },(live.map (·.2)).toArray,?_,%[hm,U,pw,λ j m=>?_|?_],U,U,U,perm|?_]
 ·unfold laid;rw[o1,el];rfl
 ·obtain⟨p,hp,rfl⟩:=J5.mp m;have:=(Array.getElem?_eq_some_iff.mp ((ml p).mp hp)).1;rw[I.size]at this;exact E3 this
 ·change(live.map (·.1)).toArray.size=_;rw[K1,B5];exact len
 ·intro p hp;have hp:p∈(live.map (·.1)).zip ((live.map (·.2)).map λ a=>hs.getD a 0):=hp;rw[MO,List.zip_map']at hp;obtain⟨q,mq,rfl⟩:=J5.mp hp;have hq:=(ml q).mp mq;have ha:hs.toList[q.2]?=some (hs.getD q.2 0):=by have:=I.lt hq;rw[K2,MC,J9 this];rfl
  obtain⟨n,n1,n2⟩:=I.way hq ha;exact%[n,n1|λ m hm'=>occ _ (wQ _ _ _) (n2 m hm')]
end L2
namespace PySem
open PySem PySem.SetTable L2
section
variable{prog:G0}{w:G2}{K:Type}[DecidableEq K]{knd:HeapKind prog w K}{A:Around}{E:G3->F9->Prop}{s:F9}{a b:Nj}{k:K}{o:Obj}{es:Nn (Int×G3)}{ep:Nat}{t:SetTable}{xs:No (K×Nj)}
theorem AT{mask:Nat}(h:fV mask):(mask % 2 == 0)=false:=by rcases h with rfl | rfl | rfl <;> rfl
theorem yY{ys:No G3}(hc:∀ {k b} {Q:Bool->F9->Prop},knd.is s.heap k b->Q false s->wpAny (model prog w) A (ofAClassStatement 8 (.ref b)) Q E s)(hx:knd.is s.heap k b)(hy:∀y∈ys,∃k' c,y=.ref c/\knd.is s.heap k' c){Q:Bool->F9->Prop}(h:Q false s) :
  wpAny (model prog w) A (searchCouldBeSeen (.ref b) ys) Q E s:=by
 unfold searchCouldBeSeen;show A0 (Om _ (λ rest r s'=>r.1=none/\s'=s/\∀y∈rest,∃k' c,y=.ref c/\knd.is s.heap k' c) _ ?_ ?_ _ _ %[rfl,rfl|hy])
 ·rintro y rest r s' ⟨hr,rfl,hall⟩;obtain⟨k',c,rfl,hy⟩:=hall y B9;have fin:∀y∈rest,∃k' c,y=.ref c/\knd.is s'.heap k' c:=λ y m=>hall y (B6 _ m);dsimp only
  split
  ·exact A3 %[rfl,rfl|fin]
  ·show A0 (knd.quiet hx ?_);show A0 (knd.quiet hy ?_);show A0 (hc hx (A0 (hc hy ?_)));exact A3 %[rfl,rfl|fin]
 ·rintro⟨r1,r2⟩ s' ⟨hr,rfl,_⟩;simp only at hr;subst hr;exact A3 h
theorem AU{α:Type}{M:Model}{c:Bool}{m:Sem Bool}{f g:Sem α}{Q:α->F9->Prop}(hm:∀ {Q':Bool->F9->Prop},Q' false s->wpAny M A m Q' E s)(hf:wpAny M A f Q E s):wpAny M A (if (!c)=true then(m >>= λ b=>if b=true then g else f)else f) Q E s:=by
 cases c
 ·exact A0 (hm hf)
 ·exact hf
theorem lQ(hc:∀ {k b} {Q:Bool->F9->Prop},knd.is s.heap k b->Q false s->wpAny (model prog w) A (ofAClassStatement 8 (.ref b)) Q E s)(hr:knd.room A)(ho:s.heap.get? a=some o)(hd:o.data=.set es ep t)(T:TbOk t es.size)(full:es.size<=t.mask)(hes:es.toList=xs.map λ p:K×Nj=>(knd.hash p.1,Value.ref p.2))(his:∀p∈xs,knd.is s.heap p.1 p.2)(hx:knd.is s.heap k b)
  {N:Nat} (F:FstE t (knd.hash k) N) (P:Pth t (xs.map λ p:K×Nj=>knd.hash p.1)) {Q:SetFound->F9->Prop}
  (q1:(∃p∈xs,p.1=k)->Q (.there none) s) (q2:(∀p∈xs,p.1≠k)->Q (.free (prN t.mask (knd.hash k) N).j false) s) :
  ∀(f m:Nat)(stand:Nm Probe),N - m < f->m<=N->stand.getD (t.probeStart (knd.hash k))=prN t.mask (knd.hash k) m->(∀(k' i:Nat)(p:K×Nj),k' < m->t.place[i]?=some (prN t.mask (knd.hash k) k').j->xs[i]?=some p->p.1≠k) ->
   wpAny (model prog w) A (setSearchFrom a (.ref b) (knd.hash k) true f stand) Q E s
 | 0,m,stand,h1,_,_,_=>absurd h1 (F2 _)
 | f+1,m,stand,h1,h2,h3,h4=>by
  have fit:t.fits es.size=true:=by unfold SetTable.fits fill;rw[T.sz,T.nod];simp;exact full
  have esI:∀{i:Nat}{p:K×Nj},xs[i]?=some p->es[i]?=some (knd.hash p.1,Value.ref p.2):=λ {i p} e=>by rw[<- K2,hes,J0,e];rfl
  have xlen:xs.length=es.size:=by rw[<- J7,hes,B5]
  unfold setSearchFrom;show A0 (OF ho hd fit ?_);dsimp only;rw[Nv (by unfold SetTable.gaveWay;rw[AT T.mok];exact B3)];rw[h3];unfold SetTable.probe;have hat:∀{hashAt:Nat->Int},hashAt=(λ i=>(es[i]?.map (·.1)).getD 0)->∀{i:Nat}{p:K×Nj},xs[i]?=some p->hashAt i=knd.hash p.1:=λ {hashAt} e {i p} ex=>by rw[e];dsimp only;rw[esI ex];rfl
  rcases zX T F (λ i=>(es[i]?.map (·.1)).getD 0) (10 * turns t.mask) m h2 (by have:=F.le;lia)with⟨k1,i,a1,a2,a3,a4,a5,a6⟩ | ⟨a1,a2⟩
  ·have a5':=a5;have key:∀hA:Nat->Int,hA=(λ i=>(es[i]?.map (·.1)).getD 0)->probe.go t hA (knd.hash k) (10 * turns t.mask) (prN t.mask (knd.hash k) m)=some (.candidate (prN t.mask (knd.hash k) k1).j i (prN t.mask (knd.hash k) (k1+1))):=λ hA e=>by rw[e];exact a5
   rw[key]
   rotate_left
   ·rfl
   dsimp only;have il:i < xs.length:=by have:=(Array.getElem?_eq_some_iff.mp a3).1;rw[T.sz]at this;lia
   have ep':=F4 il;generalize xs[i]=p at ep';have pm:=B7 ep';rw[esI ep'];show AU (λ {Q'} q=>yY hc hx (λ y m=>?_) q) ?_
   ·obtain⟨z,mz,rfl⟩:=J5.mp m;rw[Array.toList_filter,hes]at mz;obtain⟨p',mp,rfl⟩:=J5.mp ((M5.mp mz).1);exact%[_,_,U|his p' mp]
   dsimp only;show A0 (N2 (knd.eqBool hr (his p pm) hx ?_));show A0 (OF ho hd fit ?_);dsimp only
   by_cases c:p.1=k
   ·rw[Ny c];exact A3 (q1 %[p,pm|c])
   ·rw[N3 c];have sm:t.sameMemory t.moves t.mask=some true:=by unfold SetTable.sameMemory;rw[Nw (by simp)]
    rw[sm];dsimp only;rw[Nv (by simp),Nw rfl,T.slot_live a3];dsimp only;rw[esI ep'];dsimp only;show A0 (wpAny_isSame_ref_self ?_);show A0 (A3 ?_);rw[Nw rfl];dsimp only;rw[Nv B3];show lQ hc hr ho hd T full hes his hx F P q1 q2 f (k1+1) _ ⋯ ⋯ rfl λ k2 i2 p2 b1 b2 b3 b4=>?_
    by_cases z1:k2 < m
    ·exact h4 k2 i2 p2 z1 b2 b3 b4
    by_cases z2:k2 < k1
    ·exact a6 k2 ⋯ z2 i2 b2 (by rw[hat rfl b3,b4])
    obtain rfl:k2=k1:=⋯
    have e1:=T.slot_live a3;rw[T.slot_live b2]at e1;injection e1 with e1
    subst e1;rw[ep']at b3;cases b3;exact c b4
  ·have key:∀hA:Nat->Int,hA=(λ i=>(es[i]?.map (·.1)).getD 0)->probe.go t hA (knd.hash k) (10 * turns t.mask) (prN t.mask (knd.hash k) m)=some (.empty (prN t.mask (knd.hash k) N).j none):=λ hA e=>by rw[e];exact a2
   rw[key]
   rotate_left
   ·rfl
   show A3 (q2 λ p pm c=>?_);obtain⟨i,hi⟩:=MJ.mp pm;have il:=(A7.mp hi).1;have pl:i < t.place.size:=by rw[T.sz];lia
   have e:=J9 pl;obtain⟨k1,l1,l2⟩:=P.met F e (by rw[J0,hi,<- c];rfl);rw[<- l2]at e
   by_cases z:k1 < m
   ·exact h4 k1 i p z e hi c
   ·exact a1 k1 ⋯ l1 i e (by rw[hat rfl hi,c])
end
theorem lR{α:Type}:∀xs:No α,(List.range xs.length).filterMap (λ i=>xs[i]?)=xs
 | []=>rfl
 | x :: xs=>by rw[K3,List.range_succ_eq_map,List.filterMap_cons_some (f:=λ i=>(x :: xs)[i]?) (b:=x) rfl,List.filterMap_map];exact OD (x :: ·) (lR xs)
theorem rJ{α β:Type}(f:α->β)(xs:No α)(d:β):∀l:No Nat,(∀i∈l,i < xs.length)->l.map (λ i=>(xs.map f).toArray.getD i d)=(l.filterMap λ i=>xs[i]?).map f
 | [],_=>rfl
 | i :: l,h=>by have e:=F4 (h i B9);rw[List.filterMap_cons_some e,J6,J6,<- rJ f xs d l λ j m=>h j (B6 _ m)];congr 1;rw[MC,List.getElem?_toArray,J0,e];rfl
variable{prog:G0}{w:G2}{A:Around}{E:G3->F9->Prop}{s:F9}{a b:Nj}
theorem ItemsAre.ints{ks:Pz}{vs:No G3}(h:ItemsAre (intKind prog w) ks vs):∀v∈vs,∃i t,v=.int i t:=by
 induction h with
 | nil=>exactλ v m=>nomatch m
 | @cons k v ks vs e _ ih=>
  intro u m;rcases J3.mp m with rfl | m
  ·cases u <;> first | exact%[_,_|U] | exact nomatch e
  ·exact ih u m
theorem yZ{ks:Pz}{Q:Bool->F9->Prop}(hk:IsTupleKey (intKind prog w) s.heap ks a)(h:Q false s):wpAny (model prog w) A (ofAClassStatement 8 (.ref a)) Q E s:=by
 have hT:=hk.typeIs;obtain⟨o,items,n,ho,_,hd,hi⟩:=hk;rw[ofAClassStatement.eq_def];show A0 (wpAny_typeOf hT ?_);dsimp only;rw[Nw ∅];show A0 (A3 ?_);rw[Nv ∅];show A0 (Ol ho hd ?_);dsimp only;rw[<- Array.forIn_toList];show A0 (Om _ (λ rest r s'=>r.1=none/\s'=s/\∀v∈rest,∃i t,v=.int i t) _ ?_ ?_ _ _ %[rfl,rfl|hi.ints])
 ·rintro v rest r s' ⟨hr,rfl,hall⟩;obtain⟨i,t,rfl⟩:=hall v B9;rw[show ofAClassStatement 7 (.int i t)=pure false from by rw[ofAClassStatement.eq_def]];exact A0 (A3 (A3 %[rfl,rfl|λ u m=>hall u (B6 _ m)]))
 ·rintro⟨r1,r2⟩ s' ⟨hr,rfl,_⟩;simp only at hr;subst hr;exact A3 h
theorem za{ks:Pz}{Q:Bool->F9->Prop}(hk:IsTupleKey (intKind prog w) s.heap ks a)(h:Q true s):wpAny (model prog w) A (hashByValue 8 (.ref a)) Q E s:=by
 have hT:=hk.typeIs;obtain⟨o,items,n,ho,_,hd,hi⟩:=hk;rw[hashByValue.eq_12];show A0 (wpAny_specialOf hT F.slot_tuple_hash.lookup ?_);change wpAny _ _ (seqItems? (.ref a) >>= _) _ _ s;show A0 (Ol ho hd ?_);change wpAny _ _ (forIn items _ _ >>= _) _ _ s;rw[<- Array.forIn_toList];show A0 (Om _ (λ rest r s'=>r.1=none/\s'=s/\∀v∈rest,∃i t,v=.int i t) _ ?_ ?_ _ _ %[rfl,rfl|hi.ints])
 ·rintro v rest r s' ⟨hr,rfl,hall⟩;obtain⟨i,t,rfl⟩:=hall v B9;rw[show hashByValue 7 (.int i t)=pure true from by rw[hashByValue.eq_def]];exact A0 (A3 (A3 %[rfl,rfl|λ u m=>hall u (B6 _ m)]))
 ·rintro⟨r1,r2⟩ s' ⟨hr,rfl,_⟩;simp only at hr;subst hr;exact A3 h
abbrev TH(prog:G0)(w:G2)(p:Pz×Nj):Int:=tupleKeyHash (intKind prog w) p.1
def fZ(prog:G0)(w:G2)(h:Heap)(a:Nj)(xs:No (Pz×Nj)):Prop :=
 ∃o es ep t,h.get? a=some o/\o.ExactSet/\o.data=.set es ep t/\TbOk t es.size/\es.size * 5 < t.mask * 3/\t.plain=true/\(t.led=!w.params.followText "set-order")/\Pth t (xs.map (TH prog w))/\es.toList=xs.map λ p=>(TH prog w p,Value.ref p.2)
theorem rK{t:SetTable}{n:Nat}(T:TbOk t n):t.tooFull=decide (n * 5≥t.mask * 3):=by unfold tooFull fill;rw[T.sz,T.nod];rfl
theorem fO{t:SetTable}{n:Nat}(T:TbOk t n)(l:n<=t.mask):t.fits n=true:=by unfold fits fill;rw[T.sz,T.nod];simp;exact l
theorem wR{xs:No (Pz×Nj)}{o:Obj}{es:Nn (Int×G3)}{ep:Nat}{t:SetTable}{m:Nat}(ho:s.heap.get? a=some o)(hX:o.ExactSet)(hd:o.data=.set es ep t)(T:TbOk t es.size)(le:es.size<=t.mask)(hes:es.toList=xs.map λ p=>(TH prog w p,Value.ref p.2))(pl:t.plain=true)(ld:t.led=!w.params.followText "set-order")
  (hm:fV (sizeAbove m - 1)) (ms:sizeAbove m<=sizeLine) (fit:es.size * 5 < (sizeAbove m - 1) * 3) {Q:Unit->F9->Prop} (q:∀h' xs',Heap.SameBut a s.heap h'->fZ prog w h' a xs'->xs'.Perm xs->Q () { s with heap:=h' }):wpAny (model prog w) A (setRelay a m) Q E s:=by
 have sz:es.size=xs.length:=by rw[<- J7,hes,B5]
 have hh:es.map (λ x=>x.1)=(xs.map (TH prog w)).toArray:=by apply Array.toList_inj.mp;rw[Array.toList_map,hes,MO];rfl
 unfold setRelay;show A0 (OF ho hd (fO T le) ?_);dsimp only;rw[Nv (Nat.not_lt.mpr ms)];obtain⟨t',ord,e1,T',e2,e3,e4,pm,P'⟩:=yX (finger:=t.finger) (moves:=t.movedTo (sizeAbove m - 1)) (led:=t.led) (plain:=t.plain) (hs:=es.map (λ x=>x.1)) hm (by rw[Na];lia);unfold relaid;rw[e1];rw[Na]at T' pm;have all:∀i∈ord.toList,i < xs.length:=λ i mi=>by have:=MD.mp (pm.mem_iff.mp mi);lia
 have ps:(ord.toList.filterMap λ i=>xs[i]?).Perm xs:=by have:=pm.filterMap (λ i=>xs[i]?);rw[sz,lR]at this;exact this
 have es':(ord.filterMap λ x=>es[x]?).toList=(ord.toList.filterMap λ i=>xs[i]?).map λ p=>(TH prog w p,Value.ref p.2):=by
  rw[Array.toList_filterMap,List.map_filterMap];congr 1
  funext i
  rw[<- K2,hes,J0]
 have sz':(ord.filterMap λ x=>es[x]?).size=es.size:=by rw[<- J7,es',B5,ps.length_eq,sz]
 show A0 ?_;change wpAny _ _ (if ((ord.filterMap λ x=>es[x]?).size != es.size)=true then _ else _) _ _ _;rw[Nv (by rw[sz'];simp)];show A3 ?_;dsimp only;show wpAny_storeSet_of ho hd (q _ (ord.toList.filterMap λ i=>xs[i]?) %[On ..|λ c hc=>Heap.get?_update_ne _ _ _ _ hc] %[_,_,_,_,OG _ ho (by rw[putSet_of _ _ hd];rfl),by rw[putSet_of _ _ hd];exact hX,by rw[putSet_of _ _ hd],by rw[sz'];exact T',by rw[sz',e2];exact fit,e4.trans pl,e3.trans ld,?_|es'] ps) (by rw[sz'];have:=T.mok;unfold fV at this;unfold sizeLine;lia);rw[hh,rJ (TH prog w) xs 0 _ all]at P';exact P'
theorem AV{xs:No (Pz×Nj)}{k:Pz}(hr:A.units < cLine)(S:fZ prog w s.heap a xs)(hl:xs.length < 70)(his:∀p∈xs,IsTupleKey (intKind prog w) s.heap p.1 p.2)(hx:IsTupleKey (intKind prog w) s.heap k b){Q:Bool->F9->Prop}
  (q1:(∃p∈xs,p.1=k)->Q false s) (q2:(∀p∈xs,p.1≠k)->∀h' xs',Heap.SameBut a s.heap h'->fZ prog w h' a xs'->xs'.Perm ((k,b) :: xs)->Q true { s with heap:=h' }) :
  wpAny (model prog w) A (setAddHashedIn a (.ref b) (tupleKeyHash (intKind prog w) k) 100000) Q E s:=by
 obtain⟨o,es,ep,t,ho,hX,hd,T,nf,pl,ld,P,hes⟩:=S;have sz:es.size=xs.length:=by rw[<- J7,hes,B5]
 have mk:=T.mok;obtain⟨N,F,le⟩:=T.fst ⋯ (tupleKeyHash (intKind prog w) k);have Nl:N < 100000:=by have:=F.le;rcases mk with e | e | e <;> rw[e]at this <;> exact C3 this ∅
 have fit:=fO T ⋯;rw[setAddHashedIn.eq_def];show A0 (OF ho hd fit ?_);dsimp only;rw[Nv (by unfold byScan Value.scannable;simp)];show A0 (lQ (knd:=tupleKind (intKind prog w)) yZ hr ho hd T ⋯ hes his hx F P (λ e=>A3 (q1 e)) (λ e=>?_) 100000 0 none Nl (F1 _) rfl λ _ _ _ z=>absurd z (F2 _));show A0 (OF ho hd fit ?_);dsimp only;simp only[show(tupleKind (intKind prog w)).hash k=tupleKeyHash (intKind prog w) k from rfl];have P':=Pth.put (by rw[B5,<- sz];exact T) P F le;obtain⟨T1,p1,p2,p3⟩:=T.put F.out le;have p4:(t.put (prN t.mask (tupleKeyHash (intKind prog w) k) N).j).1.plain=true:=pl;have p5:(t.put (prN t.mask (tupleKeyHash (intKind prog w) k) N).j).1.led=!w.params.followText "set-order" := ld;generalize t.put (prN t.mask (tupleKeyHash (intKind prog w) k) N).j=tp at P' T1 p1 p2 p3 p4 p5;obtain⟨t1,p⟩:=tp;dsimp only at P' T1 p1 p2 p3 p4 p5 ⊢;rw[Nw p4];show A0 (za hx ?_);rw[Nw rfl];have es':(insertAt es p (tupleKeyHash (intKind prog w) k,Value.ref b)).toList=(xs.take p ++ (k,b) :: xs.drop p).map λ p=>(TH prog w p,Value.ref p.2):=by rw[toList_insertAt,hes,J4,J6,List.map_take,List.map_drop]
 have perm:(xs.take p ++ (k,b) :: xs.drop p).Perm ((k,b) :: xs):=by have:=List.perm_middle (a:=(k,b)) (l₁:=xs.take p) (l₂:=xs.drop p);rw[Mx]at this;exact this
 have sz':(insertAt es p (tupleKeyHash (intKind prog w) k,Value.ref b)).size=es.size+1:=by rw[<- J7,es',B5,perm.length_eq,K3,sz]
 rw[<- List.map_take,<- List.map_drop,show tupleKeyHash (intKind prog w) k=TH prog w (k,b)from rfl,<- J6,<- J4]at P';show A0 (wpAny_storeSet_of ho hd ?_ (by rw[sz'];unfold sizeLine;lia));have ho1:=OG (Obj.putSet (insertAt es p (tupleKeyHash (intKind prog w) k,Value.ref b)) t1) ho (by rw[putSet_of _ _ hd];rfl);have hX1:(Obj.putSet (insertAt es p (tupleKeyHash (intKind prog w) k,Value.ref b)) t1 o).ExactSet:=by rw[putSet_of _ _ hd];exact hX
 have hd1:(Obj.putSet (insertAt es p (tupleKeyHash (intKind prog w) k,Value.ref b)) t1 o).data=.set (insertAt es p (tupleKeyHash (intKind prog w) k,Value.ref b)) (ep+1) t1:=by rw[putSet_of _ _ hd]
 have T1':TbOk t1 (insertAt es p (tupleKeyHash (intKind prog w) k,Value.ref b)).size:=by rw[sz'];exact T1
 have sb:Heap.SameBut a s.heap (s.heap.update a (Obj.putSet (insertAt es p (tupleKeyHash (intKind prog w) k,Value.ref b)) t1)):=%[On ..|λ c hc=>Heap.get?_update_ne _ _ _ _ hc]
 by_cases c:t1.tooFull=true
 ·rw[Nw (by rw[c];rfl)];rw[rK T1]at c;have c:=C2 c;have hg:sizeAbove (grown (es.size+1)) - 1=31/\es.size=4\/sizeAbove (grown (es.size+1)) - 1=127:=by
   rw[p3]at c;unfold grown;rcases mk with e | e | e <;> rw[e]at c nf
   ·have z:es.size=4:=⋯
    exact .inl %[by rw[z];rfl|z]
   ·rw[show es.size=18 by lia];exact .inr rfl
   ·lia
  show A0 (wR ho1 hX1 hd1 T1' (by rw[sz',p3];unfold fV at mk;lia) es' p4 p5 (by rcases hg with⟨e,_⟩ | e <;> rw[e] <;> unfold fV <;> lia) (by unfold sizeLine;lia) (by rw[sz'];lia) λ h' xs' s' S' pm=>?_);exact A3 (q2 e h' xs' %[s'.1.trans sb.1|λ c hc=>(s'.2 c hc).trans (sb.2 c hc)] S' (pm.trans perm))
 ·rw[Nv (by simpa using c)];rw[rK T1]at c;show A3 (q2 e _ _ sb %[_,_,_,_,ho1,hX1,hd1,T1',?_,p4,p5,P'|es'] perm);rw[sz'];exact Nat.not_le.mp λ z=>c (B1 z)
theorem zb{xs:No (Pz×Nj)}{k:Pz}(hr:A.units < cLine)(S:fZ prog w s.heap a xs)(hl:xs.length < 70)(his:∀p∈xs,IsTupleKey (intKind prog w) s.heap p.1 p.2)(hx:IsTupleKey (intKind prog w) s.heap k b){Q:Bool->F9->Prop}
  (q1:(∃p∈xs,p.1=k)->∀tk,s.toks<=tk->Q false { s with toks:=tk }) (q2:(∀p∈xs,p.1≠k)->∀h' xs' tk,s.toks<=tk->Heap.SameBut a s.heap h'->fZ prog w h' a xs'->xs'.Perm ((k,b) :: xs)->Q true { s with heap:=h',toks:=tk }) :
  wpAny (model prog w) A (setAdd a (.ref b)) Q E s:=by
 unfold setAdd;show N2 (A0 ((tupleKind (intKind prog w)).pyHash hr hx ?_));unfold setAddHashed;exact N2 (AV (s:={ s with toks:=s.toks+(k.length+1) }) hr S hl his hx (λ e=>q1 e (s.toks+(k.length+1)) (NJ _ _)) λ e h' xs' sb S' pm=>q2 e h' xs' (s.toks+(k.length+1)) (NJ _ _) sb S' pm)
end PySem
namespace PySem
open PySem PySem.W PyProof.Rows PySem.SetTable L2
theorem slot_seti_next:Slot "set_iterator" (Str.ofString "__next__") "set_iterator.__next__" :=
 Slot.of (owner := "set_iterator") (n := "__next__") (by rw[typeLookup_type,builtinLookup_eq_fast];kernel_rfl) ∅ ∅ ∅ (.inl ∅) (by rw[isSubtype_type];kernel_rfl) ∅
theorem fj(a:G3):argsOk "set_iterator.__next__" %[[a]|[]]:=by unfold argsOk;kernel_rfl
theorem eU:entryFor table "set_iterator.__next__" = some Builtin.«set_iterator.__next__» := entryFor_of_fast (by kernel_rfl)
theorem kn:entryFor table "set.__iter__" = some Builtin.«frozenset.__iter__» := entryFor_alias (id' := "frozenset.__iter__") (by kernel_rfl) rfl ∅ (by kernel_rfl)
theorem fk:Slot "set_iterator" (Str.ofString "__iter__") "set_iterator.__iter__" :=
 Slot.of (owner := "set_iterator") (n := "__iter__") (by rw[typeLookup_type,builtinLookup_eq_fast];kernel_rfl) ∅ ∅ ∅ (.inl ∅) (by rw[isSubtype_type];kernel_rfl) ∅
theorem jm:entryFor table "set_iterator.__iter__" = some Builtin.«dict_keyiterator.__iter__» := entryFor_alias (id' := "dict_keyiterator.__iter__") (by kernel_rfl) rfl ∅ (by kernel_rfl)
theorem rL{α:Type}(next:Nat->Nat):∀(fuel k:Nat)(left:No α)(out:Nn α),left.length<=fuel->(pickOrder.go next fuel k left out).toList.Perm (out.toList ++ left)
 | 0,k,left,out,h=>by obtain rfl:left=[]:=List.eq_nil_of_length_eq_zero ⋯;rw[MR];exact .refl _
 | fuel+1,k,left,out,h=>by
  change(match left[next k % left.length]? with | some x=>pickOrder.go next fuel (k+1) (left.eraseIdx (next k % left.length)) (out.push x) | none=>out).toList.Perm _
  by_cases c:left.length=0
  ·obtain rfl:left=[]:=List.eq_nil_of_length_eq_zero c;rw[MR];exact .refl _
  ·have l:=Ni (next k) (Nat.pos_of_ne_zero c);rw[F4 l];dsimp only;show(rL next fuel (k+1) _ _ (by rw[List.length_eraseIdx_of_lt l];lia)).trans ?_;rw[Mv,MA];show Mw _ ?_;rw[List.eraseIdx_eq_take_drop_succ];have e:=Mx (next k % left.length) left;rw[Ms l]at e;exact(List.perm_middle (a:=left[next k % left.length]) (l₁:=left.take (next k % left.length))).symm.trans (.of_eq e)
def jo(w:G2)(a:Nj)(ep:Nat)(es:Nn (Int×G3)):Nn (Int×G3):=if w.params.followText "set-order" = true then pickOrder (w.params.setOrder a ep) es else es
theorem fP(w:G2)(a:Nj)(ep:Nat)(es:Nn (Int×G3)):(jo w a ep es).toList.Perm es.toList:=by
 unfold jo
 split
 ·exact rL _ _ _ _ _ (NK J7)
 ·exact .refl _
section
variable{prog:G0}{w:G2}{A:Around}{E:G3->F9->Prop}{s:F9}{a I:Nj}{o:Obj}{es:Nn (Int×G3)}{ep:Nat}{t:SetTable}
theorem cZ{Q:Bool->F9->Prop}(h:Q (w.params.followText "set-order") s):wpAny (model prog w) A setsByText Q E s:=by unfold setsByText;exact A0 (wpAny_askSetting (A3 h))
structure TbW(w:World)(t:SetTable)(n:Nat):Prop where
 tb:TbOk t n
 le:n<=t.mask
 pl:t.plain=true
 ld:t.led=!w.params.followText "set-order"
def SlI(w:G2)(t:SetTable)(sl i:Nat):Prop:=w.params.followText "set-order" = false->∀k x,t.place[k]?=some x->(x < sl↔k < i)
theorem ko{i sl:Nat}(ho:s.heap.get? a=some o)(hd:o.data=.set es ep t)(T:TbW w t es.size)(hsl:SlI w t sl i)(il:i<=es.size){Q:Nm (G3×Nat)->F9->Prop}
  (h:∀r:Nm (G3×Nat),r.map (·.1)=(jo w a ep es)[i]?.map (·.2)->(∀x n,r=some (x,n)->SlI w t n (i+1))->Q r s):wpAny (model prog w) A (setNext a sl i ep) Q E s:=by
 have fit:=fO T.tb T.le;unfold setNext;show A0 (OF ho hd fit ?_);dsimp only;show A0 (cZ ?_);cases hf:w.params.followText "set-order"
 ·rw[Nv B3];rw[Nv (by change¬ ((!t.plain && decide (es.size > 1))=true);rw[T.pl];exact B3)];show A0 ?_;change wpAny _ _ (if (!t.led && !es.isEmpty)=true then _ else pure ()) _ _ _;rw[Nv (by rw[T.ld,hf];exact B3)];show A3 (A3 ?_);have eo:jo w a ep es=es:=by unfold jo;rw[hf];rfl
  obtain⟨b1,b2,b3⟩:=kj T.tb.rs sl;have hb:below t.place sl=i:=by
   rcases NX (below t.place sl) i with c | c | c
   ·have l:below t.place sl < t.place.size:=by rw[T.tb.sz];lia
    have e:=J9 l;have:=((hsl hf) _ _ e).mpr c;have:=b3 _ _ (B4 _) (by rw[K2];exact e);lia
   ·exact c
   ·have l:i < t.place.size:=⋯
    have e:=J9 l;have:=b2 _ _ c (by rw[K2];exact e);exact absurd (((hsl hf) _ _ e).mp this) (E2 _)
  rw[hb]
  by_cases c:i < es.size
  ·have c2:i < t.place.size:=by rw[T.tb.sz];exact c
   have e2:=J9 c2;rw[J9 c,e2];show h _ (by rw[eo,J9 c];rfl) λ x n e _ k y hk=>?_;cases e;have e2':t.place.toList[i]?=some t.place[i]:=by rw[K2];exact e2
   have hk':t.place.toList[k]?=some y:=by rw[K2];exact hk
   rcases NX k i with z | z | z
   ·have:=T.tb.rs.lt z hk' e2';lia
   ·subst z;rw[e2']at hk';cases hk';lia
   ·have:=T.tb.rs.lt z e2' hk';lia
  ·rw[MH (Nat.not_lt.mp c)];show h none (by rw[eo,MH (Nat.not_lt.mp c)];rfl) λ x n e=>nomatch e
 ·rw[Nw rfl,Nv (by simp)];show A0 ?_;unfold setWalk;show A0 (OF ho hd fit ?_);dsimp only;show A0 (cZ ?_);rw[hf,Nw rfl];show A0 (wpAny_askSetting (A3 (A3 ?_)));have eo:jo w a ep es=pickOrder (w.params.setOrder a ep) es:=by unfold jo;rw[hf];rfl
  show h _ (by rw[eo,Option.map_map];rfl) λ x n _ z=>absurd z (by rw[hf];exact Bool.noConfusion)
def SIt(w:G2)(h:Heap)(I a:Nj)(t:SetTable)(i n ep:Nat):Prop :=
 ∃sl:Nat,h.get? I=some { cls:=.type "set_iterator",data:=.fields #[.int sl 0,.int i 0,.ref a,.int n 0,.int ep 0] }/\SlI w t sl i
def OKS(a:Nj)(es:Nn (Int×G3))(ep:Nat)(t:SetTable)(h:Heap):Prop:=∃o,h.get? a=some o/\o.ExactSet/\o.data=.set es ep t
theorem AW(T:TbW w t es.size)(hh:A.handled=none)(hne:a≠I) :
  Walks prog w A I [I,a] [I] es.size (λ i v=>∃e,(jo w a ep es)[i]?=some e/\e.2=v) (λ i h=>SIt w h I a t i es.size ep/\OKS a es ep t h) where
 sub:=λ b hb=>by simp at hb;simp[hb]
 frame:=λ _ _ _ st hk=>%[let ⟨sl,e,x⟩:=st.1;%[sl,hk I (by simp) _ e|x]|let ⟨o,e,x⟩:=st.2;%[o,hk a (by simp) o e|x]]
 item:=λ i s Q E hi st hQ=>by
  obtain⟨⟨sl,hI,hsl⟩,ok⟩:=st;obtain⟨o,ho,hX,hd⟩:=id ok;have hT:s.TypeIs (.ref I) "set_iterator" := %[_,hI|U]
  unfold pyNext;show A0 (OS (wpAny_callSpecial?_slot (name:=Str.ofString "__next__") hT slot_seti_next (F6 slot_seti_next hT eU ?_ (fj _))));unfold Builtin.«set_iterator.__next__»;show A0 (A3 ?_);show A0 (wpAny_fieldsOf hI rfl ?_);change wpAny _ _ (setEntries a >>= _) _ _ s;show A0 (wpAny_setEntries_of ho hd (fO T.tb T.le) ?_);rw[Nv (by simp)];change wpAny _ _ (setNext a (Int.toNat sl) (Int.toNat i) (Int.toNat ep) >>= _) _ _ s;simp only[MF];show A0 (ko ho hd T hsl (C9 hi) λ r e1 e2=>?_);have sz:(jo w a ep es).size=es.size:=by rw[<- J7,(fP w a ep es).length_eq,J7]
  rw[J9 (by rw[sz];exact hi)]at e1
  match r,e1,e2 with
  | none,e1,_=>cases e1
  | some (x,n),e1,e2=>
   have e1:x=(jo w a ep es)[i].2:=C0 e1;show A0 (N7 hI (by simp) λ h1 hI1 s1=>?_);show A0 (N7 hI1 (by simp) λ h2 hI2 s2=>?_);show A3 %[_,rfl|A3 (hQ _ h2 s.toks %[_,J9 (by rw[sz];exact hi)|e1.symm] %[%[n,hI2|e2 x n rfl],o,(s2.2 a hne).trans ((s1.2 a hne).trans ho),hX|hd] λ b o hb e=>s2.extBut b o (λ h=>hb (by simp[h])) (s1.extBut b o (λ h=>hb (by simp[h])) e))]
 done:=λ s Q E st hQ=>by
  obtain⟨⟨sl,hI,hsl⟩,o,ho,hX,hd⟩:=st;have hT:s.TypeIs (.ref I) "set_iterator" := %[_,hI|U]
  unfold pyNext;show A0 (OS (wpAny_callSpecial?_slot (name:=Str.ofString "__next__") hT slot_seti_next (F6 slot_seti_next hT eU ?_ (fj _))));unfold Builtin.«set_iterator.__next__»;show A0 (A3 ?_);show A0 (wpAny_fieldsOf hI rfl ?_);change wpAny _ _ (setEntries a >>= _) _ _ s;show A0 (wpAny_setEntries_of ho hd (fO T.tb T.le) ?_);rw[Nv (by simp)];change wpAny _ _ (setNext a (Int.toNat sl) (Int.toNat (es.size:Int)) (Int.toNat ep) >>= _) _ _ s;simp only[MF];show A0 (ko ho hd T hsl (B4 _) λ r e1 _=>?_);have sz:(jo w a ep es).size=es.size:=by rw[<- J7,(fP w a ep es).length_eq,J7]
  rw[MH (NK sz)]at e1
  match r,e1 with
  | some _,e1=>cases e1
  | none,_=>
   show A0 (wpAny_setField hI rfl (by simp) ?_);show A0 ?_;simp only[newExc,newTuple];show A0 (F7 ?_ (by size_fits));show A0 (m:=firstArgMember _ _) (OV (a:=Value.none) (by first | rfl | (simp only[firstArgMember];rfl)) ?_);show F7 ?_ (by size_fits);simp only[raiseNew];show A0 (wpAny_handled ?_);rw[show A.in1.handled=none from hh];show A0 (A3 (wpAny_throw ?_));show A0 (OL (T := "StopIteration") (b:=true) %[_,A9 _ rfl|rfl] isSubtype_stop ?_);exact A3 (hQ _ s.toks λ b o hb e=>(((N9 ..).extBut.push _).push _) b o (λ h=>hb (by simp[h])) e)
 self:=λ _ _ _ _ st hQ=>by
  obtain⟨⟨sl,hI,hsl⟩,_⟩:=st;have hT:=(%[_,hI|U]:Shared.TypeIs _ (.ref I) "set_iterator")
  exact wpAny_pyIter_slot hT fk (F6 fk hT jm (A3 %[_,rfl,"set_iterator",_,hT,slot_seti_next.lookup|hQ]) (by unfold argsOk;kernel_rfl))
theorem wS{Q:Bool->F9->Prop}(hT:s.TypeIs (.ref a) "set")(h:Q false s):wpAny (model prog w) A (Builtin.List.listLengthHint (.ref a)) Q E s:=by unfold Builtin.List.listLengthHint;show A0 (wpAny_specialOf hT F.slot_set_len.lookup ?_);dsimp only;rw[show splitId "set.__len__" = some ("set","__len__")from by decide +kernel];dsimp only;show A0 (OL hT sub_set_self ?_);rw[Nv ∅];rw[Nw ∅];show A0 (wpAny_typeOf hT ?_);exact A3 h
theorem JG(T:TbW w t es.size)(nz:(es.size:Int) < 2 ^ 24):KdlSrc prog w "set" a a es.size (λ i v=>∃e,(jo w a ep es)[i]?=some e/\e.2=v) (OKS a es ep t) where
 type:=λ _ ⟨o,e,c,_⟩=>%[o,e|c.1]
 there:=λ _ ⟨o,e,_⟩=>%[B0 e|B0 e]
 keep:=λ _ _ ⟨o,e,x⟩ hk=>%[o,hk a (.inl rfl) o e|x]
 notList:=∅
 notTuple:=∅
 hint:=λ _ _ _ _ ⟨o,e,c,_⟩ hq=>wS %[o,e|c.1] hq
 iter:=λ A s hh hm=>⟨{ cls:=.type "set_iterator",data:=.fields #[.int 0 0,.int 0 0,.ref a,.int es.size 0,.int ep 0] },_,(λ E Q hq=>by
  obtain⟨o,ho,hX,hd⟩:=hm;have fit:=fO T.tb T.le;have hT:s.TypeIs (.ref a) "set" := %[o,ho|hX.1]
  show wpAny_pyIter_slot hT F.slot_set_iter (F6 F.slot_set_iter hT kn ?_ (F.args_set_iter_1 _));unfold Builtin.«frozenset.__iter__»;show A0 (m:=Builtin.Frozenset.slot0 _ _) (A3 ?_);show A0 ?_;unfold Builtin.Frozenset.sizeOf;show A0 (wpAny_setEntries_of ho hd fit (A3 ?_));show A0 ?_;unfold setDrawn;show A0 (OF ho hd fit ?_);dsimp only;show A0 (cZ (A3 ?_));rw[Nv (by change¬ ((!w.params.followText "set-order" && (!t.plain && decide (es.size > 1)))=true);rw[T.pl];simp)];show A0 (A3 ?_);show A0 (wpAny_setEpoch_of ho hd fit ?_);show A0 ?_;unfold newFields;show F7 ?_ (by size_fits);exact A3 %[_,rfl,"set_iterator",_,%[_,A9 _ rfl|rfl],slot_seti_next.lookup|hq]),AW T hh (let ⟨_,e,_⟩:=hm;C1 (B0 e)),%[0,A9 _ rfl|λ _ k x _=>%[λ z=>absurd z (F2 _)|λ z=>absurd z (F2 _)]],let ⟨o,e,x⟩:=hm;%[o,A8 _ e|x]⟩
end
section
variable{prog:G0}{w:G2}{A:Around}{E:G3->F9->Prop}{s:F9}{S I l:Nj}{us:No (Pz×Nj)}
theorem ou(a:G3){Q₁:G3->F9->Prop}(h:Q₁ (.ref s.heap.objs.size) { s with heap:=s.heap.push { cls:=.type "set",data:=.set #[] 0 (SetTable.fresh 0 0 (!w.params.followText "set-order")) } }) :
  codeAny (model prog w) A (Code.call (.builtin "set.__new__") %[[.type "set",a]|[]]) (wants Q₁ E) s:=by
 show codeAny_of_tree ?_;show A0 (OV (F.newCall_set_1 a) (A3 %[plainId_quiet F.plain_set_new _|Os F.entry_set_new ?_]));rw[Oh F.plain_set_new _];unfold Builtin.«set.__new__»;show A0 (A0 (A3 ?_));rw[Nv ∅];show A0 (OV sub_set_self ?_);rw[Nv ∅];show A3 ?_;show A0 ?_;unfold newSet;show A0 (cZ ?_);show F7 ?_ (by size_fits);exact A3 h
theorem mZ{h h':Heap}{ks:Pz}{b:Nj}(hk:IsTupleKey (intKind prog w) h ks b)(k:∀o,h.get? b=some o->o.cls=.type "tuple" -> h'.get? b=some o):IsTupleKey (intKind prog w) h' ks b :=
 let ⟨o,its,n,h1,h2,h3⟩:=hk
 %[o,its,n,k o h1 h2,h2|h3]
theorem wT{R:Result->F9->Prop}(hh:A.handled=none)(hu:A.units+1 < cLine)(nSI:S≠I)(nSl:S≠l)(nlI:l≠I)(few:∀m:P0,m.Nodup->(∀k∈m,k∈us.map (·.1))->m.length<=64) :
  ∀(k i:Nat)(s:F9)(xs:No (Pz×Nj)),us.length - i=k->i<=us.length->s.heap.IsListIter I l i->s.heap.IsList l (us.map λ p=>Value.ref p.2).toArray->fZ prog w s.heap S xs->(∀p∈us,IsTupleKey (intKind prog w) s.heap p.1 p.2)->(∀p∈xs,p∈us)->(xs.map (·.1)).Nodup->(∀p∈us.take i,∃q∈xs,q.1=p.1) ->
   (∀h' tk xs',(∀b o,b≠S->b≠I->s.heap.get? b=some o->h'.get? b=some o)->fZ prog w h' S xs'->(∀p∈xs',p∈us)->(xs'.map (·.1)).Nodup->(∀p∈us,∃q∈xs',q.1=p.1)->R (.ok (.ret .none)) { s with heap:=h',toks:=tk }) ->
   codeAny (model prog w) A (.builtin "set.update.loop" %[[.ref S,.ref I]|[]]) R s:=by
 have W:=Walks.list (prog:=prog) (w:=w) (A:=A.in1) (by exact hh) I l nlI (us.map λ p=>Value.ref p.2).toArray;have sz:(us.map λ p=>Value.ref p.2).toArray.size=us.length:=by rw[K1,B5]
 intro k
 induction k with
 | zero=>
  intro i s xs e1 e2 st hl hS ht sub nd got hR;obtain rfl:i=us.length:=⋯
  show Os F.entry_set_update_loop ?_;rw[Oh F.plain_set_update_loop _];unfold Builtin.«set.update.loop»;show A0 (W.done s _ _ (by rw[sz];exact%[st|hl]) λ h' tk kp=>A3 ?_);show hR h' tk xs (λ b o _ b2 e=>kp b o (by simp[b2]) e) ?_ sub nd (by rw[MG]at got;exact got);obtain⟨o,es,ep,t,ho,x⟩:=hS;exact%[o,es,ep,t,kp S o (by simp[nSI]) ho|x]
 | succ k ih=>
  intro i s xs e1 e2 st hl hS ht sub nd got hR;have hi:i < us.length:=⋯
  show Os F.entry_set_update_loop ?_;rw[Oh F.plain_set_update_loop _];unfold Builtin.«set.update.loop»;show A0 (W.item i s _ _ (by rw[sz];exact hi) %[st|hl] λ v h1 tk hv st1 kp=>?_);have ev:v=.ref us[i].2:=by rw[List.getElem?_toArray,J0,F4 hi]at hv;exact(C0 hv).symm
  subst ev;have hS1:fZ prog w h1 S xs:=by obtain⟨o,es,ep,t,ho,x⟩:=hS;exact%[o,es,ep,t,kp S o (by simp[nSI]) ho|x]
  have ht1:∀p∈us,IsTupleKey (intKind prog w) h1 p.1 p.2:=λ p m=>mZ (ht p m) λ o e c=>kp _ o (λ z=>by
   obtain⟨o',e',c',_⟩:=st;have z:p.2=I:=by simpa using z
   rw[z,e']at e;cases e;rw[c']at c;injection c with c;exact absurd c ∅) e
  have mi:us[i]∈us:=M8 hi;have tk1:us.take (i+1)=us.take i ++ [us[i]]:=by rw[List.take_succ,F4 hi];rfl
  have len:xs.length < 70:=by
   have:=few (xs.map (·.1)) nd λ k m=>by obtain⟨p,mp,rfl⟩:=J5.mp m;exact J5.mpr %[p,sub p mp|U]
   rw[B5]at this;lia
  show A0 (N2 (zb (s:={ s with heap:=h1,toks:=tk }) (by exact hu) hS1 len (λ p m=>ht1 p (sub p m)) (ht1 _ mi) (λ e tk2 _=>?_) λ e h2 xs2 tk2 _ sb hS2 pm=>?_))
  ·show A3 %[plainId_quiet F.plain_set_update_loop _|ih (i+1) { s with heap:=h1,toks:=tk2 } xs ⋯ hi st1.1 st1.2 hS1 ht1 sub nd (λ p m=>?_) λ h' tk' xs' kp'=>hR h' tk' xs' λ b o b1 b2 e=>kp' b o b1 b2 (kp b o (by simp[b2]) e)];rw[tk1]at m;rcases C4.mp m with m | m
   ·exact got p m
   ·rw[E5.mp m];exact e
  ·have up:∀b o,b≠S->h1.get? b=some o->h2.get? b=some o:=λ b o hb e=>sb.extBut b o hb e;show A3 %[plainId_quiet F.plain_set_update_loop _|ih (i+1) { s with heap:=h2,toks:=tk2 } xs2 ⋯ hi ?_ ?_ hS2 (λ p m=>mZ (ht1 p m) λ o e c=>up _ o (λ z=>?_) e) (λ p m=>?_) ?_ (λ p m=>?_) λ h' tk' xs' kp'=>hR h' tk' xs' λ b o b1 b2 e=>kp' b o b1 b2 (up b o b1 (kp b o (by simp[b2]) e))]
   ·obtain⟨o,h1,h2⟩:=st1.1;exact%[o,up _ _ (Ne.symm nSI) h1|h2]
   ·obtain⟨o,h1,h2⟩:=st1.2;exact%[o,up _ _ (Ne.symm nSl) h1|h2]
   ·obtain⟨o',_,_,_,e',c',_⟩:=hS1;rw[z,e']at e;cases e;rw[c'.1]at c;injection c with c;exact absurd c ∅
   ·rcases J3.mp (pm.mem_iff.mp m)with rfl | m
    ·exact mi
    ·exact sub p m
   ·rw[(pm.map (·.1)).nodup_iff];show Mq.mpr %[λ m=>?_|nd];obtain⟨p,mp,e'⟩:=J5.mp m;exact e p mp e'
   ·rw[tk1]at m;rcases C4.mp m with m | m
    ·obtain⟨q,mq,e'⟩:=got p m;exact%[q,pm.mem_iff.mpr (B6 _ mq)|e']
    ·rw[E5.mp m];exact%[_,pm.mem_iff.mpr B9|U]
theorem wU{h:Heap}{a:Nj}(e:h.get? a=some { cls:=.type "set",data:=.set #[] 0 (SetTable.fresh 0 0 (!w.params.followText "set-order")) }):fZ prog w h a [] :=
 %[_,#[],0,_,e,%[rfl,rfl|rfl],rfl,%[.inl rfl,rfl,.nil,(λ _ m=>nomatch m)|rfl],(by change 0 * 5 < 7 * 3;decide),rfl,rfl,(λ _ m=>nomatch m)|rfl]
theorem wV{Q:G3->F9->Prop}(hh:A.handled=none)(hu:A.units+10 < cLine)(hl:s.heap.IsList l (us.map λ p=>Value.ref p.2).toArray)(ht:∀p∈us,IsTupleKey (intKind prog w) s.heap p.1 p.2)(few:∀m:P0,m.Nodup->(∀k∈m,k∈us.map (·.1))->m.length<=64)
  (h:∀h' tk xs,(∀b o,s.heap.get? b=some o->h'.get? b=some o)->fZ prog w h' s.heap.objs.size xs->(∀p∈xs,p∈us)->(xs.map (·.1)).Nodup->(∀p∈us,∃q∈xs,q.1=p.1)->Q (.ref s.heap.objs.size) { s with heap:=h',toks:=tk }) :
  wpAny (model prog w) A (call (.type "set") [.ref l]) Q E s:=by
 obtain⟨c,tl,hmro⟩:=F.called_set.mro;show wpAny_call (codeAny_of_tree (A3 %[Code.quiet_builtin _ ∅|Os F.entry_type_call ?_]));rw[Around.under_plain (weight_type_call_type "set" [.ref l] []) rfl];unfold Builtin.«type.__call__»;dsimp only;show wpAny_ite_false rfl (wpAny_ite_false rfl ?_);show A0 (OV (F.typeCall_set_1 _) ?_);show A0 (OV hmro ?_);show wpAny_ite_false rfl ?_;show A0 (OV F.called_set.made (A0 (A3 ?_)));show A0 (N2 (wpAny_call (codeAny_mono (ou (Q₁:=λ obj s₁=>obj=.ref s.heap.objs.size/\s₁={ s with heap:=s.heap.push { cls:=.type "set",data:=.set #[] 0 (SetTable.fresh 0 0 (!w.params.followText "set-order")) } }) (E:=E) (.ref l) %[rfl|rfl]) λ r s₁ hr=>?_)))
 match r,hr with
 | .error _,hr=>exact hr
 | .ok (.ret v),hr=>
 obtain⟨rfl,rfl⟩:=hr;have hS0:(s.heap.push { cls:=.type "set",data:=.set #[] 0 (SetTable.fresh 0 0 (!w.params.followText "set-order")) }).get? s.heap.objs.size=some _:=A9 _ rfl;have hT:Shared.TypeIs { s with heap:=s.heap.push { cls:=.type "set",data:=.set #[] 0 (SetTable.fresh 0 0 (!w.params.followText "set-order")) } } (.ref s.heap.objs.size) "set" := %[_,hS0|U]
 show A0 (OL hT F.called_set.sub (wpAny_ite_false rfl ?_));show A0 (N2 (A0 (wpAny_specialOf hT F.called_set.init.lookup (N2 ?_))));show A0 (OV (F.called_set.init.bind _) ?_);show A0 (wpAny_call (codeAny_mono (codeAny_call_builtin (R:=wants (λ r s₂=>r=Value.none/\Q (.ref s.heap.objs.size) s₂) E) F.called_set.init.plain F.entry_set_init (check_set_init_1 hT ?_)) λ r s₂ hr=>?_))
 rotate_left
 ·match r,hr with
  | .error _,hr=>exact hr
  | .ok (.ret v),hr=>
   obtain⟨rfl,q⟩:=hr;exact A3 (wpAny_ite_false rfl (A3 q))
 have ll:l < s.heap.objs.size:=let ⟨_,e,_⟩:=hl;B0 e
 have k0:∀b o,s.heap.get? b=some o->(s.heap.push { cls:=.type "set",data:=.set #[] 0 (SetTable.fresh 0 0 (!w.params.followText "set-order")) }).get? b=some o:=λ b o e=>A8 _ e;have sz:=N5 s.heap { cls:=.type "set",data:=.set #[] 0 (SetTable.fresh 0 0 (!w.params.followText "set-order")) };generalize s.heap.push { cls:=.type "set",data:=.set #[] 0 (SetTable.fresh 0 0 (!w.params.followText "set-order")) }=h0 at hS0 hT k0 sz ⊢;have hl0:h0.IsList l (us.map λ p=>Value.ref p.2).toArray:=let ⟨o,e,x⟩:=hl;%[o,k0 _ _ e|x]
 unfold Builtin.«set.__init__»;show A0 (m:=noKeywords _ _) (A3 ?_);dsimp only;show A0 ?_;unfold typeNameOfCut;show A0 ?_;unfold shownTypeOf;show A0 (wpAny_typeOf hT ?_);rw[Nv ∅];show A3 ?_;show OV (a := "set") (by kernel_rfl) ?_;show A0 (m:=checkCount _ _ _ _) (A3 ?_);show A0 (m:=Builtin.Frozenset.addrOf _) (A3 ?_);show A0 ?_;unfold setUsed;show A0 (OF hS0 rfl rfl (A3 ?_));rw[Nv (by exact(show¬ (false=true)from B3))];show A0 ?_;unfold Builtin.Frozenset.updateFrom;have hTl:Shared.TypeIs { s with heap:=h0 } (.ref l) "list" := let ⟨o,e,c,_⟩:=hl0;%[o,e|c]
 show A0 ?_;unfold Builtin.Frozenset.isAnySet;show A0 (OL hTl F.sub_list_set ?_);show OL hTl F.sub_list_frozenset ?_;rw[Nv ∅];show A0 (wpAny_typeOf hTl ?_);rw[Nv ∅];show A0 (Of hl0 ?_);have k1:∀b o,h0.get? b=some o->(h0.push { cls:=.type "list_iterator",data:=.fields #[.ref l,.int 0 0] }).get? b=some o:=λ b o e=>A8 _ e;have tok:∀p∈us,IsTupleKey (intKind prog w) (h0.push { cls:=.type "list_iterator",data:=.fields #[.ref l,.int 0 0] }) p.1 p.2:=λ p m=>mZ (ht p m) λ o e _=>k1 _ _ (k0 _ _ e);show A0 (wpAny_runValue (wT (us:=us) (l:=l) (by exact hh) (by change A.units+1+1+1 < cLine;lia) (S:=s.heap.objs.size) (I:=h0.objs.size) (C1 (by rw[sz];exact F3 _)) (Ne.symm (C1 ll)) (C1 (by rw[sz];exact Mo ll)) few us.length 0 _ [] rfl (F1 _) %[_,A9 _ rfl,rfl|rfl] (let ⟨o,e,x⟩:=hl0;%[o,k1 _ _ e|x]) (wU (k1 _ _ hS0)) tok (λ _ m=>nomatch m) .nil (λ _ m=>nomatch m) λ h' tk xs kp S' sub nd got=>?_));show A3 ?_;show A3 %[rfl|h h' tk xs (λ b o e=>?_) S' sub nd got];have z:=B0 e;exact kp b o (C1 z) (C1 (by rw[sz];exact Mo z)) (k1 _ _ (k0 _ _ e))
end
end PySem
namespace L2
open PySem PySem.Spec PyProof.Rows
def zc(w:G2)(a:Nj)(xs:No (Pz×Nj))(h:Heap):Prop:=∃es ep t,OKS a es ep t h/\TbW w t es.size/\es.toList.map (·.2)=xs.map λ p=>Value.ref p.2
abbrev TpI(H:Hp)(xs:No (Pz×Nj)):Prop:=∀p∈xs,H p.2= ~~~(p.1.map V.int)
theorem wW{P:G0}{w:G2}:∀{k:Pz}{us:No G3},Vals (k.map V.int) us->ItemsAre (intKind P w) k us
 | [],_,.nil=>.nil
 | i :: k,_,.cons r rs=>.cons (by obtain⟨t,rfl⟩:=(show∃t,_=Value.int _ t from r);simp[intKind,Value.isInt]) (wW rs)
theorem wX:∀{n:Nat},0 < n->(List.replicate n false).head?=some false
 | _+1,_=>rfl
theorem rM:∀b:Pz,eJ (List.replicate b.length false) (b.map V.int)=some b
 | []=>rfl
 | x :: b=>by
  have ih:=rM b;change eJ (false :: List.replicate b.length false) (V.int x :: b.map V.int)=_;simp only[eJ,ih]
  rfl
section
variable{X:Cx}
inductive rSetT(w:World)(xs:No V)(H:Hp)(Q:VK):Prop
|mk(l:Nj)(us:No (Pz×Nj))(_:xs=[.ref l])(_:H l=↥(us.map λ p=>V.ref p.2))(_:TpI H us)(few:∀m:P0,m.Nodup->(∀k∈m,k∈us.map (·.1))->m.length<=64)
   (q:∀(p:Nj)(ys:No (Pz×Nj)),H p=none->(∀y∈ys,y∈us)->(ys.map (·.1)).Nodup->(∀u∈us,∃y∈ys,y.1=u.1)->Q (.ref p) (upd H p (.ext (zc w p ys)))):rSetT w xs H Q
theorem tM(hc:X.calm=true)(hu:X.A.units+10 < cLine):bS X (.type "set") (rSetT X.w):=by
 intro Nq s σ H xs us Q I r h;obtain⟨l,us,rfl,e1,e2,few,q⟩:=h;obtain⟨u,rfl,ru⟩:=dk r;cases ru;obtain⟨its,rv,⟨o,n,ho,h2,_,h4⟩,hz⟩:=I.list (G6 (K:=X.K) e1);obtain rfl:its=us.map λ p=>Value.ref p.2:=by
  clear few q e1 ho h2 h4 hz e2
  induction us generalizing its with
  | nil=>cases rv;rfl
  | cons p us ih=>
   cases rv with
   | cons r1 r2=>
    cases r1;rw[ih _ r2];rfl
 have ht:∀p∈us,IsTupleKey (intKind X.prog X.w) s.heap p.1 p.2:=λ p m=>by obtain⟨ts,r,⟨o,e,c,n,d⟩,_⟩:=I.tuple (G5 (K:=X.K) (e2 p m));exact%[o,ts.toArray,n,e,c,d|wW r]
 show wV (I.ok.hd hc) hu %[o,ho,h2,n|h4] ht few λ h' tk ys kp S sub nd got=>?_;show%[.ref s.heap.objs.size,_,I.laid (o:=.ext (zc X.w s.heap.objs.size ys)) (t':=tk) kp (B4 _) ?_,U|q _ _ (I.hok.fresh (B4 _)) sub nd got];obtain⟨o,es,ep,t,ho,hX,hd,T,nf,pl,ld,P,hes⟩:=S;have mk:=T.mok;unfold fV at mk;exact%[%[es,ep,t,%[o,ho,hX|hd],%[T,⋯,pl|ld]|by rw[hes,MO];rfl],%[o|ho]|λ h1 h2 ⟨es,ep,t,⟨o,e,x⟩,y⟩ k=>%[es,ep,t,%[o,k _ e|x]|y]]
inductive rSortSet(w:World)(xs:No V)(H:Hp)(Q:VK):Prop
|mk(p:Nj)(us:No (Pz×Nj))(n:Nat)(_:xs=[.ref p])(_:H p=some (.ext (zc w p us)))(_:TpI H us)(_:us.length < 4096)(_:0 < n)(_:∀u∈us,u.1.length=n)
   (q:∀(l:Nj)(ys:No (Pz×Nj)),H l=none->ys.Perm us->Q (.ref l) (upd H l (.lst (ys.map λ p=>V.ref p.2)))):rSortSet w xs H Q
theorem kq(hc:X.calm=true):bS X (.builtin "sorted") (rSortSet X.w):=by
 intro Nq s σ H xs us Q I r h;obtain⟨p,us,n,rfl,e1,e2,e3,e4,e5,q⟩:=h;obtain⟨u,rfl,ru⟩:=dk r;cases ru;obtain⟨⟨es,ep,t,ok,T,hes⟩,_⟩:=(show ObjOk X.prog X.w H s.heap p (.ext (zc X.w p us))from I.hok p _ e1)
 obtain⟨ys,ey,py⟩:=dD (λ y:Pz×Nj=>Value.ref y.2) ((fP X.w p ep es).map (·.2)) us hes;have len:es.size=us.length:=by rw[<- J7,<- B5 (f:=λ x:Int×Value=>x.2),hes,B5]
 have sl:us.length<=sizeLine:=C7 (C9 e3) ∅;have key:∀y∈us,eJ (List.replicate n false) (y.1.map V.int)=some y.1:=λ y m=>by rw[<- e5 y m];exact rM _
 have kA:∀y∈us,gS H (List.replicate n false) y.2=y.1:=λ y m=>rA (e2 y m) (key y m);show jc (as:=ys.map (·.2)) (sh:=List.replicate n false) hc I (λ {A' E Q} hh k=>oh (JG T ⋯) (by rw[<- J7,(fP _ _ _ _).length_eq,J7]) hh ok ⋯ λ h' tk k1 k2=>?_) (by rw[B5,py.length_eq];lia) (wX e4) (λ a ha=>?_) λ L as' hn pa hs=>?_
 ·have:=k h' tk k1 k2;rw[MO]at this;rw[ey];exact this
 ·obtain⟨y,my,rfl⟩:=J5.mp ha;have m:=py.mem_iff.mp my;exact%[_,e2 y m|by rw[kA y m];exact key y m]
 ·obtain⟨zs,ez,pz⟩:=dD (λ y:Pz×Nj=>y.2) pa ys rfl;subst ez;rw[MO];exact q L zs hn (pz.trans py)
end
end L2
namespace Pc
open PySem L2
def top(i:Nat):Stmt:=PySem.Challenge.pw_platecuts_k72_whole_fewest.main.body.getD i (.Pass %[0,0,0|0])
abbrev nh:Stmt:=top 9
abbrev ni:Stmt:=top 10
abbrev zd:Stmt:=top 11
abbrev dE:Stmt:=top 12
abbrev dF:Stmt:=top 13
abbrev jv:Stmt:=top 17
abbrev ed:Stmt:=top 18
abbrev fQ:Stmt:=top 19
abbrev eM:Stmt:=top 20
abbrev du:Stmt:=top 21
abbrev dG:Stmt:=top 27
abbrev cD:Stmt:=top 28
abbrev gU:Stmt:=top 29
abbrev ee:Stmt:=top 30
abbrev cF:Stmt:=top 31
abbrev bz:Stmt:=top 32
abbrev cG:Stmt:=top 33
abbrev bA:Stmt:=top 34
abbrev gW:Stmt:=top 36
abbrev fq:Stmt:=top 37
abbrev bG:Stmt:=top 38
abbrev bQ:Stmt:=top 39
abbrev bH:Stmt:=top 40
abbrev fR:Stmt:=top 41
abbrev jw:Stmt:=top 45
abbrev jx:Stmt:=top 46
abbrev ef:Stmt:=inClass (top 47) 0
abbrev eN:Stmt:=inClass (top 47) 1
abbrev kr:Stmt:=inClass (top 47) 2
abbrev cP:Stmt:=inClass (top 47) 3
abbrev dI:Stmt:=inClass (top 47) 4
abbrev de:Stmt:=inClass (top 47) 5
abbrev eO:Stmt:=inClass (top 47) 6
abbrev rN:Stmt:=top 49
abbrev ze:Stmt:=top 50
abbrev rO:Stmt:=top 51
abbrev rP:Stmt:=top 52
abbrev ow:Stmt:=top 53
abbrev rQ:Stmt:=top 54
abbrev dJ:Stmt:=top 55
abbrev ky:Stmt:=top 56
abbrev dL:Stmt:=top 57
abbrev jy:Stmt:=top 58
abbrev kB:Stmt:=top 59
abbrev nj:Stmt:=top 60
abbrev jz:Stmt:=top 61
abbrev fu:Stmt:=top 62
abbrev fw:Stmt:=top 63
abbrev oz:Stmt:=top 64
theorem bW{CX:_}{P:G0}{w:G2}{K:C6}{mg:Str->Nm G3}{base:Heap}{N:No Str}{qual:Str}{scope:Scope}{f:Nj}{cd:G3}{A:Around}{outer:No Env}{s₀:F9}{H₀:Hp}{E:XK}:(pL CX P w K mg base N qual scope f cd A outer s₀ H₀ E).nox.K=K:=rfl
@[elab_as_elim] theorem aF{H:Hp}{t:Nj}{o:HO}{P:Hp->Prop}(ht:H t=none)(h:∀H',H' t=some o->Same H H'->P H'):P (upd H t o):=h _ ai (G4 ht)
section
variable{P:G0}{w:G2}{K:C6}{mg:Str->Nm G3}{base:Heap}
structure Blt(mg:Str->Nm Value):Prop where
 isi:mg "isinstance" = none
 int:mg "int" = none
 bool:mg "bool" = none
 list:mg "list" = none
 tuple:mg "tuple" = none
 len:mg "len" = none
 range:mg "range" = none
 max:mg "max" = none
 min:mg "min" = none
 abs:mg "abs" = none
 divmod:mg "divmod" = none
 sum:mg "sum" = none
 sorted:mg "sorted" = none
 all:mg "all" = none
 repr:mg "repr" = none
 zip:mg "zip" = none
 enumerate:mg "enumerate" = none
 mostk:∃t,mg "MOST_KINDS" = some (.int 8 t)
 fivek:∃t,mg "THINGS_OF_A_KIND" = some (.int 5 t)
theorem gX{t u:TS}{D:Ends}{σ:St}{H:Hp}(C:(St->Hp->Prop)->Prop)(h1:∀R:St->Hp->Prop,C R->t { D with nx:=R } σ H)(h2:C (u D)):yq t u D σ H:=h1 _ h2
theorem ao{t u:TS}{D:Ends}{σ:St}{H:Hp}(C:(St->Hp->Prop)->Prop)(h1:∀D':Ends,C D'.nx->t D' σ H)(h2:C (u D)):yq t u D σ H:=h1 _ h2
theorem bX{P:Prop}(h:∀G:Prop,(P->G)->G):P:=h P id
theorem bI{t u:TS}{D:Ends}{σ:St}{H:Hp}(J:St->Hp->Prop)(h1:∀R:St->Hp->Prop,(∀σ' H',J σ' H'->R σ' H')->t { D with nx:=R } σ H)(h2:∀σ' H',J σ' H'->u D σ' H'):yq t u D σ H:=h1 _ h2
theorem zf:FnScope Ow Ow (defScope nh):=%[U,U,U,∅,U,∅|∅]
theorem wY{f:Nj}{fd:G1}(F:Fun K "is_whole" "is_whole" nh f fd)(B:Blt mg):FnOk P w K mg base CX0 1 f fd Ow (fK K):=by
 exists zf;obtain⟨x,T,l,rfl,⟨tn,ty⟩,q⟩:=h;show⟨_,ah (ar (di (ap br rfl B.isi N4 (ad '0' (ad (cw (v:=.ty "int") rfl B.int PyProof.Rows.boot_int rfl) ae)))
  (di (mx (ap br rfl B.isi N4 (ad '0' (ad (cw (v:=.ty "bool") rfl B.bool PyProof.Rows.boot_bool rfl) ae))))
  (dO (bd nC '0' '1' (ax _)))))),?_⟩
 show%[_,U,x,_,_,_,_,U,ty,U,yH T tn,_,U|?_];have tb:=qW ty;show cx (λ c=>?_) (λ c=>?_)
 ·show%[_,U,x,_,_,_,_,U,ty,U,nI T tn,_,U,_,U|?_];show cx (λ c2=>?_) (λ c2=>?_)
  ·have hT:(T == "int")=true:=by
    have:(T == "bool")=false:=by simpa using c2
    rw[this,Bool.or_false]at c;exact c
   obtain⟨i,rfl⟩:=AB ty tn hT;exact%[_,U,_,U,_,_,U,U|q]
  ·have hT:sP x=true:=by
    rw[<- tb];cases e:(T == "bool")with
    | true=>rfl
    | false=>rw[e]at c2;exact absurd rfl c2
   cases x <;> first | exact q | (exact absurd hT B3)
 ·have hx:bM x l=false:=by
   cases x with
   | int i=>
    exfalso;have ty':=ty;generalize hv:Value.type T=tv at ty';cases ty' with
    | int=>cases hv;exact c rfl
   | _=>rfl
  rw[hx]at q;exact q
theorem zg:FnScope Ox Ox (defScope ni):=%[U,U,U,∅,U,∅|∅]
theorem wZ{f:Nj}{fd:G1}(F:Fun K "is_truth" "is_truth" ni f fd)(B:Blt mg):FnOk P w K mg base CX0 1 f fd Ox (mN K):=by
 exists zg;obtain⟨x,T,rfl,⟨tn,ty⟩,q⟩:=h;show%[_,ah (ar (ap br rfl B.isi N4 (ad '0' (ad (cw (v:=.ty "bool") rfl B.bool PyProof.Rows.boot_bool rfl) ae))))|?_];show%[_,U,x,_,_,_,_,U,ty,U,nI T tn|?_];rw[qW ty];exact q
theorem Cc:FnScope Ox Ox (defScope zd):=%[U,U,U,∅,U,∅|∅]
theorem AX{f:Nj}{fd:G1}(F:Fun K "is_row" "is_row" zd f fd)(B:Blt mg):FnOk P w K mg base CX0 1 f fd Ox (vW K):=by
 exists Cc;obtain⟨x,T,rfl,ty,q⟩:=h;show%[_,ah (ar (ap mL rfl B.isi N4 (ad '0' (ad (aJ (ad (cw (v:=.ty "list") rfl B.list Ob rfl) (ad (cw (v:=.ty "tuple") rfl B.tuple N0 rfl) ae))) ae))))|?_];show%[_,U,zS2|λ p hp=>?_];have s1:Same H (upd H p (.tup [.ty "list",.ty "tuple"])):=λ b o e=>by rw[ak (aj e hp)];exact e
 have t2:=Ty.same s1 ty;exact%[x,p,_,_,_,_,U,t2.2,ai,U,yI T ty.1|q _ s1]
theorem scIsKind:FnScope ["thing","wide","high","worth","wanted","turns"] Ox (defScope jw):=%[U,U,U,∅,U,∅|∅]
theorem Cd{xs:No V}(h:xs.length=5):∃a b c d e,xs=[a,b,c,d,e]:=by obtain⟨a,r,rfl⟩:=MV h;have h:=Nat.succ.inj h;obtain⟨b,r,rfl⟩:=MV h;have h:=Nat.succ.inj h;obtain⟨c,r,rfl⟩:=MV h;have h:=Nat.succ.inj h;obtain⟨d,r,rfl⟩:=MV h;have h:=Nat.succ.inj h;obtain⟨e,r,rfl⟩:=MV h;obtain rfl:=List.eq_nil_of_length_eq_zero (Nat.succ.inj h);exact%[a,b,c,d,e|U]
theorem tN{f:Nj}{fd:G1}(F:Fun K "is_kind" "is_kind" jw f fd)(B:Blt mg)(DW:Dn P w K mg base "is_whole" Ow 1 (fK K))(DT:Dn P w K mg base "is_truth" Ox 1 (mN K))(DR:Dn P w K mg base "is_row" Ox 1 (vW K)) :
  FnOk P w K mg base CX0 2 f fd Ox (jM K):=by
 exists scIsKind;obtain⟨x,T,rfl,ty,q⟩:=h;obtain⟨tk,htk⟩:=B.fivek;have nd:=scIsKind.nd;show⟨_,af (aP (PW.pt (cj (aY (aR (av DR hr rfl (ad '0' ae)))) (bT (aA fW (ap aI rfl B.len N6 (ad '0' ae)) (cu (v:=.int 5) rfl htk %[tk|U]) (ax _))))) (ah (ar dR)) ay)
  (af (cR '0' (vS rfl (au (am (i:=1) nd rfl (Or.inl rfl)) (au (am (i:=2) nd rfl (Or.inl rfl)) (au (am (i:=3) nd rfl (Or.inl rfl)) (au (am (i:=4) nd rfl (Or.inl rfl)) (au (am (i:=5) nd rfl (Or.inl rfl)) bi)))))))
  (af (aP (PW.pt (cj (aY (aR (av DW hr rfl (ad '1' (ad ag ae))))) (bT (aY (aR (av DW hr rfl (ad '2' (ad ag ae)))))))) (ah (ar dR)) ay)
  (ah (ar (di (av DW hr rfl (ad '3' (ad ag ae))) (di (av DW hr rfl (ad '4' (ad ag ae))) (dO (av DT hr rfl (ad '5' ae))))))))),?_⟩
 show%[_,U,x,T,U,ty|λ H1 s1=>%[_,U|?_]];rcases q with⟨n1,n2,q⟩ | ⟨a,xs,rfl,hx,its,q⟩
 ·have e:(T == "list" || T == "tuple")=false:=by simp[n1,n2]
  rw[e];show bN (bN ?_);exact q H1 s1
 ·have e:(T == "list" || T == "tuple")=true:=by
   have t2:=ty.2;generalize hv:Value.type T=tv at t2;generalize hr:V.ref a=rv at t2;cases t2 with
   | lst _=>cases hv;rfl
   | frz _=>cases hv;rfl
   | tup _=>cases hv;rfl
   | dK e=>cases hr;rcases hx with z | z <;> (rw[z]at e;cases e)
   | dT e=>cases hr;rcases hx with z | z <;> (rw[z]at e;cases e)
   | ext e _=>cases hr;rcases hx with z | z <;> (rw[z]at e;cases e)
   | ins=>cases hv
   | _=>cases hr
  rw[e];have sq:SqL K H1 a xs\/SqT K H1 a xs:=by
   rcases hx with z | z
   ·exact .inl (G6 (s1 _ _ z))
   ·exact .inr (G5 (s1 _ _ z))
  show aV %[_,rfl,a,xs,rfl,sq,rfl,_,rfl|?_];show cx (λ c=>?_) (λ c=>?_)
  ·have hl:xs.length≠5:=λ z=>by rw[z]at c;exact absurd c ∅
   have:lG xs=false:=by
    unfold lG
    split
    ·exact absurd rfl hl
    ·rfl
   rw[this]at q;exact q H1 s1
  ·have hl:xs.length=5:=by
    by_cases z:xs.length=5
    ·exact z
    ·exfalso;show c ?_;have:¬ (V.int (xs.length:Int)=V.int 5):=λ h=>z (by have:=V.int.inj h;lia);rw[N3 this];rfl
   obtain⟨x1,x2,x3,x4,x5,rfl⟩:=Cd hl;obtain⟨T1,t1⟩:=its x1 (by simp);obtain⟨T2,t2⟩:=its x2 (by simp);obtain⟨T3,t3⟩:=its x3 (by simp);obtain⟨T4,t4⟩:=its x4 (by simp);obtain⟨T5,t5⟩:=its x5 (by simp);show%[_,U,a,_,U,sq,U,x1,_,U,x2,_,U,x3,_,U,x4,_,U,x5,_,U,U|?_];show%[_,U,x1,T1,1,U,Ty.same s1 t1,_,U|?_];have q':∀b,lG [x1,x2,x3,x4,x5]=b->Q (.bl b) H1:=λ b e=>by rw[<- e];exact q H1 s1
   have k5:lG [x1,x2,x3,x4,x5]=(bM x1 1 && bM x2 1 && bM x3 0 && bM x4 0 && sP x5):=rfl;cases w1:bM x1 1 with
   | false=>
    show bN (bN ?_);exact q' false (by rw[k5,w1];rfl)
   | true=>
    show aV %[_,rfl,x2,T2,1,rfl,Ty.same s1 t2,_,rfl|?_];cases w2:bM x2 1 with
    | false=>
     show bN ?_;exact q' false (by rw[k5,w1,w2];rfl)
    | true=>
     show aV %[_,rfl,x3,T3,0,rfl,Ty.same s1 t3,_,rfl|?_];cases w3:bM x3 0 with
     | false=>
      show aV ?_;exact q' false (by rw[k5,w1,w2,w3];rfl)
     | true=>
      show bN %[_,rfl,x4,T4,0,rfl,Ty.same s1 t4,_,rfl|?_];cases w4:bM x4 0 with
      | false=>
       show aV ?_;exact q' false (by rw[k5,w1,w2,w3,w4];rfl)
      | true=>
       show bN %[_,rfl,x5,T5,rfl,Ty.same s1 t5|?_];exact q' _ (by rw[k5,w1,w2,w3,w4];rfl)
theorem scInit:FnScope Oy Oz (defScope ef):=%[U,U,U,∅,U,∅|∅]
theorem zh{f C:Nj}{fd:G1}(F:Fun K "__init__" "Shop.__init__" ef f fd)(B:Blt mg)(T:ShopTxt K C)(DW:Dn P w K mg base "is_whole" Ow 1 (fK K))(DR:Dn P w K mg base "is_row" Ox 1 (vW K))
  (DK:Dn P w K mg base "is_kind" Ox 2 (jM K)):FnOk P w K mg base CX0 3 f fd Oz (pW C):=by
 exists scInit;obtain⟨x,dx,ks,b,rs,kds,rfl,hx,b0,hks,hrs,hgd,n1,n8,q⟩:=h;have hr1:=hr.mono (show 1<=2 by decide);obtain⟨tk,htk⟩:=B.mostk;have nd:=scInit.nd;have n8':(8:Nat) < sizeLine:=∅
 show⟨_,af (aP (aY (aR (av DW hr1 rfl (ad '1' (ad ag ae))))) iq ay)
  (af (aP (PW.pt (cj (aY (aR (av DR hr1 rfl (ad '2' ae)))) (bT (aY (vC jG jG ag (ap aI rfl B.len N6 (ad '2' ae)) (cu (v:=.int 8) rfl htk %[tk|rfl])))))) iq ay)
  (af (ce E7 rfl (vU '2') (am (i:=3) nd rfl (Or.inl rfl)) (ah (aP (aY (aR (av DK hr rfl (ad '3' ae)))) iq ay)))
  (af (vG '0' '1' rfl)
  (ah (vG '0' (aT aQ rfl B.tuple N0 (ad (aX (own:=O0) (cs:=[]) (cap:=[]) rfl (vU '2')
   (az (sc:=defScope ef) (N:=Oy) rfl rfl ∅)
   (λ _ _ _ _ _=>am (i:=0) (by change List.Nodup (O0:No Str);decide +kernel) rfl (Or.inl rfl) (Or.inr rfl)) (λ _ _ _ _ _=>aK)
   (λ _ _ _ _ _=>aT (r:=vX K) aQ rfl B.tuple N0 (ad '0' ae))) ae)) rfl))))),?_⟩
 show%[_,U,.int b,_,0,U,.int,_,U|?_];have wb:bM (.int b) 0=true:=B1 b0;rw[wb];show aV ?_;have tyk:∃T,Ty K H (.ref ks) T/\(T == "list" || T == "tuple")=true:=by
  rcases hks with e | e
  ·exact%[_,.lst e|U]
  ·exact%[_,.tup e|U]
 obtain⟨T0,ty0,te0⟩:=tyk;show%[_,U,.ref ks,T0,U,ty0|λ H1 s1=>%[_,U|?_]];rw[te0];have sq:∀{H2:Hp},Same H H2->SqL K H2 ks rs\/SqT K H2 ks rs:=λ s2=>by
  rcases hks with z | z
  ·exact .inl (G6 (s2 _ _ z))
  ·exact .inr (G5 (s2 _ _ z))
 show aV %[_,rfl,ks,rs,rfl,sq s1,_,_,rfl,rfl,_,rfl|?_];rw[Ny (show(1:Int)<=(rs.length:Int)by lia)];show bN %[_,_,rfl,rfl,_,rfl|?_];rw[Ny (show(rs.length:Int)<=8 by lia)];show aV ?_;have Bh:=E6 hrs;show vY (j:=2) (a:=ks) (xs:=rs) rfl (hks.imp (λ z=>s1 _ _ z) λ z=>s1 _ _ z) (λ i σ H2=>∃v,σ=[↑x,⇑b,↑ks,v]/\Same H1 H2) %[none,rfl|Same.refl _] (λ i σ H2 _ ⟨_,_,s2⟩ o e=>s2 _ _ e) ?_ ?_
 ·rintro i y σ H2 hi ⟨v,rfl,s2⟩;obtain⟨k,hk,rk⟩:=G8 hrs hi;show%[_,U|?_];simp only[yy,MR];show sR ((rk.same s1).same s2) (hgd k (B7 hk)) λ H3 s3=>%[_,U|aV ?_]
  exact%[_,U|s2.trans s3]
 rintro σ H2 ⟨v,rfl,s12⟩;have s2:Same H H2:=s1.trans s12;show%[_,U,_,U,x,C,dx,[],U,s2 _ _ hx,T.cl,T.nB,(by change 0 < 1000;decide)|?_];have k3:∀c o,c≠x->H c=some o->(upd H2 x (.ins C dx (dB "blade_width" (.int b) []))) c=some o:=λ c o n e=>by rw[ak n];exact s2 c o e
 have x3:(upd H2 x (.ins C dx (dB "blade_width" (.int b) []))) x=some (.ins C dx (dB "blade_width" (.int b) [])):=ai;generalize upd H2 x (.ins C dx (dB "blade_width" (.int b) []))=H3 at k3 x3 ⊢;have rx:∀c xs,H c=↥xs\/H c= ~~~xs->c≠x:=λ c xs e z=>by subst z;rcases e with e | e <;> (rw[hx]at e;cases e)
 dsimp only[BH,tCB,zR];show sQ (j:=2) (a:=ks) (xs:=rs) rfl (hks.imp (λ z=>k3 _ _ (rx _ _ (.inl z)) z) λ z=>k3 _ _ (rx _ _ (.inr z)) z) (λ i ys H4=>ys.length=i/\Same H3 H4/\Tups H4 ys (kds.take i)) (λ i ys H4 _ ⟨_,s4,_⟩ o e=>s4 _ _ e) %[rfl,Same.refl _|.nil] ?_ ?_
 ·rintro i y ys H4 hi ⟨hy,s4,ty4⟩;have hin:i < rs.length:=(A7.mp hi).1;obtain⟨k,hk,rk⟩:=G8 hrs hi;have tk1:kds.take (i+1)=kds.take i ++ [k]:=by rw[K6,hk];rfl
  show%[⋯,leS.set rfl|aL ?_];rcases rk with⟨a,rfl,h⟩ | ⟨a,rfl,h⟩
  ·have h4:=s4 _ _ (k3 _ _ (rx _ _ (.inr h)) h);exact%[_,U,a,_,U|.inr %[G5 h4|Nx.of hin %[by rw[K4,hy];rfl,s4|by rw[tk1];exact Paired.snoc ty4 %[a,U|h4]]]]
  ·have h4:=s4 _ _ (k3 _ _ (rx _ _ (.inl h)) h);show%[_,U,a,_,U|.inl %[G6 h4|λ l hl=>Nx.of hin %[by rw[K4,hy];rfl,λ c o e=>?_|?_]]]
   ·have e4:=s4 c o e;rw[ak (aj e4 hl)];exact e4
   ·rw[tk1];exact Paired.snoc (Tups.keep (λ c xs e=>by rw[ak (aj e hl)];exact e) ty4) %[l,rfl|ai]
 rintro ys H4 ⟨hy,s4,ty4⟩;show%[⋯|λ p hp=>?_];show%[p,ys,U|.inl %[G6 ai|λ r hr'=>?_]];have hpr:r≠p:=λ z=>by rw[z,ai]at hr';cases hr'
 have hr4:H4 r=none:=by rw[ak hpr]at hr';exact hr'
 have x4:=s4 _ _ x3;have xp:x≠p:=aj x4 hp;have xr:x≠r:=aj x4 hr4;show%[_,U,x,C,dx,_,U,(by rw[ak xr,ak xp];exact x4),T.cl,T.nK,(C8 (eX _ _ _) ∅)|?_];rw[Bh,MG]at ty4;show q _ %[dx,r,ys,ai,by rw[ak (Ne.symm xr),ai]|?_] λ c o n e=>?_
 ·show Tups.keep (λ c xs e=>?_) ty4;rw[ak (λ z=>by rw[z,x4]at e;cases e),ak (aj e hr4),ak (aj e hp)];exact e
 ·have e4:=s4 _ _ (k3 c o n e);rw[ak n,ak (aj e4 hr4),ak (aj e4 hp)];exact e4
theorem zi:FnScope O1 O1 (defScope eN):=%[U,U,U,∅,U,∅|∅]
theorem xb{f C:Nj}{fd:G1}(F:Fun K "blade" "Shop.blade" eN f fd)(T:ShopTxt K C):FnOk P w K mg base CX0 1 f fd O1 (mO C):=by
 exists zi;obtain⟨x,b,ks,rfl,⟨dx,r,rs,h1,h2,h3⟩,q⟩:=h;exact%[_,ah (ar (iC '0' rfl)),_,U,x,C,dx,_,_,U,h1,T.cl,T.nB,pV _ _|q]
theorem xc:FnScope O0 O0 (defScope jx):=%[U,U,U,∅,U,∅|∅]
theorem tO{f:Nj}{fd:G1}(F:Fun K "can_lie_turned" "can_lie_turned" jx f fd):FnOk P w K mg base CX0 1 f fd O0 (jP K):=by
 exists xc;obtain⟨a,k,rfl,ha,q⟩:=h;show%[_,ah (ar (di (aB aD '0' ag (λ _ _=>rfl)) (dO (bd fW (aB aD '0' ag (λ _ _=>rfl)) (aB aD '0' ag (λ _ _=>rfl)) (ax _)))))|?_];show%[_,U,a,_,4,_,U,U,G5 ha,U,_,U|?_];unfold bv at q;show cx (λ c=>?_) (λ c=>?_)
 ·rw[c,Bool.true_and]at q;show%[_,U,a,_,0,_,U,U,G5 ha,U,_,U,a,_,1,_,U,U,G5 ha,U,U|?_];rw[mC];rw[show(decide (k.w=k.h))=(k.w == k.h)from rfl]at q;exact q
 ·have c':k.tu=false:=by simpa using c
  rw[c',Bool.false_and]at q;exact q
theorem scLyings:FnScope ["self","told","number","kind"] O1 (defScope dI):=%[U,U,U,∅,U,∅|∅]
theorem tP{f C:Nj}{fd:G1}(F:Fun K "lyings" "Shop.lyings" dI f fd)(T:ShopTxt K C)(me:mg "enumerate" = none)(DT:Dn P w K mg base "can_lie_turned" O0 1 (jP K)) :
  FnOk P w K mg base CX0 2 f fd O1 (jQ C):=by
 exists scLyings;obtain⟨x,b,ks,rfl,⟨dx,r,rs,h1,h2,h3⟩,n8,q⟩:=h;show⟨_,af (aE (i:=1) nd rfl (Or.inl rfl) (aZ ae))
  (af (ce E7 rfl (mP rfl me (ad (iC '0' rfl) ae)) (bO rfl (au (am (i:=2) nd rfl (Or.inl rfl)) (au (am (i:=3) nd rfl (Or.inl rfl)) bi)))
   (af (bL (fX F8 PySem.F.slot_list_append PySem.F.type_list_append dS '1' (ad (aJ (ad '2' (ad dR ae))) ae)))
   (ah (aP (aR (av DT hr rfl (ad '3' ae)))
    (ah (bL (fX F8 PySem.F.slot_list_append PySem.F.type_list_append dS '1' (ad (aJ (ad '2' (ad dR ae))) ae)))) ay))))
  (ah (ar '1'))),?_⟩
 show%[∅|λ l hl=>?_];have s1:Same H (upd H l (.lst [])):=G4 hl;have l1:(upd H l (.lst ([]:No V))) l=↥[]:=ai;generalize upd H l (.lst ([]:No V))=H1 at s1 l1 ⊢;have xT:=E6 h3;have n8':(100:Nat) < sizeLine:=∅
 show%[_,U,x,C,dx,_,_,U,s1 _ _ h1,T.cl,T.nK,dU _ _,r,rs,U|.inr %[s1 _ _ h2|?_]];show wc (f:=HO.tup) (λ _ _ e=>HO.tup.inj e) (xs:=rs) (λ i σ H2=>∃v2 v3 ys,σ=[↑x,↑l,v2,v3]/\Same H H2/\H2 l=↥ys/\Lys H2 ys (lyK (ks.take i) 0)) %[none,none,[],rfl,s1,l1|.nil]
  (λ i σ H2 h9=>by obtain⟨_,_,_,_,s2,_⟩:=h9;exact s2 _ _ h2) ?_ ?_
 ·rintro i y p σ H2 hi hp ⟨v2,v3,ys,rfl,s2,l2,y2⟩;obtain⟨k,hk,a,rfl,ha⟩:=G8 h3 hi;have s3:Same H (upd H2 p (.tup [.int i,.ref a])):=s2.trans (G4 hp);have l3:(upd H2 p (.tup [.int (i:Int),.ref a])) l=↥ys:=by rw[ak (aj l2 hp)];exact l2
  have y3:Lys (upd H2 p (.tup [.int (i:Int),.ref a])) ys (lyK (ks.take i) 0):=Lys.keep (λ c xs e=>by rw[ak (aj e hp)];exact e) y2;have p3:(upd H2 p (.tup [.int (i:Int),.ref a])) p= ~~~[.int (i:Int),.ref a]:=ai;generalize upd H2 p (.tup [.int (i:Int),.ref a])=H3 at s3 l3 y3 p3 ⊢;have hli:i < ks.length:=(A7.mp hk).1;have ylen:ys.length<=16:=by have e1:=E6 y2;have e2:=mQ (ks.take i) 0;rw[K0]at e2;lia
  have tk1:lyK (ks.take (i+1)) 0=lyK (ks.take i) 0 ++ lyT i k:=by rw[K6,hk];change lyK (ks.take i ++ [k]) 0=_;rw[nJ,K0,Nat.zero_add,Nf (C9 hli)]
  show%[p,_,U,G5 p3,U,_,_,U,_,_,U,U|?_];show%[_,U,.inl %[U,_|G6 l3],_,U,zS2|λ t ht=>?_];have lt:l≠t:=aj l3 ht;show%[l,ys,_,U,U,(by rw[ak lt];exact l3),⋯|?_];obtain⟨s4,l4,y4⟩:=wd (b:=false) hl s3 l3 y3 ht;generalize upd (upd H3 t (.tup [.int (i:Int),.bl false])) l (.lst (ys ++ [.ref t]))=H4 at s4 l4 y4 ⊢;show%[_,U,a,k,U,s4 _ _ ha,_,U|?_];show cx (λ c=>?_) (λ c=>?_)
  ·show%[_,U,.inl %[U,_|G6 l4],_,U,zS2|λ t' ht'=>?_];have lt':l≠t':=aj l4 ht';show%[l,_,_,U,U,(by rw[ak lt'];exact l4),(by rw[K4];change ys.length+1 < sizeLine;lia)|?_];obtain⟨s5,l5,y5⟩:=wd (b:=true) hl s4 l4 y4 ht';show%[_,_,_,U,s5,l5|?_];rw[tk1];unfold lyT;rw[Nw c];rw[show lyK (ks.take i) 0 ++ [(i,false),(i,true)]=lyK (ks.take i) 0 ++ [(i,false)] ++ [(i,true)]by simp];exact y5
  ·show%[_,_,_,U,s4,l4|?_];rw[tk1];unfold lyT;rw[Nv c];exact y4
 ·rintro σ H2 ⟨v2,v3,ys,rfl,s2,l2,y2⟩;rw[xT,MG]at y2;exact%[_,U|q l ys H2 hl l2 y2 s2]
theorem tQ:FnScope O2 O2 (defScope de):=%[U,U,U,∅,U,∅|∅]
theorem qr{f C:Nj}{fd:G1}(F:Fun K "is_lying" "Shop.is_lying" de f fd)(B:Blt mg)(T:ShopTxt K C)(DW:Dn P w K mg base "is_whole" Ow 1 (fK K))(DU:Dn P w K mg base "is_truth" Ox 1 (mN K))(DT:Dn P w K mg base "can_lie_turned" O0 1 (jP K)) :
  FnOk P w K mg base CX0 2 f fd O2 (fL K C):=by
 exists tQ;obtain⟨s,b,ks,x,t,T0,UU0,rfl,⟨dx,r,rs,h1,h2,h3⟩,tx,tt,q⟩:=h;have xT:=E6 h3;show⟨_,af (aP (PW.pt (cj (aY (aR (av DW hr rfl (ad '1' (ad ag ae))))) (cj (aA nC '1' (ap aI rfl B.len N6 (ad (iC '0' rfl) ae)) (ax _))
   (bT (aY (aR (av DU hr rfl (ad '2' ae)))))))) (ah (ar dR)) ay)
  (ah (ar (zN (mx '2') (dO (av DT hr rfl (ad (aB aD (iC '0' rfl) '1' (λ _ _=>rfl)) ae)))))),?_⟩
 show%[_,U,x,_,0,U,tx,_,U|?_];cases hw:bM x 0 with
 | false=>
  have e:iH ks x t=false:=by
   cases x with
   | int i=>
    have h0:decide (0<=i)=false:=hw;cases t <;> first | rfl | (change(decide (0<=i) && _)=false;rw[h0,Bool.false_and])
   | _=>rfl
  rw[e]at q;exact bN (bN q)
 | true=>
  have ex:∃i,x=.int i/\0<=i:=by
   cases x with
   | int i=>exact%[i,U|C2 hw]
   | _=>cases hw
  obtain⟨i,rfl,i0⟩:=ex;show aV %[_,rfl,_,rfl,s,C,dx,_,_,rfl,h1,T.cl,T.nK,dU _ _,r,rs,rfl,.inr (G5 h2),i,_,rfl,rfl,_,rfl|?_]
  by_cases hi:(rs.length:Int)<=i
  ·rw[Ny hi];have e:iH ks (.int i) t=false:=by have hn:ks[i.toNat]?=none:=MX ⋯;cases t <;> first | rfl | (change(decide (0<=i) && match ks[i.toNat]? with | some k=>_ | none=>false)=false;rw[hn,Bool.and_false])
   rw[e]at q;exact bN (bN q)
  ·rw[N3 hi];show aV %[_,rfl,t,_,rfl,tt,_,rfl|?_];have hlt:i.toNat < ks.length:=⋯
   cases hb:sP t with
   | false=>
    have e:iH ks (.int i) t=false:=by cases t <;> first | rfl | cases hb
    rw[e]at q;exact bN q
   | true=>
    have ex:∃c,t=.bl c:=by cases t <;> first | exact%[_|U] | cases hb
    obtain⟨c,rfl⟩:=ex;obtain⟨y,hy⟩:∃y,rs[i.toNat]?=some y:=%[rs[i.toNat]'⋯|by simp[show i.toNat < rs.length by lia]]
    obtain⟨k,hk,a,rfl,ha⟩:=G8 h3 hy;have e:iH ks (.int i) (.bl c)=(!c || bv k):=by change(decide (0<=i) && match ks[i.toNat]? with | some k=>(!c || bv k) | none=>false)=_;rw[hk,Ny i0,Bool.true_and]
    rw[e]at q;show aV %[_,rfl,c,rfl,_,rfl|?_];show cx (λ d=>?_) (λ d=>?_)
    ·rw[d,Bool.true_or]at q;exact q
    ·have d':(!c)=false:=by simpa using d
     rw[d',Bool.false_or]at q;have at':atI rs i=↑a:=by
      have en:ixN rs.length i=some i.toNat:=by unfold ixN;rw[Nw i0,Nw ⋯]
      unfold atI;rw[en];exact hy
     exact%[_,U,s,C,dx,_,_,U,h1,T.cl,T.nK,dU _ _,_,U,r,rs,i,_,U,U,G5 h2,at',a,k,U,ha|q]
def xf(k:Kd)(c:Bool):No V:=if c=true then[.int k.h,.int k.w]else[.int k.w,.int k.h]
inductive spSides(K:C6)(C:Nj)(vs:No V)(H:Hp)(Q:VK)(E_:XK):Prop
|mk(s:Nj)(b:Int)(ks:No Kd)(x t:V)(T UU0:String)(_:vs=[.ref s,x,t])(_:ShopAt C H s b ks)(_:Ty K H x T)(_:Ty K H t UU0)(_:iH ks x t=true)(_:∀(i:Int)(c:Bool)(k:Kd)(p:Nj),x=.int i->t=.bl c->ks[i.toNat]?=some k->iH ks x t=true->H p=none->Q (.ref p) (upd H p (.tup (xf k c))))
theorem tR{ks:No Kd}{x t:V}(h:iH ks x t=true):∃(i:Int)(c:Bool)(k:Kd),x=.int i/\t=.bl c/\0<=i/\ks[i.toNat]?=some k:=by
 unfold iH at h
 split at h
 ·rename_i i c
  rw[MT]at h;obtain⟨h1,h2⟩:=h
  split at h2
  ·rename_i k hk
   exact%[i,c,k,U,U,C2 h1|hk]
  ·cases h2
 ·cases h
theorem AY{rs:No V}{i:Int}{v:V}(i0:0<=i)(h:rs[i.toNat]?=some v):atI rs i=some v:=by
 have en:ixN rs.length i=some i.toNat:=by unfold ixN;have:=(A7.mp h).1;rw[Nw i0,Nw ⋯]
 unfold atI;rw[en];exact h
theorem scSides:FnScope ["self","kind","turned","row"] O2 (defScope eO):=%[U,U,U,∅,U,∅|∅]
theorem xg{f C:Nj}{fd:G1}(F:Fun K "sides" "Shop.sides" eO f fd)(T:ShopTxt K C)(ML:Mn P w K mg base C "is_lying" O2 2 (fL K C)) :
  FnOk P w K mg base CX0 3 f fd O2 (spSides K C):=by
 exists scSides;obtain⟨s,b,ks,x,t,T0,UU0,rfl,S,tx,tt,he,hq⟩:=h;show⟨_,af (aP (aY (aR (we '0' T.cl ML hr (ad '1' (ad '2' ae))))) (ah gG) ay)
  (af (aE (i:=3) nd rfl (Or.inl rfl) (aB aD (iC '0' rfl) '1' (λ _ _=>rfl)))
  (af (aP (aR '2') (ah (ar (aJ (ad (aB aD '3' ag (λ _ _=>rfl)) (ad (aB aD '3' ag (λ _ _=>rfl)) ae))))) ay)
  (ah (ar (aJ (ad (aB aD '3' ag (λ _ _=>rfl)) (ad (aB aD '3' ag (λ _ _=>rfl)) ae))))))),?_⟩
 obtain⟨dx,r,rs,h1,h2,h3⟩:=id S;show%[_,U,s,dx,_,U,h1,cX _ _ ∅ ∅,_,U,_,U,s,b,ks,x,t,T0,UU0,U,S,tx,tt,_,U|?_];cases hl:iH ks x t with
 | false=>rw[hl]at he;cases he
 | true=>
  obtain⟨i,c,k,rfl,rfl,i0,hk⟩:=tR hl;have xT:=E6 h3;have hik:=(A7.mp hk).1;obtain⟨y,hy⟩:∃y,rs[i.toNat]?=some y:=%[rs[i.toNat]'⋯|by simp[show i.toNat < rs.length by lia]]
  obtain⟨k',hk',a,rfl,ha⟩:=G8 h3 hy;rw[hk]at hk';obtain rfl:=C0 hk';show aV ?_;show%[_,U,s,C,dx,_,_,U,h1,T.cl,T.nK,dU _ _,_,U,r,rs,i,_,U,U,G5 h2,AY i0 hy|?_];show%[_,U,_,U|?_];cases c with
  | true=>
   show bN ?_;show%[_,U,a,_,1,_,U,U,G5 ha,U,_,U,a,_,0,_,U,U,G5 ha,U,zS2|λ p hp=>?_];exact hq i true k p rfl rfl hk hl hp
  | false=>
   show aV ?_;show%[_,U,a,_,0,_,U,U,G5 ha,U,_,U,a,_,1,_,U,U,G5 ha,U,zS2|λ p hp=>?_];exact hq i false k p rfl rfl hk hl hp
def sd1(k:Kd)(c:Bool):Int:=if c=true then k.h else k.w
def sd2(k:Kd)(c:Bool):Int:=if c=true then k.w else k.h
theorem xh(k:Kd)(c:Bool):xf k c=[.int (sd1 k c),.int (sd2 k c)]:=by cases c <;> rfl
def fits(k:Kd)(c:Bool)(w h:Int):Bool:=decide (sd1 k c<=w) && decide (sd2 k c<=h)
inductive spCP(vs:No V)(H:Hp)(Q:VK)(E_:XK):Prop
|mk(w h:Int)(_:vs=[.int w,.int h])(_:1<=w)(_:1<=h)(_:Q .non H)
inductive spCS(vs:No V)(H:Hp)(Q:VK)(E_:XK):Prop
|mk(w h m:Int)(_:vs=[.int w,.int h,.int m])(_:w<=m)(_:h<=m)(_:Q .non H)
inductive spLies(C:Nj)(vs:No V)(H:Hp)(Q:VK)(E_:XK):Prop
|mk(s:Nj)(b:Int)(ks:No Kd)(w h i:Int)(c:Bool)(k:Kd)(_:vs=[.ref s,.int w,.int h,.int i,.bl c,.int 0,.int 0])(_:ShopAt C H s b ks)(_:iH ks (.int i) (.bl c)=true)(_:ks[i.toNat]?=some k)(_:∀H',Same H H'->Q (.bl (fits k c w h)) H')
theorem sccplate:FnScope O3 O3 (defScope dE):=%[U,U,U,∅,U,∅|∅]
theorem tT{f:Nj}{fd:G1}(F:Fun K "check_plate" "check_plate" dE f fd)(DW:Dn P w K mg base "is_whole" Ow 1 (fK K)):FnOk P w K mg base CX0 2 f fd O3 (spCP):=by
 exists sccplate;obtain⟨w1,h1,rfl,hw,hh,q⟩:=h;show%[_,(@ah _ _ _ ((PW.pt (cj (@aY _ _ _ _ (@aR _ _ _ (DW∪('0'^^^(ag^^^ae))) (by intro _;rfl))) (bT (@aY _ _ _ _ (@aR _ _ _ (DW∪('1'^^^(ag^^^ae))) (by intro _;rfl))))))<|>(@ah _ _ _ gG)<|>ay))|?_];show%[_,U,.int w1,"int",1,U,Ty.int,_,U|?_];rw[show bM (.int w1) 1=true from Ny hw];show aV %[_,rfl,.int h1,"int",1,rfl,Ty.int,_,rfl|?_];rw[show bM (.int h1) 1=true from Ny hh];exact aV q
theorem sccsides:FnScope O4 O4 (defScope dF):=%[U,U,U,∅,U,∅|∅]
theorem tU{f:Nj}{fd:G1}(F:Fun K "check_sides" "check_sides" dF f fd) : FnOk P w K mg base CX0 1 f fd O4 (spCS):=by
 exists sccsides;obtain⟨w1,h1,m,rfl,hw,hh,q⟩:=h;show%[_,(@ah _ _ _ ((PW.pt (cj ('0'<*>gH<*>'2') (bT ('1'<*>gH<*>'2'))))<|>(@ah _ _ _ gG)<|>ay))|?_];show%[_,U,_,U,_,_,U,U,_,U|?_];rw[N3 (show¬ m < w1 by lia)];show aV %[_,rfl,_,rfl,_,_,rfl,rfl,_,rfl|?_];rw[N3 (show¬ m < h1 by lia)];exact aV q
theorem sclies:FnScope ["shop","wide","high","kind","turned","x","y","piece_wide","piece_high"] O5 (defScope jv):=%[U,U,U,∅,U,∅|∅]
theorem zj{f C:Nj}{fd:G1}(F:Fun K "lies_in" "lies_in" jv f fd)(T:ShopTxt K C)(DW:Dn P w K mg base "is_whole" Ow 1 (fK K))(MI:Mn P w K mg base C "is_lying" O2 2 (fL K C))(MS:Mn P w K mg base C "sides" O2 3 (spSides K C)):FnOk P w K mg base CX0 4 f fd O5 (spLies C):=by
 exists sclies;obtain⟨s,b,ks,w,h,i,c,k,rfl,S,ly,hk,q⟩:=h;have hr1:=hr.mono (show 1<=3 by decide);have hr2:=hr.mono (show 2<=3 by decide);show%[_,(((PW.pt (cj (@aY _ _ _ _ (@aR _ _ _ (we '0' T.cl MI hr2 ('3'^^^('4'^^^ae))) (by intro _;rfl))) (cj (@aY _ _ _ _ (@aR _ _ _ (@av _ _ _ _ _ _ _ _ _ _ DW hr1 U ('5'^^^(ag^^^ae)) ∅ U U) (by intro _;rfl))) (bT (@aY _ _ _ _ (@aR _ _ _ (@av _ _ _ _ _ _ _ _ _ _ DW hr1 U ('6'^^^(ag^^^ae)) ∅ U U) (by intro _;rfl)))))))<|>(dR⁻¹)<|>ay)<<<((@cR _ _ _ _ _ _ (we '0' T.cl MS hr ('3'^^^('4'^^^ae))) (bO U (7•(8•bi))) U U U)<<<((di (@bd _ _ _ _ _ _ _ _ jG ('5'|||be|||'7') '1' (ax _)) (dO (@bd _ _ _ _ _ _ _ _ jG ('6'|||be|||'8') '2' (ax _))))⁻¹)))|?_];dsimp only[bW];obtain⟨dx,r,rs,h1,h2,h3⟩:=id S;show%[_,U,s,dx,_,U,h1,cX _ _ ∅ ∅,_,U,_,U,s,b,ks,.int i,.bl c,"int","bool",U,S,Ty.int,Ty.bl,_,U|?_];rw[ly];show aV %[_,rfl,.int 0,"int",0,rfl,Ty.int,_,rfl|aV %[_,rfl,.int 0,"int",0,rfl,Ty.int,_,rfl|aV ?_]];show%[_,U,s,dx,_,U,h1,cX _ _ ∅ ∅,_,U,_,U,s,b,ks,.int i,.bl c, "int", "bool",U,S,Ty.int,Ty.bl,ly|λ i' c' k' p e1 e2 hk' _ hp=>?_];cases e1;cases e2;rw[hk]at hk';cases hk';rw[xh];have q1:=q _ (G4 hp (o:=.tup [.int (sd1 k c),.int (sd2 k c)]));show%[p,_,U,G5 ai,U,_,_,U,_,_,U,U|?_];show%[_,U,_,U,_,_,U,U,_,U,_,_,U,U,_,U|?_];unfold fits at q1;show cx (λ cc=>?_) (λ cc=>?_)
 ·show%[_,U,_,U,_,_,U,U,_,U,_,_,U,U|?_];rw[Int.zero_add]at cc ⊢;rw[cc]at q1;exact q1
 ·rw[Int.zero_add]at cc;rw[show decide (sd1 k c<=w)=false by simpa using cc]at q1;exact q1
theorem gY{a b c:St}(h1:leS a b)(h2:leS b c):leS a c:=%[h2.1.trans h1.1|λ i v e=>h2.2 i v (h1.2 i v e)]
theorem zk{i:Nat}{k:Kd}{q:Nat×Bool}(h:q∈lyT i k):q.1=i/\(q.2=false\/bv k=true):=by
 unfold lyT at h;rcases J3.mp h with rfl | h
 ·exact%[U|.inl rfl]
 ·by_cases c:bv k=true
  ·rw[Nw c]at h;rw[E5.mp h];exact%[U|.inr c]
  ·rw[Nv c]at h;simp at h
theorem jA:∀{ks:No Kd}{i:Nat}{q:Nat×Bool},q∈lyK ks i->i<=q.1/\∃k,ks[q.1 - i]?=some k/\(q.2=false\/bv k=true)
 | [],_,_,h=>by simp[lyK]at h
 | k :: r,i,q,h=>by
  rcases C4.mp h with h | h
  ·obtain⟨h1,h2⟩:=zk h;exact%[⋯,k,by rw[h1,Nat.sub_self];rfl|h2]
  ·obtain⟨h1,k',h2,h3⟩:=jA h;show%[⋯,k',?_|h3];rw[show q.1 - i=(q.1 - (i+1))+1 by lia];exact h2
theorem rR{ks:No Kd}{q:Nat×Bool}(h:q∈lyK ks 0):iH ks (.int q.1) (.bl q.2)=true/\∃k,ks[q.1]?=some k:=by
 obtain⟨_,k,h2,h3⟩:=jA h;rw[Nat.sub_zero]at h2;show%[?_,k|h2];unfold iH;simp only[MF,h2,MT];show%[B1 ⋯|?_];rcases h3 with e | e
 ·rw[e];rfl
 ·rw[e,Bool.or_true]
def gx(ks:No Kd)(w h:Int)(q:Nat×Bool):Bool:=match ks[q.1]? with
 | some k=>fits k q.2 w h
 | none=>false
inductive spLyIn(C:Nj)(vs:No V)(H:Hp)(Q:VK)(E_:XK):Prop
|mk(s t:Nj)(b:Int)(ks:No Kd)(w h:Int)(_:vs=[.ref s,.ref t])(_:ShopAt C H s b ks)(_:ks.length<=8)(_:H t= ~~~[.int w,.int h])(_:∀(l:Nj)(ys:No V)(H':Hp),H l=none->H' l=↥ys->Lys H' ys ((lyK ks 0).filter (gx ks w h))->Same H H'->Q (.ref l) H')
theorem sclyin:FnScope ["shop","part","wide","high"] O6 (defScope ed):=%[U,U,U,∅,U,∅|∅]
theorem zo{f C:Nj}{fd:G1}(F:Fun K "lyings_in" "lyings_in" ed f fd)(T:ShopTxt K C)(ML:Mn P w K mg base C "lyings" O1 2 (jQ C))(DLI:Dn P w K mg base "lies_in" O5 4 (spLies C)):FnOk P w K mg base CX0 5 f fd O6 (spLyIn C):=by
 exists sclyin;obtain⟨s,t,b,ks,w,h,rfl,S,k8,ht,q⟩:=h;have hr2:=hr.mono (show 2<=4 by decide);show%[_,((@cR _ _ _ _ _ _ '1' (bO U (au (am (i:=2) nd U (Or.inr U)) (au (am (i:=3) nd U (Or.inr U)) bi))) U U U)<<<((aX (own:=O7) (cs:=O8) (cap:=[0,2,3]) U (bj (iG '0' T.cl ML hr2)) (az (sc:=defScope ed) (N:=["shop","part","wide","high"]) U U ∅) (λ _ _ _ _ _=>cU K U U (by change List.Nodup (["kind","turned","shop","wide","high"]:No Str) ;decide +kernel) U U U U) (λ _ _ _ _ _=>(jK (@aR _ _ _ (DLI∪('2'^^^('3'^^^('4'^^^('0'^^^('1'^^^(ag^^^(ag^^^ae)))))))) (by intro _;rfl)))) (λ _ _ _ _ _=>(@aJ _ _ _ _ _ ('0'^^^('1'^^^ae)))))⁻¹))|?_];dsimp only[bW];have sz:(100:Nat) < sizeLine:=∅
 obtain⟨dx,r,rs,h1,h2,h3⟩:=id S;show%[_,U,t,_,U,G5 ht,U,_,_,U,_,_,U,U|?_];show%[_,U,s,dx,_,U,h1,cX _ _ ∅ ∅,s,b,ks,U,S,k8|λ l1 ys H1 hl1 l1' ly s1=>?_];have lyl:=mQ ks 0;have ylen:=E6 ly;show%[l1,U,%[_|G6 l1']|(bu (K:=K) (.inl l1') (λ i zs H4=>Same H1 H4/\zs.length<=i/\Lys H4 zs (((lyK ks 0).take i).filter (gx ks w h))) (λ i zs H4 _ ⟨s4,_⟩ o e=>s4 _ _ e) %[Same.refl _,B4 _|.nil] ?_ ?_).1 l1']
 ·rintro i y zs H4 hi ⟨s4,zl,lz⟩;have hin:i < ys.length:=(A7.mp hi).1;obtain⟨qq,hq,a,rfl,ha⟩:=G8 ly hi;obtain⟨li,k,hk⟩:=rR (B7 hq);show%[⋯,a,_,U,G5 (s4 _ _ ha),U,_,_,U,_,_,U,U|?_];show%[gY (leS.set rfl) (leS.set rfl)|?_];have S4:ShopAt C H4 s b ks:=S.keep (λ c o e=>s4 _ _ (s1 _ _ e)) (λ c C' d fs e=>s4 _ _ (s1 _ _ e));show%[_,U,_,U,_,U,_,U,_,U,s,b,ks,w,h,(qq.1:Int),qq.2,k,U,S4,li,(by rw[MF];exact hk)|λ H5 s5=>%[_,U|?_]];have st:((lyK ks 0).take (i+1)).filter (gx ks w h)=((lyK ks 0).take i).filter (gx ks w h) ++ (if fits k qq.2 w h=true then[qq]else[]):=by rw[K6,hq,List.filter_append];simp only[K9,List.filter_cons,List.filter_nil];rw[show gx ks w h qq=fits k qq.2 w h by unfold gx;rw[hk]]
  dsimp only;show cx (λ cc=>?_) (λ cc=>?_)
  ·rw[cc,Nw rfl]at st;show%[_,U,_,U,zS2|λ p hp=>Nx.of hin %[(s4.trans s5).trans (G4 hp),by rw[K4];change _+1<=_;lia|?_]];rw[st];show Paired.snoc (Lys.keep (λ c o e=>?_) lz) %[p,rfl|ai];have e5:=s5 _ _ e;rw[ak (aj e5 hp)];exact e5
  ·rw[Nv cc,MR]at st;show Nx.of hin %[s4.trans s5,⋯|?_];rw[st];exact Lys.keep (λ c o e=>s5 _ _ e) lz
 ·rintro zs H4 ⟨s4,zl,lz⟩;rw[ylen,MG]at lz;show%[⋯|λ p hp=>q p zs _ ((s1.trans s4).free hp) ai (Lys.keep (λ c o e=>?_) lz) ((s1.trans s4).trans (G4 hp))];rw[ak (aj e hp)];exact e
def PtAt(H:Hp)(v:V)(p:Int×Int):Prop:=∃q,v=.ref q/\H q= ~~~[.int p.1,.int p.2]
theorem PtAt.keep{H H':Hp}(s:Same H H'){v:V}{p:Int×Int}(h:PtAt H v p):PtAt H' v p:=by obtain⟨q,e,h⟩:=h;exact%[q,e|s _ _ h]
def kC(a:Int)(n:Nat):No (Int×Int):=(List.range n).map λ (c:Nat)=>(a,1+(c:Int))
def aU(m n:Nat):No (Int×Int):=(List.range m).flatMap λ (a:Nat)=>kC (1+(a:Int)) n
theorem oA(a:Int)(n:Nat):(kC a n).length=n:=by unfold kC;rw[B5,Mj]
theorem dM(m n:Nat):aU (m+1) n=aU m n ++ kC (1+(m:Int)) n:=by unfold aU;rw[List.range_succ,NH];simp
theorem lS(a:Int)(n:Nat):kC a (n+1)=kC a n ++ [(a,1+(n:Int))]:=by
 unfold kC;rw[List.range_succ,J4]
 rfl
theorem eP(m n:Nat):(aU m n).length=m * n:=by
 induction m with
 | zero=>simp[aU]
 | succ m ih=>rw[dM,K4,ih,oA,Nat.succ_mul]
inductive spParts(vs:No V)(H:Hp)(Q:VK)(E_:XK):Prop
|mk(m n:Nat)(_:vs=[.int m,.int n])(_:m<=16)(_:n<=16)(_:∀(l:Nj)(ys:No V)(H':Hp),H' l=↥ys->Paired (PtAt H') ys (aU m n)->Same H H'->Q (.ref l) H')
theorem scparts:FnScope O3 O3 (defScope du):=%[U,U,U,∅,U,∅|∅]
theorem xi{f:Nj}{fd:G1}(F:Fun K "parts_up_to" "parts_up_to" du f fd)(B:Blt mg):FnOk P w K mg base CX0 1 f fd O3 (spParts):=by
 exists scparts;obtain⟨m,n,rfl,m16,n16,q⟩:=h;show%[_,((wC (own:=["a","b"]) (cs:=["high"]) (cap:=[1]) U (lc U B.range (ag^^^(('0'|||be|||ag)^^^ae))) (az (sc:=defScope du) (N:=O3) U U ∅) (λ _ _ _ _ _=>am (i:=0) (by change List.Nodup (["a","b","high"]:No Str) ;decide +kernel) U (Or.inl U) (Or.inr U)) (λ _ _ _ _ _=>aK) (λ _ _ _ _ _=>(lc U B.range (ag^^^(('2'|||be|||ag)^^^ae)))) (λ _ _ _ _ _=>am (i:=1) (by change List.Nodup (["a","b","high"]:No Str) ;decide +kernel) U (Or.inl U) (Or.inr U)) (λ _ _ _ _ _=>aK) (λ _ _ _ _ _=>(@aJ _ _ _ _ _ ('0'^^^('1'^^^ae)))))⁻¹)|?_];have z4:4096<=sizeLine:=∅
 show%[_,U,_,_,U,U,1,_,U,%[∅,∅,by change -(2 ^ 62)<=(m:Int)+1;lia|by change(m:Int)+1 < 2 ^ 62;lia]|?_];have em:((m:Int)+1 - 1).toNat=m:=⋯
 change∃W,_/\mX _ _ _ (Itr 1 ((m:Int)+1 - 1).toNat) _ _ _ _ _ _ _ W;rw[em];show tD (lo:=1) (n:=m) (λ i ys Hx=>Same H Hx/\Paired (PtAt Hx) ys (aU i n)) %[Same.refl _|.nil] ?_ ?_
 ·rintro i ys Hx hi ⟨sx,py⟩;show%[leS.set rfl|aL ?_];show%[_,U,_,_,U,U,1,_,U,%[∅,∅,by change -(2 ^ 62)<=(n:Int)+1;lia|by change(n:Int)+1 < 2 ^ 62;lia]|?_];have en:((n:Int)+1 - 1).toNat=n:=⋯
  change∃W2,_/\jX _ (Itr 1 ((n:Int)+1 - 1).toNat) _ _ _ _ W2;rw[en];show AG (lo:=1) (n:=n) (λ j zs Hy=>Same H Hy/\Paired (PtAt Hy) zs (aU i n ++ kC (1+(i:Int)) j)) %[sx|by change Paired _ _ (_ ++ []);rw[MR];exact py] ?_ ?_
  ·rintro j zs Hy hj ⟨sy,pz⟩;have pl:=E6 pz;rw[K4,eP,oA]at pl;have:i * n<=16 * 16:=Nb ⋯ ⋯;show%[⋯,leS.set rfl|aL ?_];show%[_,U,_,U,zS2|λ t ht=>?_];show aF ht λ Hz k1 s1=>?_;show Nx.of hj %[sy.trans s1|?_];rw[lS,<- MA];exact Paired.app (G7 pz λ v p h=>h.keep s1) (.cons %[t,U|k1] .nil)
  ·rintro zs Hy ⟨sy,pz⟩;show Nx.of hi %[sy|?_];rw[dM];exact pz
 ·rintro ys Hx ⟨sx,py⟩;have pl:=E6 py;rw[eP]at pl;have:m * n<=16 * 16:=Nb ⋯ ⋯;show%[⋯|λ l hl=>?_];show aF hl λ Hz k2 s2=>?_;exact q l ys Hz k2 (G7 py λ v p h=>h.keep s2) (sx.trans s2)
structure BeC(mg:Str->Nm Value):Prop where
 dn:∃t,mg "DOWN" = some (.str "down" t)
 rs:∃t,mg "REST" = some (.str "rest" t)
 pc:∃t,mg "PIECE" = some (.str "piece" t)
 ac:∃t,mg "ACROSS" = some (.str "across" t)
abbrev wv(dn:Bool):V:=.str (if dn=true then "down" else "across")
def WpAt(H:Hp)(v:V)(x:Bool×Int):Prop:=∃q,v=.ref q/\H q= ~~~[wv x.1,.int x.2]
theorem WpAt.keep{H H':Hp}(s:Same H H'){v:V}{x:Bool×Int}(h:WpAt H v x):WpAt H' v x:=by obtain⟨q,e,h⟩:=h;exact%[q,e|s _ _ h]
def wpL(dn:Bool)(n:Nat):No (Bool×Int):=(List.range n).map λ (j:Nat)=>(dn,1+(j:Int))
theorem gZ(dn:Bool)(n:Nat):(wpL dn n).length=n:=by unfold wpL;rw[B5,Mj]
theorem oB(dn:Bool)(n:Nat):wpL dn (n+1)=wpL dn n ++ [(dn,1+(n:Int))]:=by
 unfold wpL;rw[List.range_succ,J4]
 rfl
def cH(b w h:Int):No (Bool×Int):=wpL true (w - b - 1).toNat ++ wpL false (h - b - 1).toNat
def cI(w h:Int)(x:Bool×Int):Int×Int:=if x.1=true then(x.2,h)else(w,x.2)
def cK(b w h:Int)(x:Bool×Int):Int×Int:=if x.1=true then(w - x.2 - b,h)else(w,h - x.2 - b)
def CutAt(b w h:Int)(H:Hp)(v:V)(x:Bool×Int):Prop:=∃q t1 t2,v=.ref q/\H q= ~~~[wv x.1,.int x.2,.ref t1,.ref t2]/\H t1= ~~~[.int (cI w h x).1,.int (cI w h x).2]/\H t2= ~~~[.int (cK b w h x).1,.int (cK b w h x).2]
theorem CutAt.keep{b w h:Int}{H H':Hp}(s:Same H H'){v:V}{x:Bool×Int}(c:CutAt b w h H v x):CutAt b w h H' v x:=by obtain⟨q,t1,t2,e,h1,h2,h3⟩:=c;exact%[q,t1,t2,e,s _ _ h1,s _ _ h2|s _ _ h3]
inductive spParts2(vs:No V)(H:Hp)(Q:VK)(E_:XK):Prop
|mk(b w h p:Int)(t:Nj)(dn:Bool)(_:vs=[.int b,.ref t,.str (if dn=true then "down" else "across"),.int p])(_:H t= ~~~[.int w,.int h])(_:∀(u t1 t2:Nj)(H':Hp),H' u= ~~~[.ref t1,.ref t2]->H' t1= ~~~(if dn=true then[.int p,.int h]else[.int w,.int p])->H' t2= ~~~(if dn=true then[.int (w - p - b),.int h]else[.int w,.int (h - p - b)])->Same H H'->Q (.ref u) H')
inductive spCuts(vs:No V)(H:Hp)(Q:VK)(E_:XK):Prop
|mk(b w h:Int)(t:Nj)(_:vs=[.int b,.ref t])(_:H t= ~~~[.int w,.int h])(_:w<=16)(_:h<=16)(_:0<=b)(_:∀(l:Nj)(ys:No V)(H':Hp),H' l=↥ys->Paired (CutAt b w h H') ys (cH b w h)->Same H H'->Q (.ref l) H')
theorem scparts2:FnScope ["blade","part","way","p","wide","high"] O9 (defScope fQ):=%[U,U,U,∅,U,∅|∅]
theorem tV{f:Nj}{fd:G1}(F:Fun K "cut_parts" "cut_parts" fQ f fd)(Z:BeC mg):FnOk P w K mg base CX0 1 f fd O9 (spParts2):=by
 exists scparts2;obtain⟨b,w1,h1,p1,t,dn,rfl,ht,q⟩:=h;obtain⟨tdn,hdn⟩:=Z.dn;show%[_,((@cR _ _ _ _ _ _ '1' (bO U (4•(5•bi))) U U U)<<<((('2'<*>dj<*>(cu (v:=.str "down") U hdn %[tdn|U]))<|>((@aJ _ _ _ _ _ ((@aJ _ _ _ _ _ ('3'^^^('5'^^^ae)))^^^((@aJ _ _ _ _ _ ((('4'|||bU|||'3')|||bU|||'0')^^^('5'^^^ae)))^^^ae)))⁻¹)<|>ay)<<<((@aJ _ _ _ _ _ ((@aJ _ _ _ _ _ ('4'^^^('3'^^^ae)))^^^((@aJ _ _ _ _ _ ('4'^^^((('5'|||bU|||'3')|||bU|||'0')^^^ae)))^^^ae)))⁻¹)))|?_];dsimp only[bW];show%[_,U,t,_,U,G5 ht,U,_,_,U,_,_,U,U|?_];cases dn with
 | true=>
  show%[_,U,U,_,U|bN ?_];show%[_,U,_,U,zS2|λ t1 h1'=>?_];have sa:Same H (upd H t1 (.tup [.int p1,.int h1])):=G4 h1';have ka:(upd H t1 (.tup [.int p1,.int h1])) t1= ~~~[.int p1,.int h1]:=ai;generalize upd H t1 (.tup [.int p1,.int h1])=Ha at sa ka ⊢;show%[_,U,_,U,_,_,U,U,_,U,_,_,U,U,_,U,zS2|λ t2 h2'=>?_];have sb:Same Ha (upd Ha t2 (.tup [.int (w1 - p1 - b),.int h1])):=G4 h2';have kb:(upd Ha t2 (.tup [.int (w1 - p1 - b),.int h1])) t2= ~~~[.int (w1 - p1 - b),.int h1]:=ai;generalize upd Ha t2 (.tup [.int (w1 - p1 - b),.int h1])=Hb at sb kb ⊢;show%[zS2|λ u hu=>?_];have sc:Same Hb (upd Hb u (.tup [.ref t1,.ref t2])):=G4 hu;have kc:(upd Hb u (.tup [.ref t1,.ref t2])) u= ~~~[.ref t1,.ref t2]:=ai;generalize upd Hb u (.tup [.ref t1,.ref t2])=Hc at sc kc ⊢;exact q u t1 t2 Hc kc (sc _ _ (sb _ _ ka)) (sc _ _ kb) ((sa.trans sb).trans sc)
 | false=>
  show%[_,U,U,_,U|aV ?_];show%[_,U,_,U,zS2|λ t1 h1'=>?_];have sa:Same H (upd H t1 (.tup [.int w1,.int p1])):=G4 h1';have ka:(upd H t1 (.tup [.int w1,.int p1])) t1= ~~~[.int w1,.int p1]:=ai;generalize upd H t1 (.tup [.int w1,.int p1])=Ha at sa ka ⊢;show%[_,U,_,U,_,U,_,_,U,U,_,U,_,_,U,U,zS2|λ t2 h2'=>?_];have sb:Same Ha (upd Ha t2 (.tup [.int w1,.int (h1 - p1 - b)])):=G4 h2';have kb:(upd Ha t2 (.tup [.int w1,.int (h1 - p1 - b)])) t2= ~~~[.int w1,.int (h1 - p1 - b)]:=ai;generalize upd Ha t2 (.tup [.int w1,.int (h1 - p1 - b)])=Hb at sb kb ⊢;show%[zS2|λ u hu=>?_];have sc:Same Hb (upd Hb u (.tup [.ref t1,.ref t2])):=G4 hu;have kc:(upd Hb u (.tup [.ref t1,.ref t2])) u= ~~~[.ref t1,.ref t2]:=ai;generalize upd Hb u (.tup [.ref t1,.ref t2])=Hc at sc kc ⊢;exact q u t1 t2 Hc kc (sc _ _ (sb _ _ ka)) (sc _ _ kb) ((sa.trans sb).trans sc)
theorem sccuts:FnScope PB PD (defScope eM):=%[U,U,U,∅,U,∅|∅]
theorem zp{f:Nj}{fd:G1}(F:Fun K "cuts_of" "cuts_of" eM f fd)(B:Blt mg)(Z:BeC mg)(DP:Dn P w K mg base "cut_parts" O9 1 (spParts2)):FnOk P w K mg base CX0 2 f fd PD (spCuts):=by
 exists sccuts;obtain⟨b,w1,h1,t,rfl,ht,w16,h16,b0,q⟩:=h;obtain⟨tdn,hdn⟩:=Z.dn;obtain⟨tac,hac⟩:=Z.ac;show%[_,((fJ (i:=2) (own:=["p"]) (cs:=[]) (cap:=[]) U nd U U U (jZ U B.range (ag^^^((('1'&&&aD&&&ag)|||bU|||'0')^^^ae))) (az (sc:=defScope eM) (N:=PB) U U ∅) (λ _ _ _ _ _=>am (i:=0) (by change List.Nodup (["p"]:No Str) ;decide +kernel) U (Or.inl U) (Or.inr U)) (λ _ _ _ _ _=>aK) (λ _ _ _ _ _=>(@aJ _ _ _ _ _ ((cu (v:=.str "down") U hdn %[tdn|U])^^^('0'^^^ae)))))<<<((fJ (i:=3) (own:=["p"]) (cs:=[]) (cap:=[]) U nd U U U (jZ U B.range (ag^^^((('1'&&&aD&&&ag)|||bU|||'0')^^^ae))) (az (sc:=defScope eM) (N:=PB) U U ∅) (λ _ _ _ _ _=>am (i:=0) (by change List.Nodup (["p"]:No Str) ;decide +kernel) U (Or.inl U) (Or.inr U)) (λ _ _ _ _ _=>aK) (λ _ _ _ _ _=>(@aJ _ _ _ _ _ ((cu (v:=.str "across") U hac %[tac|U])^^^('0'^^^ae)))))<<<((aX (own:=["way","p"]) (cs:=PD) (cap:=[0,1]) U (bj ('2'|||mH|||'3')) (az (sc:=defScope eM) (N:=PB) U U ∅) (λ _ _ _ _ _=>cU K U U (by change List.Nodup (["way","p","blade","part"]:No Str) ;decide +kernel) U U U U) (λ _ _ _ _ _=>aK) (λ _ _ _ _ _=>(aH (r:=zU K) qO (@aJ _ _ _ _ _ ('0'^^^('1'^^^ae))) (DP∪('2'^^^('3'^^^('0'^^^('1'^^^ae))))))))⁻¹)))|?_];dsimp only[bW];have z4:4096<=sizeLine:=∅
 have wn:(w1 - b - 1).toNat<=16:=⋯
 have hn:(h1 - b - 1).toNat<=16:=⋯
 show ao (λ R=>∀(dl:Nj)(ys:No V)(H':Hp),H' dl=↥ys->Paired (WpAt H') ys (wpL true (w1 - b - 1).toNat)->Same H H'->R [⇑b,↑t,↑dl,none] H') (λ Dd hR=>?_) ?_
 ·show%[_,U,t,_,0,_,U,U,G5 ht,U,_,U,_,_,U,U,1,_,U,%[∅,∅|by change w1 - b < 2 ^ 62;lia]|?_];change∃W,_/\eS _ _ _ (Itr 1 (w1 - b - 1).toNat) _ _ _ _ W;generalize(w1 - b - 1).toNat=n at *;show jW (lo:=1) (n:=n) (λ i ys Hx=>Same H Hx/\Paired (WpAt Hx) ys (wpL true i)) %[Same.refl _|.nil] ?_ ?_
  ·rintro i ys Hx hi ⟨sx,py⟩;have pl:=E6 py;rw[gZ]at pl;show%[⋯,leS.set rfl|aL ?_];show%[_,U,zS2|λ q' hq=>?_];show aF hq λ Hy k9 s9=>?_;show Nx.of hi %[sx.trans s9|?_];rw[oB];exact Paired.app (G7 py λ v p h=>h.keep s9) (.cons %[q',U|k9] .nil)
  ·rintro ys Hx ⟨sx,py⟩;have pl:=E6 py;rw[gZ]at pl;show%[⋯|λ l hl=>?_];show aF hl λ Hy k9 s9=>?_;exact hR l ys _ k9 (G7 py λ v p h=>h.keep s9) (sx.trans s9)
 rintro dl ys H1 kd pd s1;show ao (λ R=>∀(al:Nj)(zs:No V)(H':Hp),H' al=↥zs->Paired (WpAt H') zs (wpL false (h1 - b - 1).toNat)->Same H1 H'->R [⇑b,↑t,↑dl,↑al] H') (λ Dd hR=>?_) ?_
 ·show%[_,U,t,_,1,_,U,U,G5 (s1 _ _ ht),U,_,U,_,_,U,U,1,_,U,%[∅,∅|by change h1 - b < 2 ^ 62;lia]|?_];change∃W,_/\eS _ _ _ (Itr 1 (h1 - b - 1).toNat) _ _ _ _ W;generalize(h1 - b - 1).toNat=n at *;show jW (lo:=1) (n:=n) (λ i ys Hx=>Same H1 Hx/\Paired (WpAt Hx) ys (wpL false i)) %[Same.refl _|.nil] ?_ ?_
  ·rintro i ys Hx hi ⟨sx,py⟩;have pl:=E6 py;rw[gZ]at pl;show%[⋯,leS.set rfl|aL ?_];show%[_,U,zS2|λ q' hq=>?_];show aF hq λ Hy k9 s9=>?_;show Nx.of hi %[sx.trans s9|?_];rw[oB];exact Paired.app (G7 py λ v p h=>h.keep s9) (.cons %[q',U|k9] .nil)
  ·rintro ys Hx ⟨sx,py⟩;have pl:=E6 py;rw[gZ]at pl;show%[⋯|λ l hl=>?_];show aF hl λ Hy k9 s9=>?_;exact hR l ys _ k9 (G7 py λ v p h=>h.keep s9) (sx.trans s9)
 rintro al zs H2 ka pa s2;have s02:=s1.trans s2;have ht2:=s02 _ _ ht;have pd2:Paired (WpAt H2) ys (wpL true (w1 - b - 1).toNat):=G7 pd λ v p h=>h.keep s2;have l1:=E6 pd2;have l2:=E6 pa;rw[gZ]at l1 l2;have pc:Paired (WpAt H2) (ys ++ zs) (cH b w1 h1):=Paired.app pd2 pa;show%[_,U,_,U,dl,al,_,_,U,U,s2 _ _ kd,ka,⋯|λ cl hcl=>?_];show aF hcl λ H3 k3 s3=>?_;have pc3:Paired (WpAt H3) (ys ++ zs) (cH b w1 h1):=G7 pc λ v p h=>h.keep s3;have cl32:(ys ++ zs).length<=32:=by rw[K4];lia
 show%[cl,U,%[_|G6 k3]|(bu (K:=K) (.inl k3) (λ i us Hx=>Same H3 Hx/\Paired (CutAt b w1 h1 Hx) us ((cH b w1 h1).take i)) (λ i us Hx _ ⟨sx,_⟩ o e=>sx _ _ e) %[Same.refl _|.nil] ?_ ?_).1 k3]
 ·rintro i y us Hx hi ⟨sx,pu⟩;have hin:i < (ys ++ zs).length:=(A7.mp hi).1;obtain⟨⟨dn,p⟩,hq,a,rfl,ha⟩:=G8 pc3 hi;have ul:=E6 pu;rw[K0]at ul;have hax:=sx _ _ ha;show%[⋯,a,_,U,G5 hax,U,_,_,U,_,_,U,U|?_];show%[gY (leS.set rfl) (leS.set rfl)|aL ?_];show%[_,U,_,U,zS2|λ x hx=>?_];show aF hx λ Hy k4 s4=>?_;show%[_,U,_,U,_,U,_,U,b,w1,h1,p,t,dn,U,s4 _ _ (sx _ _ (s3 _ _ ht2))|λ u t1 t2 Hz ku k1 k2 s5=>?_];show⟨x,u,_,_,U,U,G5 (s5 _ _ k4),G5 ku,List.cons_ne_nil _ _,zS4,(λ z=>by cases z),λ _ m hm=>?_⟩;rw[show[wv dn,V.int p] ++ [V.ref t1,V.ref t2]=[wv dn,V.int p,V.ref t1,V.ref t2]from rfl];show aF hm λ Hw k6 s6=>?_;have sxw:=s4.trans (s5.trans s6);show Nx.of hin %[sx.trans sxw|?_];rw[K6,hq];show Paired.app (G7 pu λ v p h=>h.keep sxw) (.cons %[m,t1,t2,U,k6,?_|?_] .nil)
  ·cases dn <;> exact s6 _ _ k1
  ·cases dn <;> exact s6 _ _ k2
 ·rintro us Hx ⟨sx,pu⟩;have pl:=E6 pc3;rw[pl,MG]at pu;have ul:=E6 pu;show%[⋯|λ l hl=>?_];show aF hl λ Hy k7 s7=>?_;exact q l us Hy k7 (G7 pu λ v p h=>h.keep s7) (s02.trans (s3.trans (sx.trans s7)))
def bV(b:Pz):No V:=b.map V.int
def bY(n:Nat)(k:Int):Pz:=(List.range n).map λ j:Nat=>if Int.ofNat j=k then(1:Int)else 0
def cQ:Pz->Pz->Pz->Pz
 | x :: a,y :: b,z :: w=>min (x+y) z :: cQ a b w
 | _,_,_=>[]
theorem iO:∀{a b w:Pz},a.length=b.length->a.length=w.length->(cQ a b w).length=a.length
 | [],_,_,_,_=>by simp[cQ]
 | x :: a,y :: b,z :: w,h1,h2=>by simp only[K3,Nat.add_right_cancel_iff]at h1 h2;rw[cQ,K3,K3,iO h1 h2]
theorem kD:∀{a b w:Pz}{i:Nat}{x y z:Int},a[i]?=some x->b[i]?=some y->w[i]?=some z->(cQ a b w)[i]?=some (min (x+y) z)
 | x :: a,y :: b,z :: w,0,_,_,_,h1,h2,h3=>by simp only[M3,Option.some.injEq]at h1 h2 h3;subst h1 h2 h3;simp[cQ]
 | x :: a,y :: b,z :: w,i+1,_,_,_,h1,h2,h3=>by rw[cQ,List.getElem?_cons_succ];exact kD (by simpa using h1) (by simpa using h2) (by simpa using h3)
 | [],_,_,_,_,_,_,h1,_,_=>by simp at h1
 | _ :: _,[],_,_,_,_,_,_,h2,_=>by simp at h2
 | _ :: _,_ :: _,[],_,_,_,_,_,_,h3=>by simp at h3
theorem zY:∀a b:Pz,PyData.eqvAll (a.map PyData.int) (b.map PyData.int)=decide (a=b)
 | [],[]=>rfl
 | [],_ :: _=>rfl
 | _ :: _,[]=>rfl
 | x :: a,y :: b=>by
  have ih:=zY a b;have h:PyData.eqvAll ((x :: a).map PyData.int) ((y :: b).map PyData.int)=(PyData.eqv (.int x) (.int y) && PyData.eqvAll (a.map PyData.int) (b.map PyData.int)):=rfl;have e:PyData.eqv (.int x) (.int y)=decide (x=y):=by simp[PyData.eqv];rfl
  rw[h,ih,e];simp
theorem Ce(a b:Pz):PyData.eqv (.tuple (a.map PyData.int)) (.tuple (b.map PyData.int))=decide (a=b):=by rw[<- zY a b];simp[PyData.eqv]
def leB(a b:Pz):Bool:=(a.zip b).all λ p=>decide (p.1<=p.2)
def jq(a b:Pz):Bool:=!decide (a=b) && leB a b
def ei(C:Nj):Sp:=λ vs H Q _=>∃(x:Nj)(b:Int)(ks:No Kd),vs=[.ref x]/\ShopAt C H x b ks/\ks.length<=8/\∀(t:Nj)(H':Hp),H t=none->H' t= ~~~(ks.map λ k=>V.int k.wa)->Same H H'->Q (.ref t) H'
def xj(C:Nj):Sp:=λ vs H Q _=>∃(s:Nj)(b w h:Int)(ks:No Kd),vs=[.ref s,.int w,.int h]/\ShopAt C H s b ks/\ks.length<=8/\1<=w/\w<=8/\1<=h/\h<=8/\(ks.map λ k=>k.wa).sum<=6/\∀H',Same H H'->Q .non H'
def xk:Sp:=λ vs H Q _=>∃(t:Nj)(ws:Pz)(k:Int),vs=[.ref t,.int k]/\H t= ~~~(bV ws)/\ws.length<=8/\∀(a:Nj)(H':Hp),H' a= ~~~(bV (bY ws.length k))->Same H H'->Q (.ref a) H'
def xl:Sp:=λ vs H Q _=>∃(t u v:Nj)(xs ys ws:Pz),vs=[.ref t,.ref u,.ref v]/\H t= ~~~(bV xs)/\H u= ~~~(bV ys)/\H v= ~~~(bV ws)/\xs.length=ys.length/\xs.length=ws.length/\xs.length<=8/\∀(a:Nj)(H':Hp),H' a= ~~~(bV (cQ xs ys ws))->Same H H'->Q (.ref a) H'
def xn:Sp:=λ vs H Q _=>∃(t u:Nj)(xs ys:Pz),vs=[.ref t,.ref u]/\H t= ~~~(bV xs)/\H u= ~~~(bV ys)/\xs.length=ys.length/\xs.length<=8/\∀H',Same H H'->Q (.bl (jq xs ys)) H'
theorem sconeb:FnScope PF PF (defScope cD):=%[U,U,U,∅,U,∅|∅]
theorem zq{f:Nj}{fd:G1}(F:Fun K "bundle_of_one" "bundle_of_one" cD f fd)(B:Blt mg):FnOk P w K mg base CX0 1 f fd PF (xk):=by
 exists sconeb;obtain⟨t,ws,k,rfl,ht,l8,q⟩:=h;show%[_,((@aT _ _ _ _ _ _ _ _ _ aQ U B.tuple N0 ((aX (own:=["number"]) (cs:=O0) (cap:=[1]) U (fH U B.range ((@ap _ _ _ _ _ _ _ _ _ aI U B.len N6 ('0'^^^ae) ∅ ∅ U U)^^^ae)) (az (sc:=defScope cD) (N:=PF) U U ∅) (λ _ _ _ _ _=>am (i:=0) (by change List.Nodup (["number","kind"]:No Str) ;decide +kernel) U (Or.inl U) (Or.inr U)) (λ _ _ _ _ _=>aK) (λ _ _ _ _ _=>(vy ('0'<*>dj<*>'1') ag ag)))^^^ae) ∅ ∅ U U)⁻¹)|?_];dsimp only[bW];have wl:(bV ws).length=ws.length:=B5 _;have sz:(40000:Nat)<=sizeLine:=∅
 have ol:(bY ws.length k).length=ws.length:=by unfold bY;rw[B5,Mj]
 show%[_,U,t,_,U,.inr (G5 ht)|?_];rw[wl];show%[_,U,⋯,⋯|jW (lo:=0) (n:=Int.toNat (ws.length:Int)) (λ i ys Hx=>Same H Hx/\ys=((bY ws.length k).take i).map V.int) %[Same.refl _|U] ?_ ?_]
 ·rintro i ys Hx hi ⟨sx,rfl⟩;have hik:i < ws.length:=⋯
  show%[by rw[B5,K0];lia,leS.set rfl|aL ?_];have oi:(bY ws.length k)[i]?=some (if Int.ofNat i=k then(1:Int)else 0):=by unfold bY;rw[J0,List.getElem?_range hik];rfl
  have tk:∀z:Int,(if Int.ofNat i=k then(1:Int)else 0)=z->((bY ws.length k).take i).map V.int ++ [V.int z]=((bY ws.length k).take (i+1)).map V.int:=λ z hz=>by rw[K6,oi,hz];simp only[K9,J4,J6,MY]
  show%[_,U,_,U,U,_,U|?_]
  by_cases c:Int.ofNat i=k
  ·rw[show decide (V.int (0+i)=V.int k)=true from Ny (by rw[<- c,Int.zero_add];rfl)];exact bN (show Nx (Int.toNat (ws.length:Int)) (λ i ys Hx=>Same H Hx/\ys=((bY ws.length k).take i).map V.int) i (((bY ws.length k).take i).map V.int ++ [V.int 1]) Hx from Nx.of hi %[sx|tk 1 (Nw c)])
  ·rw[show decide (V.int (0+i)=V.int k)=false from N3 (λ z=>c (by injection z with z;rw[<- z,Int.zero_add];rfl))];exact aV (show Nx (Int.toNat (ws.length:Int)) (λ i ys Hx=>Same H Hx/\ys=((bY ws.length k).take i).map V.int) i (((bY ws.length k).take i).map V.int ++ [V.int 0]) Hx from Nx.of hi %[sx|tk 0 (Nv c)])
 ·rintro ys Hx ⟨sx,rfl⟩;rw[K5 ⋯];show%[by rw[B5];lia|λ cl hcl=>?_];show aF hcl λ H1 k1 s1=>?_;show%[cl,_,U|.inl %[G6 k1|λ tp htp=>?_]];exact q tp _ ai ((sx.trans s1).trans (G4 htp))
theorem scjoined:FnScope PH PH (defScope gU):=%[U,U,U,∅,U,∅|∅]
theorem tW{f:Nj}{fd:G1}(F:Fun K "joined" "joined" gU f fd)(B:Blt mg):FnOk P w K mg base CX0 1 f fd PH (xl):=by
 exists scjoined;show bX λ G9 k9=>?_;obtain⟨t,u,v,xs,ys,ws,rfl,ht,hu',hv,e1,e2,l8,q⟩:=h;show k9 ?_;show%[_,((@aT _ _ _ _ _ _ _ _ _ aQ U B.tuple N0 ((aX (own:=["few","more","most"]) (cs:=[]) (cap:=[]) U (wJ U B.zip ('0'^^^('1'^^^('2'^^^ae)))) (az (sc:=defScope gU) (N:=PH) U U ∅) (λ _ _ _ _ _=>wr K U U (by change List.Nodup (["few","more","most"]:No Str) ;decide +kernel) U U U U U U) (λ _ _ _ _ _=>aK) (λ _ _ _ _ _=>(@ap _ _ _ _ _ _ _ _ _ (dg U) U B.min OQ (('0'|||be|||'1')^^^('2'^^^ae)) ∅ ∅ U U)))^^^ae) ∅ ∅ U U)⁻¹)|?_];dsimp only[bW];have l1:(bV xs).length=xs.length:=B5 _;have l2:(bV ys).length=ys.length:=B5 _;have l3:(bV ws).length=ws.length:=B5 _;have sz:(40000:Nat)<=sizeLine:=∅
 have jl:=iO e1 e2;show%[_,U,_,U,_,U,t,u,v,_,_,_,U,ht,hu',hv|ql (xs:=bV xs) (ys:=bV ys) (zs:=bV ws) (λ i us Hx=>Same H Hx/\us=((cQ xs ys ws).take i).map V.int) ⋯ ⋯ (λ i us Hx ⟨sx,_⟩=>%[sx _ _ ht,sx _ _ hu'|sx _ _ hv]) %[Same.refl _|U] (λ i us Hx hi ⟨_,e⟩=>by rw[e,B5,K0];lia) ?_ ?_]
 ·rintro i x y z p us Hx hx hy hz hp ⟨sx,rfl⟩;have hin:i < (bV xs).length:=(A7.mp hx).1;obtain⟨x',hx',rfl⟩:=J8.mp (show Option.map V.int xs[i]?=some x by rw[<- J0];exact hx);obtain⟨y',hy',rfl⟩:=J8.mp (show Option.map V.int ys[i]?=some y by rw[<- J0];exact hy);obtain⟨z',hz',rfl⟩:=J8.mp (show Option.map V.int ws[i]?=some z by rw[<- J0];exact hz);have ji:=kD hx' hy' hz';have s1:=G4 hp (o:=.tup [.int x',.int y',.int z']);show%[p,_,U,G5 ai,U,_,_,U,_,_,U,_,_,U,U,gY (gY (leS.set rfl) (leS.set rfl)) (leS.set rfl)|aL ?_];show%[_,U,_,U,_,_,U,U,_,U,_,_,U|Nx.of hin %[sx.trans s1|?_]];rw[K6,ji,show(if z' < x'+y' then z' else x'+y')=min (x'+y') z' by split <;> lia];simp only[K9,J4,J6,MY]
 ·rintro us Hx ⟨sx,rfl⟩;rw[l1,K5 ⋯];show%[by rw[B5];lia|λ cl hcl=>?_];show aF hcl λ H1 k1 s1=>?_;show%[cl,_,U|.inl %[G6 k1|λ tp htp=>?_]];exact q tp _ ai ((sx.trans s1).trans (G4 htp))
theorem scisless:FnScope PJ PJ (defScope ee):=%[U,U,U,∅,U,∅|∅]
theorem tX{f:Nj}{fd:G1}(F:Fun K "is_lesser" "is_lesser" ee f fd)(B:Blt mg):FnOk P w K mg base CX0 1 f fd PJ (xn):=by
 exists scisless;obtain⟨t,u,xs,ys,rfl,ht,hu',e1,l8,q⟩:=h;have hu:=hr.units;show%[_,((di (@bd _ _ _ _ _ _ _ _ (pT hu) '0' '1' (ax _)) (dO (@ap _ _ _ _ _ _ _ _ _ (iI U) U B.all PyProof.Rows.boot_all ((aX (own:=PK) (cs:=[]) (cap:=[]) U (gT U B.zip ('0'^^^('1'^^^ae))) (az (sc:=defScope ee) (N:=PJ) U U ∅) (λ _ _ _ _ _=>cU K U U (by change List.Nodup (PK:No Str) ;decide +kernel) U U U U) (λ _ _ _ _ _=>aK) (λ _ _ _ _ _=>(@bd _ _ _ _ _ _ _ _ jG '0' '1' (ax _))))^^^ae) ∅ ∅ U U)))⁻¹)|?_];dsimp only[bW];have l1:(bV xs).length=xs.length:=B5 _;have l2:(bV ys).length=ys.length:=B5 _;have sz:(40000:Nat)<=sizeLine:=∅
 have lay:∀ns:Pz,PyData.canLayAll0 (ns.map PyData.int)=true/\PyData.depthAll (ns.map PyData.int)=0:=λ ns=>by
  induction ns with
  | nil=>exact%[U|U]
  | cons n r ih=>
   obtain⟨i1,i2⟩:=ih;show%[by rw[J6,PyData.canLayAll0,i1];rfl|?_];rw[J6,PyData.depthAll,i2]
   rfl
 have shp:∀ns:Pz,SeqAt.shaped (.tuple (ns.map PyData.int))=true:=λ ns=>by
  obtain⟨i1,i2⟩:=lay ns;unfold SeqAt.shaped;rw[PyData.canLay0,i1,PyData.depth,i2]
  decide
 show%[_,U,_,U,.tuple (xs.map PyData.int),.tuple (ys.map PyData.int),.tup (G5 ht) (AC _),.tup (G5 hu') (AC _),shp xs,shp ys,_,U|?_];rw[Ce]
 by_cases c:xs=ys
 ·rw[Ny c];show aV ?_;have:=q H (Same.refl _);unfold jq at this;rw[Ny c]at this;exact this
 rw[N3 c];show bN ?_;have cmp:∀i,i < xs.length->((xs.zip ys).take (i+1)).map (λ p:Int×Int=>decide (p.1<=p.2))=((xs.zip ys).take i).map (λ p:Int×Int=>decide (p.1<=p.2)) ++ [decide ((xs[i]?).getD 0<=(ys[i]?).getD 0)]:=λ i hi=>by
  have hz:(xs.zip ys)[i]?=some (xs[i],ys[i]'⋯):=by rw[List.getElem?_zip_eq_some];exact%[F4 hi|F4 ⋯]
  rw[K6,hz,F4 hi,F4 (show i < ys.length by lia)];simp
 show%[_,U,_,U,t,u,_,_,U,ht,hu'|eL (xs:=bV xs) (ys:=bV ys) (λ i us Hx=>Same H Hx/\us=(((xs.zip ys).take i).map (λ p:Int×Int=>decide (p.1<=p.2))).map V.bl) ⋯ (λ i us Hx ⟨sx,_⟩=>%[sx _ _ ht|sx _ _ hu']) %[Same.refl _|U] (λ i us Hx hi ⟨_,e⟩=>by rw[e,B5,B5,K0];lia) ?_ ?_]
 ·rintro i x y p us Hx hx hy hp ⟨sx,rfl⟩;have hin:i < (bV xs).length:=(A7.mp hx).1;obtain⟨x',hx',rfl⟩:=J8.mp (show Option.map V.int xs[i]?=some x by rw[<- J0];exact hx);obtain⟨y',hy',rfl⟩:=J8.mp (show Option.map V.int ys[i]?=some y by rw[<- J0];exact hy);have s1:=G4 hp (o:=.tup [.int x',.int y']);show%[p,_,U,G5 ai,U,_,_,U,_,_,U,U,gY (leS.set rfl) (leS.set rfl)|aL ?_];show%[_,U,_,U,_,_,U,U|Nx.of hin %[sx.trans s1|?_]];rw[cmp i ⋯,hx',hy',J4]
  rfl
 ·rintro us Hx ⟨sx,rfl⟩;rw[l1,K5 (by rw[List.length_zip];lia)];show%[by rw[B5,B5,List.length_zip];lia|λ cl hcl=>?_];show%[cl,_,U,G6 ai|?_];have:=q _ (sx.trans (G4 hcl (o:=.lst (((xs.zip ys).map (λ p:Int×Int=>decide (p.1<=p.2))).map V.bl))));unfold jq leB at this;rw[N3 c]at this;rw[List.all_map];exact this
theorem scwanted:FnScope O1 O1 (defScope cP):=%[U,U,U,∅,U,∅|∅]
theorem tY{f C:Nj}{fd:G1}(F:Fun K "wanted" "Shop.wanted" cP f fd)(B:Blt mg)(T:ShopTxt K C):FnOk P w K mg base CX0 1 f fd O1 (ei C):=by
 exists scwanted;obtain⟨x,b,ks,rfl,S,k8,q⟩:=h;show%[_,((@aT _ _ _ _ _ _ _ _ _ aQ U B.tuple N0 ((aX (own:=O0) (cs:=[]) (cap:=[]) U (jE (iC '0' U)) (az (sc:=defScope cP) (N:=O1) U U ∅) (λ _ _ _ _ _=>am (i:=0) (by change List.Nodup (O0:No Str) ;decide +kernel) U (Or.inl U) (Or.inr U)) (λ _ _ _ _ _=>aK) (λ _ _ _ _ _=>(aB (r:=rIxT K) aD '0' ag (λ _ _=>U))))^^^ae) ∅ ∅ U U)⁻¹)|?_];dsimp only[bW];have sz:(100:Nat) < sizeLine:=∅
 obtain⟨dx,r,rs,h1,h2,h3⟩:=id S;have len:=E6 h3;show%[_,U,x,C,dx,_,_,U,h1,T.cl,T.nK,dU _ _,r,U,%[_|G5 h2]|(bu (K:=K) (.inr h2) (λ i ys H4=>H4=H/\ys=((ks.take i).map λ k=>V.int k.wa)) (λ i ys H4 _ ⟨e4,_⟩ o e=>by rw[e4];exact e) %[U|U] ?_ ?_).2 h2]
 ·rintro i y ys H4 hi ⟨e4,rfl⟩;subst e4;have hin:i < rs.length:=(A7.mp hi).1;obtain⟨k,hk,a,rfl,ha⟩:=G8 h3 hi;show%[by rw[B5,K0];lia,leS.set rfl|aL %[_,U,a,_,3,_,U,U,G5 ha,U|Nx.of hin %[U|?_]]];rw[K6,hk];simp only[K9,J4,J6,MY]
 ·rintro ys H4 ⟨e4,rfl⟩;subst e4;rw[len,MG];show%[by rw[B5];lia|λ p hp=>%[p,_,U|.inl %[G6 ai|λ t ht=>?_]]];have s1:=(G4 (o:=.lst (ks.map λ k=>V.int k.wa)) hp).trans (G4 (o:=.tup (ks.map λ k=>V.int k.wa)) ht);exact q t _ ((G4 hp).free ht) ai s1
theorem sccsmall:FnScope O8 O8 (defScope dG):=%[U,U,U,∅,U,∅|∅]
theorem tZ{f:Nj}{fd:G1}(F:Fun K "check_small" "check_small" dG f fd){C:Nj}(B:Blt mg)(T:ShopTxt K C)(hms:∃t,mg "MOST_SIDE" = some (.int 8 t))(hmw:∃t,mg "MOST_WANTED" = some (.int 6 t))(MW:Mn P w K mg base C "wanted" O1 1 (ei C))(DCP:Dn P w K mg base "check_plate" O3 2 (spCP))(DCS:Dn P w K mg base "check_sides" O4 1 (spCS)):FnOk P w K mg base CX0 3 f fd O8 (xj C):=by
 exists sccsmall;show bX λ G9 k9=>?_;obtain⟨s,b,w1,h1,ks,rfl,sh,k8,w0,w8,h0,h8,sm,q⟩:=h;show k9 ?_;obtain⟨tm1,hm1⟩:=hms;obtain⟨tm2,hm2⟩:=hmw;show%[_,((@bL _ _ _ _ (DCP∪('1'^^^('2'^^^ae))) U)<<<((@bL _ _ _ _ (DCS∩('1'^^^('2'^^^((cu (v:=.int 8) U hm1 %[tm1|U])^^^ae)))) U)>>>(((@ap _ _ _ _ _ _ _ _ _ (iN U) U B.sum Od ((iG '0' T.cl MW (hr.mono ∅))^^^ae) ∅ ∅ U U)<*>gH<*>(cu (v:=.int 6) U hm2 %[tm2|U]))<|>(@ah _ _ _ gG)<|>ay)))|?_];dsimp only[bW];obtain⟨dx,r,rs,S1,S2,S3⟩:=id sh;show%[_,U,_,U,w1,h1,U,w0,h0|?_];show bI (λ σ' H'=>σ'=[↑s,⇑w1,⇑h1]/\H=H') (λ R hR=>hR _ _ %[rfl|rfl]) ?_;rintro _ _ ⟨rfl,rfl⟩;show%[_,U,_,U,w1,h1,8,U,w8,h8|?_];show bI (λ σ' H'=>σ'=[↑s,⇑w1,⇑h1]/\H=H') (λ R hR=>hR _ _ %[rfl|rfl]) ?_;rintro _ _ ⟨rfl,rfl⟩;show%[_,U,s,dx,_,U,S1,(cX _ _ ∅ ∅),s,b,ks,U,sh,k8|λ t H1 hn ht s1=>?_];show%[t,ks.map (λ k=>k.wa),U,G5 (by rw[MO];exact ht),_,_,U,U,_,U|?_];rw[N3 ⋯];exact aV (q _ s1)
def msr(p:Int×Int):Nat:=(p.1+p.2).toNat
theorem rS{dn:Bool}{n:Nat}{x:Bool×Int}(h:x∈wpL dn n):x.1=dn/\1<=x.2/\x.2<=n:=by unfold wpL at h;obtain⟨j,hj,rfl⟩:=J5.mp h;have:=MD.mp hj;exact%[U,by change 1<=1+(j:Int);lia|by change 1+(j:Int)<=n;lia]
theorem iP{b w h:Int}{x:Bool×Int}(m:x∈cH b w h):1<=x.2/\(if x.1=true then x.2+b < w else x.2+b < h):=by
 unfold cH at m;rcases C4.mp m with m | m
 ·obtain⟨e,h1,h2⟩:=rS m;rw[e,Nw rfl];exact%[h1|⋯]
 ·obtain⟨e,h1,h2⟩:=rS m;rw[e,Nv B3];exact%[h1|⋯]
theorem er{b w h:Int}{x:Bool×Int}(b0:0<=b)(w0:1<=w)(h0:1<=h)(m:x∈cH b w h) :
  (1<=(cI w h x).1/\1<=(cI w h x).2/\(cI w h x).1<=w/\(cI w h x).2<=h/\((cI w h x).1 < w\/(cI w h x).1=w/\(cI w h x).2 < h)/\msr (cI w h x) < msr (w,h)) /\
  (1<=(cK b w h x).1/\1<=(cK b w h x).2/\(cK b w h x).1<=w/\(cK b w h x).2<=h/\((cK b w h x).1 < w\/(cK b w h x).1=w/\(cK b w h x).2 < h)/\msr (cK b w h x) < msr (w,h)):=by
 obtain⟨h1,h2⟩:=iP m;obtain⟨dn,p⟩:=x;cases dn with
 | true=>
  have h2:p+b < w:=h2;have h1:1<=p:=h1;change(1<=p/\1<=h/\p<=w/\h<=h/\(p < w\/p=w/\h < h)/\(p+h).toNat < (w+h).toNat)/\(1<=w - p - b/\1<=h/\w - p - b<=w/\h<=h/\(w - p - b < w\/w - p - b=w/\h < h)/\(w - p - b+h).toNat < (w+h).toNat)
  show%[%[?_,?_,?_,?_,?_|?_]|%[?_,?_,?_,?_,?_|?_]] <;> lia
 | false=>
  have h2:p+b < h:=h2;have h1:1<=p:=h1;change(1<=w/\1<=p/\w<=w/\p<=h/\(w < w\/w=w/\p < h)/\(w+p).toNat < (w+h).toNat)/\(1<=w/\1<=h - p - b/\w<=w/\h - p - b<=h/\(w < w\/w=w/\h - p - b < h)/\(w+(h - p - b)).toNat < (w+h).toNat)
  show%[%[?_,?_,?_,?_,?_|?_]|%[?_,?_,?_,?_,?_|?_]] <;> lia
def ltP(p q:Int×Int):Prop:=p.1 < q.1\/p.1=q.1/\p.2 < q.2
theorem rowP_mem{a:Int}{n:Nat}{p:Int×Int}:p∈kC a n↔p.1=a/\1<=p.2/\p.2<=n:=by
 unfold kC;constructor
 ·intro h;obtain⟨j,hj,rfl⟩:=J5.mp h;have:=MD.mp hj;exact%[U,by change 1<=1+(j:Int);lia|by change 1+(j:Int)<=n;lia]
 ·rintro⟨e,h1,h2⟩;show J5.mpr %[(p.2 - 1).toNat,MD.mpr ⋯|?_];rw[<- e,show 1+((p.2 - 1).toNat:Int)=p.2 by lia]
theorem partsL_mem{n:Nat}{p:Int×Int}:∀{m:Nat},p∈aU m n↔(1<=p.1/\p.1<=m)/\1<=p.2/\p.2<=n
 | 0=>by
  constructor
  ·intro h;simp[aU]at h
  ·rintro⟨⟨h1,h2⟩,_⟩;exfalso;have h2:p.1<=0:=h2;lia
 | m+1=>by
  rw[dM,C4,partsL_mem (m:=m),rowP_mem];constructor
  ·rintro(⟨⟨h1,h2⟩,h3⟩ | ⟨h1,h2⟩)
   ·exact%[%[h1|⋯]|h3]
   ·exact%[%[⋯|⋯]|h2]
  ·rintro⟨⟨h1,h2⟩,h3⟩
   by_cases e:p.1=1+(m:Int)
   ·exact .inr %[e|h3]
   ·exact .inl %[%[h1|⋯]|h3]
theorem lT(a:Int):∀n:Nat,(kC a n).Pairwise ltP
 | 0=>List.Pairwise.nil
 | n+1=>by rw[lS,List.pairwise_append];show%[lT a n,List.pairwise_singleton _ _|λ p hp q hq=>?_];rw[E5.mp hq];obtain⟨e,_,h⟩:=rowP_mem.mp hp;exact .inr %[e|by change p.2 < 1+(n:Int);lia]
theorem dN(n:Nat):∀m:Nat,(aU m n).Pairwise ltP
 | 0=>List.Pairwise.nil
 | m+1=>by rw[dM,List.pairwise_append];show%[dN n m,lT _ n|λ p hp q hq=>?_];obtain⟨⟨_,h⟩,_⟩:=partsL_mem.mp hp;obtain⟨e,_⟩:=rowP_mem.mp hq;exact .inl ⋯
theorem jd{m n i:Nat}{p q:Int×Int}(hi:(aU m n)[i]?=some p)(hq:q∈aU m n)(hl:ltP q p):q∈(aU m n).take i:=by
 obtain⟨j,hj⟩:=MJ.mp hq;obtain⟨i1,i2⟩:=A7.mp hi;obtain⟨j1,j2⟩:=A7.mp hj
 by_cases h:j < i
 ·show MJ.mpr %[j|?_];rw[NG h];exact hj
 ·exfalso;rcases Nh i j with h' | h'
  ·have:=NC.mp (dN n m) i j i1 j1 h';rw[i2,j2]at this;unfold ltP at this hl;lia
  ·have e:i=j:=⋯
   subst e;rw[hi]at hj;cases hj;unfold ltP at hl;lia
theorem qu{m n i:Nat}{p:Int×Int}(hi:(aU m n)[i]?=some p):p∉(aU m n).take i:=λ h=>by obtain⟨j,hj⟩:=MJ.mp h;obtain⟨j0,_⟩:=A7.mp hj;rw[K0]at j0;rw[NG ⋯]at hj;obtain⟨i1,i2⟩:=A7.mp hi;obtain⟨j1,j2⟩:=A7.mp hj;have:=NC.mp (dN n m) j i j1 i1 ⋯;rw[i2,j2]at this;unfold ltP at this;lia
abbrev pk(p:Int×Int):No Key:=[.inl p.1,.inl p.2]
theorem qv{p q:Int×Int}(h:pk p=pk q):p=q:=by
 obtain⟨a,b⟩:=p;obtain⟨c,d⟩:=q;have h:([.inl a,.inl b]:No Key)=[.inl c,.inl d]:=h;injection h with h1 h2
 injection h1 with h1
 injection h2 with h2 _
 injection h2 with h2
 rw[h1,h2]
def byP(ss:No ((Int×Int)×V)):No (No Key×V):=ss.map λ s=>(pk s.1,s.2)
theorem zr{ss:No ((Int×Int)×V)}{p:Int×Int}{v:V}(h:p∉ss.map (·.1)):dW (byP ss) (pk p) v=byP (ss ++ [(p,v)]):=by
 unfold dW;rw[Nv,byP,byP,J4]
 ·rfl
 ·intro e;obtain⟨x,hx,e⟩:=Mz.mp e;obtain⟨s,hs,rfl⟩:=J5.mp hx;have:s.1=p:=qv (C2 e);exact h (J5.mpr %[s,hs|this])
theorem fS:∀{ss:No ((Int×Int)×V)}{p:Int×Int},p∈ss.map (·.1)->∃v,cS (byP ss) (pk p)=some v/\(p,v)∈ss
 | s :: r,p,h=>by
  by_cases e:s.1=p
  ·show%[s.2,dX (by change pk s.1=pk p;rw[e])|?_];rw[<- e];exact B9
  ·have h:p∈r.map (·.1):=(J3.mp h).resolve_left (λ z=>e z.symm);obtain⟨v,h1,h2⟩:=fS h;show%[v,?_|B6 _ h2];change cS ((pk s.1,s.2) :: byP r) (pk p)=some v;rw[cO (λ z=>e (qv z))];exact h1
inductive Stp where
 | rest
 | piece (k:Int) (t:Bool)
 | cut (dn:Bool) (p:Int) (f:Int×Int) (o:Pz) (s:Int×Int) (u:Pz)
abbrev Rws:=No (Pz×Stp)
def gy(rs:Rws)(r:Pz×Stp):Rws:=if r.1∈rs.map (·.1)then rs else rs ++ [r]
def eQ(rs l:Rws):Rws:=l.foldl gy rs
theorem hG(rs l m:Rws):eQ rs (l ++ m)=eQ (eQ rs l) m:=List.foldl_append
theorem putN_keys{rs:Rws}{r:Pz×Stp}{x:Pz}:x∈(gy rs r).map (·.1)↔x∈rs.map (·.1)\/x=r.1:=by
 unfold gy
 split
 ·next h=>exact%[.inl|λ z=>z.elim id λ e=>e ▸ h]
 ·rw[J4,C4,J6,MY,E5]
theorem adds_keys{x:Pz}:∀{l rs:Rws},x∈(eQ rs l).map (·.1)↔x∈rs.map (·.1)\/x∈l.map (·.1)
 | [],rs=>by simp[eQ]
 | r :: l,rs=>by change x∈(eQ (gy rs r) l).map (·.1)↔_;rw[adds_keys,putN_keys,J6,J3,or_assoc]
theorem kF{rs:Rws}{r:Pz×Stp}(h:(rs.map (·.1)).Nodup):((gy rs r).map (·.1)).Nodup:=by
 unfold gy
 split
 ·exact h
 ·next z=>
  rw[J4,NY];show%[h,by simp|λ a ha b hb e=>z ?_];simp only[J6,MY,E5]at hb;rw[<- hb,<- e];exact ha
theorem gz:∀{l rs:Rws},(rs.map (·.1)).Nodup->((eQ rs l).map (·.1)).Nodup
 | [],_,h=>h
 | r :: l,rs,h=>by change((eQ (gy rs r) l).map (·.1)).Nodup;exact gz (kF h)
def InB(ws b:Pz):Prop:=b.length=ws.length/\leB b ws=true/\∀x∈b,0<=x
theorem dv(x y:Int)(a b:Pz):leB (x :: a) (y :: b)=(decide (x<=y) && leB a b):=rfl
theorem hJ:∀a:Pz,leB a a=true
 | []=>rfl
 | x :: a=>by rw[dv,hJ a,Ny (E8 x)];rfl
theorem lU:∀{a b c:Pz},a.length=b.length->b.length=c.length->leB a b=true->leB b c=true->leB a c=true
 | [],_,_,_,_,_,_=>rfl
 | x :: a,y :: b,z :: c,h1,h2,h3,h4=>by rw[dv,MT,OM]at h3 h4 ⊢;exact%[Int.le_trans h3.1 h4.1|lU (by simpa using h1) (by simpa using h2) h3.2 h4.2]
 | _ :: _,[],_,h1,_,_,_=>by simp at h1
 | _ :: _,_ :: _,[],_,h2,_,_=>by simp at h2
theorem kG:∀{a b:Pz},a.length=b.length->leB a b=true->a.sum<=b.sum/\(a.sum=b.sum->a=b)
 | [],[],_,_=>%[E8 _|λ _=>rfl]
 | x :: a,y :: b,h1,h2=>by rw[dv,MT,OM]at h2;obtain⟨i1,i2⟩:=kG (a:=a) (b:=b) (by simpa using h1) h2.2;rw[MQ,MQ];show%[⋯|λ e=>?_];rw[i2 ⋯,show x=y by lia]
 | [],_ :: _,h,_=>by simp at h
 | _ :: _,[],h,_=>by simp at h
theorem InB.sum{ws b:Pz}(h:InB ws b):b.sum<=ws.sum:=(kG h.1 h.2.1).1
def uh:Pz->P0
 | []=>[[]]
 | w :: ws=>(List.range (w+1).toNat).flatMap λ x:Nat=>(uh ws).map λ b=>Int.ofNat x :: b
theorem InB.box:∀{ws b:Pz},InB ws b->b∈uh ws
 | [],[],_=>E5.mpr rfl
 | [],_ :: _,h=>by have:=h.1;simp at this
 | _ :: _,[],h=>by have:=h.1;simp at this
 | w :: ws,x :: b,⟨h1,h2,h3⟩=>by rw[dv,MT,OM]at h2;have x0:=h3 x B9;show Ml.mpr %[x.toNat,MD.mpr ⋯|J5.mpr %[b,InB.box %[by simpa using h1,h2.2|λ y hy=>h3 y (B6 _ hy)]|?_]];rw[show Int.ofNat x.toNat=x from Int.toNat_of_nonneg x0]
theorem oC{α β:Type}(f:α->No β)(n:Nat):∀l:No α,(∀a∈l,(f a).length=n)->(l.flatMap f).length=l.length * n
 | [],_=>by simp
 | a :: l,h=>by rw[M4,K4,h a B9,oC f n l (λ b hb=>h b (B6 _ hb)),K3,Nat.succ_mul,Nat.add_comm]
theorem gA:∀{ws:Pz},(∀x∈ws,0<=x)->0<=ws.sum
 | [],_=>E8 _
 | w :: ws,h=>by have:=gA (ws:=ws) (λ x hx=>h x (B6 _ hx));have:=h w B9;rw[MQ];lia
theorem oE:∀{ws:Pz},(∀x∈ws,0<=x)->(uh ws).length<=2 ^ ws.sum.toNat
 | [],_=>∅
 | w :: ws,h=>by
  have w0:=h w B9;have h':∀x∈ws,0<=x:=λ x hx=>h x (B6 _ hx);have s0:=gA h';have ih:=oE h';have e:(uh (w :: ws)).length=(w+1).toNat * (uh ws).length:=by change((List.range (w+1).toNat).flatMap _).length=_;rw[oC _ (uh ws).length _ (λ a _=>B5 _),Mj]
  rw[e,MQ,show(w+ws.sum).toNat=w.toNat+ws.sum.toNat by lia,Nat.pow_add];show Nb ?_ ih;have:=@Nat.lt_two_pow_self w.toNat;lia
theorem InB.few{ws:Pz}(h0:∀x∈ws,0<=x)(h6:ws.sum<=6){bs:P0}(hn:bs.Nodup)(hb:∀b∈bs,InB ws b):bs.length<=64 :=
 C7 (List.Nodup.length_le_of_subset hn λ b m=>(hb b m).box) (C7 (oE h0) (C7 (NE ∅ (show ws.sum.toNat<=6 by lia)) ∅))
theorem InB.join:∀{ws a b:Pz},(∀x∈ws,0<=x)->InB ws a->InB ws b->InB ws (cQ a b ws)
 | [],[],[],_,_,_=>%[U,U|λ _ h=>by simp[cQ]at h]
 | w :: ws,x :: a,y :: b,h0,⟨a1,a2,a3⟩,⟨b1,b2,b3⟩=>by
  rw[dv,MT,OM]at a2 b2;have w0:=h0 w B9;have x0:=a3 x B9;have y0:=b3 y B9;obtain⟨i1,i2,i3⟩:=InB.join (ws:=ws) (a:=a) (b:=b) (λ z hz=>h0 z (B6 _ hz)) %[by simpa using a1,a2.2|λ z hz=>a3 z (B6 _ hz)] %[by simpa using b1,b2.2|λ z hz=>b3 z (B6 _ hz)];show%[by rw[cQ,K3,K3,i1],?_|λ z hz=>?_]
  ·rw[cQ,dv,i2,Ny (Int.min_le_right _ _)];rfl
  ·rw[cQ]at hz;rcases J3.mp hz with rfl | hz
   ·lia
   ·exact i3 z hz
 | [],_ :: _,_,_,h,_=>by have:=h.1;simp at this
 | [],[],_ :: _,_,_,h=>by have:=h.1;simp at this
 | _ :: _,[],_,_,h,_=>by have:=h.1;simp at this
 | _ :: _,_ :: _,[],_,_,h=>by have:=h.1;simp at this
theorem bZ:∀{a b:Pz},a.length=b.length->(leB a b=true↔∀(i:Nat)(x y:Int),a[i]?=some x->b[i]?=some y->x<=y)
 | [],[],_=>%[λ _ i x y h=>by simp at h|λ _=>rfl]
 | u :: a,v :: b,h=>by
  have ih:=bZ (a:=a) (b:=b) (by simpa using h);rw[dv,MT,OM,ih];constructor
  ·rintro⟨h1,h2⟩ i x y hx hy;cases i with
   | zero=>simp at hx hy;lia
   | succ i=>exact h2 i x y (by simpa using hx) (by simpa using hy)
  ·intro h';exact%[h' 0 u v rfl rfl|λ i x y hx hy=>h' (i+1) x y (by simpa using hx) (by simpa using hy)]
 | [],_ :: _,h=>by simp at h
 | _ :: _,[],h=>by simp at h
def aG(n:Nat):Pz:=List.replicate n 0
theorem InB.zero{ws:Pz}(h0:∀x∈ws,0<=x):InB ws (aG ws.length):=by show%[K8,(bZ K8).mpr λ i x y hx hy=>?_|λ x hx=>by rw[(NQ.mp hx).2];exact E8 _];have e:x=0:=(NQ.mp (B7 hx)).2;rw[e];exact h0 y (B7 hy)
theorem hU{n i:Nat}{k x:Int}(h:(bY n k)[i]?=some x):i < n/\x=if Int.ofNat i=k then 1 else 0:=by unfold bY at h;rw[J0]at h;obtain⟨j,hj,e⟩:=J8.mp h;have hl:=(A7.mp hj).1;rw[List.getElem?_range (by simpa using hl)]at hj;cases hj;exact%[by simpa using hl|e.symm]
theorem cJ(n:Nat)(k:Int):(bY n k).length=n:=by unfold bY;rw[B5,Mj]
theorem InB.one{ws:Pz}{k:Nat}{z:Int}(h0:∀x∈ws,0<=x)(hk:ws[k]?=some z)(hz:0 < z):InB ws (bY ws.length k):=by
 show%[cJ _ _,(bZ (cJ _ _)).mpr λ i x y hx hy=>?_|λ x hx=>?_]
 ·obtain⟨_,e⟩:=hU hx;have y0:=h0 y (B7 hy)
  by_cases c:Int.ofNat i=(k:Int)
  ·rw[Nw c]at e;have:i=k:=by have:(i:Int)=k:=c;lia
   subst this;rw[hk]at hy;cases hy;lia
  ·rw[Nv c]at e;lia
 ·obtain⟨i,hi⟩:=MJ.mp hx;obtain⟨_,e⟩:=hU hi;rw[e];split <;> lia
def xo(bs:P0):P0:=bs.mergeSort λ x y=>!(cr y x)
theorem et(bs:P0):(xo bs).Perm bs:=List.mergeSort_perm _ _
theorem ui(bs:P0):(xo bs).Pairwise λ x y=>cr y x=false:=by
 have:=List.pairwise_mergeSort (le:=λ x y=>!(cr y x)) (λ a b c h1 h2=>?_) (λ a b=>?_) bs
 ·exact this.imp λ h=>by simpa using h
 ·simp only[Bool.not_eq_true']at h1 h2 ⊢;cases e:cr c a with
  | false=>rfl
  | true=>
   rcases mU c b a e with z | z
   ·rw[z]at h2;cases h2
   ·rw[z]at h1;cases h1
 ·cases e:cr b a with
  | false=>rfl
  | true=>
   cases e2:cr a b with
   | false=>rfl
   | true=>have:=iK _ _ _ e e2;rw[gu]at this;cases this
theorem uj{l bs:P0}(hp:l.Perm bs)(hs:l.Pairwise λ x y=>cr y x=false):l=xo bs :=
 List.Perm.eq_of_pairwise (le:=λ x y=>cr y x=false) (λ a b _ _ a1 a2=>iL _ _ a2 a1) hs (ui bs) (hp.trans (et bs).symm)
def gb(bs:P0)(b:Pz):Bool:=!(bs.map λ c=>jq b c).any id
def eA(bs:P0):P0:=(xo bs).filter (gb bs)
theorem mem_topB{bs:P0}{b:Pz}:b∈eA bs↔b∈bs/\∀c∈bs,jq b c=false:=by unfold eA gb;rw[M5,(et bs).mem_iff];show and_congr_right λ _=>?_;rw[Bool.not_eq_true',List.any_eq_false];simp only[id,Bool.not_eq_true];exact%[λ h c hc=>h _ (J5.mpr %[c,hc|U])|λ h c hc=>by obtain⟨d,hd,rfl⟩:=J5.mp hc;exact h d hd]
theorem dw{bs:P0}(h:bs.Nodup):(eA bs).Nodup:=((et bs).symm.nodup h).filter _
def hV(rs:Rws)(b:Pz):Stp:=((rs.find? λ r=>decide (r.1=b)).map (·.2)).getD .rest
def jr(rs:Rws):Rws:=(eA (rs.map (·.1))).map λ b=>(b,hV rs b)
theorem lV(rs:Rws):(jr rs).map (·.1)=eA (rs.map (·.1)):=by unfold jr;rw[MO];exact List.map_id' _
def waA(ks:No Kd)(i:Nat):Int:=((ks[i]?).map (·.wa)).getD 0
abbrev wsK(ks:No Kd):Pz:=ks.map λ k=>k.wa
def lyR(ks:No Kd)(q:Nat×Bool):Rws:=if 0 < waA ks q.1 then[(bY ks.length q.1,.piece q.1 q.2)]else[]
def lyC(ks:No Kd)(p:Int×Int):Rws:=((lyK ks 0).filter (gx ks p.1 p.2)).flatMap (lyR ks)
def Cf(b:Int)(ks:No Kd)(p:Int×Int)(c:Bool×Int)(o u:Pz):Pz×Stp:=(cQ o u (wsK ks),.cut c.1 c.2 (cI p.1 p.2 c) o (cK b p.1 p.2 c) u)
def uk(b:Int)(ks:No Kd)(p:Int×Int)(c:Bool×Int)(us:P0)(o:Pz):Rws:=us.map (Cf b ks p c o)
def oF(b:Int)(ks:No Kd)(fd:Int×Int->Rws)(p:Int×Int)(c:Bool×Int):Rws:=((fd (cI p.1 p.2 c)).map (·.1)).flatMap (uk b ks p c ((fd (cK b p.1 p.2 c)).map (·.1)))
def eV(ks:No Kd):Rws:=[(aG ks.length,.rest)]
def bJ(b:Int)(ks:No Kd)(fd:Int×Int->Rws)(p:Int×Int):Rws:=eQ (eQ (eV ks) (lyC ks p)) ((cH b p.1 p.2).flatMap (oF b ks fd p))
def gF(b:Int)(ks:No Kd):Nat->Int×Int->Rws
 | 0,_=>[]
 | n+1,p=>jr (bJ b ks (gF b ks n) p)
theorem kH{α β:Type}{f g:α->No β}:∀{l:No α},(∀a∈l,f a=g a)->l.flatMap f=l.flatMap g
 | [],_=>rfl
 | a :: l,h=>by rw[M4,M4,h a B9,kH λ b hb=>h b (B6 _ hb)]
theorem hW{b:Int}{ks:No Kd}{f g:Int×Int->Rws}{p:Int×Int}(h:∀c∈cH b p.1 p.2,f (cI p.1 p.2 c)=g (cI p.1 p.2 c)/\f (cK b p.1 p.2 c)=g (cK b p.1 p.2 c)):bJ b ks f p=bJ b ks g p:=by unfold bJ;rw[kH λ c hc=>?_];unfold oF;rw[(h c hc).1,(h c hc).2]
theorem fT{b:Int}{ks:No Kd}(b0:0<=b):∀(n m:Nat)(p:Int×Int),msr p < n->msr p < m->1<=p.1->1<=p.2->gF b ks n p=gF b ks m p
 | 0,_,_,h,_,_,_=>absurd h (F2 _)
 | _+1,0,_,_,h,_,_=>absurd h (F2 _)
 | n+1,m+1,p,h1,h2,p1,p2=>by change jr _=jr _;rw[hW λ c hc=>?_];obtain⟨⟨a1,a2,_,_,_,a6⟩,⟨c1,c2,_,_,_,c6⟩⟩:=er b0 p1 p2 hc;have e:msr (p.1,p.2)=msr p:=rfl;exact%[fT b0 n m _ ⋯ ⋯ a1 a2|fT b0 n m _ ⋯ ⋯ c1 c2]
def gB(b:Int)(ks:No Kd)(p:Int×Int):Rws:=gF b ks (msr p+1) p
theorem xq{b:Int}{ks:No Kd}(b0:0<=b)(p:Int×Int)(p1:1<=p.1)(p2:1<=p.2):gB b ks p=jr (bJ b ks (gB b ks) p):=by change jr _=jr _;rw[hW λ c hc=>?_];obtain⟨⟨a1,a2,_,_,_,a6⟩,⟨c1,c2,_,_,_,c6⟩⟩:=er b0 p1 p2 hc;have e:msr (p.1,p.2)=msr p:=rfl;exact%[fT b0 _ _ _ ⋯ ⋯ a1 a2|fT b0 _ _ _ ⋯ ⋯ c1 c2]
theorem ws0{ks:No Kd}(hg:∀k∈ks,0<=k.wa):∀x∈wsK ks,0<=x:=λ x hx=>by obtain⟨k,hk,rfl⟩:=J5.mp hx;exact hg k hk
theorem xt{ks:No Kd}(hg:∀k∈ks,0<=k.wa){q:Nat×Bool}{r:Pz×Stp}(h:r∈lyR ks q):InB (wsK ks) r.1:=by
 unfold lyR at h
 split at h
 ·next z=>
  rw[E5]at h;subst h;have e:(wsK ks).length=ks.length:=B5 _;change InB (wsK ks) (bY ks.length q.1);rw[<- e];show InB.one (ws0 hg) (z:=waA ks q.1) ?_ z;rw[J0];unfold waA at z ⊢;cases e:ks[q.1]? with
  | none=>rw[e]at z;exact absurd z ∅
  | some k=>rfl
 ·cases h
theorem iQ{b:Int}{ks:No Kd}(hg:∀k∈ks,0<=k.wa){fd:Int×Int->Rws}{p:Int×Int}(hf:∀c∈cH b p.1 p.2,(∀r∈fd (cI p.1 p.2 c),InB (wsK ks) r.1)/\∀r∈fd (cK b p.1 p.2 c),InB (wsK ks) r.1){x:Pz}(hx:x∈(bJ b ks fd p).map (·.1)):InB (wsK ks) x:=by
 unfold bJ at hx;rcases adds_keys.mp hx with hx | hx
 ·rcases adds_keys.mp hx with hx | hx
  ·simp only[eV,J6,MY,E5]at hx;rw[hx,show ks.length=(wsK ks).length from(B5 _).symm];exact InB.zero (ws0 hg)
  ·obtain⟨r,hr,rfl⟩:=J5.mp hx;obtain⟨q,_,hq⟩:=Ml.mp hr;exact xt hg hq
 ·obtain⟨r,hr,rfl⟩:=J5.mp hx;obtain⟨c,hc,hr⟩:=Ml.mp hr;obtain⟨o,ho,hr⟩:=Ml.mp hr;obtain⟨u,hu,rfl⟩:=J5.mp hr;obtain⟨ro,mo,rfl⟩:=J5.mp ho;obtain⟨ru,mu,rfl⟩:=J5.mp hu;exact InB.join (ws0 hg) ((hf c hc).1 _ mo) ((hf c hc).2 _ mu)
theorem bR(b:Int)(ks:No Kd)(fd:Int×Int->Rws)(p:Int×Int):((bJ b ks fd p).map (·.1)).Nodup:=gz (gz (by simp[eV]))
theorem xu{b:Int}{ks:No Kd}(hg:∀k∈ks,0<=k.wa):∀(n:Nat)(p:Int×Int),∀r∈gF b ks n p,InB (wsK ks) r.1
 | 0,_,r,h=>by cases h
 | n+1,p,r,h=>by have hm:r.1∈(gF b ks (n+1) p).map (·.1):=J5.mpr %[r,h|U];rw[show gF b ks (n+1) p=jr (bJ b ks (gF b ks n) p)from rfl,lV]at hm;exact iQ hg (λ c _=>%[xu hg n _|xu hg n _]) (mem_topB.mp hm).1
theorem oG{b:Int}{ks:No Kd}(hg:∀k∈ks,0<=k.wa){p:Int×Int}{r:Pz×Stp}(h:r∈gB b ks p):InB (wsK ks) r.1:=xu hg _ _ r h
def gK(b:Int)(ks:No Kd)(p:Int×Int):P0:=(gB b ks p).map (·.1)
theorem bD{b:Int}{ks:No Kd}(hg:∀k∈ks,0<=k.wa){p:Int×Int}{x:Pz}(h:x∈gK b ks p):InB (wsK ks) x:=by obtain⟨r,hr,rfl⟩:=J5.mp h;exact oG hg hr
theorem rT{b:Int}{ks:No Kd}(b0:0<=b)(p:Int×Int)(p1:1<=p.1)(p2:1<=p.2):gK b ks p=eA ((bJ b ks (gB b ks) p).map (·.1)):=by unfold gK;rw[xq b0 p p1 p2,lV]
theorem lesB_iff{a b:Pz}:jq a b=true↔a≠b/\leB a b=true:=by unfold jq;rw[MT,Bool.not_eq_true',decide_eq_false_iff_not]
theorem InB.full{ws:Pz}(h0:∀x∈ws,0<=x)(h6:ws.sum<=6){bs:P0}(hn:bs.Nodup)(hb:∀b∈bs,InB ws b):bs.length < 64\/∀l:P0,l.Perm bs->l.filter (gb bs)=eA bs:=by
 by_cases c:bs.length < 64
 ·exact .inl c
 show .inr λ l hp=>?_;have wm:ws∈bs:=by
  by_cases m:ws∈bs
  ·exact m
  have:=InB.few h0 h6 (Mq.mpr %[m|hn]) λ b h=>by
   rcases J3.mp h with rfl | h
   ·exact%[U,hJ _|h0]
   ·exact hb b h
  rw[K3]at this;lia
 have one:∀x∈eA bs,x=ws:=λ x hx=>by
  obtain⟨m,k⟩:=mem_topB.mp hx
  by_cases e:x=ws
  ·exact e
  have:=k ws wm;rw[lesB_iff.mpr %[e|(hb x m).2.1]]at this;cases this
 have pp:(l.filter (gb bs)).Perm (eA bs):=(hp.trans (et bs).symm).filter _;have nd:=dw hn;revert pp nd one;generalize eA bs=ts;intro one pp nd
 match ts with
 | []=>exact pp.eq_nil
 | [x]=>exact List.perm_singleton.mp pp
 | x :: y :: _=>exact absurd ((one x (by simp)).trans (one y (by simp)).symm) (by simp at nd;exact nd.1.1)
theorem xw{bs:P0}{ws:Pz}(hb:∀b∈bs,InB ws b):∀(k:Nat)(b:Pz),b∈bs->ws.sum - b.sum < k->∃t∈eA bs,leB b t=true
 | 0,b,m,h=>by have:=(hb b m).sum;lia
 | k+1,b,m,h=>by
  by_cases c:∀c∈bs,jq b c=false
  ·exact%[b,mem_topB.mpr %[m|c]|hJ b]
  ·simp only[Classical.not_forall]at c;obtain⟨d,md,e⟩:=c;have e:jq b d=true:=by simpa using e
   obtain⟨n1,l1⟩:=lesB_iff.mp e;have el:b.length=d.length:=by rw[(hb b m).1,(hb d md).1]
   obtain⟨s1,s2⟩:=kG el l1;have:b.sum≠d.sum:=λ z=>n1 (s2 z);obtain⟨t,mt,lt⟩:=xw hb k d md ⋯;exact%[t,mt|lU el (by rw[(hb d md).1,(hb t (mem_topB.mp mt).1).1]) l1 lt]
theorem zt{bs:P0}{ws:Pz}(hb:∀b∈bs,InB ws b){b:Pz}(m:b∈bs):∃t∈eA bs,leB b t=true :=
 xw hb ((ws.sum - b.sum).toNat+1) b m ⋯
def bK(b:Pz):No Key:=b.map Sum.inl
theorem cW(b:Pz):(bK b).map kV=bV b:=by unfold bK bV;rw[MO];rfl
theorem iR:∀{a b:Pz},bK a=bK b->a=b
 | [],[],_=>rfl
 | x :: a,y :: b,h=>by
  have h:(Sum.inl x :: bK a:No Key)=Sum.inl y :: bK b:=h;injection h with h1 h2
  injection h1 with h1
  rw[h1,iR h2]
 | [],_ :: _,h=>by cases h
 | _ :: _,[],h=>by cases h
def KyA(H:Hp)(v:V)(p:Int×Int)(b:Pz):Prop:=∃a x y,v=.ref a/\H a= ~~~[.ref x,.ref y]/\H x= ~~~[.int p.1,.int p.2]/\H y= ~~~(bV b)
def StA(H:Hp)(v:V):Stp->Prop
 | .rest=>∃a,v=.ref a/\H a=some (.tup [.str "rest"])
 | .piece k t=>∃a,v=.ref a/\H a=some (.tup [.str "piece",.int k,.bl t,.int 0,.int 0])
 | .cut dn p f o s u=>∃a x y,v=.ref a/\H a= ~~~[wv dn,.int p,x,y]/\KyA H x f o/\KyA H y s u
theorem KyA.keep{H H':Hp}(s:Tps H H'){v:V}{p:Int×Int}{b:Pz}:KyA H v p b->KyA H' v p b
 | ⟨a,x,y,e,h1,h2,h3⟩=>%[a,x,y,e,s _ _ h1,s _ _ h2|s _ _ h3]
theorem StA.keep{H H':Hp}(s:Tps H H'){v:V}:∀{t:Stp},StA H v t->StA H' v t
 | .rest,⟨a,e,h⟩=>%[a,e|s _ _ h]
 | .piece _ _,⟨a,e,h⟩=>%[a,e|s _ _ h]
 | .cut ..,⟨a,x,y,e,h,h1,h2⟩=>%[a,x,y,e,s _ _ h,h1.keep s|h2.keep s]
def RwA(H:Hp)(kv:No Key×V)(r:Pz×Stp):Prop:=kv.1=bK r.1/\StA H kv.2 r.2
theorem RwA.keep{H H':Hp}(s:Tps H H'){kv:No Key×V}{r:Pz×Stp}(h:RwA H kv r):RwA H' kv r:=%[h.1|h.2.keep s]
abbrev RwsA(H:Hp)(kvs:No (No Key×V))(rs:Rws):Prop:=Paired (RwA H) kvs rs
theorem RwsA.keep{H H':Hp}(s:Tps H H'){kvs:No (No Key×V)}{rs:Rws}(h:RwsA H kvs rs):RwsA H' kvs rs:=by
 induction h with
 | nil=>exact .nil
 | cons a _ ih=>exact .cons (a.keep s) ih
theorem RwsA.keys{H:Hp}{kvs:No (No Key×V)}{rs:Rws}(h:RwsA H kvs rs):kvs.map (·.1)=(rs.map (·.1)).map bK:=by
 induction h with
 | nil=>rfl
 | cons a _ ih=>rw[J6,J6,J6,ih,a.1]
theorem RwsA.get{H:Hp}{kvs:No (No Key×V)}{rs:Rws}{b:Pz}(h:RwsA H kvs rs)(m:b∈rs.map (·.1)):∃v,cS kvs (bK b)=some v/\StA H v (hV rs b):=by
 induction h with
 | nil=>cases m
 | @cons kv r kvs rs a _ ih=>
  by_cases e:r.1=b
  ·show%[kv.2,dX (by rw[a.1,e])|?_];unfold hV;rw[NR (by simpa using e)];exact a.2
  ·obtain⟨v,h1,h2⟩:=ih ((J3.mp m).resolve_left λ z=>e z.symm);show%[v,by rw[cO (λ z=>e (iR (a.1.symm.trans z)))];exact h1|?_];unfold hV;rw[NS (by simpa using e)];exact h2
theorem RwsA.no{H:Hp}{kvs:No (No Key×V)}{rs:Rws}{b:Pz}(h:RwsA H kvs rs)(m:b∉rs.map (·.1)):cS kvs (bK b)=none:=by
 induction h with
 | nil=>rfl
 | @cons kv r kvs rs a _ ih=>
  rw[cO (λ z=>m (J3.mpr (.inl (iR (a.1.symm.trans z)).symm)))];exact ih λ z=>m (B6 _ z)
theorem oH:∀b:Pz,eJ (List.replicate b.length false) (bV b)=some b
 | []=>rfl
 | x :: b=>by
  have ih:=oH b;change eJ (false :: List.replicate b.length false) (V.int x :: bV b)=_;simp only[eJ,ih]
  rfl
def unK(k:No Key):Pz:=k.map λ x=>match x with
 | .inl i=>i
 | .inr _=>0
theorem qw:∀b:Pz,unK (bK b)=b
 | []=>rfl
 | x :: b=>by change x :: unK (bK b)=x :: b;rw[qw b]
abbrev BsA(H:Hp)(as:No Nj)(bs:P0):Prop:=Paired (λ c b=>H c= ~~~(bV b)) as bs
theorem BsA.keep{H H':Hp}(s:Tps H H'){as:No Nj}{bs:P0}(h:BsA H as bs):BsA H' as bs:=G7 h λ _ _ e=>s _ _ e
def rU:Sp:=λ vs H Q _=>∃(a:Nj)(n:Nat)(kvs:No (No Key×V))(rs:Rws),vs=[.ref a]/\Rd H a (.dT kvs)/\RwsA H kvs rs/\(rs.map (·.1)).Nodup/\(∀b∈rs.map (·.1),b.length=n)/\1<=n/\n<=8/\rs.length<=64/\((rs.map (·.1)).length < 64\/∀l:P0,l.Perm (rs.map (·.1))->l.filter (gb (rs.map (·.1)))=eA (rs.map (·.1))) /\
 ∀(d:Nj)(kvs':No (No Key×V))(H':Hp),H d=none->H' d=some (.dT kvs')->RwsA H' kvs' (jr rs)->Sf (· = a) H H'->Q (.ref d) H'
theorem scalone:FnScope PL PM (defScope bz):=%[U,U,U,∅,U,∅|∅]
theorem xx{f:Nj}{fd:G1}(F:Fun K "greatest_alone" "greatest_alone" bz f fd)(B:Blt mg)(han:mg "any" = none)(DLe:Dn P w K mg base "is_lesser" PJ 1 (xn)):FnOk P w K mg base CX0 2 f fd PM (rU):=by
 exists scalone;show bX λ G9 k9=>?_;obtain⟨a,n,kvs,rs,rfl,ha,hrw,rnd,rl,n1,n8,r4,r5,q⟩:=h;show k9 ?_;have hu:=hr.units;have hu1:=C8 (Mm (show 1<=64 by decide) _) hu;show%[_,((wA (i:=1) (own:=["one"]) (cs:=PM) (cap:=[0]) U nd U U U (bj (@ap _ _ _ _ _ _ _ _ _ (kW U) U B.sorted PyProof.Rows.boot_sorted ('0'^^^ae) ∅ ∅ U U)) (qd (sc:=defScope bz) (N:=PL) U U ∅) (λ _ _ _ _ _=>am (i:=0) (by change List.Nodup (["one","steps"]:No Str) ;decide +kernel) U (Or.inr U) (Or.inl U)) (λ _ _ _ _ _=>(jK (@aY _ _ _ _ (@aR _ _ _ (ap (r:=Ca K) (fN U) U han PyProof.Rows.boot_any ((aX (own:=["other"]) (cs:=["one"]) (cap:=[0]) U (tJ K U '1') (az (N:=["one","steps"]) U U (by rfl)) (λ _ _ _ _ _=>am (i:=0) (by change List.Nodup (["other","one"]:No Str) ;decide +kernel) U (Or.inl U) (Or.inr U)) (λ _ _ _ _ _=>aK) (λ _ _ _ _ _=>(DLe∪('1'^^^('0'^^^ae)))))^^^ae)) (by intro _;rfl))))) (λ _ _ _ _ _=>'0'))<<<((oj (own:=["bundle"]) (cs:=PM) (cap:=[0]) U hu1 (bj '1') (az (sc:=defScope bz) (N:=PL) U U ∅) (λ _ _ _ _ _=>am (i:=0) (by change List.Nodup (["bundle","steps"]:No Str) ;decide +kernel) U (Or.inl U) (Or.inr U)) (λ _ _ _ _ _=>aK) (λ _ _ _ _ _=>'0') (λ _ _ _ _ _=>(dC hu1 '1' '0' (λ _ _=>U))))⁻¹))|?_];dsimp only[bW];have z4:4096<=sizeLine:=∅
 have kl:=E6 hrw;have ek:=RwsA.keys hrw;obtain⟨bs,hbs⟩:∃bs,bs=rs.map (·.1):=%[_|U]
 rw[<- hbs]at ek rnd rl r5;have el:bs.length=rs.length:=by rw[hbs,B5]
 have sl:(xo bs).length=bs.length:=(et bs).length_eq;show ao (λ R=>∀(gl:Nj)(as:No Nj)(H':Hp),H' gl=↥(as.map V.ref)->BsA H' as (eA bs)->Sf (· = a) H H'->R [↑a,↑gl] H') (λ Dd hR=>?_) ?_
 ·show%[_,U,a,kvs,List.replicate n false,unK,U,ha,⋯,?_,?_|λ l as' ks' hl pa pp ps=>?_]
  ·obtain⟨m,rfl⟩:∃m,n=m+1:=%[n - 1|⋯]
   rfl
  ·intro kv hkv;have hm:kv.1∈bs.map bK:=by rw[<- ek];exact J5.mpr %[kv,hkv|U]
   obtain⟨b,hb,e⟩:=J5.mp hm;rw[<- e,cW,qw,<- rl b hb];exact oH b
  obtain⟨bs',e1,p1⟩:=dD bK pp bs ek;subst e1;have sl':=p1.length_eq;have fin:bs'.filter (gb bs)=eA bs:=by
   rcases r5 with r5 | r5
   ·have ps:=ps ⋯;rw[MO,show unK∘bK=id from funext qw,List.map_id]at ps;rw[uj p1 ps];rfl
   ·exact r5 _ p1
  show aF hl λ H1 k1 s1=>?_;have pa1:BsA H1 as' bs':=by
   have:∀(as:No Nj)(bs:P0),Paired (λ a k=>H a= ~~~(List.map kV k)) as (bs.map bK)->BsA H1 as bs:=λ as=>by
    induction as with
    | nil=>intro bs h;cases bs with
     | nil=>exact .nil
     | cons _ _=>cases h
    | cons c as ih=>intro bs h;cases bs with
     | nil=>cases h
     | cons b bs=>cases h with
      | cons h1 h2=>exact .cons (by rw[cW]at h1;exact s1 _ _ h1) (ih bs h2)
   exact this _ _ pa
  have al:=E6 pa1;have rd1:=(Same.sf (F:=(· = a)) s1).rd ha;show%[l,U,%[_|G6 k1]|(bu (K:=K) (.inl k1) (λ i us Hx=>Sf (· = a) H1 Hx/\∃as,us=as.map V.ref/\BsA Hx as ((bs'.take i).filter (gb bs))) (λ i us Hx _ ⟨sx,_⟩ o e=>by cases(k1.symm.trans e);exact sx.lst k1) %[Same.sf (Same.refl _),[],U|.nil] ?_ ?_).1 k1]
  ·rintro i x us Hx hi ⟨sx,as,rfl,pas⟩;have hin:=(A7.mp hi).1;rw[J0]at hi;obtain⟨c,hc,rfl⟩:=J8.mp hi;obtain⟨b,hb,hcb⟩:=G8 pa1 hc;have tk:bs'.take (i+1)=bs'.take i ++ [b]:=by rw[K6,hb];rfl
   have pn:=List.filter_append (p:=gb bs) (bs'.take i) [b];rw[<- tk]at pn;have bm:b∈bs:=p1.mem_iff.mp (B7 hb);have bl:=rl b bm;show%[by rw[B5,Paired.length pas];exact C8 (NU _ _) (by rw[K0];lia),leS.set rfl|?_];show%[_,U,a,kvs,U,sx.rd rd1|λ ob Hy hy sy=>?_];have hcy:Hy c= ~~~(bV b):=sy.tps _ _ (sx.tps _ _ hcb);have rwy:RwsA Hy kvs rs:=hrw.keep λ x xs e=>sy.tps _ _ (sx.tps _ _ (s1 _ _ e));show tE (λ j vs Hz=>Same Hy Hz/\vs=((bs.take j).map λ c=>jq b c).map V.bl) %[Same.refl _|rfl] (λ j vs Hz _ ⟨sz,_⟩=>sz _ _ hy) ?_ ?_ ?_
   ·rintro j kk v q vs Hz hj hq ⟨sz,rfl⟩;have hjn:=(A7.mp hj).1;obtain⟨r,hr,hk,_⟩:=G8 rwy hj;have hk:kk=bK r.1:=hk;have hbj:bs[j]?=some r.1:=by rw[hbs,J0,hr];rfl
    have rj:=rl r.1 (B7 hbj);rw[hk,cW]at hq;show%[leS.set rfl|aL %[_,U,_,U,c,q,b,r.1,U,sz _ _ hcy,hq,⋯,⋯|λ H' s'=>Nx.of hjn %[sz.trans s'|?_]]];rw[K6,hbj,K9,J4,J4]
    rfl
   ·rintro j vs Hz hj ⟨_,rfl⟩;rw[B5,B5,K0];lia
   ·rintro vs Hz ⟨sz,rfl⟩;rw[K5 ⋯];show%[by rw[B5,B5];lia|λ p hp=>%[p,_,U,G6 ai,_,U|?_]];have s9:Sf (· = a) H1 (upd Hz p (.lst ((bs.map λ c=>jq b c).map V.bl))):=(sx.trans sy).trans (Same.sf (sz.trans (G4 hp)));have t9:Tps Hx (upd Hz p (.lst ((bs.map λ c=>jq b c).map V.bl))):=λ x xs e=>(G4 hp) _ _ (sz _ _ (sy.tps _ _ e));show cx (λ c1=>%[_,U|Nx.of hin %[s9,as ++ [c],by rw[J4];rfl|?_]]) (λ c1=>Nx.of hin %[s9,as,rfl|?_])
    ·rw[pn,List.filter_cons,Nw (show gb bs b=true from c1),List.filter_nil];exact Paired.app (pas.keep t9) (.cons (t9 _ _ (sx.tps _ _ hcb)) .nil)
    ·rw[pn,List.filter_cons,Nv (show¬ gb bs b=true from c1),List.filter_nil,MR];exact pas.keep t9
  ·rintro us Hx ⟨sx,as,rfl,pas⟩;rw[B5,al,MG]at pas;have pl:=E6 pas;rw[fin]at pas;show%[by rw[B5,pl];exact C7 (NU _ _) ⋯|λ p hp=>?_];show aF hp λ H2 k2 s2=>?_;exact hR p as _ k2 (pas.keep (Same.tps s2)) ((Same.sf s1).trans (sx.trans (Same.sf s2)))
 rintro gl as H1 hgl pas s1;have rd1:=s1.rd ha;have rw1:=hrw.keep s1.tps;have tl:(eA bs).length<=bs.length:=C7 (NU _ _) ⋯;have tnd:=dw rnd;have al:=E6 pas;show%[_,U,gl,U,%[_|G6 hgl]|qj (K:=K) hgl (λ i Nr Hx=>Same H1 Hx/\Nr.length=i/\(∀r∈Nr,Hx r.1= ~~~(r.2.1.map kV))/\RwsA Hx (kvR Nr) (((eA bs).take i).map λ b=>(b,hV rs b))) (λ i Nr Hx _ h9=>by obtain⟨sx,_,hr,_⟩:=h9;exact%[sx _ _ hgl|hr]) ⟨Same.refl _,U,(λ r hr=>by cases hr),.nil⟩ ?_ ?_]
 ·rintro i x Nr Hx hi ⟨sx,rl1,hr,pr⟩;have hin:=(A7.mp hi).1;rw[B5]at hin;rw[J0]at hi;obtain⟨c,hc,rfl⟩:=J8.mp hi;obtain⟨b,hb,hcb⟩:=G8 pas hc;have bm:b∈bs:=(mem_topB.mp (B7 hb)).1;obtain⟨v,hv,hst⟩:=rw1.get (by rw[<- hbs];exact bm);have hcx:Hx c= ~~~((bK b).map kV):=by rw[cW];exact sx _ _ hcb
  have tk:(eA bs).take (i+1)=(eA bs).take i ++ [b]:=by rw[K6,hb];rfl
  show%[⋯,leS.set rfl|aL %[_,U,_,U,_,U,a,v,U,hv ▸ DGet.r ((Same.sf (F:=(· = a)) sx).rd rd1) hcx,c,bK b,U,hcx,?_|NxD.of (by rw[B5];exact hin) %[sx,by rw[K4,rl1];rfl,λ r hr'=>?_|?_]]]
  ·intro hm;have ek':=pr.keys;have:Nr.map (·.2.1)=(kvR Nr).map (·.1):=by unfold kvR;rw[MO];rfl
   rw[this,ek',MO,MO]at hm;obtain⟨d,hd,e⟩:=J5.mp hm;have:d=b:=iR e;subst this;obtain⟨k,hk1,hk2⟩:=List.getElem_of_mem hd;rw[List.getElem_take]at hk2;rw[K0]at hk1;have hbb:=(A7.mp hb).2;have hbl:=(A7.mp hb).1;have:=(List.getElem_inj (h₀:=show k < (eA bs).length by lia) (h₁:=hbl) tnd).mp (hk2.trans hbb.symm);lia
  ·rcases C4.mp hr' with h | h
   ·exact hr r h
   ·rw[E5.mp h];exact hcx
  ·rw[tk,J4,show kvR (Nr ++ [(c,bK b,v)])=kvR Nr ++ [(bK b,v)]by unfold kvR;rw[J4];rfl];exact Paired.app pr (.cons %[U|hst.keep (Same.tps sx)] .nil)
 ·rintro Nr Hx ⟨sx,rl1,hr,pr⟩;rw[B5]at rl1 pr;rw[al,MG]at pr;show%[⋯|λ d hd=>?_];have hdH:H d=none:=(s1.trans (Same.sf sx)).free hd;show q d _ _ hdH ai ?_ ((s1.trans (Same.sf sx)).trans (Same.sf (G4 hd)));unfold jr;rw[<- hbs];exact pr.keep (Same.tps (G4 hd))
def kI(b:Int)(ks:No Kd)(fa:Nj)(H:Hp)(ss:No ((Int×Int)×V)):Prop:=∀q v,(q,v)∈ss->∃d kvs,v=.ref d/\d≠fa/\Rd H d (.dT kvs)/\RwsA H kvs (gB b ks q)
abbrev FdS(ss:No ((Int×Int)×V)):Nj->Prop:=λ a=>∃q,(q,V.ref a)∈ss
theorem RwsA.set{H:Hp}{kvs:No (No Key×V)}{rs:Rws}{b:Pz}{t:Stp}{v':V}(h:RwsA H kvs rs)(e:cS kvs (bK b)=some v'):gy rs (b,t)=rs:=by unfold gy;show Nw (OP λ z=>?_);rw[h.no z]at e;cases e
theorem RwsA.put{H:Hp}{kvs:No (No Key×V)}{rs:Rws}{b:Pz}{t:Stp}{v:V}(h:RwsA H kvs rs)(s:StA H v t)(e:cS kvs (bK b)=none):RwsA H (dW kvs (bK b) v) (gy rs (b,t)):=by rw[nL v e];unfold gy;rw[Nv (λ z=>by obtain⟨v',h1,_⟩:=h.get z;rw[e]at h1;cases h1)];exact Paired.app h (.cons %[U|s] .nil)
def GR(ks:No Kd)(rs:Rws):Prop:=(rs.map (·.1)).Nodup/\∀x∈rs.map (·.1),InB (wsK ks) x
theorem GR.put{ks:No Kd}{rs:Rws}{r:Pz×Stp}(h:GR ks rs)(i:InB (wsK ks) r.1):GR ks (gy rs r):=%[kF h.1|λ x hx=>(putN_keys.mp hx).elim (h.2 x) λ e=>e ▸ i]
theorem GR.few{ks:No Kd}{rs:Rws}(h:GR ks rs)(kw:∀k∈ks,0<=k.wa)(w6:(wsK ks).sum<=6):rs.length<=64:=by have:=InB.few (ws0 kw) w6 h.1 h.2;rw[B5]at this;exact this
theorem GR.zero{ks:No Kd}(kw:∀k∈ks,0<=k.wa):GR ks (eV ks):=by show%[by simp[eV]|λ x hx=>?_];simp only[eV,J6,MY,E5]at hx;rw[hx,show ks.length=(wsK ks).length from(B5 _).symm];exact InB.zero (ws0 kw)
def StI(st:Nj)(ks:No Kd)(H:Hp)(rs:Rws):Prop:=∃kvs,H st=some (.dT kvs)/\RwsA H kvs rs/\GR ks rs
theorem StI.same{st:Nj}{ks:No Kd}{H H':Hp}{rs:Rws}(s:Same H H'):StI st ks H rs->StI st ks H' rs
 | ⟨kvs,h1,h2,h3⟩=>%[kvs,s _ _ h1,h2.keep (Same.tps s)|h3]
theorem StI.sf{F:Nj->Prop}{st:Nj}{ks:No Kd}{H H':Hp}{rs:Rws}(s:Sf F H H')(n:¬ F st):StI st ks H rs->StI st ks H' rs
 | ⟨kvs,h1,h2,h3⟩=>%[kvs,s.not n h1,h2.keep s.tps|h3]
theorem oI{F:Nj->Prop}{st ka:Nj}{ks:No Kd}{H:Hp}{rs:Rws}{b':Pz}{t:Stp}{v:V}{Q:VK}(kw:∀k∈ks,0<=k.wa)(w6:(wsK ks).sum<=6)(hI:StI st ks H rs)(hk:H ka= ~~~(bV b'))(ib:InB (wsK ks) b')(ha:StA H v t)
  (hq:∀v' H',StI st ks H' (gy rs (b',t))->Sg F st H H'->Q v' H'):wH (.ref st) [.ref ka,v] H Q:=by
 obtain⟨kvs,h1,h2,h3⟩:=hI;have z4:4096<=sizeLine:=∅
 have l1:=h3.few kw w6;have l2:=E6 h2;show%[st,ka,v,kvs,bK b',U,U,h1,by rw[cW];exact hk,⋯,λ v' hv'=>hq _ _ %[kvs,h1,?_|h3.put ib] (Sg.refl _)|λ hn=>hq _ _ %[_,ai,(h2.put ha hn).keep (Sg.put (F:=F) h1).tps|h3.put ib] (Sg.put h1)];rw[h2.set hv'];exact h2
def fA(b:Int)(ks:No Kd):Prop:=0<=b/\1<=ks.length/\ks.length<=8/\(∀k∈ks,0<=k.wa)/\(wsK ks).sum<=6
def rV(C:Nj):Sp:=λ vs H Q _=>∃(s t fa:Nj)(b:Int)(ks:No Kd)(p:Int×Int)(ss:No ((Int×Int)×V)),vs=[.ref s,.ref t,.ref fa]/\ShopAt C H s b ks/\fA b ks/\H t= ~~~[.int p.1,.int p.2]/\1<=p.1/\p.1<=8/\1<=p.2/\p.2<=8 /\
 H fa=some (.dT (byP ss))/\kI b ks fa H ss/\(∀c∈cH b p.1 p.2,cI p.1 p.2 c∈ss.map (·.1)/\cK b p.1 p.2 c∈ss.map (·.1)) /\
 ∀(d:Nj)(kvs:No (No Key×V))(H':Hp),H d=none->H' d=some (.dT kvs)->RwsA H' kvs (bJ b ks (gB b ks) p)->Sf (FdS ss) H H'->Q (.ref d) H'
theorem scsteps:FnScope PN PP (defScope cF):=%[U,U,U,∅,U,∅|∅]
theorem xy{f:Nj}{fd:G1}(F:Fun K "steps_of_part" "steps_of_part" cF f fd){C:Nj}(B:Blt mg)(Z:BeC mg)(T:ShopTxt K C)(MW:Mn P w K mg base C "wanted" O1 1 (ei C))(MB:Mn P w K mg base C "blade" O1 1 (mO C))(DLI:Dn P w K mg base "lyings_in" O6 5 ((spLyIn C)))(DB1:Dn P w K mg base "bundle_of_one" PF 1 (xk))(DJ:Dn P w K mg base "joined" PH 1 (xl))(DCU:Dn P w K mg base "cuts_of" PD 2 (spCuts)):FnOk P w K mg base CX0 6 f fd PP (rV C):=by
 exists scsteps;show bX λ G9 k9=>?_;obtain⟨s,t,fa,b,ks,p,ss,rfl,S0,⟨b0,k1,k8,kw,w6⟩,ht,p1,p8,h1,h8,hfa,fok,cin,q⟩:=h;show k9 ?_;have hu:=hr.units;have hu1:=C8 (Mm (show 1<=64 by decide) _) hu;obtain⟨trs,hrs⟩:=Z.rs;obtain⟨tpc,hpc⟩:=Z.pc;show%[_,((3∣(iG '0' T.cl MW (hr.mono ∅)))<<<((4∣(lO (Nat.lt_of_succ_lt hu1) (@aT _ _ _ _ _ _ _ _ _ aQ U B.tuple N0 ((aX (own:=["many"]) (cs:=[]) (cap:=[]) U (jE '3') (az (sc:=defScope cF) (N:=PN) U U ∅) (λ _ _ _ _ _=>am (i:=0) (by change List.Nodup (["many"]:No Str) ;decide +kernel) U (Or.inl U) (Or.inr U)) (λ _ _ _ _ _=>aK) (λ _ _ _ _ _=>ag))^^^ae) ∅ ∅ U U) (@aJ _ _ _ _ _ ((cu (v:=.str "rest") U hrs %[trs|U])^^^ae))))<<<((@ce _ _ _ _ _ _ _ _ E7 U (bj (DLI∪('0'^^^('1'^^^ae)))) (bO U (5•(6•bi))) (@ah _ _ _ ((('3'&&&aD&&&'5')<*>gH<*>ag)<|>(@ah _ _ _ (@bL _ _ _ _ (@fX _ _ _ _ _ _ _ _ _ _ _ _ PySem.F.plainAttrs_dict Oa PySem.F.type_dict_setdefault (gv hu1) '4' ((DB1∩('3'^^^('5'^^^ae)))^^^((@aJ _ _ _ _ _ ((cu (v:=.str "piece") U hpc %[tpc|U])^^^('5'^^^('6'^^^(ag^^^(ag^^^ae))))))^^^ae)) U U U U U) U))<|>ay)) (by intro _;rfl))<<<((@ce _ _ _ _ _ _ _ _ E7 U (bj (DCU∩((iG '0' T.cl MB (hr.mono ∅))^^^('1'^^^ae)))) (bO U (7•(8•(9•(10•bi))))) (@ah _ _ _ (@ce _ _ _ _ _ _ _ _ E7 U (kg (dC hu1 '2' '9' (λ _ _=>U))) (am (i:=11) nd U (Or.inl U)) (@ah _ _ _ (@ce _ _ _ _ _ _ _ _ E7 U (kg (dC hu1 '2' ':' (λ _ _=>U))) (am (i:=12) nd U (Or.inl U)) (@ah _ _ _ (@bL _ _ _ _ (@fX _ _ _ _ _ _ _ _ _ _ _ _ PySem.F.plainAttrs_dict Oa PySem.F.type_dict_setdefault (gv hu1) '4' ((DJ∩(';'^^^('<'^^^('3'^^^ae))))^^^((@aJ _ _ _ _ _ ('7'^^^('8'^^^((@aJ _ _ _ _ _ ('9'^^^(';'^^^ae)))^^^((@aJ _ _ _ _ _ (':'^^^('<'^^^ae)))^^^ae)))))^^^ae)) U U U U U) U)) (by intro _;rfl))) (by intro _;rfl))) (by intro _;rfl))<<<('4'⁻¹)))))|?_];dsimp only[bW];have z4:4096<=sizeLine:=∅
 obtain⟨dx,r0,rs0,g1,g2,g3⟩:=id S0;have wl:(wsK ks).length=ks.length:=B5 _;have kw0:=ws0 kw;show ao (λ R=>∀(wt:Nj)(H':Hp),H' wt= ~~~(bV (wsK ks))->Same H H'->R [↑s,↑t,↑fa,↑wt,none,none,none,none,none,none,none,none,none] H') (λ Dd hR=>?_) ?_
 ·show%[_,U,s,dx,_,U,g1,cX _ _ ∅ ∅,s,b,ks,U,S0,k8|λ wt H1 _ h1 s1=>hR wt _ ?_ s1];rw[h1,bV,MO];rfl
 rintro wt H1 hwt s1;have wvl:(bV (wsK ks)).length=ks.length:=by rw[bV,B5,wl]
 show ao (λ R=>∀(st:Nj)(kvs:No (No Key×V))(H':Hp),H1 st=none->H' st=some (.dT kvs)->RwsA H' kvs (eV ks)->Same H1 H'->R [↑s,↑t,↑fa,↑wt,↑st,none,none,none,none,none,none,none,none] H') (λ Dd hR=>?_) ?_
 ·intro st hst;show aF hst λ H2 k2 s2=>?_;have hw2:=s2 _ _ hwt;show%[_,U,wt,U,%[_|G5 hw2]|(bu (K:=K) (.inr hw2) (λ i us Hx=>Same H2 Hx/\us=bV (aG i)) (λ i us Hx _ ⟨sx,_⟩ o e=>sx _ _ e) %[Same.refl _|U] ?_ ?_).2 hw2]
  ·rintro i x us Hx hi ⟨sx,rfl⟩;have hin:=(A7.mp hi).1;rw[wvl]at hin;show%[by rw[bV,aG,B5,K8];lia,leS.set rfl|aL (show Nx (bV (wsK ks)).length (λ i us Hx=>Same H2 Hx/\us=bV (aG i)) i (bV (aG i) ++ [V.int 0]) Hx from Nx.of (by rw[wvl];exact hin) %[sx|?_])];rw[aG,aG,bV,bV,List.replicate_succ',J4];rfl
  ·rintro us Hx ⟨sx,rfl⟩;rw[wvl];show%[by rw[bV,aG,B5,K8];lia|λ cl hcl=>?_];show aF hcl λ H3 k3 s3=>?_;show%[cl,_,U|.inl %[G6 k3|λ kt hkt=>?_]];show aF hkt λ H4 k4 s4=>?_;show%[zS1|λ vt hvt=>?_];show aF hvt λ H5 k5 s5=>?_;have h5:H5 st=some (.dT []):=s5 _ _ (s4 _ _ (s3 _ _ (sx _ _ k2)));have e5:H5 kt= ~~~((bK (aG ks.length)).map kV):=by rw[cW];exact s5 _ _ k4
   show%[h5,kt,bK (aG ks.length),U,e5|hR st _ _ hst ai (.cons %[U,vt,U|?_] .nil) (λ c o e=>?_)]
   ·rw[ak (λ z=>by rw[z,h5]at k5;cases k5)];exact k5
   ·rw[ak (aj e hst)];exact s5 _ _ (s4 _ _ (s3 _ _ (sx _ _ (s2 _ _ e))))
 rintro st kvs0 H2 hst1 hst rw0 s2;have hstH:H st=none:=s1.free hst1;have nfa:¬ FdS ss fa:=λ⟨q',m⟩=>by obtain⟨d,_,e,n,_⟩:=fok q' _ m;cases e;exact n rfl
 have fnst:fa≠st:=aj hfa hstH;have s02:=s1.trans s2;have in0:StI st ks H2 (eV ks):=%[kvs0,hst,rw0|GR.zero kw]
 have nst:¬ FdS ss st:=λ⟨q',m⟩=>by obtain⟨d,kv,e,_,rd,_⟩:=fok q' _ m;cases e;rcases rd with z | ⟨_,z⟩ <;> rw[hstH]at z <;> cases z
 show ao (λ R=>∀(v5 v6:Nm V)(H':Hp),StI st ks H' (eQ (eV ks) (lyC ks p))->Sg (FdS ss) st H2 H'->R [↑s,↑t,↑fa,↑wt,↑st,v5,v6,none,none,none,none,none,none] H') (λ Dd hR=>?_) ?_
 ·have S2:=S0.keep (λ c o e=>s02 _ _ e) (λ c C' d fs e=>s02 _ _ e);show%[_,U,_,U,s,t,b,ks,p.1,p.2,U,S2,k8,s02 _ _ ht|λ ll ys H3 _ hll pys s3=>?_];obtain⟨ly,ely⟩:∃ly,ly=(lyK ks 0).filter (gx ks p.1 p.2):=%[_|U]
  rw[<- ely]at pys;have yl:=E6 pys;show%[ll,U,%[_|G6 hll]|cN (xs:=ys) (λ i σ' H'=>∃(v5 v6:Nm V),σ'=[↑s,↑t,↑fa,↑wt,↑st,v5,v6,none,none,none,none,none,none]/\StI st ks H' (eQ (eV ks) ((ly.take i).flatMap (lyR ks)))/\Sg (FdS ss) st H3 H') %[none,none,U,in0.same s3|Sg.refl _] (λ i σ Hx _ h9=>by obtain⟨_,_,_,_,sx⟩:=h9;exact G6 (sx.lst hll)) ?_ ?_]
  ·rintro i x σ Hx hi ⟨v5,v6,rfl,inx,sx⟩;obtain⟨qq,hq,ta,rfl,hta⟩:=G8 pys hi;have qm:=B7 hq;have qk:∃k,ks[qq.1]?=some k:=(rR (M5.mp (ely ▸ qm)).1).2;obtain⟨k,hk⟩:=qk;have tk:(ly.take (i+1)).flatMap (lyR ks)=(ly.take i).flatMap (lyR ks) ++ lyR ks qq:=by rw[K6,hq,K9,NH,M4,List.flatMap_nil,MR]
   have wk:waA ks qq.1=k.wa:=by unfold waA;rw[hk];rfl
   have hwx:Hx wt= ~~~(bV (wsK ks)):=sx.tps _ _ (s3 _ _ (s2 _ _ hwt));have hat:(bV (wsK ks))[qq.1]? = ⇑k.wa:=by rw[bV,J0,J0,hk];rfl
   show%[ta,_,U,G5 (sx.tps _ _ hta),U,_,_,U,_,_,U,U|?_];show%[_,U,_,U,wt,_,_,_,U,U,G5 hwx,gL hat,_,_,U,U,_,U|?_];show cx (λ c1=>?_) (λ c1=>?_)
   ·have c1':0 < k.wa:=C2 c1;have lr:lyR ks qq=[(bY ks.length qq.1,.piece qq.1 qq.2)]:=by unfold lyR;rw[wk,Nw c1']
    show%[_,U,.inr (.inr (.inl %[U|.inr (let ⟨kv,h,_⟩:=inx;%[kv|h])])),_,U,_,U,wt,wsK ks,(qq.1:Int),U,hwx,⋯|λ ka H4 hka s4=>?_];rw[wl]at hka;show%[_,U,_,U,zS5|λ va hva=>?_];show aF hva λ H5 k5 s5=>?_;show oI (F:=FdS ss) kw w6 (inx.same (s4.trans s5)) (s5 _ _ hka) (xt kw (q:=qq) (r:=(bY ks.length qq.1,.piece qq.1 qq.2)) (by rw[lr];exact E5.mpr rfl)) (t:=.piece qq.1 qq.2) %[va,rfl|k5] λ v' H6 in6 s6=>%[_,_,U,?_|(sx.trans (Same.sg (s4.trans s5))).trans s6]
    rw[tk,lr,hG];exact in6
   ·have lr:lyR ks qq=[]:=by unfold lyR;rw[wk,Nv (λ z=>c1 (Ny z))]
    show%[_,_,U,?_|sx];rw[tk,lr,MR];exact inx
  ·rintro σ Hx ⟨v5,v6,rfl,inx,sx⟩;rw[K5 ⋯,ely]at inx;exact hR v5 v6 _ inx ((Same.sg s3).trans sx)
 rintro v5 v6 H3 in3 s3;obtain⟨R0,eR0⟩:∃R0,R0=eQ (eV ks) (lyC ks p):=%[_|U]
 rw[<- eR0]at in3;have s03:Sg (FdS ss) st H H3:=(Same.sg s02).trans s3;show ao (λ R=>∀(v7 v8 v9 v10 v11 v12:Nm V)(H':Hp),StI st ks H' (bJ b ks (gB b ks) p)->Sg (FdS ss) st H H'->R [↑s,↑t,↑fa,↑wt,↑st,v5,v6,v7,v8,v9,v10,v11,v12] H') (λ Dd hR=>?_) ?_
 ·show%[_,U,s,dx,_,U,s03.ins g1,cX _ _ ∅ ∅,s,b,ks,U,S0.keep s03.tps (λ _ _ _ _ e=>s03.ins e)|?_];show%[_,U,b,p.1,p.2,t,U,s03.tps _ _ ht,⋯,⋯,b0|λ cl cy H4 hcl pc s4=>?_];have s04:Sg (FdS ss) st H H4:=s03.trans (Same.sg s4);have cyl:=E6 pc;have wt4:H4 wt= ~~~(bV (wsK ks)):=s4 _ _ (s3.tps _ _ (s2 _ _ hwt));show%[cl,U,%[_|G6 hcl]|cN (xs:=cy) (λ i σ' H'=>∃(v7 v8 v9 v10 v11 v12:Nm V),σ'=[↑s,↑t,↑fa,↑wt,↑st,v5,v6,v7,v8,v9,v10,v11,v12]/\StI st ks H' (eQ R0 (((cH b p.1 p.2).take i).flatMap (oF b ks (gB b ks) p)))/\Sg (FdS ss) st H4 H') %[none,none,none,none,none,none,U,in3.same s4|Sg.refl _] (λ i σ Hx _ h9=>by obtain⟨_,_,_,_,_,_,_,_,sx⟩:=h9;exact G6 (sx.lst hcl)) ?_ ?_]
  ·intro i x σ Hx hi hI9;show bX λ G9 k9=>?_;obtain⟨v7,v8,v9,v10,v11,v12,rfl,inx,sx⟩:=hI9;show k9 ?_;obtain⟨c,hc,ta,t1,t2,rfl,hta,ht1,ht2⟩:=G8 pc hi;have cm:=B7 hc;obtain⟨m1,m2⟩:=cin c cm;obtain⟨w1,hv1,hm1⟩:=fS m1;obtain⟨w2,hv2,hm2⟩:=fS m2;obtain⟨d1,kv1,rfl,nd1,rd1,rw1⟩:=fok _ _ hm1;obtain⟨d2,kv2,rfl,nd2,rd2,rw2⟩:=fok _ _ hm2;have n1:d1≠st:=λ z=>nst (z ▸ %[_|hm1]);have n2:d2≠st:=λ z=>nst (z ▸ %[_|hm2]);have s0x:Sg (FdS ss) st H Hx:=s04.trans sx;have hfx:Hx fa=some (.dT (byP ss)):=s0x.not fnst nfa hfa;have tk:((cH b p.1 p.2).take (i+1)).flatMap (oF b ks (gB b ks) p)=((cH b p.1 p.2).take i).flatMap (oF b ks (gB b ks) p) ++ oF b ks (gB b ks) p c:=by rw[K6,hc,K9,NH,M4,List.flatMap_nil,MR]
   obtain⟨R1,eR1⟩:∃R1,R1=eQ R0 (((cH b p.1 p.2).take i).flatMap (oF b ks (gB b ks) p)):=%[_|U]
   rw[<- eR1]at inx;show%[ta,_,U,G5 (sx.tps _ _ hta),U,_,_,U,_,_,U,_,_,U,_,_,U,U|?_];show%[_,U,_,U,fa,_,U,hv1 ▸ DGet.t (k:=pk (cI p.1 p.2 c)) hfx (sx.tps _ _ ht1),d1,kv1,U,s0x.rd n1 rd1|λ ob1 Hy hy1 sy=>?_];have sy':Sf (FdS ss) Hx Hy:=sy.mono λ a (e:a=d1)=>e ▸ %[_|hm1]
   have s0y:=s0x.trans sy'.sg;obtain⟨os,eos⟩:∃os,os=gK b ks (cI p.1 p.2 c):=%[_|U]
   obtain⟨us,eus⟩:∃us,us=gK b ks (cK b p.1 p.2 c):=%[_|U]
   have r1l:kv1.length=os.length:=by rw[eos,gK,B5];exact E6 rw1
   have r2l:kv2.length=us.length:=by rw[eus,gK,B5];exact E6 rw2
   show nT (λ j σ' H'=>∃(v11 v12:Nm V),σ'=[↑s,↑t,↑fa,↑wt,↑st,v5,v6,some (wv c.1),⇑c.2,↑t1,↑t2,v11,v12]/\StI st ks H' (eQ R1 ((os.take j).flatMap (uk b ks p c us)))/\Sg (FdS ss) st Hy H') %[v11,v12,rfl,inx.sf sy' nst|Sg.refl _] (λ j σ Hz _ h9=>by obtain⟨_,_,_,_,sz⟩:=h9;exact sz.frz hy1) ?_ ?_
   ·rintro j kk vv q1 σ Hz hj hq1 ⟨v11,v12,rfl,inz,sz⟩;obtain⟨ro,hro,hk1,_⟩:=G8 rw1 hj;have hoj:os[j]?=some ro.1:=by rw[eos,gK,J0,hro];rfl
    have hk1:kk=bK ro.1:=hk1;rw[hk1,cW]at hq1;have io:InB (wsK ks) ro.1:=bD kw (eos ▸ B7 hoj);have s0z:=s0y.trans sz;have hfz:Hz fa=some (.dT (byP ss)):=s0z.not fnst nfa hfa;have tz:Tps H4 Hz:=λ a xs e=>sz.tps _ _ (sy'.tps _ _ (sx.tps _ _ e));have tkj:(os.take (j+1)).flatMap (uk b ks p c us)=(os.take j).flatMap (uk b ks p c us) ++ uk b ks p c us ro.1:=by rw[K6,hoj,K9,NH,M4,List.flatMap_nil,MR]
    obtain⟨R2,eR2⟩:∃R2,R2=eQ R1 ((os.take j).flatMap (uk b ks p c us)):=%[_|U]
    rw[<- eR2]at inz;show%[_,U,_,U,fa,_,U,hv2 ▸ DGet.t (k:=pk (cK b p.1 p.2 c)) hfz (tz _ _ ht2),d2,kv2,U,s0z.rd n2 rd2|λ ob2 Hu hu2 su=>?_];have su':Sf (FdS ss) Hz Hu:=su.mono λ a (e:a=d2)=>e ▸ %[_|hm2]
    show nT (λ k σ' H'=>∃(v12:Nm V),σ'=[↑s,↑t,↑fa,↑wt,↑st,v5,v6,some (wv c.1),⇑c.2,↑t1,↑t2,↑q1,v12]/\StI st ks H' (eQ R2 ((us.take k).map (Cf b ks p c ro.1)))/\Sg (FdS ss) st Hu H') %[v12,rfl,inz.sf su' nst|Sg.refl _] (λ k σ Hv _ h9=>by obtain⟨_,_,_,sv⟩:=h9;exact sv.frz hu2) ?_ ?_
    ·rintro k kk2 vv2 q2 σ Hv hk' hq2 ⟨v12,rfl,inv,sv⟩;obtain⟨ru,hru,hk2,_⟩:=G8 rw2 hk';have huk:us[k]?=some ru.1:=by rw[eus,gK,J0,hru];rfl
     have hk2:kk2=bK ru.1:=hk2;rw[hk2,cW]at hq2;have iu:InB (wsK ks) ru.1:=bD kw (eus ▸ B7 huk);have tv:Tps Hz Hv:=λ a xs e=>sv.tps _ _ (su'.tps _ _ e);have t4v:Tps H4 Hv:=λ a xs e=>tv _ _ (tz _ _ e);show%[_,U,.inr (.inr (.inl %[U|.inr (let ⟨kv,h,_⟩:=inv;%[kv|h])])),_,U,_,U,_,U,q1,q2,wt,ro.1,ru.1,wsK ks,U,tv _ _ hq1,hq2,t4v _ _ wt4,by rw[io.1,iu.1],io.1,by rw[io.1,wl];exact k8|λ ka H5 hka s5=>?_];show%[_,U,_,U,_,U,_,U,zS2|λ xa hxa=>?_];show aF hxa λ H6 k6 s6=>?_;show%[_,U,_,U,zS2|λ ya hya=>?_];show aF hya λ H7 k7 s7=>?_;show%[zS4|λ va hva=>?_];show aF hva λ H8 kk8 s8=>?_;have s58:Same H5 H8:=(s6.trans s7).trans s8;have sv8:Same Hv H8:=s5.trans s58;show oI (F:=FdS ss) kw w6 (inv.same sv8) (s58 _ _ hka) (InB.join kw0 io iu) (t:=.cut c.1 c.2 (cI p.1 p.2 c) ro.1 (cK b p.1 p.2 c) ru.1) %[va,_,_,rfl,kk8,%[xa,t1,q1,rfl,s8 _ _ (s7 _ _ k6),sv8 _ _ (t4v _ _ ht1)|sv8 _ _ (tv _ _ hq1)]|%[ya,t2,q2,rfl,s8 _ _ k7,sv8 _ _ (t4v _ _ ht2)|sv8 _ _ hq2]] λ v' H9 in9 s9=>%[_,U,?_|(sv.trans (Same.sg sv8)).trans s9]
     rw[K6,huk,K9,J4,hG];exact in9
    ·rintro σ Hv ⟨v12,rfl,inv,sv⟩;show%[_,_,U,?_|sz.trans (su'.sg.trans sv)];rw[tkj,hG,<- eR2];rw[r2l,MG]at inv;exact inv
   ·rintro σ Hz ⟨v11,v12,rfl,inz,sz⟩;show%[_,_,_,_,_,_,U,?_|sx.trans (sy'.sg.trans sz)];rw[tk,hG,<- eR1];rw[r1l,MG]at inz;unfold oF;rw[eos,eus]at inz;exact inz
  ·intro σ Hx hI9;show bX λ G9 k9=>?_;obtain⟨v7,v8,v9,v10,v11,v12,rfl,inx,sx⟩:=hI9;show k9 ?_;show hR v7 v8 v9 v10 v11 v12 _ ?_ (s04.trans sx);rw[K5 ⋯]at inx;unfold bJ;rw[<- eR0];exact inx
 rintro v7 v8 v9 v10 v11 v12 H4 ⟨kvs,i1,i2,i3⟩ s4;exact%[_,U|q st kvs H4 hstH i1 i2 (s4.sf hstH)]
def kJ(C:Nj):Sp:=λ vs H Q _=>∃(s:Nj)(b:Int)(ks:No Kd)(m n:Nat),vs=[.ref s,.int m,.int n]/\ShopAt C H s b ks/\fA b ks/\1<=m/\m<=8/\1<=n/\n<=8 /\
 ∀(fa:Nj)(ss:No ((Int×Int)×V))(H':Hp),H fa=none->H' fa=some (.dT (byP ss))->ss.map (·.1)=aU m n->kI b ks fa H' ss->(∀a,FdS ss a->H a=none)->Same H H'->Q (.ref fa) H'
def LsA(H H':Hp)(v:V)(bs:P0):Prop:=∃l as,v=.ref l/\H l=none/\H' l=↥(as.map V.ref)/\BsA H' as bs
def oJ(C:Nj):Sp:=λ vs H Q _=>∃(s:Nj)(b:Int)(ks:No Kd)(m n:Nat),vs=[.ref s,.int m,.int n]/\ShopAt C H s b ks/\fA b ks/\1<=m/\m<=8/\1<=n/\n<=8 /\
 ∀(ta:Nj)(ll:No ((Int×Int)×V))(H':Hp),H ta=none->H' ta=some (.dT (byP ll))->ll.map (·.1)=aU m n->(∀q v,(q,v)∈ll->LsA H H' v (gK b ks q))->Same H H'->Q (.ref ta) H'
theorem scgreats:FnScope ["shop","wide","high","found","part"] O8 (defScope cG):=%[U,U,U,∅,U,∅|∅]
theorem uo{f:Nj}{fd:G1}(F:Fun K "greatest_steps" "greatest_steps" cG f fd){C:Nj}(B:Blt mg)(DPU:Dn P w K mg base "parts_up_to" O3 1 (spParts))(DST:Dn P w K mg base "steps_of_part" PP 6 ((rV C)))(DAL:Dn P w K mg base "greatest_alone" PM 2 (rU)):FnOk P w K mg base CX0 7 f fd O8 (kJ C):=by
 exists scgreats;show bX λ G9 k9=>?_;obtain⟨s,b,ks,m,n,rfl,S0,⟨b0,k1',k8,kw,w6⟩,m1,m8,n1,n8,q⟩:=h;show k9 ?_;have hu:=hr.units;have hu1:=C8 (Mm (show 1<=64 by decide) _) hu;show%[_,((3∣nO)<<<((@ce _ _ _ _ _ _ _ _ E7 U (bj (DPU∩('1'^^^('2'^^^ae)))) (am (i:=4) nd U (Or.inl U)) (@ah _ _ _ (yN hu1 '3' '4' (DAL∩((DST∪('0'^^^('4'^^^('3'^^^ae))))^^^ae)) U)) (by intro _;rfl))<<<('3'⁻¹)))|?_];dsimp only[bW];have z4:4096<=sizeLine:=∅
 have wl:(wsK ks).length=ks.length:=B5 _;show ao (λ R=>∀(fa:Nj)(H':Hp),H fa=none->H' fa=some (.dT [])->Same H H'->R [↑s,⇑m,⇑n,↑fa,none] H') (λ Dd hR=>?_) ?_
 ·intro fa hfa;show aF hfa λ H1 k1 s1=>?_;exact hR fa _ hfa k1 s1
 rintro fa H1 hfa k1 s1;show ao (λ R=>∀(ss:No ((Int×Int)×V))(v4:Nm V)(H':Hp),H' fa=some (.dT (byP ss))->ss.map (·.1)=aU m n->kI b ks fa H' ss->((∀a,FdS ss a->H a=none))->Same H H'->R [↑s,⇑m,⇑n,↑fa,v4] H') (λ Dd hR=>?_) ?_
 ·show%[_,U,_,U,m,n,U,⋯,⋯|λ pl ys H3 hpl pys s3=>?_];have pln:=E6 pys;have p64:(aU m n).length<=64:=by rw[eP];exact Nb m8 n8
  have s13:=s1.trans s3;show%[pl,U,%[_|G6 hpl]|cN (xs:=ys) (λ i σ' H'=>∃(ss:No ((Int×Int)×V))(v4:Nm V),σ'=[↑s,⇑m,⇑n,↑fa,v4]/\H' fa=some (.dT (byP ss))/\ss.map (·.1)=(aU m n).take i/\kI b ks fa H' ss/\(∀a,FdS ss a->H a=none)/\Sg (λ a=>H a=none) fa H3 H') ⟨[],none,U,s3 _ _ k1,U,(λ q v h=>by cases h),(λ a ⟨q,h⟩=>by cases h),Sg.refl _⟩ (λ i σ Hx _ h9=>by obtain⟨_,_,_,_,_,_,_,sx⟩:=h9;exact G6 (sx.lst hpl)) ?_ ?_]
  ·intro i x σ Hx hi hI9;show bX λ G9 k9=>?_;obtain⟨ss,v4,rfl,hfx,es,fok,fnw,sx⟩:=hI9;show k9 ?_;obtain⟨p,hp,ta,rfl,hta⟩:=G8 pys hi;have pm:=B7 hp;obtain⟨⟨p1,p2⟩,p3,p4⟩:=partsL_mem.mp pm;have pnew:=qu hp;have sl:ss.length<=64:=by have:=OD List.length es;rw[B5,K0]at this;lia
   have cutIn:∀c∈cH b p.1 p.2,cI p.1 p.2 c∈ss.map (·.1)/\cK b p.1 p.2 c∈ss.map (·.1):=λ c hc=>by obtain⟨⟨a1,a2,a3,a4,a5,_⟩,⟨c1,c2,c3,c4,c5,_⟩⟩:=er b0 p1 p3 hc;rw[es];exact%[jd hp (partsL_mem.mpr %[%[a1|⋯],a2|⋯]) a5|jd hp (partsL_mem.mpr %[%[c1|⋯],c2|⋯]) c5]
   have s0x:Sg (λ a=>H a=none) fa H Hx:=(Same.sg s13).trans sx;have tx:Hx ta= ~~~[.int p.1,.int p.2]:=sx.tps _ _ hta;show%[_,U,_,U,_,U,s,ta,fa,b,ks,p,ss,U,S0.keep s0x.tps (λ _ _ _ _ e=>s0x.ins e),%[b0,k1',k8,kw|w6],tx,p1,⋯,p3,⋯,hfx,fok,cutIn|λ st kvs H4 hst h4 rw4 s4=>?_];have nfa:¬ FdS ss fa:=λ⟨q',mq⟩=>by obtain⟨d,_,e,nn,_⟩:=fok q' _ mq;cases e;exact nn rfl
   have inR:∀x∈(bJ b ks (gB b ks) p).map (·.1),InB (wsK ks) x:=λ x hx=>iQ kw (λ c _=>%[λ r hr=>oG kw hr|λ r hr=>oG kw hr]) hx;have few:=InB.few (ws0 kw) w6 (bR b ks (gB b ks) p) inR;rw[B5]at few;show%[st,ks.length,kvs,_,U,.inl h4,rw4,bR _ _ _ _,λ x hx=>by rw[(inR x hx).1,wl],k1',k8,few,InB.full (ws0 kw) w6 (bR b ks (gB b ks) p) inR|λ d kv5 H5 hd h5 rw5 s5=>?_];rw[<- xq b0 p p1 p3]at rw5;have n1:fa≠st:=aj hfx hst;have f4:H4 fa=some (.dT (byP ss)):=s4.not nfa hfx;have f5:H5 fa=some (.dT (byP ss)):=s5.not n1 f4;have dn:Hx d=none:=s4.free hd;have nd:d≠fa:=(aj hfx dn).symm;have dH:H d=none:=by
    cases e:H d with
    | none=>rfl
    | some o=>
     rcases s0x _ _ e with z | ⟨z,_⟩ | ⟨z,_⟩
     ·rw[dn]at z;cases z
     ·rw[z]at e;cases e
     ·exact absurd z nd
   have stH:H st=none:=by
    cases e:H st with
    | none=>rfl
    | some o=>
     rcases s0x _ _ e with z | ⟨z,_⟩ | ⟨z,_⟩
     ·rw[hst]at z;cases z
     ·rw[z]at e;cases e
     ·exact absurd z.symm n1
   have s45:Sf (λ a=>H a=none) Hx H5:=(s4.mono λ a h=>fnw a h).trans (s5.mono λ a (h:a=st)=>h ▸ stH);show%[_,U,_,U,fa,_,U,DPut.t (k:=pk p) f5 (s45.tps _ _ tx) (by unfold byP;rw[B5];lia),ss ++ [(p,.ref d)],_,U,?_,?_,?_,?_|(sx.trans s45.sg).trans (Sg.put f5)]
   ·rw[zr (by rw[es];exact pnew)];exact ai
   ·rw[J4,es,K6,hp];rfl
   ·intro q' v' hm;have kt:Tps H5 (upd H5 fa (.dT (dW (byP ss) (pk p) (V.ref d)))):=(Sg.put (F:=λ _=>False) f5).tps;rcases C4.mp hm with hm | hm
    ·obtain⟨d',kv',rfl,nn,rd,rw'⟩:=fok q' v' hm;show%[d',kv',U,nn,?_|(rw'.keep s45.tps).keep kt];exact(Sg.put (F:=λ _=>False) f5).rd nn (s45.rd rd)
    ·rw[E5]at hm;cases hm;exact%[d,kv5,U,nd,.inl (by rw[ak nd];exact h5)|rw5.keep kt]
   ·rintro a ⟨q',hm⟩;rcases C4.mp hm with hm | hm
    ·exact fnw a %[q'|hm]
    ·rw[E5]at hm;cases hm;exact dH
  ·intro σ Hx hI9;show bX λ G9 k9=>?_;obtain⟨ss,v4,rfl,hfx,es,fok,fnw,sx⟩:=hI9;show k9 ?_;rw[K5 ⋯]at es;show hR ss v4 _ hfx es fok fnw ?_;exact Sf.same (Same.refl _) (((Same.sg s13).trans sx).sf hfa) (λ _ h=>h)
 rintro ss v4 H2 h2 es fok fnw s2;exact%[_,U|q fa ss H2 hfa h2 es fok fnw s2]
theorem scgreatb:FnScope ["shop","wide","high","found"] O8 (defScope bA):=%[U,U,U,∅,U,∅|∅]
theorem uq{f:Nj}{fd:G1}(F:Fun K "greatest_bundles" "greatest_bundles" bA f fd){C:Nj}(B:Blt mg)(DCK:Dn P w K mg base "check_small" O8 3 ((xj C)))(DGS:Dn P w K mg base "greatest_steps" O8 7 ((kJ C))):FnOk P w K mg base CX0 8 f fd O8 (oJ C):=by
 exists scgreatb;show bX λ G9 k9=>?_;obtain⟨s,b,ks,m,n,rfl,S0,⟨b0,k1',k8,kw,w6⟩,m1,m8,n1,n8,q⟩:=h;show k9 ?_;have hu:=hr.units;have hu1:=C8 (Mm (show 1<=64 by decide) _) hu;show%[_,((@bL _ _ _ _ (DCK∩('0'^^^('1'^^^('2'^^^ae)))) U)<<<((3∣(DGS∪('0'^^^('1'^^^('2'^^^ae)))))<<<((oj (own:=["part","steps"]) (cs:=[]) (cap:=[]) U hu1 (nU '3') (az (sc:=defScope bA) (N:=["shop","wide","high","found"]) U U ∅) (λ _ _ _ _ _=>cU K U U (by change List.Nodup (["part","steps"]:No Str) ;decide +kernel) U U U U) (λ _ _ _ _ _=>aK) (λ _ _ _ _ _=>'0') (λ _ _ _ _ _=>(@aT _ _ _ _ _ _ _ _ _ (kf U) U B.list Ob ('1'^^^ae) ∅ ∅ U U)))⁻¹)))|?_];have z4:4096<=sizeLine:=∅
 show ao (λ R=>∀(H':Hp),Same H H'->R [↑s,⇑m,⇑n,none] H') (λ Dd hR=>?_) ?_
 ·exact%[_,U,_,U,_,U,s,b,m,n,ks,U,S0,k8,⋯,⋯,⋯,⋯,w6|λ H' s'=>hR _ s']
 rintro H1 s1;show ao (λ R=>∀(fa:Nj)(ss:No ((Int×Int)×V))(H':Hp),H1 fa=none->H' fa=some (.dT (byP ss))->ss.map (·.1)=aU m n->kI b ks fa H' ss->Same H1 H'->R [↑s,⇑m,⇑n,↑fa] H') (λ Dd hR=>?_) ?_
 ·exact%[_,U,_,U,_,U,s,b,ks,m,n,U,S0.keep (λ _ _ e=>s1 _ _ e) (λ _ _ _ _ e=>s1 _ _ e),%[b0,k1',k8,kw|w6],m1,m8,n1,n8|λ fa ss H' a1 a2 a3 a4 _ a6=>hR fa ss _ a1 a2 a3 a4 a6]
 rintro fa ss H2 hfa h2 es fok s2;have p64:(aU m n).length<=64:=by rw[eP];exact Nb m8 n8
 have sl:ss.length<=64:=by rw[<- B5 (f:=(·.1)),es];exact p64
 show%[_,U,fa,byP ss,U,h2|λ ob=>?_];have hf:(upd H2 fa (.frz ob (.dT (byP ss)))) fa=some (.frz ob (.dT (byP ss))):=ai;have sf0:Sf (· = fa) H2 (upd H2 fa (.frz ob (.dT (byP ss)))):=λ c o e=>by
  by_cases z:c=fa
  ·subst z;rw[h2]at e;cases e;exact .inr %[U,ob,_,U|ai]
  ·rw[ak z];exact .inl e
 generalize upd H2 fa (.frz ob (.dT (byP ss)))=H3 at hf sf0 ⊢;have fok3:kI b ks fa H3 ss:=λ q' v' hm=>by obtain⟨d,kv,e,nn,rd,rw'⟩:=fok q' v' hm;exact%[d,kv,e,nn,sf0.rd rd|rw'.keep sf0.tps]
 have bl:(byP ss).length=ss.length:=B5 _;have fr:∀{l:Nj},H3 l=none->H l=none:=λ h=>s1.free (s2.free (sf0.free h));have snd:(ss.map (·.1)).Nodup:=by rw[es];exact(dN n m).imp λ {a c} h e=>by subst e;unfold ltP at h;lia
 show oo (λ i Nr Hx=>Same H3 Hx/\Nr.length=i/\(∀r∈Nr,Hx r.1= ~~~(r.2.1.map kV))/\∃ll,kvR Nr=byP ll/\ll.map (·.1)=(ss.map (·.1)).take i/\∀q' v',(q',v')∈ll->LsA H Hx v' (gK b ks q')) ⟨Same.refl _,rfl,(λ r hr=>by cases hr),[],rfl,rfl,(λ q' v' h=>by cases h)⟩ (λ i Nr Hx _ h9=>by obtain⟨sx,_,hr,_⟩:=h9;exact%[sx _ _ hf|hr]) ?_ ?_ ?_
 ·intro i kk v pt qt Nr Hx hi hpt hqt hI9;show bX λ G9 k9=>?_;obtain⟨sx,rl,hr,ll,e1,e2,e3⟩:=hI9;show k9 ?_;have hin:=(A7.mp hi).1;unfold byP at hi;rw[J0]at hi;obtain⟨⟨p,v'⟩,hsi,e⟩:=J8.mp hi;injection e with ek ev
  subst ek ev;have hpi:(ss.map (·.1))[i]?=some p:=by rw[J0,hsi];rfl
  obtain⟨d,kv,e,nn,rd,rwd⟩:=fok3 p v' (B7 hsi);have e:v'=.ref d:=e;subst e;have rl64:kv.length<=64:=by
   have l1:=E6 rwd;have l2:=InB.few (ws0 kw) w6 (bs:=gK b ks p) ?_ (λ x hx=>bD kw hx)
   ·rw[gK,B5]at l2;lia
   ·obtain⟨⟨p1,_⟩,p3,_⟩:=partsL_mem.mp (show p∈aU m n by rw[<- es];exact B7 hpi);rw[rT b0 p p1 p3];exact dw (bR _ _ _ _)
  show aF hpt λ H4 k4 s4=>?_;have s34:=sx.trans s4;show%[pt,_,U,G5 k4,U,_,_,U,_,_,U,U,gY (leS.set rfl) (leS.set rfl)|aL %[_,U,_,U,d,kv,U,(Same.sf (F:=(· = fa)) s34).rd rd|λ l as hl pas=>?_]];show aF hl λ H5 k5 s5=>?_;have hq5:H5 qt= ~~~((pk p).map kV):=s5 _ _ (s4 _ _ hqt);have pn:p∉ll.map (·.1):=λ z=>by rw[e2]at z;obtain⟨k,hk1,hk2⟩:=List.getElem_of_mem z;rw[List.getElem_take]at hk2;rw[K0]at hk1;have hb1:=(A7.mp hpi).1;have hb2:=(A7.mp hpi).2;have:=(List.getElem_inj (h₀:=show k < (ss.map (·.1)).length by lia) (h₁:=hb1) snd).mp (hk2.trans hb2.symm);lia
  show%[qt,pk p,U,hq5,?_|NxD.of hin %[s34.trans s5,by rw[K4,rl];rfl,λ r hr'=>?_,ll ++ [(p,.ref l)],?_,?_|?_]]
  ·intro hm;have:Nr.map (·.2.1)=(kvR Nr).map (·.1):=by unfold kvR;rw[MO];rfl
   rw[this,e1]at hm;unfold byP at hm;rw[MO]at hm;obtain⟨d',hd',e⟩:=J5.mp hm;exact pn (J5.mpr %[d',hd'|qv e])
  ·rcases C4.mp hr' with h | h
   ·exact s5 _ _ (s4 _ _ (hr r h))
   ·rw[E5.mp h];exact hq5
  ·unfold kvR byP at e1 ⊢;rw[J4,J4,e1];rfl
  ·rw[J4,e2,K6,hpi];rfl
  ·intro q' v' hm;rcases C4.mp hm with hm | hm
   ·obtain⟨l',as',e,h1,h2,h3⟩:=e3 q' v' hm;exact%[l',as',e,h1,s5 _ _ (s4 _ _ h2)|h3.keep (Same.tps (s4.trans s5))]
   ·rw[E5]at hm;cases hm;show%[l,as,U,fr (s34.free hl),k5|?_];have:∀(as:No Nj)(kv:No (No Key×V))(rs:Rws),Paired (λ (b:Nj)(kv:No Key×V)=>H4 b= ~~~(kv.1.map kV)) as kv->RwsA H3 kv rs->BsA H5 as (rs.map (·.1)):=λ as kv rs h1 h2=>by
     induction h2 generalizing as with
     | nil=>cases h1;exact .nil
     | cons x _ ih=>cases h1 with
      | cons y z=>exact .cons (by rw[x.1,cW]at y;exact s5 _ _ y) (ih _ z)
    exact this as kv _ pas rwd
 ·rintro i Nr Hx hi ⟨_,rl,_⟩;lia
 ·intro Nr Hx hI9;show bX λ G9 k9=>?_;obtain⟨sx,rl,hr,ll,e1,e2,e3⟩:=hI9;show k9 ?_;show%[⋯|λ ta hta=>?_];rw[e1];have hn:=sx.free hta;rw[bl,K5 (by rw[B5];lia),es]at e2;show aF hta λ H4 k4 s4=>?_;show q ta ll H4 (fr hn) k4 e2 (λ q' v' hm=>?_) (λ c o e=>?_)
  ·obtain⟨l',as',e,h1,h2,h3⟩:=e3 q' v' hm;exact%[l',as',e,h1,s4 _ _ h2|h3.keep (Same.tps s4)]
  ·show s4 _ _ (sx _ _ (sf0.not (λ z=>?_) (s2 _ _ (s1 _ _ e))));have z:c=fa:=z;rw[z,s1.free hfa]at e;cases e
inductive Tr where
 | rest
 | piece (i:Nat) (c:Bool) (x y:Int)
 | cut (dn:Bool) (p:Int) (l r:Tr)
def toD:Tr->PyData
 | .rest=>.tuple [.str "rest"]
 | .piece i c x y=>.tuple [.str "piece",.int i,.bool c,.int x,.int y]
 | .cut dn p l r=>.tuple [.str (if dn=true then "down" else "across"),.int p,toD l,toD r]
def TrV(H:Hp):Tr->V->Prop
 | .rest,v=>∃a,v=.ref a/\H a=some (.tup [.str "rest"])
 | .piece i c x y,v=>∃a,v=.ref a/\H a=some (.tup [.str "piece",.int i,.bl c,.int x,.int y])
 | .cut dn p l r,v=>∃a x y,v=.ref a/\H a=some (.tup [.str (if dn=true then "down" else "across"),.int p,x,y])/\TrV H l x/\TrV H r y
theorem TrV.keep{H H':Hp}(k:∀a xs,H a= ~~~xs->H' a= ~~~xs):∀(t:Tr){v:V},TrV H t v->TrV H' t v
 | .rest,_,⟨a,e,h⟩=>%[a,e|k _ _ h]
 | .piece ..,_,⟨a,e,h⟩=>%[a,e|k _ _ h]
 | .cut _ _ l r,_,⟨a,x,y,e,h,h1,h2⟩=>%[a,x,y,e,k _ _ h,TrV.keep k l h1|TrV.keep k r h2]
theorem TrV.dat{K:C6}{H:Hp}:∀(t:Tr){v:V},TrV H t v->DatV K H v (toD t)
 | .rest,_,⟨a,e,h⟩=>by subst e;exact .tup (G5 h) (.cons (.str _) .nil)
 | .piece ..,_,⟨a,e,h⟩=>by subst e;exact .tup (G5 h) (.cons (.str _) (.cons (.int _) (.cons (.bl _) (.cons (.int _) (.cons (.int _) .nil)))))
 | .cut _ _ l r,_,⟨a,x,y,e,h,h1,h2⟩=>by subst e;exact .tup (G5 h) (.cons (.str _) (.cons (.int _) (.cons (TrV.dat l h1) (.cons (TrV.dat r h2) .nil))))
def dpt:Tr->Nat
 | .cut _ _ l r=>max (dpt l) (dpt r)+1
 | _=>0
theorem eB:∀t:Tr,(toD t).depth<=dpt t+1
 | .rest=>∅
 | .piece i c x y=>by change PyData.depthAll [.str "piece",.int i,.bool c,.int x,.int y]+1<=0+1;simp only[PyData.depthAll,PyData.depth];lia
 | .cut dn p l r=>by have h1:=eB l;have h2:=eB r;change PyData.depthAll [.str (if dn=true then "down" else "across"),.int p,toD l,toD r]+1<=max (dpt l) (dpt r)+1+1;simp only[PyData.depthAll,PyData.depth];lia
theorem jB:∀t:Tr,PyData.canLay0 (toD t)=true
 | .rest=>∅
 | .piece i c x y=>by
  change(PyData.canLay0 (.str "piece") && (true && (true && (true && (true && true)))))=true
  decide +kernel
 | .cut dn p l r=>by have h1:=jB l;have h2:=jB r;change(PyData.canLay0 (.str (if dn=true then "down" else "across")) && (true && (PyData.canLay0 (toD l) && (PyData.canLay0 (toD r) && true))))=true;rw[h1,h2];cases dn <;> decide +kernel
def aM(a b:Pz):Pz:=List.zipWith min a b
def aN(a b:Pz):Pz:=List.zipWith (λ x y=>max 0 (x - y)) a b
theorem hZ{a b:Pz}{i:Nat}{x y:Int}(h1:a[i]?=some x)(h2:b[i]?=some y):(aM a b)[i]?=some (min x y):=by unfold aM;rw[NV,h1,h2]
theorem fB{a b:Pz}{i:Nat}{x y:Int}(h1:a[i]?=some x)(h2:b[i]?=some y):(aN a b)[i]?=some (max 0 (x - y)):=by unfold aN;rw[NV,h1,h2]
theorem bC{a b:Pz}(h:a.length=b.length):(aM a b).length=a.length:=by unfold aM;rw[M6];lia
theorem bo{a b:Pz}(h:a.length=b.length):(aN a b).length=a.length:=by unfold aN;rw[M6];lia
def NnB(a:Pz):Prop:=∀x∈a,0<=x
theorem NnB.iff{a:Pz}:NnB a↔∀(i:Nat)(x:Int),a[i]?=some x->0<=x :=
 %[λ h i x hx=>h x (B7 hx)|λ h x hx=>by obtain⟨i,hi⟩:=MJ.mp hx;exact h i x hi]
theorem atB{a:Pz}{i:Nat}(h:i < a.length):∃x,a[i]?=some x:=%[a[i]|F4 h]
theorem qx{a:Pz}{i:Nat}{x:Int}(h:a[i]?=some x):i < a.length:=(A7.mp h).1
theorem ii{a b:Pz}(e:a.length=b.length)(h1:NnB a)(h2:NnB b):NnB (aM a b):=NnB.iff.mpr λ i x hx=>by have il:=qx hx;rw[bC e]at il;obtain⟨u,hu⟩:=atB il;obtain⟨v,hv⟩:=atB (a:=b) (i:=i) ⋯;rw[hZ hu hv]at hx;cases hx;have:=NnB.iff.mp h1 i u hu;have:=NnB.iff.mp h2 i v hv;lia
theorem fC{a b:Pz}(e:a.length=b.length):NnB (aN a b):=NnB.iff.mpr λ i x hx=>by have il:=qx hx;rw[bo e]at il;obtain⟨u,hu⟩:=atB il;obtain⟨v,hv⟩:=atB (a:=b) (i:=i) ⋯;rw[fB hu hv]at hx;cases hx;lia
theorem ij{a b:Pz}(e:a.length=b.length):leB (aM a b) b=true:=(bZ (by rw[bC e,e])).mpr λ i x y hx hy=>by have il:=qx hx;rw[bC e]at il;obtain⟨u,hu⟩:=atB il;rw[hZ hu hy]at hx;cases hx;lia
theorem oK{c o u ws:Pz}(e1:c.length=ws.length)(e2:o.length=ws.length)(e3:u.length=ws.length)(h1:leB c (cQ o u ws)=true)(h3:NnB u):leB (aN c (aM c o)) u=true:=by
 have ec:c.length=o.length:=⋯
 have el:(aN c (aM c o)).length=c.length:=bo (by rw[bC ec]);show(bZ ⋯).mpr λ i x y hx hy=>?_;have il:=qx hx;rw[el]at il;obtain⟨p,hp⟩:=atB il;obtain⟨q,hq⟩:=atB (a:=o) (i:=i) ⋯;obtain⟨w,hw⟩:=atB (a:=ws) (i:=i) ⋯;rw[fB hp (hZ hp hq)]at hx;cases hx;have:=(bZ (by rw[iO ⋯ ⋯];lia)).mp h1 i p _ hp (kD hq hy hw);have:=NnB.iff.mp h3 i y hy;lia
def zZ(b:Int)(ks:No Kd)(p:Int×Int):Pz×Stp->Prop
 | (c,.rest)=>c=aG ks.length
 | (c,.piece k t)=>∃i:Nat,k=i/\(i,t)∈lyK ks 0/\gx ks p.1 p.2 (i,t)=true/\c=bY ks.length i
 | (c,.cut dn q f o s u)=>(dn,q)∈cH b p.1 p.2/\f=cI p.1 p.2 (dn,q)/\s=cK b p.1 p.2 (dn,q)/\o∈gK b ks f/\u∈gK b ks s/\c=cQ o u (wsK ks)
theorem kL{r:Pz×Stp}:∀{l rs:Rws},r∈eQ rs l->r∈rs\/r∈l
 | [],_,h=>.inl h
 | x :: l,rs,h=>by
  rcases kL (l:=l) (rs:=gy rs x) h with h | h
  ·unfold gy at h
   split at h
   ·exact .inl h
   ·rcases C4.mp h with h | h
    ·exact .inl h
    ·exact .inr (J3.mpr (.inl (E5.mp h)))
  ·exact .inr (B6 _ h)
theorem oM{rs:Rws}{c:Pz}(h:c∈rs.map (·.1)):(c,hV rs c)∈rs:=by
 induction rs with
 | nil=>cases h
 | cons r rs ih=>
  unfold hV
  by_cases e:r.1=c
  ·rw[NR (by simpa using e)];rw[<- e];exact B9
  ·rw[NS (by simpa using e)];exact B6 _ (ih ((J3.mp h).resolve_left λ z=>e z.symm))
theorem AZ{b:Int}{ks:No Kd}(b0:0<=b){p:Int×Int}(p1:1<=p.1)(p2:1<=p.2){r:Pz×Stp}(h:r∈gB b ks p):zZ b ks p r:=by
 rw[xq b0 p p1 p2]at h;unfold jr at h;obtain⟨c,hc,rfl⟩:=J5.mp h;have hm:=oM (mem_topB.mp hc).1;generalize(c,hV (bJ b ks (gB b ks) p) c)=r at hm;unfold bJ at hm;rcases kL hm with hm | hm
 ·rcases kL hm with hm | hm
  ·unfold eV at hm;rw[E5.mp hm];exact rfl
  ·unfold lyC at hm;obtain⟨q,hq,hr⟩:=Ml.mp hm;obtain⟨q1,q2⟩:=M5.mp hq;unfold lyR at hr
   split at hr
   ·rw[E5.mp hr];exact%[q.1,U,q1,q2|U]
   ·cases hr
 ·obtain⟨x,hx,hr⟩:=Ml.mp hm;obtain⟨o,ho,hr⟩:=Ml.mp hr;obtain⟨u,hu,rfl⟩:=J5.mp hr;exact%[hx,U,U,ho,hu|U]
theorem rW{b:Int}{ks:No Kd}(b0:0<=b){p:Int×Int}(p1:1<=p.1)(p2:1<=p.2){g:Pz}(h:g∈gK b ks p):zZ b ks p (g,hV (gB b ks p) g):=AZ b0 p1 p2 (oM h)
def tbF(b:Int)(ks:No Kd):Nat->Int×Int->Pz->Pz->Tr
 | 0,_,_,_=>.rest
 | n+1,p,g,c=>if c.sum=0 then .rest else match hV (gB b ks p) g with
  | .rest=>.rest
  | .piece k t=>.piece k.toNat t 0 0
  | .cut dn q f o s u=>.cut dn q (tbF b ks n f o (aM c o)) (tbF b ks n s u (aN c (aM c o)))
abbrev dz:=No (Pz×P0)
def im(rs:dz)(r:Pz×P0):dz:=if r.1∈rs.map (·.1)then rs else rs ++ [r]
def gC(rs l:dz):dz:=l.foldl im rs
theorem oN(rs l m:dz):gC rs (l ++ m)=gC (gC rs l) m:=List.foldl_append
theorem putL_keys{rs:dz}{r:Pz×P0}{x:Pz}:x∈(im rs r).map (·.1)↔x∈rs.map (·.1)\/x=r.1:=by
 unfold im
 split
 ·next h=>exact%[.inl|λ z=>z.elim id λ e=>e ▸ h]
 ·rw[J4,C4,J6,MY,E5]
theorem lW{x:Pz}:∀{l rs:dz},x∈(gC rs l).map (·.1)↔x∈rs.map (·.1)\/x∈l.map (·.1)
 | [],rs=>by simp[gC]
 | r :: l,rs=>by change x∈(gC (im rs r) l).map (·.1)↔_;rw[lW,putL_keys,J6,J3,or_assoc]
theorem gD{rs:dz}{r:Pz×P0}(h:(rs.map (·.1)).Nodup):((im rs r).map (·.1)).Nodup:=by
 unfold im
 split
 ·exact h
 ·next z=>
  rw[J4,NY];show%[h,by simp|λ a ha b hb e=>z ?_];simp only[J6,MY,E5]at hb;rw[<- hb,<- e];exact ha
theorem xz{rs:dz}{r x:Pz×P0}(h:x∈im rs r):x∈rs\/x=r:=by
 unfold im at h
 split at h
 ·exact .inl h
 ·exact(C4.mp h).imp id E5.mp
theorem oO{x:Pz×P0}:∀{l rs:dz},x∈gC rs l->x∈rs\/x∈l
 | [],_,h=>.inl h
 | r :: l,rs,h=>by
  rcases oO (l:=l) (rs:=im rs r) h with h | h
  ·exact(xz h).imp id λ e=>J3.mpr (.inl e)
  ·exact .inr (B6 _ h)
def qy(bs:P0)(r:Pz×P0):dz:=bs.map λ c=>(aN r.1 c,r.2 ++ [c])
def Aa(bs:P0)(rs:dz):dz:=gC [] (rs.flatMap (qy bs))
def lev(bs:P0)(ws:Pz):Nat->dz
 | 0=>[(ws,[])]
 | k+1=>Aa bs (lev bs ws k)
def hit(bs:P0)(ws:Pz)(k:Nat):Bool:=decide (aG ws.length∈(lev bs ws k).map (·.1))
def oP(rs:dz)(c:Pz):P0:=((rs.find? λ r=>decide (r.1=c)).map (·.2)).getD []
theorem kM{rs:dz}{c:Pz}(h:c∈rs.map (·.1)):(c,oP rs c)∈rs:=by
 induction rs with
 | nil=>cases h
 | cons r rs ih=>
  unfold oP
  by_cases e:r.1=c
  ·rw[NR (by simpa using e)];rw[<- e];exact B9
  ·rw[NS (by simpa using e)];exact B6 _ (ih ((J3.mp h).resolve_left λ z=>e z.symm))
theorem fE{bs:P0}{ws:Pz}(h0:∀x∈ws,0<=x)(hb:∀c∈bs,c.length=ws.length/\NnB c):∀(k:Nat)(r:Pz×P0),r∈lev bs ws k->InB ws r.1/\r.2.length=k/\(∀c∈r.2,c∈bs)/\r.2.foldl aN ws=r.1
 | 0,r,h=>by rw[E5.mp h];exact⟨%[U,hJ ws|h0],U,(λ c h=>by cases h),U⟩
 | k+1,r,h=>by
  unfold lev Aa at h;rcases oO h with h | h
  ·cases h
  ·obtain⟨x,hx,h⟩:=Ml.mp h;obtain⟨c,hc,rfl⟩:=J5.mp h;obtain⟨i1,i2,i3,i4⟩:=fE h0 hb k x hx;obtain⟨c1,c2⟩:=hb c hc;have el:x.1.length=c.length:=by rw[i1.1,c1]
   show%[%[by rw[bo el,i1.1],?_|fC el],by rw[K4,i2];rfl,λ d hd=>?_|by rw[List.foldl_append,i4];rfl]
   ·show(bZ (by rw[bo el,i1.1])).mpr λ i u v hu hv=>?_;have il:=qx hu;rw[bo el]at il;obtain⟨y,hy⟩:=atB il;obtain⟨z,hz⟩:=atB (a:=c) (i:=i) ⋯;rw[fB hy hz]at hu;cases hu;have:=(bZ i1.1).mp i1.2.1 i y v hy hv;have:=NnB.iff.mp c2 i z hz;have:=h0 v (B7 hv);lia
   ·rcases C4.mp hd with hd | hd
    ·exact i3 d hd
    ·rw[E5.mp hd];exact hc
theorem kN:∀{l rs:dz},(rs.map (·.1)).Nodup->((gC rs l).map (·.1)).Nodup
 | [],_,h=>h
 | r :: l,rs,h=>by change((gC (im rs r) l).map (·.1)).Nodup;exact kN (gD h)
theorem ur(bs:P0)(ws:Pz):∀k,((lev bs ws k).map (·.1)).Nodup
 | 0=>by simp[lev]
 | _+1=>kN (by simp)
theorem lev_next{bs:P0}{ws:Pz}{k:Nat}{x:Pz}:x∈(lev bs ws (k+1)).map (·.1)↔∃y∈(lev bs ws k).map (·.1),∃c∈bs,x=aN y c:=by
 change x∈(gC [] ((lev bs ws k).flatMap (qy bs))).map (·.1)↔_;rw[lW];constructor
 ·rintro(h | h)
  ·cases h
  ·obtain⟨r,hr,rfl⟩:=J5.mp h;obtain⟨y,hy,h⟩:=Ml.mp hr;obtain⟨c,hc,rfl⟩:=J5.mp h;exact%[y.1,J5.mpr %[y,hy|U],c,hc|U]
 ·rintro⟨y,hy,c,hc,rfl⟩;obtain⟨r,hr,rfl⟩:=J5.mp hy;exact .inr (J5.mpr %[(aN r.1 c,r.2 ++ [c]),Ml.mpr %[r,hr|J5.mpr %[c,hc|U]]|U])
theorem xA:∀{a:Pz},NnB a->a.sum=0->a=aG a.length
 | [],_,_=>rfl
 | x :: a,h,e=>by have x0:=h x B9;have a0:=gA (ws:=a) λ y hy=>h y (B6 _ hy);rw[MQ]at e;have:=xA (a:=a) (λ y hy=>h y (B6 _ hy)) ⋯;change x :: a=0 :: aG a.length;rw[<- this,show x=0 by lia]
theorem zu{bs:P0}{ws:Pz}(h0:∀x∈ws,0<=x)(hb:∀c∈bs,c.length=ws.length/\NnB c)(hf:∀ (i:Nat) (w:Int),ws[i]?=some w->0 < w->∃c∈bs,∃z,c[i]?=some z/\1<=z):∀(n k:Nat)(x:Pz),x∈(lev bs ws k).map (·.1)->x.sum<=n->∃j,j<=n/\hit bs ws (k+j)=true:=by
 intro n
 induction n with
 | zero=>
  intro k x hx hs;obtain⟨r,hr,rfl⟩:=J5.mp hx;obtain⟨i1,_⟩:=fE h0 hb k r hr;have z:=xA i1.2.2 (by have:=gA i1.2.2;lia);show%[0,B4 _|B1 ?_];rw[Nd,<- i1.1,<- z];exact hx
 | succ n ih=>
  intro k x hx hs;obtain⟨r,hr,rfl⟩:=J5.mp hx;obtain⟨i1,_⟩:=fE h0 hb k r hr
  by_cases c:r.1.sum<=n
  ·obtain⟨j,j1,j2⟩:=ih k r.1 hx c;exact%[j,⋯|j2]
  ·obtain⟨i,y,hy,y0⟩:∃(i:Nat)(y:Int),r.1[i]?=some y/\0 < y:=by
    show OP λ hn=>c ?_;have:∀(a:Pz),(∀(i:Nat)(y:Int),a[i]?=some y->y<=0)->a.sum<=0:=λ a=>by
     induction a with
     | nil=>intro _;exact E8 _
     | cons z a iha=>
      intro h;have:=h 0 z rfl;have:=iha λ i y hy=>h (i+1) y (by simpa using hy);rw[MQ];lia
    have:=this r.1 λ i y hy=>Int.not_lt.mp λ y0=>hn %[i,y,hy|y0];lia
   obtain⟨w,hw⟩:=atB (a:=ws) (i:=i) (by rw[<- i1.1];exact qx hy);have yw:=(bZ i1.1).mp i1.2.1 i y w hy hw;obtain⟨d,hd,z,hz,z1⟩:=hf i w hw ⋯;obtain⟨d1,d2⟩:=hb d hd;have el:r.1.length=d.length:=by rw[i1.1,d1]
   have lt:(aN r.1 d).sum < r.1.sum:=by
    have:∀(a e:Pz)(i:Nat)(y z:Int),a.length=e.length->NnB a->NnB e->a[i]?=some y->e[i]?=some z->0 < y->1<=z->(aN a e).sum < a.sum:=λ a=>by
     have le:∀(a e:Pz),a.length=e.length->NnB a->NnB e->(aN a e).sum<=a.sum:=λ a=>by
      induction a with
      | nil=>intro e _ _ _;cases e <;> exact E8 _
      | cons u a iha=>intro e hl h1 h2;cases e with
       | nil=>simp at hl
       | cons v e=>
        have u0:=h1 u B9;have v0:=h2 v B9;have:=iha e (by simpa using hl) (λ y hy=>h1 y (B6 _ hy)) (λ y hy=>h2 y (B6 _ hy));change(max 0 (u - v) :: aN a e).sum<=(u :: a).sum;rw[MQ,MQ];lia
     induction a with
     | nil=>intro e i y z _ _ _ h;simp at h
     | cons u a iha=>intro e i y z hl h1 h2 hy hz y0 z1;cases e with
      | nil=>simp at hl
      | cons v e=>
       have u0:=h1 u B9;have v0:=h2 v B9;have ha:NnB a:=λ y hy=>h1 y (B6 _ hy);have he:NnB e:=λ y hy=>h2 y (B6 _ hy);change(max 0 (u - v) :: aN a e).sum < (u :: a).sum;rw[MQ,MQ];cases i with
       | zero=>
        simp only[M3,Option.some.injEq]at hy hz;have:=le a e (by simpa using hl) ha he;lia
       | succ i=>
        have:=iha e i y z (by simpa using hl) ha he (by simpa using hy) (by simpa using hz) y0 z1;lia
    exact this r.1 d i y z el i1.2.2 d2 hy hz y0 z1
   obtain⟨j,j1,j2⟩:=ih (k+1) (aN r.1 d) (lev_next.mpr %[r.1,hx,d,hd|U]) ⋯;exact%[j+1,⋯|by rw[show k+(j+1)=k+1+j by lia];exact j2]
theorem qz{X:Cx}(K:C6)(hK:X.K=K):OpR X (compareOp .In) (rIn K false):=hK ▸ sK
def iS(ks:No Kd)(p:Int×Int):No Nat:=((lyK ks 0).filter (gx ks p.1 p.2)).map (·.1)
def awf(ks:No Kd)(p:Int×Int)(j:Nat):No Bool:=(List.range j).map λ i=>decide (waA ks i=0) || decide (i∈iS ks p)
def awF(ks:No Kd)(p:Int×Int):Bool:=(awf ks p ks.length).all id
def nk:Sp:=λ vs H Q _=>∃(t u:Nj)(xs ys:Pz),vs=[.ref t,.ref u]/\H t= ~~~(bV xs)/\H u= ~~~(bV ys)/\xs.length=ys.length/\xs.length<=8/\∀(a:Nj)(H':Hp),H' a= ~~~(bV (aM xs ys))->Same H H'->Q (.ref a) H'
def kO:Sp:=λ vs H Q _=>∃(t u:Nj)(xs ys:Pz),vs=[.ref t,.ref u]/\H t= ~~~(bV xs)/\H u= ~~~(bV ys)/\xs.length=ys.length/\xs.length<=8/\∀(a:Nj)(H':Hp),H' a= ~~~(bV (aN xs ys))->Same H H'->Q (.ref a) H'
def Ab(C:Nj):Sp:=λ vs H Q _=>∃(s t:Nj)(b:Int)(ks:No Kd)(p:Int×Int),vs=[.ref s,.ref t]/\ShopAt C H s b ks/\ks.length<=8/\H t= ~~~[.int p.1,.int p.2]/\∀(H':Hp),Same H H'->Q (.bl (awF ks p)) H'
theorem sccomm:FnScope PJ PJ (defScope gW):=%[U,U,U,∅,U,∅|∅]
theorem zv{f:Nj}{fd:G1}(F:Fun K "common" "common" gW f fd)(B:Blt mg):FnOk P w K mg base CX0 1 f fd PJ (nk):=by
 exists sccomm;obtain⟨t,u,xs,ys,rfl,ht,hu',e1,l8,q⟩:=h;show%[_,((@aT _ _ _ _ _ _ _ _ _ aQ U B.tuple N0 ((aX (own:=PK) (cs:=[]) (cap:=[]) U (gT U B.zip ('0'^^^('1'^^^ae))) (az (sc:=defScope gW) (N:=PJ) U U ∅) (λ _ _ _ _ _=>cU K U U (by change List.Nodup (PK:No Str) ;decide +kernel) U U U U) (λ _ _ _ _ _=>aK) (λ _ _ _ _ _=>(@ap _ _ _ _ _ _ _ _ _ (dg U) U B.min OQ ('0'^^^('1'^^^ae)) ∅ ∅ U U)))^^^ae) ∅ ∅ U U)⁻¹)|?_];dsimp only[bW];have l1:(bV xs).length=xs.length:=B5 _;have l2:(bV ys).length=ys.length:=B5 _;have sz:(40000:Nat)<=sizeLine:=∅
 have jl:=bC e1;show%[_,U,_,U,t,u,_,_,U,ht,hu'|eL (xs:=bV xs) (ys:=bV ys) (λ i us Hx=>Same H Hx/\us=((aM xs ys).take i).map V.int) ⋯ (λ i us Hx ⟨sx,_⟩=>%[sx _ _ ht|sx _ _ hu']) %[Same.refl _|U] (λ i us Hx hi ⟨_,e⟩=>by rw[e,B5,K0];lia) ?_ ?_]
 ·rintro i x y p us Hx hx hy hp ⟨sx,rfl⟩;have hin:i < (bV xs).length:=(A7.mp hx).1;obtain⟨x',hx',rfl⟩:=J8.mp (show Option.map V.int xs[i]?=some x by rw[<- J0];exact hx);obtain⟨y',hy',rfl⟩:=J8.mp (show Option.map V.int ys[i]?=some y by rw[<- J0];exact hy);have ji:=hZ hx' hy';have s1:=G4 hp (o:=.tup [.int x',.int y']);show%[p,_,U,G5 ai,U,_,_,U,_,_,U,U,gY (leS.set rfl) (leS.set rfl)|aL ?_];show%[_,U,_,U,_,_,U|Nx.of hin %[sx.trans s1|?_]];rw[K6,ji,show(if y' < x' then y' else x')=min x' y' by split <;> lia];simp only[K9,J4,J6,MY]
 ·rintro us Hx ⟨sx,rfl⟩;rw[l1,K5 ⋯];show%[by rw[B5];lia|λ cl hcl=>?_];show aF hcl λ H1 k1 s1=>?_;show%[cl,_,U|.inl %[G6 k1|λ tp htp=>?_]];exact q tp _ ai ((sx.trans s1).trans (G4 htp))
theorem scwithb:FnScope PQ PQ (defScope fq):=%[U,U,U,∅,U,∅|∅]
theorem xB{f:Nj}{fd:G1}(F:Fun K "without" "without" fq f fd)(B:Blt mg):FnOk P w K mg base CX0 1 f fd PQ (kO):=by
 exists scwithb;obtain⟨t,u,xs,ys,rfl,ht,hu',e1,l8,q⟩:=h;show%[_,((@aT _ _ _ _ _ _ _ _ _ aQ U B.tuple N0 ((aX (own:=["many","fewer"]) (cs:=[]) (cap:=[]) U (gT U B.zip ('0'^^^('1'^^^ae))) (az (sc:=defScope fq) (N:=PQ) U U ∅) (λ _ _ _ _ _=>cU K U U (by change List.Nodup (["many","fewer"]:No Str) ;decide +kernel) U U U U) (λ _ _ _ _ _=>aK) (λ _ _ _ _ _=>(@ap _ _ _ _ _ _ _ _ _ (iA U) U B.max PyProof.Rows.boot_max (ag^^^(('0'|||bU|||'1')^^^ae)) ∅ ∅ U U)))^^^ae) ∅ ∅ U U)⁻¹)|?_];dsimp only[bW];have l1:(bV xs).length=xs.length:=B5 _;have l2:(bV ys).length=ys.length:=B5 _;have sz:(40000:Nat)<=sizeLine:=∅
 have jl:=bo e1;show%[_,U,_,U,t,u,_,_,U,ht,hu'|eL (xs:=bV xs) (ys:=bV ys) (λ i us Hx=>Same H Hx/\us=((aN xs ys).take i).map V.int) ⋯ (λ i us Hx ⟨sx,_⟩=>%[sx _ _ ht|sx _ _ hu']) %[Same.refl _|U] (λ i us Hx hi ⟨_,e⟩=>by rw[e,B5,K0];lia) ?_ ?_]
 ·rintro i x y p us Hx hx hy hp ⟨sx,rfl⟩;have hin:i < (bV xs).length:=(A7.mp hx).1;obtain⟨x',hx',rfl⟩:=J8.mp (show Option.map V.int xs[i]?=some x by rw[<- J0];exact hx);obtain⟨y',hy',rfl⟩:=J8.mp (show Option.map V.int ys[i]?=some y by rw[<- J0];exact hy);have ji:=fB hx' hy';have s1:=G4 hp (o:=.tup [.int x',.int y']);show%[p,_,U,G5 ai,U,_,_,U,_,_,U,U,gY (leS.set rfl) (leS.set rfl)|aL ?_];show%[_,U,_,U,_,_,U,U,_,_,U|Nx.of hin %[sx.trans s1|?_]];rw[K6,ji,show(if 0 < x' - y' then x' - y' else 0)=max 0 (x' - y')by split <;> lia];simp only[K9,J4,J6,MY]
 ·rintro us Hx ⟨sx,rfl⟩;rw[l1,K5 ⋯];show%[by rw[B5];lia|λ cl hcl=>?_];show aF hcl λ H1 k1 s1=>?_;show%[cl,_,U|.inl %[G6 k1|λ tp htp=>?_]];exact q tp _ ai ((sx.trans s1).trans (G4 htp))
theorem scawf:FnScope PR PU (defScope bG):=%[U,U,U,∅,U,∅|∅]
theorem Ba{f:Nj}{fd:G1}(F:Fun K "all_wanted_fit" "all_wanted_fit" bG f fd){C:Nj}(B:Blt mg)(T:ShopTxt K C)(MW:Mn P w K mg base C "wanted" O1 1 (ei C))(DLI:Dn P w K mg base "lyings_in" O6 5 ((spLyIn C))):FnOk P w K mg base CX0 6 f fd PU (Ab C):=by
 exists scawf;obtain⟨s,t,b,ks,p,rfl,S0,k8,ht,q⟩:=h;show%[_,((@aE _ _ 2 _ _ _ _ nd U (Or.inr U) (aX (own:=O7) (cs:=[]) (cap:=[]) U (bj (DLI∪('0'^^^('1'^^^ae)))) (az (sc:=defScope bG) (N:=PR) U U ∅) (λ _ _ _ _ _=>cU K U U (by change List.Nodup (O7:No Str) ;decide +kernel) U U U U) (λ _ _ _ _ _=>aK) (λ _ _ _ _ _=>'0')) U (Or.inl U))<<<((@ap _ _ _ _ _ _ _ _ _ (iI U) U B.all PyProof.Rows.boot_all ((aX (own:=["kind","many"]) (cs:=["fitting"]) (cap:=[2]) U (mP U B.enumerate ((iG '0' T.cl MW (hr.mono ∅))^^^ae)) (az (sc:=defScope bG) (N:=PR) U U ∅) (λ _ _ _ _ _=>cU K U U (by change List.Nodup (["kind","many","fitting"]:No Str) ;decide +kernel) U U U U) (λ _ _ _ _ _=>aK) (λ _ _ _ _ _=>(zN (@bd _ _ _ _ _ _ _ _ dj '1' ag (ax _)) (dO (@bd _ _ _ _ _ _ _ _ (qz K U) '0' '2' U)))))^^^ae) ∅ ∅ U U)⁻¹))|?_];dsimp only[bW];have z4:4096<=sizeLine:=∅
 obtain⟨dx,r0,rs0,g1,g2,g3⟩:=id S0;have wl:(wsK ks).length=ks.length:=B5 _;show ao (λ R=>∀(fl:Nj)(H':Hp),H' fl=↥((iS ks p).map λ i:Nat=>V.int i)->Same H H'->R [↑s,↑t,↑fl] H') (λ Dd hR=>?_) ?_
 ·show%[_,U,_,U,s,t,b,ks,p.1,p.2,U,S0,k8,ht|λ ll ys H1 _ hll pys s1=>?_];obtain⟨ly,ely⟩:∃ly,ly=(lyK ks 0).filter (gx ks p.1 p.2):=%[_|U]
  rw[<- ely]at pys;have yl:=E6 pys;have l16:ly.length<=16:=by
   have h1:=NU (gx ks p.1 p.2) (lyK ks 0);have h2:∀(ks:No Kd)(i:Nat),(lyK ks i).length<=2 * ks.length:=λ ks=>by
    induction ks with
    | nil=>intro i;exact B4 _
    | cons k r ih=>
     intro i;have:=ih (i+1);have h3:(lyT i k).length<=2:=by unfold lyT;split <;> simp
     rw[lyK,K4,K3];lia
   have:=h2 ks 0;rw[<- ely]at h1;lia
  show%[ll,U,%[_|G6 hll]|(bu (K:=K) (.inl hll) (λ i us Hx=>H1=Hx/\us=((ly.take i).map (·.1)).map λ i:Nat=>V.int i) (λ i us Hx _ ⟨e,_⟩ o h=>e ▸ h) %[U|U] ?_ ?_).1 hll]
  ·rintro i x us _ hi ⟨rfl,rfl⟩;have hin:=(A7.mp hi).1;obtain⟨c,hc,ta,rfl,hta⟩:=G8 pys hi;show%[by rw[B5,B5,K0];lia,ta,_,U,G5 hta,U,_,_,U,_,_,U,U,gY (leS.set rfl) (leS.set rfl)|aL %[_,U|Nx.of hin %[U|?_]]];rw[K6,hc,K9,J4,J4]
   rfl
  ·rintro us _ ⟨rfl,rfl⟩;rw[yl,MG];show%[by rw[B5,B5];lia|λ fl hfl=>?_];show aF hfl λ H2 k2 s2=>?_;show hR fl _ ?_ (s1.trans s2);unfold iS;rw[<- ely];exact k2
 rintro fl H1 hfl s1;show%[_,U,s,dx,_,U,s1 _ _ g1,cX _ _ ∅ ∅,s,b,ks,U,S0.keep (λ _ _ e=>s1 _ _ e) (λ _ _ _ _ e=>s1 _ _ e),k8|λ wt H2 _ hwt s2=>?_];have wvl:(ks.map λ k=>V.int k.wa).length=ks.length:=B5 _;show%[wt,_,U|.inr %[hwt|lN (f:=HO.tup) (λ _ _ e=>by injection e) (λ j zs Hx=>Same H2 Hx/\zs=(awf ks p j).map V.bl) (λ j zs Hx ⟨sx,_⟩=>sx _ _ hwt) %[Same.refl _|U] ?_ ?_ ?_]]
 ·rintro j zs Hx hj ⟨_,rfl⟩;unfold awf;rw[B5,B5,Mj];lia
 ·rintro j x pp zs Hx hj hpp ⟨sx,rfl⟩;have hjn:=(A7.mp hj).1;rw[J0]at hj;obtain⟨k,hk,rfl⟩:=J8.mp hj;have wk:waA ks j=k.wa:=by unfold waA;rw[hk];rfl
  show aF hpp λ H3 k3 s3=>?_;have aw:awf ks p (j+1)=awf ks p j ++ [decide (k.wa=0) || decide (j∈iS ks p)]:=by unfold awf;rw[List.range_succ,J4];simp only[J6,MY,wk]
  have nx:∀v:Bool,(decide (k.wa=0) || decide (j∈iS ks p))=v->Nx (ks.map λ k=>V.int k.wa).length (λ j zs Hx=>Same H2 Hx/\zs=(awf ks p j).map V.bl) j ((awf ks p j).map V.bl ++ [.bl v]) H3:=λ v hv=>Nx.of hjn %[sx.trans s3|by rw[aw,J4,<- hv];rfl];show%[pp,_,U,G5 k3,U,_,_,U,_,_,U,U,gY (leS.set rfl) (leS.set rfl)|aL ?_];show%[_,U,U,_,U|?_]
  by_cases c:k.wa=0
  ·rw[show decide (V.int k.wa=V.int 0)=true from Ny (by rw[c])];exact bN (nx true (by rw[Ny c];rfl))
  ·rw[show decide (V.int k.wa=V.int 0)=false from N3 (λ z=>c (by injection z))];show aV %[_,rfl,_,rfl,fl,_,rfl,.inl (G6 (s3 _ _ (sx _ _ (s2 _ _ hfl)))),rfl,?_|?_]
   ·rw[List.all_map];exact Nc.mpr λ _ _=>rfl
   ·have:inV (V.int (j:Int)) ((iS ks p).map λ i:Nat=>V.int i)=decide (j∈iS ks p):=by
     unfold inV;rw[List.any_map,ND,Mz,OM];constructor
     ·rintro⟨i,hi,e⟩;have e:(V.int (i:Int)=V.int (j:Int)):=by simpa[eqV]using e
      injection e with e
      have:i=j:=⋯
      rw[<- this];exact hi
     ·intro h;exact%[j,h|by simp[eqV]]
    rw[Nv B3,this];exact nx _ (by rw[N3 c];rfl)
 ·rintro zs Hx ⟨sx,rfl⟩;rw[wvl];show%[by unfold awf;rw[B5,B5,Mj];lia|λ pl hpl=>%[pl,_,U,G6 ai|?_]];exact q _ ((s1.trans s2).trans (sx.trans (G4 hpl)))
def LtA(H:Hp)(v:V)(lot:P0):Prop:=∃l as,v=.ref l/\H l=↥(as.map V.ref)/\BsA H as lot
def LtR(H:Hp)(kv:No Key×V)(r:Pz×P0):Prop:=kv.1=bK r.1/\LtA H kv.2 r.2
abbrev LtsA(H:Hp)(kvs:No (No Key×V))(rs:dz):Prop:=Paired (LtR H) kvs rs
def Kp(H H':Hp):Prop:=Tps H H'/\∀a xs,H a=↥xs->H' a=↥xs
theorem eR{H H':Hp}(s:Same H H'):Kp H H':=%[Same.tps s|λ _ _ e=>s _ _ e]
theorem xC{F:Nj->Prop}{st:Nj}{H H':Hp}(s:Sg F st H H'):Kp H H':=%[s.tps|λ _ _ e=>s.lst e]
theorem Ac{F:Nj->Prop}{H H':Hp}(s:Sf F H H'):Kp H H':=%[s.tps|λ _ _ e=>s.lst e]
theorem Kp.trans{H H1 H2:Hp}(a:Kp H H1)(b:Kp H1 H2):Kp H H2:=%[λ _ _ e=>b.1 _ _ (a.1 _ _ e)|λ _ _ e=>b.2 _ _ (a.2 _ _ e)]
theorem LtA.keep{H H':Hp}(s:Kp H H'){v:V}{lot:P0}:LtA H v lot->LtA H' v lot
 | ⟨l,as,e,h1,h2⟩=>%[l,as,e,s.2 _ _ h1|h2.keep s.1]
theorem LtsA.keep{H H':Hp}(s:Kp H H'){kvs:No (No Key×V)}{rs:dz}(h:LtsA H kvs rs):LtsA H' kvs rs:=G7 h λ _ _ x=>%[x.1|x.2.keep s]
theorem LtsA.val{H:Hp}{kvs:No (No Key×V)}{rs:dz}(h:LtsA H kvs rs)(c:Pz):(c∈rs.map (·.1)->∃v,cS kvs (bK c)=some v/\LtA H v (oP rs c))/\(c∉rs.map (·.1)->cS kvs (bK c)=none):=by
 induction h with
 | nil=>exact⟨(λ m=>by cases m),λ _=>rfl⟩
 | @cons kv r kvs rs a _ ih=>
  by_cases e:r.1=c
  ·show%[λ _=>%[kv.2,dX (by rw[a.1,e])|?_]|λ z=>absurd (J3.mpr (.inl e.symm)) z];unfold oP;rw[NR (by simpa using e)];exact a.2
  ·show%[λ m=>?_|λ z=>?_]
   ·obtain⟨v,h1,h2⟩:=ih.1 ((J3.mp m).resolve_left λ z=>e z.symm);show%[v,by rw[cO (λ z=>e (iR (a.1.symm.trans z)))];exact h1|?_];unfold oP;rw[NS (by simpa using e)];exact h2
   ·rw[cO (λ w=>e (iR (a.1.symm.trans w)))];exact ih.2 λ w=>z (B6 _ w)
def LgI(ng:Nj)(ws:Pz)(H:Hp)(rs:dz):Prop:=∃kvs,H ng=some (.dT kvs)/\LtsA H kvs rs/\(rs.map (·.1)).Nodup/\∀x∈rs.map (·.1),InB ws x
theorem LgI.keep{F:Nj->Prop}{ng:Nj}{ws:Pz}{H H':Hp}{rs:dz}(s:Same H H'):LgI ng ws H rs->LgI ng ws H' rs
 | ⟨kvs,h1,h2,h3,h4⟩=>%[kvs,s _ _ h1,h2.keep (eR s),h3|h4]
theorem xD{F:Nj->Prop}{ng ka:Nj}{ws:Pz}{H:Hp}{rs:dz}{c:Pz}{lot:P0}{v:V}{Q:VK}(h0:∀x∈ws,0<=x)(w6:ws.sum<=6)(hI:LgI ng ws H rs)(hk:H ka= ~~~(bV c))(ic:InB ws c)(ha:LtA H v lot)
  (hq:∀v' H',LgI ng ws H' (im rs (c,lot))->Sg F ng H H'->Q v' H'):wH (.ref ng) [.ref ka,v] H Q:=by
 obtain⟨kvs,h1,h2,h3,h4⟩:=hI;have z4:4096<=sizeLine:=∅
 have l1:=InB.few h0 w6 h3 h4;rw[B5]at l1;have l2:=E6 h2;have i2:∀x∈(im rs (c,lot)).map (·.1),InB ws x:=λ x hx=>(putL_keys.mp hx).elim (h4 x) λ e=>e ▸ ic;show%[ng,ka,v,kvs,bK c,U,U,h1,by rw[cW];exact hk,⋯,λ v' hv'=>hq _ _ %[kvs,h1,?_,gD h3|i2] (Sg.refl _)|λ hn=>?_]
 ·unfold im;rw[Nw (OP λ z=>by rw[(h2.val c).2 z]at hv';cases hv')];exact h2
 ·have nn:c∉rs.map (·.1):=λ z=>by obtain⟨v',e,_⟩:=(h2.val c).1 z;rw[hn]at e;cases e
  show hq _ _ %[_,ai,?_,gD h3|i2] (Sg.put h1);rw[nL v hn];unfold im;rw[Nv nn];have kp:Kp H (upd H ng (.dT (kvs ++ [(bK c,v)]))):=xC (F:=F) (Sg.put h1);exact Paired.app (h2.keep kp) (.cons %[U|ha.keep kp] .nil)
def xE:Sp:=λ vs H Q _=>∃(bl wt:Nj)(as:No Nj)(bs:P0)(ws:Pz)(Kn:Nat),vs=[.ref bl,.ref wt]/\H bl=↥(as.map V.ref)/\BsA H as bs/\bs.length<=64/\(∀c∈bs,c.length=ws.length/\NnB c)/\H wt= ~~~(bV ws)/\ws.length<=8/\(∀x∈ws,0<=x)/\ws.sum<=6/\Kn<=6/\hit bs ws Kn=true/\(∀k,k < Kn->hit bs ws k=false) /\
 ∀(l:Nj)(as':No Nj)(H':Hp),H' l=↥(as'.map V.ref)->BsA H' as' (oP (lev bs ws Kn) (aG ws.length))->Same H H'->Q (.ref l) H'
theorem scfewb:FnScope PV PX (defScope bQ):=%[U,U,U,∅,U,∅|∅]
theorem zw{f:Nj}{fd:G1}(F:Fun K "fewest_bundles" "fewest_bundles" bQ f fd)(B:Blt mg)(DWI:Dn P w K mg base "without" PQ 1 (kO)):FnOk P w K mg base CX0 2 f fd PX (xE):=by
 exists scfewb;show bX λ G9 k9=>?_;obtain⟨bl,wt,as,bs,ws,Kn,rfl,hbl,ba,b64,bok,hwt,w8,h0,w6,kn6,hk,hk0,q⟩:=h;show k9 ?_;have hu:=hr.units;have hu1:=C8 (Mm (show 1<=64 by decide) _) hu;show%[_,((2∣(@aT _ _ _ _ _ _ _ _ _ aQ U B.tuple N0 ((aX (own:=["many"]) (cs:=[]) (cap:=[]) U (jE '1') (az (sc:=defScope bQ) (N:=PV) U U ∅) (λ _ _ _ _ _=>am (i:=0) (by change List.Nodup (["many"]:No Str) ;decide +kernel) U (Or.inl U) (Or.inr U)) (λ _ _ _ _ _=>aK) (λ _ _ _ _ _=>ag))^^^ae) ∅ ∅ U U))<<<((3∣(lO (Nat.lt_of_succ_lt hu1) '1' (@aZ _ _ _ _ ae)))<<<((ny E7 (Am (sX hu1 '2' '3')) ((4∣nO)<<<((@ce _ _ _ _ _ _ _ _ E7 U (nU '3') (bO U (5•(6•bi))) (@ah _ _ _ (@ce _ _ _ _ _ _ _ _ E7 U (bj '0') (am (i:=7) nd U (Or.inl U)) (@ah _ _ _ (@bL _ _ _ _ (@fX _ _ _ _ _ _ _ _ _ _ _ _ PySem.F.plainAttrs_dict Oa PySem.F.type_dict_setdefault (gv hu1) '4' ((DWI∪('5'^^^('7'^^^ae)))^^^(('6'|||mH|||(@aZ _ _ _ _ ('7'^^^ae)))^^^ae)) U U U U U) U)) (by intro _;rfl))) (by intro _;rfl))>>>(3∣'4'))))<<<((dC hu1 '3' '2' (λ _ _=>U))⁻¹))))|?_];dsimp only[bW];have z4:100000<=sizeLine:=∅
 have al:=E6 ba;have wvl:(bV ws).length=ws.length:=B5 _;show ao (λ R=>∀(nt:Nj)(H':Hp),H' nt= ~~~(bV (aG ws.length))->Same H H'->R [↑bl,↑wt,↑nt,none,none,none,none,none] H') (λ Dd hR=>?_) ?_
 ·show%[_,U,wt,U,%[_|G5 hwt]|(bu (K:=K) (.inr hwt) (λ i us Hx=>H=Hx/\us=bV (aG i)) (λ i us Hx _ ⟨e,_⟩ o h=>e ▸ h) %[U|U] ?_ ?_).2 hwt]
  ·rintro i x us _ hi ⟨rfl,rfl⟩;have hin:=(A7.mp hi).1;show%[by rw[wvl]at hin;rw[bV,aG,B5,K8];lia,leS.set rfl|aL (show Nx (bV ws).length (λ i us Hx=>H=Hx/\us=bV (aG i)) i (bV (aG i) ++ [V.int 0]) H from Nx.of hin %[U|?_])];rw[aG,aG,bV,bV,List.replicate_succ',J4];rfl
  ·rintro us _ ⟨rfl,rfl⟩;rw[wvl];show%[by rw[bV,aG,B5,K8];lia|λ cl hcl=>?_];show aF hcl λ H1 k1 s1=>?_;show%[cl,_,U|.inl %[G6 k1|λ nt hnt=>?_]];show aF hnt λ H2 k2 s2=>?_;exact hR nt _ k2 (s1.trans s2)
 rintro nt H1 hnt s1;have hbl1:=s1 _ _ hbl;have ba1:BsA H1 as bs:=ba.keep (Same.tps s1);show ao (λ R=>∀(la:Nj)(kvs:No (No Key×V))(H':Hp),H1 la=none->H' la=some (.dT kvs)->LtsA H' kvs (lev bs ws 0)->Same H1 H'->R [↑bl,↑wt,↑nt,↑la,none,none,none,none] H') (λ Dd hR=>?_) ?_
 ·intro la hla;show aF hla λ H2 k2 s2=>?_;show%[_,U,zS0|λ el hel=>?_];show aF hel λ H3 k3 s3=>?_;have hw3:H3 wt= ~~~((bK ws).map kV):=by rw[cW];exact s3 _ _ (s2 _ _ (s1 _ _ hwt))
  have h3:H3 la=some (.dT []):=s3 _ _ k2;show%[h3,wt,bK ws,U,hw3|hR la _ _ hla ai (.cons %[U,el,[],U,?_|.nil] .nil) (λ c o e=>?_)]
  ·rw[ak (λ z=>by rw[z,h3]at k3;cases k3)];exact k3
  ·rw[ak (aj e hla)];exact s3 _ _ (s2 _ _ e)
 rintro la kvs H2 hla h2 lt2 s2;have h0':∀x∈ws,0<=x:=h0;show bI (λ σ' H'=>∃(la:Nj)(kvs:No (No Key×V))(v4 v5 v6 v7:Nm V),σ'=[↑bl,↑wt,↑nt,↑la,v4,v5,v6,v7]/\H' la=some (.dT kvs)/\LtsA H' kvs (lev bs ws Kn)/\Same H1 H') (λ R hR=>?_) ?_
 ·show%[λ mm σ' H'=>∃k,k<=Kn/\mm=Kn - k/\∃(la:Nj)(kvs:No (No Key×V))(v4 v5 v6 v7:Nm V),σ'=[↑bl,↑wt,↑nt,↑la,v4,v5,v6,v7]/\H1 la=none/\H' la=some (.dT kvs)/\LtsA H' kvs (lev bs ws k)/\Same H1 H',%[_,0,F1 _,U,la,kvs,none,none,none,none,U,hla,h2,lt2|s2]|?_];intro mm σ Hx hI9;show bX λ G9 k9=>?_;obtain⟨k,kK,rfl,la,kvs,v4,v5,v6,v7,rfl,hla,hlx,ltx,sx⟩:=hI9;show k9 ?_;have hntx:Hx nt= ~~~((bK (aG ws.length)).map kV):=by rw[cW];exact sx _ _ hnt
  show%[_,U,_,U,la,_,U,DGet.t (k:=bK (aG ws.length)) hlx hntx,_,U|?_]
  by_cases ck:k=Kn
  ·subst ck;have zm:aG ws.length∈(lev bs ws k).map (·.1):=C2 hk;obtain⟨v,hv,_⟩:=(ltx.val _).1 zm;rw[hv];exact aV (hR _ _ %[la,kvs,v4,v5,v6,v7,rfl,hlx,ltx|sx])
  have kl:k < Kn:=⋯
  have zn:aG ws.length∉(lev bs ws k).map (·.1):=Op (hk0 k kl);rw[(ltx.val _).2 zn];show bN %[λ σ' H'=>∃(la:Nj)(kvs:No (No Key×V))(v4 v5 v6 v7:Nm V),σ'=[↑bl,↑wt,↑nt,↑la,v4,v5,v6,v7]/\H1 la=none/\H' la=some (.dT kvs)/\LtsA H' kvs (lev bs ws (k+1))/\Same H1 H',λ σ' H' h=>%[Kn - (k+1),⋯,k+1,kl,rfl|h]|?_];show ao (λ R=>∀(ng:Nj)(H':Hp),Hx ng=none->H' ng=some (.dT [])->Same Hx H'->R [↑bl,↑wt,↑nt,↑la,↑ng,v5,v6,v7] H') (λ Dd hR=>?_) ?_
  ·intro ng hng;show aF hng λ H3 k3 s3=>?_;exact hR ng _ hng k3 s3
  rintro ng H3 hng h3 s3;have nln:la≠ng:=aj hlx hng;have lok:=fE h0 bok k;have lnd:=ur bs ws k;have kvl:=E6 ltx;have l64:(lev bs ws k).length<=64:=by have:=InB.few h0 w6 lnd (λ x hx=>by obtain⟨r,hr,rfl⟩:=J5.mp hx;exact(lok r hr).1);rw[B5]at this;exact this
  show ao (λ R=>∀(v5 v6 v7:Nm V)(H':Hp),LgI ng ws H' (lev bs ws (k+1))->Sg (· = la) ng H3 H'->R [↑bl,↑wt,↑nt,↑la,↑ng,v5,v6,v7] H') (λ Dd hR=>?_) ?_
  ·show%[_,U,la,kvs,U,s3 _ _ hlx|λ ob=>?_];have hf:(upd H3 la (.frz ob (.dT kvs))) la=some (.frz ob (.dT kvs)):=ai;have sf0:Sf (· = la) H3 (upd H3 la (.frz ob (.dT kvs))):=λ c o e=>by
    by_cases z:c=la
    ·subst z;rw[s3 _ _ hlx]at e;cases e;exact .inr %[U,ob,_,U|ai]
    ·rw[ak z];exact .inl e
   generalize upd H3 la (.frz ob (.dT kvs))=H4 at hf sf0 ⊢;have lt4:LtsA H4 kvs (lev bs ws k):=(ltx.keep (eR s3)).keep (Ac sf0);have k14:Kp H1 H4:=((eR sx).trans (eR s3)).trans (Ac sf0);show tK (λ i σ' H'=>∃v5 v6 v7:Nm V,σ'=[↑bl,↑wt,↑nt,↑la,↑ng,v5,v6,v7]/\LgI ng ws H' (gC [] (((lev bs ws k).take i).flatMap (qy bs)))/\Sg (· = la) ng H4 H') ⟨v5,v6,v7,rfl,%[[],sf0.not (λ z:ng=la=>nln z.symm) h3,.nil,by simp[gC]|(λ x hx=>by cases hx)],Sg.refl _⟩ (λ i σ Hy _ h9=>by obtain⟨_,_,_,_,_,sy⟩:=h9;exact sy.frz hf) ?_ ?_
   ·rintro i kk v pa qa σ Hy hi hpa hqa ⟨v5,v6,v7,rfl,iy,sy⟩;obtain⟨r,hr,hk1,l,las,e,hl,bl1⟩:=G8 lt4 hi;have e:v=.ref l:=e;subst e;have hkk:kk=bK r.1:=hk1;obtain⟨ir,rlen,rmem,_⟩:=lok r (B7 hr);rw[hkk,cW]at hqa;show aF hpa λ H5 k5 s5=>?_;have k45:Kp H4 H5:=(xC sy).trans (eR s5);have tk:((lev bs ws k).take (i+1)).flatMap (qy bs)=((lev bs ws k).take i).flatMap (qy bs) ++ qy bs r:=by rw[K6,hr,K9,NH,M4,List.flatMap_nil,MR]
    obtain⟨R1,eR1⟩:∃R1,R1=gC [] (((lev bs ws k).take i).flatMap (qy bs)):=%[_|U]
    rw[<- eR1]at iy;show%[pa,_,U,G5 k5,U,_,_,U,_,_,U,U|?_];have hbl5:H5 bl=↥(as.map V.ref):=(k14.trans k45).2 _ _ hbl1;show%[_,U,bl,U,%[_|G6 hbl5]|cN (xs:=as.map V.ref) (λ j σ' H'=>∃v7:Nm V,σ'=[↑bl,↑wt,↑nt,↑la,↑ng,↑qa,↑l,v7]/\LgI ng ws H' (gC R1 ((bs.take j).map λ c=>(aN r.1 c,r.2 ++ [c])))/\Sg (· = la) ng H5 H') %[v7,U,by rw[List.take_zero];exact LgI.keep (F:=λ _=>False) s5 iy|Sg.refl _] (λ j σ Hz _ h9=>by obtain⟨_,_,_,sz⟩:=h9;exact G6 (sz.lst hbl5)) ?_ ?_]
    ·rintro j x σ Hz hj ⟨v7,rfl,iz,sz⟩;rw[J0]at hj;obtain⟨ca,hca,rfl⟩:=J8.mp hj;obtain⟨c,hc,hcc⟩:=G8 ba1 hca;obtain⟨c1,c2⟩:=bok c (B7 hc);have kz:Kp H4 Hz:=k45.trans (xC sz);have hcz:Hz ca= ~~~(bV c):=(k14.trans kz).1 _ _ hcc;have hqz:Hz qa= ~~~(bV r.1):=sz.tps _ _ (s5 _ _ hqa);have el:r.1.length=c.length:=by rw[ir.1,c1]
     show%[_,U,.inr (.inr (.inl %[U|.inr (let ⟨kv,h,_⟩:=iz;%[kv|h])])),_,U,_,U,qa,ca,r.1,c,U,hqz,hcz,el,by rw[ir.1];exact w8|λ ka H6 hka s6=>?_];show%[_,U,_,U,zS1|λ nl hnl=>?_];show aF hnl λ H7 k7 s7=>?_;have k47:Kp H4 H7:=kz.trans (eR (s6.trans s7));have lal:=E6 bl1;show%[l,nl,_,_,U,U,k47.2 _ _ hl,k7,by rw[B5,lal,rlen];simp;lia|λ ol hol=>?_];rw[show las.map V.ref ++ [V.ref ca]=(las ++ [ca]).map V.ref by rw[J4];rfl];show aF hol λ H8 k8 s8=>?_;have sz8:Same Hz H8:=(s6.trans s7).trans s8;have iw:InB ws (aN r.1 c):=by have:=fE h0 bok (k+1) (aN r.1 c,oP (lev bs ws (k+1)) (aN r.1 c)) (kM (lev_next.mpr %[r.1,J5.mpr %[r,B7 hr|U],c,B7 hc|U]));exact this.1
     show xD (F:=(· = la)) (lot:=r.2 ++ [c]) h0 w6 (LgI.keep (F:=λ _=>False) sz8 iz) (s8 _ _ (s7 _ _ hka)) iw %[ol,las ++ [ca],rfl,k8|Paired.app (bl1.keep (k47.trans (eR s8)).1) (.cons (sz8 _ _ hcz) .nil)] λ v' H9 i9 s9=>%[_,U,?_|(sz.trans (Same.sg sz8)).trans s9]
     rw[K6,hc,K9,J4,oN];exact i9
    ·rintro σ Hz ⟨v7,rfl,iz,sz⟩;show%[_,_,_,U,?_|(sy.trans (Same.sg s5)).trans sz];rw[tk,oN,<- eR1];rw[B5,al,MG]at iz;exact iz
   ·rintro σ Hy ⟨v5,v6,v7,rfl,iy,sy⟩;rw[kvl,MG]at iy;exact hR v5 v6 v7 _ iy (sf0.sg.trans sy)
  rintro v5 v6 v7 H4 ⟨kv4,g1,g2,_⟩ s4;show%[_,U,ng,kv4,_,_,_,_,U,sx.free hng,g1,g2|λ c o e=>?_];have ne1:c≠ng:=aj (sx _ _ e) hng;have ne2:¬ c=la:=λ z=>by rw[z,hla]at e;cases e
  exact s4.not ne1 ne2 (s3 _ _ (sx _ _ e))
 intro _ H3 hI9;show bX λ G9 k9=>?_;obtain⟨la,kvs,v4,v5,v6,v7,rfl,h3,lt3,s3⟩:=hI9;show k9 ?_;have zm:aG ws.length∈(lev bs ws Kn).map (·.1):=C2 hk;obtain⟨v,hv,l,as',rfl,hl,ba'⟩:=(lt3.val _).1 zm;have hnt3:H3 nt= ~~~((bK (aG ws.length)).map kV):=by rw[cW];exact s3 _ _ hnt
 exact%[_,U,_,U,la,.ref l,U,hv ▸ DGet.t (k:=bK (aG ws.length)) h3 hnt3|q l as' H3 hl ba' (s1.trans s3)]
theorem zero_le{n:Nat}{c:Pz}(l:c.length=n)(nn:NnB c)(h:leB c (aG n)=true):c.sum=0:=by
 have h1:=(kG (by rw[l];unfold aG;rw[K8]) h).1;have h2:=gA nn;have h3:(aG n).sum=0:=by
  unfold aG;clear h h1 l
  induction n with
  | zero=>rfl
  | succ n ih=>rw[Mt,MQ,ih];rfl
 lia
def FdW(b:Int)(ks:No Kd)(fa:Nj)(H:Hp):Prop:=∃(ss:No ((Int×Int)×V))(m n:Nat),H fa=some (.dT (byP ss))/\kI b ks fa H ss/\ss.map (·.1)=aU m n/\m<=8/\n<=8
def kP(n:Nat):Sp:=λ vs H Q _=>∃(fa pt gt ct:Nj)(b:Int)(ks:No Kd)(ss:No ((Int×Int)×V))(m m':Nat)(p:Int×Int)(g c:Pz),vs=[.ref fa,.ref pt,.ref gt,.ref ct]/\fA b ks/\H fa=some (.dT (byP ss))/\kI b ks fa H ss/\ss.map (·.1)=aU m m'/\p∈aU m m'/\H pt= ~~~[.int p.1,.int p.2]/\H gt= ~~~(bV g)/\g∈gK b ks p/\H ct= ~~~(bV c)/\c.length=ks.length/\NnB c/\leB c g=true/\msr p < n /\
 ∀v' H',TrV H' (tbF b ks n p g c) v'->Same H H'->Q v' H'
theorem sctbb:FnScope ["found","part","greatest","bundle","step","way","p","first","first_greatest","second","second_greatest","ahead","behind","first_tree"] PY (defScope bH):=%[U,U,U,∅,U,∅|∅]
theorem Bb{f:Nj}{fd:G1}(F:Fun K "tree_by_bundle" "tree_by_bundle" bH f fd)(n:Nat)(B:Blt mg)(Z:BeC mg)(DCM:Dn P w K mg base "common" PJ 1 (nk))(DWI:Dn P w K mg base "without" PQ 1 (kO))(DT:Dn P w K mg base "tree_by_bundle" PY (2+n) (kP n)):FnOk P w K mg base CX0 (2+(n+1)) f fd PY (kP (n+1)):=by
 apply F.ok sctbb (λ vs H Q E h=>?_) (λ cdv A outer s H vs Q E hr h=>?_)
 ·show bX λ G9 k9=>?_;obtain⟨fa,pt,gt,ct,b,ks,ss,m,m2,p,g,c,rfl,_⟩:=h;show k9 ?_
  rfl
 show bX λ G9 k9=>?_;obtain⟨fa,pt,gt,ct,b,ks,ss,m,m2,p,g,c,rfl,⟨b0,k1,k8,kw,w6⟩,hfa,fok,el,pm,hpt,hgt,gm,hct,cl,cn,cg,hn,q⟩:=h;show k9 ?_;have nd:=sctbb.nd;have hu:=hr.units;have hu1:=C8 (Mm (show 1<=64 by decide) _) hu;obtain⟨trs,hrs⟩:=Z.rs;obtain⟨tpc,hpc⟩:=Z.pc;show%[_,((((@ap _ _ _ _ _ _ _ _ _ (iN U) U B.sum Od ('3'^^^ae) ∅ ∅ U U)<*>dj<*>ag)<|>((@aJ _ _ _ _ _ ((cu (v:=.str "rest") U hrs %[trs|U])^^^ae))⁻¹)<|>ay)<<<((4∣(dC hu1 (dC hu1 '0' '1' (λ _ _=>U)) '2' (λ _ _=>U)))<<<(((('4'&&&aD&&&ag)<*>dj<*>(cu (v:=.str "piece") U hpc %[tpc|U]))<|>('4'⁻¹)<|>ay)<<<((@cR _ _ _ _ _ _ '4' (bO U (5•(6•(au (bO U (7•(8•bi))) (au (bO U (9•(10•bi))) bi))))) U U U)<<<((11∣(@av _ _ _ _ _ _ _ _ _ _ DCM (hr.mono (C7 ∅ (NJ 2 n))) U ('3'^^^('8'^^^ae)) ∅ U U))<<<((12∣(@av _ _ _ _ _ _ _ _ _ _ DWI (hr.mono (C7 ∅ (NJ 2 n))) U ('3'^^^(';'^^^ae)) ∅ U U))<<<((13∣(DT∪('0'^^^('7'^^^('8'^^^(';'^^^ae))))))<<<((@aJ _ _ _ _ _ ('5'^^^('6'^^^('='^^^((DT∪('0'^^^('9'^^^(':'^^^('<'^^^ae)))))^^^ae)))))⁻¹))))))))|?_];dsimp only[bW];obtain⟨⟨p1,p2⟩,p3,p4⟩:=partsL_mem.mp pm;have wl:(wsK ks).length=ks.length:=B5 _;show gX (λ R=>¬ c.sum=0->R [↑fa,↑pt,↑gt,↑ct,none,none,none,none,none,none,none,none,none,none] H) (λ R hR=>?_) ?_
 ·show%[_,U,ct,c,U,G5 hct,U,_,U|?_]
  by_cases z:c.sum=0
  ·rw[show decide (V.int c.sum=V.int 0)=true from Ny (by rw[z])];show bN %[zS1|λ a ha=>q (.ref a) _ ?_ (G4 ha)];unfold tbF;rw[Nw z];exact%[a,U|ai]
  ·rw[show decide (V.int c.sum=V.int 0)=false from N3 (λ e=>z (by injection e))];exact aV (hR z)
 rintro z;obtain⟨v,hv,hm⟩:=fS (ss:=ss) (by rw[el];exact pm);obtain⟨d,kvs,rfl,nd',rd,rwd⟩:=fok _ _ hm;obtain⟨st,hst,sta⟩:=rwd.get (b:=g) gm;show ao (λ R=>R [↑fa,↑pt,↑gt,↑ct,some st,none,none,none,none,none,none,none,none,none] H) (λ Dd hR=>?_) ?_
 ·exact%[_,U,_,U,fa,.ref d,U,hv ▸ DGet.t (k:=pk p) hfa hpt,_,U,d,st,U,hst ▸ DGet.r (k:=bK g) rd (by rw[cW];exact hgt)|hR]
 skip
 have rok:=rW b0 p1 p3 gm;have tb:tbF b ks (n+1) p g c=match hV (gB b ks p) g with
   | .rest=>.rest
   | .piece k t=>.piece k.toNat t 0 0
   | .cut dn q f o s u=>.cut dn q (tbF b ks n f o (aM c o)) (tbF b ks n s u (aN c (aM c o))):=by
  change(if c.sum=0 then _ else _)=_;rw[Nv z]
  try (cases hV (gB b ks p) g <;> rfl)
 generalize hV (gB b ks p) g=row at sta rok tb;cases row with
 | rest=>
  have rok:g=aG ks.length:=rok;rw[rok]at cg;exact absurd (zero_le cl cn cg) z
 | piece k t=>
  obtain⟨a,rfl,ha⟩:=sta;obtain⟨i,rfl,_⟩:=rok;show bI (λ σ' H'=>False) (λ R hR=>?_) (λ _ _ z=>z.elim);show%[_,U,a,_,0,_,U,U,G5 ha,U,U,_,U|?_];rw[Ny rfl];show bN %[_,rfl|q _ _ ?_ (Same.refl _)];rw[tb];exact%[a,U|ha]
 | cut dn pq f o s2 u=>
  obtain⟨a,x,y,rfl,ha,⟨xa,x1,x2,rfl,hxa,hx1,hx2⟩,⟨ya,y1,y2,rfl,hya,hy1,hy2⟩⟩:=sta;obtain⟨cm,rfl,rfl,om,um,rfl⟩:=rok;obtain⟨⟨a1,a2,a3,a4,_,a6⟩,⟨c1,c2,c3,c4,_,c6⟩⟩:=er b0 p1 p3 cm;have io:=bD kw om;have iu:=bD kw um;have mp:msr (p.1,p.2)=msr p:=rfl;have co:c.length=o.length:=by rw[io.1,wl,cl]
  show ao (λ R=>R [↑fa,↑pt,↑gt,↑ct,↑a,none,none,none,none,none,none,none,none,none] H) (λ Dd hR=>?_) ?_
  ·show%[_,U,a,_,0,_,U,U,G5 ha,U,U,_,U|?_];rw[show decide (wv dn=V.str "piece")=false by cases dn <;> decide +kernel];exact aV (hR)
  skip
  show ao (λ R=>R [↑fa,↑pt,↑gt,↑ct,↑a,some (wv dn),⇑pq,↑x1,↑x2,↑y1,↑y2,none,none,none] H) (λ Dd hR=>?_) ?_
  ·exact%[_,U,a,_,U,G5 ha,U,_,_,U,_,_,U,_,_,U,xa,_,U,G5 hxa,U,_,_,U,_,_,U,U,_,_,U,ya,_,U,G5 hya,U,_,_,U,_,_,U,U,U|hR]
  skip
  show ao (λ R=>∀(aa:Nj)(H':Hp),H' aa= ~~~(bV (aM c o))->Same H H'->R [↑fa,↑pt,↑gt,↑ct,↑a,some (wv dn),⇑pq,↑x1,↑x2,↑y1,↑y2,↑aa,none,none] H') (λ Dd hR=>?_) ?_
  ·exact%[_,U,_,U,ct,x2,c,o,U,hct,hx2,co,⋯|λ aa H1 haa s1=>hR aa _ haa s1]
  rintro aa H1 haa s1;have cwl:c.length=(aM c o).length:=by rw[bC co]
  show ao (λ R=>∀(ba:Nj)(H':Hp),H' ba= ~~~(bV (aN c (aM c o)))->Same H1 H'->R [↑fa,↑pt,↑gt,↑ct,↑a,some (wv dn),⇑pq,↑x1,↑x2,↑y1,↑y2,↑aa,↑ba,none] H') (λ Dd hR=>?_) ?_
  ·exact%[_,U,_,U,ct,aa,c,aM c o,U,s1 _ _ hct,haa,cwl,⋯|λ ba H2 hba s2=>hR ba _ hba s2]
  rintro ba H2 hba s2;have s02:=s1.trans s2;have fok2:∀{Hx:Hp},Same H Hx->kI b ks fa Hx ss:=λ s q v mm=>let ⟨d,kvs,e,nn,rd,rw'⟩:=fok q v mm;%[d,kvs,e,nn,(Same.sf (F:=(· = fa)) s).rd rd|rw'.keep (Same.tps s)]
  show ao (λ R=>∀(v1:V)(H':Hp),TrV H' (tbF b ks n (cI p.1 p.2 (dn,pq)) o (aM c o)) v1->Same H2 H'->R [↑fa,↑pt,↑gt,↑ct,↑a,some (wv dn),⇑pq,↑x1,↑x2,↑y1,↑y2,↑aa,↑ba,some v1] H') (λ Dd hR=>?_) ?_
  ·exact%[_,U,_,U,_,U,_,U,fa,x1,x2,aa,b,ks,ss,m,m2,cI p.1 p.2 (dn,pq),o,aM c o,U,%[b0,k1,k8,kw|w6],s02 _ _ hfa,fok2 s02,el,partsL_mem.mpr %[%[a1|⋯],a2|⋯],s02 _ _ hx1,s02 _ _ hx2,om,s2 _ _ haa,by rw[bC co];exact cl,ii co cn io.2.2,ij co,⋯|λ v1 H3 t1 s3=>hR v1 _ t1 s3]
  rintro v1 H3 t1 s3;have s03:=s02.trans s3;show%[_,U,_,U,_,U,_,U,_,U,_,U,_,U,fa,y1,y2,ba,b,ks,ss,m,m2,cK b p.1 p.2 (dn,pq),u,aN c (aM c o),U,%[b0,k1,k8,kw|w6],s03 _ _ hfa,fok2 s03,el,partsL_mem.mpr %[%[c1|⋯],c2|⋯],s03 _ _ hy1,s03 _ _ hy2,um,s3 _ _ hba,by rw[bo cwl];exact cl,fC cwl,oK (by rw[wl];exact cl) (by rw[io.1]) (by rw[iu.1]) cg iu.2.2,⋯|λ v2 H4 t2 s4=>%[zS4|λ ra hra=>q (.ref ra) _ ?_ ((s03.trans s4).trans (G4 hra))]];rw[tb];exact%[ra,v1,v2,U,ai,TrV.keep (λ _ _ e=>G4 hra _ _ (s4 _ _ e)) _ t1|TrV.keep (λ _ _ e=>G4 hra _ _ e) _ t2]
theorem zx{f:Nj}{fd:G1}(F:Fun K "tree_by_bundle" "tree_by_bundle" bH f fd):FnOk P w K mg base CX0 2 f fd PY (kP 0):=by
 apply F.ok sctbb (λ vs H Q E h=>?_) (λ cdv A outer s H vs Q E hr h=>?_)
 ·show bX λ G9 k9=>?_;obtain⟨fa,pt,gt,ct,b,ks,ss,m,m2,p,g,c,rfl,_⟩:=h;show k9 ?_
  rfl
 ·show bX λ G9 k9=>?_;obtain⟨fa,pt,gt,ct,b,ks,ss,m,m2,p,g,c,_,_,_,_,_,_,_,_,_,_,_,_,_,z,_⟩:=h;show k9 ?_;exact absurd z (F2 _)
theorem rX{f:Nj}{fd:G1}(F:Fun K "tree_by_bundle" "tree_by_bundle" bH f fd)(B:Blt mg)(Z:BeC mg)(DCM:Dn P w K mg base "common" PJ 1 (nk))(DWI:Dn P w K mg base "without" PQ 1 (kO))(mk:∀n,FnOk P w K mg base CX0 (2+n) f fd PY (kP n)->Dn P w K mg base "tree_by_bundle" PY (2+n) (kP n)):∀n,FnOk P w K mg base CX0 (2+n) f fd PY (kP n)
 | 0=>zx F
 | n+1=>Bb F n B Z DCM DWI (mk n (rX F B Z DCM DWI mk n))
def Sl(fl:Nj)(H H':Hp):Prop:=∀b o,H b=some o->H' b=some o\/(b=fl/\∃xs ys,o=.lst xs/\H' b=↥ys)
theorem je{fl:Nj}{H H':Hp}(s:Same H H'):Sl fl H H':=λ b o e=>.inl (s b o e)
theorem Sl.trans{fl:Nj}{H H1 H2:Hp}(a:Sl fl H H1)(b:Sl fl H1 H2):Sl fl H H2:=λ c o e=>by
 rcases a c o e with h | ⟨rfl,xs,ys,rfl,h⟩
 ·exact b c o h
 ·rcases b c _ h with h | ⟨_,_,zs,_,h⟩
  ·exact .inr %[U,xs,ys,U|h]
  ·exact .inr %[U,xs,zs,U|h]
theorem Sl.tps{fl:Nj}{H H':Hp}(s:Sl fl H H'):Tps H H':=λ b xs e=>(s b _ e).resolve_right λ%[_,_,_,z|_]=>by cases z
theorem Sl.dT{fl:Nj}{H H':Hp}(s:Sl fl H H'){b:Nj}{kvs:No (No Key×V)}(e:H b=some (.dT kvs)):H' b=some (.dT kvs):=(s b _ e).resolve_right λ%[_,_,_,z|_]=>by cases z
theorem Sl.lst{fl:Nj}{H H':Hp}(s:Sl fl H H'){b:Nj}{o:HO}(n:b≠fl)(e:H b=some o):H' b=some o:=(s b _ e).resolve_right λ%[z|_]=>n z
theorem Sl.same{fl:Nj}{H H':Hp}(s:Sl fl H H')(n:H fl=none):Same H H':=λ b o e=>s.lst (λ z=>by rw[z,n]at e;cases e) e
theorem Sl.rd{fl:Nj}{H H':Hp}(s:Sl fl H H'){b:Nj}{kvs:No (No Key×V)}(e:Rd H b (.dT kvs)):Rd H' b (.dT kvs):=by
 rcases e with e | ⟨o,e⟩
 ·exact .inl (s.dT e)
 ·exact .inr %[o|(s b _ e).resolve_right λ%[_,_,_,z|_]=>by cases z]
def qA(bs:P0)(ws:Pz):Nat:=((List.range 7).find? (hit bs ws)).getD 0
def cM(b:Int)(ks:No Kd)(p:Int×Int):P0:=oP (lev (gK b ks p) (wsK ks) (qA (gK b ks p) (wsK ks))) (aG ks.length)
def dQ(b:Int)(ks:No Kd)(p:Int×Int):Pz->P0->No Tr
 | _,[]=>[]
 | ms,g :: r=>tbF b ks 17 p g (aM ms g) :: dQ b ks p (aN ms (aM ms g)) r
def cV:Pz->P0->Pz
 | ms,[]=>ms
 | ms,g :: r=>cV (aN ms (aM ms g)) r
theorem oQ(ms:Pz):∀(a b:P0),cV ms (a ++ b)=cV (cV ms a) b
 | [],_=>rfl
 | g :: a,b=>oQ _ a b
theorem oR(b:Int)(ks:No Kd)(p:Int×Int)(ms:Pz):∀(a c:P0),dQ b ks p ms (a ++ c)=dQ b ks p ms a ++ dQ b ks p (cV ms a) c
 | [],_=>rfl
 | g :: a,c=>by change _ :: dQ b ks p _ (a ++ c)=_ :: _;rw[oR b ks p _ a c];rfl
theorem eC(b:Int)(ks:No Kd)(p:Int×Int):∀(ms:Pz)(a:P0),(dQ b ks p ms a).length=a.length
 | _,[]=>rfl
 | _,_ :: a=>by rw[dQ,K3,K3,eC b ks p _ a]
theorem awF_iff{ks:No Kd}{p:Int×Int}:awF ks p=true↔∀i,i < ks.length->waA ks i=0\/i∈iS ks p:=by
 unfold awF awf;rw[List.all_map,Nc];constructor
 ·intro h i hi;have:=h i (MD.mpr hi);simpa using this
 ·intro h i hi;simpa using h i (MD.mp hi)
theorem kQ{b:Int}{ks:No Kd}{p:Int×Int}(gd:fA b ks)(p1:1<=p.1)(p2:1<=p.2)(aw:awF ks p=true):qA (gK b ks p) (wsK ks)<=6/\hit (gK b ks p) (wsK ks) (qA (gK b ks p) (wsK ks))=true/\∀k,k < qA (gK b ks p) (wsK ks)->hit (gK b ks p) (wsK ks) k=false:=by
 obtain⟨b0,k1,k8,kw,w6⟩:=gd;have wl:(wsK ks).length=ks.length:=B5 _;have hb:∀c∈gK b ks p,c.length=(wsK ks).length/\NnB c:=λ c hc=>%[(bD kw hc).1|(bD kw hc).2.2]
 obtain⟨j,j1,j2⟩:=zu (bs:=gK b ks p) (ws0 kw) hb (λ i w hw w0=>by
  rw[J0]at hw;obtain⟨k,hk,rfl⟩:=J8.mp hw;have il:i < ks.length:=(A7.mp hk).1;have wk:waA ks i=k.wa:=by unfold waA;rw[hk];rfl
  have fi:i∈iS ks p:=(awF_iff.mp aw i il).resolve_left (by rw[wk];lia);unfold iS at fi;obtain⟨q,hq,rfl⟩:=J5.mp fi;have mm:bY ks.length q.1∈(bJ b ks (gB b ks) p).map (·.1):=by unfold bJ;show adds_keys.mpr (.inl (adds_keys.mpr (.inr (J5.mpr %[(bY ks.length q.1,.piece q.1 q.2),Ml.mpr %[q,hq|?_]|U]))));unfold lyR;rw[wk,Nw w0];exact E5.mpr rfl
  obtain⟨t,mt,lt⟩:=zt (ws:=wsK ks) (λ y hy=>iQ kw (λ c _=>%[λ r hr=>oG kw hr|λ r hr=>oG kw hr]) hy) mm;rw[<- rT b0 p p1 p2]at mt;obtain⟨z,hz⟩:=atB (a:=t) (i:=q.1) (by rw[(bD kw mt).1,wl];exact il);show%[t,mt,z,hz|?_];have oi:(bY ks.length q.1)[q.1]?=some 1:=by unfold bY;rw[J0,List.getElem?_range il];simp
  exact(bZ (by rw[cJ,(bD kw mt).1,wl])).mp lt q.1 1 z oi hz) 6 0 (wsK ks) (E5.mpr rfl) (by exact_mod_cast w6)
 rw[Nat.zero_add]at j2;cases e:(List.range 7).find? (hit (gK b ks p) (wsK ks))with
 | none=>
  have:=List.find?_eq_none.mp e j (MD.mpr ⋯);exact absurd j2 this
 | some K=>
  obtain⟨h1,h2,h3⟩:=List.find?_range_eq_some.mp e;have h2:=MD.mp h2;have ek:qA (gK b ks p) (wsK ks)=K:=by unfold qA;rw[e];rfl
  rw[ek];exact%[⋯,h1|λ k hk=>by have:=h3 k hk;simpa using this]
def xF(C:Nj):Sp:=λ vs H Q _=>∃(s:Nj)(b:Int)(ks:No Kd)(m n:Nat),vs=[.ref s,.int m,.int n]/\ShopAt C H s b ks/\fA b ks/\1<=m/\m<=8/\1<=n/\n<=8 /\
 (awF ks (m,n)=false->∀H',Same H H'->Q .non H')/\(awF ks (m,n)=true->∀(r tl:Nj)(us:No V)(H':Hp),H tl=none->H' r= ~~~[.int (cM b ks (m,n)).length,.ref tl]->H' tl=↥us->Paired (λ v t=>TrV H' t v) us (dQ b ks (m,n) (wsK ks) (cM b ks (m,n)))->Same H H'->Q (.ref r) H')
theorem scfewo:FnScope ["shop","wide","high","plate","found","missing","trees","greatest","bundle"] O8 (defScope fR):=%[U,U,U,∅,U,∅|∅]
theorem zy{f:Nj}{fd:G1}(F:Fun K "fewest_of" "fewest_of" fR f fd){C:Nj}(B:Blt mg)(T:ShopTxt K C)(MW:Mn P w K mg base C "wanted" O1 1 (ei C))(DCK:Dn P w K mg base "check_small" O8 3 ((xj C)))(DAW:Dn P w K mg base "all_wanted_fit" PU 6 ((Ab C)))(DGS:Dn P w K mg base "greatest_steps" O8 7 ((kJ C)))(DFB:Dn P w K mg base "fewest_bundles" PX 2 (xE))(DCM:Dn P w K mg base "common" PJ 1 (nk))(DWI:Dn P w K mg base "without" PQ 1 (kO))(DTB:Dn P w K mg base "tree_by_bundle" PY 19 ((kP 17))):FnOk P w K mg base CX0 20 f fd O8 (xF C):=by
 exists scfewo;show bX λ G9 k9=>?_;obtain⟨s,b,ks,m,n,rfl,S0,gd,m1,m8,n1,n8,q0,q⟩:=h;show k9 ?_;have hu:=hr.units;have hu1:=C8 (Mm (show 1<=64 by decide) _) hu;show%[_,((@bL _ _ _ _ (DCK∩('0'^^^('1'^^^('2'^^^ae)))) U)<<<((3∣(@aJ _ _ _ _ _ ('1'^^^('2'^^^ae))))<<<(((@aY _ _ _ _ (@aR _ _ _ (DAW∩('0'^^^('3'^^^ae))) (by intro _;rfl)))<|>(dh⁻¹)<|>ay)<<<((4∣(DGS∩('0'^^^('1'^^^('2'^^^ae)))))<<<((5∣(iG '0' T.cl MW (hr.mono ∅)))<<<((6∣(@aZ _ _ _ _ ae))<<<((@ce _ _ _ _ _ _ _ _ E7 U (bj (DFB∩((@aT _ _ _ _ _ _ _ _ _ (kf U) U B.list Ob ((dC hu1 '4' '3' (λ _ _=>U))^^^ae) ∅ ∅ U U)^^^('5'^^^ae)))) (am (i:=7) nd U (Or.inl U)) ((8∣(DCM∩('5'^^^('7'^^^ae))))<<<((@bL _ _ _ _ (@fX _ _ _ _ _ _ _ _ _ _ _ _ F8 PySem.F.slot_list_append PySem.F.type_list_append dS '6' ((DTB∪('4'^^^('3'^^^('7'^^^('8'^^^ae)))))^^^ae) U U U U U) U)>>>(5∣(DWI∩('5'^^^('8'^^^ae)))))) (by intro _;rfl))<<<((@aJ _ _ _ _ _ ((@ap _ _ _ _ _ _ _ _ _ aI U B.len PySem.boot_len ('6'^^^ae) ∅ ∅ U U)^^^('6'^^^ae)))⁻¹))))))))|?_];dsimp only[bW];have z4:4096<=sizeLine:=∅
 obtain⟨b0,k1,k8,kw,w6⟩:=id gd;have wl:(wsK ks).length=ks.length:=B5 _;obtain⟨dx,r0,rs0,g1,g2,g3⟩:=id S0;show ao (λ R=>∀(H':Hp),Same H H'->R [↑s,⇑m,⇑n,none,none,none,none,none,none] H') (λ Dd hR=>?_) ?_
 ·exact%[_,U,_,U,_,U,s,b,m,n,ks,U,S0,k8,⋯,⋯,⋯,⋯,w6|λ H' s'=>hR _ s']
 rintro H1 s1;show ao (λ R=>∀(pl:Nj)(H':Hp),H' pl= ~~~[.int (m:Int),.int (n:Int)]->Same H H'->R [↑s,⇑m,⇑n,↑pl,none,none,none,none,none] H') (λ Dd hR=>?_) ?_
 ·show%[_,U,_,U,zS2|λ pl hpl=>?_];show aF hpl λ H2 k2 s2=>?_;exact hR pl _ k2 (s1.trans s2)
 rintro pl H2 hpl s2;have keepS:∀{Hx:Hp},Same H Hx->ShopAt C Hx s b ks:=λ sx=>S0.keep (λ _ _ e=>sx _ _ e) (λ _ _ _ _ e=>sx _ _ e);show gX (λ R=>∀(H':Hp),awF ks (m,n)=true->Same H2 H'->R [↑s,⇑m,⇑n,↑pl,none,none,none,none,none] H') (λ R hR=>?_) ?_
 ·show%[_,U,_,U,s,pl,b,ks,((m:Int),(n:Int)),U,keepS s2,k8,hpl|λ H3 s3=>%[_,U|?_]];cases e:awF ks (m,n)with
  | false=>exact bN (q0 e _ (s2.trans s3))
  | true=>exact aV (hR _ e s3)
 rintro H3 aw s3';have s3:=s2.trans s3';obtain⟨fk6,fkh,fk0⟩:=kQ (p:=((m:Int),(n:Int))) gd (by change(1:Int)<=m;lia) (by change(1:Int)<=n;lia) aw;show ao (λ R=>∀(fa:Nj)(ss:No ((Int×Int)×V))(H':Hp),H' fa=some (.dT (byP ss))->ss.map (·.1)=aU m n->kI b ks fa H' ss->Same H3 H'->R [↑s,⇑m,⇑n,↑pl,↑fa,none,none,none,none] H') (λ Dd hR=>?_) ?_
 ·exact%[_,U,_,U,_,U,s,b,ks,m,n,U,keepS s3,gd,m1,m8,n1,n8|λ fa ss H' a1 a2 a3 a4 _ a6=>hR fa ss _ a2 a3 a4 a6]
 rintro fa ss H4 hfa el fok s4;have s04:=s3.trans s4;show ao (λ R=>∀(wt:Nj)(H':Hp),H' wt= ~~~(bV (wsK ks))->Same H4 H'->R [↑s,⇑m,⇑n,↑pl,↑fa,↑wt,none,none,none] H') (λ Dd hR=>?_) ?_
 ·show%[_,U,s,dx,_,U,s04 _ _ g1,cX _ _ ∅ ∅,s,b,ks,U,keepS s04,k8|λ wt H5 _ hwt s5=>hR wt _ ?_ s5];rw[hwt,bV,MO];rfl
 rintro wt H5 hwt s5;show ao (λ R=>∀(tl:Nj)(H':Hp),H5 tl=none->H' tl=↥[]->Same H5 H'->R [↑s,⇑m,⇑n,↑pl,↑fa,↑wt,↑tl,none,none] H') (λ Dd hR=>?_) ?_
 ·show%[zS0|λ tl htl=>?_];show aF htl λ H6 k6 s6=>?_;exact hR tl _ htl k6 s6
 rintro tl H6 htl0 htl s6;have s46:=s5.trans s6;have s06:=s04.trans s46;have fokS:∀{Hx:Hp},Sl tl H6 Hx->kI b ks fa Hx ss:=λ sx q v mm=>by obtain⟨d,kvs,e,nn,rd,rw'⟩:=fok q v mm;exact%[d,kvs,e,nn,sx.rd ((Same.sf (F:=(· = fa)) s46).rd rd)|rw'.keep λ a xs e=>sx.tps _ _ (s46 _ _ e)]
 have pm:((m:Int),(n:Int))∈aU m n:=partsL_mem.mpr %[%[by change(1:Int)<=m;lia|E8 _],by change(1:Int)<=n;lia|E8 _];obtain⟨v,hv,hm⟩:=fS (ss:=ss) (by rw[el];exact pm);obtain⟨d,kvs,rfl,nd',rd,rwd⟩:=fok _ _ hm;obtain⟨lot,elot⟩:∃lot,lot=cM b ks (m,n):=%[_|U]
 have hb:∀c∈gK b ks ((m:Int),(n:Int)),c.length=(wsK ks).length/\NnB c:=λ c hc=>%[(bD kw hc).1|(bD kw hc).2.2]
 have lok:=fE (ws0 kw) hb _ _ (kM (C2 fkh));rw[wl]at lok;have lot6:lot.length<=6:=by rw[elot];exact C7 (NK lok.2.1) fk6
 have lotm:∀g∈lot,g∈gK b ks ((m:Int),(n:Int)):=by rw[elot];exact lok.2.2.1
 show bI (λ σ' H'=>∃(ma:Nj)(us:No V)(v7 v8:Nm V),σ'=[↑s,⇑m,⇑n,↑pl,↑fa,↑ma,↑tl,v7,v8]/\H' tl=↥us/\Paired (λ v t=>TrV H' t v) us (dQ b ks (m,n) (wsK ks) lot)/\Same H H') (λ R hR=>?_) ?_
 ·show%[_,U,_,U,fa,.ref d,U,hv ▸ DGet.t (k:=pk ((m:Int),(n:Int))) (s46 _ _ hfa) (s46 _ _ (s4 _ _ (s3' _ _ hpl))),d,kvs,U,(Same.sf (F:=(· = fa)) s46).rd rd|λ l as hl pas=>?_];show aF hl λ H7 k7 s7=>?_;have rw7:RwsA H7 kvs (gB b ks ((m:Int),(n:Int))):=rwd.keep λ a xs e=>s7 _ _ (s46 _ _ e);have ba:BsA H7 as (gK b ks ((m:Int),(n:Int))):=by
   have:∀(as:No Nj)(kv:No (No Key×V))(rs:Rws),Paired (λ (b:Nj)(kv:No Key×V)=>H6 b= ~~~(kv.1.map kV)) as kv->RwsA H7 kv rs->BsA H7 as (rs.map (·.1)):=λ as kv rs h1 h2=>by
    induction h2 generalizing as with
    | nil=>cases h1;exact .nil
    | cons x _ ih=>cases h1 with
     | cons y z=>exact .cons (by rw[x.1,cW]at y;exact s7 _ _ y) (ih _ z)
   exact this as kvs _ pas rw7
  have g64:(gK b ks ((m:Int),(n:Int))).length<=64:=InB.few (ws0 kw) w6 (by rw[rT b0 _ (by change(1:Int)<=m;lia) (by change(1:Int)<=n;lia)];exact dw (bR _ _ _ _)) (λ x hx=>bD kw hx);show%[_,U,l,wt,as,gK b ks ((m:Int),(n:Int)),wsK ks,_,U,k7,ba,g64,hb,s7 _ _ (s6 _ _ hwt),by rw[wl];exact k8,ws0 kw,w6,fk6,fkh,fk0|λ l2 as2 H8 hl2 ba2 s8=>?_];rw[wl]at ba2;have ba2:BsA H8 as2 lot:=by rw[elot];exact ba2
  have al2:=E6 ba2;have s68:=s7.trans s8;show%[l2,U,%[_|G6 hl2]|cN (xs:=as2.map V.ref) (λ i σ' H'=>∃(ma:Nj)(us:No V)(v7 v8:Nm V),σ'=[↑s,⇑m,⇑n,↑pl,↑fa,↑ma,↑tl,v7,v8]/\H' ma= ~~~(bV (cV (wsK ks) (lot.take i)))/\(cV (wsK ks) (lot.take i)).length=ks.length/\NnB (cV (wsK ks) (lot.take i))/\H' tl=↥us/\Paired (λ v t=>TrV H' t v) us (dQ b ks (m,n) (wsK ks) (lot.take i))/\Sl tl H8 H'/\H' l2=↥(as2.map V.ref)) %[wt,[],none,none,U,s8 _ _ (s7 _ _ (s6 _ _ hwt)),wl,ws0 kw,s8 _ _ (s7 _ _ htl),.nil,je (Same.refl _)|hl2] (λ i σ Hx _ h9=>by obtain⟨_,_,_,_,_,_,_,_,_,_,_,h⟩:=h9;exact G6 h) ?_ ?_]
  ·intro i x σ Hx hi hI9;show bX λ G9 k9=>?_;obtain⟨ma,us,v7,v8,rfl,hma,ml,mn,hus,pus,sx,hl2x⟩:=hI9;show k9 ?_;have hin:i < as2.length:=by have:=(A7.mp hi).1;rw[B5]at this;exact this
   rw[J0]at hi;obtain⟨ga,hga,rfl⟩:=J8.mp hi;obtain⟨g,hg,hgg⟩:=G8 ba2 hga;have gm:=lotm g (B7 hg);have ig:=bD kw gm;have hgx:Hx ga= ~~~(bV g):=sx.tps _ _ hgg;have tk:lot.take (i+1)=lot.take i ++ [g]:=by rw[K6,hg];rfl
   obtain⟨ms,ems⟩:∃ms,ms=cV (wsK ks) (lot.take i):=%[_|U]
   rw[<- ems]at hma ml mn;have mg':ms.length=g.length:=by rw[ml,ig.1,wl]
   have ul:=E6 pus;rw[eC,K0]at ul;have nlt:l2≠tl:=λ z=>by
    rw[z,hus]at hl2x;injection hl2x with h
    injection h with h
    have:=OD List.length h;rw[B5]at this;lia
   show ao (λ R=>∀(ba:Nj)(H':Hp),H' ba= ~~~(bV (aM ms g))->Same Hx H'->R [↑s,⇑m,⇑n,↑pl,↑fa,↑ma,↑tl,↑ga,↑ba] H') (λ Dd hR=>?_) ?_
   ·exact%[_,U,_,U,ma,ga,ms,g,U,hma,hgx,mg',⋯|λ ba H9 hba s9=>hR ba _ hba s9]
   rintro ba H9 hba s9;have sl69:Sl tl H6 H9:=(je s68).trans (sx.trans (je s9));have cml:=bC mg';show ao (λ R=>∀(v1:V)(H':Hp),H' tl=↥(us ++ [v1])->Paired (λ v t=>TrV H' t v) (us ++ [v1]) (dQ b ks (m,n) (wsK ks) (lot.take (i+1)))->Sl tl H9 H'->R [↑s,⇑m,⇑n,↑pl,↑fa,↑ma,↑tl,↑ga,↑ba] H') (λ Dd hR=>?_) ?_
   ·show%[_,U,.inl %[U,_|G6 (s9 _ _ hus)],_,U,_,U,_,U,_,U,fa,pl,ga,ba,b,ks,ss,m,n,((m:Int),(n:Int)),g,aM ms g,U,gd,sl69.dT (s46 _ _ hfa),fokS sl69,el,pm,sl69.tps _ _ (s46 _ _ (s4 _ _ (s3' _ _ hpl))),s9 _ _ hgx,gm,hba,⋯,ii mg' mn ig.2.2,ij mg',by change((m:Int)+(n:Int)).toNat < 17;lia|λ v1 Ha t1 sa=>?_];have hua:Ha tl=↥us:=sa _ _ (s9 _ _ hus);have slu:Sl tl Ha (upd Ha tl (.lst (us ++ [v1]))):=λ c o e=>by
     by_cases z:c=tl
     ·subst z;rw[hua]at e;cases e;exact .inr %[U,_,_,U|ai]
     ·rw[ak z];exact .inl e
    show%[tl,us,v1,U,U,hua,⋯|hR v1 _ ai ?_ ((je sa).trans slu)];rw[tk,oR,<- ems];exact Paired.app (G7 pus λ v t h=>TrV.keep (λ _ _ e=>slu.tps _ _ (sa _ _ (s9 _ _ e))) t h) (.cons (TrV.keep slu.tps _ t1) .nil)
   rintro v1 Ha hua pua sa;show%[_,U,_,U,ma,ba,ms,aM ms g,U,sa.tps _ _ (s9 _ _ hma),sa.tps _ _ hba,⋯,⋯|λ na Hb hna sb=>?_];have em:cV (wsK ks) (lot.take (i+1))=aN ms (aM ms g):=by rw[tk,oQ,<- ems];rfl
   show%[na,us ++ [v1],_,_,U,by rw[em];exact hna,by rw[em,bo ⋯];exact ml,by rw[em];exact fC ⋯,sb _ _ hua,G7 pua λ v t h=>TrV.keep (λ _ _ e=>sb _ _ e) t h,(sx.trans (je s9)).trans (sa.trans (je sb))|sb _ _ (sa.lst nlt (s9 _ _ hl2x))]
  ·intro σ Hx hI9;show bX λ G9 k9=>?_;obtain⟨ma,us,v7,v8,rfl,hma,ml,mn,hus,pus,sx,_⟩:=hI9;show k9 ?_;rw[B5,al2,MG]at pus;show hR _ _ %[ma,us,v7,v8,rfl,hus,pus|?_];exact(s04.trans s5).trans (((je (s6.trans s68)).trans sx).same htl0)
 intro _ H7 hI9;show bX λ G9 k9=>?_;obtain⟨ma,us,v7,v8,rfl,hus,pus,s7⟩:=hI9;show k9 ?_;have ul:=E6 pus;rw[eC]at ul;show%[_,U,tl,_,U,.inl (G6 hus),_,U,zS2|λ r hr=>?_];show q aw r tl us _ ((s04.trans s5).free htl0) ?_ (G4 hr _ _ hus) ?_ (s7.trans (G4 hr))
 ·rw[ai,ul,elot]
 ·rw[<- elot];exact G7 pus λ v t h=>TrV.keep (λ _ _ e=>G4 hr _ _ e) t h
def lnL(k:Kd):No (Int×Int):=if k.tu && !decide (k.w=k.h)then[(k.w,k.h),(k.h,k.w)]else[(k.w,k.h)]
def eE(k:Kd)(w h:Int):Bool:=(lnL k).any λ q=>decide (q.1<=w) && decide (q.2<=h)
theorem sccell:FnScope PZ PZ (defScope rN):=%[U,U,U,∅,U,∅|∅]
theorem zA{f:Nj}{fd:G1}(F:Fun K "_law_cell" "_law_cell" rN f fd)(B:Blt mg):FnOk P w K mg base CX0 1 f fd PZ (wg K):=by
 exists sccell;obtain⟨a,ns,n,rfl,hS,n0,q⟩:=h;show%[_,((('1'<*>nA<*>(@ap _ _ _ _ _ _ _ _ _ aI U B.len N6 ('0'^^^ae) ∅ ∅ U U))<|>(('0'&&&bq&&&'1')⁻¹)<|>ay)<<<(ag⁻¹))|?_];dsimp only[bW];have hl:(ns.map V.int).length=ns.length:=B5 _;show%[_,U,_,U,a,_,U,.inl hS,_,_,U,U,_,U|?_];show cx (λ c=>?_) (λ c=>?_)
 ·have c':n < ((ns.map V.int).length:Int):=C2 c;rw[hl]at c';have hk:n.toNat < ns.length:=⋯
  have hv:atI (ns.map V.int) n=some (.int ns[n.toNat]):=cY n0 (by rw[J0,F4 hk];rfl);exact%[_,U,_,U,a,_,_,_,U,U,hS,hv|q _]
 ·exact q _
theorem scpot:FnScope Pa Pa (defScope ze):=%[U,U,U,∅,U,∅|∅]
theorem Bc{f:Nj}{fd:G1}(F:Fun K "_law_pot" "_law_pot" ze f fd)(B:Blt mg):FnOk P w K mg base CX0 1 f fd Pa (wj):=by
 exists scpot;obtain⟨c,rfl,q⟩:=h;show%[_,((@aZ _ _ _ _ ((@ap _ _ _ _ _ _ _ _ _ (iA U) U B.max PyProof.Rows.boot_max (ag^^^(((@ap _ _ _ _ _ _ _ _ _ nD U B.abs PyProof.Rows.boot_abs ('0'^^^ae) ∅ ∅ U U)|||bU|||(ag|||pE|||ag))^^^ae)) ∅ ∅ U U)^^^((((@ap _ _ _ _ _ _ _ _ _ nD U B.abs PyProof.Rows.boot_abs ('0'^^^ae) ∅ ∅ U U)|||mB|||ag)|||be|||ag)^^^ae)))⁻¹)|?_];show%[_,U,_,U,_,_,U,U,%[∅,∅|∅],_,_,U,U,_,_,U,_,U,_,U,_,_,U,U,(by change(0:Int) < 2147483629;decide),_,_,U,U,zS2|λ p hp=>?_];show q p _ hp %[_,_,?_,?_,?_|ai] (G4 hp)
 ·split <;> lia
 ·have:=Ng (if c < 0 then -c else c) (show(2147483629:Int)≠0 by decide);lia
 ·have:=NP (if c < 0 then -c else c) (show(0:Int) < 2147483629 by decide);lia
theorem scdraw:FnScope ["_law_pot_here","_law_many","_law_digit"] Pb (defScope rO):=%[U,U,U,∅,U,∅|∅]
theorem zB{f:Nj}{fd:G1}(F:Fun K "_law_draw" "_law_draw" rO f fd)(B:Blt mg):FnOk P w K mg base CX0 1 f fd Pb (fM):=by
 exists scdraw;obtain⟨p,m,rfl,⟨a,b,a0,b0,b1,hp⟩,m0,m1,q⟩:=h;show%[_,(((('0'&&&bq&&&ag)<*>gH<*>ag)<|>((@cR _ _ _ _ _ _ (@ap _ _ _ _ _ _ _ _ _ mS U B.divmod PyProof.Rows.boot_divmod (('0'&&&bq&&&ag)^^^('1'^^^ae)) ∅ ∅ U U) (bO U (au (pj '0' ag jI) (2•bi))) U U U)<<<('2'⁻¹))<|>ay)<<<((@cR _ _ _ _ _ _ (((('0'&&&bq&&&ag)|||vA|||ag)|||be|||ag)|||mB|||ag) (pj '0' ag jI) U U U)<<<(((((('0'&&&bq&&&ag)|||vA|||('0'&&&bq&&&ag))|||mB|||ag)|||vQ|||ag)|||mB|||'1')⁻¹)))|?_];dsimp only[bW];have at0:atI [V.int a,V.int b] 0=⇑a:=rfl;have at1:atI [V.int a,V.int b] 1=⇑b:=rfl;show%[_,U,p,_,_,_,U,U,G6 hp,at0,_,_,U,U,_,U|?_];show cx (λ c=>?_) (λ c=>?_)
 ·have c':0 < a:=C2 c;show%[_,U,p,_,_,_,U,U,G6 hp,at0,_,U,_,_,U,%[m0|m1]|λ t ht=>?_];have npt:p≠t:=aj hp ht;have hp1:(upd H t (.tup [.int (a / m),.int (a % m)])) p=↥[.int a,.int b]:=by rw[ak npt];exact hp
  show%[t,_,U,G5 ai,U,_,_,U,_,U,p,_,_,_,U,U,hp1,U,_,_,U,U|?_];show%[_,U|q _ _ (Ng _ ⋯) (NP _ m0) %[a / m,b,Int.ediv_nonneg a0 ⋯,b0,b1|ai] ((But.new ht).trans But.upd)]
 ·show%[_,U,p,_,_,_,U,U,G6 hp,at1,_,_,U,U,.inr %[∅|∅],_,_,U,U,_,_,U,U,(by change(0:Int) < 2147483647;decide),_,U,p,_,_,_,U,U,hp,U|?_];have n0:0<=(b * 48271+11) % 2147483647:=Ng _ ∅;have n1:(b * 48271+11) % 2147483647 < 2147483647:=NP _ ∅;show%[_,U,p,_,_,_,U,U,G6 ai,U,_,U,p,_,_,_,U,U,G6 ai,U,_,_,U,U,.inl %[⋯|⋯],_,_,U,U,(by change(0:Int) < 2147483629;decide),_,_,U,U,%[∅|∅],_,U,_,_,U,U,m0|?_];exact q _ _ (Ng _ ⋯) (NP _ m0) %[a,_,a0,n0,⋯|ai] But.upd
def qB:Sp:=λ vs H Q _=>∃(t:Nj)(k:Kd),vs=[.ref t]/\H t= ~~~(kdV k)/\∀(l:Nj)(ys:No V)(H':Hp),H' l=↥ys->Paired (PtAt H') ys (lnL k)->Same H H'->Q (.ref l) H'
def rY:Sp:=λ vs H Q _=>∃(t:Nj)(k:Kd)(w h:Int),vs=[.ref t,.int w,.int h]/\H t= ~~~(kdV k)/\∀(H':Hp),Same H H'->Q (.bl (eE k w h)) H'
def xG:Sp:=λ vs H Q _=>∃(p:Nj)(m:Int),vs=[.ref p,.int m]/\PotB H p/\1<=m/\m<=8/\∀(r:Int)(H':Hp),1<=r->r < 10 ^ 60->PotB H' p->But p H H'->Q (.int r) H'
def oS:Sp:=λ vs H Q _=>∃(p:Nj),vs=[.ref p]/\PotB H p/\∀(r:Int)(H':Hp),0<=r->r < 10 ^ 60->PotB H' p->But p H H'->Q (.int r) H'
theorem sclain:FnScope ["_law_kind","_law_wide","_law_high","_law_worth","_law_wanted","_law_turns"] Pd (defScope rP):=%[U,U,U,∅,U,∅|∅]
theorem zC{f:Nj}{fd:G1}(F:Fun K "_law_lain" "_law_lain" rP f fd)(B:Blt mg):FnOk P w K mg base CX0 1 f fd Pd (qB):=by
 exists sclain;obtain⟨t,k,rfl,ht,q⟩:=h;show%[_,((@cR _ _ _ _ _ _ '0' (bO U (1•(2•(3•(4•(5•bi)))))) U U U)<<<(((PW.pt (mv (@aR _ _ _ '5' (by intro _;rfl)) (js ('1'<*>fW<*>'2'))))<|>((@aZ _ _ _ _ ((@aJ _ _ _ _ _ ('1'^^^('2'^^^ae)))^^^((@aJ _ _ _ _ _ ('2'^^^('1'^^^ae)))^^^ae)))⁻¹)<|>ay)<<<((@aZ _ _ _ _ ((@aJ _ _ _ _ _ ('1'^^^('2'^^^ae)))^^^ae))⁻¹)))|?_];dsimp only[bW];show ao (λ R=>R [↑t,⇑k.w,⇑k.h,⇑k.wo,⇑k.wa,some (.bl k.tu)] H) (λ Dd hR=>?_) ?_
 ·exact%[_,U,t,_,U,G5 ht,U,_,_,U,_,_,U,_,_,U,_,_,U,_,_,U,U|hR]
 skip
 have two:(k.tu && !decide (k.w=k.h))=true->lnL k=[(k.w,k.h),(k.h,k.w)]:=λ h=>by unfold lnL;rw[Nw h]
 have one:¬ (k.tu && !decide (k.w=k.h))=true->lnL k=[(k.w,k.h)]:=λ h=>by unfold lnL;rw[Nv h]
 show bI (λ σ' H'=>(¬ (k.tu && !decide (k.w=k.h))=true)/\σ'=[↑t,⇑k.w,⇑k.h,⇑k.wo,⇑k.wa,some (.bl k.tu)]/\H=H') (λ R hR=>?_) ?_
 ·show%[_,U,_,U|?_];cases hc:k.tu with
  | false=>exact aV (aV (hR _ _ %[by rw[hc];exact B3,by rw[hc]|rfl]))
  | true=>
   show bN %[_,rfl,_,rfl,rfl,_,rfl|?_];show cx (λ c1=>?_) (λ c1=>hR _ _ %[?_,by rw[hc]|rfl])
   ·have cc:(k.tu && !decide (k.w=k.h))=true:=by rw[hc,Bool.true_and];simpa using c1
    show%[_,U,_,U,zS2|λ a ha=>?_];show aF ha λ H1 k1 s1=>?_;show%[_,U,_,U,zS2|λ b hb=>?_];show aF hb λ H2 k2 s2=>?_;show%[zS2|λ l hl=>?_];show aF hl λ H3 k3 s3=>?_;exact q l _ H3 k3 (by rw[two cc];exact .cons %[a,U|s3 _ _ (s2 _ _ k1)] (.cons %[b,U|s3 _ _ k2] .nil)) ((s1.trans s2).trans s3)
   ·rw[hc,Bool.true_and];simpa using c1
 rintro _ _ ⟨cc,rfl,rfl⟩;show%[_,U,_,U,zS2|λ a ha=>?_];show aF ha λ H1 k1 s1=>?_;show%[zS1|λ l hl=>?_];show aF hl λ H2 k2 s2=>?_;exact q l _ H2 k2 (by rw[one cc];exact .cons %[a,U|s2 _ _ k1] .nil) (s1.trans s2)
theorem scfitsk:FnScope Pe Pe (defScope ow):=%[U,U,U,∅,U,∅|∅]
theorem xH{f:Nj}{fd:G1}(F:Fun K "_law_fits" "_law_fits" ow f fd)(B:Blt mg)(han:mg "any" = none)(DLN:Dn P w K mg base "_law_lain" Pd 1 (qB)):FnOk P w K mg base CX0 2 f fd Pe (rY):=by
 exists scfitsk;obtain⟨t,k,w1,h1,rfl,ht,q⟩:=h;show%[_,((@ap _ _ _ _ _ _ _ _ _ (fN U) U han PyProof.Rows.boot_any ((aX (own:=["_law_one","_law_other"]) (cs:=["_law_wide","_law_high"]) (cap:=[1,2]) U (bj (DLN∪('0'^^^ae))) (az (sc:=defScope ow) (N:=Pe) U U ∅) (λ _ _ _ _ _=>cU K U U (by change List.Nodup (["_law_one","_law_other","_law_wide","_law_high"]:No Str) ;decide +kernel) U U U U) (λ _ _ _ _ _=>aK) (λ _ _ _ _ _=>(di (@bd _ _ _ _ _ _ _ _ jG '0' '2' (ax _)) (dO (@bd _ _ _ _ _ _ _ _ jG '1' '3' (ax _))))))^^^ae) ∅ ∅ U U)⁻¹)|?_];dsimp only[bW];have z4:4096<=sizeLine:=∅
 have ll:(lnL k).length<=2:=by unfold lnL;split <;> simp
 show%[_,U,t,k,U,ht|λ l ys H1 hl py s1=>?_];have yl:=E6 py;show%[l,U,%[_|G6 hl]|(bu (K:=K) (.inl hl) (λ i us Hx=>H1=Hx/\us=(((lnL k).take i).map λ q=>decide (q.1<=w1) && decide (q.2<=h1)).map V.bl) (λ i us Hx _ ⟨e,_⟩ o h=>e ▸ h) %[U|U] ?_ ?_).1 hl]
 ·rintro i x us _ hi ⟨rfl,rfl⟩;have hin:=(A7.mp hi).1;obtain⟨c,hc,ta,rfl,hta⟩:=G8 py hi;show%[by rw[B5,B5,K0];lia,ta,_,U,G5 hta,U,_,_,U,_,_,U,U,gY (leS.set rfl) (leS.set rfl)|aL ?_];have tk:∀v:Bool,(decide (c.1<=w1) && decide (c.2<=h1))=v->Nx ys.length (λ i us Hx=>H1=Hx/\us=(((lnL k).take i).map λ q=>decide (q.1<=w1) && decide (q.2<=h1)).map V.bl) i ((((lnL k).take i).map λ q=>decide (q.1<=w1) && decide (q.2<=h1)).map V.bl ++ [.bl v]) H1:=λ v hv=>Nx.of hin %[rfl|by rw[K6,hc,K9,J4,J4,<- hv];rfl];show%[_,U,_,U,_,_,U,U|?_];cases c1:decide (c.1<=w1)with
  | false=>exact%[_,U|aV (tk false (by rw[c1];rfl))]
  | true=>exact%[_,U|bN %[_,U,_,U,_,_,U,U|tk _ (by rw[c1];rfl)]]
 ·rintro us _ ⟨rfl,rfl⟩;rw[yl,MG];show%[by rw[B5,B5];lia|λ p hp=>%[p,_,U,G6 ai|?_]];have:=q _ (s1.trans (G4 hp (o:=.lst ((((lnL k)).map λ q=>decide (q.1<=w1) && decide (q.2<=h1)).map V.bl))));unfold eE at this;rw[List.any_map];exact this
theorem scsize:FnScope Pf Pf (defScope rQ):=%[U,U,U,∅,U,∅|∅]
theorem zD{f:Nj}{fd:G1}(F:Fun K "_law_size" "_law_size" rQ f fd)(B:Blt mg)(DD:Dn P w K mg base "_law_draw" Pb 1 (fM)):FnOk P w K mg base CX0 2 f fd Pf (xG):=by
 exists scsize;obtain⟨p,m,rfl,pt,m1,m8,q⟩:=h;show%[_,((((DD∪('0'^^^(ag^^^ae)))<*>dj<*>ag)<|>((('1'|||be|||ag)|||be|||(DD∪('0'^^^((ag|||pE|||ag)^^^ae))))⁻¹)<|>ay)<<<((ag|||be|||(DD∪('0'^^^((@ap _ _ _ _ _ _ _ _ _ (dg U) U B.min OQ ('1'^^^(((@aZ _ _ _ _ (ag^^^(ag^^^(ag^^^ae))))&&&bq&&&(DD∪('0'^^^(ag^^^ae))))^^^ae)) ∅ ∅ U U)^^^ae))))⁻¹))|?_];dsimp only[bW];have e50:(10:Int) ^ (50:Int).toNat=10 ^ 50:=rfl;have e60:(10:Int) ^ 50+20 < 10 ^ 60:=∅
 have e61:(0:Int) < 10 ^ 50:=∅
 show gX (λ R=>∀(H':Hp),PotB H' p->But p H H'->R [↑p,⇑m] H') (λ R hR=>?_) ?_
 ·show%[_,U,p,12,U,pt,∅,∅|λ z H1 z0 z1 pt1 b1=>%[U,_,U|?_]];show cx (λ cc=>?_) (λ cc=>hR _ pt1 b1);show%[_,U,_,_,U,U,_,U,_,_,U,U,%[∅,∅|∅],p,_,U,pt1,(by rw[e50];decide),(by rw[e50];decide)|λ r H2 r0 r1 pt2 b2=>%[_,_,U,U|q _ H2 ⋯ ?_ pt2 (b1.trans b2)]];rw[e50]at r1;lia
 rintro H1 pt1 b1;show%[_,U,_,U,zS3|λ l hl=>?_];show aF hl λ H2 k2 s2=>?_;show%[_,U,p,3,U,pt1.same s2,∅,∅|λ z H3 z0 z1 pt3 b3=>?_];have nl:l≠p:=λ e=>by obtain⟨_,_,_,_,_,h⟩:=pt1;rw[<- e,hl]at h;cases h
 have k3:=b3 _ _ nl k2;obtain⟨v,hv,v1,v8⟩:∃v:Int,([.int 2,.int 3,.int 8]:No V)[z.toNat]? = ⇑v/\1<=v/\v<=8:=by
  have:z=0\/z=1\/z=2:=⋯
  rcases this with rfl | rfl | rfl
  ·exact%[2,U,∅|∅]
  ·exact%[3,U,∅|∅]
  ·exact%[8,U,∅|∅]
 show%[l,_,z,_,U,U,G6 k3,cY z0 hv,_,_,U,p,_,U,pt3,?_,?_|λ r H4 r0 r1 pt4 b4=>%[_,_,U,U|q _ H4 ⋯ ?_ pt4 ?_]]
 ·split <;> lia
 ·split <;> lia
 ·have:(if v < m then v else m)<=8:=by split <;> lia
  lia
 ·exactλ c o n e=>b4 _ _ n (b3 _ _ n (s2 _ _ (b1 _ _ n e)))
theorem scsblade:FnScope Pg Pg (defScope dL):=%[U,U,U,∅,U,∅|∅]
theorem ut{f:Nj}{fd:G1}(F:Fun K "_law_small_blade" "_law_small_blade" dL f fd)(B:Blt mg)(DD:Dn P w K mg base "_law_draw" Pb 1 (fM)):FnOk P w K mg base CX0 2 f fd Pg (oS):=by
 exists scsblade;obtain⟨p,rfl,pt,q⟩:=h;show%[_,(((@aZ _ _ _ _ (ag^^^(ag^^^(ag^^^(ag^^^((DD∪('0'^^^(ag^^^ae)))^^^((ag|||pE|||ag)^^^ae)))))))&&&bq&&&(DD∪('0'^^^(ag^^^ae))))⁻¹)|?_];dsimp only[bW];have e50:(10:Int) ^ (50:Int).toNat=10 ^ 50:=rfl;show%[_,U,p,9,U,pt,∅,∅|λ y H1 y0 y1 pt1 b1=>?_];show%[_,_,U,U,%[∅,∅|∅],zS6|λ l hl=>?_];rw[e50];show aF hl λ H2 k2 s2=>?_;show%[_,U,p,6,U,pt1.same s2,∅,∅|λ z H3 z0 z1 pt3 b3=>?_];have nl:l≠p:=λ e=>by obtain⟨_,_,_,_,_,h⟩:=pt1;rw[<- e,hl]at h;cases h
 have k3:=b3 _ _ nl k2;obtain⟨v,hv,v1,v8⟩:∃v:Int,([.int 0,.int 0,.int 1,.int 2,.int y,.int (10 ^ 50)]:No V)[z.toNat]? = ⇑v/\0<=v/\v < 10 ^ 60:=by
  have:z=0\/z=1\/z=2\/z=3\/z=4\/z=5:=⋯
  rcases this with rfl | rfl | rfl | rfl | rfl | rfl
  ·exact%[0,U,∅|∅]
  ·exact%[0,U,∅|∅]
  ·exact%[1,U,∅|∅]
  ·exact%[2,U,∅|∅]
  ·exact%[y,U,y0|Int.lt_trans y1 ∅]
  ·exact%[10 ^ 50,U,∅|∅]
 exact%[l,_,z,_,U,U,G6 k3,cY z0 hv|q v H3 v1 v8 pt3 λ c o n e=>b3 _ _ n (s2 _ _ (b1 _ _ n e))]
def gE(ks:No Kd):Prop:=(∀k∈ks,Good k)/\(wsK ks).sum<=6
theorem xI{α β:Type}{R:α->β->Prop}:∀(n:Nat){xs:No α}{ys:No β},Paired R xs ys->Paired R (xs.drop n) (ys.drop n)
 | 0,_,_,h=>h
 | _+1,_,_,.nil=>.nil
 | n+1,_,_,.cons _ r=>xI n r
theorem lX{H H':Hp}{m a b:Nj}{o:HO}(h:(H'=H/\(m=a\/m=b))\/(H m=none/\H'=upd H m o)):Same H H':=by
 rcases h with⟨rfl,_⟩ | ⟨h,rfl⟩
 ·exact Same.refl _
 ·exact G4 h
theorem qD{l:Pz}{i j:Nat}{x:Int}(h:l[i]?=some x):(l.take (i+1)).eraseIdx j=if i=j then(l.take i).eraseIdx j else(l.take i).eraseIdx j ++ [x]:=by
 have hl:i < l.length:=(A7.mp h).1;have tl:(l.take i).length=i:=by rw[K0];lia
 rw[K6,h,K9]
 by_cases c:i=j
 ·subst c;rw[Nw rfl,List.eraseIdx_append_of_length_le ⋯,tl,Nat.sub_self,show[x].eraseIdx 0=[]from rfl,MR,List.eraseIdx_of_length_le ⋯]
 ·rw[Nv c]
  by_cases c2:j < i
  ·rw[List.eraseIdx_append_of_lt_length ⋯]
  ·rw[List.eraseIdx_append_of_length_le ⋯,List.eraseIdx_of_length_le (by simp;lia),List.eraseIdx_of_length_le (l:=l.take i) ⋯]
def rZ:Sp:=λ vs H Q _=>∃(p:Nj)(w h:Int)(n:Nat),vs=[.ref p,.int w,.int h,.int n]/\PotB H p/\1<=w/\w<=8/\1<=h/\h<=8/\n<=8 /\
 ∀(kl:Nj)(rs:No V)(ks:No Kd)(H':Hp),kl≠p->H kl=none->H' kl=↥rs->Tups H' rs ks->gE ks->ks.length=n->PotB H' p->But p H H'->Q (.ref kl) H'
def sd:Sp:=λ vs H Q _=>∃(p kl:Nj)(rs:No V)(ks:No Kd),vs=[.ref p,.ref kl]/\PotB H p/\kl≠p/\H kl=↥rs/\Tups H rs ks/\gE ks/\ks.length<=8 /\
 ∀(kl':Nj)(rs':No V)(ks':No Kd)(H':Hp),kl'≠p->H' kl'=↥rs'->Tups H' rs' ks'->gE ks'->ks'.length=ks.length->PotB H' p->But p H H'->Q (.ref kl') H'
def Ji:Sp:=λ vs H Q _=>∃(t u:Nj)(xs ys:Pz),vs=[.ref t,.ref u]/\H t= ~~~(bV xs)/\H u= ~~~(bV ys)/\xs.length=ys.length/\xs.length<=8/\∀H',Same H H'->Q (.bl (leB xs ys)) H'
theorem scshopk:FnScope ["_law_pot_here","_law_wide","_law_high","_law_many","_law_found","_law_left","_law_k","_law_wanted","_law_worth"] Ph (defScope dJ):=%[U,U,U,∅,U,∅|∅]
theorem xJ{f:Nj}{fd:G1}(F:Fun K "_law_shop_kinds" "_law_shop_kinds" dJ f fd)(B:Blt mg)(DD:Dn P w K mg base "_law_draw" Pb 1 (fM))(DSZ:Dn P w K mg base "_law_size" Pf 2 (xG)):FnOk P w K mg base CX0 3 f fd Ph (rZ):=by
 exists scshopk;show bX λ G9 k9=>?_;obtain⟨p,w1,h1,n,rfl,pt,w0,w8,h0,h8,n8,q⟩:=h;show k9 ?_;show%[_,((4∣(@aZ _ _ _ _ ae))<<<((5∣ag)<<<((@ce _ _ _ _ _ _ _ _ E7 U (fH U B.range ('3'^^^ae)) (am (i:=6) nd U (Or.inl U)) ((7∣(DD∩('0'^^^(((@ap _ _ _ _ _ _ _ _ _ (dg U) U B.min OQ ('5'^^^(((@aZ _ _ _ _ (ag^^^(ag^^^(ag^^^(ag^^^ae)))))&&&bq&&&(DD∩('0'^^^(ag^^^ae))))^^^ae)) ∅ ∅ U U)|||be|||ag)^^^ae))))<<<((5∣('5'|||bU|||'7'))<<<((8∣(DD∩('0'^^^(ag^^^ae))))>>>(@bL _ _ _ _ (@fX _ _ _ _ _ _ _ _ _ _ _ _ F8 PySem.F.slot_list_append PySem.F.type_list_append dS '4' ((@aJ _ _ _ _ _ ((DSZ∪('0'^^^('1'^^^ae)))^^^((DSZ∪('0'^^^('2'^^^ae)))^^^('8'^^^('7'^^^((@bd _ _ _ _ _ _ _ _ dj (DD∩('0'^^^(ag^^^ae))) ag (ax _))^^^ae))))))^^^ae) U U U U U) U)))) (by intro _;rfl))<<<('4'⁻¹))))|?_];dsimp only[bW];have z4:4096<=sizeLine:=∅
 show ao (λ R=>∀(fl:Nj)(H':Hp),H fl=none->H' fl=↥[]->Same H H'->R [↑p,⇑w1,⇑h1,⇑n,↑fl,none,none,none,none] H') (λ Dd hR=>?_) ?_
 ·show%[zS0|λ fl hfl=>?_];show aF hfl λ H1 k1 s1=>?_;exact hR fl _ hfl k1 s1
 rintro fl H1 hfl k1 s1;have nfp:fl≠p:=λ e=>by obtain⟨_,_,_,_,_,h⟩:=pt;rw[<- e,hfl]at h;cases h
 show bI (λ σ' H'=>σ'=[↑p,⇑w1,⇑h1,⇑n,↑fl,⇑6,none,none,none]/\H1=H') (λ R hR=>hR _ _ %[rfl|rfl]) ?_;rintro _ _ ⟨rfl,rfl⟩;show bI (λ σ' H'=>∃(v5 v6 v7 v8:Nm V)(rs:No V)(ks:No Kd),σ'=[↑p,⇑w1,⇑h1,⇑n,↑fl,v5,v6,v7,v8]/\H' fl=↥rs/\Tups H' rs ks/\gE ks/\ks.length=n/\PotB H' p/\But p H H') (λ R hR=>?_) ?_
 ·show%[_,U,_,U,⋯,⋯|?_];rw[MF];show ix (lo:=0) (n:=n) (λ i σ' H'=>∃(v6 v7 v8:Nm V)(rs:No V)(ks:No Kd),σ'=[↑p,⇑w1,⇑h1,⇑n,↑fl,⇑(6 - (wsK ks).sum),v6,v7,v8]/\H' fl=↥rs/\Tups H' rs ks/\gE ks/\ks.length=i/\PotB H' p/\But p H H') ⟨none,none,none,[],[],rfl,k1,.nil,⟨λ k h=>(by cases h),∅⟩,rfl,pt.same s1,Same.but s1⟩ ?_ ?_
  ·intro i σ Hx hin hI9;show bX λ G9 k9=>?_;obtain⟨v6,v7,v8,rs,ks,rfl,hfx,tp,⟨gk,w6⟩,kl,ptx,bx⟩:=hI9;show k9 ?_;have ws0':=gA (ws0 (ks:=ks) λ k h=>(gk k h).wa);have rl:=E6 tp;show ao (λ R=>∀(y:Int)(H':Hp),0<=y->y<=6 - (wsK ks).sum->PotB H' p->But p Hx H'->R [↑p,⇑w1,⇑h1,⇑n,↑fl,⇑(6 - (wsK ks).sum),⇑(0+(i:Int)),⇑y,v8] H') (λ Dd hR=>?_) ?_
   ·show%[_,U,_,U,zS4|λ l hl=>?_];show aF hl λ H2 k2 s2=>?_;show%[_,U,p,4,U,ptx.same s2,∅,∅|λ z H3 z0 z1 pt3 b3=>?_];have nl:l≠p:=λ e=>by obtain⟨_,_,_,_,_,h⟩:=ptx;rw[<- e,hl]at h;cases h
    have k3:=b3 _ _ nl k2;obtain⟨v,hv,v1,v6'⟩:∃v:Int,([.int 3,.int 3,.int 3,.int 6]:No V)[z.toNat]? = ⇑v/\0<=v/\v<=6:=by
     have:z=0\/z=1\/z=2\/z=3:=⋯
     rcases this with rfl | rfl | rfl | rfl
     ·exact%[3,U,∅|∅]
     ·exact%[3,U,∅|∅]
     ·exact%[3,U,∅|∅]
     ·exact%[6,U,∅|∅]
    show%[l,_,z,_,U,U,G6 k3,cY z0 hv,_,_,U,_,_,U,U,p,_,U,pt3,?_,?_|λ r H4 r0 r1 pt4 b4=>hR r _ r0 ?_ pt4 ?_]
    ·split <;> lia
    ·have:(if v < 6 - (wsK ks).sum then v else 6 - (wsK ks).sum)<=6:=by split <;> lia
     lia
    ·have:(if v < 6 - (wsK ks).sum then v else 6 - (wsK ks).sum)<=6 - (wsK ks).sum:=by split <;> lia
     lia
    ·exactλ c o n e=>b4 _ _ n (b3 _ _ n (s2 _ _ e))
   rintro y H2 y0 y1 pt2 b2;show bI (λ σ' H'=>σ'=[↑p,⇑w1,⇑h1,⇑n,↑fl,⇑(6 - (wsK ks).sum - y),⇑(0+(i:Int)),⇑y,v8]/\H2=H') (λ R hR=>%[_,U,_,U,_,_,U,U|hR _ _ %[U|U]]) ?_;rintro _ _ ⟨rfl,rfl⟩;show ao (λ R=>∀(o:Int)(H':Hp),0<=o->o < 4->PotB H' p->But p H2 H'->R [↑p,⇑w1,⇑h1,⇑n,↑fl,⇑(6 - (wsK ks).sum - y),⇑(0+(i:Int)),⇑y,⇑o] H') (λ Dd hR=>?_) ?_
   ·exact%[_,U,p,4,U,pt2,∅,∅|λ o H3 o0 o1 pt3 b3=>hR o _ o0 o1 pt3 b3]
   rintro o H3 o0 o1 pt3 b3;have f3:H3 fl=↥rs:=b3 _ _ nfp (b2 _ _ nfp hfx);show%[_,U,.inl %[U,_|G6 f3],_,U,_,U,p,w1,U,pt3,w0,w8|λ x H4 x0 x1 pt4 b4=>?_];show%[_,U,_,U,p,h1,U,pt4,h0,h8|λ u H5 u0 u1 pt5 b5=>?_];show%[_,U,_,U,_,U,p,2,U,pt5,∅,∅|λ e H6 e0 e1 pt6 b6=>?_];show%[U,zS5|λ ta hta=>?_];obtain⟨kd,ekd⟩:∃kd:Kd,kd=%[x,u,o,y|decide (V.int e=V.int 1)]:=%[_|U]
   show aF hta λ H7 k7 s7=>?_;have bx7:But p Hx H7:=λ c o n e=>s7 _ _ (b6 _ _ n (b5 _ _ n (b4 _ _ n (b3 _ _ n (b2 _ _ n e)))));have f7:H7 fl=↥rs:=bx7 _ _ nfp hfx;show%[fl,rs,_,U,U,f7,⋯,⇑(0+(i:Int)),⇑y,⇑o,rs ++ [.ref ta],ks ++ [kd],?_,ai,?_,%[?_|?_],?_,?_|?_]
   ·rw[show(wsK (ks ++ [kd])).sum=(wsK ks).sum+y by rw[wsK,J4,Mr,ekd];simp,show(6:Int) - ((wsK ks).sum+y)=6 - (wsK ks).sum - y by lia]
   ·have kt:∀b xs,Hx b= ~~~xs->(upd H7 fl (.lst (rs ++ [.ref ta]))) b= ~~~xs:=λ c xs e=>by rw[ak (λ z=>by rw[z,hfx]at e;cases e)];exact bx7 _ _ (λ z=>by obtain⟨_,_,_,_,_,h⟩:=ptx;rw[z,h]at e;cases e) e
    show Paired.app (Tups.keep kt tp) (.cons %[ta,U|?_] .nil);rw[ak (λ z=>by rw[z,f7]at k7;cases k7),k7,ekd]
    rfl
   ·intro k hk;rcases C4.mp hk with h | h
    ·exact gk k h
    ·rw[E5.mp h,ekd];have e60:(4:Int) < 10 ^ 60:=∅
     have e61:(7:Int) < 10 ^ 60:=∅
     exact%[x0,u0,o0,y0,x1,u1,Int.lt_trans o1 e60|Int.lt_of_le_of_lt (show y<=6 by lia) ∅]
   ·rw[wsK,J4,Mr,ekd];change(wsK ks).sum+(y+0)<=6;lia
   ·rw[K4,kl];rfl
   ·have pt7:=pt6.same s7;obtain⟨a1,a2,a3,a4,a5,h⟩:=pt7;exact%[a1,a2,a3,a4,a5|by rw[ak (Ne.symm nfp)];exact h]
   ·exactλ c o n e=>by rw[ak (aj e hfl)];exact bx7 _ _ n (bx _ _ n e)
  ·intro σ Hx hI9;show bX λ G9 k9=>?_;obtain⟨v6,v7,v8,rs,ks,rfl,h1,h2,h3,h4,h5,h6⟩:=hI9;show k9 ?_;exact hR _ _ %[_,_,_,_,rs,ks,rfl,h1,h2,h3,h4,h5|h6]
 intro _ H2 hI9;show bX λ G9 k9=>?_;obtain⟨v5,v6,v7,v8,rs,ks,rfl,h1,h2,h3,h4,h5,h6⟩:=hI9;show k9 ?_;exact%[_,U|q fl rs ks H2 nfp hfl h1 h2 h3 h4 h5 h6]
theorem scalike:FnScope Pi Pj (defScope ky):=%[U,U,U,∅,U,∅|∅]
theorem xK{f:Nj}{fd:G1}(F:Fun K "_law_alike" "_law_alike" ky f fd)(B:Blt mg)(DD:Dn P w K mg base "_law_draw" Pb 1 (fM)):FnOk P w K mg base CX0 2 f fd Pj (sd):=by
 exists scalike;show bX λ G9 k9=>?_;obtain⟨p,kl,rs,ks,rfl,pt,nkp,hkl,tp,⟨gk,w6⟩,k8,q⟩:=h;show k9 ?_;show%[_,(((PW.pt (cj ((@ap _ _ _ _ _ _ _ _ _ aI U B.len N6 ('1'^^^ae) ∅ ∅ U U)<*>nA<*>ag) (bT ((DD∪('0'^^^(ag^^^ae)))<*>nA<*>ag))))<|>('1'⁻¹)<|>ay)<<<((@aE _ _ 2 _ _ _ _ nd U (Or.inr U) (DD∪('0'^^^(((@ap _ _ _ _ _ _ _ _ _ aI U B.len N6 ('1'^^^ae) ∅ ∅ U U)|||bU|||ag)^^^ae))) U (Or.inl U))<<<((3∣(ag|||bU|||(@ap _ _ _ _ _ _ _ _ _ (lI U) U B.sum Od ((aX (own:=["_law_k","_law_kind"]) (cs:=["_law_at"]) (cap:=[2]) U (mP U B.enumerate ('1'^^^ae)) (az (sc:=defScope ky) (N:=Pi) U U ∅) (λ _ _ _ _ _=>cU K U U (by change List.Nodup (["_law_k","_law_kind","_law_at"]:No Str) ;decide +kernel) U U U U) (λ _ _ _ _ _=>(jK ('0'<*>fW<*>('2'|||be|||ag)))) (λ _ _ _ _ _=>(aB (r:=rIxT K) aD '1' ag (λ _ _=>U))))^^^ae) ∅ ∅ U U)))<<<((4∣(((@gJ _ _ _ _ _ _ _ _ _ _ vK ('1'&&&bq&&&'2') jt (ju ag))|||qY|||(@aJ _ _ _ _ _ ((@ap _ _ _ _ _ _ _ _ _ (dg U) U B.min OQ ((('1'&&&bq&&&'2')&&&aD&&&ag)^^^('3'^^^ae)) ∅ ∅ U U)^^^ae)))|||qY|||(@gJ _ _ _ _ _ _ _ _ _ _ vK ('1'&&&bq&&&'2') (ju ag) jt)))<<<((((@gJ _ _ _ _ _ _ _ _ _ _ qS '1' jt (ju ('2'|||be|||ag)))|||mH|||(@aZ _ _ _ _ ('4'^^^ae)))|||mH|||(@gJ _ _ _ _ _ _ _ _ _ _ qS '1' (ju ('2'|||be|||ag)) jt))⁻¹)))))|?_];dsimp only[bW];have z4:4096<=sizeLine:=∅
 have rl:=E6 tp;show gX (λ R=>∀(H':Hp),2<=ks.length->PotB H' p->But p H H'->R [↑p,↑kl,none,none,none] H') (λ R hR=>?_) ?_
 ·show%[_,U,kl,_,U,.inl (G6 hkl),_,_,U,U,_,U|?_];cases c1:decide ((rs.length:Int) < 2)with
  | true=>exact bN (bN %[_,rfl|q kl rs ks H nkp hkl tp %[gk|w6] rfl pt (Same.but (Same.refl _))])
  | false=>
   have c1':=Op c1;show aV %[_,rfl,p,8,rfl,pt,∅,∅|λ z H1 z0 z1 pt1 b1=>%[_,_,rfl,rfl,_,rfl|?_]];show cx (λ c=>%[_,U|q kl rs ks H1 nkp (b1 _ _ nkp hkl) ?_ %[gk|w6] rfl pt1 b1]) (λ c=>hR _ ⋯ pt1 b1);exact Tups.keep (λ c xs e=>b1 _ _ (λ z=>by obtain⟨_,_,_,_,_,h⟩:=pt;rw[z,h]at e;cases e) e) tp
 rintro H1 k2 pt1 b1;have keepT:∀{Ha Hb:Hp},PotB Ha p->But p Ha Hb->∀c xs,Ha c= ~~~xs->Hb c= ~~~xs:=λ pa bb c xs e=>bb _ _ (λ z=>by obtain⟨_,_,_,_,_,h⟩:=pa;rw[z,h]at e;cases e) e;show ao (λ R=>∀(i:Nat)(H':Hp),i+1 < ks.length->PotB H' p->But p H H'->R [↑p,↑kl,⇑i,none,none] H') (λ Dd hR=>?_) ?_
 ·show%[_,U,_,U,kl,_,U,.inl (G6 (b1 _ _ nkp hkl)),_,_,U,U,p,_,U,pt1,⋯,⋯|λ z H2 z0 z1 pt2 b2=>?_];obtain⟨i,rfl⟩:∃i:Nat,z=i:=%[z.toNat|(Int.toNat_of_nonneg z0).symm]
  exact hR i _ ⋯ pt2 (b1.trans b2)
 rintro i H2 hi pt2 b2;have hk2:H2 kl=↥rs:=b2 _ _ nkp hkl;have tp2:Tups H2 rs ks:=Tups.keep (keepT pt b2) tp;obtain⟨k,hk⟩:∃k,ks[i]?=some k:=%[_|F4 ⋯]
 obtain⟨r,hr,ka,rfl,hka⟩:=Paired.getL tp2 hk;obtain⟨ns,ens⟩:∃ns,ns=(wsK ks).eraseIdx (i+1):=%[_|U]
 have wl:(wsK ks).length=ks.length:=B5 _;show ao (λ R=>∀(H':Hp),Same H2 H'->R [↑p,↑kl,⇑i,⇑(6 - ns.sum),none] H') (λ Dd hR=>?_) ?_
 ·show%[_,U,kl,rs,U|.inl %[hk2|lN (f:=HO.lst) (λ _ _ e=>by injection e) (λ j zs Hx=>Same H2 Hx/\zs=(((wsK ks).take j).eraseIdx (i+1)).map V.int) (λ j zs Hx ⟨sx,_⟩=>sx _ _ hk2) %[Same.refl _|U] ?_ ?_ ?_]]
  ·rintro j zs Hx hj ⟨_,rfl⟩;rw[B5];have:=List.length_eraseIdx_le ((wsK ks).take j) (i+1);rw[K0]at this;lia
  ·rintro j x pp zs Hx hj hpp ⟨sx,rfl⟩;have hjn:=(A7.mp hj).1;obtain⟨k',hk',ta,rfl,hta⟩:=G8 tp2 hj;have hw:(wsK ks)[j]?=some k'.wa:=by rw[J0,hk'];rfl
   have es:=qD (j:=i+1) hw;show aF hpp λ H3 k3 s3=>?_;show%[pp,_,U,G5 k3,U,_,_,U,_,_,U,U,gY (leS.set rfl) (leS.set rfl)|?_];show%[_,U,_,U,_,_,U,U,U,_,U|?_];have cc:((j:Int)=(i:Int)+1)↔j=i+1:=⋯
   by_cases c:j=i+1
   ·rw[show(!decide (V.int (j:Int)=V.int ((i:Int)+1)))=false by rw[Ny (by rw[cc.mpr c])];rfl];show aV (Nx.of hjn %[sx.trans s3|?_]);rw[es,Nw c]
   ·rw[show(!decide (V.int (j:Int)=V.int ((i:Int)+1)))=true by rw[N3 (λ z=>c (cc.mp (by injection z)))];rfl];show bN %[_,rfl,ta,_,3,_,rfl,rfl,G5 (s3 _ _ (sx _ _ hta)),rfl|Nx.of hjn %[sx.trans s3|?_]];rw[es,Nv c,J4]
    rfl
  ·rintro zs Hx ⟨sx,rfl⟩;rw[rl,<- wl,MG,<- ens];have nl:ns.length<=8:=by have:=List.length_eraseIdx_le (wsK ks) (i+1);rw[<- ens]at this;lia
   show%[by rw[B5];lia|λ l hl=>?_];show aF hl λ H3 k3 s3=>?_;exact%[l,ns,U,G6 k3,_,_,U,U|hR _ (sx.trans s3)]
 rintro H3 s3;have hk3:=s3 _ _ hk2;have hka3:=s3 _ _ hka;have g0:=gk k (B7 hk);have wn:(wsK ks)[i+1]?=some (ks[i+1]'hi).wa:=by rw[J0,F4 hi];rfl
 have e2:ns.sum=((wsK ks).take (i+1)).sum+((wsK ks).drop (i+2)).sum:=by rw[ens,List.eraseIdx_eq_take_drop_succ,Mr]
 have e3:(wsK ks).sum=((wsK ks).take (i+1)).sum+(ks[i+1]'hi).wa+((wsK ks).drop (i+2)).sum:=by
  have:=Mx (i+1) (wsK ks);rw[Ms (by rw[wl];exact hi)]at this;rw[<- this,Mr,MQ,List.take_left' (by rw[K0];lia),show∀(a:Pz)(x:Int)(r:Pz),a.length=i+1->(a ++ x :: r).drop (i+2)=r fromλ a x r h=>by rw[List.drop_append,h];simp[h]]
  ·simp only[List.getElem_map];lia
  ·rw[K0];lia
 have gn:=(gk _ (M8 hi)).wa;obtain⟨mw,emw⟩:∃mw:Int,mw=(if 6 - ns.sum < k.wa then 6 - ns.sum else k.wa):=%[_|U]
 have mw0:0<=mw/\mw<=k.wa/\mw<=6 - ns.sum:=by have:=g0.wa;rw[emw];split <;> lia
 obtain⟨k',ek'⟩:∃k':Kd,k'=%[k.w,k.h,k.wo,mw|k.tu]:=%[_|U]
 show ao (λ R=>∀(o:Nj)(H':Hp),H' o= ~~~(kdV k')->Same H3 H'->R [↑p,↑kl,⇑i,⇑(6 - ns.sum),↑o] H') (λ Dd hR=>?_) ?_
 ·show%[_,U,_,U,kl,_,_,_,U,U,G6 hk3,gL hr,_,U,ka,_,U,G5 hka3,(by change¬ (HT.sIx 5 0 none=0/\HT.sIx 5 5 (some 3)=5);decide)|λ t1 ht1=>?_];rw[show jf (kdV k) none (some 3)=[.int k.w,.int k.h,.int k.wo]from rfl];show aF ht1 λ H4 k4 s4=>?_;show%[_,U,_,U,kl,_,_,_,U,U,G6 (s4 _ _ hk3),gL hr,ka,_,3,_,U,U,G5 (s4 _ _ hka3),U,_,U,k.wa,_,U|?_];rw[<- emw];show%[zS1|λ t2 ht2=>?_];show aF ht2 λ H5 k5 s5=>?_;show%[t1,t2,_,_,U,U,s5 _ _ k4,k5,zS4|λ t3 H6 d6 h6=>?_];have s6:=lX d6;have s36:=(s4.trans s5).trans s6;show%[_,U,_,U,kl,_,_,_,U,U,G6 (s36 _ _ hk3),gL hr,_,U,ka,_,U,G5 (s36 _ _ hka3),(by change¬ (HT.sIx 5 0 (some 4)=0/\HT.sIx 5 5 none=5);decide)|λ t4 ht4=>?_];rw[show jf (kdV k) (some 4) none=[.bl k.tu]from rfl];show aF ht4 λ H7 k7 s7=>?_;show%[t3,t4,_,_,U,U,s7 _ _ h6,k7,zS5|λ t5 H8 d8 h8=>?_];show hR t5 _ ?_ ((s36.trans s7).trans (lX d8));rw[h8,ek']
  rfl
 rintro o H4 ho s4;have s24:=s3.trans s4;have hk4:=s24 _ _ hk2;show%[_,U,_,U,_,_,U,U,_,U,kl,_,U,G6 hk4|λ l1 hl1=>?_];rw[show((i:Int)+1)=((i+1:Nat):Int)from rfl,sS];show aF hl1 λ H5 k5 s5=>?_;show%[_,U,zS1|λ l2 hl2=>?_];show aF hl2 λ H6 k6 s6=>?_;show%[l1,l2,_,_,U,U,s6 _ _ k5,k6,by rw[K0];simp;lia|λ l3 hl3=>?_];show aF hl3 λ H7 k7 s7=>?_;have s47:=(s5.trans s6).trans s7;show%[_,U,_,U,_,_,U,U,_,U,kl,_,U,G6 (s47 _ _ hk4)|λ l4 hl4=>?_];rw[show((i:Int)+2)=((i+2:Nat):Int)from rfl,sT];show aF hl4 λ H8 kk8 s8=>?_;show%[l3,l4,_,_,U,U,s8 _ _ k7,kk8,by rw[K4,K0,NI];simp;lia|λ l5 hl5=>?_];show aF hl5 λ H9 k9 s9=>?_;have s49:=(s47.trans s8).trans s9;have s29:=s24.trans s49;have pt9:=pt2.same s29;show q l5 _ (ks.take (i+1) ++ [k'] ++ ks.drop (i+2)) H9 (λ e=>by obtain⟨_,_,_,_,_,h⟩:=pt2;rw[<- e,s24.free (s47.free (s8.free hl5))]at h;cases h) k9 ?_ ⟨λ k0 hk0=>?_,?_⟩ ?_ pt9 (λ c o n e=>s29 _ _ (b2 _ _ n e))
 ·have tp9:Tups H9 rs ks:=Tups.keep (λ c xs e=>s29 _ _ e) tp2;exact Paired.app (Paired.app (Paired.takeP _ tp9) (.cons %[o,U|s49 _ _ ho] .nil)) (xI _ tp9)
 ·rcases C4.mp hk0 with h | h
  ·rcases C4.mp h with h | h
   ·exact gk _ (NF h)
   ·rw[E5.mp h,ek'];exact%[g0.w,g0.h,g0.wo,mw0.1,g0.w',g0.h',g0.wo'|Int.lt_of_le_of_lt mw0.2.1 g0.wa']
  ·exact gk _ (List.mem_of_mem_drop h)
 ·have:(wsK (ks.take (i+1) ++ [k'] ++ ks.drop (i+2))).sum=((wsK ks).take (i+1)).sum+(mw+0)+((wsK ks).drop (i+2)).sum:=by
   rw[wsK,J4,J4,Mr,Mr,List.map_take,List.map_drop,ek']
   rfl
  lia
 ·rw[K4,K4,K0,NI];simp;lia
theorem xL{k:Kd}{c:Bool}(hc:c=true->bv k=true):∀{ks:No Kd}{i j:Nat},ks[i]?=some k->(j+i,c)∈lyK ks j
 | k' :: r,0,j,h=>by
  simp only[M3,Option.some.injEq]at h;subst h;show B8 _ ?_;unfold lyT;cases c with
  | false=>exact B9
  | true=>rw[Nw (hc rfl)];exact B6 _ (E5.mpr rfl)
 | k' :: r,i+1,j,h=>by show A6 _ ?_;have:=xL hc (ks:=r) (i:=i) (j:=j+1) (by simpa using h);rw[show j+1+i=j+(i+1)by lia]at this;exact this
 | [],_,_,h=>by simp at h
theorem fitsK_iff{k:Kd}{w h:Int}:eE k w h=true↔∃c:Bool,(c=true->bv k=true)/\fits k c w h=true:=by
 unfold eE lnL;constructor
 ·intro z;obtain⟨q,hq,e⟩:=Mz.mp z
  by_cases c:(k.tu && !decide (k.w=k.h))=true
  ·rw[Nw c]at hq;simp only[J3,K7,OB]at hq;rcases hq with rfl | rfl
   ·exact⟨false,(λ z=>by cases z),e⟩
   ·exact%[true,λ _=>c|e]
  ·rw[Nv c]at hq;rw[E5]at hq;subst hq;exact⟨false,(λ z=>by cases z),e⟩
 ·rintro⟨c,h1,h2⟩;cases c with
  | false=>split <;> exact Mz.mpr %[(k.w,k.h),B9|h2]
  | true=>
   rw[Nw (show(k.tu && !decide (k.w=k.h))=true from h1 rfl)];exact Mz.mpr %[(k.h,k.w),B6 _ (E5.mpr rfl)|h2]
theorem oU{ks:No Kd}{p:Int×Int}{i:Nat}{k:Kd}(hk:ks[i]?=some k):i∈iS ks p↔eE k p.1 p.2=true:=by
 unfold iS;constructor
 ·intro h;obtain⟨q,hq,rfl⟩:=J5.mp h;obtain⟨hq,hf⟩:=M5.mp hq;obtain⟨_,k',hk',hc⟩:=jA hq;rw[Nat.sub_zero,hk]at hk';cases hk';unfold gx at hf;rw[hk]at hf;exact fitsK_iff.mpr %[q.2,λ e=>hc.resolve_left (by rw[e];decide)|hf]
 ·intro h;obtain⟨c,c1,c2⟩:=fitsK_iff.mp h;have m:=xL c1 (j:=0) hk;rw[Nat.zero_add]at m;show J5.mpr %[(i,c),M5.mpr %[m|?_]|U];unfold gx;rw[hk];exact c2
theorem JH{ks:No Kd}{p:Int×Int}(kw:∀k∈ks,0<=k.wa):((ks.map λ k=>decide (k.wa > 0) && !(eE k p.1 p.2)).any id)=!(awF ks p):=by
 cases aw:awF ks p with
 | true=>
  have h:=awF_iff.mp aw;rw[List.any_map,List.any_eq_false.mpr λ k hk=>?_];· rfl
  obtain⟨i,hi⟩:=MJ.mp hk;have e:waA ks i=k.wa:=by unfold waA;rw[hi];rfl
  rcases h i (A7.mp hi).1 with z | z
  ·rw[e]at z;have:decide (k.wa > 0)=false:=B2 ⋯;simp[this]
  ·have:=(oU hi).mp z;simp[this]
 | false=>
  have h:¬ ∀i,i < ks.length->waA ks i=0\/i∈iS ks p:=λ z=>by rw[awF_iff.mpr z]at aw;cases aw
  rw[List.any_map,Mz.mpr];· rfl
  show OP λ z=>h λ i il=>?_;have hi:=F4 il;have m:=B7 hi;generalize ks[i]=k at hi m
  by_cases c:k.wa=0
  ·exact .inl (by unfold waA;rw[hi];exact c)
  show .inr ((oU hi).mpr ?_);cases f:eE k p.1 p.2 with
  | true=>rfl
  | false=>
   have k0:=kw k m;exact absurd %[k,m|by simp[f];lia] z
def kR(a b:Pz):Pz:=List.zipWith (· + ·) a b
theorem zE{a b:Pz}{i:Nat}{x y:Int}(h1:a[i]?=some x)(h2:b[i]?=some y):(kR a b)[i]?=some (x+y):=by unfold kR;rw[NV,h1,h2]
theorem xM{a b:Pz}(h:a.length=b.length):(kR a b).length=a.length:=by unfold kR;rw[M6];lia
theorem oV:∀{a b:Pz},a.length=b.length->(kR a b).sum=a.sum+b.sum
 | [],[],_=>rfl
 | x :: a,y :: b,h=>by change((x+y) :: kR a b).sum=_;rw[MQ,MQ,MQ,oV (by simpa using h)];lia
def TrO(b:Int)(ks:No Kd):Tr->Int×Int->Prop
 | .rest,_=>True
 | .piece i c x y,p=>x=0/\y=0/\∃k,ks[i]?=some k/\(c=true->bv k=true)/\fits k c p.1 p.2=true
 | .cut dn q l r,p=>(dn,q)∈cH b p.1 p.2/\TrO b ks l (cI p.1 p.2 (dn,q))/\TrO b ks r (cK b p.1 p.2 (dn,q))
def ip(n:Nat):Tr->Pz
 | .rest=>aG n
 | .piece i _ _ _=>bY n i
 | .cut _ _ l r=>kR (ip n l) (ip n r)
def siz:Tr->Nat
 | .cut _ _ l r=>siz l+siz r+1
 | _=>1
theorem iU:∀{c o:Pz},c.length=o.length->kR (aM c o) (aN c (aM c o))=c
 | [],[],_=>rfl
 | x :: c,y :: o,h=>by change(min x y+max 0 (x - min x y)) :: kR (aM c o) (aN c (aM c o))=_;rw[iU (by simpa using h)];congr 1;lia
theorem Bd{n i:Nat}{c:Pz}(l:c.length=n)(nn:NnB c)(h:leB c (bY n i)=true)(s:c.sum≠0):c=bY n i:=by
 have at1:=(bZ (by rw[l,cJ])).mp h;have val:∀(j:Nat)(x:Int),c[j]?=some x->x=0\/j=i/\x=1:=λ j x hx=>by
  obtain⟨y,hy⟩:=atB (a:=bY n i) (i:=j) (by rw[cJ,<- l];exact qx hx);have h1:=at1 j x y hx hy;have h2:=NnB.iff.mp nn j x hx;have h3:=(hU hy).2
  by_cases e:j=i
  ·subst e;simp at h3;lia
  ·rw[Nv (by intro z;have z:(j:Int)=i:=z;lia)]at h3;lia
 by_cases z:∃x,c[i]?=some x/\x≠0
 ·obtain⟨x,hx,x0⟩:=z;show NZ λ j=>?_
  by_cases jl:j < n
  ·obtain⟨u,hu⟩:=atB (a:=c) (i:=j) ⋯;obtain⟨y,hy⟩:=atB (a:=bY n i) (i:=j) (by rw[cJ];exact jl);rw[hu,hy,(hU hy).2]
   by_cases e:j=i
   ·subst e;rw[hu]at hx;cases hx;rcases val _ _ hu with z | ⟨_,z⟩
    ·exact absurd z x0
    ·rw[z];simp
   ·rw[Nv (by intro z;have z:(j:Int)=i:=z;lia)];rcases val _ _ hu with z | ⟨z,_⟩
    ·rw[z]
    ·exact absurd z e
  ·rw[MX ⋯,MX (by rw[cJ];lia)]
 ·show absurd (zero_le l nn ((bZ (by rw[l];unfold aG;rw[K8])).mpr λ j x y hx hy=>?_)) s;have:=(NQ.mp (B7 hy)).2;rcases val j x hx with z' | ⟨rfl,z'⟩
  ·lia
  ·exact absurd %[x,hx|⋯] z
theorem xN{b:Int}{ks:No Kd}(b0:0<=b)(kw:∀k∈ks,0<=k.wa):∀(n:Nat)(p:Int×Int)(g c:Pz),1<=p.1->1<=p.2->g∈gK b ks p->c.length=ks.length->NnB c->leB c g=true->msr p < n->TrO b ks (tbF b ks n p g c) p/\ip ks.length (tbF b ks n p g c)=c/\dpt (tbF b ks n p g c)<=n/\(siz (tbF b ks n p g c):Int)<=1+2 * (n * c.sum)
 | 0,_,_,_,_,_,_,_,_,_,h=>absurd h (F2 _)
 | n+1,p,g,c,p1,p2,hg,cl,cn,lg,hm=>by
  have wl:(wsK ks).length=ks.length:=B5 _;unfold tbF;have cs:=gA cn;have n0:0<=((n+1:Nat):Int) * c.sum:=Int.mul_nonneg ⋯ cs
  by_cases s:c.sum=0
  ·rw[Nw s];exact%[trivial,by rw[xA cn s,cl];rfl,F1 _|by change(1:Int)<=_;lia]
  rw[Nv s];have hr:=rW b0 p1 p2 hg;generalize hV (gB b ks p) g=st at hr;cases st with
  | rest=>
   have hr:g=aG ks.length:=hr;rw[hr]at lg;exact absurd (zero_le cl cn lg) s
  | piece k t=>
   obtain⟨i,rfl,ml,f,rfl⟩:=hr;obtain⟨_,k',hk',hc⟩:=jA ml;rw[Nat.sub_zero]at hk';have hk':ks[i]?=some k':=hk';unfold gx at f;rw[show ks[((i,t):Nat×Bool).1]?=some k' from hk']at f;exact%[%[U,U,k',by rw[MF];exact hk',λ e=>hc.resolve_left (by rw[show((i,t):Nat×Bool).2=t from rfl,e];decide)|f],by rw[Bd cl cn lg s];rfl,F1 _|by change(1:Int)<=_;lia]
  | cut dn q f o s2 u=>
   obtain⟨cm,rfl,rfl,ho,hu,rfl⟩:=hr;obtain⟨⟨a1,a2,_,_,_,a6⟩,⟨c1,c2,_,_,_,c6⟩⟩:=er b0 p1 p2 cm;have mp:msr (p.1,p.2)=msr p:=rfl;have lo:=(bD kw ho).1;have lu:=(bD kw hu).1;have e1:c.length=o.length:=⋯
   have l1:(aM c o).length=c.length:=bC e1;have l2:(aN c (aM c o)).length=c.length:=bo ⋯;obtain⟨t1,t2,t3,t4⟩:=xN b0 kw n _ o (aM c o) a1 a2 ho ⋯ (ii e1 cn (bD kw ho).2.2) (ij e1) ⋯;obtain⟨r1,r2,r3,r4⟩:=xN b0 kw n _ u (aN c (aM c o)) c1 c2 hu ⋯ (fC ⋯) (oK ⋯ ⋯ ⋯ lg (bD kw hu).2.2) ⋯;have se:=oV (a:=aM c o) (b:=aN c (aM c o)) ⋯;rw[iU e1]at se;show%[%[cm,t1|r1],?_,?_|?_]
   ·change kR (ip ks.length _) (ip ks.length _)=c;rw[t2,r2,iU e1]
   ·change max (dpt _) (dpt _)+1<=n+1;lia
   ·change((siz _+siz _+1:Nat):Int)<=_;rw[se,show(((n+1:Nat):Int))=n+1 from rfl,Int.add_mul,Int.one_mul,Int.mul_add (n:Int)];lia
theorem lY:∀(gs:P0)(ms:Pz),(∀g∈gs,g.length=ms.length)->cV ms gs=gs.foldl aN ms
 | [],_,_=>rfl
 | g :: gs,ms,h=>by
  have e:∀{a c:Pz},c.length=a.length->aN a (aM a c)=aN a c:=λ {a}=>by
   induction a with
   | nil=>intro c _;rfl
   | cons x a ih=>
    intro c hc;cases c with
    | nil=>cases hc
    | cons y c=>
     change max 0 (x - min x y) :: aN a (aM a c)=max 0 (x - y) :: aN a c;rw[ih (by simpa using hc)];congr 1;lia
  have hg:=h g B9;rw[cV,e hg,lY gs _ λ c m=>by rw[bo hg.symm];exact h c (B6 _ m)]
  rfl
theorem si{n:Nat}:∀{gs:P0}{ms:Pz},ms.length=n->NnB ms->(∀g∈gs,g.length=n/\NnB g)->(cV ms gs).length=n/\NnB (cV ms gs)
 | [],_,l,nn,_=>%[l|nn]
 | g :: gs,ms,l,nn,h=>by obtain⟨g1,_⟩:=h g B9;have c1:(aM ms g).length=ms.length:=bC ⋯;exact si (gs:=gs) (ms:=aN ms (aM ms g)) (by rw[bo ⋯];exact l) (fC ⋯) λ c m=>h c (B6 _ m)
theorem oW:∀{ms g:Pz},ms.length=g.length->List.zipWith (· - ·) ms (aM ms g)=aN ms (aM ms g)
 | [],[],_=>rfl
 | x :: ms,y :: g,h=>by change(x - min x y) :: List.zipWith (· - ·) ms (aM ms g)=max 0 (x - min x y) :: aN ms (aM ms g);rw[oW (by simpa using h)];congr 1;lia
theorem jC{b:Int}{ks:No Kd}{p:Int×Int}(gd:fA b ks)(p1:1<=p.1)(p2:1<=p.2)(aw:awF ks p=true):(cM b ks p).length=qA (gK b ks p) (wsK ks)/\(∀g∈cM b ks p,g∈gK b ks p)/\cV (wsK ks) (cM b ks p)=aG ks.length:=by have wl:(wsK ks).length=ks.length:=B5 _;obtain⟨_,fh,_⟩:=kQ gd p1 p2 aw;have h:=C2 fh;rw[wl]at h;obtain⟨_,a2,a3,a4⟩:=fE (ws0 gd.2.2.2.1) (λ c hc=>%[(bD gd.2.2.2.1 hc).1|(bD gd.2.2.2.1 hc).2.2]) _ _ (kM h);show%[a2,a3|?_];rw[lY (cM b ks p) (wsK ks) λ g hg=>(bD gd.2.2.2.1 (a3 g hg)).1];exact a4
theorem sj{b:Int}{ks:No Kd}{p:Int×Int}:∀{gs:P0}{ms:Pz}{i:Nat}{g:Pz},gs[i]?=some g->(dQ b ks p ms gs)[i]?=some (tbF b ks 17 p g (aM (cV ms (gs.take i)) g))/\cV ms (gs.take (i+1))=aN (cV ms (gs.take i)) (aM (cV ms (gs.take i)) g)
 | g' :: gs,ms,0,g,h=>by cases h;exact%[U|U]
 | g' :: gs,ms,i+1,g,h=>sj (gs:=gs) (ms:=aN ms (aM ms g')) h
theorem lZ:∀n:Nat,(aG n).sum=0
 | 0=>rfl
 | n+1=>by change(0 :: aG n).sum=0;rw[MQ,lZ n];rfl
theorem xO{b:Int}{ks:No Kd}{p:Int×Int}(gd:fA b ks)(p1:1<=p.1)(p2:1<=p.2)(aw:awF ks p=true):((cM b ks p).length=0↔(wsK ks).sum=0):=by
 have wl:(wsK ks).length=ks.length:=B5 _;obtain⟨e,_,_⟩:=jC gd p1 p2 aw;obtain⟨_,fh,f0⟩:=kQ gd p1 p2 aw;have h0:hit (gK b ks p) (wsK ks) 0=true↔(wsK ks).sum=0:=by
  unfold hit;rw[OM];change aG (wsK ks).length∈[wsK ks]↔_;rw[E5];constructor
  ·intro z;rw[<- z];exact lZ _
  ·intro z;exact(xA (ws0 gd.2.2.2.1) z).symm
 rw[e];constructor
 ·intro z;rw[z]at fh;exact h0.mp fh
 ·intro z;show OP λ c=>?_;have:=f0 0 ⋯;rw[h0.mpr z]at this;cases this
theorem Ad{α β:Type}{R:α->β->Prop}{x:α}:∀{xs:No α}{zs:No β},Paired R (xs ++ [x]) zs->∃ys y,zs=ys ++ [y]/\Paired R xs ys/\R x y
 | [],zs,h=>by
  cases h with
  | cons a t=>cases t;exact%[[],_,U,.nil|a]
 | z :: xs,zs,h=>by
  cases h with
  | cons a t=>
   obtain⟨ys,y,rfl,p,r⟩:=Ad t;exact%[_ :: ys,y,U,.cons a p|r]
theorem JI{k:Kd}{c:Bool}(h:c=true->bv k=true):(lnL k)[(if c=true then 1 else 0:Int).toNat]?=some (sd1 k c,sd2 k c):=by
 unfold lnL;cases c with
 | false=>split <;> rfl
 | true=>
  rw[Nw (show(k.tu && !decide (k.w=k.h))=true from h rfl)]
  rfl
def cT(i:Nat):Tr->Int
 | .rest=>0
 | .piece j _ _ _=>if Int.ofNat i=(j:Int)then 1 else 0
 | .cut _ _ l r=>cT i l+cT i r
theorem fF(n:Nat):∀t:Tr,(ip n t).length=n
 | .rest=>by change(aG n).length=n;unfold aG;exact K8
 | .piece ..=>cJ _ _
 | .cut _ _ l r=>by change(kR _ _).length=n;rw[xM (by rw[fF n l,fF n r]),fF n l]
theorem qE{n i:Nat}(h:i < n):∀t:Tr,(ip n t)[i]?=some (cT i t)
 | .rest=>by change(aG n)[i]?=_;unfold aG;rw[List.getElem?_replicate,Nw h];rfl
 | .piece j _ _ _=>by obtain⟨y,hy⟩:=atB (a:=bY n j) (i:=i) (by rw[cJ];exact h);change(bY n j)[i]?=_;rw[hy,(hU hy).2];rfl
 | .cut _ _ l r=>zE (qE h l) (qE h r)
theorem qF:∀t:Tr,siz t+1<=2 ^ (dpt t+1)
 | .rest=>∅
 | .piece ..=>by change 1+1<=2 ^ 1;decide
 | .cut _ _ l r=>by have h1:=qF l;have h2:=qF r;have m1:=NE (show 1<=2 by decide) (show dpt l+1<=max (dpt l) (dpt r)+1 by lia);have m2:=NE (show 1<=2 by decide) (show dpt r+1<=max (dpt l) (dpt r)+1 by lia);change siz l+siz r+1+1<=2 ^ (max (dpt l) (dpt r)+1+1);rw[Nat.pow_succ];lia
theorem sn:∀st:No (Tr×Int×Int),st.length<=(st.map λ s=>siz s.1).sum
 | []=>B4 _
 | s :: r=>by
  have:=sn r;have:1<=siz s.1:=by cases s.1 <;> simp[siz]
  rw[J6,MQ,K3];lia
abbrev StT:=No (Tr×Int×Int)
def ItA(H:Hp)(v:V)(s:Tr×Int×Int):Prop:=∃a x,v=.ref a/\H a= ~~~[x,.int s.2.1,.int s.2.2]/\TrV H s.1 x
def itD(s:Tr×Int×Int):PyData:=.tuple [toD s.1,.int s.2.1,.int s.2.2]
theorem xP{K:C6}{H:Hp}:∀{vs:No V}{st:StT},Paired (ItA H) vs st->DatVs K H vs (st.map itD)
 | _,_,.nil=>.nil
 | _,_,.cons ⟨a,x,e,h,h1⟩ r=>by subst e;exact .cons (.tup (G5 h) (.cons (TrV.dat _ h1) (.cons (.int _) (.cons (.int _) .nil)))) (xP r)
theorem Ae:∀st:StT,(∀s∈st,dpt s.1<=17)->PyData.canLayAll0 (st.map itD)=true/\PyData.depthAll (st.map itD)<=19
 | [],_=>%[U|F1 _]
 | s :: r,h=>by
  obtain⟨h1,h2⟩:=Ae r λ x m=>h x (B6 _ m);have:=eB s.1;have:=h s B9;show%[?_|?_]
  ·simp[PyData.canLayAll0,PyData.canLay0,h1,itD,jB]
  ·simp only[J6,PyData.depthAll,PyData.depth,itD];lia
theorem oX(st:StT)(h:∀s∈st,dpt s.1<=17):SeqAt.shaped (.list (st.map itD))=true:=by obtain⟨h1,h2⟩:=Ae st h;simp[SeqAt.shaped,PyData.canLay0,PyData.depth,h1];lia
theorem oY(t:Tr)(h:dpt t<=17):SeqAt.shaped (toD t)=true:=by have:=eB t;simp[SeqAt.shaped,jB];lia
theorem TrV.head{H:Hp}:∀{t:Tr}{v:V},TrV H t v->∃a xs,v=.ref a/\H a= ~~~xs
 | .rest,_,⟨a,e,h⟩=>%[a,_,e|h]
 | .piece ..,_,⟨a,e,h⟩=>%[a,_,e|h]
 | .cut ..,_,⟨a,_,_,e,h,_⟩=>%[a,_,e|h]
structure CtI(t0:Tr)(b:Int)(ks:No Kd)(cl wl:Nj)(cs:Pz)(vs:No V)(st:StT)(H Hx:Hp):Prop where
 sm:Same H Hx
 ne:wl≠cl
 hc:Hx cl=↥(cs.map V.int)
 hw:Hx wl=↥vs
 tr:Paired (ItA Hx) vs st
 ok:∀s∈st,TrO b ks s.1 s.2/\dpt s.1<=17
 cl0:H cl=none
 wl0:H wl=none
 len:cs.length=ks.length
 cn:∀(i:Nat)(c:Int),cs[i]?=some c->c+(st.map λ s=>cT i s.1).sum=cT i t0
 zs:(st.map λ s=>siz s.1).sum<=siz t0
theorem CtI.keep{t0:Tr}{b:Int}{ks:No Kd}{cl wl:Nj}{cs:Pz}{vs:No V}{st:StT}{H H1 H2:Hp}(c:CtI t0 b ks cl wl cs vs st H H1)(s:Same H1 H2):CtI t0 b ks cl wl cs vs st H H2 :=
 %[c.sm.trans s,c.ne,s _ _ c.hc,s _ _ c.hw,G7 c.tr λ _ _ %[a,x,e,h|t]=>%[a,x,e,s _ _ h|TrV.keep (λ _ _ e=>s _ _ e) _ t],c.ok,c.cl0,c.wl0,c.len,c.cn|c.zs]
def so:Sp:=λ vs H Q _=>∃(x m:Int),vs=[.int x,.int m]/\Q (.bl (decide (x≥m))) H
def Cg:Sp:=λ vs H Q _=>∃(a kl:Nj)(i:Nat)(c:Bool)(w h b:Int)(rs:No V)(ks:No Kd),vs=[.ref a,.ref kl,.int w,.int h]/\H a=some (.tup [.str "piece",.int i,.bl c,.int 0,.int 0])/\H kl=↥rs/\Tups H rs ks/\TrO b ks (.piece i c 0 0) (w,h)/\∀H',Same H H'->Q (.int i) H'
def WtA(H:Hp)(v x:V)(p:Int×Int):Prop:=∃t,v=.ref t/\H t= ~~~[x,.int p.1,.int p.2]
def Ch:Sp:=λ vs H Q _=>∃(a:Nj)(dn:Bool)(q b w h:Int)(x y:V),vs=[.ref a,.int b,.int w,.int h]/\H a=some (.tup [.str (if dn=true then "down" else "across"),.int q,x,y])/\(dn,q)∈cH b w h/\∀(l:Nj)(u v:V)(H':Hp),H l=none->H' l=↥[u,v]->WtA H' u x (cI w h (dn,q))->WtA H' v y (cK b w h (dn,q))->Same H H'->Q (.ref l) H'
def Ci:Sp:=λ vs H Q _=>∃(v:V)(kl:Nj)(t:Tr)(b w h:Int)(rs:No V)(ks:No Kd),vs=[v,.int b,.ref kl,.int w,.int h]/\TrV H t v/\TrO b ks t (w,h)/\dpt t<=17/\H kl=↥rs/\Tups H rs ks/\ks.length<=8/\∀(l:Nj)(H':Hp),H l=none->H' l=↥((ip ks.length t).map V.int)->Same H H'->Q (.ref l) H'
theorem scwhi:FnScope Pk Pk (defScope jy):=%[U,U,U,∅,U,∅|∅]
theorem Be{f:Nj}{fd:G1}(F:Fun K "_law_whole" "_law_whole" jy f fd)(B:Blt mg):FnOk P w K mg base CX0 1 f fd Pk (so):=by
 exists scwhi;obtain⟨x,m,rfl,q⟩:=h;show%[_,((di (@ap _ _ _ _ _ _ _ _ _ br U B.isi N4 ('0'^^^((cw (v:=.ty "int") U B.int PyProof.Rows.boot_int U)^^^ae)) ∅ ∅ U U) (di (mx (@ap _ _ _ _ _ _ _ _ _ br U B.isi N4 ('0'^^^((cw (v:=.ty "bool") U B.bool PyProof.Rows.boot_bool U)^^^ae)) ∅ ∅ U U)) (dO (@bd _ _ _ _ _ _ _ _ nC '0' '1' (ax _)))))⁻¹)|?_];dsimp only[bW];exact%[_,U,_,_,_,_,_,U,.int _,U,U,_,U|bN %[_,U,_,_,_,_,_,U,.int _,U,U,_,U,_,U|cx (λ _=>%[_,U,_,U,_,_,U,U|q]) (λ c=>absurd ∅ c)]]
theorem scpc:FnScope Pl Pm (defScope kB):=%[U,U,U,∅,U,∅|∅]
theorem Cj{f:Nj}{fd:G1}(F:Fun K "_law_piece" "_law_piece" kB f fd)(B:Blt mg)(hal:mg "all" = none)(DWH:Dn P w K mg base "_law_whole" Pk 1 (so))(DLN:Dn P w K mg base "_law_lain" Pd 1 (qB)):FnOk P w K mg base CX0 2 f fd Pm (Cg):=by
 exists scpc;obtain⟨a,kl,i,c,w1,h1,b,rs,ks,rfl,ha,hkl,tp,ok,q⟩:=h;show%[_,(((PW.pt (cj ((@ap _ _ _ _ _ _ _ _ _ aI U B.len N6 ('0'^^^ae) ∅ ∅ U U)<*>fW<*>ag) (bT (@aY _ _ _ _ (@aR _ _ _ (@ap _ _ _ _ _ _ _ _ _ (iI U) U hal PyProof.Rows.boot_all ((aX (own:=["_law_number"]) (cs:=[]) (cap:=[]) U (jE (@aJ _ _ _ _ _ (('0'&&&aD&&&ag)^^^(('0'&&&aD&&&ag)^^^(('0'&&&aD&&&ag)^^^ae))))) (az (sc:=defScope kB) (N:=Pl) U U ∅) (λ _ _ _ _ _=>am (i:=0) (by change List.Nodup (["_law_number"]:No Str) ;decide +kernel) U (Or.inl U) (Or.inr U)) (λ _ _ _ _ _=>aK) (λ _ _ _ _ _=>(DWH∪('0'^^^(ag^^^ae)))))^^^ae) ∅ ∅ U U) (by intro _;rfl))))))<|>(dh⁻¹)<|>ay)<<<(((PW.pt (cj (('0'&&&aD&&&ag)<*>nC<*>(@ap _ _ _ _ _ _ _ _ _ aI U B.len N6 ('1'^^^ae) ∅ ∅ U U)) (bT (@aY _ _ _ _ (@aR _ _ _ (@ap _ _ _ _ _ _ _ _ _ br U B.isi N4 (('0'&&&aD&&&ag)^^^((cw (v:=.ty "bool") U B.bool PyProof.Rows.boot_bool U)^^^ae)) ∅ ∅ U U) (by intro _;rfl))))))<|>(dh⁻¹)<|>ay)<<<((4∣(DLN∪(('1'&&&bq&&&('0'&&&aD&&&ag))^^^ae)))<<<((((@aT _ _ _ _ _ _ _ _ _ lj U B.int PyProof.Rows.boot_int (('0'&&&aD&&&ag)^^^ae) ∅ ∅ U U)<*>nC<*>(@ap _ _ _ _ _ _ _ _ _ aI U B.len N6 ('4'^^^ae) ∅ ∅ U U))<|>(dh⁻¹)<|>ay)<<<((@cR _ _ _ _ _ _ ('4'&&&bq&&&(@aT _ _ _ _ _ _ _ _ _ lj U B.int PyProof.Rows.boot_int (('0'&&&aD&&&ag)^^^ae) ∅ ∅ U U)) (bO U (5•(6•bi))) U U U)<<<(((PW.pt (cj ((('0'&&&aD&&&ag)|||be|||'5')<*>gH<*>'2') (bT ((('0'&&&aD&&&ag)|||be|||'6')<*>gH<*>'3'))))<|>(dh⁻¹)<|>ay)<<<(('0'&&&aD&&&ag)⁻¹)))))))|?_];dsimp only[bW];have z4:4096<=sizeLine:=∅
 obtain⟨_,_,k,hk,ct,ft⟩:=ok;obtain⟨f1,f2⟩:=E1.mp (show(decide (sd1 k c<=w1) && decide (sd2 k c<=h1))=true from ft);have f1:=C2 f1;have f2:=C2 f2;obtain⟨kv,hkv,kt,rfl,hkt⟩:=tp.getL hk;have len:=E6 tp;have il:=(A7.mp hk).1;have ln:=JI ct;show ao (λ R=>∀(H':Hp),Same H H'->R [↑a,↑kl,⇑w1,⇑h1,none,none,none] H') (λ Dd hR=>?_) ?_
 ·show%[_,U,a,_,U,.inr (G5 ha),U,_,U|cx (λ c=>absurd c (by simp)) λ _=>?_];show%[_,U,a,_,_,_,U,U,G5 ha,U,_,U,a,_,_,_,U,U,G5 ha,U,_,U,a,_,_,_,U,U,G5 ha,U,zS3|λ t ht=>?_];show aF ht λ H1 k1 s1=>?_;show%[t,U,%[_|G5 k1]|(bu (K:=K) (.inr k1) (λ i us Hx=>H1=Hx/\us=(List.replicate i true).map V.bl) (λ i us Hx _ ⟨e,_⟩ o h=>e ▸ h) %[U|U] ?_ ?_).2 k1]
  ·rintro j x us _ hj ⟨rfl,rfl⟩;have hin:=(A7.mp hj).1;have px:∃n:Int,x=.int n/\0<=n:=by
    have:=B7 hj;simp only[J3,K7,OB]at this;rcases this with rfl | rfl | rfl
    ·exact%[_,U|⋯]
    ·exact%[_,U|E8 _]
    ·exact%[_,U|E8 _]
   obtain⟨n,rfl,n0⟩:=px;show%[by rw[B5,K8];have:j < 3:=hin;lia|?_];exact%[leS.set rfl|aL %[_,U,n,0,U|Nx.of hin %[U|by rw[Ny (show n≥0 from n0),List.replicate_succ',J4];rfl]]]
  ·rintro us _ ⟨rfl,rfl⟩;show%[by rw[B5,K8];change 3<=_;lia|λ p hp=>%[p,_,U,G6 ai,_,U|aV (hR _ (s1.trans (G4 hp)))]]
 rintro H1 s1;show ao (λ R=>R [↑a,↑kl,⇑w1,⇑h1,none,none,none] H1) (λ Dd hR=>?_) ?_
 ·show%[_,U,a,_,_,_,U,U,G5 (s1 _ _ ha),U,_,U,kl,_,U,.inl (G6 (s1 _ _ hkl)),_,_,U,U,_,U|cx (λ c=>absurd (C2 c) ⋯) λ _=>?_];exact%[_,U,a,_,_,_,U,U,G5 (s1 _ _ ha),U,_,_,_,_,_,U,.bl _,U,U,_,U|aV (hR)]
 skip
 show ao (λ R=>∀(l:Nj)(ys:No V)(H':Hp),H' l=↥ys->Paired (PtAt H') ys (lnL k)->Same H1 H'->R [↑a,↑kl,⇑w1,⇑h1,↑l,none,none] H') (λ Dd hR=>?_) ?_
 ·exact%[_,U,_,U,a,_,_,_,U,U,G5 (s1 _ _ ha),U,kl,_,_,_,U,U,G6 (s1 _ _ hkl),cY ⋯ (by rw[MF];exact hkv),kt,k,U,s1 _ _ hkt|λ l ys H2 hl py s2=>hR l ys _ hl py s2]
 rintro l ys H2 hl py s2;have yl:=E6 py;obtain⟨u,hu,t,rfl,ht⟩:=py.getL ln;have jl:(if c=true then 1 else 0:Int) < ys.length:=by have jl:=(A7.mp hu).1;cases c <;> simp at jl ⊢ <;> lia
 have s12:=s1.trans s2;show ao (λ R=>R [↑a,↑kl,⇑w1,⇑h1,↑l,none,none] H2) (λ Dd hR=>?_) ?_
 ·show%[_,U,a,_,_,_,U,U,G5 (s12 _ _ ha),U|.inr %[c,U,_,U,l,_,U,.inl (G6 hl),_,_,U,U,_,U|cx (λ z=>absurd (C2 z) (Int.not_le.mpr jl)) λ _=>hR]]
 skip
 show ao (λ R=>R [↑a,↑kl,⇑w1,⇑h1,↑l,⇑(sd1 k c),⇑(sd2 k c)] H2) (λ Dd hR=>?_) ?_
 ·exact%[_,U,_,U,a,_,_,_,U,U,G5 (s12 _ _ ha),U|.inr ⟨c,U,l,_,_,_,U,U,G6 hl,cY (by cases c <;> decide) hu,t,_,U,G5 ht,U,_,_,U,_,_,U,U,hR⟩]
 skip
 show ao (λ R=>R [↑a,↑kl,⇑w1,⇑h1,↑l,⇑(sd1 k c),⇑(sd2 k c)] H2) (λ Dd hR=>?_) ?_
 ·show%[_,U,a,_,_,_,U,U,G5 (s12 _ _ ha),U,_,U,_,_,U,U,_,U,_,_,U,U,_,U|cx (λ z=>absurd (C2 z) ⋯) λ _=>?_];exact%[_,U,a,_,_,_,U,U,G5 (s12 _ _ ha),U,_,U,_,_,U,U,_,U,_,_,U,U,_,U|cx (λ z=>absurd (C2 z) ⋯) λ _=>hR]
 skip
 exact%[_,U,a,_,_,_,U,U,G5 (s12 _ _ ha),U|q _ s12]
theorem scpt:FnScope ["_law_tree","_law_blade","_law_wide","_law_high","_law_behind"] Pn (defScope nj):=%[U,U,U,∅,U,∅|∅]
theorem Ck{f:Nj}{fd:G1}(F:Fun K "_law_parts" "_law_parts" nj f fd)(B:Blt mg)(DWH:Dn P w K mg base "_law_whole" Pk 1 (so)):FnOk P w K mg base CX0 2 f fd Pn (Ch):=by
 exists scpt;obtain⟨a,dn,q0,b,w1,h1,x,y,rfl,ha,cm,q⟩:=h;have hu:=hr.units;show%[_,(((PW.pt (cj ((@ap _ _ _ _ _ _ _ _ _ aI U B.len N6 ('0'^^^ae) ∅ ∅ U U)<*>fW<*>ag) (cj (@aA _ _ _ _ _ _ _ _ mF ('0'&&&aD&&&ag) (@aJ _ _ _ _ _ (gc^^^(gc^^^ae))) U) (bT (@aY _ _ _ _ (@aR _ _ _ (DWH∪(('0'&&&aD&&&ag)^^^(ag^^^ae))) (by intro _;rfl)))))))<|>((@aZ _ _ _ _ ae)⁻¹)<|>ay)<<<((4∣(('0'&&&aD&&&ag)|||be|||'1'))<<<(((PW.pt (mv (('0'&&&aD&&&ag)<*>dj<*>gc) (js ('4'<*>nA<*>'2'))))<|>((@aZ _ _ _ _ ((@aJ _ _ _ _ _ (('0'&&&aD&&&ag)^^^(('0'&&&aD&&&ag)^^^('3'^^^ae))))^^^((@aJ _ _ _ _ _ (('0'&&&aD&&&ag)^^^(('2'|||bU|||'4')^^^('3'^^^ae))))^^^ae)))⁻¹)<|>ay)<<<(((PW.pt (mv (('0'&&&aD&&&ag)<*>dj<*>gc) (js ('4'<*>nA<*>'3'))))<|>((@aZ _ _ _ _ ((@aJ _ _ _ _ _ (('0'&&&aD&&&ag)^^^('2'^^^(('0'&&&aD&&&ag)^^^ae))))^^^((@aJ _ _ _ _ _ (('0'&&&aD&&&ag)^^^('2'^^^(('3'|||bU|||'4')^^^ae))))^^^ae)))⁻¹)<|>ay)<<<((@aZ _ _ _ _ ae)⁻¹)))))|?_];dsimp only[bW];have z4:4096<=sizeLine:=∅
 obtain⟨c1,c2⟩:=iP cm;have c1:1<=q0:=c1;show ao (λ R=>∀(H':Hp),Same H H'->R [↑a,⇑b,⇑w1,⇑h1,none] H') (λ Dd hR=>?_) ?_
 ·show%[_,U,a,_,U,.inr (G5 ha),U,_,U|cx (λ c=>absurd c (by simp)) λ _=>?_];show%[_,U,a,_,_,_,U,U,G5 ha,U,zS2|λ t ht=>?_];show aF ht λ H1 k1 s1=>?_;show⟨t,_,U,.inr (G5 k1),(by cases dn <;> rfl),U,_,U,cx (λ c=>absurd c (by cases dn <;> decide)) λ _=>?_⟩;exact%[_,U,a,_,_,_,U,U,G5 (s1 _ _ ha),U,q0,1,U,_,U|cx (λ c=>absurd c (by simp;lia)) λ _=>hR _ s1]
 rintro H1 s1;show ao (λ R=>R [↑a,⇑b,⇑w1,⇑h1,⇑(q0+b)] H1) (λ Dd hR=>?_) ?_
 ·exact%[_,U,a,_,_,_,U,U,G5 (s1 _ _ ha),U,_,U,_,_,U,U|hR]
 skip
 cases dn with
 | true=>
  have c2:q0+b < w1:=c2;show%[_,U,a,_,_,_,U,U,G5 (s1 _ _ ha),U,U,_,U|bN %[_,U,_,U,_,_,U,U,_,U|cx (λ _=>?_) (λ z=>absurd (B1 c2) z)]];show%[_,U,a,_,_,_,U,U,G5 (s1 _ _ ha),U,_,U,a,_,_,_,U,U,G5 (s1 _ _ ha),U,_,U,zS3|λ t ht=>?_];show aF ht λ H2 k2 s2=>?_;show%[_,U,a,_,_,_,U,U,G5 (s2 _ _ (s1 _ _ ha)),U,_,U,_,U,_,_,U,U,_,U,zS3|λ t' ht'=>?_];show aF ht' λ H3 k3 s3=>?_;show%[zS2|λ l hl=>?_];show aF hl λ H4 k4 s4=>?_;rw[show w1 - (q0+b)=w1 - q0 - b by lia]at k3;exact q l _ _ H4 (((s1.trans s2).trans s3).free hl) k4 %[t,rfl|s4 _ _ (s3 _ _ k2)] %[t',rfl|s4 _ _ k3] (((s1.trans s2).trans s3).trans s4)
 | false=>
  have c2:q0+b < h1:=c2;show%[_,U,a,_,_,_,U,U,G5 (s1 _ _ ha),U,U,_,U|aV (aV ?_)];show%[_,U,a,_,_,_,U,U,G5 (s1 _ _ ha),U,U,_,U|bN %[_,U,_,U,_,_,U,U,_,U|cx (λ _=>?_) (λ z=>absurd (B1 c2) z)]];show%[_,U,a,_,_,_,U,U,G5 (s1 _ _ ha),U,_,U,_,U,a,_,_,_,U,U,G5 (s1 _ _ ha),U,zS3|λ t ht=>?_];show aF ht λ H2 k2 s2=>?_;show%[_,U,a,_,_,_,U,U,G5 (s2 _ _ (s1 _ _ ha)),U,_,U,_,U,_,U,_,_,U,U,zS3|λ t' ht'=>?_];show aF ht' λ H3 k3 s3=>?_;show%[zS2|λ l hl=>?_];show aF hl λ H4 k4 s4=>?_;rw[show h1 - (q0+b)=h1 - q0 - b by lia]at k3;exact q l _ _ H4 (((s1.trans s2).trans s3).free hl) k4 %[t,rfl|s4 _ _ (s3 _ _ k2)] %[t',rfl|s4 _ _ k3] (((s1.trans s2).trans s3).trans s4)
theorem scct:FnScope ["_law_tree","_law_blade","_law_kinds","_law_wide","_law_high","_law_counts_here","_law_waiting","_law_here","_law_own_wide","_law_own_high","_law_number","_law_parts_here"] Po (defScope jz):=%[U,U,U,∅,U,∅|∅]
theorem Cl{f:Nj}{fd:G1}(F:Fun K "_law_counts" "_law_counts" jz f fd)(B:Blt mg)(DPC:Dn P w K mg base "_law_piece" Pm 2 (Cg))(DPT:Dn P w K mg base "_law_parts" Pn 2 (Ch)):FnOk P w K mg base CX0 3 f fd Po (Ci):=by
 exists scct;obtain⟨v,kl,t,b,w1,h1,rs,ks,rfl,tv,to,td,hkl,tp,k8,q⟩:=h;have hu:=hr.units;show%[_,((5∣((@aZ _ _ _ _ (ag^^^ae))|||Ax|||(@ap _ _ _ _ _ _ _ _ _ aI U B.len N6 ('2'^^^ae) ∅ ∅ U U)))<<<((6∣(@aZ _ _ _ _ ((@aJ _ _ _ _ _ ('0'^^^('3'^^^('4'^^^ae))))^^^ae)))<<<((ny E7 ('6'<*>(pT hu)<*>(@aZ _ _ _ _ ae)) ((@cR _ _ _ _ _ _ (Av F8 PySem.F.slot_list_pop PySem.F.type_list_pop Aw '6') (bO U (7•(8•(9•bi)))) U U U)<<<(((PW.pt (cj (@aY _ _ _ _ (@aR _ _ _ (@ap _ _ _ _ _ _ _ _ _ br U B.isi N4 ('7'^^^((cw (v:=.ty "tuple") U B.tuple N0 U)^^^ae)) ∅ ∅ U U) (by intro _;rfl))) (bT ('7'<*>(vR hu)<*>(@aJ _ _ _ _ _ ae)))))<|>(dh⁻¹)<|>ay)>>>((('7'&&&aD&&&ag)<*>dj<*>gc)<|>((10∣(DPC∪('7'^^^('2'^^^('8'^^^('9'^^^ae))))))<<<(((':'<*>pF<*>dh)<|>(dh⁻¹)<|>ay)>>>(@cR _ _ _ _ _ _ (('5'&&&bq&&&':')|||be|||ag) (pj '5' ':' jI) U U U)))<|>(@ah _ _ _ (('7'<*>(pT hu)<*>(@aJ _ _ _ _ _ (gc^^^ae)))<|>((11∣(DPT∪('7'^^^('1'^^^('8'^^^('9'^^^ae))))))<<<(((';'<*>(vR hu)<*>(@aZ _ _ _ _ ae))<|>(dh⁻¹)<|>ay)>>>(@bL _ _ _ _ (@fX _ _ _ _ _ _ _ _ _ _ _ _ F8 PySem.F.slot_list_extend PySem.F.type_list_extend lB '6' (';'^^^ae) U U U U U) U)))<|>ay))))))<<<('5'⁻¹))))|?_];dsimp only[bW];have z4:4096<=sizeLine:=∅
 have len:=E6 tp;show ao (λ R=>∀cl (H':Hp),H cl=none->H' cl=↥((aG ks.length).map V.int)->Same H H'->R [some v,⇑b,↑kl,⇑w1,⇑h1,↑cl,none,none,none,none,none,none] H') (λ Dd hR=>?_) ?_
 ·show%[zS1|λ c0 hc0=>?_];show aF hc0 λ H1 k1 s1=>?_;show%[_,U,kl,_,U,.inl (G6 (s1 _ _ hkl)),c0,_,_,U,U,k1,⋯,⋯,by change 1 * _<=_;lia|λ cl hcl=>?_];show hR cl _ (s1.free hcl) ?_ (s1.trans (G4 hcl));rw[ai,len,MF];congr 2;unfold aG;generalize ks.length=n
  induction n with
  | zero=>rfl
  | succ n ih=>rw[Mt,Mt,NW,J6,ih];rfl
 rintro cl H1 fc hc1 s1;show ao (λ R=>∀wl v0 (H':Hp),CtI t b ks cl wl (aG ks.length) [v0] [(t,w1,h1)] H H'->R [some v,⇑b,↑kl,⇑w1,⇑h1,↑cl,↑wl,none,none,none,none,none] H') (λ Dd hR=>?_) ?_
 ·show%[_,U,_,U,_,U,zS3|λ a ha=>?_];show aF ha λ H2 k2 s2=>?_;show%[zS1|λ wl hwl=>?_];show aF hwl λ H3 k3 s3=>?_;have sm:=(s1.trans s2).trans s3;show hR wl (.ref a) _ ⟨sm,(λ z=>by rw[z,s2 _ _ hc1]at hwl;cases hwl),s3 _ _ (s2 _ _ hc1),k3,.cons %[a,v,rfl,s3 _ _ k2|TrV.keep (λ _ _ e=>sm _ _ e) _ tv] .nil,λ s m=>?_,fc,(s1.trans s2).free hwl,K8,λ i c hc=>?_,by simp⟩
  ·rw[E5.mp m];exact%[to|td]
  ·rw[(NQ.mp (B7 hc)).2];simp
 rintro wl v0 H2 ci;show bI (λ σ' H'=>∃(cs:Pz)(v7 v8 v9 v10 v11:Nm V),σ'=[some v,⇑b,↑kl,⇑w1,⇑h1,↑cl,↑wl,v7,v8,v9,v10,v11]/\CtI t b ks cl wl cs [] [] H H') (λ R hR=>?_) ?_
 ·show%[λ m σ' H'=>∃(cs:Pz)(vs:No V)(st:StT)(v7 v8 v9 v10 v11:Nm V),σ'=[some v,⇑b,↑kl,⇑w1,⇑h1,↑cl,↑wl,v7,v8,v9,v10,v11]/\m=(st.map λ s=>siz s.1).sum/\CtI t b ks cl wl cs vs st H H',%[_,_,_,_,_,_,_,_,_,U,U|ci]|?_];clear ci hc1 fc s1;rintro m _ H3 ⟨cs,vs,st,v7,v8,v9,v10,v11,rfl,rfl,ci⟩;show%[_,U,zS0|λ e0 he0=>?_];show aF he0 λ H4 k4 s4=>?_;have ci4:=ci.keep s4;show%[_,_,.lst (G6 ci4.hw) (xP ci4.tr),.lst (G6 k4) .nil,oX st λ s m=>(ci4.ok s m).2,U,_,U|?_];rcases List.eq_nil_or_concat vs with rfl | ⟨vs',v',rfl⟩
  ·have ets:st=[]:=by
    have:=E6 ci.tr;cases st with
    | nil=>rfl
    | cons _ _=>simp at this
   subst ets;exact aV (hR _ _ %[cs,_,_,_,_,_,rfl|ci4])
  rw[List.concat_eq_append]at ci4;obtain⟨st',⟨tt,ww,hh⟩,rfl,trp,a,x,rfl,hta,htx⟩:=Ad ci4.tr;rw[show PyData.eqv (.list ((st' ++ [(tt,ww,hh)]).map itD)) (.list [])=false by cases st' <;> rfl];have ml:((st' ++ [(tt,ww,hh)]).map λ s=>siz s.1).sum=(st'.map λ s=>siz s.1).sum+siz tt:=by rw[J4,Mr];simp
  rw[ml];show bN ⟨λ σ' H'=>∃(cs:Pz)(vs:No V)(st:StT)(v7 v8 v9 v10 v11:Nm V),σ'=[some v,⇑b,↑kl,⇑w1,⇑h1,↑cl,↑wl,v7,v8,v9,v10,v11]/\(st.map λ s=>siz s.1).sum < (st'.map λ s=>siz s.1).sum+siz tt/\CtI t b ks cl wl cs vs st H H',λ σ' H' h9=>by obtain⟨cs,vs,st,v7,v8,v9,v10,v11,e,l,c⟩:=h9;exact%[_,l,cs,vs,st,v7,v8,v9,v10,v11,e,rfl|c],?_⟩;obtain⟨oT,oD⟩:=ci4.ok (tt,ww,hh) (A6 _ (E5.mpr rfl));have oT:TrO b ks tt (ww,hh):=oT;have oD:dpt tt<=17:=oD;have cn':∀(i:Nat)(c:Int),cs[i]?=some c->c+(st'.map λ s=>cT i s.1).sum+cT i tt=cT i t:=λ i c hc=>by have:=ci4.cn i c hc;rw[J4,Mr]at this;simp at this;lia
  have sz1:1<=siz tt:=by cases tt <;> simp[siz]
  show bI (λ σ' H'=>σ'=[some v,⇑b,↑kl,⇑w1,⇑h1,↑cl,↑wl,some x,⇑ww,⇑hh,v10,v11]/\Same H H'/\H' cl=↥(cs.map V.int)/\H' wl=↥vs'/\Paired (ItA H') vs' st'/\TrV H' tt x) (λ R' hR'=>?_) ?_
  ·show%[_,U,.inl %[U,_|G6 ci4.hw],wl,_,.ref a,U,U,ci4.hw,(by simp)|?_];rw[List.dropLast_concat];have tk:∀(b:Nj)(xs:No V),H4 b= ~~~xs->(upd H4 wl (.lst vs')) b= ~~~xs:=λ b xs e=>by rw[ak (λ z=>by rw[z,ci4.hw]at e;cases e)];exact e
   show%[a,_,U,G5 (tk _ _ hta),U,_,_,U,_,_,U,_,_,U,U|hR' _ _ %[U,λ b o e=>?_,?_,ai,G7 trp λ _ _ %[a,x,e,h|t]=>%[a,x,e,tk _ _ h|TrV.keep tk _ t]|TrV.keep tk _ htx]]
   ·rw[ak (λ z=>by rw[z,ci4.wl0]at e;cases e)];exact ci4.sm _ _ e
   ·rw[ak (Ne.symm ci4.ne)];exact ci4.hc
  rintro _ H5 ⟨rfl,s5,hc5,hw5,tr5,tx5⟩;have ne:=ci4.ne;have cl0:=ci4.cl0;have wl0:=ci4.wl0;have cln:=ci4.len;have zs:=ci4.zs;have ok':∀s∈st',TrO b ks s.1 s.2/\dpt s.1<=17:=λ s m=>ci4.ok s (B8 _ m);clear ci4 ci trp hta htx s4 k4 he0;show bI (λ σ' H'=>σ'=[some v,⇑b,↑kl,⇑w1,⇑h1,↑cl,↑wl,some x,⇑ww,⇑hh,v10,v11]/\Same H5 H') (λ R' hR'=>?_) ?_
  ·obtain⟨a,xs,rfl,hxa⟩:=tx5.head;show%[_,U,_,_,_,_,_,U,.tup hxa,U,U,_,U|aV ?_];show%[_,U,zS0|λ e he=>?_];show aF he λ H6 k6 s6=>?_;show%[_,_,TrV.dat _ (TrV.keep (λ _ _ e=>s6 _ _ e) _ tx5),.tup (G5 k6) .nil,oY _ oD,U,_,U|?_];rw[show PyData.eqv (toD tt) (.tuple [])=false by cases tt <;> rfl];exact aV (hR' _ _ %[rfl|s6])
  rintro _ H6 ⟨rfl,s6⟩;have s06:=s5.trans s6;have zs':(st'.map λ s=>siz s.1).sum+siz tt<=siz t:=by rw[<- ml];exact zs
  have mk:(∀(i:Nat)(c:Int),cs[i]?=some c->c+(st'.map λ s=>cT i s.1).sum=cT i t)->CtI t b ks cl wl cs vs' st' H H5:=λ h=>%[s5,ne,hc5,hw5,tr5,ok',cl0,wl0,cln,h|⋯]
  clear ml;cases tt with
  | rest=>
   obtain⟨a,rfl,hxa⟩:=tx5;show%[_,U,a,_,_,_,U,U,G5 (s6 _ _ hxa),U,U,_,U|aV ?_];show%[_,U,zS1|λ e he=>?_];show aF he λ H7 k7 s7=>?_;show%[_,_,.tup (G5 (s7 _ _ (s6 _ _ hxa))) (.cons (.str _) .nil),.tup (G5 k7) (.cons (.str _) .nil),∅,∅,_,U|aV %[cs,vs',st',_,_,_,_,_,U,by simp[siz]|(mk λ i c hc=>?_).keep (s6.trans s7)]];have:=cn' i c hc;simp[cT]at this;lia
  | piece i bt px py=>
   obtain⟨a,rfl,hxa⟩:=tx5;obtain⟨rfl,rfl,k,hk,ct,ft⟩:=oT;have il:=(A7.mp hk).1;show%[_,U,a,_,_,_,U,U,G5 (s6 _ _ hxa),U,U,_,U|bN ?_];show bI (λ σ' H'=>σ'=[some v,⇑b,↑kl,⇑w1,⇑h1,↑cl,↑wl,↑a,⇑ww,⇑hh,⇑(i:Int),v11]/\Same H6 H') (λ R' hR'=>?_) ?_
   ·exact%[_,U,_,U,_,U,_,U,a,kl,i,bt,ww,hh,b,rs,ks,U,s6 _ _ hxa,s06 _ _ hkl,Tups.keep (λ b xs e=>s06 _ _ e) tp,%[U,U,k,hk,ct|ft]|λ H7 s7=>hR' _ _ %[U|s7]]
   rintro _ H7 ⟨rfl,s7⟩;have s57:=s6.trans s7;have hc7:=s57 _ _ hc5;obtain⟨u,hu⟩:=atB (a:=cs) (i:=i) (by rw[cln];exact il);show%[_,U,U,_,U|aV ?_];show⟨_,U,_,U,cl,_,_,_,U,U,G6 hc7,cY ⋯ (by rw[MF,J0,hu];rfl),_,_,U,U,_,U,_,U,cl,_,_,i,U,U,hc7,(by
    unfold ixN;rw[Nw ⋯,Nw (by rw[B5];lia),MF]),?_⟩
   rw[<- List.map_set];have tk:∀(b:Nj)(xs:No V),H7 b= ~~~xs->(upd H7 cl (.lst ((cs.set i (u+1)).map V.int))) b= ~~~xs:=λ b xs e=>by rw[ak (λ z=>by rw[z,hc7]at e;cases e)];exact e
   show%[cs.set i (u+1),vs',st',_,_,_,_,_,U,by simp[siz]|%[λ b o e=>?_,ne,ai,?_,G7 tr5 λ _ _ %[a,x,e,h|t]=>%[a,x,e,tk _ _ (s57 _ _ h)|TrV.keep (λ _ _ e=>tk _ _ (s57 _ _ e)) _ t],ok',cl0,wl0,by rw[List.length_set];exact cln,λ j c hc=>?_|⋯]]
   ·rw[ak (λ z=>by rw[z,cl0]at e;cases e)];exact s57 _ _ (s5 _ _ e)
   ·rw[ak ne];exact s57 _ _ hw5
   ·rw[List.getElem?_set]at hc
    split at hc
    ·next z=>
     subst z;rw[Nw (by rw[cln];exact il)]at hc;cases hc;have:=cn' _ _ hu;simp[cT]at this;lia
    ·next z=>
     have:=cn' _ _ hc;have e:cT j (.piece i bt 0 0)=0:=Nv λ y=>z (by have y:(j:Int)=i:=y;lia);lia
  | cut dn q0 l r=>
   obtain⟨a,x1,y1,rfl,hxa,tl,tr'⟩:=tx5;obtain⟨cm,o1,o2⟩:=oT;have sl:=qF t;have s17:=NE (show 1<=2 by decide) (show dpt t+1<=18 by lia);have s24:(2:Nat) ^ 18+2<=sizeLine:=∅
   show%[_,U,a,_,_,_,U,U,G5 (s6 _ _ hxa),U,U,_,U|cx (λ z=>absurd z (by cases dn <;> decide)) λ _=>?_];show%[_,U,zS1|λ e he=>?_];show aF he λ H7 k7 s7=>?_;have s57:=s6.trans s7;show%[_,_,TrV.dat (.cut dn q0 l r) %[a,x1,y1,U,s57 _ _ hxa,TrV.keep (λ _ _ e=>s57 _ _ e) _ tl|TrV.keep (λ _ _ e=>s57 _ _ e) _ tr'],.tup (G5 k7) (.cons (.str _) .nil),oY _ oD,∅,_,U|?_];rw[show PyData.eqv (toD (.cut dn q0 l r)) (.tuple [.str "rest"])=false by cases dn <;> rfl];show bN ?_;show bI (λ σ' H'=>∃(pl:Nj)(u v':V),σ'=[some v,⇑b,↑kl,⇑w1,⇑h1,↑cl,↑wl,↑a,⇑ww,⇑hh,v10,↑pl]/\H7 pl=none/\H' pl=↥[u,v']/\ItA H' u (l,cI ww hh (dn,q0))/\ItA H' v' (r,cK b ww hh (dn,q0))/\Same H7 H') (λ R' hR'=>?_) ?_
   ·show%[_,U,_,U,_,U,_,U,a,dn,q0,b,ww,hh,x1,y1,U,s57 _ _ hxa,cm|λ pl u v' H8 n0 hpl ⟨t1,e1,h1'⟩ ⟨t2,e2,h2'⟩ s8=>hR' _ _ %[pl,u,v',U,n0,hpl,%[t1,x1,e1,h1'|?_],%[t2,y1,e2,h2'|?_]|s8]]
    ·exact TrV.keep (λ _ _ e=>s8 _ _ (s57 _ _ e)) _ tl
    ·exact TrV.keep (λ _ _ e=>s8 _ _ (s57 _ _ e)) _ tr'
   rintro _ H8 ⟨pl,u,v',rfl,n0,hpl,iu,iv,s8⟩;have ik:∀{Ha Hb:Hp}{v:V}{s:Tr×Int×Int},Tps Ha Hb->ItA Ha v s->ItA Hb v s:=λ k ⟨a,x,e,h,t⟩=>%[a,x,e,k _ _ h|TrV.keep k _ t]
   show%[_,U,zS0|λ z9 hz9=>?_];show aF hz9 λ H9 k9 s9=>?_;have oD1:dpt l<=17/\dpt r<=17:=by have:max (dpt l) (dpt r)+1<=17:=oD;lia
   have pr9:Paired (ItA H9) [u,v'] [(l,cI ww hh (dn,q0)),(r,cK b ww hh (dn,q0))]:=.cons (ik (Same.tps s9) iu) (.cons (ik (Same.tps s9) iv) .nil);have okp:∀s∈[(l,cI ww hh (dn,q0)),(r,cK b ww hh (dn,q0))],TrO b ks s.1 s.2/\dpt s.1<=17:=λ s m=>by
    rcases J3.mp m with rfl | m
    ·exact%[o1|oD1.1]
    ·rw[E5.mp m];exact%[o2|oD1.2]
   show%[_,_,.lst (G6 (s9 _ _ hpl)) (xP pr9),.lst (G6 k9) .nil,oX _ λ s m=>(okp s m).2,U,_,U|aV ?_];have s59:=(s57.trans s8).trans s9;have hw9:=s59 _ _ hw5;have vl:=E6 tr5;have:=sn st';have npw:pl≠wl:=λ z=>by rw[z,s57 _ _ hw5]at n0;cases n0
   have tk:∀(b:Nj)(xs:No V),H9 b= ~~~xs->(upd H9 wl (.lst (vs' ++ [u,v']))) b= ~~~xs:=λ b xs e=>by rw[ak (λ z=>by rw[z,hw9]at e;cases e)];exact e
   show%[_,U,.inl %[U,_|G6 hw9],_,U,wl,pl,_,_,U,U,hw9,s9 _ _ hpl,by change vs'.length+2<=_;lia|?_];show%[cs,vs' ++ [u,v'],st' ++ [(l,cI ww hh (dn,q0)),(r,cK b ww hh (dn,q0))],_,_,_,_,_,U,?_|%[λ b o e=>?_,ne,?_,ai,Paired.app (G7 tr5 λ _ _ x=>ik tk (ik (Same.tps s59) x)) (.cons (ik tk (ik (Same.tps s9) iu)) (.cons (ik tk (ik (Same.tps s9) iv)) .nil)),λ s m=>(C4.mp m).elim (ok' s) (okp s),cl0,wl0,cln,λ i c hc=>?_|?_]]
   ·rw[J4,Mr];simp[siz]
   ·rw[ak (λ z=>by rw[z,wl0]at e;cases e)];exact s59 _ _ (s5 _ _ e)
   ·rw[ak (Ne.symm ne)];exact s59 _ _ hc5
   ·have:=cn' i c hc;rw[J4,Mr];simp[cT]at this ⊢;lia
   ·rw[J4,Mr];simp[siz]at zs' ⊢;lia
 rintro _ H3 ⟨cs,v7,v8,v9,v10,v11,rfl,ci3⟩;show%[_,U|q cl _ ci3.cl0 ?_ ci3.sm];rw[ci3.hc];congr 2;show OD _ (NZ λ i=>?_)
 by_cases il:i < ks.length
 ·obtain⟨c,hc⟩:=atB (a:=cs) (i:=i) (by rw[ci3.len];exact il);have:=ci3.cn i c hc;rw[hc,qE il,<- this];simp
 ·rw[MX (by rw[ci3.len];lia),MX (by rw[fF];lia)]
theorem kS{X:Cx}(K:C6)(hK:X.K=K):bS X (.type "tuple") (rz_call_tuple_of K):=hK ▸ aQ
def Af:Sp:=λ vs H Q _=>∃(wl gl:Nj)(as:No Nj)(bs:P0)(ws:Pz)(n:Nat),vs=[.ref wl,.ref gl,.int n]/\H wl=↥(ws.map V.int)/\H gl=↥(as.map V.ref)/\BsA H as bs/\bs≠[]/\bs.length<=64/\(∀c∈bs,c.length=ws.length/\NnB c)/\1<=ws.length/\ws.length<=8/\(∀x∈ws,0<=x)/\ws.sum<=6/\n<=6/\hit bs ws n=false/\∀H',Same H H'->Q (.bl false) H'
theorem scdof:FnScope Pp Pq (defScope fu):=%[U,U,U,∅,U,∅|∅]
theorem Bf{f:Nj}{fd:G1}(F:Fun K "_law_do_fewer" "_law_do_fewer" fu f fd)(B:Blt mg)(hset:mg "set" = none):FnOk P w K mg base CX0 1 f fd Pq (Af):=by
 exists scdof;show bX λ G9 k9=>?_;obtain⟨wl,gl,as,bs,ws,n,rfl,hwl,hgl,ba,bn,b64,bok,w1,w8,w0,w6,n6,hf,q⟩:=h;show k9 ?_;have hu:=hr.units;have hu10:=C8 (Mm (show 10<=64 by decide) _) hu;show%[_,((3∣(@aZ _ _ _ _ ((@aT _ _ _ _ _ _ _ _ _ aQ U B.tuple N0 ('0'^^^ae) ∅ ∅ U U)^^^ae)))<<<((@ce _ _ _ _ _ _ _ _ E7 U (fH U B.range ('2'^^^ae)) (am (i:=4) nd U (Or.inl U)) ((5∣(@aZ _ _ _ _ ae))<<<((@ce _ _ _ _ _ _ _ _ E7 U (bj '3') (am (i:=6) nd U (Or.inr U)) (@ah _ _ _ (@bL _ _ _ _ (@fX _ _ _ _ _ _ _ _ _ _ _ _ F8 PySem.F.slot_list_extend PySem.F.type_list_extend lB '5' ((aX (own:=["_law_bundle"]) (cs:=["_law_left"]) (cap:=[6]) U (bj '1') (az (sc:=defScope fu) (N:=Pp) U U ∅) (λ _ _ _ _ _=>am (i:=0) (by change List.Nodup (["_law_bundle","_law_left"]:No Str) ;decide +kernel) U (Or.inl U) (Or.inr U)) (λ _ _ _ _ _=>aK) (λ _ _ _ _ _=>(@aT _ _ _ _ _ _ _ _ _ (kS K U) U B.tuple N0 ((aX (own:=["_law_a","_law_b"]) (cs:=[]) (cap:=[]) U (gT U B.zip ('1'^^^('0'^^^ae))) (az (N:=["_law_bundle","_law_left"]) U U (by rfl)) (λ _ _ _ _ _=>cU K U U (by change List.Nodup (["_law_a","_law_b"]:No Str) ;decide +kernel) U U U U) (λ _ _ _ _ _=>aK) (λ _ _ _ _ _=>(@ap _ _ _ _ _ _ _ _ _ (iA U) U B.max PyProof.Rows.boot_max (ag^^^(('0'|||bU|||'1')^^^ae)) ∅ ∅ U U)))^^^ae) ∅ ∅ U U)))^^^ae) U U U U U) U)) (by intro _;rfl))>>>(3∣(@ap _ _ _ _ _ _ _ _ _ (kq U) U B.sorted PyProof.Rows.boot_sorted ((@aT _ _ _ _ _ _ _ _ _ (tM U hu10) U hset PyProof.Rows.boot_set ('5'^^^ae) ∅ ∅ U U)^^^ae) ∅ ∅ U U)))) (by intro _;rfl))<<<((@bd _ _ _ _ _ _ _ _ dj (@ap _ _ _ _ _ _ _ _ _ (iN U) U B.sum Od (('3'&&&bq&&&ag)^^^ae) ∅ ∅ U U) ag (ax _))⁻¹)))|?_];dsimp only[bW];have z4:40000<=sizeLine:=∅
 have bl:=E6 ba;have inb:∀{k:Nat}{x:Pz},x∈(lev bs ws k).map (·.1)->InB ws x:=λ {k x} h=>by obtain⟨r,hr,rfl⟩:=J5.mp h;exact(fE w0 bok k r hr).1
 have tS:∀{Ha Hb:Hp}{us:No (Pz×Nj)},Tps Ha Hb->TpI Ha us->TpI Hb us:=λ s h p m=>s _ _ (h p m);show ao (λ R=>∀(ll:Nj)(us:No (Pz×Nj))(H':Hp),H' ll=↥(us.map λ p=>V.ref p.2)->TpI H' us->us≠[]->us.length<=64->(∀u∈us,u.1∈(lev bs ws 0).map (·.1))->Same H H'->R [↑wl,↑gl,⇑(n:Int),↑ll,none,none,none] H') (λ Dd hR=>?_) ?_
 ·show%[_,U,wl,_,U|.inl %[G6 hwl|λ t ht=>?_]];show aF ht λ H1 k1 s1=>?_;show%[zS1|λ ll hll=>?_];show aF hll λ H2 k2 s2=>?_;show hR ll ([(ws,t)]) _ k2 (λ p m=>?_) (λ z=>by cases z) (by change 1<=64;decide) (λ u m=>?_) (s1.trans s2)
  ·rw[E5.mp m];exact s2 _ _ k1
  ·rw[E5.mp m];exact E5.mpr rfl
 rintro ll0 us0 H1 hll0 tp0 ne0 l0 in0 s1;show bI (λ σ' H'=>∃(ll:Nj)(us:No (Pz×Nj))(v4 v5 v6:Nm V),σ'=[↑wl,↑gl,⇑(n:Int),↑ll,v4,v5,v6]/\H' ll=↥(us.map λ p=>V.ref p.2)/\TpI H' us/\us≠[]/\us.length<=64/\(∀u∈us,u.1∈(lev bs ws n).map (·.1))/\Same H H') (λ R hR=>?_) ?_
 ·show%[_,U,n,U,⋯,⋯|?_];rw[MF];show ix (lo:=0) (λ k σ' H'=>∃(ll:Nj)(us:No (Pz×Nj))(v4 v5 v6:Nm V),σ'=[↑wl,↑gl,⇑(n:Int),↑ll,v4,v5,v6]/\H' ll=↥(us.map λ p=>V.ref p.2)/\TpI H' us/\us≠[]/\us.length<=64/\(∀u∈us,u.1∈(lev bs ws k).map (·.1))/\Same H H') %[ll0,us0,_,_,_,rfl,hll0,tp0,ne0,l0,in0|s1] ?_ (λ σ Hx h=>hR _ _ h);clear hll0 tp0 ne0 l0 in0 s1;intro k σ Hk hk hI9;show bX λ G9 k9=>?_;obtain⟨ll,us,v4,v5,v6,rfl,hll,tp,ne,lu,iu,sk⟩:=hI9;show k9 ?_;show ao (λ R=>∀(ml:Nj)(H':Hp),Hk ml=none->H' ml=↥[]->Same Hk H'->R [↑wl,↑gl,⇑(n:Int),↑ll,⇑(0+(k:Int)),↑ml,v6] H') (λ Dd hR=>?_) ?_
  ·show%[zS0|λ ml hml=>?_];show aF hml λ H2 k2 s2=>?_;exact hR ml _ hml k2 s2
  rintro ml H2 fm hm2 s2;show bI (λ σ' H'=>∃(v6:Nm V)(ms:No (Pz×Nj)),σ'=[↑wl,↑gl,⇑(n:Int),↑ll,⇑(0+(k:Int)),↑ml,v6]/\H' ml=↥(ms.map λ p=>V.ref p.2)/\TpI H' ms/\ms.length=us.length * bs.length/\(∀u∈ms,u.1∈(lev bs ws (k+1)).map (·.1))/\Sl ml H2 H') (λ R hR=>?_) ?_
  ·have nml:ll≠ml:=aj hll fm;have ngl:gl≠ml:=aj (sk _ _ hgl) fm;have ul:(us.map λ p=>V.ref p.2).length=us.length:=B5 _;show%[_,U,ll,U,%[_|G6 (s2 _ _ hll)]|cN (xs:=us.map λ p=>V.ref p.2) (λ i σ' H'=>∃(v6:Nm V)(ms:No (Pz×Nj)),σ'=[↑wl,↑gl,⇑(n:Int),↑ll,⇑(0+(k:Int)),↑ml,v6]/\H' ml=↥(ms.map λ p=>V.ref p.2)/\TpI H' ms/\ms.length=i * bs.length/\(∀u∈ms,u.1∈(lev bs ws (k+1)).map (·.1))/\Sl ml H2 H') %[v6,[],U,hm2,(λ _ m=>nomatch m),by simp,(λ _ m=>nomatch m)|je (Same.refl _)] (λ i σ Hx _ h9=>by obtain⟨_,_,_,_,_,_,_,sx⟩:=h9;exact G6 (sx.lst nml (s2 _ _ hll))) ?_ (λ σ Hx h=>by rw[ul]at h;exact hR _ _ h)];intro i x σ Hx hi hI9;show bX λ G9 k9=>?_;obtain⟨v6,ms,rfl,hmx,tpx,lx,inx,sx⟩:=hI9;show k9 ?_;rw[J0]at hi;obtain⟨u,hu',rfl⟩:=J8.mp hi;have um:=B7 hu';have il:=(A7.mp hu').1;have hua:Hx u.2= ~~~(bV u.1):=sx.tps _ _ (s2 _ _ (tp u um));have hgx:Hx gl=↥(as.map V.ref):=sx.lst ngl (s2 _ _ (sk _ _ hgl));have bax:BsA Hx as bs:=ba.keep λ a xs e=>sx.tps _ _ (s2 _ _ (sk _ _ e));have iu1:=inb (iu u um);show%[_,U,.inl %[U,_|G6 hmx]|?_];show%[_,U,gl,U,%[_|G6 hgx]|(bu (K:=K) (.inl hgx) (λ j vs Hy=>Same Hx Hy/\∃ns:No (Pz×Nj),vs=ns.map (λ p=>V.ref p.2)/\TpI Hy ns/\ns.map (·.1)=(bs.take j).map (aN u.1)) (λ j vs Hy _ ⟨sy,_⟩ o e=>sy _ _ e) %[Same.refl _,[],U,(λ _ m=>nomatch m)|U] ?_ ?_).1 hgx]
   ·rintro j y vs Hy hj ⟨sy,ns,rfl,tpn,en⟩;have hin:=(A7.mp hj).1;rw[J0]at hj;obtain⟨g,hg,rfl⟩:=J8.mp hj;obtain⟨c,hc,hgc⟩:=G8 bax hg;have nl:=OD List.length en;rw[B5,B5,K0]at nl;have h1:=sy _ _ hua;have h2:=sy _ _ hgc;have e1:u.1.length=c.length:=by rw[iu1.1,(bok c (B7 hc)).1]
    have l1:(bV u.1).length=u.1.length:=B5 _;have l2:(bV c).length=c.length:=B5 _;have jl:=bo e1;have u8:u.1.length<=8:=by rw[iu1.1];exact w8
    show%[by rw[B5];lia,leS.set rfl|aL ?_];show%[_,U,_,U,u.2,g,_,_,U,h1,h2|eL (xs:=bV u.1) (ys:=bV c) (λ i us Hz=>Same Hy Hz/\us=((aN u.1 c).take i).map V.int) ⋯ (λ i us Hz ⟨sz,_⟩=>%[sz _ _ h1|sz _ _ h2]) %[Same.refl _|U] (λ i us Hz hi ⟨_,e⟩=>by rw[e,B5,K0];lia) ?_ ?_]
    ·rintro e x y p vs Hz hx hy hp ⟨sz,rfl⟩;have hin2:e < (bV u.1).length:=(A7.mp hx).1;obtain⟨x',hx',rfl⟩:=J8.mp (show Option.map V.int u.1[e]?=some x by rw[<- J0];exact hx);obtain⟨y',hy',rfl⟩:=J8.mp (show Option.map V.int c[e]?=some y by rw[<- J0];exact hy);have ji:=fB hx' hy';have s9:=G4 hp (o:=.tup [.int x',.int y']);show%[p,_,U,G5 ai,U,_,_,U,_,_,U,U,gY (leS.set rfl) (leS.set rfl)|aL ?_];show%[_,U,_,U,_,_,U,U,_,_,U|Nx.of hin2 %[sz.trans s9|?_]];rw[K6,ji,show(if 0 < x' - y' then x' - y' else 0)=max 0 (x' - y')by split <;> lia];simp only[K9,J4,J6,MY]
    ·rintro vs Hz ⟨sz,rfl⟩;rw[l1,K5 ⋯];show%[by rw[B5];lia|λ cl hcl=>?_];show aF hcl λ H4 k4 s4=>?_;show%[cl,_,U|.inl %[G6 k4|λ t ht=>?_]];show aF ht λ H5 k5 s5=>?_;have s45:=(sz.trans s4).trans s5;have e9:ns.map (λ p=>V.ref p.2) ++ [V.ref t]=(ns ++ [(aN u.1 c,t)]).map (λ p=>V.ref p.2):=by rw[J4];rfl
     show Nx.of hin %[sy.trans s45,ns ++ [(aN u.1 c,t)],e9,λ p m=>?_|?_]
     ·rcases C4.mp m with m | m
      ·exact s45 _ _ (tpn p m)
      ·rw[E5.mp m];exact k5
     ·rw[J4,en,K6,hc,K9,J4]
      rfl
   ·rintro vs Hy ⟨sy,ns,rfl,tpn,en⟩;rw[B5,bl,MG]at en;have nl:=OD List.length en;rw[B5,B5]at nl;show%[by rw[B5];lia|λ nl' hnl=>?_];show aF hnl λ H4 k4 s4=>?_;have s24:=sy.trans s4;have mb:ms.length<=4096:=by rw[lx];have:i * bs.length<=64 * 64:=Nb ⋯ b64;lia
    show%[ml,nl',_,_,U,U,s24 _ _ hmx,k4,by rw[B5,B5];lia|?_];rw[<- J4];have tk:Tps Hx (upd H4 ml (.lst ((ms ++ ns).map λ p=>V.ref p.2))):=λ b xs e=>by rw[ak (λ z=>by rw[z,hmx]at e;cases e)];exact s24 _ _ e
    have tk4:Tps H4 (upd H4 ml (.lst ((ms ++ ns).map λ p=>V.ref p.2))):=λ b xs e=>by rw[ak (λ z=>by rw[z,s24 _ _ hmx]at e;cases e)];exact e
    show%[_,ms ++ ns,U,ai,λ p m=>?_,?_,λ p m=>?_|λ b o e=>?_]
    ·rcases C4.mp m with m | m
     ·exact tk _ _ (tpx p m)
     ·exact tk4 _ _ (s4 _ _ (tpn p m))
    ·rw[K4,lx,nl,Nat.succ_mul]
    ·rcases C4.mp m with m | m
     ·exact inx p m
     ·have:p.1∈ns.map (·.1):=J5.mpr %[p,m|U];rw[en]at this;obtain⟨c,hc,e⟩:=J5.mp this;exact lev_next.mpr %[u.1,iu u um,c,hc|e.symm]
    ·rcases sx b o e with z | ⟨rfl,xs,ys,rfl,z⟩
     ·by_cases y:b=ml
      ·subst y;rw[hmx]at z;cases z;exact .inr %[U,_,_,U|ai]
      ·exact .inl (by rw[ak y];exact s24 _ _ z)
     ·exact .inr %[U,_,_,U|ai]
  intro _ H3 hI9;show bX λ G9 k9=>?_;obtain⟨v6',ms,rfl,hm3,tp3,l3,in3,s3⟩:=hI9;show k9 ?_;have s03:Same Hk H3:=λ b o e=>s3.lst (aj e fm) (s2 _ _ e);show%[_,U|%[ml,ms,U,hm3,tp3,λ m nd hm=>InB.few w0 w6 nd λ b hb=>?_|λ p ys hp sub nd cov=>?_]]
  ·obtain⟨y,hy,rfl⟩:=J5.mp (hm b hb);exact inb (in3 y hy)
  show aF hp λ H4 k4 s4=>?_;have yl:ys.length<=64:=by
   have:=InB.few w0 w6 nd λ b hb=>by obtain⟨y,hy,rfl⟩:=J5.mp hb;exact inb (in3 y (sub y hy))
   rw[B5]at this;exact this
  have tp4:TpI H4 ys:=λ y m=>s4 _ _ (tp3 y (sub y m));show%[p,ys,ws.length,U,k4,tp4,⋯,w1,λ y m=>(inb (in3 y (sub y m))).1|λ l zs hl pm=>?_];show aF hl λ H5 k5 s5=>?_;have mem:∀z∈zs,z∈ms:=λ z m=>sub z (pm.mem_iff.mp m);show%[l,zs,_,_,_,U,k5,λ z m=>s5 _ _ (tp4 z (pm.mem_iff.mp m)),λ z=>?_,by rw[pm.length_eq];exact yl,λ z m=>in3 z (mem z m)|((sk.trans s03).trans s4).trans s5];subst z;have:0 < ms.length:=by rw[l3];exact Nat.mul_pos (List.length_pos_iff.mpr ne) (List.length_pos_iff.mpr bn)
  obtain⟨y,hy,_⟩:=cov _ (M8 this);have:=pm.mem_iff.mpr hy;cases this
 intro _ H2 hI9;show bX λ G9 k9=>?_;obtain⟨ll,us,v4,v5,v6,rfl,hll,tp,ne,lu,iu,s2⟩:=hI9;show k9 ?_;obtain⟨u,us',rfl⟩:=List.exists_cons_of_ne_nil ne;have um:u∈u :: us':=B9;show%[_,U,ll,_,_,_,U,U,G6 hll,cY (E8 _) rfl,u.2,u.1,U,G5 (tp u um),U|?_];have nz:u.1.sum≠0:=λ z=>by
  have i1:=iu u um;have i2:=inb i1;have e:u.1=aG ws.length:=by rw[xA i2.2.2 z,i2.1]
  rw[e]at i1;unfold hit at hf;exact Op hf i1
 rw[show decide (V.int u.1.sum=V.int 0)=false from N3 λ z=>nz (by injection z)];exact q _ s2
theorem uu{C x dx:Nj}{H:Hp}(hx:H x=none)(hd:H dx=none):Same H (upd (upd H dx (.own x)) x (.ins C dx [])):=λ c o e=>by rw[ak (aj e hx),ak (aj e hd)];exact e
mutual
noncomputable def wt:PyData->Nat
 | .str z=>z.length+1
 | .list ds=>wts ds+1
 | .tuple ds=>wts ds+1
 | _=>1
noncomputable def wts:No PyData->Nat
 | []=>0
 | d :: r=>wt d+wts r
end
def Sm(i:Int):Prop:=0<=i/\i < 10 ^ 61
mutual
inductive Fit:PyData->Prop
 | bool (b:Bool):Fit (.bool b)
 | int {i:Int}:Sm i->Fit (.int i)
 | str {z:Str}:(PyData.str z).showable=true->(PyData.str z).shown.length<=90->Fit (.str z)
 | list {ds:No PyData}:Fits ds->Fit (.list ds)
 | tuple {ds:No PyData}:Fits ds->Fit (.tuple ds)
inductive Fits:No PyData->Prop
 | nil:Fits []
 | cons {d:PyData} {ds:No PyData}:Fit d->Fits ds->Fits (d :: ds)
end
mutual
theorem Fit.sh:∀{d:PyData},Fit d->d.showable=true/\d.hasDict=false/\d.shown.length+2<=100 * wt d
 | _,.bool b=>by cases b <;> exact%[∅,∅|∅]
 | _,.int (i:=i) ⟨h0,h1⟩=>by
  have hs:Short i:=by
   have:(10:Int) ^ 61 < 10 ^ 62:=∅
   have e:((10 ^ 62:Nat):Int)=10 ^ 62:=∅
   unfold Short;lia
  have:=hs.len;exact%[by simp[PyData.showable,hs.log],by simp[PyData.hasDict]|by change _<=100 * 1;lia]
 | _,.str (z:=z) h1 h2=>⟨h1,by simp[PyData.hasDict],by
  change _<=100 * (z.length+1);lia⟩
 | _,.list (ds:=ds) h=>by obtain⟨h1,h2,h3,h4⟩:=h.sh;have:=listText_len_le (PyData.shownAll ds);show%[by simp only[PyData.showable,h1],by simp only[PyData.hasDict,h2]|?_];change(PyData.list ds).shown.length+2<=100 * (wts ds+1);simp only[PyData.shown];lia
 | _,.tuple (ds:=ds) h=>by obtain⟨h1,h2,h3,h4⟩:=h.sh;have:=tupleText_len_le (PyData.shownAll ds);show%[by simp only[PyData.showable,h1],by simp only[PyData.hasDict,h2]|?_];change(PyData.tuple ds).shown.length+2<=100 * (wts ds+1);simp only[PyData.shown];lia
theorem Fits.sh:∀{ds:No PyData},Fits ds->PyData.showableAll ds=true/\PyData.hasDictAll ds=false/\((PyData.shownAll ds).map (·.length)).sum+2 * ds.length<=100 * wts ds/\(PyData.shownAll ds).length=ds.length
 | _,.nil=>%[U,U,B4 _|U]
 | _,.cons (d:=d) (ds:=ds) a r=>by obtain⟨d1,d2,d3⟩:=a.sh;obtain⟨e1,e2,e3,e4⟩:=r.sh;show%[by simp only[PyData.showableAll,d1,e1,Bool.and_self],by simp only[PyData.hasDictAll,d2,e2,Bool.or_self],?_|by simp only[PyData.shownAll,K3];lia];change _<=100 * (wt d+wts ds);simp only[PyData.shownAll,J6,MQ,K3];lia
end
theorem Fit.ok{d:PyData}(h:Fit d)(z:wt d<=100000):d.showable=true/\d.hasDict=false/\d.shown.length<=sizeLine:=by
 obtain⟨h1,h2,h3⟩:=h.sh;have:(10000000:Nat)<=sizeLine:=∅
 exact%[h1,h2|⋯]
theorem Cm{K:C6}{H:Hp}{us:No V}{ts:No Tr}(h:Paired (λ v t=>TrV H t v) us ts):DatVs K H us (ts.map toD):=by
 induction h with
 | nil=>exact .nil
 | cons a _ ih=>exact .cons (TrV.dat _ a) ih
theorem sm8{x:Int}(x0:0<=x)(x8:x<=8):Sm x:=%[x0|Int.lt_of_le_of_lt x8 ∅]
theorem qG{b:Int}{ks:No Kd}(b0:0<=b)(k8:ks.length<=8):∀(t:Tr)(p:Int×Int),TrO b ks t p->1<=p.1->p.1<=8->1<=p.2->p.2<=8->Fit (toD t)/\wt (toD t)<=20 * siz t
 | .rest,_,_,_,_,_,_=>%[.tuple (.cons (.str ∅ ∅) .nil)|∅]
 | .piece i c x y,p,⟨h1,h2,k,hk,_⟩,_,_,_,_=>by subst h1 h2;have:=(A7.mp hk).1;exact%[.tuple (.cons (.str ∅ ∅) (.cons (.int (sm8 ⋯ ⋯)) (.cons (.bool c) (.cons (.int (sm8 ∅ ∅)) (.cons (.int (sm8 ∅ ∅)) .nil)))))|by change(5+1)+(1+(1+(1+(1+0))))+1<=20 * 1;decide]
 | .cut dn q l r,p,⟨cm,h1,h2⟩,p1,p2,p3,p4=>by
  obtain⟨c1,c2⟩:=iP cm;obtain⟨⟨a1,a2,a3,a4,_⟩,⟨d1,d2,d3,d4,_⟩⟩:=er b0 p1 p3 cm;obtain⟨f1,g1⟩:=qG b0 k8 l _ h1 a1 ⋯ a2 ⋯;obtain⟨f2,g2⟩:=qG b0 k8 r _ h2 d1 ⋯ d2 ⋯;have q1:1<=q:=c1;have q8:q<=8:=by
   cases dn with
   | true=>have:q+b < p.1:=c2;lia
   | false=>have:q+b < p.2:=c2;lia
  show⟨.tuple (.cons (.str (by cases dn <;> decide +kernel) (by cases dn <;> decide +kernel)) (.cons (.int (sm8 ⋯ q8)) (.cons f1 (.cons f2 .nil)))),?_⟩;change(Str.length (if dn=true then "down" else "across")+1)+(1+(wt (toD l)+(wt (toD r)+0)))+1<=20 * (siz l+siz r+1);have:Str.length (if dn=true then "down" else "across")<=6:=by cases dn <;> decide +kernel
  lia
theorem xQ{b:Int}{ks:No Kd}{m n:Nat}(gd:fA b ks)(m1:1<=m)(m8:m<=8)(n1:1<=n)(n8:n<=8)(aw:awF ks (m,n)=true){i:Nat}{t:Tr}(h:(dQ b ks (m,n) (wsK ks) (cM b ks (m,n)))[i]?=some t) :
  TrO b ks t (m,n)/\dpt t<=17/\siz t<=205/\(cV (wsK ks) ((cM b ks (m,n)).take i)).length=ks.length/\List.zipWith (· - ·) (cV (wsK ks) ((cM b ks (m,n)).take i)) (ip ks.length t)=cV (wsK ks) ((cM b ks (m,n)).take (i+1)):=by
 have wl:(wsK ks).length=ks.length:=B5 _;have gd0:=gd;obtain⟨b0,k1,k8,kw,w6⟩:=gd;have p1:1<=((m:Int),(n:Int)).1:=by change(1:Int)<=m;lia
 have p2:1<=((m:Int),(n:Int)).2:=by change(1:Int)<=n;lia
 obtain⟨_,gm,_⟩:=jC gd0 p1 p2 aw;generalize cM b ks (m,n)=gs at h gm ⊢;have il:i < gs.length:=by have:=(A7.mp h).1;rw[eC]at this;exact this
 have hg:=F4 il;generalize gs[i]=g at hg;obtain⟨e1,e2⟩:=sj (b:=b) (ks:=ks) (p:=((m:Int),(n:Int))) (ms:=wsK ks) hg;rw[e1]at h;cases h;have mg:=gm g (B7 hg);have gi:=bD kw mg;obtain⟨x1,x2⟩:=si (n:=ks.length) (gs:=gs.take i) (ms:=wsK ks) wl (ws0 kw) λ c hc=>%[by rw[(bD kw (gm c (NF hc))).1,wl]|(bD kw (gm c (NF hc))).2.2]
 generalize cV (wsK ks) (gs.take i)=ms at x1 x2 e2 ⊢;have eg:ms.length=g.length:=by rw[x1,gi.1,wl]
 have cl:(aM ms g).length=ks.length:=by rw[bC eg,x1]
 have cn:=ii eg x2 gi.2.2;have le:=ij eg;obtain⟨t1,t2,t3,t4⟩:=xN b0 kw 17 (m,n) g (aM ms g) p1 p2 mg cl cn le (by unfold msr;change((m:Int)+n).toNat < 17;lia);have s6:=(kG (by rw[cl,gi.1,wl]) le).1;have:=gi.sum;show%[t1,t3,⋯,x1|?_];rw[t2,oW eg,e2]
def uv(b:Int)(ks:No Kd)(p:Int×Int):PyData:=.tuple [.int (cM b ks p).length,.list ((dQ b ks p (wsK ks) (cM b ks p)).map toD)]
theorem xR{b:Int}{ks:No Kd}{m n:Nat}(gd:fA b ks)(m1:1<=m)(m8:m<=8)(n1:1<=n)(n8:n<=8)(aw:awF ks (m,n)=true):(uv b ks (m,n)).showable=true/\(uv b ks (m,n)).hasDict=false/\(uv b ks (m,n)).depth<=64/\(uv b ks (m,n)).shown.length<=sizeLine:=by
 have p1:1<=((m:Int),(n:Int)).1:=by change(1:Int)<=m;lia
 have p2:1<=((m:Int),(n:Int)).2:=by change(1:Int)<=n;lia
 obtain⟨f1,_⟩:=jC gd p1 p2 aw;obtain⟨f6,_⟩:=kQ gd p1 p2 aw;have al:∀t∈dQ b ks (m,n) (wsK ks) (cM b ks (m,n)),Fit (toD t)/\wt (toD t)<=4100/\(toD t).depth<=18:=λ t ht=>by obtain⟨i,hi⟩:=MJ.mp ht;obtain⟨a1,a2,a3,_⟩:=xQ gd m1 m8 n1 n8 aw hi;obtain⟨g1,g2⟩:=qG gd.1 gd.2.2.1 t _ a1 p1 (by change(m:Int)<=8;lia) p2 (by change(n:Int)<=8;lia);have:=eB t;exact%[g1,⋯|⋯]
 have ll:(dQ b ks (m,n) (wsK ks) (cM b ks (m,n))).length<=6:=by rw[eC];lia
 have all:∀ts:No Tr,(∀t∈ts,Fit (toD t)/\wt (toD t)<=4100/\(toD t).depth<=18)->Fits (ts.map toD)/\wts (ts.map toD)<=4100 * ts.length/\PyData.depthAll (ts.map toD)<=18:=λ ts=>by
  induction ts with
  | nil=>intro _;exact%[.nil,B4 _|F1 _]
  | cons t ts ih=>
   intro h;obtain⟨i1,i2,i3⟩:=ih λ x hx=>h x (B6 _ hx);obtain⟨t1,t2,t3⟩:=h t B9;show%[.cons t1 i1,?_|?_]
   ·change wt (toD t)+wts (ts.map toD)<=_;rw[K3];lia
   ·rw[J6,PyData.depthAll];lia
 obtain⟨h1,h2,h3⟩:=all _ al;unfold uv;have n6:(((cM b ks (m,n)).length:Nat):Int)<=8:=⋯
 obtain⟨a1,a2,a3⟩:=Fit.ok (.tuple (.cons (.int (sm8 (Int.natCast_nonneg (cM b ks (m,n)).length) n6)) (.cons (.list h1) .nil))) (by change 1+((wts _+1)+0)+1<=100000;lia);show%[a1,a2,?_|a3];simp only[PyData.depth,PyData.depthAll];lia
def mh:Sp:=λ vs H Q _=>∃(p:Nj),vs=[.ref p]/\PotB H p/\∀H',But p H H'->Q (.bl true) H'
def sr(K:C6):Sp:=λ vs H Q _=>∃(a:Nj)(ns:Pz),vs=[.ref a]/\SqL K H a (ns.map V.int)/\ns.length<=63/\∀H',Q (.bl true) H'
theorem scright:FnScope Pr Pg (defScope fw):=%[U,U,U,∅,U,∅|∅]
theorem xS{f:Nj}{fd:G1}(F:Fun K "_law_right" "_law_right" fw f fd){C:Nj}(B:Blt mg)(han:mg "any" = none)(DD:Dn P w K mg base "_law_draw" Pb 1 (fM))(DSK:Dn P w K mg base "_law_shop_kinds" Ph 3 (rZ))(DSB:Dn P w K mg base "_law_small_blade" Pg 2 (oS))(DAK:Dn P w K mg base "_law_alike" Pj 2 (sd))(DGB:Dn P w K mg base "greatest_bundles" O8 8 (oJ C))(DFO:Dn P w K mg base "fewest_of" O8 20 (xF C))(DFT:Dn P w K mg base "_law_fits" Pe 2 (rY))(DWH:Dn P w K mg base "_law_whole" Pk 1 (so))(DCT:Dn P w K mg base "_law_counts" Po 3 (Ci))(DDF:Dn P w K mg base "_law_do_fewer" Pq 1 (Af))(DSh:Kn P w K mg base "Shop" C Oz 3 (pW C)):FnOk P w K mg base CX0 21 f fd Pg (mh):=by
 exists scright;obtain⟨p,rfl,pt,q⟩:=h;have hu:=hr.units;have hu1:=C8 (Mm (show 1<=64 by decide) _) hu;have hu6:=hr.units66;have hg:=hr.gd;show%[_,((1∣(@aZ _ _ _ _ ((ag|||be|||(DD∩('0'^^^(ag^^^ae))))^^^((ag|||be|||(DD∩('0'^^^(ag^^^ae))))^^^ae))))<<<((((DD∩('0'^^^(ag^^^ae)))<*>dj<*>ag)<|>(@ah _ _ _ (1∣(@aZ _ _ _ _ ((ag|||be|||(DD∩('0'^^^(ag^^^ae))))^^^((ag|||be|||(DD∩('0'^^^(ag^^^ae))))^^^ae)))))<|>ay)<<<((@cR _ _ _ _ _ _ '1' (vS U (au (am (i:=2) nd U (Or.inr U)) (au (am (i:=3) nd U (Or.inr U)) bi))) U U U)<<<((4∣(DSK∩('0'^^^('2'^^^('3'^^^(((@aZ _ _ _ _ (ag^^^(ag^^^(ag^^^(ag^^^(ag^^^ae))))))&&&bq&&&(DD∩('0'^^^(ag^^^ae))))^^^ae))))))<<<((5∣(DSB∩('0'^^^ae)))<<<((4∣(DAK∩('0'^^^('4'^^^ae))))<<<((6∣(BO DSh (hr.mono ∅) U ('5'^^^('4'^^^ae))))<<<((7∣(DFO∪('6'^^^('2'^^^('3'^^^ae)))))<<<(((@aR _ _ _ (@ap _ _ _ _ _ _ _ _ _ (fN U) U han PyProof.Rows.boot_any ((aX (own:=Pd) (cs:=["_law_wide","_law_high"]) (cap:=[2,3]) U (bj '4') (az (sc:=defScope fw) (N:=Pr) U U ∅) (λ _ _ _ _ _=>am (i:=0) (by change List.Nodup (Pe:No Str) ;decide +kernel) U (Or.inl U) (Or.inr U)) (λ _ _ _ _ _=>aK) (λ _ _ _ _ _=>(di (@bd _ _ _ _ _ _ _ _ gH (aB (r:=rIxT K) aD '0' ag (λ _ _=>U)) ag (ax _)) (dO (mx (DFT∩('0'^^^('1'^^^('2'^^^ae)))))))))^^^ae) ∅ ∅ U U) (by intro _;rfl))<|>((@bd _ _ _ _ _ _ _ _ pF '7' dh (ax _))⁻¹)<|>ay)<<<(((PW.pt (cj (@aY _ _ _ _ (@aR _ _ _ (@ap _ _ _ _ _ _ _ _ _ br U B.isi N4 ('7'^^^((cw (v:=.ty "tuple") U B.tuple N0 U)^^^ae)) ∅ ∅ U U) (by intro _;rfl))) (cj ((@ap _ _ _ _ _ _ _ _ _ aI U B.len N6 ('7'^^^ae) ∅ ∅ U U)<*>fW<*>ag) (bT (@aY _ _ _ _ (@aR _ _ _ (@ap _ _ _ _ _ _ _ _ _ br U B.isi N4 (('7'&&&aD&&&ag)^^^((cw (v:=.ty "list") U B.list Ob U)^^^ae)) ∅ ∅ U U) (by intro _;rfl)))))))<|>(dR⁻¹)<|>ay)<<<(((PW.pt (cj (@aY _ _ _ _ (@aR _ _ _ (DWH∩(('7'&&&aD&&&ag)^^^(ag^^^ae))) (by intro _;rfl))) (bT ((@ap _ _ _ _ _ _ _ _ _ aI U B.len N6 (('7'&&&aD&&&ag)^^^ae) ∅ ∅ U U)<*>fW<*>('7'&&&aD&&&ag)))))<|>(dR⁻¹)<|>ay)<<<((fJ (i:=8) (own:=Pd) (cs:=[]) (cap:=[]) U nd U U U (bj '4') (az (sc:=defScope fw) (N:=Pr) U U ∅) (λ _ _ _ _ _=>am (i:=0) (by change List.Nodup (Pd:No Str) ;decide +kernel) U (Or.inl U) (Or.inr U)) (λ _ _ _ _ _=>aK) (λ _ _ _ _ _=>(aB (r:=rIxT K) aD '0' ag (λ _ _=>U))))<<<((9∣(@aT _ _ _ _ _ _ _ _ _ mG U B.list Ob ('8'^^^ae) ∅ ∅ U U))<<<((@ce _ _ _ _ _ _ _ _ E7 U (bj ('7'&&&aD&&&ag)) (am (i:=10) nd U (Or.inl U)) ((11∣(DCT∩(':'^^^('5'^^^('4'^^^('2'^^^('3'^^^ae)))))))<<<(((';'<*>pF<*>dh)<|>(dR⁻¹)<|>ay)>>>(fJ (i:=9) (own:=["_law_many","_law_more"]) (cs:=[]) (cap:=[]) U nd U U U (Az U B.zip ('9'^^^(';'^^^ae))) (az (sc:=defScope fw) (N:=Pr) U U ∅) (λ _ _ _ _ _=>cU K U U (by change List.Nodup (["_law_many","_law_more"]:No Str) ;decide +kernel) U U U U) (λ _ _ _ _ _=>aK) (λ _ _ _ _ _=>('0'|||bU|||'1'))))) (by intro _;rfl))<<<(((PW.pt (cj (@aR _ _ _ (@ap _ _ _ _ _ _ _ _ _ (fN U) U han PyProof.Rows.boot_any ((aX (own:=["_law_many"]) (cs:=[]) (cap:=[]) U (bj '9') (az (sc:=defScope fw) (N:=Pr) U U ∅) (λ _ _ _ _ _=>am (i:=0) (by change List.Nodup (["_law_many"]:No Str) ;decide +kernel) U (Or.inl U) (Or.inr U)) (λ _ _ _ _ _=>aK) (λ _ _ _ _ _=>(@bd _ _ _ _ _ _ _ _ fW '0' ag (ax _))))^^^ae) ∅ ∅ U U) (by intro _;rfl)) (bT ((@bd _ _ _ _ _ _ _ _ dj ('7'&&&aD&&&ag) ag (ax _))<*>fW<*>(@bd _ _ _ _ _ _ _ _ dj (@ap _ _ _ _ _ _ _ _ _ (lI U) U B.sum Od ('8'^^^ae) ∅ ∅ U U) ag (ax _))))))<|>(dR⁻¹)<|>ay)<<<((12∣(dC hu1 (DGB∩('6'^^^('2'^^^('3'^^^ae)))) (@aJ _ _ _ _ _ ('2'^^^('3'^^^ae))) (λ _ _=>U)))<<<(((PW.pt (mv (('7'&&&aD&&&ag)<*>gH<*>ag) (js (@aR _ _ _ (DDF∩('8'^^^('<'^^^((('7'&&&aD&&&ag)|||bU|||ag)^^^ae)))) (by intro _;rfl)))))<|>(dR⁻¹)<|>ay)<<<((13∣(@ap _ _ _ _ _ _ _ _ _ (lJ hg hu6) U B.repr PyProof.Rows.boot_repr ('7'^^^ae) ∅ ∅ U U))<<<((@bL _ _ _ _ (@fX _ _ _ _ _ _ _ _ _ _ _ _ F8 PySem.F.slot_list_append PySem.F.type_list_append dS ('7'&&&aD&&&ag) ((@aJ _ _ _ _ _ (gc^^^ae))^^^ae) U U U U U) U)<<<((@bd _ _ _ _ _ _ _ _ dj (@ap _ _ _ _ _ _ _ _ _ (lJ hg hu6) U B.repr PyProof.Rows.boot_repr ((DFO∪('6'^^^('2'^^^('3'^^^ae))))^^^ae) ∅ ∅ U U) '=' (ax _))⁻¹))))))))))))))))))))|?_]
 dsimp only[bW];have z4:100000<=sizeLine:=∅
 have e60:(10:Int) < 10 ^ 60:=∅
 show ao (λ R=>∀(sl:Nj)(x y:Int)(H':Hp),sl≠p->H' sl=↥[.int x,.int y]->1<=x->x<=8->1<=y->y<=8->PotB H' p->But p H H'->R [↑p,↑sl,none,none,none,none,none,none,none,none,none,none,none,none] H') (λ Dd hR=>?_) ?_
 ·show%[_,U,p,5,U,pt,∅,∅|λ y1 Ha y10 y11 pa ba=>%[_,_,U,U,_,U,p,5,U,pa,∅,∅|λ y2 Hb y20 y21 pb bb=>%[_,_,U,U,zS2|λ sl hsl=>?_]]];show aF hsl λ H1 k1 s1=>?_;exact hR sl _ _ _ (λ e=>by obtain⟨_,_,_,_,_,h⟩:=pb;rw[<- e,hsl]at h;cases h) k1 ⋯ ⋯ ⋯ ⋯ (pb.same s1) (λ c o nn e=>s1 _ _ (bb _ _ nn (ba _ _ nn e)))
 rintro sl x y H1 nsp hsl x1 x8 y1 y8 pt1 b1;show ao (λ R=>∀(sl:Nj)(x y:Int)(H':Hp),sl≠p->H' sl=↥[.int x,.int y]->1<=x->x<=8->1<=y->y<=8->PotB H' p->But p H H'->R [↑p,↑sl,none,none,none,none,none,none,none,none,none,none,none,none] H') (λ Dd hR=>?_) ?_
 ·show%[_,U,p,16,U,pt1,∅,∅|λ z H2 z0 z1 pt2 b2=>%[U,_,U|?_]];show cx (λ cc=>?_) (λ cc=>hR sl x y _ nsp (b2 _ _ nsp hsl) x1 x8 y1 y8 pt2 (λ c o nn e=>b2 _ _ nn (b1 _ _ nn e)));show%[_,U,p,8,U,pt2,∅,∅|λ y1 Ha y10 y11 pa ba=>%[_,_,U,U,_,U,p,8,U,pa,∅,∅|λ y2 Hb y20 y21 pb bb=>%[_,_,U,U,zS2|λ sl hsl=>?_]]];show aF hsl λ H3 k3 s3=>?_;exact hR sl _ _ _ (λ e=>by obtain⟨_,_,_,_,_,h⟩:=pb;rw[<- e,hsl]at h;cases h) k3 ⋯ ⋯ ⋯ ⋯ (pb.same s3) (λ c o nn e=>s3 _ _ (bb _ _ nn (ba _ _ nn (b2 _ _ nn (b1 _ _ nn e)))))
 rintro sl x y H2 nsp hsl x1 x8 y1 y8 pt2 b2;obtain⟨m,rfl⟩:∃m:Nat,x=m:=%[x.toNat|(Int.toNat_of_nonneg ⋯).symm]
 obtain⟨n,rfl⟩:∃n:Nat,y=n:=%[y.toNat|(Int.toNat_of_nonneg ⋯).symm]
 show ao (λ R=>R [↑p,↑sl,⇑(m:Int),⇑(n:Int),none,none,none,none,none,none,none,none,none,none] H2) (λ Dd hR=>?_) ?_
 ·exact%[_,U,sl,_,U,.inl (G6 hsl),U,_,_,U,_,_,U,U|hR]
 skip
 show ao (λ R=>∀(kl:Nj)(rs:No V)(ks:No Kd)(H':Hp),kl≠p->H' kl=↥rs->Tups H' rs ks->gE ks->1<=ks.length->ks.length<=8->PotB H' p->But p H H'->R [↑p,↑sl,⇑(m:Int),⇑(n:Int),↑kl,none,none,none,none,none,none,none,none,none] H') (λ Dd hR=>?_) ?_
 ·show%[_,U,_,U,_,U,zS5|λ l hl=>?_];show aF hl λ H3 k3 s3=>?_;show%[_,U,p,5,U,pt2.same s3,∅,∅|λ z H4 z0 z1 pt4 b4=>?_];have nl:l≠p:=(λ e=>by obtain⟨_,_,_,_,_,h⟩:=pt2;rw[<- e,hl]at h;cases h)
  have k4:=b4 _ _ nl k3;obtain⟨v,hv,v1,v8⟩:∃v:Nat,([.int 1,.int 2,.int 3,.int 4,.int 8]:No V)[z.toNat]? = ⇑(v:Int)/\1<=v/\v<=8:=by
   have:z=0\/z=1\/z=2\/z=3\/z=4:=⋯
   rcases this with rfl | rfl | rfl | rfl | rfl
   ·exact%[1,U,∅|∅]
   ·exact%[2,U,∅|∅]
   ·exact%[3,U,∅|∅]
   ·exact%[4,U,∅|∅]
   ·exact%[8,U,∅|∅]
  show%[l,_,z,_,U,U,G6 k4,cY z0 hv,p,m,n,v,U,pt4,x1,x8,y1,y8,v8|λ kl rs ks H5 nkp hn hkl tp gw kl' pt5 b5=>hR kl rs ks _ nkp hkl tp gw ⋯ ⋯ pt5 (λ c o nn e=>b5 _ _ nn (b4 _ _ nn (s3 _ _ (b2 _ _ nn e))))]
 rintro kl rs ks H3 nkp hkl tp gw kl1 kl8 pt3 b3;have tpk:∀{Ha Hb:Hp}{c:Nj}{xs:No V},PotB Ha p->But p Ha Hb->Ha c= ~~~xs->Hb c= ~~~xs:=λ {Ha Hb c xs} pa bb e=>bb _ _ (λ z=>by obtain⟨_,_,_,_,_,h⟩:=pa;rw[z,h]at e;cases e) e;show ao (λ R=>∀(b:Int)(H':Hp),0<=b->b < 10 ^ 60->H' kl=↥rs->Tups H' rs ks->PotB H' p->But p H H'->R [↑p,↑sl,⇑(m:Int),⇑(n:Int),↑kl,⇑b,none,none,none,none,none,none,none,none] H') (λ Dd hR=>?_) ?_
 ·exact%[_,U,p,U,pt3|λ b H4 b0 b60 pt4 b4=>hR b _ b0 b60 (b4 _ _ nkp hkl) (Tups.keep (λ c xs e=>tpk pt3 b4 e) tp) pt4 (λ c o nn e=>b4 _ _ nn (b3 _ _ nn e))]
 rintro b H4 b0 b60 hkl4 tp4 pt4 b4;show ao (λ R=>∀(kl:Nj)(rs:No V)(ks:No Kd)(H':Hp),kl≠p->H' kl=↥rs->Tups H' rs ks->gE ks->1<=ks.length->ks.length<=8->PotB H' p->But p H H'->R [↑p,↑sl,⇑(m:Int),⇑(n:Int),↑kl,⇑b,none,none,none,none,none,none,none,none] H') (λ Dd hR=>?_) ?_
 ·exact%[_,U,_,U,p,kl,rs,ks,U,pt4,nkp,hkl4,tp4,gw,kl8|λ kl' rs' ks' H5 a1 a2 a3 a4 a5 a6 a7=>hR kl' rs' ks' _ a1 a2 a3 a4 ⋯ ⋯ a6 (λ c o nn e=>a7 _ _ nn (b4 _ _ nn e))]
 clear hkl tp gw kl1 kl8 hkl4 tp4 nkp;rintro kl rs ks H5 nkp hkl tp ⟨gk,w6⟩ kl1 kl8 pt5 b5;have rl:=E6 tp;show ao (λ R=>∀(sh:Nj)(H':Hp),ShopAt C H' sh b ks->Same H5 H'->R [↑p,↑sl,⇑(m:Int),⇑(n:Int),↑kl,⇑b,↑sh,none,none,none,none,none,none,none] H') (λ Dd hR=>?_) ?_
 ·show%[_,U,_,U|?_];refineλ x dx hx hdx ne0=>?_;have sm:Same H5 (upd (upd H5 dx (.own x)) x (.ins C dx [])):=uu hx hdx;show%[x,dx,kl,b,rs,ks,U,ai,b0,.inl (sm _ _ hkl),G7 (Tups.keep (λ c xs e=>sm _ _ e) tp) (λ v k h=>.inl h),gk,⋯,⋯|λ Hb Sb kb=>%[U|?_]];exact hR x _ Sb (λ c o e=>kb c o (aj e hx) (sm _ _ e))
 rintro sh H6 S6 s6;have good:fA b ks:=%[b0,kl1,kl8,λ k h=>(gk k h).wa|w6]
 have m1:1<=m:=⋯
 have n1:1<=n:=⋯
 have m8:m<=8:=⋯
 have n8:n<=8:=⋯
 have kw:∀k∈ks,0<=k.wa:=λ k h=>(gk k h).wa;have wl:(wsK ks).length=ks.length:=B5 _;show ao (λ R=>∀(fv:V)(H':Hp),Same H6 H'->(awF ks (m,n)=false/\fv=.non\/awF ks (m,n)=true/\∃(r tl:Nj)(us:No V),fv=.ref r/\H6 tl=none/\H' r= ~~~[.int (cM b ks (m,n)).length,.ref tl]/\H' tl=↥us/\Paired (λ v t=>TrV H' t v) us (dQ b ks (m,n) (wsK ks) (cM b ks (m,n))))->R [↑p,↑sl,⇑(m:Int),⇑(n:Int),↑kl,⇑b,↑sh,some fv,none,none,none,none,none,none] H') (λ Dd hR=>?_) ?_
 ·exact%[_,U,_,U,_,U,sh,b,ks,m,n,U,S6,good,m1,m8,n1,n8,λ aw H7 s7=>hR .non _ s7 (.inl %[aw|U])|λ aw r tl us H7 a1 a2 a3 a4 s7=>hR (.ref r) _ s7 (.inr %[aw,r,tl,us,U,a1,a2,a3|a4])]
 rintro fv H7 s7 fo;have s57:=s6.trans s7;have hkl7:=s57 _ _ hkl;have tp7:Tups H7 rs ks:=Tups.keep (λ c xs e=>s57 _ _ e) tp;show gX (λ R=>∀(H':Hp),Same H7 H'->awF ks (m,n)=true->R [↑p,↑sl,⇑(m:Int),⇑(n:Int),↑kl,⇑b,↑sh,some fv,none,none,none,none,none,none] H') (λ R hR=>?_) ?_
 ·show%[_,U,kl,U,%[_|G6 hkl7]|(bu (K:=K) (.inl hkl7) (λ i us Hx=>Same H7 Hx/\us=((ks.take i).map λ k=>decide (k.wa > 0) && !(eE k (m:Int) (n:Int))).map V.bl) (λ i us Hx _ ⟨sx,_⟩ o h=>sx _ _ h) %[Same.refl _|U] ?_ ?_).1 hkl7]
  ·rintro i x us Hx hi ⟨sx,rfl⟩;have hin:=(A7.mp hi).1;obtain⟨k,hk,ka,rfl,hka⟩:=G8 tp7 hi;have tk:∀(v:Bool)(Hz:Hp),Same H7 Hz->(decide (k.wa > 0) && !(eE k (m:Int) (n:Int)))=v->Nx rs.length (λ i us Hx=>Same H7 Hx/\us=((ks.take i).map λ k=>decide (k.wa > 0) && !(eE k (m:Int) (n:Int))).map V.bl) i ((((ks.take i).map λ k=>decide (k.wa > 0) && !(eE k (m:Int) (n:Int))).map V.bl) ++ [.bl v]) Hz:=λ v Hz sz hv=>Nx.of hin %[sz|by rw[K6,hk,K9,J4,J4,<- hv];rfl];show%[by rw[B5,B5,K0];lia,leS.set rfl|aL ?_];show%[_,U,ka,_,3,_,U,U,G5 (sx _ _ hka),U,_,_,U,U|?_];cases c1:decide (k.wa > 0)with
   | false=>exact%[_,U|aV (tk false _ sx (by rw[c1];rfl))]
   | true=>exact%[_,U|bN %[_,U,_,U,_,U,ka,k,m,n,U,sx _ _ hka|λ Hz sz=>%[_,U|tk _ _ (sx.trans sz) (by rw[c1];rfl)]]]
  ·rintro us Hx ⟨sx,rfl⟩;rw[rl,MG];show%[by rw[B5,B5];lia|λ bl hbl=>%[bl,_,U,G6 ai,_,U|?_]];have sb:=sx.trans (G4 hbl (o:=.lst ((ks.map λ k=>decide (k.wa > 0) && !(eE k (m:Int) (n:Int))).map V.bl)));rw[show(ks.map λ k=>decide (k.wa > 0) && !(eE k (m:Int) (n:Int))).any id=!(awF ks (m,n))from JH (p:=((m:Int),(n:Int))) kw];rcases fo with⟨aw,rfl⟩ | ⟨aw,_⟩
   ·rw[aw];show bN %[_,rfl,rfl|?_];rw[Ny rfl];exact q _ λ c o nn e=>sb _ _ (s57 _ _ (b5 _ _ nn e))
   ·rw[aw];exact aV (hR _ sb aw)
 rintro H8 s8 aw;obtain⟨r,tl,us,rfl,htl0,hr7,htl7,ptr⟩:∃(r tl:Nj)(us:No V),fv=.ref r/\H6 tl=none/\H7 r= ~~~[.int (cM b ks (m,n)).length,.ref tl]/\H7 tl=↥us/\Paired (λ v t=>TrV H7 t v) us (dQ b ks (m,n) (wsK ks) (cM b ks (m,n))):=by
  rcases fo with⟨z,_⟩ | ⟨_,h⟩
  ·rw[aw]at z;cases z
  ·exact h
 clear fo;have p1:1<=((m:Int),(n:Int)).1:=by change(1:Int)<=m;lia
 have p2:1<=((m:Int),(n:Int)).2:=by change(1:Int)<=n;lia
 obtain⟨fl1,fl2,fl3⟩:=jC good p1 p2 aw;obtain⟨fo1,fo2,fo3⟩:=kQ good p1 p2 aw;have fz:=xO good p1 p2 aw;have ftr:=λ {i:Nat} {t:Tr} h=>xQ (i:=i) (t:=t) good m1 m8 n1 n8 aw h;obtain⟨d1,d2,d3,d4⟩:=xR good m1 m8 n1 n8 aw;obtain⟨D,eD⟩:∃D,D=uv b ks (m,n):=%[_|U]
 rw[<- eD]at d1 d2 d3 d4;have mkD:∀{Hx:Hp}{r tl:Nj}{us:No V},Hx r= ~~~[.int (cM b ks (m,n)).length,.ref tl]->Hx tl=↥us->Paired (λ v t=>TrV Hx t v) us (dQ b ks (m,n) (wsK ks) (cM b ks (m,n)))->DatV K Hx (.ref r) D:=λ h1 h2 h3=>by rw[eD];exact .tup (G5 h1) (.cons (.int _) (.cons (.lst (G6 h2) (Cm h3)) .nil))
 have usl:us.length=(cM b ks (m,n)).length:=by rw[Paired.length ptr,eC]
 obtain⟨gs,egs⟩:∃gs,gs=cM b ks (m,n):=%[_|U]
 rw[<- egs]at fl1 fl2 fl3 fz ftr mkD usl hr7 ptr;have g6:gs.length<=6:=⋯
 have keepT:∀{Ha Hb:Hp},Same Ha Hb->Paired (λ v t=>TrV Ha t v) us (dQ b ks (m,n) (wsK ks) gs)->Paired (λ v t=>TrV Hb t v) us (dQ b ks (m,n) (wsK ks) gs):=λ s h=>G7 h λ _ _ x=>TrV.keep (λ _ _ e=>s _ _ e) _ x;show ao (λ R=>R [↑p,↑sl,⇑(m:Int),⇑(n:Int),↑kl,⇑b,↑sh,↑r,none,none,none,none,none,none] H8) (λ Dd hR=>?_) ?_
 ·show%[_,U,_,_,_,_,_,U,.tup (s8 _ _ hr7),U,U,_,U|aV ?_];show%[_,U,r,_,U,.inr (G5 (s8 _ _ hr7)),U,_,U|cx (λ c=>absurd c (by simp)) λ _=>?_];exact%[_,U,r,_,_,_,U,U,G5 (s8 _ _ hr7),U,_,_,_,_,_,U,.lst (s8 _ _ htl7),U,U,_,U|aV (hR)]
 skip
 show ao (λ R=>R [↑p,↑sl,⇑(m:Int),⇑(n:Int),↑kl,⇑b,↑sh,↑r,none,none,none,none,none,none] H8) (λ Dd hR=>?_) ?_
 ·show%[_,U,r,_,_,_,U,U,G5 (s8 _ _ hr7),U,gs.length,0,U,_,U|?_];rw[Ny (show((gs.length:Nat):Int)≥0 by lia)];show aV %[_,rfl,r,_,_,_,rfl,rfl,G5 (s8 _ _ hr7),rfl,tl,_,rfl,.inl (G6 (s8 _ _ htl7)),_,rfl,r,_,_,_,rfl,rfl,G5 (s8 _ _ hr7),rfl,rfl,_,rfl|?_];rw[usl,Ny rfl];exact aV (hR)
 skip
 have s68:=s7.trans s8;have hkl8:=s8 _ _ hkl7;have tp8:Tups H8 rs ks:=Tups.keep (λ c xs e=>s8 _ _ e) tp7;show ao (λ R=>∀(wa:Nj)(H':Hp),H' wa=↥((wsK ks).map V.int)->Same H8 H'->R [↑p,↑sl,⇑(m:Int),⇑(n:Int),↑kl,⇑b,↑sh,↑r,↑wa,none,none,none,none,none] H') (λ Dd hR=>?_) ?_
 ·show%[_,U,kl,U,%[_|G6 hkl8]|(bu (K:=K) (.inl hkl8) (λ i us Hx=>H8=Hx/\us=((wsK ks).take i).map V.int) (λ i us Hx _ ⟨e,_⟩ o h=>e ▸ h) %[U|U] ?_ ?_).1 hkl8]
  ·rintro i x us _ hi ⟨rfl,rfl⟩;have hin:=(A7.mp hi).1;obtain⟨k,hk,ka,rfl,hka⟩:=G8 tp8 hi;show%[by rw[B5,K0];lia,leS.set rfl|aL %[_,U,ka,_,3,_,U,U,G5 hka,U|Nx.of hin %[U|?_]]];rw[K6,show(wsK ks)[i]?=some k.wa by rw[J0,hk];rfl,K9,J4];rfl
  ·rintro us _ ⟨rfl,rfl⟩;rw[K5 ⋯];show%[by rw[B5];lia|λ wa hwa=>?_];show aF hwa λ H9 k9 s9=>?_;exact hR wa _ k9 s9
 rintro wa H9 hwa s9;show ao (λ R=>∀(lf:Nj)(H':Hp),H' lf=↥((wsK ks).map V.int)->Same H9 H'->R [↑p,↑sl,⇑(m:Int),⇑(n:Int),↑kl,⇑b,↑sh,↑r,↑wa,↑lf,none,none,none,none] H') (λ Dd hR=>?_) ?_
 ·show%[_,U,wa,_,U,.inl (G6 hwa)|λ lf hlf=>?_];show aF hlf λ H10 k10 s10=>?_;exact hR lf _ k10 s10
 rintro lf0 H10 hlf0 s10;have s810:=s9.trans s10;have s710:=s8.trans s810;have pt10:=keepT s710 ptr;show bI (λ σ' H'=>∃(lf:Nj)(v10 v11:Nm V),σ'=[↑p,↑sl,⇑(m:Int),⇑(n:Int),↑kl,⇑b,↑sh,↑r,↑wa,↑lf,v10,v11,none,none]/\H' lf=↥((aG ks.length).map V.int)/\Same H10 H') (λ R hR=>?_) ?_
 ·show%[_,U,r,_,_,_,U,U,G5 (s710 _ _ hr7),U,tl,U,%[_|G6 (s710 _ _ htl7)]|cN (xs:=us) (λ i σ' H'=>∃(lf:Nj)(v10 v11:Nm V),σ'=[↑p,↑sl,⇑(m:Int),⇑(n:Int),↑kl,⇑b,↑sh,↑r,↑wa,↑lf,v10,v11,none,none]/\H' lf=some (.lst ((cV (wsK ks) (gs.take i)).map V.int) )/\Same H10 H') %[lf0,none,none,U,hlf0|Same.refl _] (λ i σ Hx _ h9=>by obtain⟨_,_,_,_,_,sx⟩:=h9;exact G6 (sx _ _ (s710 _ _ htl7))) ?_ (λ σ Hx h9=>by obtain⟨lf,v10,v11,e,h,sx⟩:=h9;exact hR _ _ %[lf,v10,v11,e,by rw[usl,MG,fl3]at h;exact h|sx])];rintro i x σ Hx hi ⟨lf,v10,v11,rfl,hlf,sx⟩;obtain⟨t,ht,tv⟩:=G8 pt10 hi;obtain⟨t1,t2,_,t4,t5⟩:=ftr ht;obtain⟨ms,ems⟩:∃ms,ms=cV (wsK ks) (gs.take i):=%[_|U]
  rw[<- ems]at hlf t4 t5;show ao (λ R=>∀(cl:Nj)(H':Hp),H' cl=↥((ip ks.length t).map V.int)->Same Hx H'->R [↑p,↑sl,⇑(m:Int),⇑(n:Int),↑kl,⇑b,↑sh,↑r,↑wa,↑lf,some x,↑cl,none,none] H') (λ Dd hR=>?_) ?_
  ·exact%[_,U,_,U,_,U,_,U,_,U,x,kl,t,b,m,n,rs,ks,U,TrV.keep (λ _ _ e=>sx _ _ e) _ tv,t1,t2,sx _ _ (s810 _ _ hkl8),Tups.keep (λ c xs e=>sx _ _ (s810 _ _ e)) tp8,kl8|λ cl H' _ hcl s=>hR cl _ hcl s]
  rintro cl Hy hcl sy;show%[_,U,U,_,U|aV ?_];have cll:=fF ks.length t;have hly:=sy _ _ hlf;show%[_,U,_,U,lf,cl,_,_,U,hly,hcl|wu (xs:=ms.map V.int) (ys:=(ip ks.length t).map V.int) (λ j zs Hz=>Same Hy Hz/\zs=((List.zipWith (· - ·) ms (ip ks.length t)).take j).map V.int) (by rw[B5,B5,t4,cll]) (λ j zs Hz ⟨sz,_⟩=>%[sz _ _ hly|sz _ _ hcl]) %[Same.refl _|U] (λ j zs Hz hj ⟨_,e⟩=>by rw[e,B5,K0,M6];lia) ?_ ?_]
  ·rintro j y z pp zs Hz hy hz hp ⟨sz,rfl⟩;have hin:=(A7.mp hy).1;obtain⟨y',hy',rfl⟩:=J8.mp (show Option.map V.int ms[j]?=some y by rw[<- J0];exact hy);obtain⟨z',hz',rfl⟩:=J8.mp (show Option.map V.int (ip ks.length t)[j]?=some z by rw[<- J0];exact hz);have s9':=sz.trans (G4 hp (o:=.tup [.int y',.int z']));show%[pp,_,U,G5 ai,U,_,_,U,_,_,U,U,gY (leS.set rfl) (leS.set rfl)|aL ?_];show%[_,U,_,U,_,_,U,U|Nx.of hin %[s9'|?_]];rw[K6,show(List.zipWith (· - ·) ms (ip ks.length t))[j]?=some (y' - z')by rw[NV,hy',hz'],K9,J4];rfl
  ·rintro zs Hz ⟨sz,rfl⟩;rw[K5 (by rw[B5,M6];lia),t5];show%[by rw[B5,<- t5,M6];lia|λ lf' hlf'=>?_];show aF hlf' λ H11 k11 s11=>?_;exact%[lf',_,_,U,k11|((sx.trans sy).trans sz).trans s11]
 rintro _ H11 ⟨lf,v10,v11,rfl,hlf,s11⟩;have s711:=s710.trans s11;have hr11:=s711 _ _ hr7;show ao (λ R=>∀(H':Hp),Same H11 H'->R [↑p,↑sl,⇑(m:Int),⇑(n:Int),↑kl,⇑b,↑sh,↑r,↑wa,↑lf,v10,v11,none,none] H') (λ Dd hR=>?_) ?_
 ·show%[_,U,lf,U,%[_|G6 hlf]|(bu (K:=K) (.inl hlf) (λ i us Hx=>H11=Hx/\us=(List.replicate i false).map V.bl) (λ i us Hx _ ⟨e,_⟩ o h=>e ▸ h) %[U|U] ?_ ?_).1 hlf]
  ·rintro i x us _ hi ⟨rfl,rfl⟩;have hin:=(A7.mp hi).1;rw[J0]at hi;obtain⟨y,hy,rfl⟩:=J8.mp hi;obtain rfl:y=0:=(NQ.mp (B7 hy)).2;have zl:((aG ks.length).map V.int).length=ks.length:=by unfold aG;rw[B5,K8]
   exact%[by rw[B5,K8];lia,leS.set rfl|aL %[_,U,U|Nx.of hin %[U|by rw[List.replicate_succ',J4];rfl]]]
  ·rintro us _ ⟨rfl,rfl⟩;have zl:((aG ks.length).map V.int).length=ks.length:=by unfold aG;rw[B5,K8]
   show%[by rw[B5,K8];lia|λ bl hbl=>?_];show aF hbl λ H12 k12 s12=>?_;show%[bl,_,U,G6 k12,_,U|?_];rw[show(List.replicate ((aG ks.length).map V.int).length false).any id=false by rw[List.any_replicate];simp];show aV %[_,rfl,r,_,_,_,rfl,rfl,G5 (s12 _ _ hr11),rfl,rfl,_,rfl,wa,_,rfl,G6 (s12 _ _ (s11 _ _ (s10 _ _ hwa))),rfl,rfl,_,rfl|?_];have ez:decide (V.int (gs.length:Int)=V.int 0)=decide (V.int (wsK ks).sum=V.int 0):=decide_eq_decide.mpr ⟨λ z=>by injection z with z;rw[fz.mp ⋯],λ z=>by injection z with z;rw[fz.mpr z];rfl⟩;rw[ez,Ny rfl];exact aV (hR _ s12)
 rintro H12 s12;have s712:=s711.trans s12;have s612:=s7.trans s712;have pm:((m:Int),(n:Int))∈aU m n:=partsL_mem.mpr %[%[p1|E8 _],p2|E8 _];have keepS:∀{Hx:Hp},Same H6 Hx->ShopAt C Hx sh b ks:=λ sx=>S6.keep (λ _ _ e=>sx _ _ e) (λ _ _ _ _ e=>sx _ _ e);show ao (λ R=>∀(gl:Nj)(as:No Nj)(H':Hp),H' gl=↥(as.map V.ref)->BsA H' as (gK b ks (m,n))->Same H12 H'->R [↑p,↑sl,⇑(m:Int),⇑(n:Int),↑kl,⇑b,↑sh,↑r,↑wa,↑lf,v10,v11,↑gl,none] H') (λ Dd hR=>?_) ?_
 ·show%[_,U,_,U,_,U,sh,b,ks,m,n,U,keepS s612,good,m1,m8,n1,n8|λ ta ll H13 a1 a2 a3 a4 a5=>%[_,U,_,U,zS2|λ kt hkt=>?_]];obtain⟨v,hv,hm⟩:=fS (ss:=ll) (by rw[a3];exact pm);obtain⟨l,as,rfl,_,h1,h2⟩:=a4 _ _ hm;show aF hkt λ H14 k14 s14=>?_;exact%[ta,.ref l,U,hv ▸ DGet.t (k:=pk ((m:Int),(n:Int))) (s14 _ _ a2) k14|hR l as _ (s14 _ _ h1) (h2.keep (Same.tps s14)) (a5.trans s14)]
 rintro gl as H13 hgl ba s13;have s713:=s712.trans s13;have hr13:=s713 _ _ hr7;show ao (λ R=>∀(H':Hp),Same H13 H'->R [↑p,↑sl,⇑(m:Int),⇑(n:Int),↑kl,⇑b,↑sh,↑r,↑wa,↑lf,v10,v11,↑gl,none] H') (λ Dd hR=>?_) ?_
 ·show%[_,U,r,_,_,_,U,U,G5 hr13,U,_,_,U,U,_,U|?_];rcases Nat.eq_zero_or_pos gs.length with z | z
  ·rw[N3 (show¬ (0:Int) < ((gs.length:Nat):Int)by lia)];exact aV (aV (hR _ (Same.refl _)))
  ·rw[Ny (show(0:Int) < ((gs.length:Nat):Int)by lia)];show bN %[_,rfl,_,rfl,_,rfl,r,_,_,_,rfl,rfl,G5 hr13,rfl,_,_,rfl,rfl,wa,gl,as,gK b ks (m,n),wsK ks,gs.length - 1,by rw[Int.ofNat_sub z];rfl,s13 _ _ (s12 _ _ (s11 _ _ (s10 _ _ hwa))),hgl,ba,λ e=>?_,InB.few (ws0 kw) w6 (by rw[rT b0 _ p1 p2];exact dw (bR _ _ _ _)) (λ x hx=>bD kw hx),λ c hc=>%[(bD kw hc).1|(bD kw hc).2.2],⋯,⋯,ws0 kw,w6,⋯,fo3 _ ⋯|λ Hz sz=>%[_,rfl|aV (hR _ sz)]];have:=fl2 _ (M8 z);rw[e]at this;cases this
 rintro H14 s14;have s714:=s713.trans s14;have hr14:=s714 _ _ hr7;have htl14:=s714 _ _ htl7;show ao (λ R=>R [↑p,↑sl,⇑(m:Int),⇑(n:Int),↑kl,⇑b,↑sh,↑r,↑wa,↑lf,v10,v11,↑gl,some (.str D.shown)] H14) (λ Dd hR=>?_) ?_
 ·exact%[_,U,r,D,U,mkD hr14 htl14 (keepT s714 ptr),d1,d2,d3,d4|hR]
 skip
 show ao (λ R=>∀(H':Hp),Same H6 H'->R [↑p,↑sl,⇑(m:Int),⇑(n:Int),↑kl,⇑b,↑sh,↑r,↑wa,↑lf,v10,v11,↑gl,some (.str D.shown)] H') (λ Dd hR=>?_) ?_
 ·show%[_,U,r,_,_,_,U,U,G5 hr14,U,.inl %[U,_|G6 htl14],zS1|λ e he=>?_];show aF he λ H15 k15 s15=>?_;show%[tl,us,_,U,U,s15 _ _ htl14,⋯|hR _ (λ c o e'=>?_)];rw[ak (aj e' htl0)];exact s15 _ _ (s714 _ _ (s7 _ _ e'))
 rintro H15 s15;show⟨_,U,_,U,_,U,sh,b,ks,m,n,U,keepS s15,good,m1,m8,n1,n8,(λ z=>by rw[aw]at z;cases z),λ _ r2 tl2 us2 H16 _ a2 a3 a4 s16=>?_⟩;rw[<- egs]at a2 a4;show%[r2,D,U,mkD a2 a3 a4,d1,d2,d3,d4,_,U,U|?_];rw[Ny rfl];exact q _ λ c o nn e=>s16 _ _ (s15 _ _ (s6 _ _ (b5 _ _ nn e)))
theorem sclaw:FnScope PZ Ps (defScope oz):=%[U,U,U,∅,U,∅|∅]
theorem Bg{f:Nj}{fd:G1}(F:Fun K "law" "law" oz f fd)(B:Blt mg)(DCE:Dn P w K mg base "_law_cell" PZ 1 (wg K))(DP:Dn P w K mg base "_law_pot" Pa 1 (wj))(DR:Dn P w K mg base "_law_right" Pg 21 (mh)):FnOk P w K mg base CX0 22 f fd Ps (sr K):=by
 exists sclaw;obtain⟨a,ns,rfl,hS,n63,q⟩:=h;show%[_,((@ce _ _ _ _ _ _ _ _ E7 U (fH U B.range (((@ap _ _ _ _ _ _ _ _ _ (dg U) U B.min OQ ((@ap _ _ _ _ _ _ _ _ _ aI U B.len N6 ('0'^^^ae) ∅ ∅ U U)^^^(ag^^^ae)) ∅ ∅ U U)|||be|||ag)^^^ae)) (am (i:=1) nd U (Or.inl U)) (@ah _ _ _ ((@aY _ _ _ _ (@aR _ _ _ (DR∪((DP∩((DCE∩('0'^^^('1'^^^ae)))^^^ae))^^^ae)) (by intro _;rfl)))<|>(dR⁻¹)<|>ay)) (by intro _;rfl))<<<(dR⁻¹))|?_];dsimp only[bW];have hl:(ns.map V.int).length=ns.length:=B5 _;show bI (λ σ' H'=>∃v1:Nm V,σ'=[↑a,v1]/\Same H H') (λ R hR=>?_) ?_
 ·show%[_,U,a,_,U,.inl hS,_,_,U,_,_,U,U,_,U,?_,?_|?_]
  ·rw[hl];split <;> lia
  ·rw[hl];split <;> lia
  show ix (lo:=0) (λ i σ' H'=>∃v1:Nm V,σ'=[↑a,v1]/\Same H H') %[none,rfl|Same.refl _] ?_ (λ σ Hx h=>hR _ _ h);rintro i σ Hx hi ⟨v1,rfl,sx⟩;show%[_,U,_,U,a,ns,_,U,Same.seq sx hS,⋯|λ c=>?_];show%[c,U|λ p H1 hp pt s1=>?_];show%[p,U,pt|λ H2 b2=>%[_,U|aV %[_,U|λ b o e=>b2 _ _ (aj (sx _ _ e) hp) (s1 _ _ (sx _ _ e))]]]
 rintro _ H1 ⟨v1,rfl,s1⟩;exact q H1
end
theorem JJ{α:Type}{us:No α}(h:us.length=1):∃a,us=[a]:=by
 match us,h with
 | [a],_=>exact%[a|U]
theorem Bh{α:Type}{us:No α}(h:us.length=2):∃a b,us=[a,b]:=by
 match us,h with
 | [a,b],_=>exact%[a,b|U]
theorem xT{α:Type}{us:No α}(h:us.length=3):∃a b c,us=[a,b,c]:=by
 match us,h with
 | [a,b,c],_=>exact%[a,b,c|U]
theorem JK{α:Type}{us:No α}(h:us.length=4):∃a b c d,us=[a,b,c,d]:=by
 match us,h with
 | [a,b,c,d],_=>exact%[a,b,c,d|U]
theorem JL{α:Type}{us:No α}(h:us.length=5):∃a b c d e,us=[a,b,c,d,e]:=by
 match us,h with
 | [a,b,c,d,e],_=>exact%[a,b,c,d,e|U]
abbrev DI(K:C6)(n:Str)(st:Stmt)(f:Nj):Prop:=∃(od an:Nm Nj)(sl:Nn (Nm G3))(oc kV dc pm cd ct:G3),PySem.W.nsIn K Np n=some (↑f)/\K.lookup f=some %[oc,od,.func (E9 n n (defArgs st) (defBody st) (defScope st) .none kV dc pm an cd ct)|sl]/\PySem.W.codeIn K cd n=true/\PySem.W.keepIn K (.ref f)=true
abbrev MI(K:C6)(C:Nj)(n q:Str)(st:Stmt)(f:Nj):Prop:=∃(od an:Nm Nj)(sl:Nn (Nm G3))(oc kV dc pm cd ct:G3),PySem.W.findIn K (.ref C) n=some (↑f)/\PySem.W.isFn K (.ref f)=true/\K.lookup f=some %[oc,od,.func (E9 n q (defArgs st) (defBody st) (defScope st) .none kV dc pm an cd ct)|sl]/\PySem.W.codeIn K cd q=true/\PySem.W.keepIn K (.ref f)=true
theorem diM{K:C6}{n:Str}{st:Stmt}{f:Nj}{od an:Nm Nj}{sl:Nn (Nm G3)}{oc kV dc pm cd ct:G3}(a:PySem.W.nsIn K Np n=some (↑f))(l:K.lookup f=some %[oc,od,.func (E9 n n (defArgs st) (defBody st) (defScope st) .none kV dc pm an cd ct)|sl])(c:PySem.W.codeIn K cd n=true)(k:PySem.W.keepIn K (.ref f)=true):DI K n st f:=%[_,_,_,_,_,_,_,_,_,a,l,c|k]
theorem miM{K:C6}{C:Nj}{n q:Str}{st:Stmt}{f:Nj}{od an:Nm Nj}{sl:Nn (Nm G3)}{oc kV dc pm cd ct:G3}(a:PySem.W.findIn K (.ref C) n=some (↑f))(i:PySem.W.isFn K (.ref f)=true)(l:K.lookup f=some %[oc,od,.func (E9 n q (defArgs st) (defBody st) (defScope st) .none kV dc pm an cd ct)|sl])(c:PySem.W.codeIn K cd q=true)(k:PySem.W.keepIn K (.ref f)=true):MI K C n q st f:=%[_,_,_,_,_,_,_,_,_,a,i,l,c|k]
abbrev fnS(n q:Str)(st:Stmt)(kV dc pm:G3)(an:Nm Nj)(cd ct:G3):G1:=E9 n q (defArgs st) (defBody st) (defScope st) .none kV dc pm an cd ct
abbrev HBd(n q:Str)(st:Stmt)(ps:No Str):Prop:=∀(kV dc pm:G3)(an:Nm Nj)(cd ct:G3)(us:No G3),us.length=ps.length->bindArgs (fnS n q st kV dc pm an cd ct) %[us|[]]=pure (ps.zip us)
inductive DE(K:C6)(mg:Str->Nm Value)(n:Str)(st:Stmt)(f:Nj)(ps:No Str):Prop
|mk(fd:G1)(F:Fun K n n st f fd)(b:Binds K fd ps [])(k:PySem.W.keepIn K (.ref f)=true)(q:mg n=↑f)
theorem diE{K:C6}{h:Heap}{mg:Str->Nm G3}{n:Str}{st:Stmt}{f:Nj}(X:K.In h)(G:h.Ns Np mg)(d:DI K n st f)(ps:No Str)(hb:HBd n n st ps):DE K mg n st f ps:=by obtain⟨_,_,_,_,_,_,_,_,_,a,l,c,k⟩:=d;have F:=pQ (st:=st) l c k;exact%[_,F,F.binds hb,k|PySem.W.mg_of X G a]
inductive ME(K:C6)(C:Nj)(n q:Str)(st:Stmt)(f:Nj)(ps:No Str):Prop
|mk(fd:G1)(F:Fun K n q st f fd)(b:Binds K fd ps [])(k:PySem.W.keepIn K (.ref f)=true)(a:PySem.W.findIn K (.ref C) n=some (↑f))(i:PySem.W.isFn K (.ref f)=true)
theorem miE{K:C6}{C:Nj}{n q:Str}{st:Stmt}{f:Nj}(d:MI K C n q st f)(ps:No Str)(hb:HBd n q st ps):ME K C n q st f ps:=by obtain⟨_,_,_,_,_,_,_,_,_,a,i,l,c,k⟩:=d;have F:=pQ (st:=st) l c k;exact%[_,F,F.binds hb,k,a|i]
theorem dnA{P:G0}{w:G2}{K:C6}{h:Heap}{mg:Str->Nm G3}{base:Heap}(X:K.In h)(G:h.Ns Np mg){n:Str}{st:Stmt}{f:Nj}(d:DI K n st f)(ps:No Str)(hb:HBd n n st ps){k:Nat}{sp:Sp}(ok:∀fd:G1,Fun K n n st f fd->(∀ {k:Nat} {sp:Sp},FnOk P w K mg base CX0 k f fd ps sp->Dn P w K mg base n ps k sp)->FnOk P w K mg base CX0 k f fd ps sp):Dn P w K mg base n ps k sp:=by obtain⟨_,F,b,k,q⟩:=diE X G d ps hb;exact%[_,_,ok _ F λ h=>%[_,_,h,b,k|q],b,k|q]
theorem bd1{n q:Str}{st:Stmt}{a:Str}(h:∀ (kV dc pm:G3) (an:Nm Nj) (cd ct ua:G3),bindArgs (fnS n q st kV dc pm an cd ct) %[[ua]|[]]=pure [(a,ua)]:=by intros;rfl):HBd n q st [a]:=by intro _ _ _ _ _ _ us hl;obtain⟨_,rfl⟩:=JJ hl;exact h _ _ _ _ _ _ _
theorem bd2{n q:Str}{st:Stmt}{a b:Str}(h:∀ (kV dc pm:G3) (an:Nm Nj) (cd ct ua ub:G3),bindArgs (fnS n q st kV dc pm an cd ct) %[[ua,ub]|[]]=pure [(a,ua),(b,ub)]:=by intros;rfl):HBd n q st [a,b]:=by intro _ _ _ _ _ _ us hl;obtain⟨_,_,rfl⟩:=Bh hl;exact h _ _ _ _ _ _ _ _
theorem bd3{n q:Str}{st:Stmt}{a b c:Str}(h:∀ (kV dc pm:G3) (an:Nm Nj) (cd ct ua ub uc:G3),bindArgs (fnS n q st kV dc pm an cd ct) %[[ua,ub,uc]|[]]=pure [(a,ua),(b,ub),(c,uc)]:=by intros;rfl):HBd n q st [a,b,c]:=by intro _ _ _ _ _ _ us hl;obtain⟨_,_,_,rfl⟩:=xT hl;exact h _ _ _ _ _ _ _ _ _
theorem bd4{n q:Str}{st:Stmt}{a b c d:Str}(h:∀ (kV dc pm:G3) (an:Nm Nj) (cd ct ua ub uc ud:G3),bindArgs (fnS n q st kV dc pm an cd ct) %[[ua,ub,uc,ud]|[]]=pure [(a,ua),(b,ub),(c,uc),(d,ud)]:=by intros;rfl):HBd n q st [a,b,c,d]:=by intro _ _ _ _ _ _ us hl;obtain⟨_,_,_,_,rfl⟩:=JK hl;exact h _ _ _ _ _ _ _ _ _ _
theorem bd5{n q:Str}{st:Stmt}{a b c d e:Str}(h:∀ (kV dc pm:G3) (an:Nm Nj) (cd ct ua ub uc ud ue:G3),bindArgs (fnS n q st kV dc pm an cd ct) %[[ua,ub,uc,ud,ue]|[]]=pure [(a,ua),(b,ub),(c,uc),(d,ud),(e,ue)]:=by intros;rfl):HBd n q st [a,b,c,d,e]:=by intro _ _ _ _ _ _ us hl;obtain⟨_,_,_,_,_,rfl⟩:=JL hl;exact h _ _ _ _ _ _ _ _ _ _ _
theorem lx7{α:Type}{us:No α}(h:us.length=7):∃a b c d e f g,us=[a,b,c,d,e,f,g]:=by
 match us,h with
 | [a,b,c,d,e,f,g],_=>exact%[a,b,c,d,e,f,g|U]
theorem bd7{n q:Str}{st:Stmt}{a b c d e f g:Str}(h:∀ (kV dc pm:G3) (an:Nm Nj) (cd ct ua ub uc ud ue uf ug:G3),bindArgs (fnS n q st kV dc pm an cd ct) %[[ua,ub,uc,ud,ue,uf,ug]|[]]=pure [(a,ua),(b,ub),(c,uc),(d,ud),(e,ue),(f,uf),(g,ug)]:=by intros;rfl):HBd n q st [a,b,c,d,e,f,g]:=by intro _ _ _ _ _ _ us hl;obtain⟨_,_,_,_,_,_,_,rfl⟩:=lx7 hl;exact h _ _ _ _ _ _ _ _ _ _ _ _ _
open PySem.W in
theorem all_mk{l:OpenLaw}{w:G2}{K:Frag}{h:Heap}{mg:Str->Nm G3}{fa f0 f1 f2 f3 f4 f5 f6 f7 f8 f9 f10 f11 f12 f13 f14 f15 f16 f17 f18 f19 f20 f21 f22 f23 f24 f25 f26 f27 f28 f29 f30 f31 f32 f33 f34 f35 f36 f37 f38 f39 f40 f41 C fm0 fm1 fm2 fm3 fm4 fm5 fm6:Nj}(X:K.In h)(G:h.Ns Np mg)(hfa:mg "law" = ↑fa)
  {tc0:Tok} {tc1:Tok} {tc2:Tok} {tc3:Tok} {tc4:Tok} {tc5:Tok} {tc6:Tok} {tc7:Tok}
  (d0:DI K "is_whole" nh f0)
  (d1:DI K "is_truth" ni f1)
  (d2:DI K "is_row" zd f2)
  (d3:DI K "is_kind" jw f3)
  (d4:DI K "can_lie_turned" jx f4)
  (d5:DI K "check_plate" dE f5)
  (d6:DI K "check_sides" dF f6)
  (d7:DI K "lies_in" jv f7)
  (d8:DI K "lyings_in" ed f8)
  (d9:DI K "parts_up_to" du f9)
  (d10:DI K "cut_parts" fQ f10)
  (d11:DI K "cuts_of" eM f11)
  (d12:DI K "check_small" dG f12)
  (d13:DI K "bundle_of_one" cD f13)
  (d14:DI K "joined" gU f14)
  (d15:DI K "is_lesser" ee f15)
  (d16:DI K "greatest_alone" bz f16)
  (d17:DI K "steps_of_part" cF f17)
  (d18:DI K "greatest_steps" cG f18)
  (d19:DI K "greatest_bundles" bA f19)
  (d20:DI K "common" gW f20)
  (d21:DI K "without" fq f21)
  (d22:DI K "all_wanted_fit" bG f22)
  (d23:DI K "fewest_bundles" bQ f23)
  (d24:DI K "tree_by_bundle" bH f24)
  (d25:DI K "fewest_of" fR f25)
  (d26:DI K "_law_cell" rN f26)
  (d27:DI K "_law_pot" ze f27)
  (d28:DI K "_law_draw" rO f28)
  (d29:DI K "_law_lain" rP f29)
  (d30:DI K "_law_fits" ow f30)
  (d31:DI K "_law_size" rQ f31)
  (d32:DI K "_law_shop_kinds" dJ f32)
  (d33:DI K "_law_alike" ky f33)
  (d34:DI K "_law_small_blade" dL f34)
  (d35:DI K "_law_whole" jy f35)
  (d36:DI K "_law_piece" kB f36)
  (d37:DI K "_law_parts" nj f37)
  (d38:DI K "_law_counts" jz f38)
  (d39:DI K "_law_do_fewer" fu f39)
  (d40:DI K "_law_right" fw f40)
  (d41:DI K "law" oz f41)
  (aC:nsIn K Np "Shop" = some (↑C))
  (dm0:MI K C "__init__" "Shop.__init__" ef fm0)
  (dm1:MI K C "blade" "Shop.blade" eN fm1)
  (dm2:MI K C "kinds" "Shop.kinds" kr fm2)
  (dm3:MI K C "wanted" "Shop.wanted" cP fm3)
  (dm4:MI K C "lyings" "Shop.lyings" dI fm4)
  (dm5:MI K C "is_lying" "Shop.is_lying" de fm5)
  (dm6:MI K C "sides" "Shop.sides" eO fm6)
  (pg:plainGet K C Str.empty=true)
  (hd:hasDictIn K C=true)
  (po:plainOver K C=true)
  (sa:findIn K (.ref C) "__setattr__" = some (some (.builtin "object.__setattr__")))
  (mk:makesIn K C=true)
  (kc:keepIn K (.ref C)=true)
  (n0:findIn K (.ref C) "blade_width" = some none)
  (n1:findIn K (.ref C) "kind_rows" = some none)
  (z0:nsIn K Np "isinstance" = some none)
  (z1:nsIn K Np "int" = some none)
  (z2:nsIn K Np "bool" = some none)
  (z3:nsIn K Np "list" = some none)
  (z4:nsIn K Np "tuple" = some none)
  (z5:nsIn K Np "len" = some none)
  (z6:nsIn K Np "range" = some none)
  (z7:nsIn K Np "max" = some none)
  (z8:nsIn K Np "min" = some none)
  (z9:nsIn K Np "abs" = some none)
  (z10:nsIn K Np "divmod" = some none)
  (z11:nsIn K Np "sum" = some none)
  (z12:nsIn K Np "sorted" = some none)
  (z13:nsIn K Np "all" = some none)
  (z14:nsIn K Np "repr" = some none)
  (z15:nsIn K Np "zip" = some none)
  (z16:nsIn K Np "enumerate" = some none)
  (z17:nsIn K Np "str" = some none)
  (z18:nsIn K Np "any" = some none)
  (z19:nsIn K Np "set" = some none)
  (uc0:nsIn K Np "MOST_KINDS" = some (some (.int 8 tc0)))
  (uc1:nsIn K Np "THINGS_OF_A_KIND" = some (some (.int 5 tc1)))
  (uc2:nsIn K Np "DOWN" = some (some (.str "down" tc2)))
  (uc3:nsIn K Np "REST" = some (some (.str "rest" tc3)))
  (uc4:nsIn K Np "PIECE" = some (some (.str "piece" tc4)))
  (uc5:nsIn K Np "ACROSS" = some (some (.str "across" tc5)))
  (uc6:nsIn K Np "MOST_SIDE" = some (some (.int 8 tc6)))
  (uc7:nsIn K Np "MOST_WANTED" = some (some (.int 6 tc7))) :
  ∃fd:G1,(∀(s:F9)(v:G3),BindsTo s fd %[[v]|[]] [("_law_script",v)])/\∀base:Heap,K.In base->base.Ns Np mg->FnOk l.prog w K mg base CX0 22 fa fd Ps (sr K):=by
 obtain⟨_,an,_,_,kV,dc,pm,cd,ct,a41,l41,c41,k41⟩:=d41;have F41:=pQ (st:=oz) l41 c41 k41;obtain⟨_,Fm0,bm0,km0,am0,im0⟩:=miE dm0 Oz (bd3 λ _ _ _ _ _ _ _ _ _=>rfl);obtain⟨_,Fm1,bm1,km1,am1,im1⟩:=miE dm1 O1 (bd1 λ _ _ _ _ _ _ _=>rfl);obtain⟨_,Fm2,bm2,km2,am2,im2⟩:=miE dm2 O1 (bd1 λ _ _ _ _ _ _ _=>rfl);obtain⟨_,Fm3,bm3,km3,am3,im3⟩:=miE dm3 O1 (bd1 λ _ _ _ _ _ _ _=>rfl);obtain⟨_,Fm4,bm4,km4,am4,im4⟩:=miE dm4 O1 (bd1 λ _ _ _ _ _ _ _=>rfl);obtain⟨_,Fm5,bm5,km5,am5,im5⟩:=miE dm5 O2 (bd3 λ _ _ _ _ _ _ _ _ _=>rfl);obtain⟨_,Fm6,bm6,km6,am6,im6⟩:=miE dm6 O2 (bd3 λ _ _ _ _ _ _ _ _ _=>rfl);have e:=hfa.symm.trans (mg_of X G a41);cases e;have y0:=mg_none_of X G z0;have y1:=mg_none_of X G z1;have y2:=mg_none_of X G z2;have y3:=mg_none_of X G z3;have y4:=mg_none_of X G z4;have y5:=mg_none_of X G z5;have y6:=mg_none_of X G z6;have y7:=mg_none_of X G z7;have y8:=mg_none_of X G z8;have y9:=mg_none_of X G z9;have y10:=mg_none_of X G z10;have y11:=mg_none_of X G z11;have y12:=mg_none_of X G z12;have y13:=mg_none_of X G z13;have y14:=mg_none_of X G z14;have y15:=mg_none_of X G z15;have y16:=mg_none_of X G z16;have y17:=mg_none_of X G z17;have y18:=mg_none_of X G z18;have y19:=mg_none_of X G z19;have u0:=mg_of X G uc0;have u1:=mg_of X G uc1;have u2:=mg_of X G uc2;have u3:=mg_of X G uc3;have u4:=mg_of X G uc4;have u5:=mg_of X G uc5;have u6:=mg_of X G uc6;have u7:=mg_of X G uc7;have qC:=mg_of X G aC;show%[fnOf "law" "law" (defArgs oz) (defBody oz) (defScope oz) .none kV dc pm an cd ct,λ s v=>.of_eq rfl|λ base _ _=>?_];have dA:=@dnA l.prog w K h mg base X G;have B:Blt mg:=%[y0,y1,y2,y3,y4,y5,y6,y7,y8,y9,y10,y11,y12,y13,y14,y15,y16,%[_|u0]|%[_|u1]]
 have T:ShopTxt K C:=%[%[pg,hd,po|sa],n0|n1]
 have ZB:BeC mg:=%[%[_|u2],%[_|u3],%[_|u4]|%[_|u5]]
 have D0:=dA d0 Ow bd2 λ _ F _=>wY F B;have D1:=dA d1 Ox bd1 λ _ F _=>wZ F B;have D2:=dA d2 Ox bd1 λ _ F _=>AX F B;have D3:=dA d3 Ox bd1 λ _ F _=>tN F B D0 D1 D2;have D4:=dA d4 O0 bd1 λ _ F _=>tO F;have MB:Mn l.prog w K mg base C "blade" O1 1 (mO C):=%[_,_,xb Fm1 T,bm1|%[am1,im1|km1]]
 have MW:Mn l.prog w K mg base C "wanted" O1 1 (ei C):=%[_,_,tY Fm3 B T,bm3|%[am3,im3|km3]]
 have ML:Mn l.prog w K mg base C "lyings" O1 2 (jQ C):=%[_,_,tP Fm4 T y16 D4,bm4|%[am4,im4|km4]]
 have MI:Mn l.prog w K mg base C "is_lying" O2 2 (fL K C):=%[_,_,qr Fm5 B T D0 D1 D4,bm5|%[am5,im5|km5]]
 have MS:Mn l.prog w K mg base C "sides" O2 3 (spSides K C):=%[_,_,xg Fm6 T MI,bm6|%[am6,im6|km6]]
 have DS:Kn l.prog w K mg base "Shop" C Oz 3 (pW C):=%[_,_,%[mk,am0,im0|kc],zh Fm0 B T D0 D2 D3,bm0|qC]
 have D5:=dA d5 O3 bd2 λ _ F _=>tT F D0;have D6:=dA d6 O4 bd3 λ _ F _=>tU F;have D7:=dA d7 O5 bd7 λ _ F _=>zj F T D0 MI MS;have D8:=dA d8 O6 bd2 λ _ F _=>zo F T ML D7;have D9:=dA d9 O3 bd2 λ _ F _=>xi F B;have D10:=dA d10 O9 bd4 λ _ F _=>tV F ZB;have D11:=dA d11 PD bd2 λ _ F _=>zp F B ZB D10;have D12:=dA d12 O8 bd3 λ _ F _=>tZ F B T %[_|u6] %[_|u7] MW D5 D6;have D13:=dA d13 PF bd2 λ _ F _=>zq F B;have D14:=dA d14 PH bd3 λ _ F _=>tW F B;have D15:=dA d15 PJ bd2 λ _ F _=>tX F B;have D16:=dA d16 PM bd1 λ _ F _=>xx F B y18 D15;have D17:=dA d17 PP bd3 λ _ F _=>xy F B ZB T MW MB D8 D13 D14 D11;have D18:=dA d18 O8 bd3 λ _ F _=>uo F B D9 D17 D16;have D19:=dA d19 O8 bd3 λ _ F _=>uq F B D12 D18;have D20:=dA d20 PJ bd2 λ _ F _=>zv F B;have D21:=dA d21 PQ bd2 λ _ F _=>xB F B;have D22:=dA d22 PU bd2 λ _ F _=>Ba F B T MW D8;have D23:=dA d23 PX bd2 λ _ F _=>zw F B D21;have D24:=dA d24 PY bd4 λ _ F m=>rX F B ZB D20 D21 (λ n h=>m h) 17;have D25:=dA d25 O8 bd3 λ _ F _=>zy F B T MW D12 D22 D18 D23 D20 D21 D24;have D26:=dA d26 PZ bd2 λ _ F _=>zA F B;have D27:=dA d27 Pa bd1 λ _ F _=>Bc F B;have D28:=dA d28 Pb bd2 λ _ F _=>zB F B;have D29:=dA d29 Pd bd1 λ _ F _=>zC F B;have D30:=dA d30 Pe bd3 λ _ F _=>xH F B y18 D29;have D31:=dA d31 Pf bd2 λ _ F _=>zD F B D28;have D32:=dA d32 Ph bd4 λ _ F _=>xJ F B D28 D31;have D33:=dA d33 Pj bd2 λ _ F _=>xK F B D28;have D34:=dA d34 Pg bd1 λ _ F _=>ut F B D28;have D35:=dA d35 Pk bd2 λ _ F _=>Be F B;have D36:=dA d36 Pm bd4 λ _ F _=>Cj F B y13 D35 D29;have D37:=dA d37 Pn bd4 λ _ F _=>Ck F B D35;have D38:=dA d38 Po bd5 λ _ F _=>Cl F B D36 D37;have D39:=dA d39 Pq bd3 λ _ F _=>Bf F B y19;have D40:=dA d40 Pg bd1 λ _ F _=>xS F B y18 D28 D32 D34 D33 D19 D25 D30 D35 D38 D39 DS;exact Bg F41 B D26 D27 D40
theorem walk{l:PySem.W.OpenLaw}{q:G0}{loose:No Str}{XP:(Str->Nm G3)->Heap->Prop}{YP:G2->Heap->Prop}{d:DefRec}{K:Params->C6}(hn:l.most=some 63)(hdf:d.params.defaults=[])
  (hY:∀(w:G2)(h:Heap),YP w h->(K w.params).In h)
  (F:∀(w:G2)(mg:Str->Nm G3)(fa:Nj)(h:Heap),(K w.params).In h->h.Ns Np mg->mg d.name=↑fa ->
   ∃fd:G1,(∀(s:F9)(u:G3),BindsTo s fd %[[u]|[]] [("_law_script",u)])/\∀base:Heap,(K w.params).In base->base.Ns Np mg->FnOk l.prog w (K w.params) mg base CX0 22 fa fd Ps (sr (K w.params))) :
  PySem.W.WalkO q loose XP YP l.row.toRowW d [] (λ f vs=>PySem.call f vs) :=
 L2.walk_of (n:=63) (k:=22) (x := "_law_script") (CX:=λ _=>CX0) (sp:=λ w=>sr (K w.params)) hn ∅ hdf %[rfl,∅,∅|rfl] hY F (λ _ _ a ns hl _ hS=>%[a,ns,U,hS,hl|λ _=>rfl]) λ _ _ _ _ _ z=>z
end Pc
namespace Pc
open PySem L2
section
open PySem.W
def kE(P:Params)(n:Str)(t:Nat)(v:G3):DictEntry:=%[PyData.keyHash P n,.str n t|v]
def kO3(P:Params):Obj:=%[(.type "dict"),none,(.dict #[kE P "__name__" 165 (.str "law_platecuts_k72_whole_fewest" 624),kE P "__doc__" 166 .none,kE P "__package__" 167 .none,kE P "__loader__" 168 (.builtin "__main__.__loader__#opaque"),kE P "__spec__" 169 .none,kE P "__annotations__" 170 (.ref 6),kE P "__builtins__" 171 (.ref 4),kE P "__file__" 173 (.str "/claim/cut.py" 172),kE P "__cached__" 174 .none,kE P "PlateError" 206 (.ref 24),kE P "NoBlade" 222 (.ref 37),kE P "NoKinds" 238 (.ref 49),kE P "NoKind" 254 (.ref 61),kE P "NoLying" 270 (.ref 73),kE P "NoPlate" 286 (.ref 85),kE P "TooLarge" 302 (.ref 97),kE P "is_whole" 312 (.ref 106),kE P "is_truth" 319 (.ref 113),kE P "is_row" 326 (.ref 120),kE P "check_plate" 334 (.ref 127),kE P "check_sides" 343 (.ref 134),kE P "DOWN" 347 (.str "down" 346),kE P "ACROSS" 349 (.str "across" 348),kE P "lies_in" 364 (.ref 141),kE P "lyings_in" 370 (.ref 146),kE P "cut_parts" 382 (.ref 153),kE P "cuts_of" 388 (.ref 158),kE P "parts_up_to" 394 (.ref 163),kE P "REST" 396 (.str "rest" 395),kE P "PIECE" 398 (.str "piece" 397),kE P "MOST_SIDE" 402 (.int 8 401),kE P "MOST_WANTED" 404 (.int 6 403),kE P "check_small" 413 (.ref 170),kE P "bundle_of_one" 419 (.ref 175),kE P "joined" 425 (.ref 180),kE P "is_lesser" 431 (.ref 185),kE P "steps_of_part" 437 (.ref 190),kE P "greatest_alone" 443 (.ref 195),kE P "greatest_steps" 454 (.ref 202),kE P "greatest_bundles" 460 (.ref 207),kE P "common" 468 (.ref 212),kE P "without" 474 (.ref 217),kE P "all_wanted_fit" 480 (.ref 222),kE P "fewest_bundles" 486 (.ref 227),kE P "tree_by_bundle" 506 (.ref 234),kE P "fewest_of" 521 (.ref 241),kE P "MOST_KINDS" 525 (.int 8 524),kE P "THINGS_OF_A_KIND" 527 (.int 5 526),kE P "is_kind" 539 (.ref 248),kE P "can_lie_turned" 546 (.ref 255),kE P "Shop" 623 (.ref 310),kE P "_law_cell" 633 (.ref 321),kE P "_law_pot" 640 (.ref 328),kE P "_law_draw" 649 (.ref 335),kE P "_law_lain" 661 (.ref 342),kE P "_law_fits" 667 (.ref 347),kE P "_law_size" 675 (.ref 354),kE P "_law_shop_kinds" 690 (.ref 361),kE P "_law_alike" 696 (.ref 366),kE P "_law_small_blade" 703 (.ref 373),kE P "_law_whole" 711 (.ref 380),kE P "_law_piece" 717 (.ref 385),kE P "_law_parts" 728 (.ref 392),kE P "_law_counts" 746 (.ref 399),kE P "_law_do_fewer" 752 (.ref 404),kE P "_law_right" 758 (.ref 409),kE P "law" 766 (.ref 416)] 67)|#[]]
def JM(P:Params):Obj:=%[(.type "dict"),none,(.dict #[kE P "__module__" 196 (.str "platecuts.errors" 187),kE P "__firstlineno__" 200 (.int 2 199),kE P "__static_attributes__" 201 (.ref 22),kE P "__weakref__" 203 (.ref 25),kE P "__doc__" 204 .none] 3)|#[]]
def JN(P:Params):Obj:=%[(.type "type"),none,(.cls %["PlateError",[.type "ValueError"],[.ref 24,.type "ValueError",.type "Exception",.type "BaseException",.type "object"],23,"PlateError",true,[],[.ref 37,.ref 49,.ref 61,.ref 73,.ref 85,.ref 97],false,none|false])|#[↑15,none,some (.str "PlateError" 189),some (.str "PlateError" 197),some (.builtin "ValueError.__new__"),some (.bool true)]]
def gk0(x0 x1 x2 x3 x4 x5 x6:Nat)(P:Params):Obj:=%[(.type "dict"),none,(.dict #[kE P "__module__" x0 (.str "platecuts.errors" 187),kE P "__firstlineno__" x1 (.int x2 x3),kE P "__static_attributes__" x4 (.ref x5),kE P "__doc__" x6 .none] 2)|#[]]
def JO:=gk0 214 218 4 217 219 35 220
def gk1(x0:Str)(x1 x2 x3 x4 x5:Nat)(P:Params):Obj:=%[(.type "type"),none,(.cls %[x0,[.ref 24],[.ref x1,.ref 24,.type "ValueError",.type "Exception",.type "BaseException",.type "object"],x2,x0,true,[],[],false,none|false])|#[↑x3,none,some (.str x0 x4),some (.str x0 x5),some (.builtin "ValueError.__new__"),some (.bool true)]]
def JP:=gk1 "NoBlade" 37 36 28 207 215
def JQ:=gk0 230 234 6 233 235 47 236
def JR:=gk1 "NoKinds" 49 48 40 223 231
def JS:=gk0 246 250 8 249 251 59 252
def JT:=gk1 "NoKind" 61 60 52 239 247
def JU:=gk0 262 266 10 265 267 71 268
def JV:=gk1 "NoLying" 73 72 64 255 263
def JW:=gk0 278 282 12 281 283 83 284
def JX:=gk1 "NoPlate" 85 84 76 271 279
def JY:=gk0 294 298 14 297 299 95 300
def JZ:=gk1 "TooLarge" 97 96 88 287 295
def gk2(x0:Str)(x1:Nat)(x2:Str)(x3 x4 x5 x6 x7 x8 x9 x10 x11 x12 x13:Nat)(P:Params):Obj:=%[(.type "code"),none,(.fields #[.str x0 x1,.str x2 x3,.str "/claim/cut.py" x4,.int x5 0,.int x6 0,.int 0 0,.int 0 0,.int 3 0,.ref x7,.bool true,.int 181 0,.ref x8,.none,.ref x9,.ref x10,.ref x11,.int x12 0,.int x5 0,.str "/claim/cut.py" x13])|#[]]
def Cn:=gk2 "is_whole" 305 "is_whole" 306 307 17 2 100 101 102 103 104 310 311
def gk3(x0 x1:Str)(x2:Stmt)(x3:Str)(x4 x5:Nat)(P:Params):Obj:=%[(.type "function"),none,(.func (fnOf x0 x1 (defArgs x2) (defBody x2) (defScope x2) .none .none .none (.str x3 x4) none (.ref x5) .none))|#[]]
def Pt(a:Str)(c:Stmt)(k:Nat):=gk3 a a c "platecuts.checks" 303 k
def Pu(a:Str)(c:Stmt)(k:Nat):=gk3 a a c "platecuts.parts" 344 k
def Pw(a:Str)(c:Stmt)(k:Nat):=gk3 a a c "platecuts.bundles" 399 k
def Px(a:Str)(c:Stmt)(k:Nat):=gk3 a a c "platecuts.fewest" 461 k
def Py(a:Str)(c:Stmt)(k:Nat):=gk3 a a c "law_platecuts_k72_whole_fewest" 624 k
def Co:=Pt "is_whole" nh 105
def Cp:=gk2 "is_truth" 313 "is_truth" 314 315 19 1 107 108 109 110 111 317 318
def Cq:=Pt "is_truth" ni 112
def Cr:=gk2 "is_row" 320 "is_row" 321 322 21 1 114 115 116 117 118 324 325
def Cs:=Pt "is_row" zd 119
def Ct:=gk2 "check_plate" 327 "check_plate" 328 329 23 2 121 122 123 124 125 332 333
def Cu:=Pt "check_plate" dE 126
def Cv:=gk2 "check_sides" 335 "check_sides" 336 337 26 3 128 129 130 131 132 341 342
def Cw:=Pt "check_sides" dF 133
def Cy:=gk2 "lies_in" 350 "lies_in" 351 352 32 7 135 136 137 138 139 362 363
def Cz:=Pu "lies_in" jv 140
def gk4(x0:Str)(x1:Nat)(x2:Str)(x3 x4 x5 x6 x7 x8 x9 x10 x11:Nat)(P:Params):Obj:=%[(.type "code"),none,(.fields #[.str x0 x1,.str x2 x3,.str "/claim/cut.py" x4,.int x5 0,.int x6 0,.int 0 0,.int 0 0,.int 3 0,.ref x7,.bool true,.int 181 0,.ref x8,.none,.none,.none,.ref x9,.int x10 0,.int x5 0,.str "/claim/cut.py" x11])|#[]]
def CA:=gk4 "lyings_in" 365 "lyings_in" 366 367 37 2 142 143 144 368 369
def CB:=Pu "lyings_in" ed 145
def CC:=gk2 "cut_parts" 371 "cut_parts" 372 373 40 4 147 148 149 150 151 380 381
def CD:=Pu "cut_parts" fQ 152
def CF:=gk4 "cuts_of" 383 "cuts_of" 384 385 45 2 154 155 156 386 387
def CG:=Pu "cuts_of" eM 157
def CI:=gk4 "parts_up_to" 389 "parts_up_to" 390 391 49 2 159 160 161 392 393
def CJ:=Pu "parts_up_to" du 162
def CK:=gk2 "check_small" 405 "check_small" 406 407 56 3 164 165 166 167 168 411 412
def CL:=Pw "check_small" dG 169
def CM:=gk4 "bundle_of_one" 414 "bundle_of_one" 415 416 61 2 171 172 173 417 418
def CN:=Pw "bundle_of_one" cD 174
def CO:=gk4 "joined" 420 "joined" 421 422 63 3 176 177 178 423 424
def CP:=Pw "joined" gU 179
def CQ:=gk4 "is_lesser" 426 "is_lesser" 427 428 65 2 181 182 183 429 430
def CS:=Pw "is_lesser" ee 184
def CT:=gk4 "steps_of_part" 432 "steps_of_part" 433 434 67 3 186 187 188 435 436
def CU:=Pw "steps_of_part" cF 189
def CV:=gk4 "greatest_alone" 438 "greatest_alone" 439 440 78 1 191 192 193 441 442
def CW:=Pw "greatest_alone" bz 194
def CY:=gk2 "greatest_steps" 444 "greatest_steps" 445 446 81 3 196 197 198 199 200 452 453
def CZ:=Pw "greatest_steps" cG 201
def Da:=gk4 "greatest_bundles" 455 "greatest_bundles" 456 457 86 3 203 204 205 458 459
def Db:=Pw "greatest_bundles" bA 206
def Dc:=gk4 "common" 463 "common" 464 465 91 2 208 209 210 466 467
def De:=Px "common" gW 211
def Df:=gk4 "without" 469 "without" 470 471 93 2 213 214 215 472 473
def Dg:=Px "without" fq 216
def Dh:=gk4 "all_wanted_fit" 475 "all_wanted_fit" 476 477 95 2 218 219 220 478 479
def Di:=Px "all_wanted_fit" bG 221
def Dj:=gk4 "fewest_bundles" 481 "fewest_bundles" 482 483 98 2 223 224 225 484 485
def Dk:=Px "fewest_bundles" bQ 226
def Dl:=gk2 "tree_by_bundle" 487 "tree_by_bundle" 488 489 108 4 228 229 230 231 232 504 505
def Dm:=Px "tree_by_bundle" bH 233
def Do:=gk2 "fewest_of" 507 "fewest_of" 508 509 119 3 235 236 237 238 239 519 520
def Dp:=Px "fewest_of" fR 240
def Dq:=gk2 "is_kind" 528 "is_kind" 529 530 135 1 242 243 244 245 246 537 538
def Dr:=gk3 "is_kind" "is_kind" jw "platecuts.shops" 522 247
def Ds:=gk2 "can_lie_turned" 540 "can_lie_turned" 541 542 142 1 249 250 251 252 253 544 545
def Dt:=gk3 "can_lie_turned" "can_lie_turned" jx "platecuts.shops" 522 254
def Du:=gk4 "__init__" 559 "Shop.__init__" 560 561 146 3 263 264 265 562 563
def Dv:=gk3 "__init__" "Shop.__init__" ef "platecuts.shops" 522 266
def Dw:=gk2 "blade" 565 "Shop.blade" 566 567 157 1 268 269 270 271 272 569 570
def Dx:=gk3 "blade" "Shop.blade" eN "platecuts.shops" 522 273
def Dy:=gk2 "kinds" 572 "Shop.kinds" 573 574 160 1 275 276 277 278 279 576 577
def Dz:=gk3 "kinds" "Shop.kinds" kr "platecuts.shops" 522 280
def DA:=gk4 "wanted" 579 "Shop.wanted" 580 581 163 1 282 283 284 582 583
def DB:=gk3 "wanted" "Shop.wanted" cP "platecuts.shops" 522 285
def DC:=gk2 "lyings" 585 "Shop.lyings" 586 587 166 1 287 288 289 290 291 592 593
def DF:=gk3 "lyings" "Shop.lyings" dI "platecuts.shops" 522 292
def DG:=gk2 "is_lying" 595 "Shop.is_lying" 596 597 174 3 294 295 296 297 298 601 602
def DH:=gk3 "is_lying" "Shop.is_lying" de "platecuts.shops" 522 299
def DL:=gk2 "sides" 604 "Shop.sides" 605 606 179 3 301 302 303 304 305 611 612
def DM:=gk3 "sides" "Shop.sides" eO "platecuts.shops" 522 306
def DN(P:Params):Obj:=%[(.type "dict"),none,(.dict #[kE P "__module__" 554 (.str "platecuts.shops" 522),kE P "__firstlineno__" 558 (.int 144 557),kE P "__init__" 564 (.ref 267),kE P "blade" 571 (.ref 274),kE P "kinds" 578 (.ref 281),kE P "wanted" 584 (.ref 286),kE P "lyings" 594 (.ref 293),kE P "is_lying" 603 (.ref 300),kE P "sides" 613 (.ref 307),kE P "__static_attributes__" 616 (.ref 308),kE P "__dict__" 618 (.ref 311),kE P "__weakref__" 620 (.ref 312),kE P "__doc__" 621 .none] 4)|#[]]
def DO(P:Params):Obj:=%[(.type "type"),none,(.cls %["Shop",[.type "object"],[.ref 310,.type "object"],309,"Shop",true,[],[],false,none|false])|#[none,none,some (.str "Shop" 547),some (.str "Shop" 555),some (.builtin "object.__new__"),some (.bool true)]]
def DQ:=gk2 "_law_cell" 626 "_law_cell" 627 628 187 2 315 316 317 318 319 631 632
def DV:=Py "_law_cell" rN 320
def DX:=gk2 "_law_pot" 634 "_law_pot" 635 636 191 1 322 323 324 325 326 638 639
def DY:=Py "_law_pot" ze 327
def DZ:=gk2 "_law_draw" 641 "_law_draw" 642 643 193 2 329 330 331 332 333 647 648
def Ea:=Py "_law_draw" rO 334
def Eb:=gk2 "_law_lain" 650 "_law_lain" 651 652 199 1 336 337 338 339 340 659 660
def Ec:=Py "_law_lain" rP 341
def Ed:=gk4 "_law_fits" 662 "_law_fits" 663 664 204 3 343 344 345 665 666
def Ee:=Py "_law_fits" ow 346
def Ef:=gk2 "_law_size" 668 "_law_size" 669 670 206 2 348 349 350 351 352 673 674
def Eg:=Py "_law_size" rQ 353
def Eh:=gk2 "_law_shop_kinds" 676 "_law_shop_kinds" 677 678 210 4 355 356 357 358 359 688 689
def Ei:=Py "_law_shop_kinds" dJ 360
def Ej:=gk4 "_law_alike" 691 "_law_alike" 692 693 219 2 362 363 364 694 695
def Ek:=Py "_law_alike" ky 365
def El:=gk2 "_law_small_blade" 697 "_law_small_blade" 698 699 226 1 367 368 369 370 371 701 702
def Em:=Py "_law_small_blade" dL 372
def En:=gk2 "_law_whole" 704 "_law_whole" 705 706 228 2 374 375 376 377 378 709 710
def Eo:=Py "_law_whole" jy 379
def Ep:=gk4 "_law_piece" 712 "_law_piece" 713 714 230 4 381 382 383 715 716
def Er:=Py "_law_piece" kB 384
def Es:=gk2 "_law_parts" 718 "_law_parts" 719 720 242 4 386 387 388 389 390 726 727
def Et:=Py "_law_parts" nj 391
def Eu:=gk2 "_law_counts" 729 "_law_counts" 730 731 251 5 393 394 395 396 397 744 745
def Ev:=Py "_law_counts" jz 398
def Ew:=gk4 "_law_do_fewer" 747 "_law_do_fewer" 748 749 269 3 400 401 402 750 751
def Ex:=Py "_law_do_fewer" fu 403
def Ey:=gk4 "_law_right" 753 "_law_right" 754 755 277 1 405 406 407 756 757
def Ez:=Py "_law_right" fw 408
def EA:=gk2 "law" 759 "law" 760 761 308 1 410 411 412 413 414 764 765
def EB:=Py "law" oz 415
def kK:Params->Frag:=λ P=>3∘kO3 :: 23∘JM :: 24∘JN :: 36∘JO :: 37∘JP :: 48∘JQ :: 49∘JR :: 60∘JS :: 61∘JT :: 72∘JU :: 73∘JV :: 84∘JW :: 85∘JX :: 96∘JY :: 97∘JZ :: 105∘Cn :: 106∘Co :: 112∘Cp :: 113∘Cq :: 119∘Cr :: 120∘Cs :: 126∘Ct :: 127∘Cu :: 133∘Cv :: 134∘Cw :: 140∘Cy :: 141∘Cz :: 145∘CA :: 146∘CB :: 152∘CC :: 153∘CD :: 157∘CF :: 158∘CG :: 162∘CI :: 163∘CJ :: 169∘CK :: 170∘CL :: 174∘CM :: 175∘CN :: 179∘CO :: 180∘CP :: 184∘CQ :: 185∘CS :: 189∘CT :: 190∘CU :: 194∘CV :: 195∘CW :: 201∘CY :: 202∘CZ :: 206∘Da :: 207∘Db :: 211∘Dc :: 212∘De :: 216∘Df :: 217∘Dg :: 221∘Dh :: 222∘Di :: 226∘Dj :: 227∘Dk :: 233∘Dl :: 234∘Dm :: 240∘Do :: 241∘Dp :: 247∘Dq :: 248∘Dr :: 254∘Ds :: 255∘Dt :: 266∘Du :: 267∘Dv :: 273∘Dw :: 274∘Dx :: 280∘Dy :: 281∘Dz :: 285∘DA :: 286∘DB :: 292∘DC :: 293∘DF :: 299∘DG :: 300∘DH :: 306∘DL :: 307∘DM :: 309∘DN :: 310∘DO :: 320∘DQ :: 321∘DV :: 327∘DX :: 328∘DY :: 334∘DZ :: 335∘Ea :: 341∘Eb :: 342∘Ec :: 346∘Ed :: 347∘Ee :: 353∘Ef :: 354∘Eg :: 360∘Eh :: 361∘Ei :: 365∘Ej :: 366∘Ek :: 372∘El :: 373∘Em :: 379∘En :: 380∘Eo :: 384∘Ep :: 385∘Er :: 391∘Es :: 392∘Et :: 398∘Eu :: 399∘Ev :: 403∘Ew :: 404∘Ex :: 408∘Ey :: 409∘Ez :: 415∘EA :: 416∘EB :: []
end
end Pc
abbrev PySem.W.Fast.tw15756744511612373776:PySem.Program:=PySem.Challenge.pw_platecuts_k72_whole_fewest
theorem PySem.W.Fast.te15756744511612373776:PySem.Challenge.pw_platecuts_k72_whole_fewest=PySem.W.Fast.tw15756744511612373776:=rfl
namespace Hd
open PySem PySem.W
def S0:Str:="__name__"
def S2:Str:="__doc__"
def S3:Str:="__package__"
def S4:Str:="__loader__"
def S5:Str:="__spec__"
def Ka:Str:="__main__"
def Kb:Str:="__annotations__"
def Kc:Str:="__builtins__"
def Ke:Str:="__file__"
def qH:Str:=%[|%[|[47,99,108,97,105,109,47,99,117,116,46,112,121]]]
def Kf:Str:="__cached__"
def Kg:Str:="<module>"
def fG:Str:="law_platecuts_k72_whole_fewest"
def oZ:Str:="PlateError"
def xU:Str:="NoBlade"
def xV:Str:="NoKinds"
def xW:Str:="NoKind"
def xX:Str:="NoLying"
def xY:Str:="NoPlate"
def xZ:Str:="TooLarge"
def uw:Str:="is_whole"
def ux:Str:="is_truth"
def uy:Str:="is_row"
def uz:Str:="check_plate"
def uA:Str:="check_sides"
def EC:Str:="DOWN"
def Kh:Str:="down"
def ED:Str:="ACROSS"
def Ki:Str:="across"
def uB:Str:="lies_in"
def uC:Str:="lyings_in"
def uD:Str:="cut_parts"
def uE:Str:="cuts_of"
def uF:Str:="parts_up_to"
def EE:Str:="REST"
def Kj:Str:="rest"
def EF:Str:="PIECE"
def Kk:Str:="piece"
def EG:Str:="MOST_SIDE"
def EH:Str:="MOST_WANTED"
def uG:Str:="check_small"
def uH:Str:="bundle_of_one"
def uI:Str:="joined"
def uJ:Str:="is_lesser"
def uK:Str:="steps_of_part"
def uL:Str:="greatest_alone"
def uM:Str:="greatest_steps"
def uN:Str:="greatest_bundles"
def uO:Str:="common"
def uP:Str:="without"
def uQ:Str:="all_wanted_fit"
def uR:Str:="fewest_bundles"
def uS:Str:="tree_by_bundle"
def uT:Str:="fewest_of"
def EI:Str:="MOST_KINDS"
def EJ:Str:="THINGS_OF_A_KIND"
def uU:Str:="is_kind"
def uV:Str:="can_lie_turned"
def pe:Str:="Shop"
def uW:Str:="_law_cell"
def uX:Str:="_law_pot"
def uY:Str:="_law_draw"
def uZ:Str:="_law_lain"
def vb:Str:="_law_fits"
def vc:Str:="_law_size"
def vd:Str:="_law_shop_kinds"
def ve:Str:="_law_alike"
def vf:Str:="_law_small_blade"
def vg:Str:="_law_whole"
def vh:Str:="_law_piece"
def vi:Str:="_law_parts"
def vj:Str:="_law_counts"
def vk:Str:="_law_do_fewer"
def vm:Str:="_law_right"
def yb:Str:="law"
def yc:Str:="__module__"
def kX:Str:="platecuts.errors"
def EK:Str:="__qualname__"
def yd:Str:="__firstlineno__"
def ye:Str:="__static_attributes__"
def Bi:Str:="__weakref__"
def zF:Str:="thing"
def Kl:Str:="least"
def yf:Str:="platecuts.checks"
def pf:Str:="wide"
def ph:Str:="high"
def Km:Str:="most"
def zG:Str:="shop"
def yg:Str:="kind"
def Bj:Str:="turned"
def Ko:Str:="x"
def Kq:Str:="y"
def Kr:Str:="piece_wide"
def Ks:Str:="piece_high"
def yh:Str:="platecuts.parts"
def vn:Str:="blade"
def Bk:Str:="part"
def EL:Str:="way"
def EM:Str:="p"
def pi:Str:="platecuts.bundles"
def Bl:Str:="found"
def vo:Str:="platecuts.fewest"
def EN:Str:="greatest"
def EO:Str:="bundle"
def Kt:Str:="step"
def Ku:Str:="first"
def Kv:Str:="first_greatest"
def Kw:Str:="second"
def Kx:Str:="second_greatest"
def Ky:Str:="ahead"
def Kz:Str:="behind"
def KA:Str:="first_tree"
def KB:Str:="plate"
def KC:Str:="missing"
def KD:Str:="trees"
def KF:Str:="worth"
def vp:Str:="wanted"
def KG:Str:="turns"
def vq:Str:="platecuts.shops"
def yi:Str:="__init__"
def yj:Str:="kinds"
def yk:Str:="lyings"
def ym:Str:="is_lying"
def yn:Str:="sides"
def Bm:Str:="Shop.__init__"
def zH:Str:="self"
def Bn:Str:="Shop.blade"
def Bo:Str:="Shop.kinds"
def Bp:Str:="Shop.wanted"
def KH:Str:="told"
def KI:Str:="number"
def Bq:Str:="Shop.lyings"
def Br:Str:="Shop.is_lying"
def KJ:Str:="row"
def Bs:Str:="Shop.sides"
def KL:Str:="blade_width"
def KM:Str:="kind_rows"
def EQ:Str:="__dict__"
def ER:Str:="_law_script"
def Bt:Str:="_law_k"
def KN:Str:="_law_cell_here"
def zI:Str:="_law_pot_here"
def ES:Str:="_law_many"
def KO:Str:="_law_digit"
def KP:Str:="_law_kind"
def zJ:Str:="_law_wide"
def zK:Str:="_law_high"
def ET:Str:="_law_worth"
def EU:Str:="_law_wanted"
def KQ:Str:="_law_turns"
def KR:Str:="_law_most"
def EV:Str:="_law_found"
def KS:Str:="_law_left"
def KU:Str:="_law_least"
def EW:Str:="_law_tree"
def EX:Str:="_law_blade"
def KW:Str:="_law_behind"
def KY:Str:="_law_kinds"
def KZ:Str:="_law_counts_here"
def La:Str:="_law_waiting"
def Lb:Str:="_law_here"
def Lc:Str:="_law_own_wide"
def Ld:Str:="_law_own_high"
def Le:Str:="_law_number"
def Lf:Str:="_law_parts_here"
abbrev HK:Hook:=kHook Pc.kK [nat_lit 3,nat_lit 23,nat_lit 24,nat_lit 36,nat_lit 37,nat_lit 48,nat_lit 49,nat_lit 60,nat_lit 61,nat_lit 72,nat_lit 73,nat_lit 84,nat_lit 85,nat_lit 96,nat_lit 97,nat_lit 105,nat_lit 106,nat_lit 112,nat_lit 113,nat_lit 119,nat_lit 120,nat_lit 126,nat_lit 127,nat_lit 133,nat_lit 134,nat_lit 140,nat_lit 141,nat_lit 145,nat_lit 146,nat_lit 152,nat_lit 153,nat_lit 157,nat_lit 158,nat_lit 162,nat_lit 163,nat_lit 169,nat_lit 170,nat_lit 174,nat_lit 175,nat_lit 179,nat_lit 180,nat_lit 184,nat_lit 185,nat_lit 189,nat_lit 190,nat_lit 194,nat_lit 195,nat_lit 201,nat_lit 202,nat_lit 206,nat_lit 207,nat_lit 211,nat_lit 212,nat_lit 216,nat_lit 217,nat_lit 221,nat_lit 222,nat_lit 226,nat_lit 227,nat_lit 233,nat_lit 234,nat_lit 240,nat_lit 241,nat_lit 247,nat_lit 248,nat_lit 254,nat_lit 255,nat_lit 266,nat_lit 267,nat_lit 273,nat_lit 274,nat_lit 280,nat_lit 281,nat_lit 285,nat_lit 286,nat_lit 292,nat_lit 293,nat_lit 299,nat_lit 300,nat_lit 306,nat_lit 307,nat_lit 309,nat_lit 310,nat_lit 320,nat_lit 321,nat_lit 327,nat_lit 328,nat_lit 334,nat_lit 335,nat_lit 341,nat_lit 342,nat_lit 346,nat_lit 347,nat_lit 353,nat_lit 354,nat_lit 360,nat_lit 361,nat_lit 365,nat_lit 366,nat_lit 372,nat_lit 373,nat_lit 379,nat_lit 380,nat_lit 384,nat_lit 385,nat_lit 391,nat_lit 392,nat_lit 398,nat_lit 399,nat_lit 403,nat_lit 404,nat_lit 408,nat_lit 409,nat_lit 415,nat_lit 416] (λ _=>by kernel_rfl)
abbrev pt:G0:=PySem.W.Fast.tw15756744511612373776
theorem pt_eq:PySem.Challenge.pw_platecuts_k72_whole_fewest=pt:=PySem.W.Fast.te15756744511612373776
def tp(i:Nat):Stmt:=pt.main.body.getD i (.Pass %[0,0,0|0])
abbrev f(o:Params->Obj)(l r:Params->BT):Params->BT:=λ P=>.node (o P) (l P) (r P)
abbrev z:Params->BT:=λ _=>.nil
abbrev e(P:Params)(n:Str)(t:Nat)(v:G3):DictEntry:=%[PyData.keyHash P n,.str n t|v]
abbrev m0:Nat:=nat_lit 11
abbrev an:Nm G3:=(↑6)
abbrev en:Env:={ scope:=pt.main.scope,locals:=mainNs,globals:=mainNs,cells:=[],code:=(.ref 13),frame:=some 14 }
abbrev cE:Code:=.body (behindTheImports pt) en
abbrev qP:Pos:=%[0,0,0|0]
abbrev B:No Frame:=[topFrame qP]
abbrev L0:=SL.s14018661285674007319x4
abbrev L1:=SL.s11665532747177232413x24
abbrev L2:=SL.s15183661809925369436x15
abbrev L3:=SL.s13915890719876406383x10
abbrev L4:=SL.s13459172003223722735x3
abbrev L5:=SL.s10557405761357834076x3
abbrev L6:=SL.s4233737765568776869x3
abbrev L7:=SL.s2508922471967985374x5
abbrev L8:=SL.s15574269061696679450x3
abbrev L9:=SL.s6016482663378992977x10
abbrev L10:=SL.s5596568736180474577x8
abbrev L11:=SL.s2839554839881490554x3
abbrev L12:=SL.s725004073602090463x7
abbrev L13:=SL.s9436932552931045734x7
abbrev L14:=SL.s2754603736356183583x3
abbrev L15:=SL.s15185746759980889043x6
abbrev L16:=SL.s8192189862530294059x4
abbrev L17:=SL.s7038307821325472102x4
abbrev L18:=SL.s5662562618415449548x6
abbrev L19:=SL.s15281542589158584767x7
abbrev L20:=SL.s17651547275483570877x7
abbrev L21:=SL.s4036449017235975746x7
abbrev L22:=SL.s8879979712987360175x4
abbrev L23:=SL.s1801250619170735830x3
abbrev L24:=SL.s17659931425627118568x2
abbrev L25:=SL.s6063217899685152688x5
abbrev L26:=SL.s8008927332132565319x10
abbrev L27:=SL.s3544116645089599534x10
abbrev L28:=SL.s13761710972054866084x4
abbrev L29:=SL.s12896375587409280029x5
abbrev L30:=SL.s13014049009108672802x3
abbrev L31:=SL.s13935586738268321596x6
abbrev L32:=SL.s8200498257699607233x3
abbrev L33:=SL.s14114244577727609259x3
abbrev L34:=SL.s1499430450269397089x4
abbrev L35:=SL.s8755793994789770505x5
abbrev L36:=SL.s15725212667919936108x3
abbrev L37:=SL.s15791221867095933363x3
abbrev L38:=SL.s81309575031448614x3
abbrev L39:=SL.s8069831620301644142x5
abbrev L40:=SL.s10061844253413749634x4
abbrev L41:=SL.s9496514870978017513x5
abbrev L42:=SL.s8899691144933366716x7
abbrev L43:=SL.s15201008993051130160x6
abbrev L44:=SL.s741896355592496720x3
abbrev L45:=SL.s17925004256654032244x4
abbrev L46:=SL.s11695548795398191787x4
abbrev L47:=SL.s4156966113859768872x10
abbrev L48:=SL.s9501651726347032510x9
abbrev L49:=SL.s15722918466584999320x5
abbrev L50:=SL.s591115383303110208x11
abbrev L51:=SL.s15721156781594690315x7
abbrev L52:=SL.s14340494229221121180x9
abbrev L53:=SL.s13429844117177748173x6
abbrev L54:=SL.s16463266125957815391x5
abbrev L55:=SL.s4922535414793169389x9
abbrev L56:=SL.s8101838861749082086x8
abbrev L57:=SL.s7066276694103001551x3
abbrev L58:=SL.s9222952809800978799x4
abbrev L59:=SL.s462964344163437139x3
abbrev L60:=SL.s2742458400755230247x6
abbrev L61:=SL.s1438033511350832697x5
abbrev L62:=SL.s14365286008749172514x8
abbrev L63:=SL.s3642769012341782148x3
abbrev L64:=SL.s4674234679698826739x5
abbrev L65:=SL.s16656946322747308186x12
abbrev L66:=SL.s10796804682411823810x3
abbrev L67:=SL.s4290257624100764138x5
abbrev L68:=SL.s2766695959194262286x5
abbrev L69:=SL.s17162191345867700912x4
abbrev L70:=SL.s14339709457334898076x3
abbrev L71:=SL.s4278001404047624695x13
abbrev L72:=SL.s6585700554429387442x18
abbrev L73:=SL.s5946037652744460706x9
abbrev L74:=SL.s7410770068591931388x13
abbrev L75:=SL.s11817881795495490833x17
abbrev L76:=SL.s15679963881808890155x10
abbrev L77:=SL.s3871700062485845797x15
abbrev L78:=SL.s7689518266570723881x14
abbrev L79:=SL.s9001593270443806431x14
abbrev L80:=SL.s6882542574934516792x11
abbrev L81:=SL.s14403400214490484960x8
abbrev L82:=SL.s14457978657717015782x11
abbrev L83:=SL.s1753610191782819921x11
abbrev L84:=SL.s14119380538032626715x11
abbrev L85:=SL.s11437920000406562045x9
abbrev L86:=SL.s10852414792293593619x7
abbrev L87:=SL.s14816307405966870543x14
abbrev L88:=SL.s8682627914449686677x12
abbrev L89:=SL.s4428170145600203450x18
abbrev L90:=SL.s5991306692159431302x13
abbrev L91:=SL.s16067994140765818257x11
abbrev L92:=SL.s2327743974964600596x11
abbrev L93:=SL.s2804747833354056582x9
abbrev L94:=SL.s6070975301684473832x10
abbrev L95:=SL.s14270485950484850486x7
abbrev L96:=SL.s12041534306414923332x18
abbrev L97:=SL.s2531307568338490285x13
abbrev L98:=SL.s631175304937289666x17
abbrev L99:=SL.s5144983644357021410x12
abbrev Lo:=SL.s18039099521571816885x18
abbrev Lp:=SL.s6011586214260557989x15
abbrev Lq:=SL.s5430567037509283100x13
abbrev Lr:=SL.s8117915138073963741x13
abbrev Ls:=SL.s3423317712779056401x25
abbrev Lu:=SL.s2007317383269046180x15
abbrev Lv:=SL.s17481586968713580700x14
abbrev Lw:=SL.s2450899226349176912x13
abbrev Lx:=SL.s16626165730633575011x14
abbrev Ly:=SL.s14288496050688921416x11
abbrev Lz:=SL.s5735081916595925998x15
abbrev LA:=SL.s3865607918536308442x17
abbrev LB:=SL.s13337502604062700212x15
abbrev LC:=SL.s13114017843053701147x15
abbrev LD:=SL.s17467278006356818441x17
abbrev LE:=SL.s17722149559621369488x16
abbrev LF:=SL.s7855274175708717672x17
abbrev LG:=SL.s13351283678309829046x18
abbrev LH:=SL.s6668348653404991179x15
abbrev LJ:=SL.s12913350958174193794x18
abbrev LK:=SL.s16115879512475548326x12
abbrev LL:=SL.s15920661018069861047x16
abbrev LM:=SL.s10779130036587390575x21
abbrev LN:=SL.s7801419657504700863x10
abbrev LO:=SL.s1688129525768580628x8
abbrev LP:=SL.s1031832959479892071x19
abbrev LQ:=SL.s8991790508128307865x19
abbrev LR:=SL.s14539662485746970245x23
abbrev LS:=SL.s11643622729373238714x14
abbrev LT:=SL.s3386828779285465597x17
abbrev LU:=SL.s13042696260734638735x12
abbrev LV:=SL.s18239426817015966623x15
abbrev LW:=SL.s1270395311379034370x22
abbrev LX:=SL.s10696252587037064777x22
abbrev LY:=SL.s7852717498200857586x20
abbrev LZ:=SL.s6377248116197321094x8
abbrev Ma:=SL.s3834378056692298002x18
abbrev Mb:=SL.s17586630440231065808x18
abbrev Mc:=SL.s15234114252648025395x21
abbrev Md:=SL.s8496462677383758984x14
abbrev Me:=SL.s16789243406116112673x4
abbrev Mf:=SL.s14400166428656793546x20
abbrev Mg:=SL.s5857708277339239366x20
abbrev Mh:=SL.s7804999707787243718x20
abbrev Lg:=SL.s7097527257260152453x26
abbrev Mi:=SL.s6658869562736209489x6
abbrev Bu:=SL.s5856160107412720595x4
abbrev Lh:=SL.s658472552662922059x5
abbrev sZ(w:G2)(os:OsState):F9:=%[boot_heap w.params,Array.mk [],boot_drawn,boot_toks|os]
def o11(P:Params):Obj:=%[(.type L68),none,(.seq #[] 0)|#[]]
def o12(P:Params):Obj:=%[.none,none,(.fields #[])|#[]]
def g0(x0:Str)(x1 x2 x3:Nat)(P:Params):Obj:=%[(.type Bu),none,(.fields #[.str x0 x1,.str x0 (x1+1),.str qH (x1+2),.int x2 0,.int 0 0,.int 0 0,.int 0 0,.int 0 0,.ref x3,.bool false,.int 181 0,.ref (x3+1),.none,.none,.none,.none,.int (x1+3) 0,.int x2 0,.str qH (x1+4)])|#[]]
def o13:=g0 Kg 182 1 11
def g1(x0 x1:Nat)(x2:Str)(x3:Nat)(P:Params):Obj:=%[(.type Lh),none,.plain|#[↑x0,↑3,↑x1,none,some (.str x2 x3),none,↑0]]
def o14:=g1 13 3 Ka 164
def hA(P:Params):Heap:=%[%[|[boot_o_0 P,boot_o_1 P,boot_o_2 P,boot_o_3 P,boot_o_4 P,boot_o_5 P,boot_o_6 P,boot_o_7 P,boot_o_8 P,boot_o_9 P,boot_o_10 P,o11 P,o12 P,o13 P,o14 P]]|{ }]
abbrev sA(w:G2)(os:OsState):F9:=%[hA w.params,(Array.mk []),%[0,0,0|0],187|os]
abbrev pA:Pos:=%[0,0,0|0]
theorem pre(w:G2):(λ os=>topGo treeTable pt w m0 an 12 (sZ w os) (topStub pt))=λ os=>some (sA w os,(%[denote treeTable cE,cE,pA|B]:Thread)):=by rw[PySem.W.Fast.te15667345088766844465,PySem.W.Fast.te14364793385576792824,PySem.W.Fast.te11892475500146522536];kernel_rfl
def tB:Params->BT:=(f boot_o_0 (f boot_o_1 (f boot_o_3 (f boot_o_7 z z) (f o11 z z)) (f boot_o_5 (f boot_o_9 z z) (f o13 z z))) (f boot_o_2 (f boot_o_4 (f boot_o_8 z z) (f o12 z z)) (f boot_o_6 (f boot_o_10 z z) (f o14 z z))))
abbrev sB(w:G2)(os:OsState):SharedT:=%[tB w.params,15,{ },(Array.mk []),%[0,0,0|0],187|os]
abbrev pB:Pos:=%[0,0,0|0]
theorem blk(w:G2):(λ os=>segRun treeTable pt w m0 an 1 1 (sA w os) ⟨(blockStart (behindTheImports pt) en).wrap (λ _=>doneF .next) deadEnd id id,cE,pA,B⟩)=λ os=>some (.next,(sB w os).abs,cE,pB):=by rw[PySem.W.Fast.te14374325043358763698,PySem.W.Fast.te14364793385576792824,PySem.W.Fast.te1066825118222455980];kernel_rfl
def EY(P:Params):Obj:=%[(.type L0),none,(.dict #[e P S0 165 (.str fG 624),e P S2 166 .none,e P S3 167 .none,e P S4 168 (.builtin Lg),e P S5 169 .none,e P Kb 170 (.ref 6),e P Kc 171 (.ref 4),e P Ke 173 (.str qH 172),e P Kf 174 .none,e P oZ 206 (.ref 24),e P xU 222 (.ref 37),e P xV 238 (.ref 49),e P xW 254 (.ref 61),e P xX 270 (.ref 73),e P xY 286 (.ref 85),e P xZ 302 (.ref 97),e P uw 312 (.ref 106),e P ux 319 (.ref 113),e P uy 326 (.ref 120),e P uz 334 (.ref 127),e P uA 343 (.ref 134),e P EC 347 (.str Kh 346),e P ED 349 (.str Ki 348),e P uB 364 (.ref 141),e P uC 370 (.ref 146),e P uD 382 (.ref 153),e P uE 388 (.ref 158),e P uF 394 (.ref 163),e P EE 396 (.str Kj 395),e P EF 398 (.str Kk 397),e P EG 402 (.int 8 401),e P EH 404 (.int 6 403),e P uG 413 (.ref 170),e P uH 419 (.ref 175),e P uI 425 (.ref 180),e P uJ 431 (.ref 185),e P uK 437 (.ref 190),e P uL 443 (.ref 195),e P uM 454 (.ref 202),e P uN 460 (.ref 207),e P uO 468 (.ref 212),e P uP 474 (.ref 217),e P uQ 480 (.ref 222),e P uR 486 (.ref 227),e P uS 506 (.ref 234),e P uT 521 (.ref 241),e P EI 525 (.int 8 524),e P EJ 527 (.int 5 526),e P uU 539 (.ref 248),e P uV 546 (.ref 255),e P pe 623 (.ref 310),e P uW 633 (.ref 321),e P uX 640 (.ref 328),e P uY 649 (.ref 335),e P uZ 661 (.ref 342),e P vb 667 (.ref 347),e P vc 675 (.ref 354),e P vd 690 (.ref 361),e P ve 696 (.ref 366),e P vf 703 (.ref 373),e P vg 711 (.ref 380),e P vh 717 (.ref 385),e P vi 728 (.ref 392),e P vj 746 (.ref 399),e P vk 752 (.ref 404),e P vm 758 (.ref 409),e P yb 766 (.ref 416)] 67)|#[]]
def Ag(P:Params):Obj:=%[.none,none,(.fields #[.int 2 0,.int 0 0,.ref 20,.int 4 0,.int 0 0,.ref 33,.int 6 0,.int 0 0,.ref 45,.int 8 0,.int 0 0,.ref 57,.int 10 0,.int 0 0,.ref 69,.int 12 0,.int 0 0,.ref 81,.int 14 0,.int 0 0,.ref 93,.int 17 0,.int 0 0,.ref 105,.int 19 0,.int 0 0,.ref 112,.int 21 0,.int 0 0,.ref 119,.int 23 0,.int 0 0,.ref 126,.int 26 0,.int 0 0,.ref 133,.int 32 0,.int 0 0,.ref 140,.int 37 0,.int 0 0,.ref 145,.int 40 0,.int 0 0,.ref 152,.int 45 0,.int 0 0,.ref 157,.int 49 0,.int 0 0,.ref 162,.int 56 0,.int 0 0,.ref 169,.int 61 0,.int 0 0,.ref 174,.int 63 0,.int 0 0,.ref 179,.int 65 0,.int 0 0,.ref 184,.int 67 0,.int 0 0,.ref 189,.int 78 0,.int 0 0,.ref 194,.int 81 0,.int 0 0,.ref 201,.int 86 0,.int 0 0,.ref 206,.int 91 0,.int 0 0,.ref 211,.int 93 0,.int 0 0,.ref 216,.int 95 0,.int 0 0,.ref 221,.int 98 0,.int 0 0,.ref 226,.int 108 0,.int 0 0,.ref 233,.int 119 0,.int 0 0,.ref 240,.int 135 0,.int 0 0,.ref 247,.int 142 0,.int 0 0,.ref 254,.int 144 0,.int 0 0,.ref 261,.int 187 0,.int 0 0,.ref 320,.int 191 0,.int 0 0,.ref 327,.int 193 0,.int 0 0,.ref 334,.int 199 0,.int 0 0,.ref 341,.int 204 0,.int 0 0,.ref 346,.int 206 0,.int 0 0,.ref 353,.int 210 0,.int 0 0,.ref 360,.int 219 0,.int 0 0,.ref 365,.int 226 0,.int 0 0,.ref 372,.int 228 0,.int 0 0,.ref 379,.int 230 0,.int 0 0,.ref 384,.int 242 0,.int 0 0,.ref 391,.int 251 0,.int 0 0,.ref 398,.int 269 0,.int 0 0,.ref 403,.int 277 0,.int 0 0,.ref 408,.int 308 0,.int 0 0,.ref 415])|#[]]
def o15(P:Params):Obj:=%[(.type L68),none,(.seq #[.type L94] 0)|#[]]
abbrev EZ:=SL.s11030030927630378310x26
abbrev Li:=SL.s10062305145149207511x16
def o16(P:Params):Obj:=%[(.type EZ),none,(.fields #[.builtin Li,.type L69])|#[]]
def g2(x0:Nat)(x1:Str)(x2 x3:Nat)(P:Params):Obj:=%[(.type L0),none,(.dict #[e P yc x0 (.str kX 187),e P EK (x0+2) (.str x1 (x0+1)),e P yd (x0+4) (.int x2 (x0+3)),e P ye (x0+5) (.ref x3)] 4)|#[]]
def o17:=g2 196 oZ 2 22
def o20:=g0 oZ 191 2 18
def o21:=g1 20 17 kX 187
def o23(P:Params):Obj:=%[(.type L0),none,(.dict #[e P yc 196 (.str kX 187),e P yd 200 (.int 2 199),e P ye 201 (.ref 22),e P Bi 203 (.ref 25),e P S2 204 .none] 3)|#[]]
abbrev Fa:=SL.s4209523147560561109x18
def o24(P:Params):Obj:=%[(.type L69),none,(.cls %[oZ,[.type L94],[.ref 24,.type L94,.type L73,.type L71,.type L60],23,oZ,true,[],[.ref 37,.ref 49,.ref 61,.ref 73,.ref 85,.ref 97],false,none|false])|#[↑15,none,some (.str oZ 189),some (.str oZ 197),some (.builtin Fa),some (.bool true)]]
abbrev Fb:=SL.s14755015743595814543x17
abbrev Lj:=SL.s10220274742760427390x26
def g3(x0 x1:Nat)(P:Params):Obj:=%[(.type Fb),none,(.fields #[.str Bi x0,.ref x1,.builtin Lj,.none])|#[]]
def o25:=g3 202 24
def g4(x0:Nat)(P:Params):Obj:=%[(.type L67),none,(.fields #[.ref x0,.ref x0,.ref x0])|#[]]
def o26:=g4 24
abbrev Lk:=SL.s4860613602091757760x24
def g5(x0:Nat)(P:Params):Obj:=%[(.type EZ),none,(.fields #[.builtin Lk,.ref x0])|#[]]
def o27:=g5 24
def o28(P:Params):Obj:=%[(.type L68),none,(.seq #[.ref 24] 0)|#[]]
def o30:=g2 214 xU 4 35
def o33:=g0 xU 209 4 31
def o34:=g1 33 30 kX 187
def g6(x0 x1 x2:Nat)(P:Params):Obj:=%[(.type L0),none,(.dict #[e P yc x0 (.str kX 187),e P yd (x0+4) (.int x1 (x0+3)),e P ye (x0+5) (.ref x2),e P S2 (x0+6) .none] 2)|#[]]
def o36:=g6 214 4 35
def g7(x0:Str)(x1 x2 x3 x4:Nat)(P:Params):Obj:=%[(.type L69),none,(.cls %[x0,[.ref 24],[.ref x1,.ref 24,.type L94,.type L73,.type L71,.type L60],x2,x0,true,[],[],false,none|false])|#[↑x3,none,some (.str x0 x4),some (.str x0 (x4+8)),some (.builtin Fa),some (.bool true)]]
def o37:=g7 xU 37 36 28 207
def o38:=g4 37
def o39:=g5 37
def o42:=g2 230 xV 6 47
def o45:=g0 xV 225 6 43
def o46:=g1 45 42 kX 187
def o48:=g6 230 6 47
def o49:=g7 xV 49 48 40 223
def o50:=g4 49
def o51:=g5 49
def o54:=g2 246 xW 8 59
def o57:=g0 xW 241 8 55
def o58:=g1 57 54 kX 187
def o60:=g6 246 8 59
def o61:=g7 xW 61 60 52 239
def o62:=g4 61
def o63:=g5 61
def o66:=g2 262 xX 10 71
def o69:=g0 xX 257 10 67
def o70:=g1 69 66 kX 187
def o72:=g6 262 10 71
def o73:=g7 xX 73 72 64 255
def o74:=g4 73
def o75:=g5 73
def o78:=g2 278 xY 12 83
def o81:=g0 xY 273 12 79
def o82:=g1 81 78 kX 187
def o84:=g6 278 12 83
def o85:=g7 xY 85 84 76 271
def o86:=g4 85
def o87:=g5 85
def o90:=g2 294 xZ 14 95
def o93:=g0 xZ 289 14 91
def o94:=g1 93 90 kX 187
def o96:=g6 294 14 95
def o97:=g7 xZ 97 96 88 287
def o98:=g4 97
def o99:=g5 97
def g8(x0:Str)(x1:Nat)(x2:Str)(P:Params):Obj:=%[(.type L68),none,(.seq #[.str x0 x1,.str x2 (x1+1)] 0)|#[]]
def Fc:=g8 zF 308 Kl
def g9(x0:Str)(x1:Nat)(P:Params):Obj:=%[.none,none,(.func %[x0,x0,L2.defArgs (tp x1),(.stmts (L2.defBody (tp x1))),L2.defScope (tp x1),0,[],.none,.none,.none,.none,none,.none,.none|0])|#[]]
def Fd:=g9 uw 9
def g10(x0:Str)(x1:Nat)(x2:Str)(x3 x4 x5 x6:Nat)(P:Params):Obj:=%[(.type Bu),none,(.fields #[.str x0 x1,.str x2 (x1+1),.str qH (x1+2),.int x3 0,.int x4 0,.int 0 0,.int 0 0,.int 3 0,.ref x5,.bool true,.int 181 0,.ref (x5+1),.none,.ref (x5+2),.ref (x5+3),.ref (x5+4),.int x6 0,.int x3 0,.str qH (x6+1)])|#[]]
def Fe:=g10 uw 305 uw 17 2 100 310
abbrev Ff:=SL.s7174869446012820540x8
def g11(x0:Str)(x1:Nat)(x2:Str)(x3 x4:Nat)(P:Params):Obj:=%[(.type Ff),none,(.func %[x0,x0,L2.defArgs (tp x1),(.stmts (L2.defBody (tp x1))),L2.defScope (tp x1),3,[],.none,.none,.none,.str x2 x3,none,.ref x4,.none|0])|#[]]
def Fg:=g11 uw 9 yf 303 105
def g12(x0:Str)(x1:Nat)(P:Params):Obj:=%[(.type L68),none,(.seq #[.str x0 x1] 0)|#[]]
def Fh:=g12 zF 316
def Fi:=g9 ux 10
def Fj:=g10 ux 313 ux 19 1 107 317
def Fk:=g11 ux 10 yf 303 112
def Fl:=g12 zF 323
def Fm:=g9 uy 11
def Fn:=g10 uy 320 uy 21 1 114 324
def Fo:=g11 uy 11 yf 303 119
def Fp:=g8 pf 330 ph
def Fq:=g9 uz 12
def Fs:=g10 uz 327 uz 23 2 121 332
def Ft:=g11 uz 12 yf 303 126
def g13(x0:Str)(x1:Nat)(x2 x3:Str)(P:Params):Obj:=%[(.type L68),none,(.seq #[.str x0 x1,.str x2 (x1+1),.str x3 (x1+2)] 0)|#[]]
def Fu:=g13 pf 338 ph Km
def Fv:=g9 uA 13
def Fw:=g10 uA 335 uA 26 3 128 341
def Fx:=g11 uA 13 yf 303 133
def g14(x0:Str)(x1:Nat)(x2 x3 x4 x5 x6 x7 x8 x9:Str)(P:Params):Obj:=%[(.type L68),none,(.seq #[.str x0 x1,.str x2 (x1+1),.str x3 (x1+2),.str x4 (x1+3),.str x5 (x1+4),.str x6 (x1+5),.str x7 (x1+6),.str x8 (x1+7),.str x9 (x1+8)] 0)|#[]]
def Fy:=g14 zG 353 pf ph yg Bj Ko Kq Kr Ks
def Fz:=g9 uB 17
def FA:=g10 uB 350 uB 32 7 135 362
def FB:=g11 uB 17 yh 344 140
def FC:=g9 uC 18
def g15(x0:Str)(x1:Nat)(x2:Str)(x3 x4 x5:Nat)(P:Params):Obj:=%[(.type Bu),none,(.fields #[.str x0 x1,.str x2 (x1+1),.str qH (x1+2),.int x3 0,.int x4 0,.int 0 0,.int 0 0,.int 3 0,.ref x5,.bool true,.int 181 0,.ref (x5+1),.none,.none,.none,.ref (x5+2),.int (x1+3) 0,.int x3 0,.str qH (x1+4)])|#[]]
def FE:=g15 uC 365 uC 37 2 142
def FF:=g11 uC 18 yh 344 145
def g16(x0:Str)(x1:Nat)(x2 x3 x4 x5 x6:Str)(P:Params):Obj:=%[(.type L68),none,(.seq #[.str x0 x1,.str x2 (x1+1),.str x3 (x1+2),.str x4 (x1+3),.str x5 (x1+4),.str x6 (x1+5)] 0)|#[]]
def FG:=g16 vn 374 Bk EL EM pf ph
def FH:=g9 uD 19
def FI:=g10 uD 371 uD 40 4 147 380
def FJ:=g11 uD 19 yh 344 152
def FK:=g9 uE 20
def FL:=g15 uE 383 uE 45 2 154
def FM:=g11 uE 20 yh 344 157
def FN:=g9 uF 21
def FO:=g15 uF 389 uF 49 2 159
def FP:=g11 uF 21 yh 344 162
def FQ:=g13 zG 408 pf ph
def FR:=g9 uG 27
def FS:=g10 uG 405 uG 56 3 164 411
def FT:=g11 uG 27 pi 399 169
def FU:=g9 uH 28
def FV:=g15 uH 414 uH 61 2 171
def FW:=g11 uH 28 pi 399 174
def FX:=g9 uI 29
def FY:=g15 uI 420 uI 63 3 176
def FZ:=g11 uI 29 pi 399 179
def Ga:=g9 uJ 30
def Gb:=g15 uJ 426 uJ 65 2 181
def Gc:=g11 uJ 30 pi 399 184
def Gd:=g9 uK 31
def Ge:=g15 uK 432 uK 67 3 186
def Gf:=g11 uK 31 pi 399 189
def Gg:=g9 uL 32
def Gh:=g15 uL 438 uL 78 1 191
def Gi:=g11 uL 32 pi 399 194
def g17(x0:Str)(x1:Nat)(x2 x3 x4 x5:Str)(P:Params):Obj:=%[(.type L68),none,(.seq #[.str x0 x1,.str x2 (x1+1),.str x3 (x1+2),.str x4 (x1+3),.str x5 (x1+4)] 0)|#[]]
def Gj:=g17 zG 447 pf ph Bl Bk
def Gk:=g9 uM 33
def Gm:=g10 uM 444 uM 81 3 196 452
def Gn:=g11 uM 33 pi 399 201
def Go:=g9 uN 34
def Gp:=g15 uN 455 uN 86 3 203
def Gq:=g11 uN 34 pi 399 206
def Gr:=g9 uO 36
def Gs:=g15 uO 463 uO 91 2 208
def Gu:=g11 uO 36 vo 461 211
def Gv:=g9 uP 37
def Gw:=g15 uP 469 uP 93 2 213
def Gx:=g11 uP 37 vo 461 216
def Gy:=g9 uQ 38
def Gz:=g15 uQ 475 uQ 95 2 218
def GA:=g11 uQ 38 vo 461 221
def GB:=g9 uR 39
def GC:=g15 uR 481 uR 98 2 223
def GD:=g11 uR 39 vo 461 226
def GE(P:Params):Obj:=%[(.type L68),none,(.seq #[.str Bl 490,.str Bk 491,.str EN 492,.str EO 493,.str Kt 494,.str EL 495,.str EM 496,.str Ku 497,.str Kv 498,.str Kw 499,.str Kx 500,.str Ky 501,.str Kz 502,.str KA 503] 0)|#[]]
def GF:=g9 uS 40
def GG:=g10 uS 487 uS 108 4 228 504
def GH:=g11 uS 40 vo 461 233
def GI:=g14 zG 510 pf ph KB Bl KC KD EN EO
def GJ:=g9 uT 41
def GK:=g10 uT 507 uT 119 3 235 519
def GL:=g11 uT 41 vo 461 240
def GM:=g16 zF 531 pf ph KF vp KG
def GN:=g9 uU 45
def GO:=g10 uU 528 uU 135 1 242 537
def GP:=g11 uU 45 vq 522 247
def GQ:=g12 yg 543
def GS:=g9 uV 46
def GT:=g10 uV 540 uV 142 1 249 544
def GU:=g11 uV 46 vq 522 254
def GV(P:Params):Obj:=%[(.type L0),none,(.dict #[e P yc 554 (.str vq 522),e P EK 556 (.str pe 555),e P yd 558 (.int 144 557),e P yi 564 (.ref 267),e P vn 571 (.ref 274),e P yj 578 (.ref 281),e P vp 584 (.ref 286),e P yk 594 (.ref 293),e P ym 603 (.ref 300),e P yn 613 (.ref 307),e P ye 616 (.ref 308)] 11)|#[]]
def GW(P:Params):Obj:=%[.none,none,(.fields #[.int 146 0,.int 4 0,.ref 266,.int 157 0,.int 4 0,.ref 273,.int 160 0,.int 4 0,.ref 280,.int 163 0,.int 4 0,.ref 285,.int 166 0,.int 4 0,.ref 292,.int 174 0,.int 4 0,.ref 299,.int 179 0,.int 4 0,.ref 306])|#[]]
def GX:=g0 pe 549 144 259
def GY:=g1 261 258 vq 522
def g18(x0 x1:Str)(x2:Nat)(P:Params):Obj:=%[.none,none,(.func %[x0,x1,L2.defArgs (L2.inClass (tp 47) x2),(.stmts (L2.defBody (L2.inClass (tp 47) x2))),L2.defScope (L2.inClass (tp 47) x2),0,[],.none,.none,.none,.none,none,.none,.none|0])|#[]]
def GZ:=g18 yi Bm 0
def He:=g15 yi 559 Bm 146 3 263
def g19(x0 x1:Str)(x2 x3:Nat)(P:Params):Obj:=%[(.type Ff),none,(.func %[x0,x1,L2.defArgs (L2.inClass (tp 47) x2),(.stmts (L2.defBody (L2.inClass (tp 47) x2))),L2.defScope (L2.inClass (tp 47) x2),3,[],.none,.none,.none,.str vq 522,none,.ref x3,.none|0])|#[]]
def Hf:=g19 yi Bm 0 266
def Hg:=g12 zH 568
def Hh:=g18 vn Bn 1
def Hi:=g10 vn 565 Bn 157 1 268 569
def Hj:=g19 vn Bn 1 273
def Hl:=g12 zH 575
def Hm:=g18 yj Bo 2
def Hn:=g10 yj 572 Bo 160 1 275 576
def Ho:=g19 yj Bo 2 280
def Hq:=g18 vp Bp 3
def Hr:=g15 vp 579 Bp 163 1 282
def Hs:=g19 vp Bp 3 285
def g20(x0:Nat)(x1 x2 x3:Str)(P:Params):Obj:=%[(.type L68),none,(.seq #[.str zH x0,.str x1 (x0+1),.str x2 (x0+2),.str x3 (x0+3)] 0)|#[]]
def Ht:=g20 588 KH KI yg
def HA:=g18 yk Bq 4
def HB:=g10 yk 585 Bq 166 1 287 592
def HC:=g19 yk Bq 4 292
def HD:=g13 zH 598 yg Bj
def HE:=g18 ym Br 5
def HF:=g10 ym 595 Br 174 3 294 601
def HG:=g19 ym Br 5 299
def HI:=g20 607 yg Bj KJ
def HJ:=g18 yn Bs 6
def HL:=g10 yn 604 Bs 179 3 301 611
def HM:=g19 yn Bs 6 306
def HN:=g8 KL 614 KM
def HP(P:Params):Obj:=%[(.type L0),none,(.dict #[e P yc 554 (.str vq 522),e P yd 558 (.int 144 557),e P yi 564 (.ref 267),e P vn 571 (.ref 274),e P yj 578 (.ref 281),e P vp 584 (.ref 286),e P yk 594 (.ref 293),e P ym 603 (.ref 300),e P yn 613 (.ref 307),e P ye 616 (.ref 308),e P EQ 618 (.ref 311),e P Bi 620 (.ref 312),e P S2 621 .none] 4)|#[]]
abbrev Ll:=SL.s11443829558043349243x14
def HQ(P:Params):Obj:=%[(.type L69),none,(.cls %[pe,[.type L60],[.ref 310,.type L60],309,pe,true,[],[],false,none|false])|#[none,none,some (.str pe 547),some (.str pe 555),some (.builtin Ll),some (.bool true)]]
abbrev Lm:=SL.s6511155373996960695x17
abbrev Ln:=SL.s12411053484034534018x21
def HR(P:Params):Obj:=%[(.type Fb),none,(.fields #[.str EQ 617,.ref 310,.builtin Lm,.builtin Ln])|#[]]
def HS:=g3 619 310
def HU:=g4 310
def HV:=g5 310
def HW:=g8 ER 629 Bt
def HX:=g9 uW 49
def HY:=g10 uW 626 uW 187 2 315 631
def HZ:=g11 uW 49 fG 624 320
def Ia:=g12 KN 637
def Ib:=g9 uX 50
def Ic:=g10 uX 634 uX 191 1 322 638
def Id:=g11 uX 50 fG 624 327
def Ie:=g13 zI 644 ES KO
def Ig:=g9 uY 51
def Ih:=g10 uY 641 uY 193 2 329 647
def Ii:=g11 uY 51 fG 624 334
def Ij:=g16 KP 653 zJ zK ET EU KQ
def Ik:=g9 uZ 52
def Il:=g10 uZ 650 uZ 199 1 336 659
def Im:=g11 uZ 52 fG 624 341
def Io:=g9 vb 53
def Ip:=g15 vb 662 vb 204 3 343
def Iq:=g11 vb 53 fG 624 346
def Ir:=g8 zI 671 KR
def Iu:=g9 vc 54
def Iv:=g10 vc 668 vc 206 2 348 673
def Iw:=g11 vc 54 fG 624 353
def Ix:=g14 zI 679 zJ zK ES EV KS Bt EU ET
def Iy:=g9 vd 55
def Iz:=g10 vd 676 vd 210 4 355 688
def IA:=g11 vd 55 fG 624 360
def IB:=g9 ve 56
def IC:=g15 ve 691 ve 219 2 362
def ID:=g11 ve 56 fG 624 365
def IE:=g12 zI 700
def IF:=g9 vf 57
def IG:=g10 vf 697 vf 226 1 367 701
def IH:=g11 vf 57 fG 624 372
def II:=g8 EV 707 KU
def IJ:=g9 vg 58
def IK:=g10 vg 704 vg 228 2 374 709
def IL:=g11 vg 58 fG 624 379
def IM:=g9 vh 59
def IN:=g15 vh 712 vh 230 4 381
def IO:=g11 vh 59 fG 624 384
def IP:=g17 EW 721 EX zJ zK KW
def IQ:=g9 vi 60
def IR:=g10 vi 718 vi 242 4 386 726
def IS:=g11 vi 60 fG 624 391
def IT(P:Params):Obj:=%[(.type L68),none,(.seq #[.str EW 732,.str EX 733,.str KY 734,.str zJ 735,.str zK 736,.str KZ 737,.str La 738,.str Lb 739,.str Lc 740,.str Ld 741,.str Le 742,.str Lf 743] 0)|#[]]
def IU:=g9 vj 61
def IV:=g10 vj 729 vj 251 5 393 744
def IW:=g11 vj 61 fG 624 398
def IX:=g9 vk 62
def IY:=g15 vk 747 vk 269 3 400
def IZ:=g11 vk 62 fG 624 403
def Ja:=g9 vm 63
def Jb:=g15 vm 753 vm 277 1 405
def Jc:=g11 vm 63 fG 624 408
def Jd:=g8 ER 762 Bt
def Je:=g9 yb 64
def Jf:=g10 yb 759 yb 308 1 410 764
def Jg:=g11 yb 64 fG 624 415
def t0:Params->BT:=(f boot_o_0 (f boot_o_1 (f EY (f boot_o_7 (f o15 (f o11 (f o63 (f Ft (f GU z z) (f IM z z)) (f o11 (f HX z z) z)) (f o11 (f o11 (f o11 z z) (f Jf z z)) (f o11 (f o11 z z) z))) (f o11 (f o11 (f o12 (f o11 z z) (f IW z z)) (f Gq (f Ii z z) z)) (f Fi (f FW (f HI z z) z) (f GJ (f o11 z z) z)))) (f o23 (f o39 (f o11 (f o11 (f o11 z z) (f IR z z)) (f o11 (f Ic z z) z)) (f o11 (f o11 (f o12 z z) z) (f o11 (f Iy z z) z))) (f o11 (f o87 (f FH (f Hm z z) (f Ja z z)) (f Gv (f o11 z z) z)) (f Fn (f Ga (f HR z z) z) (f GO (f o12 z z) z))))) (f o11 (f o12 (f o11 (f o11 (f o11 (f o11 z z) (f o12 z z)) (f Gi (f o12 z z) z)) (f o99 (f FP (f HA z z) z) (f GD (f o11 z z) z))) (f o51 (f o11 (f o11 (f o11 z z) (f IY z z)) (f Gs (f o11 z z) z)) (f o12 (f FY (f HM z z) z) (f o12 (f IF z z) z)))) (f o27 (f o11 (f o75 (f Fz (f Hf z z) (f IT z z)) (f o11 (f Ie z z) z)) (f o11 (f o11 (f HF z z) z) (f o11 (f o12 z z) z))) (f o11 (f o11 (f o12 (f o12 z z) (f o12 z z)) (f o12 (f Iq z z) z)) (f Fp (f o12 (f o11 z z) z) (f GQ (f IK z z) z)))))) (f boot_o_5 (f boot_o_9 (f o17 (f o33 (f o16 (f o12 (f o16 z z) (f IO z z)) (f Gg (f HZ z z) z)) (f o97 (f FN (f Ht z z) z) (f GB (f Iv z z) z))) (f o49 (f o81 (f FE (f Hi z z) (f o12 z z)) (f o12 (f o12 z z) z)) (f Fk (f o12 (f HJ z z) z) (f GL (f IE z z) z)))) (f o25 (f o16 (f o73 (f Fy (f GZ z z) (f o11 z z)) (f Gm (f o11 z z) z)) (f Fe (f FS (f o11 z z) z) (f GG (f IA z z) z))) (f o57 (f o16 (f FJ (f Ho z z) (f Jc z z)) (f Gx (f Io z z) z)) (f o11 (f Gc (f HU z z) z) (f o11 (f o11 z z) z))))) (f o13 (f o21 (f o37 (f o69 (f Fw (f GX z z) (f o11 z z)) (f o12 (f o11 z z) z)) (f o12 (f o12 (f HC z z) z) (f o12 (f Ix z z) z))) (f o16 (f o85 (f FG (f Hl z z) (f o11 z z)) (f o11 (f Il z z) z)) (f o11 (f o11 (f HP z z) z) (f o11 (f IH z z) z)))) (f o16 (f o45 (f o16 (f FB (f o12 z z) (f IU z z)) (f Go (f Ig z z) z)) (f Fh (f FU (f o11 z z) z) (f GI (f IC z z) z))) (f o61 (f o93 (f FL (f Hr z z) (f o11 z z)) (f Gz (f o12 z z) z)) (f Fq (f Ge (f HW z z) z) (f GS (f o11 z z) z))))))) (f boot_o_2 (f boot_o_4 (f boot_o_8 (f o16 (f o12 (f o28 (f o11 (f o11 z z) (f IN z z)) (f o12 (f HY z z) z)) (f o96 (f o12 (f o12 z z) (f Jg z z)) (f o12 (f Iu z z) z))) (f o48 (f o12 (f FC (f Hh z z) (f o11 z z)) (f o11 (f o11 z z) z)) (f Fj (f o11 (f o11 z z) z) (f GK (f o12 z z) z)))) (f o24 (f o28 (f o72 (f o12 (f o12 z z) (f IS z z)) (f Gk (f Id z z) z)) (f Fd (f FR (f HD z z) z) (f GF (f Iz z z) z))) (f o12 (f o28 (f FI (f Hn z z) (f Jb z z)) (f Gw (f o12 z z) z)) (f Fo (f Gb (f HS z z) z) (f GP (f II z z) z))))) (f Ag (f o20 (f o36 (f o12 (f Fv (f GW z z) (f IP z z)) (f o11 (f Ia z z) z)) (f o11 (f o11 (f HB z z) z) (f o11 (f o12 z z) z))) (f o28 (f o84 (f o12 (f o12 z z) (f IZ z z)) (f Gu (f Ik z z) z)) (f Fl (f FZ (f HN z z) z) (f GM (f IG z z) z)))) (f o28 (f o12 (f o28 (f FA (f o11 z z) (f o11 z z)) (f o12 (f o11 z z) z)) (f o12 (f o12 (f HG z z) z) (f o12 (f IB z z) z))) (f o60 (f o12 (f FK (f Hq z z) (f Jd z z)) (f Gy (f o11 z z) z)) (f o11 (f Gd (f o12 z z) z) (f o11 (f IL z z) z)))))) (f boot_o_6 (f boot_o_10 (f o11 (f o34 (f o66 (f Fu (f GV z z) (f o11 z z)) (f Gh (f o11 z z) z)) (f o98 (f FO (f o11 z z) z) (f GC (f Iw z z) z))) (f o50 (f o82 (f FF (f Hj z z) (f IX z z)) (f Gr (f Ij z z) z)) (f o11 (f FX (f HL z z) z) (f o11 (f o11 z z) z)))) (f o26 (f o42 (f o74 (f o11 (f He z z) (f o12 z z)) (f Gn (f o12 z z) z)) (f Fg (f FT (f HE z z) z) (f GH (f o11 z z) z))) (f o58 (f o90 (f o11 (f o11 z z) (f o11 z z)) (f o11 (f Ip z z) z)) (f o12 (f o11 (f HV z z) z) (f o12 (f IJ z z) z))))) (f o14 (f o11 (f o38 (f o70 (f Fx (f GY z z) (f IQ z z)) (f Gj (f Ib z z) z)) (f Fc (f FQ (f o11 z z) z) (f GE (f o11 z z) z))) (f o54 (f o86 (f o11 (f o11 z z) (f o12 z z)) (f o12 (f Im z z) z)) (f Fm (f o12 (f HQ z z) z) (f GN (f o11 z z) z)))) (f o30 (f o46 (f o78 (f o11 (f Hg z z) (f IV z z)) (f Gp (f Ih z z) z)) (f o11 (f FV (f o12 z z) z) (f o11 (f ID z z) z))) (f o62 (f o94 (f FM (f Hs z z) (f Je z z)) (f GA (f Ir z z) z)) (f Fs (f Gf (f o11 z z) z) (f GT (f o12 z z) z))))))))
abbrev s0(w:G2)(os:OsState):SharedT:=%[t0 w.params,417,{ },(Array.mk []),%[0,0,0|0],767|os]
abbrev p0:Pos:=%[308,0,312|15]
abbrev st0:No Stmt:=(pt.main.body.drop 0).take 65
theorem q0(w:G2):(λ os=>segRunT treeTable pt w m0 an 1 3257 (sB w os) %[(execs st0 en).wrap doneF deadEnd id id,cE,pB|B])=λ os=>some (.next,s0 w os,cE,p0):=by rw[PySem.W.Fast.te10110043849684766642,PySem.W.Fast.te14364793385576792824,PySem.W.Fast.te12563942051412417395];kernel_rfl
def hF(P:Params):Heap:=%[%[|[boot_o_0 P,boot_o_1 P,boot_o_2 P,EY P,boot_o_4 P,boot_o_5 P,boot_o_6 P,boot_o_7 P,boot_o_8 P,boot_o_9 P,boot_o_10 P,o11 P,Ag P,o13 P,o14 P,o15 P,o16 P,o17 P,o11 P,o12 P,o20 P,o21 P,o11 P,o23 P,o24 P,o25 P,o26 P,o27 P,o28 P,o16 P,o30 P,o11 P,o12 P,o33 P,o34 P,o11 P,o36 P,o37 P,o38 P,o39 P,o28 P,o16 P,o42 P,o11 P,o12 P,o45 P,o46 P,o11 P,o48 P,o49 P,o50 P,o51 P,o28 P,o16 P,o54 P,o11 P,o12 P,o57 P,o58 P,o11 P,o60 P,o61 P,o62 P,o63 P,o28 P,o16 P,o66 P,o11 P,o12 P,o69 P,o70 P,o11 P,o72 P,o73 P,o74 P,o75 P,o28 P,o16 P,o78 P,o11 P,o12 P,o81 P,o82 P,o11 P,o84 P,o85 P,o86 P,o87 P,o28 P,o16 P,o90 P,o11 P,o12 P,o93 P,o94 P,o11 P,o96 P,o97 P,o98 P,o99 P,o11 P,o12 P,Fc P,o11 P,Fd P,Fe P,Fg P,o11 P,o12 P,Fh P,o11 P,Fi P,Fj P,Fk P,o11 P,o12 P,Fl P,o11 P,Fm P,Fn P,Fo P,o11 P,o12 P,Fp P,o11 P,Fq P,Fs P,Ft P,o11 P,o12 P,Fu P,o11 P,Fv P,Fw P,Fx P,o11 P,o12 P,Fy P,o11 P,Fz P,FA P,FB P,o11 P,o12 P,FC P,FE P,FF P,o11 P,o12 P,FG P,o11 P,FH P,FI P,FJ P,o11 P,o12 P,FK P,FL P,FM P,o11 P,o12 P,FN P,FO P,FP P,o11 P,o12 P,FQ P,o11 P,FR P,FS P,FT P,o11 P,o12 P,FU P,FV P,FW P,o11 P,o12 P,FX P,FY P,FZ P,o11 P,o12 P,Ga P,Gb P,Gc P,o11 P,o12 P,Gd P,Ge P,Gf P,o11 P,o12 P,Gg P,Gh P,Gi P,o11 P,o12 P,Gj P,o11 P,Gk P,Gm P,Gn P,o11 P,o12 P,Go P,Gp P,Gq P,o11 P,o12 P,Gr P,Gs P,Gu P,o11 P,o12 P,Gv P,Gw P,Gx P,o11 P,o12 P,Gy P,Gz P,GA P,o11 P,o12 P,GB P,GC P,GD P,o11 P,o12 P,GE P,o11 P,GF P,GG P,GH P,o11 P,o12 P,GI P,o11 P,GJ P,GK P,GL P,o11 P,o12 P,GM P,o11 P,GN P,GO P,GP P,o11 P,o12 P,GQ P,o11 P,GS P,GT P,GU P,o11 P,o16 P,GV P,o11 P,GW P,GX P,GY P,o11 P,o12 P,GZ P,He P,Hf P,o11 P,o12 P,Hg P,o11 P,Hh P,Hi P,Hj P,o11 P,o12 P,Hl P,o11 P,Hm P,Hn P,Ho P,o11 P,o12 P,Hq P,Hr P,Hs P,o11 P,o12 P,Ht P,o11 P,HA P,HB P,HC P,o11 P,o12 P,HD P,o11 P,HE P,HF P,HG P,o11 P,o12 P,HI P,o11 P,HJ P,HL P,HM P,HN P,HP P,HQ P,HR P,HS P,HU P,HV P,o11 P,o12 P,HW P,o11 P,HX P,HY P,HZ P,o11 P,o12 P,Ia P,o11 P,Ib P,Ic P,Id P,o11 P,o12 P,Ie P,o11 P,Ig P,Ih P,Ii P,o11 P,o12 P,Ij P,o11 P,Ik P,Il P,Im P,o11 P,o12 P,Io P,Ip P,Iq P,o11 P,o12 P,Ir P,o11 P,Iu P,Iv P,Iw P,o11 P,o12 P,Ix P,o11 P,Iy P,Iz P,IA P,o11 P,o12 P,IB P,IC P,ID P,o11 P,o12 P,IE P,o11 P,IF P,IG P,IH P,o11 P,o12 P,II P,o11 P,IJ P,IK P,IL P,o11 P,o12 P,IM P,IN P,IO P,o11 P,o12 P,IP P,o11 P,IQ P,IR P,IS P,o11 P,o12 P,IT P,o11 P,IU P,IV P,IW P,o11 P,o12 P,IX P,IY P,IZ P,o11 P,o12 P,Ja P,Jb P,Jc P,o11 P,o12 P,Jd P,o11 P,Je P,Jf P,Jg P]]|{ }]
abbrev sF(w:G2)(os:OsState):F9:=%[hF w.params,(Array.mk []),%[0,0,0|0],767|os]
theorem fin(w:G2):(λ os=>topRun treeTable pt w m0 an 2 (s0 w os).abs ⟨doneF .next,cE,p0,B⟩)=λ os=>some (sF w os):=by rw[PySem.W.Fast.te14082659384304107361,PySem.W.Fast.te14364793385576792824];kernel_rfl
theorem zL:behindTheImports pt=st0 ++ ([]):=by kernel_rfl
abbrev MM:Nat:=12+(1+(3257+2))
theorem Bv(w:G2)(os:OsState):topRun treeTable pt w m0 an MM (sZ w os) (topStub pt)=some (sF w os) :=
 go_top (congrFun (pre w) os) (piece_block (congrFun (blk w) os) (zL ▸ (piece_app (l:=st0) (segRun_of (congrFun (q0 w) os)) (piece_nil (congrFun (fin w) os)))))
def loose:No Str:=[oZ,xU,xV,xW,xX,xY,xZ,uw,ux,uy,uz,uA,EC,ED,uB,uC,uD,uE,uF,EE,EF,EG,EH,uG,uH,uI,uJ,uK,uL,uM,uN,uO,uP,uQ,uR,uS,uT,EI,EJ,uU,uV,pe,uW,uX,uY,uZ,vb,vc,vd,ve,vf,vg,vh,vi,vj,vk,vm]
abbrev NN:Nat:=6638
abbrev q:G0:=view pt [64]
abbrev Xt:F9->Bool:=λ s=>xlAt q [] s && recOk [] s
theorem size(w:G2):((boot_heap w.params).isNs Np && (Array.mk []:Nn GenState).size == 0,(boot_heap w.params).objs.size,(boot_heap w.params).nsMap Np "__annotations__")=(true,m0,an):=by rw[PySem.W.Fast.te8920871248978507458];kernel_rfl
theorem Jh(w:G2):(λ os=>((staticsOk (importedModules pt.main.body) (boot_heap w.params) (hF w.params) && namesBound pt (hF w.params) && gensDone (sF w os) && laidKept (boot_heap w.params) (hF w.params)),openSeen q loose (importedModules pt.main.body) Xt true (sF w os),HK.obs (sF w os)))=λ _=>(true,openGood q loose,HK.val w):=by rw[PySem.W.Fast.te4187177175401517315,PySem.W.Fast.te5923862056798008813];kernel_rfl
theorem left:LeftO pt q loose Xt HK.obs HK.val NN true:=LeftO.of_pieces (boot_open (by kernel_rfl) ∅ (λ s=>rfl)) size Bv ∅ Jh
end Hd
open PySem PySem.W PyProof.Rows
set_option maxRecDepth 100000 in
set_option maxHeartbeats 0 in
theorem PySem.Challenge.cw_platecuts_k72_whole_fewest_holds : PySem.Challenge.rw_platecuts_k72_whole_fewest.Holds := by
 w_on;o_law
 show holds_open (q:=view PySem.Challenge.pw_platecuts_k72_whole_fewest [64]) (loose:=Hd.loose) (Xt:=λ s=>xlAt (view PySem.Challenge.pw_platecuts_k72_whole_fewest [64]) [] s && recOk [] s) (XP:=XL (view PySem.Challenge.pw_platecuts_k72_whole_fewest [64]) []) (Yf:=Hook.obs Hd.HK) (Ya:=Hook.val Hd.HK) (YP:=InK Pc.kK) (N:=Hd.NN) ?hl (Hook.of Hd.HK) (Hook.keeps Hd.HK) (λ s e=>xl_of s (E1.mp e).1) XL.keeps (by rfl) (by rfl) (by rfl) (λ s e=>recFacts_of (E1.mp e).2) (by rfl) (by first | assumption | decide +kernel) (by decide +kernel) ⟨rfl,rfl,rfl,rfl,rfl,by decide +kernel⟩ ?hw ?hc
 case hl=>exact Hd.pt_eq ▸ Hd.left
 case hw=>w_witness2
 k_fill
 show Pc.walk (l:=PySem.Challenge.rw_platecuts_k72_whole_fewest) rfl rfl (λ w h Y=>Y) ?F
 case F=>
  intro w mg fa h KX G hmg;refine' Pc.all_mk KX G hmg ?d0 ?d1 ?d2 ?d3 ?d4 ?d5 ?d6 ?d7 ?d8 ?d9 ?d10 ?d11 ?d12 ?d13 ?d14 ?d15 ?d16 ?d17 ?d18 ?d19 ?d20 ?d21 ?d22 ?d23 ?d24 ?d25 ?d26 ?d27 ?d28 ?d29 ?d30 ?d31 ?d32 ?d33 ?d34 ?d35 ?d36 ?d37 ?d38 ?d39 ?d40 ?d41 ?aC ?dm0 ?dm1 ?dm2 ?dm3 ?dm4 ?dm5 ?dm6 ?pg ?hd ?po ?sa ?mk ?kc ?n0 ?n1 ?z0 ?z1 ?z2 ?z3 ?z4 ?z5 ?z6 ?z7 ?z8 ?z9 ?z10 ?z11 ?z12 ?z13 ?z14 ?z15 ?z16 ?z17 ?z18 ?z19 ?uc0 ?uc1 ?uc2 ?uc3 ?uc4 ?uc5 ?uc6 ?uc7
  (case d0 | d1 | d2 | d3 | d4 | d5 | d6 | d7 | d8 | d9 | d10 | d11 | d12 | d13 | d14 | d15 | d16 | d17 | d18 | d19 | d20 | d21 | d22 | d23 | d24 | d25 | d26 | d27 | d28 | d29 | d30 | d31 | d32 | d33 | d34 | d35 | d36 | d37 | d38 | d39 | d40 | d41=>refine' Pc.diM ?a ?l ?c ?k;(case a=>k_is);(case l=>k_is);(case c=>k_is);(case k=>k_is))
  (case aC=>k_is)
  (case dm0 | dm1 | dm2 | dm3 | dm4 | dm5 | dm6=>refine' Pc.miM ?a ?i ?l ?c ?k;(case a=>k_is);(case i=>k_is);(case l=>k_is);(case c=>k_is);(case k=>k_is))
  (case pg | hd | po | sa | mk | kc | n0 | n1 | z0 | z1 | z2 | z3 | z4 | z5 | z6 | z7 | z8 | z9 | z10 | z11 | z12 | z13 | z14 | z15 | z16 | z17 | z18 | z19 | uc0 | uc1 | uc2 | uc3 | uc4 | uc5 | uc6 | uc7=>k_is)