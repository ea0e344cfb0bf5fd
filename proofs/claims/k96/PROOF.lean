import PyProof.Rows.All
import Wide.All
import OpenK.AllK
import Wide.FinOn
import Lean
import PyProof.EqAt
import PyProof.EqKinds
import PyProof.TupleCall
import PyProof.Draws
import PyProof.WalksMore
import PyProof.EnumMake
import PyProof.ReprRoads
import PyProof.Rows.SortWalk
import PyProof.Rows.SumAny
import PyProof.FitsBits
import KE.KSortTup
import KE.KRevIter
import PyProof.NeData
import PyProof.StrWalks
import PyProof.StrCalls6
import PyProof.StrCalls
import PyProof.StrLawsIn
import PyProof.FitsReplace
import PySem.Challenge.RW_platecuts_k96_whole_one_telling_one_lot
set_option maxRecDepth 100000
set_option maxHeartbeats 0
set_option hygiene false in
local macro_rules|`(tactic|exists $x)=>`(tactic|refine F.ok $x (fun vs H Q E h=>?_) (fun cdv A outer s H vs Q E hr h=>?_))
local macro_rules|`(def $i $s:optDeclSig $v:declVal)=>`(noncomputable def $i $s:optDeclSig $v:declVal)
local macro_rules|`(abbrev $i $s:optDeclSig $v:declVal)=>`(noncomputable abbrev $i $s:optDeclSig $v:declVal)
local macro_rules|`(∅)=>`(by decide +kernel)
local macro_rules|`(⋯)=>`(by lia)
local macro_rules|`(↑$x)=>`(some (.ref $x))
local macro_rules|`(⇑$x)=>`(some (.int $x))
local macro_rules|`(↥$x)=>`(some (.lst $x))
local macro_rules|`(~~~$x)=>`(some (.tup $x))
local macro_rules|`(%[$xs,*|$y])=>if y.raw.getId.hasMacroScopes then Lean.Macro.throwUnsupported else `(⟨$(xs.getElems.push y),*⟩)
section
open PySem PySem.W PySem.Spec PyProof PyProof.Rows
abbrev F4:=@Shared
abbrev F5:=@Program
abbrev F6:=@FuncData
abbrev F7:=@World
abbrev F8:=@Value
abbrev A0:=@wpAny_bind
abbrev A2:=@wpAny_pure
abbrev A3:=@wpS_bind
abbrev A4:=@wpS_pure
abbrev A5:=@List.mem_append_right
theorem A6:type_of% @List.getElem?_eq_some_iff:=@List.getElem?_eq_some_iff
abbrev A7:=@Heap.get?_push_of_some
abbrev A8:=@Heap.get?_push_size
abbrev A9:=@Heap.lt_size
abbrev B0:=@decide_eq_true
abbrev B1:=@decide_eq_false
theorem B2:type_of% @Bool.false_ne_true:=@Bool.false_ne_true
theorem B3:type_of% @Nat.le_refl:=@Nat.le_refl
theorem B4:type_of% @List.mem_cons_of_mem:=@List.mem_cons_of_mem
abbrev B5:=@List.mem_of_getElem?
abbrev B6:=@List.mem_append_left
theorem B7:type_of% @List.mem_cons_self:=@List.mem_cons_self
theorem B8:type_of% @Option.some.inj:=@Option.some.inj
theorem B9:type_of% @Nat.ne_of_lt:=@Nat.ne_of_lt
abbrev C0:=@of_decide_eq_true
theorem C1:type_of% @Nat.lt_of_lt_of_le:=@Nat.lt_of_lt_of_le
abbrev C2:=@List.mem_append
abbrev C3:=@beq_iff_eq
abbrev C4:=@PySem.W.Frag
abbrev C5:=@Nat.le_trans
abbrev C6:=@Nat.lt_of_le_of_lt
theorem C7:type_of% @List.getElem?_eq_none:=@List.getElem?_eq_none
theorem C8:type_of% @Nat.lt_irrefl:=@Nat.lt_irrefl
theorem C9:type_of% @List.mem_singleton:=@List.mem_singleton
abbrev E1:=@Paired.length
abbrev E2:=@PassesOwn.never
abbrev E3:=@Int.le_refl
abbrev E4:=@PySem.W.fnOf
abbrev E5:=@False.elim
abbrev E6:=@Nat.zero_le
theorem E7:type_of% @Nat.not_lt_zero:=@Nat.not_lt_zero
theorem E8:type_of% @Nat.lt_succ_self:=@Nat.lt_succ_self
theorem E9:type_of% @List.getElem?_eq_getElem:=@List.getElem?_eq_getElem
abbrev F0:=@wpAny_truthy_bool
abbrev F1:=@wpAny_call_entry
abbrev F2:=@wpAny_newObj_type
abbrev F3:=@PySem.F.plainAttrs_list
theorem G4:type_of% @List.length_map:=@List.length_map
theorem G5:type_of% @List.mem_cons:=@List.mem_cons
theorem G6:type_of% @List.length_append:=@List.length_append
theorem G7:type_of% @List.size_toArray:=@List.size_toArray
theorem G8:type_of% @List.length_cons:=@List.length_cons
theorem I9:type_of% @List.map_append:=@List.map_append
theorem J0:type_of% @List.map_cons:=@List.map_cons
theorem J1:type_of% @List.not_mem_nil:=@List.not_mem_nil
theorem J2:type_of% @List.getElem?_map:=@List.getElem?_map
theorem J3:type_of% @List.length_take:=@List.length_take
theorem J4:type_of% @Int.toNat_natCast:=@Int.toNat_natCast
theorem J5:type_of% @List.take_add_one:=@List.take_add_one
theorem J6:type_of% @List.sum_cons:=@List.sum_cons
theorem J7:type_of% @List.append_nil:=@List.append_nil
theorem J8:type_of% @List.length_replicate:=@List.length_replicate
theorem J9:type_of% @Bool.false_eq_true:=@Bool.false_eq_true
theorem K0:type_of% @List.length_filter_le:=@List.length_filter_le
theorem K1:type_of% @List.take_of_length_le:=@List.take_of_length_le
theorem K2:type_of% @List.take_length:=@List.take_length
theorem K3:type_of% @Array.length_toList:=@Array.length_toList
theorem K4:type_of% @Bool.and_eq_true:=@Bool.and_eq_true
theorem K5:type_of% @List.length_filterMap_le:=@List.length_filterMap_le
theorem K6:type_of% @List.cons_append:=@List.cons_append
theorem K7:type_of% @List.mem_map:=@List.mem_map
theorem K8:type_of% @Bool.and_true:=@Bool.and_true
theorem K9:type_of% @List.filterMap_cons:=@List.filterMap_cons
theorem M0:type_of% @Bool.and_false:=@Bool.and_false
theorem M1:type_of% @Option.toList_some:=@Option.toList_some
theorem M2:type_of% @Option.map_eq_some_iff:=@Option.map_eq_some_iff
theorem M3:type_of% @List.mem_map_of_mem:=@List.mem_map_of_mem
theorem M4:type_of% @Bool.true_and:=@Bool.true_and
theorem M5:type_of% @List.lookup_cons:=@List.lookup_cons
theorem M6:type_of% @List.length_range:=@List.length_range
theorem M7:type_of% @List.sum_append:=@List.sum_append
theorem M8:type_of% @List.drop_eq_getElem_cons:=@List.drop_eq_getElem_cons
theorem M9:type_of% @List.filter_cons:=@List.filter_cons
theorem N0:type_of% @List.map_map:=@List.map_map
theorem N1:type_of% @List.append_assoc:=@List.append_assoc
theorem N2:type_of% @List.map_congr_left:=@List.map_congr_left
theorem N3:type_of% @Bool.false_and:=@Bool.false_and
theorem N4:type_of% @List.getElem?_append_right:=@List.getElem?_append_right
theorem N5:type_of% @List.getD_eq_getElem?_getD:=@List.getD_eq_getElem?_getD
theorem N6:type_of% @Array.getElem?_toList:=@Array.getElem?_toList
theorem N7:type_of% @List.perm_append_comm:=@List.perm_append_comm
theorem N8:type_of% @List.getElem?_append_left:=@List.getElem?_append_left
theorem N9:type_of% @List.nodup_cons:=@List.nodup_cons
theorem O0:type_of% @Nat.lt_succ_of_lt:=@Nat.lt_succ_of_lt
theorem O1:type_of% @List.dropLast_concat:=@List.dropLast_concat
theorem O2:type_of% @List.getElem_of_mem:=@List.getElem_of_mem
theorem O3:type_of% @Nat.ne_of_gt:=@Nat.ne_of_gt
theorem O4:type_of% @List.map_nil:=@List.map_nil
theorem O5:type_of% @List.filter_append:=@List.filter_append
theorem O6:type_of% @Nat.max_le:=@Nat.max_le
theorem O7:type_of% @List.filterMap_append:=@List.filterMap_append
theorem O8:type_of% @Int.zero_add:=@Int.zero_add
theorem O9:type_of% @List.all_cons:=@List.all_cons
theorem PY:type_of% @Bool.eq_iff_iff:=@Bool.eq_iff_iff
theorem PZ:type_of% @List.of_mem_zip:=@List.of_mem_zip
theorem P0:type_of% @List.filter_nil:=@List.filter_nil
theorem P3:type_of% @Int.add_mul:=@Int.add_mul
theorem P4:type_of% @Int.add_zero:=@Int.add_zero
theorem P5:type_of% @Int.le_trans:=@Int.le_trans
abbrev P6:=@Addr
abbrev P7:=@Keyed
abbrev P8:=@Option
abbrev P9:=@Array
abbrev QA:=@List
abbrev QB:=@mainGlobals
theorem QG:type_of% @decide_eq_true:=@decide_eq_true
theorem QH:type_of% @if_neg:=@if_neg
theorem QI:type_of% @if_pos:=@if_pos
theorem QJ:type_of% @decide_eq_false:=@decide_eq_false
theorem QK:type_of% @PyProof.Rows.boot_tuple:=@PyProof.Rows.boot_tuple
theorem QL:type_of% @PySem.wpAny_holding:=@PySem.wpAny_holding
theorem QM:type_of% @PyProof.Rows.callWith_type1:=@PyProof.Rows.callWith_type1
theorem QN:type_of% @if_false:=@if_false
theorem QO:type_of% @or_false:=@or_false
theorem QP:type_of% @PySem.Heap.size_push:=@PySem.Heap.size_push
theorem QQ:type_of% @PySem.boot_len:=@PySem.boot_len
theorem QR:type_of% @PySem.F.slot_list_append:=@PySem.F.slot_list_append
theorem QS:type_of% @PySem.F.type_list_append:=@PySem.F.type_list_append
theorem QT:type_of% @PyProof.Rows.KeyOrd.kle_refl:=@PyProof.Rows.KeyOrd.kle_refl
theorem QU:type_of% @PyProof.Rows.boot_isinstance:=@PyProof.Rows.boot_isinstance
theorem QV:type_of% @congrArg:=@congrArg
theorem QW:type_of% @PySem.wpAny_pyIter_tuple:=@PySem.wpAny_pyIter_tuple
theorem QX:type_of% @PySem.F.slot_list_extend:=@PySem.F.slot_list_extend
theorem QY:type_of% @PySem.F.type_list_extend:=@PySem.F.type_list_extend
theorem QZ:type_of% @PySem.wpAny_field:=@PySem.wpAny_field
theorem Qa:type_of% @if_true:=@if_true
theorem Qb:type_of% @PySem.wpAny_loadPart':=@PySem.wpAny_loadPart'
theorem Qc:type_of% @PySem.F.slot_list_pop:=@PySem.F.slot_list_pop
theorem Qd:type_of% @PySem.F.type_list_pop:=@PySem.F.type_list_pop
theorem Qe:type_of% @PyProof.Rows.boot_sum:=@PyProof.Rows.boot_sum
theorem Qg:type_of% @PySem.wpAny_passesOwn:=@PySem.wpAny_passesOwn
theorem Qh:type_of% @PyProof.Rows.boot_sorted:=@PyProof.Rows.boot_sorted
theorem Qi:type_of% @PySem.mem_of_lookup:=@PySem.mem_of_lookup
theorem Qj:type_of% @PySem.SeqAt.eqv_refl:=@PySem.SeqAt.eqv_refl
theorem Qk:type_of% @PySem.wpAny_mono:=@PySem.wpAny_mono
end
theorem zS2:2<=PySem.sizeLine:=∅
theorem zS5:5<=PySem.sizeLine:=∅
theorem zS1:1<=PySem.sizeLine:=∅
theorem zS3:3<=PySem.sizeLine:=∅
theorem zS4:4<=PySem.sizeLine:=∅
theorem zS0:0<=PySem.sizeLine:=∅
theorem Y{α:Sort _}{a:α}:a=a:=rfl
set_option Elab.async false
set_option linter.all false
namespace L2
open PySem PySem.Spec PyProof.Rows
abbrev Key:=Sum Int Str
def zG:Key->F8->Bool
 | .inl k,v=>Value.isInt k v
 | .inr x,v=>Value.isStrOf x v
def MH(w:F7):Key->Int
 | .inl k=>hashInt k
 | .inr x=>hashStr w x
theorem bC:∀{k:Key}{v:F8},zG k v=true->(∃i t,k=Sum.inl i/\v=Value.int i t)\/(∃x t,k=Sum.inr x/\v=Value.str x t)
 | .inl i,v,h=>by obtain⟨t,e⟩:=Value.isInt_shape (k:=i) (v:=v) h;exact .inl %[i,t,Y|e]
 | .inr x,v,h=>by obtain⟨t,e⟩:=Value.isStrOf_shape (x:=x) (v:=v) h;exact .inr %[x,t,Y|e]
theorem zX(a b:Int):decide ((Sum.inl a:Key)=Sum.inl b)=(a == b):=by
 by_cases e:a=b
 ·subst e;simp
 ·have h:¬ (Sum.inl a:Key)=Sum.inl b:=λ q=>e (Sum.inl.inj q);rw[QJ h];exact(beq_eq_false_iff_ne.mpr e).symm
theorem zY(a b:Str):decide ((Sum.inr a:Key)=Sum.inr b)=decide (a=b):=by
 by_cases e:a=b
 ·subst e;simp
 ·have h:¬ (Sum.inr a:Key)=Sum.inr b:=λ q=>e (Sum.inr.inj q);rw[QJ h,QJ e]
theorem zZ(a:Int)(b:Str):decide ((Sum.inl a:Key)=Sum.inr b)=false:=B1 (λ q=>nomatch q)
theorem Aa(a:Str)(b:Int):decide ((Sum.inr a:Key)=Sum.inl b)=false:=B1 (λ q=>nomatch q)
def li(prog:F5)(w:F7):PySem.KeyKind prog w Key where
 is:=zG
 hash:=MH w
 inj:=λ v a b ha hb=>by
  rcases bC ha with⟨i,t,rfl,rfl⟩ | ⟨x,t,rfl,rfl⟩
  ·rcases bC hb with⟨j,u,rfl,e⟩ | ⟨y,u,rfl,e⟩
   ·injection e with e1 _;rw[e1]
   ·exact nomatch e
  ·rcases bC hb with⟨j,u,rfl,e⟩ | ⟨y,u,rfl,e⟩
   ·exact nomatch e
   ·injection e with e1 _;rw[e1]
 byValue:=λ k v h=>by rcases bC h with⟨i,t,rfl,rfl⟩ | ⟨x,t,rfl,rfl⟩ <;> rfl
 pyHash:=λ hv h=>by
  rcases bC hv with⟨i,t,rfl,rfl⟩ | ⟨x,t,rfl,rfl⟩
  ·exact wpAny_pyHash_int h
  ·exact wpAny_pyHash_str h
 eqBool:=λ hu hv h=>by
  rcases bC hu with⟨i,t,rfl,rfl⟩ | ⟨x,t,rfl,rfl⟩
  ·rcases bC hv with⟨j,u,rfl,rfl⟩ | ⟨y,u,rfl,rfl⟩
   ·rw[zX]at h;exact wpAny_eqBool_int h
   ·rw[zZ]at h;exact SeqAt.EqAt.int_str i t y u _ _ _ _ h
  ·rcases bC hv with⟨j,u,rfl,rfl⟩ | ⟨y,u,rfl,rfl⟩
   ·rw[Aa]at h;exact SeqAt.EqAt.str_int x t j u _ _ _ _ h
   ·rw[zY]at h;exact wpAny_eqBool_str h
 «strs» := λ k x t v h=>by
  rcases bC h with⟨i,u,rfl,e⟩ | ⟨y,u,rfl,e⟩
  ·exact nomatch e
  ·injection e with e1 _
   subst e1;cases v <;> rfl
inductive V where
 | non | bl (b:Bool) | int (i:Int) | str (x:Str) | byt (b:P9 UInt8) | flt (b:UInt64) | ref (a:P6) | ty (n:String)
 deriving DecidableEq
def RelV:V->F8->Prop
 | .non,u=>u=Value.none
 | .bl b,u=>u=Value.bool b
 | .int i,u=>∃t,u=Value.int i t
 | .str x,u=>∃t,u=Value.str x t
 | .byt b,u=>∃t,u=Value.bytes b t
 | .flt b,u=>∃t,u=Value.float b t
 | .ref a,u=>u=Value.ref a
 | .ty n,u=>u=Value.type n
abbrev Vals:QA V->QA F8->Prop:=Paired RelV
theorem Vals.length{xs:QA V}{us:QA F8}(r:Vals xs us):xs.length=us.length:=E1 r
theorem Vals.get:∀{xs:QA V}{us:QA F8}{i:Nat}{x:V},Vals xs us->xs[i]?=some x->∃u,us[i]?=some u/\RelV x u
 | _,_,_,_,.nil,e=>by simp at e
 | _,_,0,_,.cons r _,e=>by simp at e;subst e;exact%[_,Y|r]
 | _,_,i+1,x,.cons _ t,e=>by obtain⟨u,h1,h2⟩:=Vals.get (i:=i) (x:=x) t (by simpa using e);exact%[u,by simpa using h1|h2]
theorem Vals.set{x:V}{u:F8}(r:RelV x u):∀{xs:QA V}{us:QA F8}(i:Nat),Vals xs us->Vals (xs.set i x) (us.set i u)
 | _,_,_,.nil=>.nil
 | _,_,0,.cons _ t=>.cons r t
 | _,_,i+1,.cons q t=>.cons q (Vals.set r i t)
theorem Vals.append:∀{xs ys:QA V}{us ws:QA F8},Vals xs us->Vals ys ws->Vals (xs ++ ys) (us ++ ws)
 | _,_,_,_,.nil,s=>s
 | _,_,_,_,.cons r t,s=>.cons r (Vals.append t s)
theorem Vals.take:∀{xs:QA V}{us:QA F8}(n:Nat),Vals xs us->Vals (xs.take n) (us.take n)
 | _,_,0,_=>.nil
 | _,_,_+1,.nil=>.nil
 | _,_,n+1,.cons r t=>.cons r (Vals.take n t)
theorem Vals.drop:∀{xs:QA V}{us:QA F8}(n:Nat),Vals xs us->Vals (xs.drop n) (us.drop n)
 | _,_,0,r=>r
 | _,_,_+1,.nil=>.nil
 | _,_,n+1,.cons _ t=>Vals.drop n t
def RelO:P8 V->P8 F8->Prop
 | some v,some u=>RelV v u
 | none,none=>True
 | _,_=>False
def KV{κ:Type}:QA (κ×V)->QA (κ×F8)->Prop:=Paired λ (p:κ×V)(q:κ×F8)=>p.1=q.1/\RelV p.2 q.2
def kV:Key->V
 | .inl i=>.int i
 | .inr x=>.str x
inductive HO where
 | lst (xs:QA V)
 | tup (xs:QA V)
 | dK (kvs:QA (Key×V)) | dT (kvs:QA (QA Key×V))
 | set (S:Int->Bool) (n:Nat)
 | ins (C dx:P6) (fs:QA (Str×V))
 | own (x:P6)
 | xd (fs:QA (Str×V))
 | met (f x:P6)
 | rng (lo hi:Int)
 | frz (o:Obj) (u:HO)
 | tbl (ps:P9 F8)
 | ext (φ:Heap->Prop)
abbrev Hp:=P6->P8 HO
def upd(H:Hp)(a:P6)(o:HO):Hp:=λ b=>if b=a then some o else H b
theorem af{H:Hp}{a:P6}{o:HO}:upd H a o a=some o:=by unfold upd;rw[QI rfl]
theorem ap{H:Hp}{a b:P6}{o:HO}(h:b≠a):upd H a o b=H b:=by unfold upd;rw[QH h]
theorem ax{H:Hp}{a b:P6}{o:HO}(h:H a=some o)(h':H b=none):a≠b:=by intro e;subst e;rw[h]at h';cases h'
section
variable(P:F5)(w:F7)
def ObjOk(H:Hp)(h:Heap)(a:P6):HO->Prop
 | .lst xs=>xs.length<=sizeLine/\∃(its:QA F8)(n:Nat),Vals xs its/\h.get? a=some { cls:=.type "list",data:=.seq its.toArray n }
 | .tup xs=>xs.length<=sizeLine/\∃its:QA F8,Vals xs its/\IsTup h a its.toArray
 | .dK kvs=>kvs.length<=sizeLine/\(a == sysModules)=false/\∃vs,KV kvs vs/\h.DictOf (li P w) a vs
 | .dT kvs=>kvs.length<=sizeLine/\(a == sysModules)=false/\∃xs:QA (QA Key×P6×F8),
   Paired (λ (p:QA Key×V)(q:QA Key×P6×F8)=>p.1=q.1/\H q.2.1= ~~~(p.1.map kV)/\RelV p.2 q.2.2) kvs xs /\
   ∃o es ep,h.get? a=some o/\o.ExactDict/\o.data=.dict es ep/\es.toList=xs.map (entryOfKey (tupleKind (li P w)))/\(xs.map (·.1)).Nodup
 | .set S n=>h.SetOf (intKind P w) a S n
 | .ins C dx fs=>H dx=some (.own a)/\fs.length<=1000/\dx≠a/\h.get? a=some (PySem.W.instObj C dx) /\
   ∃mA,h.Ns1 dx mA/\(∀f,RelO (fs.lookup f) (mA f))/\PySem.Within mA (fs.map (·.1))
 | .own _=>∃o,h.get? a=some o
 | .xd fs=>∃mA,h.Ns1 a mA/\∀f,RelO (fs.lookup f) (mA f)
 | .rng lo hi=>∃t u v,h.get? a=some { cls:=.type "range",data:=.fields #[.int lo t,.int hi u,.int 1 v] }
 | .frz o u=>h.get? a=some o/\ObjOk H h a u
 | .tbl ps=>h.get? a=some { cls:=.none,data:=.fields ps }
 | .met f x=>h.get? a=some (PySem.W.methodObj (.ref f) (.ref x))
 | .ext φ=>φ h/\(∃o,h.get? a=some o)/\∀h1 h2:Heap,φ h1->(∀o,h1.get? a=some o->h2.get? a=some o)->φ h2
def HOk(H:Hp)(h:Heap):Prop:=∀a o,H a=some o->ObjOk P w H h a o
end
section
variable{P:F5}{w:F7}{H H':Hp}{h h':Heap}{a:P6}{o:HO}
theorem ObjOk.lt(x:ObjOk P w H h a o):a < h.objs.size:=by
 cases o with
 | lst xs=>obtain⟨_,_,_,_,e⟩:=x;exact A9 e
 | tup xs=>obtain⟨_,_,_,p⟩:=x;exact p.lt
 | dK kvs=>obtain⟨_,_,_,_,o,_,_,e,_⟩:=x;exact A9 e
 | dT kvs=>obtain⟨_,_,_,_,o,_,_,e,_⟩:=x;exact A9 e
 | set S n=>obtain⟨o,_,_,_,e,_⟩:=x;exact A9 e
 | ins C dx fs=>obtain⟨_,_,_,e,_⟩:=x;exact A9 e
 | own y=>obtain⟨_,e⟩:=x;exact A9 e
 | xd fs=>obtain⟨_,⟨_,_,_,e,_⟩,_⟩:=x;exact A9 e
 | rng lo hi=>obtain⟨_,_,_,e⟩:=x;exact A9 e
 | frz ob u=>obtain⟨e,_⟩:=x;exact A9 e
 | tbl ps=>exact A9 (show h.get? a=some _ from x)
 | met f y=>exact A9 (show h.get? a=some _ from x)
 | ext φ=>obtain⟨_,⟨_,e⟩,_⟩:=x;exact A9 e
theorem Paired.mapP{α β:Type}{F G:α->β->Prop}:∀{l₁:QA α}{l₂:QA β},Paired F l₁ l₂->(∀a b,F a b->G a b)->Paired G l₁ l₂
 | _,_,.nil,_=>.nil
 | _,_,.cons r t,f=>.cons (f _ _ r) (Paired.mapP t f)
abbrev G2:=@Paired.mapP
theorem ObjOk.stay(x:ObjOk P w H h a o)(k:∀b u,(b=a\/H b=some (.own a))->h.get? b=some u->h'.get? b=some u)
  (ho:∀b,H b=some (.own a)->H' b=some (.own a)) (ht:∀b xs,H b= ~~~xs->H' b= ~~~xs):ObjOk P w H' h' a o:=by
 induction o with
 | lst xs=>obtain⟨z,its,n,r,e⟩:=x;exact%[z,its,n,r|k _ _ (.inl rfl) e]
 | tup xs=>obtain⟨z,its,r,ob,e,c⟩:=x;exact%[z,its,r,ob,k _ _ (.inl rfl) e|c]
 | dK kvs=>obtain⟨z,y,vs,r,ob,es,ep,e,c⟩:=x;exact%[z,y,vs,r,ob,es,ep,k _ _ (.inl rfl) e|c]
 | dT kvs=>
  obtain⟨z,y,xs,r,ob,es,ep,e,c⟩:=x;exact%[z,y,xs,G2 r λ p q z=>%[z.1,ht _ _ z.2.1|z.2.2],ob,es,ep,k _ _ (.inl rfl) e|c]
 | set S n=>obtain⟨ob,es,ep,t,e,c⟩:=x;exact%[ob,es,ep,t,k _ _ (.inl rfl) e|c]
 | ins C dx fs=>
  obtain⟨d,z,ne,e,mA,⟨od,es,ep,e2,c⟩,r⟩:=x;exact%[ho _ d,z,ne,k _ _ (.inl rfl) e,mA,%[od,es,ep,k _ _ (.inr d) e2|c]|r]
 | own y=>obtain⟨ob,e⟩:=x;exact%[ob|k _ _ (.inl rfl) e]
 | xd fs=>obtain⟨mA,⟨od,es,ep,e,c⟩,r⟩:=x;exact%[mA,%[od,es,ep,k _ _ (.inl rfl) e|c]|r]
 | rng lo hi=>obtain⟨t,u,v,e⟩:=x;exact%[t,u,v|k _ _ (.inl rfl) e]
 | frz ob u ih=>obtain⟨e,q⟩:=x;exact%[k _ _ (.inl rfl) e|ih q]
 | tbl ps=>
  have e:h.get? a=some { cls:=.none,data:=.fields ps }:=x;show h'.get? a=some { cls:=.none,data:=.fields ps };exact k a _ (.inl rfl) e
 | met f y=>
  have e:h.get? a=some (PySem.W.methodObj (.ref f) (.ref y)):=x;show h'.get? a=some (PySem.W.methodObj (.ref f) (.ref y));exact k a _ (.inl rfl) e
 | ext φ=>obtain⟨p,⟨o,e⟩,st⟩:=x;exact%[st _ _ p λ o q=>k _ _ (.inl rfl) q,%[o|k _ _ (.inl rfl) e]|st]
theorem HOk.lt(x:HOk P w H h)(e:H a=some o):a < h.objs.size:=(x a o e).lt
theorem HOk.fresh(x:HOk P w H h)(e:h.objs.size<=a):H a=none:=by
 cases q:H a with
 | none=>rfl
 | some u=>exact absurd (C1 (x.lt q) e) (C8 _)
theorem HOk.kept(x:HOk P w H h)(k:∀b u,h.get? b=some u->h'.get? b=some u):HOk P w H h':=λ a o e=>
 (x a o e).stay (λ b u _ q=>k b u q) (λ _ q=>q) λ _ _ q=>q
theorem HOk.laid(x:HOk P w H h)(k:∀b u,h.get? b=some u->h'.get? b=some u)(hp:h.objs.size<=a)(new:ObjOk P w (upd H a o) h' a o):HOk P w (upd H a o) h':=λ b u e=>by
 have hn:=x.fresh hp
 by_cases hb:b=a
 ·subst hb;rw[af]at e;cases e;exact new
 ·rw[ap hb]at e;exact(x b u e).stay (λ c v _ q=>k c v q) (λ c q=>by rw[ap (ax q hn)];exact q) λ c xs q=>by rw[ap (ax q hn)];exact q
end
def Rd(H:Hp)(a:P6)(u:HO):Prop:=H a=some u\/∃o,H a=some (.frz o u)
theorem Rd.ok{P:F5}{w:F7}{H:Hp}{h:Heap}{a:P6}{u:HO}(r:Rd H a u)(x:HOk P w H h):ObjOk P w H h a u:=by
 rcases r with r | ⟨o,r⟩
 ·exact x a u r
 ·obtain⟨_,q⟩:=x a _ r;exact q
def Mut:P8 HO->Prop
 | ↥_=>True
 | some (.dK _)=>True
 | some (.dT _)=>True
 | some (.set _ _)=>True
 | some (.ins _ _ _)=>True
 | some (.ext _)=>True
 | _=>False
section
variable{P:F5}{w:F7}{H:Hp}{h h':Heap}{x e:P6}{o':HO}
theorem HOk.write(ok:HOk P w H h)(mu:Mut (H x))(he:e=x\/H e=some (.own x))(k:∀b u,b≠e->h.get? b=some u->h'.get? b=some u)(heo:∃u,h'.get? e=some u)
  (new:ObjOk P w (upd H x o') h' x o'):HOk P w (upd H x o') h':=λ b u q=>by
 have nown:∀c y,H c=some (.own y)->c≠x:=λ c y r z=>by subst z;rw[r]at mu;exact mu
 have ntup:∀c xs,H c= ~~~xs->c≠x:=λ c xs r z=>by subst z;rw[r]at mu;exact mu
 by_cases hb:b=x
 ·subst hb;rw[af]at q;cases q;exact new
 ·rw[ap hb]at q
  by_cases hbe:b=e
  ·have q':H b=some (.own x):=by
    rcases he with z | z
    ·exact absurd (hbe.trans z) hb
    ·rw[hbe];exact z
   rw[q]at q';cases q';obtain⟨v,hv⟩:=heo;exact%[v|by rw[hbe];exact hv]
  ·refine(ok b u q).stay (λ c v hc r=>k c v ?_ r) (λ c r=>by rw[ap (nown c b r)];exact r) λ c xs r=>by rw[ap (ntup c xs r)];exact r
   rcases hc with rfl | hc
   ·exact hbe
   ·rintro rfl;rcases he with z | z
    ·exact nown c b hc z
    ·rw[hc]at z;cases z;exact hb rfl
end
structure Un(fs ex:QA P6)(H H':Hp)(h h':Heap):Prop where
 keep:∀b o,h.get? b=some o->H b=none->b∉fs->b∉ex->h'.get? b=some o
 slot:∀b o,h.get? b=some o->H b=none->b∈fs->b∉ex->∃sl,h'.get? b=some { o with slots:=sl }
 free:∀b o,h.get? b=some o->H b=none->b∉ex->H' b=none
 there:∀b o,h.get? b=some o->b∉ex->∃o',h'.get? b=some o'
 tups:∀b xs,H b= ~~~xs->H' b= ~~~xs
 frzs:∀b o u,H b=some (.frz o u)->H' b=some (.frz o u)
 tbls:∀b ps,H b=some (.tbl ps)->∃more,H' b=some (.tbl (ps ++ more))
section
variable{fs fs' ex ex':QA P6}{H H1 H2:Hp}{h h1 h2 h':Heap}{a x e:P6}{o:HO}
theorem Un.any(u:Un fs ex H H1 h h1){b:P6}{ob:Obj}(q:h.get? b=some ob)(n:H b=none)(hx:b∉ex):∃sl,h1.get? b=some { ob with slots:=sl }:=by
 by_cases hb:b∈fs
 ·exact u.slot b ob q n hb hx
 ·exact%[ob.slots|u.keep b ob q n hb hx]
theorem Un.kept(k:∀b u,h.get? b=some u->h'.get? b=some u):Un fs ex H H h h' :=
 %[λ b ob q _ _ _=>k b ob q,λ b ob q _ _ _=>%[ob.slots|k b ob q],λ _ _ _ n _=>n,λ b ob q _=>%[ob|k b ob q],λ _ _ q=>q,λ _ _ _ q=>q|λ _ ps q=>%[#[]|by rw[q];simp]]
theorem Un.refl:Un fs ex H H h h:=Un.kept λ _ _ q=>q
theorem Un.laid(k:∀b u,h.get? b=some u->h'.get? b=some u)(hp:h.objs.size<=a)(hn:H a=none):Un fs ex H (upd H a o) h h' where
 keep:=λ b u q _ _ _=>k b u q
 slot:=λ b u q _ _ _=>%[u.slots|k b u q]
 free:=λ b u q n _=>by rw[ap (B9 (C1 (Heap.lt_size q) hp))];exact n
 there:=λ b u q _=>%[u|k b u q]
 tups:=λ b xs q=>by rw[ap (ax q hn)];exact q
 frzs:=λ b u xs q=>by rw[ap (ax q hn)];exact q
 tbls:=λ b ps q=>%[#[]|by rw[ap (ax q hn),q];simp]
theorem Un.write(mu:Mut (H x))(he:e=x\/H e=some (.own x))(k:∀b u,b≠e->h.get? b=some u->h'.get? b=some u)(heo:∃u,h'.get? e=some u):Un fs ex H (upd H x o) h h':=by
 have hx:∀b,H b=none->b≠x:=λ b n z=>by subst z;rw[n]at mu;exact mu
 have hb:∀b,H b=none->b≠e:=λ b n z=>by
  subst z;rcases he with r | r
  ·exact hx b n r
  ·rw[n]at r;cases r
 have hm:∀b u,H b=some u->¬ Mut (some u)->b≠x:=λ b u q nm z=>by subst z;rw[q]at mu;exact nm mu
 refine⟨λ b u q n _ _=>k b u (hb b n) q,λ b u q n _ _=>%[u.slots|k b u (hb b n) q],λ b u q n _=>by rw[ap (hx b n)];exact n,λ b u q _=>?_,
  λ b xs q=>by rw[ap (hm b _ q λ z=>z)];exact q,λ b u xs q=>by rw[ap (hm b _ q λ z=>z)];exact q,λ b ps q=>%[#[]|by rw[ap (hm b _ q λ z=>z),q];simp]⟩
 by_cases hbe:b=e
 ·subst hbe;exact heo
 ·exact%[u|k b u hbe q]
end
def trk(h:Heap)(H:Hp):QA P6:=(List.range h.objs.size).filter λ a=>(H a).isSome
def lj(h:Heap)(H:Hp):Heap:=PySem.W.hideAll h (trk h H)
theorem rR(h:Heap)(H:Hp):(lj h H).objs.size=h.objs.size:=PySem.W.hideAll_size _ _
theorem ux{h:Heap}{H:Hp}{b:P6}{o:Obj}(e:h.get? b=some o)(n:H b=none):(lj h H).get? b=some o :=
 PySem.W.hideAll_get _ e λ hm=>by have q:(H b).isSome=true:=(List.mem_filter.mp hm).2;rw[n]at q;simp at q
theorem xA{h:Heap}{H:Hp}{b:P6}{o:Obj}(e:(lj h H).get? b=some o):h.get? b=some o/\H b=none:=by
 have e':h.get? b=some o:=PySem.W.of_hideAll (trk h H) e;refine%[e'|?_];cases q:H b with
 | none=>rfl
 | some x=>
  have hm:b∈trk h H:=List.mem_filter.mpr %[List.mem_range.mpr (A9 e')|by simp[q]];have z:(lj h H).get? b=none:=PySem.W.hideAll_none (trk h H) hm;rw[z]at e;cases e
def xB(g h:Heap)(L:P6):QA (P6×Obj):=(List.range h.objs.size).filterMap λ a=>if a=L\/(g.get? a).isSome=true then none else(h.get? a).map λ o=>(a,o)
def rest(g h:Heap)(L d:P6):QA (P6×Obj):=(xB g h L).filter λ p=>decide (p.1≠d)
structure Mod(K:C4)(mg:Str->P8 Value)(base:Heap):Prop where
 kin:K.In base
 glob:base.Ns QB mg
 blt:∃mb,base.Ns builtinsNs mb/\∀x:Str,x ≠ "__name__" -> mb x=bootBuiltins x
 nolimit:base.NoLimit
/-- the context: a def's body (or a comprehension's block) running. base: fixed through the aV law;s₀,H₀: the entry;outer: the frames whose slots others may change (a def's callers);stack: all frames that run;
   ex: iterators that were made ahead of the entry and are walked here (a comprehension's);fn: the names whose cells were made at the entry (a def: all;a comprehension's block: its own);calm: not within an except suite;pn: QC that every state bears;xe: what is wanted of an exception that leaves the code -/
structure Cx where
 prog:Program
 w:World
 K:C4
 mg:Str->P8 Value
 base:Heap
 A:Around
 N:QA Str
 s₀:Shared
 H₀:Hp
 env:Env
 outer:QA Env
 stack:QA Env
 ex:QA P6
 fn:Str->Bool
 calm:Bool
 pn:QA (P6×Obj)
 xe:F8->F4->Prop
def frs(l:QA Env):QA P6:=l.filterMap (·.frame)
abbrev Cx.fs(X:Cx):QA P6:=frs X.outer
def Vis(sc:Scope)(x:Str):Prop:=sc.names.lookup x=some .local\/sc.names.lookup x=some .cell\/sc.names.lookup x=some .free
def Loc(sc:Scope)(x:Str):Prop:=sc.names.lookup x=some .local\/sc.names.lookup x=some .cell
def MJ(env:Env)(h:Heap)(m:Str->P8 F8)(x:Str)(u:F8):Prop :=
 (env.kindOf x=some .local/\m x=some u)\/((env.kindOf x=some .cell\/env.kindOf x=some .free)/\∃c,env.cells.lookup x=some c/\h.IsCell c (some u))
structure Cx.Ok(X:Cx):Prop where
 mod:Mod X.K X.mg X.base
 kind:X.env.scope.kind=.function
 glob:X.env.globals=QB
 blt:X.env.builtins=builtinsNs
 above:X.s₀.heap.objs.size<=X.env.locals
 inj:∀x y c,X.env.cells.lookup x=some c->X.env.cells.lookup y=some c->x=y
 has:∀x,(X.env.kindOf x=some .cell\/X.env.kindOf x=some .free)->∃c,X.env.cells.lookup x=some c
 cab:∀x c,X.fn x=true->X.env.cells.lookup x=some c->X.s₀.heap.objs.size<=c
 hd:X.calm=true->X.A.handled=none
 frames:X.A.frames=some X.stack
 stk:X.stack=X.outer\/(X.stack=X.env :: X.outer/\X.env.frame=some X.env.locals)
 exf:∀b∈X.ex,b≠X.env.locals/\∀x c,X.env.cells.lookup x=some c->c≠b
 bs:∀b o,X.base.get? b=some o->X.s₀.heap.get? b=some o/\X.H₀ b=none
 bsz:X.base.objs.size<=X.s₀.heap.objs.size
 noex:∀b o,X.base.get? b=some o->b∉X.ex
 exfs:∀b∈X.ex,b∉X.fs
 funs:X.s₀.heap.FunFrames X.base X.outer
 frf:∀b∈X.fs,X.H₀ b=none
structure Inv(X:Cx)(QC:QA (P6×Obj))(σ:QA (P8 V))(H:Hp)(s:Shared):Prop where
 ok:X.Ok
 os:s.os=X.s₀.os
 bare:AllBare s.gens
 base:Un X.fs X.ex X.H₀ H X.s₀.heap s.heap
 loc:∃m,s.heap.Ns X.env.locals m/\∀(i:Nat)(x:Str)(v:V),X.N[i]?=some x->σ[i]?=some (some v)->Vis X.env.scope x->∃u,RelV v u/\MJ X.env s.heap m x u
 cell:∀x c,X.env.cells.lookup x=some c->∃v,s.heap.IsCell c v
 free:H X.env.locals=none
 freeC:∀x c,X.env.cells.lookup x=some c->H c=none
 pin:∀p∈X.pn ++ QC,s.heap.get? p.1=some p.2/\H p.1=none/\p.1≠X.env.locals/\p.1∉X.fs/\∀v,p.2.data≠.cell v
 hok:HOk X.prog X.w H s.heap
 len:σ.length=X.N.length
section
variable{X:Cx}{QC:QA (P6×Obj)}{σ:QA (P8 V)}{H H':Hp}{s:F4}{h':Heap}
theorem Cx.Ok.nofr(ok:X.Ok){b:P6}{o:Obj}(e:X.base.get? b=some o):b∉X.fs:=λ hb=>by have:=(ok.funs.mem hb).1;rw[e]at this;cases this
theorem Inv.bs(I:Inv X QC σ H s):∀b o,X.base.get? b=some o->s.heap.get? b=some o/\H b=none:=λ b o e=>
 %[I.base.keep b o (I.ok.bs b o e).1 (I.ok.bs b o e).2 (I.ok.nofr e) (I.ok.noex b o e)|I.base.free b o (I.ok.bs b o e).1 (I.ok.bs b o e).2 (I.ok.noex b o e)]
theorem Inv.bk(I:Inv X QC σ H s):∀b o,X.base.get? b=some o->s.heap.get? b=some o:=λ b o e=>(I.bs b o e).1
theorem Inv.mod(I:Inv X QC σ H s):Mod X.K X.mg X.base:=I.ok.mod
theorem Inv.kIn(I:Inv X QC σ H s):X.K.In s.heap:=I.ok.mod.kin.keeps I.bk
theorem Inv.fr(I:Inv X QC σ H s):∃m,Fr X.base X.env.locals s.heap m :=
 let ⟨m,hn,_⟩:=I.loc
 %[m,hn,I.bk|C5 I.ok.bsz I.ok.above]
theorem Inv.lt(I:Inv X QC σ H s):X.env.locals < s.heap.objs.size:=let ⟨_,hn,_⟩:=I.loc;hn.lt
theorem Inv.sz(I:Inv X QC σ H s):X.s₀.heap.objs.size<=s.heap.objs.size:=C5 I.ok.above (Nat.le_of_lt I.lt)
theorem Inv.nofs(I:Inv X QC σ H s){a:P6}(h:s.heap.objs.size<=a):a∉X.fs:=λ hb=>by obtain⟨_,o,ho,_⟩:=I.ok.funs.mem hb;exact absurd (C1 (A9 ho) (C5 I.sz h)) (C8 _)
theorem Inv.cne(I:Inv X QC σ H s):∀x c,X.env.cells.lookup x=some c->c≠X.env.locals:=λ x c e z=>by obtain⟨v,o,ho,hd⟩:=I.cell x c e;obtain⟨m,⟨o',es,ep,ho',hd',_⟩,_⟩:=I.loc;rw[z,ho']at ho;cases ho;rw[hd']at hd;cases hd
theorem Inv.funs(I:Inv X QC σ H s):s.heap.FunFrames X.base X.outer:=by
 have all:∀(l:QA Env),(∀b∈frs l,b∈X.fs)->X.s₀.heap.FunFrames X.base l->s.heap.FunFrames X.base l:=by
  intro l
  induction l with
  | nil=>intro _ _;trivial
  | cons env r ih=>
   intro hs hl;obtain⟨hk,⟨L,o,hf,hn,ho,hd⟩,hr⟩:=hl;have hL:L∈X.fs:=hs L (by unfold frs;rw[K9,hf];exact B7);obtain⟨sl,e⟩:=I.base.slot L o ho (I.ok.frf L hL) hL λ z=>I.ok.exfs L z hL;exact%[hk,%[L,_,hf,hn,e|hd]|ih (λ b hb=>hs b (by unfold frs;rw[K9,hf];exact B4 _ hb)) hr]
 exact all X.outer (λ _ hb=>hb) I.ok.funs
theorem Inv.stack(I:Inv X QC σ H s):s.heap.FunFrames X.base X.stack:=by
 rcases I.ok.stk with e | ⟨e,hf⟩
 ·rw[e];exact I.funs
 ·rw[e];obtain⟨m,hn,_⟩:=I.loc;refine .cons (by rw[I.ok.kind];decide) hf hn ?_ I.funs;exact Heap.get?_none_of_le (C5 I.ok.bsz I.ok.above)
theorem Inv.stkSub(I:Inv X QC σ H s):∀b∈frs X.stack,b∈X.env.locals :: X.fs:=λ b hb=>by
 rcases I.ok.stk with e | ⟨e,hf⟩
 ·rw[e]at hb;exact B4 _ hb
 ·rw[e]at hb;unfold frs at hb;rw[K9,hf]at hb;exact hb
theorem Inv.stkFree(I:Inv X QC σ H s):∀b∈frs X.stack,H b=none:=λ b hb=>by
 rcases G5.mp (I.stkSub b hb)with e | hb
 ·rw[e];exact I.free
 ·obtain⟨_,o,ho,_⟩:=I.ok.funs.mem hb;exact I.base.free b o ho (I.ok.frf b hb) λ z=>I.ok.exfs b z hb
theorem Inv.step{g':P9 GenState}{t':Nat}{d':Drawn}{ch:QA P6}(I:Inv X QC σ H s)
  (hch:∀b∈ch,(b∈X.ex\/X.s₀.heap.objs.size<=b)/\b≠X.env.locals/\(∀x c,X.env.cells.lookup x=some c->c≠b)/\∀p∈X.pn ++ QC,p.1≠b)
  (keep:∀b o,b≠X.env.locals->b∉X.fs->b∉ch->s.heap.get? b=some o->H b=none->h'.get? b=some o)
  (slot:∀b o,b≠X.env.locals->b∈X.fs->b∉ch->s.heap.get? b=some o->H b=none->∃sl,h'.get? b=some { o with slots:=sl }) (free:∀b o,b∉ch->s.heap.get? b=some o->H b=none->H' b=none)
  (there:∀b o,b∉ch->s.heap.get? b=some o->∃o',h'.get? b=some o')
  (tups:∀b xs,H b= ~~~xs->H' b= ~~~xs) (frzs:∀b o u,H b=some (.frz o u)->H' b=some (.frz o u)) (tbls:∀b ps,H b=some (.tbl ps)->∃more,H' b=some (.tbl (ps ++ more)))
  (ns:∀m,s.heap.Ns X.env.locals m->h'.Ns X.env.locals m) (hok:HOk X.prog X.w H' h') (hg:AllBare g') :
  Inv X QC σ H' { s with heap:=h',gens:=g',drawn:=d',toks:=t' }:=by
 have neL:∀b o,X.s₀.heap.get? b=some o->b≠X.env.locals:=λ b o e=>B9 (C1 (A9 e) I.ok.above);have neC:∀b o,X.s₀.heap.get? b=some o->b∉X.ex->b∉ch:=λ b o e hx hb=>by
  rcases(hch b hb).1 with z | z
  ·exact hx z
  ·exact absurd (C1 (A9 e) z) (C8 _)
 have cellK:∀x c,X.env.cells.lookup x=some c->∀v,s.heap.IsCell c v->h'.IsCell c v:=λ x c e v ⟨o,ho,hd⟩=>by
  have nch:c∉ch:=λ z=>(hch c z).2.2.1 x c e rfl
  by_cases hc:c∈X.fs
  ·obtain⟨sl,q⟩:=slot c o (I.cne x c e) hc nch ho (I.freeC x c e);exact%[_,q|hd]
  ·exact%[o,keep c o (I.cne x c e) hc nch ho (I.freeC x c e)|hd]
 refine%[I.ok,I.os,hg,%[λ b o e n hb hx=>?_,λ b o e n hb hx=>?_,λ b o e n hx=>?_,λ b o e hx=>?_,λ b xs e=>tups b xs (I.base.tups b xs e),λ b o xs e=>frzs b o xs (I.base.frzs b o xs e)|λ b ps e=>?_],?_,λ x c e=>?_,?_,λ x c e=>?_,λ p hp=>?_,hok|I.len]
 ·exact keep b o (neL b o e) hb (neC b o e hx) (I.base.keep b o e n hb hx) (I.base.free b o e n hx)
 ·obtain⟨sl,e1⟩:=I.base.slot b o e n hb hx;obtain⟨sl',e2⟩:=slot b _ (neL b o e) hb (neC b o e hx) e1 (I.base.free b o e n hx);exact%[sl'|e2]
 ·obtain⟨o',e1⟩:=I.base.there b o e hx;exact free b o' (neC b o e hx) e1 (I.base.free b o e n hx)
 ·obtain⟨o',e1⟩:=I.base.there b o e hx;exact there b o' (neC b o e hx) e1
 ·obtain⟨m1,e1⟩:=I.base.tbls b ps e;obtain⟨m2,e2⟩:=tbls b _ e1;exact%[m1 ++ m2|by rw[e2,Array.append_assoc]]
 ·obtain⟨m,hn,hl⟩:=I.loc;refine%[m,ns m hn|λ i x v e1 e2 e3=>?_];obtain⟨u,r,l⟩:=hl i x v e1 e2 e3;refine%[u,r|?_];rcases l with l | ⟨k,c,e,z⟩
  ·exact .inl l
  ·exact .inr %[k,c,e|cellK x c e _ z]
 ·obtain⟨v,z⟩:=I.cell x c e;exact%[v|cellK x c e v z]
 ·obtain⟨m,⟨o,_,_,ho,_⟩,_⟩:=I.loc;exact free _ o (λ z=>(hch _ z).2.1 rfl) ho I.free
 ·obtain⟨v,o,ho,hd⟩:=I.cell x c e;exact free c o (λ z=>(hch c z).2.2.1 x c e rfl) ho (I.freeC x c e)
 ·obtain⟨e,n,ne,nf,d⟩:=I.pin p hp;have nch:p.1∉ch:=λ z=>(hch p.1 z).2.2.2 p hp rfl;exact%[keep p.1 p.2 ne nf nch e n,free p.1 p.2 nch e n,ne,nf|d]
theorem Inv.un{t':Nat}(I:Inv X QC σ H s)(u:Un X.fs [] H H' s.heap h')(hok:HOk X.prog X.w H' h'):Inv X QC σ H' { s with heap:=h',toks:=t' }:=by
 obtain⟨m,⟨o,es,ep,ho,r⟩,_⟩:=id I.loc;obtain⟨sl,hL⟩:=u.any ho I.free (by simp);exact I.step (g':=s.gens) (d':=s.drawn) (ch:=[]) (λ _ z=>nomatch z) (λ b o _ hb _ e n=>u.keep b o e n hb (by simp)) (λ b o _ hb _ e n=>u.slot b o e n hb (by simp)) (λ b o _ e n=>u.free b o e n (by simp)) (λ b o _ e=>u.there b o e (by simp)) u.tups u.frzs u.tbls (λ m' hm=>by
  obtain⟨o',es',ep',ho',r'⟩:=hm;rw[ho]at ho';cases ho';exact%[_,es',ep',hL|r']) hok I.bare
theorem Inv.call{g':P9 GenState}{t':Nat}{d':Drawn}{ch:QA P6}(I:Inv X QC σ H s)(u:Un (frs X.stack) ch H H' s.heap h')(hok:HOk X.prog X.w H' h')(hg:AllBare g')
  (hch:∀b∈ch,(b∈X.ex\/X.s₀.heap.objs.size<=b)/\b≠X.env.locals/\(∀x c,X.env.cells.lookup x=some c->c≠b)/\∀p∈X.pn ++ QC,p.1≠b) :
  Inv X QC σ H' { s with heap:=h',gens:=g',drawn:=d',toks:=t' }:=by
 obtain⟨m,⟨o,es,ep,ho,r⟩,_⟩:=id I.loc;obtain⟨sl,hL⟩:=u.any ho I.free λ z=>(hch _ z).2.1 rfl;exact I.step (ch:=ch) hch (λ b o hL hb hc e n=>u.keep b o e n (λ z=>(G5.mp (I.stkSub b z)).elim hL hb) hc) (λ b o _ _ hc e n=>u.any e n hc) (λ b o hc e n=>u.free b o e n hc) (λ b o hc e=>u.there b o e hc) u.tups u.frzs u.tbls (λ m' hm=>by
  obtain⟨o',es',ep',ho',r'⟩:=hm;rw[ho]at ho';cases ho';exact%[_,es',ep',hL|r']) hok hg
theorem Inv.turned{t':Nat}{it:P6}(I:Inv X QC σ H s)(k:∀b o,b≠it->s.heap.get? b=some o->h'.get? b=some o)(hn:H it=none)(hL:it≠X.env.locals)
  (h1:it∈X.ex\/X.s₀.heap.objs.size<=it) (h2:∀x c,X.env.cells.lookup x=some c->c≠it) (h3:∀p∈X.pn ++ QC,p.1≠it):Inv X QC σ H { s with heap:=h',toks:=t' }:=by
 have nit:∀b u,H b=some u->b≠it:=λ b u e z=>by rw[z,hn]at e;cases e
 refine I.step (g':=s.gens) (d':=s.drawn) (ch:=[it]) (λ b hb=>?_) (λ b o _ _ hc e _=>k b o (λ z=>hc (by simp[z])) e) (λ b o _ _ hc e _=>%[o.slots|k b o (λ z=>hc (by simp[z])) e]) (λ _ _ _ _ n=>n)
  (λ b o hc e=>%[o|k b o (λ z=>hc (by simp[z])) e]) (λ _ _ e=>e) (λ _ _ _ e=>e) (λ b ps e=>%[#[]|by rw[e];simp]) (λ m hm=>?_) (λ b u e=>?_) I.bare
 ·have e:b=it:=by simpa using hb
  subst e;exact%[h1,hL,h2|h3]
 ·obtain⟨o,es,ep,ho,r⟩:=hm;exact%[o,es,ep,k _ o (Ne.symm hL) ho|r]
 ·refine(I.hok b u e).stay (λ c v hc q=>k c v ?_ q) (λ _ q=>q) λ _ _ q=>q;rcases hc with z | z
  ·rw[z];exact nit b u e
  ·exact nit c _ z
theorem Inv.tok(I:Inv X QC σ H s)(t:Nat):Inv X QC σ H { s with toks:=t }:=I.un (h':=s.heap) (t':=t) Un.refl I.hok
theorem Inv.kept{t':Nat}(I:Inv X QC σ H s)(k:∀b u,s.heap.get? b=some u->h'.get? b=some u):Inv X QC σ H { s with heap:=h',toks:=t' }:=I.un (Un.kept k) (I.hok.kept k)
theorem Inv.laid{a:P6}{o:HO}{t':Nat}(I:Inv X QC σ H s)(k:∀b u,s.heap.get? b=some u->h'.get? b=some u)(hp:s.heap.objs.size<=a)(new:ObjOk X.prog X.w (upd H a o) h' a o) :
  Inv X QC σ (upd H a o) { s with heap:=h',toks:=t' }:=I.un (Un.laid k hp (I.hok.fresh hp)) (I.hok.laid k hp new)
theorem Inv.write{x e:P6}{o:HO}{t':Nat}(I:Inv X QC σ H s)(mu:Mut (H x))(he:e=x\/H e=some (.own x))(k:∀b u,b≠e->s.heap.get? b=some u->h'.get? b=some u)(heo:∃u,h'.get? e=some u)
  (new:ObjOk X.prog X.w (upd H x o) h' x o):Inv X QC σ (upd H x o) { s with heap:=h',toks:=t' }:=I.un (Un.write mu he k heo) (I.hok.write mu he k heo new)
theorem Inv.weak{σ':QA (P8 V)}(I:Inv X QC σ H s)(hl:σ'.length=σ.length)(w:∀ (i:Nat) v,σ'[i]?=some (some v)->σ[i]?=some (some v)):Inv X QC σ' H s :=
 %[I.ok,I.os,I.bare,I.base,let ⟨m,hn,hl'⟩:=I.loc;%[m,hn|λ i x v e1 e2 e3=>hl' i x v e1 (w i v e2) e3],I.cell,I.free,I.freeC,I.pin,I.hok|hl.trans I.len]
theorem Inv.pins_of{pins':QA (P6×Obj)}(I:Inv X QC σ H s)(h:∀p∈pins',s.heap.get? p.1=some p.2/\H p.1=none/\p.1≠X.env.locals/\p.1∉X.fs/\∀v,p.2.data≠.cell v):Inv X pins' σ H s :=
 %[I.ok,I.os,I.bare,I.base,I.loc,I.cell,I.free,I.freeC,λ p hp=>(C2.mp hp).elim (λ z=>I.pin p (B6 _ z)) (h p),I.hok|I.len]
theorem mB{N:QA Str}(hN:N.Nodup){i j:Nat}{x:Str}(a:N[i]?=some x)(b:N[j]?=some x):i=j:=by obtain⟨h1,e1⟩:=A6.mp a;obtain⟨h2,e2⟩:=A6.mp b;exact(List.getElem_inj hN).mp (e1.trans e2.symm)
theorem kA{M:Model}{A:Around}{E:F8->F4->Prop}{i:Nat}{x:Str}{v:V}{u:F8}{Q:Unit->F4->Prop}(I:Inv X QC σ H s)(hN:X.N.Nodup)(hi:X.N[i]?=some x)(hx:Loc X.env.scope x)(r:RelV v u)
  (h:∀s',Inv X QC (σ.set i (some v)) H s'->(∃a,Heap.SameBut a s.heap s'.heap/\(a=X.env.locals\/X.env.cells.lookup x=some a))->Q () s') (hf:X.fn x=true\/X.env.scope.names.lookup x=some .local:=by first | exact .inl rfl | exact .inr rfl | assumption):wpAny M A (storeName X.env x u) Q E s:=by
 obtain⟨m,hn,hl⟩:=id I.loc;have hcls:(X.env.scope.kind == .class || (X.env.scope.kind == .module && X.env.locals != X.env.globals))=false:=by rw[I.ok.kind];rfl
 have hiσ:i < σ.length:=by rw[I.len];exact(A6.mp hi).1
 have cne:=I.cne;have tracked:∀{a:P6}{h':Heap},(∃o,s.heap.get? a=some o/\H a=none)->Heap.SameBut a s.heap h'->HOk X.prog X.w H h':=λ {a h'} ha hs b ob e=>by
  obtain⟨_,_,hfree⟩:=ha;refine(I.hok b ob e).stay (λ c w' hc q=>(hs.2 c ?_).trans q) (λ _ q=>q) λ _ _ q=>q;rintro rfl;rcases hc with rfl | hc
  ·rw[hfree]at e;cases e
  ·rw[hfree]at hc;cases hc
 rcases hx with hk | hk
 ·refine wpAny_storeName_local hk hn (λ h' hn' hs=>?_) hcls;obtain⟨oL,_,_,hoL,_⟩:=id hn;refine h _ %[I.ok,I.os,I.bare,%[λ b o e n hb hx=>?_,λ b o e n hb hx=>?_,I.base.free,λ b o e hx=>?_,I.base.tups,I.base.frzs|I.base.tbls],%[_,hn'|λ j y v' e1 e2 e3=>?_],λ y c e=>?_,I.free,I.freeC,λ p hp=>?_,tracked %[oL,hoL|I.free] hs|by simpa using I.len] %[_,hs|.inl rfl]
  ·exact(hs.2 b (B9 (C1 (A9 e) I.ok.above))).trans (I.base.keep b o e n hb hx)
  ·obtain⟨sl,e1⟩:=I.base.slot b o e n hb hx;exact%[sl|(hs.2 b (B9 (C1 (A9 e) I.ok.above))).trans e1]
  ·obtain⟨o',e1⟩:=I.base.there b o e hx;exact%[o'|(hs.2 b (B9 (C1 (A9 e) I.ok.above))).trans e1]
  ·by_cases hj:j=i
   ·subst hj;rw[hi]at e1;cases e1;rw[List.getElem?_set_self hiσ]at e2;cases e2;exact%[u,r|.inl %[hk|by simp]]
   ·rw[List.getElem?_set_ne (Ne.symm hj)]at e2;obtain⟨u',r',q⟩:=hl j y v' e1 e2 e3;refine%[u',r'|?_];rcases q with⟨k,e⟩ | ⟨k,c,e,z⟩
    ·refine .inl %[k|?_];have:y≠x:=λ e=>hj (mB hN e1 (e ▸ hi));simp[this,e]
    ·exact .inr %[k,c,e|z.sameBut hs (cne y c e)]
  ·obtain⟨w',z⟩:=I.cell y c e;exact%[w'|z.sameBut hs (cne y c e)]
  ·obtain⟨e,n,ne,nf,d⟩:=I.pin p hp;exact%[(hs.2 p.1 ne).trans e,n,ne,nf|d]
 ·have hfn:X.fn x=true:=by
   rcases hf with z | z
   ·exact z
   ·rw[z]at hk;cases hk
  obtain⟨c,hc⟩:=I.ok.has x (.inl hk);obtain⟨w',z⟩:=I.cell x c hc;refine wpAny_storeName_cell I.ok.kind hk hc z (λ h' hc' hs=>?_);obtain⟨oc,hoc,hocd⟩:=id z;refine h { s with heap:=h' } %[I.ok,I.os,I.bare,%[λ b o e n hb hx=>?_,λ b o e n hb hx=>?_,I.base.free,λ b o e hx=>?_,I.base.tups,I.base.frzs|I.base.tbls],%[m,hn.sameBut hs (Ne.symm (cne x c hc))|λ j y v' e1 e2 e3=>?_],λ y c' e=>?_,I.free,I.freeC,λ p hp=>?_,tracked %[oc,hoc|I.freeC x c hc] hs|by simpa using I.len] %[c,hs|.inr hc]
  ·exact(hs.2 b (B9 (C1 (A9 e) (I.ok.cab x c hfn hc)))).trans (I.base.keep b o e n hb hx)
  ·obtain⟨sl,e1⟩:=I.base.slot b o e n hb hx;exact%[sl|(hs.2 b (B9 (C1 (A9 e) (I.ok.cab x c hfn hc)))).trans e1]
  ·obtain⟨o',e1⟩:=I.base.there b o e hx;exact%[o'|(hs.2 b (B9 (C1 (A9 e) (I.ok.cab x c hfn hc)))).trans e1]
  ·by_cases hj:j=i
   ·subst hj;rw[hi]at e1;cases e1;rw[List.getElem?_set_self hiσ]at e2;cases e2;exact%[u,r|.inr %[.inl hk,c,hc|hc']]
   ·rw[List.getElem?_set_ne (Ne.symm hj)]at e2;obtain⟨u',r',q⟩:=hl j y v' e1 e2 e3;refine%[u',r'|?_];rcases q with q | ⟨k,c',e,z'⟩
    ·exact .inl q
    ·refine .inr %[k,c',e|z'.sameBut hs ?_];rintro rfl;exact hj (mB hN e1 (I.ok.inj _ _ _ e hc ▸ hi))
  ·by_cases hcc:c'=c
   ·subst hcc;exact%[_|hc']
   ·obtain⟨w2,z2⟩:=I.cell y c' e;exact%[w2|z2.sameBut hs hcc]
  ·obtain⟨e,n,ne,nf,d⟩:=I.pin p hp;refine%[(hs.2 p.1 ?_).trans e,n,ne,nf|d];intro q;rw[q,hoc]at e;have q':oc=p.2:=B8 e;exact d w' (by rw[<- q'];exact hocd)
theorem dW{M:Model}{A:Around}{E:F8->F4->Prop}{i:Nat}{x:Str}{v:V}{u:F8}{Q:Unit->F4->Prop}(I:Inv X QC σ H s)(hN:X.N.Nodup)(hi:X.N[i]?=some x)(hx:Loc X.env.scope x)(r:RelV v u)
  (h:∀s',Inv X QC (σ.set i (some v)) H s'->Q () s') (hf:X.fn x=true\/X.env.scope.names.lookup x=some .local:=by first | exact .inl rfl | exact .inr rfl | assumption):wpAny M A (storeName X.env x u) Q E s :=
 kA I hN hi hx r (λ s' I' _=>h s' I') hf
theorem Inv.call'{s':F4}{ch:QA P6}(I:Inv X QC σ H s)(ho:s'.os=s.os)(u:Un (frs X.stack) ch H H' s.heap s'.heap)(hok:HOk X.prog X.w H' s'.heap)(hg:AllBare s'.gens)
  (hch:∀b∈ch,(b∈X.ex\/X.s₀.heap.objs.size<=b)/\b≠X.env.locals/\(∀x c,X.env.cells.lookup x=some c->c≠b)/\∀p∈X.pn ++ QC,p.1≠b):Inv X QC σ H' s':=by
 obtain⟨h',g',d',t',o'⟩:=s';have e:o'=s.os:=ho;subst e;exact I.call (g':=g') (t':=t') (d':=d') u hok hg hch
end
abbrev XK:=Value->P8 P6->Hp->Prop
abbrev St:=QA (P8 V)
abbrev VK:=V->Hp->Prop
abbrev TE:=St->Hp->VK->Prop
abbrev TT:=St->Hp->(Bool->Hp->Prop)->Prop
abbrev TA:=St->Hp->(QA V->Hp->Prop)->Prop
structure Ends where
 nx:St->Hp->Prop
 rt:VK
 bk:St->Hp->Prop:=λ _ _=>False
 ct:St->Hp->Prop:=λ _ _=>False
abbrev TS:=Ends->St->Hp->Prop
def EP(X:Cx)(QC:QA (P6×Obj))(σ:St)(Q:VK)(u:F8)(s':F4):Prop:=∃v H',Inv X QC σ H' s'/\RelV v u/\Q v H'
def TP(X:Cx)(QC:QA (P6×Obj))(σ:St)(Q:Bool->Hp->Prop)(b:Bool)(s':F4):Prop:=∃H',Inv X QC σ H' s'/\Q b H'
def AP(X:Cx)(QC:QA (P6×Obj))(σ:St)(Q:QA V->Hp->Prop)(us:QA F8)(s':F4):Prop:=∃vs H',Inv X QC σ H' s'/\Vals vs us/\Q vs H'
def SP(X:Cx)(QC:QA (P6×Obj))(D:Ends)(f:Flow)(s':F4):Prop :=
 match f with
 | .next=>∃σ' H',Inv X QC σ' H' s'/\D.nx σ' H'
 | .brk=>∃σ' H',Inv X QC σ' H' s'/\D.bk σ' H'
 | .cont=>∃σ' H',Inv X QC σ' H' s'/\D.ct σ' H'
 | .ret u=>∃v σ' H',Inv X QC σ' H' s'/\RelV v u/\D.rt v H'
def PE(X:Cx)(e:Expr)(t:TE):Prop :=
 ∀(QC:QA (P6×Obj))(s:F4)(σ:St)(H:Hp)(Q:VK),Inv X QC σ H s->t σ H Q->wpAny (model X.prog X.w) X.A (eval e X.env) (EP X QC σ Q) X.xe s
def PT(X:Cx)(e:Expr)(t:TT):Prop :=
 ∀(QC:QA (P6×Obj))(s:F4)(σ:St)(H:Hp)(Q:Bool->Hp->Prop),Inv X QC σ H s->t σ H Q->wpAny (model X.prog X.w) X.A (isTrue e X.env (eval e X.env)) (TP X QC σ Q) X.xe s
def PW(X:Cx)(e:Expr)(t:TT):Prop :=
 ∀(aV:Sem F8)(QC:QA (P6×Obj))(s:F4)(σ:St)(H:Hp)(Q:Bool->Hp->Prop),Inv X QC σ H s->t σ H Q->wpAny (model X.prog X.w) X.A (isTrue e X.env aV) (TP X QC σ Q) X.xe s
theorem PW.pt{X:Cx}{e:Expr}{t:TT}(h:PW X e t):PT X e t:=h _
def PA(X:Cx)(es:QA Expr)(t:TA):Prop :=
 ∀(pos:Pos)(QC:QA (P6×Obj))(s:F4)(σ:St)(H:Hp)(Q:QA V->Hp->Prop),Inv X QC σ H s->t σ H Q->wpAny (model X.prog X.w) X.A (spliced (backTo pos (starEach es X.env))) (AP X QC σ Q) X.xe s
def PS(X:Cx)(st:Stmt)(t:TS):Prop :=
 ∀(QC:QA (P6×Obj))(s:F4)(σ:St)(H:Hp)(D:Ends),Inv X QC σ H s->t D σ H->wpAny (model X.prog X.w) X.A (exec st X.env) (SP X QC D) X.xe s
def PSs(X:Cx)(st:QA Stmt)(t:TS):Prop :=
 ∀(QC:QA (P6×Obj))(s:F4)(σ:St)(H:Hp)(D:Ends),Inv X QC σ H s->t D σ H->wpAny (model X.prog X.w) X.A (execs st X.env) (SP X QC D) X.xe s
theorem thn{α:Type}{t:Sem α}{Q Q':α->F4->Prop}{M:Model}{A:Around}{E:F8->F4->Prop}{s:F4}(h:wpAny M A t Q E s)(hQ:∀a s,Q a s->Q' a s):wpAny M A t Q' E s:=Qk h hQ λ _ _ x=>x
section
variable{X:Cx}
theorem bin{a b:Expr}{ta tb:TE}(ha:PE X a ta)(hb:PE X b tb){QC:QA (P6×Obj)}{s:F4}{σ:St}{H:Hp}{R:V->V->Hp->Prop}(I:Inv X QC σ H s)(h:ta σ H λ x H1=>tb σ H1 λ y H2=>R x y H2)
  {α:Type} {Q:α->F4->Prop} {f:F8->F8->Sem α}
  (hf:∀v u s2 x y H2,Inv X QC σ H2 s2->RelV x v->RelV y u->R x y H2->wpAny (model X.prog X.w) X.A (f v u) Q X.xe s2) :
  wpAny (model X.prog X.w) X.A (eval a X.env) (λ v s₁=>wpAny (model X.prog X.w) X.A (eval b X.env) (λ u s₂=>wpAny (model X.prog X.w) X.A (f v u) Q X.xe s₂) X.xe s₁) X.xe s:=by
 refine thn (ha QC s σ H _ I h) ?_;rintro v s1 ⟨x,H1,I1,r1,q1⟩;refine thn (hb QC s1 σ H1 _ I1 q1) ?_;rintro u s2 ⟨y,H2,I2,r2,q2⟩;exact hf v u s2 x y H2 I2 r1 r2 q2
inductive tVar(i:Nat)(σ:St)(H:Hp)(Q:VK):Prop
|mk(v:V)(_:σ[i]?=some (some v))(_:Q v H)
def tC(v:V):TE:=λ _ H Q=>Q v H
theorem Ab{i:Nat}{x:Str}{pos:Pos}(hN:X.N[i]?=some x)(hv:Vis X.env.scope x)(hd:(x == ("__debug__" : Str))=false:=by decide)(hcd:(x == ("__classdict__" : Str))=false:=by decide):PE X (.Name x pos) (tVar i):=by
 intro QC s σ H Q I h;obtain⟨v,e,h⟩:=h;obtain⟨m,hn,hl⟩:=I.loc;obtain⟨u,r,l⟩:=hl i x v hN e hv;have fin:EP X QC σ Q u s:=%[v,H,I,r|h]
 rcases l with⟨hk,hm⟩ | ⟨hk,c,hc,hcell⟩
 ·exact wpAny_Name (wpAny_loadName_local I.ok.kind hk hn hm fin) hd
 ·rcases hk with hk | hk
  ·exact wpAny_Name (wpAny_loadName_cell I.ok.kind hk hc hcell fin) hd
  ·exact wpAny_Name (wpAny_loadName_free I.ok.kind hk hc hcell fin hcd) hd
theorem ae{i j pos}:PE X (.Constant (.int i) j pos) (tC (.int i)):=λ _ _ _ H _ I h=>wpAny_Constant_int %[.int i,H,I.tok _,%[_|rfl]|h]
theorem cD{b j pos}:PE X (.Constant (.bool b) j pos) (tC (.bl b)):=λ _ _ _ H _ I h=>Constant_bool %[.bl b,H,I,rfl|h]
theorem fg{j pos}:PE X (.Constant .none j pos) (tC .non):=λ _ _ _ H _ I h=>Constant_none %[.non,H,I,rfl|h]
theorem dR{x j pos}:PE X (.Constant (.str x) j pos) (tC (.str x)):=λ _ _ _ H _ I h=>Calls.Constant_str %[.str x,H,I.tok _,%[_|Y]|h]
def Gl(X:Cx)(x:Str):Prop:=X.env.kindOf x=some .globalImplicit
theorem lm{E:F8->F4->Prop}{QC:QA (P6×Obj)}{s:F4}{σ:St}{H:Hp}{x:Str}{u:F8}{pos:Pos}{Q:F8->F4->Prop}(I:Inv X QC σ H s)(hg:Gl X x)(hm:X.mg x=some u)(h:Q u s)
  (hd:(x == ("__debug__" : Str))=false:=by decide):wpAny (model X.prog X.w) X.A (eval (.Name x pos) X.env) Q E s :=
 Calls.Name_function_global I.ok.kind hg (Calls.loadGlobal_global (by rw[I.ok.glob];exact I.mod.glob.keeps I.bk) hm h) hd
theorem fh{E:F8->F4->Prop}{QC:QA (P6×Obj)}{s:F4}{σ:St}{H:Hp}{x:Str}{u:F8}{pos:Pos}{Q:F8->F4->Prop}(I:Inv X QC σ H s)(hg:Gl X x)(hm:X.mg x=none)(hv:bootBuiltins x=some u)(h:Q u s)
  (hn:x ≠ "__name__" := by decide) (hd:(x == ("__debug__" : Str))=false:=by decide):wpAny (model X.prog X.w) X.A (eval (.Name x pos) X.env) Q E s:=by
 obtain⟨mb,h1,h2⟩:=I.mod.blt;exact Calls.Name_function_global I.ok.kind hg (Calls.loadGlobal_builtin (by rw[I.ok.glob];exact I.mod.glob.keeps I.bk) hm (by rw[I.ok.blt];exact h1.keeps I.bk) ((h2 x hn).trans hv) h) hd
theorem aN{x:Str}{v:V}{u:F8}{pos:Pos}(hg:Gl X x)(hm:X.mg x=some u)(r:RelV v u)(hd:(x == ("__debug__" : Str))=false:=by decide):PE X (.Name x pos) (tC v) :=
 λ _ _ _ H _ I h=>lm I hg hm %[v,H,I,r|h] hd
theorem fP{x:Str}{v:V}{u:F8}{pos:Pos}(hg:Gl X x)(hm:X.mg x=none)(hv:bootBuiltins x=some u)(r:RelV v u)(hn:x ≠ "__name__" := by decide)(hd:(x == ("__debug__" : Str))=false:=by decide):PE X (.Name x pos) (tC v) :=
 λ _ _ _ H _ I h=>fh I hg hm hv %[v,H,I,r|h] hn hd
variable{a b:Expr}{ta tb:TE}{pos:Pos}
def PC(X:Cx)(op:CmpOp)(a b:Expr)(t:TE):Prop :=
 ∀(QC:QA (P6×Obj))(s:F4)(σ:St)(H:Hp)(Q:VK),Inv X QC σ H s->t σ H Q ->
  wpAny (model X.prog X.w) X.A (eval a X.env) (λ v s₁=>wpAny (model X.prog X.w) X.A (eval b X.env) (λ u s₂=>wpAny (model X.prog X.w) X.A (compareOp op v u) (EP X QC σ Q) X.xe s₂) X.xe s₁) X.xe s
inductive IsB(x:V)(Q:Bool->Prop):Prop
|mk(c:Bool)(e:x=.bl c)(q:Q c)
def tB(t:TE):TT:=λ σ H Q=>t σ H λ x H1=>IsB x λ c=>Q c H1
theorem MN{op:CmpOp}{t:TE}(h:PC X op a b t)(h1:behindInMarks op b=false:=by first | exact nobehind _ ∅ ∅ | rfl):PT X (.Compare a [op] [b] pos) (tB t):=by intro QC s σ H Q I hw;refine wpAny_isTrue_Compare1 (thn (h QC s σ H _ I hw) λ v s1 h1=>thn h1 λ u s2 h2=>thn h2 ?_) h1;rintro c s3 ⟨x,H1,I1,r1,q1⟩;obtain⟨d,rfl,q⟩:=q1;cases r1;exact F0 %[H1,I1|q]
theorem aT{e:Expr}{t:TE}(h:PE X e t)(he:∀aV,isTrue e X.env aV=(do let v<-aV;standAt e.pos;holding [v] (truthy v)):=by intro _;rfl):PT X e (tB t):=by intro QC s σ H Q I hw;refine isTrue_plain (thn (h QC s σ H _ I hw) ?_) (he _);rintro v s1 ⟨x,H1,I1,r1,q1⟩;obtain⟨d,rfl,q⟩:=q1;cases r1;exact F0 %[H1,I1|q]
variable{tA tB':TT}{rest:QA Expr}
def MO(t u:TT):TT:=λ σ H Q=>t σ H λ c H1=>if c=true then u σ H1 Q else Q false H1
def tOr(t u:TT):TT:=λ σ H Q=>t σ H λ c H1=>if c=true then Q true H1 else u σ H1 Q
def MQ(t:TT):TT:=λ σ H Q=>t σ H λ c H1=>Q (!c) H1
theorem lq(ha:PT X a tA):PW X (.BoolOp .And [a] pos) tA:=by
 intro wh QC s σ H Q I h;refine isTrue_and (thn (ha QC s σ H Q I h) λ c s1 e=>?_);cases c with
 | true=>exact isTrue_and_nil e
 | false=>exact e
theorem bR(ha:PT X a tA):PW X (.BoolOp .Or [a] pos) tA:=by
 intro wh QC s σ H Q I h;refine isTrue_or (thn (ha QC s σ H Q I h) λ c s1 e=>?_);cases c with
 | false=>exact isTrue_or_nil e
 | true=>exact e
theorem nO(ha:PT X a tA)(hb:PW X (.BoolOp .And (b :: rest) pos) tB'):PW X (.BoolOp .And (a :: b :: rest) pos) (MO tA tB'):=by
 intro wh QC s σ H Q I h;refine isTrue_and (thn (ha QC s σ H _ I h) ?_);rintro c s1 ⟨H1,I1,q1⟩;cases c with
 | true=>exact hb wh QC s1 σ H1 Q I1 q1
 | false=>exact%[H1,I1|q1]
theorem bS(ha:PT X a tA)(hb:PW X (.BoolOp .Or (b :: rest) pos) tB'):PW X (.BoolOp .Or (a :: b :: rest) pos) (tOr tA tB'):=by
 intro wh QC s σ H Q I h;refine isTrue_or (thn (ha QC s σ H _ I h) ?_);rintro c s1 ⟨H1,I1,q1⟩;cases c with
 | true=>exact%[H1,I1|q1]
 | false=>exact hb wh QC s1 σ H1 Q I1 q1
theorem bj(ha:PT X a tA):PT X (.UnaryOp .Not a pos) (MQ tA):=by intro QC s σ H Q I h;exact isTrue_not (ha QC s σ H (λ c H1=>Q (!c) H1) I h)
def FR(ta tb:TE):TE:=λ σ H Q=>ta σ H λ x H1=>IsB x λ c=>if c=true then tb σ H1 Q else Q (.bl false) H1
def MT(ta tb:TE):TE:=λ σ H Q=>ta σ H λ x H1=>IsB x λ c=>if c=true then Q (.bl true) H1 else tb σ H1 Q
def FS(ta:TE):TE:=λ σ H Q=>ta σ H λ x H1=>IsB x λ c=>Q (.bl (!c)) H1
theorem fi{op}{t:TE}(h:PE X a t):PE X (.BoolOp op [a] pos) t:=λ QC s σ H Q I hw=>BoolOp_one (h QC s σ H Q I hw)
theorem dq(ha:PE X a ta)(hb:PE X (.BoolOp .And (b :: rest) pos) tb):PE X (.BoolOp .And (a :: b :: rest) pos) (FR ta tb):=by
 intro QC s σ H Q I h;refine BoolOp_and (thn (ha QC s σ H _ I h) ?_);rintro v s1 ⟨x,H1,I1,r1,q1⟩;obtain⟨c,rfl,q1⟩:=q1;cases r1;refine F0 ?_;cases c with
 | true=>exact hb QC s1 σ H1 Q I1 q1
 | false=>exact%[.bl false,H1,I1,Y|q1]
theorem FT(ha:PE X a ta)(hb:PE X (.BoolOp .Or (b :: rest) pos) tb):PE X (.BoolOp .Or (a :: b :: rest) pos) (MT ta tb):=by
 intro QC s σ H Q I h;refine BoolOp_or (thn (ha QC s σ H _ I h) ?_);rintro v s1 ⟨x,H1,I1,r1,q1⟩;obtain⟨c,rfl,q1⟩:=q1;cases r1;refine F0 ?_;cases c with
 | false=>exact hb QC s1 σ H1 Q I1 q1
 | true=>exact%[.bl true,H1,I1,Y|q1]
theorem uy(ha:PE X a ta):PE X (.UnaryOp .Not a pos) (FS ta):=by intro QC s σ H Q I h;refine UnaryOp_ (thn (ha QC s σ H _ I h) ?_);rintro v s1 ⟨x,H1,I1,r1,q1⟩;obtain⟨c,rfl,q1⟩:=q1;cases r1;exact not_of (F0 %[.bl (!c),H1,I1,rfl|q1])
def tIf(t:TT)(ta tb:TE):TE:=λ σ H Q=>t σ H λ c H1=>if c=true then ta σ H1 Q else tb σ H1 Q
theorem gJ{c:Expr}(hc:PT X c tA)(ha:PE X a ta)(hb:PE X b tb):PE X (.IfExp c a b pos) (tIf tA ta tb):=by
 intro QC s σ H Q I h;refine wpAny_IfExp (thn (hc QC s σ H _ I h) ?_);rintro d s1 ⟨H1,I1,q1⟩;cases d with
 | true=>exact ha QC s1 σ H1 Q I1 q1
 | false=>exact hb QC s1 σ H1 Q I1 q1
end
def SqL(K:C4)(H:Hp)(a:P6)(xs:QA V):Prop :=
 Rd H a (.lst xs) \/
  ∃(o:Obj)(its:P9 F8)(n:Nat),K.lookup a=some o/\o.cls=.type "list" /\ o.dict=none/\o.data=.seq its n/\its.size<=sizeLine/\Vals xs its.toList
def SqT(K:C4)(H:Hp)(a:P6)(xs:QA V):Prop :=
 Rd H a (.tup xs) \/
  ∃(o:Obj)(its:P9 F8)(n:Nat),K.lookup a=some o/\o.cls=.type "tuple" /\ o.data=.seq its n/\its.size<=sizeLine/\Vals xs its.toList
def MV:F8->P8 V
 | .none=>some .non
 | .bool b=>some (.bl b)
 | .int i _=>⇑i
 | .str x _=>some (.str x)
 | .bytes b _=>some (.byt b)
 | .float b _=>some (.flt b)
 | .ref a=>↑a
 | .type n=>some (.ty n)
 | _=>none
theorem RelV.abs{x:V}{u:F8}(r:RelV x u):MV u=some x:=by
 cases x with
 | non=>cases r;rfl
 | bl _=>cases r;rfl
 | int _=>obtain⟨t,rfl⟩:=r;rfl
 | str _=>obtain⟨t,rfl⟩:=r;rfl
 | byt _=>obtain⟨t,rfl⟩:=r;rfl
 | flt _=>obtain⟨t,rfl⟩:=r;rfl
 | ref _=>cases r;rfl
 | ty _=>cases r;rfl
theorem RelV.inj{x y:V}{u:F8}(r:RelV x u)(q:RelV y u):x=y:=B8 (r.abs.symm.trans q.abs)
theorem Vals.inj:∀{xs ys:QA V}{us:QA F8},Vals xs us->Vals ys us->xs=ys
 | _,_,_,.nil,.nil=>rfl
 | _,_,_,.cons r t,.cons r' t'=>by rw[r.inj r',Vals.inj t t']
section
variable{X:Cx}{QC:QA (P6×Obj)}{σ:St}{H:Hp}{s:F4}{a:P6}{xs ys:QA V}
theorem SqL.of{K:C4}(h:H a=↥xs):SqL K H a xs:=.inl (.inl h)
abbrev G1:=@SqL.of
theorem SqT.of{K:C4}(h:H a= ~~~xs):SqT K H a xs:=.inl (.inl h)
abbrev G0:=@SqT.of
theorem Inv.list(I:Inv X QC σ H s)(h:SqL X.K H a xs):∃its:QA F8,Vals xs its/\PlainL s.heap a its.toArray/\xs.length<=sizeLine:=by
 rcases h with h | ⟨o,its,n,hk,hc,hd,hs,hz,r⟩
 ·obtain⟨z,its,n,r,e⟩:=h.ok I.hok;exact%[its,r,%[_,n,e,Y,Y|Y]|z]
 ·refine%[its.toList,r,%[o,n,I.kIn a o hk,hc,hd|by simpa using hs]|?_];have e:=r.length;simp only[K3]at e;lia
theorem Inv.tuple(I:Inv X QC σ H s)(h:SqT X.K H a xs):∃its:QA F8,Vals xs its/\IsTup s.heap a its.toArray/\xs.length<=sizeLine:=by
 rcases h with h | ⟨o,its,n,hk,hc,hs,hz,r⟩
 ·obtain⟨z,its,r,p⟩:=h.ok I.hok;exact%[its,r,p|z]
 ·refine%[its.toList,r,%[o,I.kIn a o hk,hc,n|by simpa using hs]|?_];have e:=r.length;simp only[K3]at e;lia
theorem Inv.list_inj(I:Inv X QC σ H s)(h:SqL X.K H a xs)(h':SqL X.K H a ys):xs=ys:=by
 obtain⟨its,r,⟨o,n,e,_,_,d⟩,_⟩:=I.list h;obtain⟨its',r',⟨o',n',e',_,_,d'⟩,_⟩:=I.list h';rw[e]at e';cases e';rw[d]at d';injection d' with d1 _
 have:its=its':=by simpa using QV Array.toList d1
 subst this;exact r.inj r'
theorem Inv.tuple_inj(I:Inv X QC σ H s)(h:SqT X.K H a xs)(h':SqT X.K H a ys):xs=ys:=by
 obtain⟨its,r,⟨o,e,_,n,d⟩,_⟩:=I.tuple h;obtain⟨its',r',⟨o',e',_,n',d'⟩,_⟩:=I.tuple h';rw[e]at e';cases e';rw[d]at d';injection d' with d1 _
 have:its=its':=by simpa using QV Array.toList d1
 subst this;exact r.inj r'
end
abbrev Cx.wish(X:Cx)(E:F8->F4->Prop):Cx:={ X with xe:=E }
abbrev Cx.nox(X:Cx):Cx:=X.wish λ _ _=>False
theorem Cx.Ok.wish{X:Cx}(ok:X.Ok)(E:F8->F4->Prop):(X.wish E).Ok :=
 %[ok.mod,ok.kind,ok.glob,ok.blt,ok.above,ok.inj,ok.has,ok.cab,ok.hd,ok.frames,ok.stk,ok.exf,ok.bs,ok.bsz,ok.noex,ok.exfs,ok.funs|ok.frf]
theorem Cx.Ok.unwish{X:Cx}{E:F8->F4->Prop}(ok:(X.wish E).Ok):X.Ok :=
 %[ok.mod,ok.kind,ok.glob,ok.blt,ok.above,ok.inj,ok.has,ok.cab,ok.hd,ok.frames,ok.stk,ok.exf,ok.bs,ok.bsz,ok.noex,ok.exfs,ok.funs|ok.frf]
section
variable{X:Cx}{QC:QA (P6×Obj)}{σ:St}{H:Hp}{s:F4}{E:F8->F4->Prop}
theorem Inv.wish(I:Inv X QC σ H s)(E:F8->F4->Prop):Inv (X.wish E) QC σ H s:=%[I.ok.wish E,I.os,I.bare,I.base,I.loc,I.cell,I.free,I.freeC,I.pin,I.hok|I.len]
theorem Inv.unwish(I:Inv (X.wish E) QC σ H s):Inv X QC σ H s:=%[I.ok.unwish,I.os,I.bare,I.base,I.loc,I.cell,I.free,I.freeC,I.pin,I.hok|I.len]
theorem SP.unwish{D:Ends}{f:Flow}{s':F4}(h:SP (X.wish E) QC D f s'):SP X QC D f s':=by
 cases f with
 | next=>obtain⟨σ',H',I,q⟩:=h;exact%[σ',H',I.unwish|q]
 | brk=>obtain⟨σ',H',I,q⟩:=h;exact%[σ',H',I.unwish|q]
 | cont=>obtain⟨σ',H',I,q⟩:=h;exact%[σ',H',I.unwish|q]
 | ret u=>obtain⟨v,σ',H',I,r,q⟩:=h;exact%[v,σ',H',I.unwish,r|q]
theorem PSs.nox{st:QA Stmt}{t:TS}(h:PSs X.nox st t):PSs X st t:=λ QC s σ H D I hw=>
 Qk (h QC s σ H D (I.wish _) hw) (λ _ _ q=>q.unwish) λ _ _ z=>E5 z
end
section
variable{X:Cx}{st:Stmt}{rest:QA Stmt}{t u:TS}{e:Expr}{te:TE}{pos:Pos}
def FU:TS:=λ D σ H=>D.nx σ H
def xC(t u:TS):TS:=λ D σ H=>t { D with nx:=u D } σ H
theorem aF:PSs X [] FU:=λ _ _ σ H _ I h=>wpAny_execs_nil %[σ,H,I|h]
theorem ad(h1:PS X st t)(h2:PSs X rest u):PSs X (st :: rest) (xC t u):=by
 intro QC s σ H D I h;refine wpAny_execs_cons (thn (h1 QC s σ H { D with nx:=u D } I h) λ f s1 q=>?_);cases f with
 | next=>
  obtain⟨σ',H',I',q⟩:=q;exact h2 QC s1 σ' H' D I' q
 | ret v=>exact q
 | brk=>exact q
 | cont=>exact q
theorem ag(h1:PS X st t):PSs X [st] t:=by
 intro QC s σ H D I h;refine wpAny_execs_cons (thn (h1 QC s σ H D I h) λ f s1 q=>?_);cases f with
 | next=>exact wpAny_execs_nil q
 | ret v=>exact q
 | brk=>exact q
 | cont=>exact q
theorem Inv.quiet{QC:QA (P6×Obj)}{σ:St}{H:Hp}{s:F4}(I:Inv X QC σ H s):interactive X.env=false:=by simp[interactive,I.ok.kind]
def FV(te:TE):TS:=λ D σ H=>te σ H λ _ H1=>D.nx σ H1
theorem aO(he:PE X e te)(hs:swapsWith e none pos.line X.env=pure false:=by rfl):PS X (.Expr e pos) (FV te):=by intro QC s σ H D I h;exact wpAny_Expr_any (thn (he QC s σ H _ I h) λ v s1 %[x,H1,I1,r1|q1]=>%[σ,H1,I1|q1]) I.quiet hs
def Ac(te:TE):TS:=λ D σ H=>te σ H D.rt
theorem au(he:PE X e te):PS X (.Return (some e) pos) (Ac te):=by intro QC s σ H D I h;exact wpAny_Return_some (thn (he QC s σ H _ I h) λ v s1 %[x,H1,I1,r1|q1]=>%[x,σ,H1,I1,r1|q1])
def MW(c:TT)(t u:TS):TS:=λ D σ H=>c σ H λ b H1=>if b=true then t D σ H1 else u D σ H1
theorem aK{c:Expr}{a b:QA Stmt}{tc:TT}(hc:PT X c tc)(ha:PSs X a t)(hb:PSs X b u):PS X (.If c a b pos) (MW tc t u):=by
 intro QC s σ H D I h;refine wpAny_If (thn (hc QC s σ H _ I h) ?_);rintro d s1 ⟨H1,I1,q1⟩;cases d with
 | true=>exact ha QC s1 σ H1 D I1 q1
 | false=>exact hb QC s1 σ H1 D I1 q1
def uz:TS:=λ _ _ _=>False
theorem cF:PS X st uz:=λ _ _ _ _ _ _ h=>h.elim
theorem io{sts:QA Stmt}:PSs X sts uz:=λ _ _ _ _ _ _ h=>h.elim
end
abbrev TG:=V->St->Hp->(St->Hp->Prop)->Prop
abbrev TGs:=QA V->St->Hp->(St->Hp->Prop)->Prop
def PG(X:Cx)(target:Expr)(t:TG):Prop :=
 ∀(QC:QA (P6×Obj))(s:F4)(σ:St)(H:Hp)(v:V)(u:F8)(Q:St->Hp->Prop),Inv X QC σ H s->RelV v u->t v σ H Q ->
  wpAny (model X.prog X.w) X.A (assign target X.env u) (λ _ s'=>∃σ' H',Inv X QC σ' H' s'/\Q σ' H') X.xe s
def PGs(X:Cx)(ts:QA Expr)(t:TGs):Prop :=
 ∀(QC:QA (P6×Obj))(s:F4)(σ:St)(H:Hp)(vs:QA V)(us:QA F8)(Q:St->Hp->Prop),Inv X QC σ H s->Vals vs us->t vs σ H Q ->
  wpAny (model X.prog X.w) X.A (assignInOrder ((assignEach ts X.env).map (·.2)) us) (λ _ s'=>∃σ' H',Inv X QC σ' H' s'/\Q σ' H') X.xe s
abbrev uA:=V->V->V->Hp->(Hp->Prop)->Prop
def Ad(X:Cx)(t:uA):Prop :=
 ∀(QC:QA (P6×Obj))(s:F4)(σ:St)(H:Hp)(o i v:V)(ov iv u:F8)(Q:Hp->Prop),Inv X QC σ H s->RelV o ov->RelV i iv->RelV v u->t o i v H Q ->
  wpAny (model X.prog X.w) X.A (setItem ov iv u) (λ _ s'=>∃H',Inv X QC σ H' s'/\Q H') X.xe s
abbrev TIp:=V->V->Hp->VK->Prop
def PIp(X:Cx)(op:Operator)(t:TIp):Prop :=
 ∀(QC:QA (P6×Obj))(s:F4)(σ:St)(H:Hp)(x y:V)(v u:F8)(Q:VK),Inv X QC σ H s->RelV x v->RelV y u->t x y H Q ->
  wpAny (model X.prog X.w) X.A (inplaceOp op v u) (EP X QC σ Q) X.xe s
section
variable{X:Cx}{pos:Pos}
def bU(i:Nat):TG:=λ v σ H Q=>Q (σ.set i (some v)) H
theorem ai{i:Nat}{x:Str}(hN:X.N.Nodup)(hi:X.N[i]?=some x)(hx:Loc X.env.scope x)(hf:X.fn x=true\/X.env.scope.names.lookup x=some .local:=by first | exact .inl rfl | exact .inr rfl | assumption):PG X (.Name x pos) (bU i):=by intro QC s σ H v u Q I r h;exact wpAny_assign_Name (dW I hN hi hx r (λ s' I'=>%[_,H,I'|h]) hf)
def mC:TGs:=λ vs σ H Q=>vs=[]/\Q σ H
inductive gCons(t:TG)(u:TGs)(vs:QA V)(σ:St)(H:Hp)(Q:St->Hp->Prop):Prop
|mk(v:V)(r:QA V)(_:vs=v :: r)(_:t v σ H λ σ' H'=>u r σ' H' Q)
theorem aJ:PGs X [] mC:=by intro QC s σ H vs us Q I r h;obtain⟨e,h⟩:=h;subst e;cases r;exact assignInOrder_nil %[σ,H,I|h]
theorem ah{e:Expr}{es:QA Expr}{t:TG}{u:TGs}(h1:PG X e t)(h2:PGs X es u)
  (hs:(assignEach (e :: es) X.env).map (·.2)=assign e X.env :: (assignEach es X.env).map (·.2):=by rfl):PGs X (e :: es) (gCons t u):=by
 intro QC s σ H vs us Q I r h;obtain⟨v,vr,e1,h⟩:=h;subst e1;cases r with
 | cons r rr=>
  rw[hs];refine assignInOrder_cons (thn (h1 QC s σ H _ _ _ I r h) ?_);rintro _ s1 ⟨σ1,H1,I1,q1⟩;exact h2 QC s1 σ1 H1 _ _ Q I1 rr q1
inductive gTup(K:C4)(n:Nat)(t:TGs)(v:V)(σ:St)(H:Hp)(Q:St->Hp->Prop):Prop
|mk(a:P6)(xs:QA V)(_:v=.ref a)(_:SqT K H a xs)(_:xs.length=n)(_:t xs σ H Q)
theorem aU{es:QA Expr}{k:Nat}{t:TGs}{n:Nat}(hc:X.calm=true)(h:PGs X es t)
  (hn:(assignEach es X.env).length=n:=by rfl) (hst:(assignEach es X.env).findIdx? (·.1)=none:=by rfl):PG X (.Tuple es k pos) (gTup X.K n t):=by
 intro QC s σ H v u Q I r hw;obtain⟨a,xs,e1,hq,hl,hw⟩:=hw;subst e1;cases r;obtain⟨its,rv,ht,hz⟩:=I.tuple hq;refine assign_Tuple_tuple (I.ok.hd hc) ht (by simp[hn,<- hl,rv.length]) hst λ h' hx=>?_;have I1:Inv X QC σ H { s with heap:=h' }:=I.kept (t':=s.toks) λ b o e=>hx b o (B9 (A9 e)) e;exact h QC _ σ H xs _ Q I1 (by simpa using rv) hw
def MX(to ti:TE)(t:uA):TG:=λ v σ H Q=>to σ H λ o H1=>ti σ H1 λ i H2=>t o i v H2 λ H3=>Q σ H3
theorem lr{o i:Expr}{to ti:TE}{t:uA}(ho:PE X o to)(hi:PE X i ti)(hs:Ad X t)
  (ha:∀v,assign (.Subscript o i pos) X.env v=(do
   let ov<-holding [v] (eval o X.env)
   let iv<-holding [v,ov] (eval i X.env)
   standAt pos
   holding [v,ov,iv] (setItem ov iv v)
   release [v,ov,iv] []):=by intro _;rfl):PG X (.Subscript o i pos) (MX to ti t):=by
 intro QC s σ H v u Q I r h;rw[ha];refine A0 (QL (thn (ho QC s σ H _ I h) ?_));rintro ov s1 ⟨x,H1,I1,r1,q1⟩;refine A0 (QL (thn (hi QC s1 σ H1 _ I1 q1) ?_));rintro iv s2 ⟨y,H2,I2,r2,q2⟩;refine A0 (wpAny_standAt (A0 (QL (thn (hs QC s2 σ H2 x y v ov iv u _ I2 r1 r2 r q2) ?_))));rintro _ s3 ⟨H3,I3,q3⟩;exact wpAny_release %[σ,H3,I3|q3]
def Ae(te:TE)(g:TG):TS:=λ D σ H=>te σ H λ x H1=>g x σ H1 D.nx
theorem bq{tg e:Expr}{te:TE}{g:TG}(he:PE X e te)(hg:PG X tg g)(hs:swapsWithSole [tg] e pos.line X.env=pure false:=by rfl)(hw:swappedStores [tg] e X.env=pure none:=by rfl)
  (h1:(assignEach [tg] X.env).map (·.2)=[assign tg X.env]:=by rfl):PS X (.Assign [tg] e pos) (Ae te g):=by
 intro QC s σ H D I h;refine wpAny_Assign_stores (thn (he QC s σ H _ I h) ?_) hs hw;rintro v s1 ⟨x,H1,I1,r1,q1⟩;rw[h1];exact thn (hg QC s1 σ H1 x v _ I1 r1 q1) λ _ s2 q=>q
theorem aw{i:Nat}{x:Str}{e:Expr}{te:TE}{pos':Pos}(hN:X.N.Nodup)(hi:X.N[i]?=some x)(hx:Loc X.env.scope x)(he:PE X e te)(hs:swapsWith e (some (.Name x pos')) pos.line X.env=pure false:=by rfl)(hf:X.fn x=true\/X.env.scope.names.lookup x=some .local:=by first | exact .inl rfl | exact .inr rfl | assumption) :
  PS X (.Assign [.Name x pos'] e pos) (Ae te (bU i)):=by
 intro QC s σ H D I h;refine wpAny_Assign_Name (thn (he QC s σ H _ I h) ?_) hs;rintro v s1 ⟨y,H1,I1,r1,q1⟩;exact dW I1 hN hi hx r1 (λ s2 I2=>%[_,H1,I2|q1]) hf
def MY(i:Nat)(te:TE)(ti:TIp):TS:=λ D σ H=>∃x,σ[i]?=some (some x)/\te σ H λ y H1=>ti x y H1 λ z H2=>D.nx (σ.set i (some z)) H2
theorem lw{i:Nat}{x:Str}{e:Expr}{te:TE}{op:Operator}{ti:TIp}{pos':Pos}(hN:X.N.Nodup)(hi:X.N[i]?=some x)(hx:Loc X.env.scope x)(he:PE X e te)(ho:PIp X op ti)(hf:X.fn x=true\/X.env.scope.names.lookup x=some .local:=by first | exact .inl rfl | exact .inr rfl | assumption) :
  PS X (.AugAssign (.Name x pos') op e pos) (MY i te ti):=by
 intro QC s σ H D I h;obtain⟨v,e1,h⟩:=h;obtain⟨m,hn,hl⟩:=I.loc;have vis:Vis X.env.scope x:=by rcases hx with k | k;exact .inl k;exact .inr (.inl k)
 obtain⟨u,r,l⟩:=hl i x v hi e1 vis;refine wpAny_AugAssign_Name ?_;have go:wpAny (model X.prog X.w) X.A (eval e X.env) (λ w s₂=>wpAny (model X.prog X.w) X.A (inplaceOp op u w) (λ r s₃=>wpAny (model X.prog X.w) X.A (storeName X.env x r) (λ _=>SP X QC D .next) X.xe s₃) X.xe s₂) X.xe s:=by refine thn (he QC s σ H _ I h) ?_;rintro w s1 ⟨y,H1,I1,r1,q1⟩;refine thn (ho QC s1 σ H1 v y u w _ I1 r r1 q1) ?_;rintro z s2 ⟨zv,H2,I2,r2,q2⟩;exact dW I2 hN hi hx r2 (λ s3 I3=>%[_,H2,I3|q2]) hf
 rcases l with⟨hk,hm⟩ | ⟨hk,c,hc,hcell⟩
 ·exact wpAny_loadName_local I.ok.kind hk hn hm go
 ·rcases hk with hk | hk
  ·exact wpAny_loadName_cell I.ok.kind hk hc hcell go
  ·rcases hx with k | k
   ·have:X.env.scope.names.lookup x=some .free:=hk;rw[k]at this;cases this
   ·have:X.env.scope.names.lookup x=some .free:=hk;rw[k]at this;cases this
def FW(to ti te:TE)(tget:V->V->Hp->VK->Prop)(tip:TIp)(tset:uA):TS:=λ D σ H=>to σ H λ o H1=>ti σ H1 λ i H2=>tget o i H2 λ x H3=>te σ H3 λ y H4=>tip x y H4 λ z H5=>tset o i z H5 λ H6=>D.nx σ H6
def FX(X:Cx)(t:V->V->Hp->VK->Prop):Prop :=
 ∀(QC:QA (P6×Obj))(s:F4)(σ:St)(H:Hp)(o i:V)(ov iv:F8)(Q:VK),Inv X QC σ H s->RelV o ov->RelV i iv->t o i H Q ->
  wpAny (model X.prog X.w) X.A (getItem ov iv) (EP X QC σ Q) X.xe s
theorem xD{o i e:Expr}{to ti te:TE}{tget:V->V->Hp->VK->Prop}{tip:TIp}{tset:uA}{op:Operator}{tpos:Pos}(ho:PE X o to)(hi:PE X i ti)(hg:FX X tget)(he:PE X e te)(hp:PIp X op tip)(hs:Ad X tset)
  (ha:∀ov iv new,augStore i ov iv new=(do holding [new,ov,iv] (setItem ov iv new);release [new,ov,iv] [];pure .next):=by intros;rfl):PS X (.AugAssign (.Subscript o i tpos) op e pos) (FW to ti te tget tip tset):=by
 intro QC s σ H D I h;refine wpAny_AugAssign_SubscriptAny (thn (ho QC s σ H _ I h) ?_) ha;rintro ov s1 ⟨x1,H1,I1,r1,q1⟩;refine thn (hi QC s1 σ H1 _ I1 q1) ?_;rintro iv s2 ⟨x2,H2,I2,r2,q2⟩;refine thn (hg QC s2 σ H2 x1 x2 ov iv _ I2 r1 r2 q2) ?_;rintro old s3 ⟨x3,H3,I3,r3,q3⟩;refine thn (he QC s3 σ H3 _ I3 q3) ?_;rintro v s4 ⟨x4,H4,I4,r4,q4⟩;refine thn (hp QC s4 σ H4 x3 x4 old v _ I4 r3 r4 q4) ?_;rintro new s5 ⟨x5,H5,I5,r5,q5⟩;exact thn (hs QC s5 σ H5 x1 x2 x5 ov iv new _ I5 r1 r2 r5 q5) λ _ s6 %[H6,I6|q6]=>%[σ,H6,I6|q6]
def ipI(f:Int->Int->Int):TIp:=λ x y H Q=>∃i j,x=.int i/\y=.int j/\Q (.int (f i j)) H
theorem js:PIp X .Add (ipI λ i j=>i+j):=by intro QC s σ H x y v u Q I r1 r2 h;obtain⟨i,j,e1,e2,q⟩:=h;subst e1;subst e2;obtain⟨t,rfl⟩:=r1;obtain⟨t',rfl⟩:=r2;exact iadd_int %[.int _,H,I.tok _,%[_|rfl]|q]
def Af(c:TT)(tb:TS):TS:=λ D σ H=>∃W:Nat->St->Hp->Prop,(∃m,W m σ H)/\∀m σ H,W m σ H ->
 c σ H λ b H1=>if b=true then∃N:St->Hp->Prop,(∀σ' H',N σ' H'->∃m',m' < m/\W m' σ' H')/\tb { D with nx:=N,ct:=N,bk:=D.nx } σ H1 else D.nx σ H1
theorem gK{c:Expr}{body:QA Stmt}{tc:TT}{tb:TS}(hp:PassesOwn (model X.prog X.w) X.A X.env X.xe)(hc:PT X c tc)(hb:PSs X body tb):PS X (.While c body [] pos) (Af tc tb):=by
 intro QC s σ H D I h;obtain⟨W,⟨m0,w0⟩,turn⟩:=h;refine wpAny_While (codeAny_whileLoop (λ n s'=>∃σ' H',Inv X QC σ' H' s'/\W n σ' H') ?_ m0 %[σ,H,I|w0]);rintro n s1 ⟨σ1,H1,I1,w1⟩;refine Qg hp (thn (hc QC s1 σ1 H1 _ I1 (turn n σ1 H1 w1)) ?_);rintro b s2 ⟨H2,I2,q2⟩;cases b with
 | true=>
  obtain⟨N,hN,q2⟩:=q2;rw[QI rfl];refine Qg hp (thn (hb QC s2 σ1 H2 _ I2 q2) λ f s3 q3=>?_);cases f with
  | next=>
   obtain⟨σ3,H3,I3,n3⟩:=q3;obtain⟨m',hm,w3⟩:=hN σ3 H3 n3;exact%[m',hm,σ3,H3,I3|w3]
  | cont=>
   obtain⟨σ3,H3,I3,n3⟩:=q3;obtain⟨m',hm,w3⟩:=hN σ3 H3 n3;exact%[m',hm,σ3,H3,I3|w3]
  | brk=>exact q3
  | ret v=>exact q3
 | false=>
  rw[QH B2];exact wpAny_execs_nil %[σ1,H2,I2|q2]
end
structure It where
 go:Nat->Hp->Prop
 yld:Nat->Hp->V->Hp->Prop
 stop:Nat->Hp->Prop
def gL(X:Cx)(QC:QA (P6×Obj))(H:Hp)(b:P6):Prop :=
 H b=none/\b≠X.env.locals/\b∉X.fs/\(b∈X.ex\/X.s₀.heap.objs.size<=b)/\(∀x c,X.env.cells.lookup x=some c->c≠b)/\∀p∈X.pn ++ QC,p.1≠b
theorem Inv.fpOk{X:Cx}{QC:QA (P6×Obj)}{σ:St}{H H':Hp}{s:F4}{b:P6}(I:Inv X QC σ H s)(hb:s.heap.objs.size<=b)(hn:H' b=none):gL X QC H' b:=by
 refine%[hn,O3 (C1 I.lt hb),I.nofs hb,.inr (C5 I.sz hb),λ x c e z=>?_|λ p hp z=>?_]
 ·obtain⟨v,q⟩:=I.cell x c e;exact absurd (C1 q.lt (by rw[z];exact hb)) (C8 _)
 ·exact absurd (C1 (A9 (I.pin p hp).1) (by rw[z];exact hb)) (C8 _)
structure Turn(P:Program)(w:World)(K:C4)(tg:Expr)(J:It)(fp:QA P6)(it:P6)(tn:Nat->Heap->Prop):Prop where
 mem:it∈fp
 obj:∀i h,tn i h->∀b∈fp,∃o,h.get? b=some o/\∀v,o.data≠.cell v
 keep:∀i h h',tn i h->(∀b∈fp,∀o,h.get? b=some o->h'.get? b=some o)->tn i h'
 item:∀(X:Cx),X.prog=P->X.w=w->X.K=K->X.calm=true->∀(i:Nat)(QC:QA (P6×Obj))(s:F4)(σ:St)(H:Hp)(E:F8->F4->Prop),Inv X QC σ H s->(∀b∈fp,gL X QC H b)->tn i s.heap->J.go i H ->
  wpAny (model P w) X.A (pyNext (.ref it)) (λ r s1=>∃u,r=some u /\
   wpAny (model P w) X.A (letOwnedTupleGo tg (.ref it) u) (λ _ s2=>∃x H',Inv X QC σ H' s2/\RelV x u/\J.yld i H x H'/\tn (i+1) s2.heap/\∀b∈fp,H' b=none) E s1) E s
 done:∀(X:Cx),X.prog=P->X.w=w->X.K=K->X.calm=true->∀(i:Nat)(QC:QA (P6×Obj))(s:F4)(σ:St)(H:Hp)(E:F8->F4->Prop),Inv X QC σ H s->(∀b∈fp,gL X QC H b)->tn i s.heap->J.stop i H ->
  wpAny (model P w) X.A (pyNext (.ref it)) (λ r s1=>r=none/\Inv X QC σ H s1) E s
 self:∀(A:Around)(i:Nat)(s:F4)(Q E:F8->F4->Prop),tn i s.heap->Q (.ref it) s->wpAny (model P w) A (pyIter (.ref it)) Q E s
abbrev TI:=St->Hp->(It->Hp->Prop)->Prop
def PIE(X:Cx)(QC:QA (P6×Obj))(σ:St)(tg:Expr)(R:It->Hp->Prop)(itv:F8)(s2:F4):Prop :=
 ∃(it:P6)(fp:QA P6)(tn:Nat->Heap->Prop)(J:It)(H':Hp),itv=.ref it/\Inv X QC σ H' s2/\Turn X.prog X.w X.K tg J fp it tn/\tn 0 s2.heap/\(∀b∈fp,gL X QC H' b)/\R J H'
def PI(X:Cx)(tg iter:Expr)(wi:TI):Prop :=
 ∀(QC:QA (P6×Obj))(s:F4)(σ:St)(H:Hp)(R:It->Hp->Prop),Inv X QC σ H s->wi σ H R ->
  wpAny (model X.prog X.w) X.A (eval iter X.env) (λ v s1=>wpAny (model X.prog X.w) X.A (pyIter v) (PIE X QC σ tg R) X.xe s1) X.xe s
theorem mD{M:Model}{A:Around}{E:F8->F4->Prop}{s:F4}{tg:Expr}{it:P6}{u:F8}{o:Obj}{n:String}{vs:P9 F8}{Q:Unit->F4->Prop}(ho:s.heap.get? it=some o)(hc:o.cls=.type n)(hd:o.data=.fields vs)
    (hn:["enumerate","zip","dict_itemiterator","dict_reverseitemiterator","odict_iterator","itertools.zip_longest","itertools.pairwise"].contains n=false) (hQ:Q () s):wpAny M A (letOwnedTupleGo tg (.ref it) u) Q E s:=by
  unfold letOwnedTupleGo;cases tg <;> first
    | exact A2 hQ
    | (cases u <;> first
        | exact A2 hQ
        | (refine A0 (wpAny_load ho ?_)
           rw[hc,hd];show wpAny M A (if (["enumerate","zip","dict_itemiterator","dict_reverseitemiterator","odict_iterator","itertools.zip_longest","itertools.pairwise"].contains n && vs[0]? == some (rawInt _))=true then _ else _) Q E s;rw[QH (by intro h;rw[hn,N3]at h;cases h)];exact A2 hQ))
def Itl(K:C4)(a:P6):It :=
 %[λ i H=>∃xs x,SqL K H a xs/\xs[i]?=some x,λ i H x H'=>H'=H/\∀xs,SqL K H a xs->xs[i]?=some x|λ i H=>∃xs,SqL K H a xs/\xs.length<=i]
def Itt(K:C4)(a:P6):It :=
 %[λ i H=>∃xs x,SqT K H a xs/\xs[i]?=some x,λ i H x H'=>H'=H/\∀xs,SqT K H a xs->xs[i]?=some x|λ i H=>∃xs,SqT K H a xs/\xs.length<=i]
def Itr(lo:Int)(n:Nat):It:=%[λ i _=>i < n,λ i H x H'=>H'=H/\x=.int (lo+i)|λ i _=>n<=i]
theorem kB{P:F5}{w:F7}{K:C4}{tg:Expr}(a it:P6):Turn P w K tg (Itl K a) [it] it (λ i h=>h.IsListIter it a i) where
 mem:=by simp
 obj:=λ i h st b hb=>by
  have e:b=it:=by simpa using hb
  subst e;obtain⟨o,e,c,d⟩:=st;exact%[o,e|λ v z=>by rw[d]at z;cases z]
 keep:=λ i h h' st k=>st.at λ o e=>k it (by simp) o e
 item:=by intro X hP hw hK hc i QC s σ H E I hf st hg;subst hP hw hK;obtain⟨xs,x,hq,hx⟩:=hg;obtain⟨its,rv,p,hz⟩:=I.list hq;obtain⟨u,hu,ru⟩:=rv.get hx;obtain⟨f0,f1,f2,f3,f4,f5⟩:=hf it (by simp);refine wpAny_pyNext_list_item st p.isList (x:=u) (by simpa using hu) λ h' st' sb=>?_;have I1:Inv X QC σ H { s with heap:=h' }:=I.turned (t':=s.toks) (λ b o hb e=>(sb.2 b hb).trans e) f0 f1 f3 f4 f5;obtain⟨o,e,c,d⟩:=id st';exact%[u,Y|mD (s:={ s with heap:=h' }) e c d ∅ %[x,H,I1,ru,%[Y|λ ys hy=>by rw[I.list_inj hy hq];exact hx],st'|λ b hb=>(hf b hb).1]]
 done:=by intro X hP hw hK hc i QC s σ H E I hf st hg;subst hP hw hK;obtain⟨xs,hq,hx⟩:=hg;obtain⟨its,rv,p,hz⟩:=I.list hq;obtain⟨f0,f1,f2,f3,f4,f5⟩:=hf it (by simp);have hl:=rv.length;exact wpAny_pyNext_list_end (I.ok.hd hc) st p.isList (by simp;lia) λ h' eb=>%[Y|I.turned (t':=s.toks) (λ b o hb e=>eb b o hb e) f0 f1 f3 f4 f5]
 self:=λ _ _ _ _ _ st h=>wpAny_pyIter_listiter st h
theorem jt{P:F5}{w:F7}{K:C4}{tg:Expr}(a it:P6):Turn P w K tg (Itt K a) [it] it (λ i h=>h.IsTupleIter it a i) where
 mem:=by simp
 obj:=λ i h st b hb=>by
  have e:b=it:=by simpa using hb
  subst e;obtain⟨o,e,c,d⟩:=st;exact%[o,e|λ v z=>by rw[d]at z;cases z]
 keep:=λ i h h' st k=>st.at λ o e=>k it (by simp) o e
 item:=by intro X hP hw hK hc i QC s σ H E I hf st hg;subst hP hw hK;obtain⟨xs,x,hq,hx⟩:=hg;obtain⟨its,rv,p,hz⟩:=I.tuple hq;obtain⟨u,hu,ru⟩:=rv.get hx;obtain⟨f0,f1,f2,f3,f4,f5⟩:=hf it (by simp);refine wpAny_pyNext_tuple_item st (show s.heap.IsTuple a its.toArray from p) (x:=u) (by simpa using hu) λ h' st' sb=>?_;have I1:Inv X QC σ H { s with heap:=h' }:=I.turned (t':=s.toks) (λ b o hb e=>(sb.2 b hb).trans e) f0 f1 f3 f4 f5;obtain⟨o,e,c,d⟩:=id st';exact%[u,Y|mD (s:={ s with heap:=h' }) e c d ∅ %[x,H,I1,ru,%[Y|λ ys hy=>by rw[I.tuple_inj hy hq];exact hx],st'|λ b hb=>(hf b hb).1]]
 done:=by intro X hP hw hK hc i QC s σ H E I hf st hg;subst hP hw hK;obtain⟨xs,hq,hx⟩:=hg;obtain⟨its,rv,p,hz⟩:=I.tuple hq;obtain⟨f0,f1,f2,f3,f4,f5⟩:=hf it (by simp);have hl:=rv.length;exact wpAny_pyNext_tuple_end (I.ok.hd hc) st (show s.heap.IsTuple a its.toArray from p) (by simp;lia) λ h' eb=>%[Y|I.turned (t':=s.toks) (λ b o hb e=>eb b o hb e) f0 f1 f3 f4 f5]
 self:=λ _ _ _ _ _ st h=>wpAny_pyIter_tupleiter st h
theorem nP{P:F5}{w:F7}{K:C4}{tg:Expr}(it:P6)(lo:Int)(n:Nat):Turn P w K tg (Itr lo n) [it] it (λ i h=>IsRangeIter h it (lo+(i:Nat) * 1) ((n:Int) - (i:Nat)) 1) where
 mem:=by simp
 obj:=λ i h st b hb=>by
  have e:b=it:=by simpa using hb
  subst e;exact⟨_,st,λ v z=>by
   have z':Data.fields _=Data.cell v:=z;cases z'⟩
 keep:=λ i h h' st k=>k it (by simp) _ st
 item:=by intro X hP hw hK hc i QC s σ H E I hf st hg;subst hP hw hK;obtain⟨f0,f1,f2,f3,f4,f5⟩:=hf it (by simp);have W:=Walks.range (prog:=X.prog) (w:=X.w) (I.ok.hd hc) it lo 1 n;refine W.item i s _ _ hg st λ v h' tk hv st' kk=>?_;obtain⟨t,rfl⟩:=hv;have I1:Inv X QC σ H { s with heap:=h',toks:=tk }:=I.turned (λ b o hb e=>kk b o (by simpa using hb) e) f0 f1 f3 f4 f5;refine%[_,Y|mD (s:={ s with heap:=h',toks:=tk }) (n := "range_iterator") st' rfl rfl ∅ %[.int (lo+i),H,I1,%[t|?_],%[Y|Y],st'|λ b hb=>(hf b hb).1]];rw[Int.mul_one]
 done:=by intro X hP hw hK hc i QC s σ H E I hf st hg;subst hP hw hK;obtain⟨f0,f1,f2,f3,f4,f5⟩:=hf it (by simp);exact wpAny_pyNext_range_end (I.ok.hd hc) st (by have:n<=i:=hg;lia) λ h' eb=>%[Y|I.turned (t':=s.toks) (λ b o hb e=>eb b o hb e) f0 f1 f3 f4 f5]
 self:=λ _ _ _ _ _ st h=>wpAny_pyIter_rangeiter st h
section
variable{X:Cx}{tg:Expr}
inductive iListA(K:C4)(R:It->Hp->Prop)(x:V)(H1:Hp):Prop
|mk(a:P6)(_:x=.ref a)(_:(∃xs,SqL K H1 a xs))(_:R (Itl K a) H1)
def zH(K:C4)(tl:TE):TI:=λ σ H R=>tl σ H λ x H1=>iListA K R x H1
inductive iTupA(K:C4)(R:It->Hp->Prop)(x:V)(H1:Hp):Prop
|mk(a:P6)(_:x=.ref a)(_:(∃xs,SqT K H1 a xs))(_:R (Itt K a) H1)
def FY(K:C4)(tl:TE):TI:=λ σ H R=>tl σ H λ x H1=>iTupA K R x H1
theorem cm{l:Expr}{tl:TE}(hl:PE X l tl):PI X tg l (zH X.K tl):=by
 intro QC s σ H R I h;refine thn (hl QC s σ H _ I h) ?_;rintro v s1 ⟨x,H1,I1,r1,q1⟩;obtain⟨a,e,⟨xs,hq⟩,q⟩:=q1;subst e;cases r1;obtain⟨its,rv,p,hz⟩:=I1.list hq;refine wpAny_pyIter_list p.isList ?_;refine%[s1.heap.objs.size,[s1.heap.objs.size],_,_,H1,Y,I1.kept (t':=s1.toks) λ b o e=>A7 _ e,kB a _,%[_,A8 _ rfl,Y|Y],λ b hb=>?_|q];have e:b=s1.heap.objs.size:=by simpa using hb
 subst e;exact I1.fpOk (B3 _) (I1.hok.fresh (B3 _))
theorem fj{l:Expr}{tl:TE}(hl:PE X l tl):PI X tg l (FY X.K tl):=by
 intro QC s σ H R I h;refine thn (hl QC s σ H _ I h) ?_;rintro v s1 ⟨x,H1,I1,r1,q1⟩;obtain⟨a,e,⟨xs,hq⟩,q⟩:=q1;subst e;cases r1;obtain⟨its,rv,p,hz⟩:=I1.tuple hq;refine QW (show s1.heap.IsTuple a its.toArray from p) ?_;refine%[s1.heap.objs.size,[s1.heap.objs.size],_,_,H1,Y,I1.kept (t':=s1.toks) λ b o e=>A7 _ e,jt a _,%[_,A8 _ rfl,Y|Y],λ b hb=>?_|q];have e:b=s1.heap.objs.size:=by simpa using hb
 subst e;exact I1.fpOk (B3 _) (I1.hok.fresh (B3 _))
theorem mE{QC:QA (P6×Obj)}{σ:St}{H:Hp}{s:F4}{R:It->Hp->Prop}{E:F8->F4->Prop}{lo hi:Int}{t u v:Tok}{tk:Nat}(I:Inv X QC σ H s)(h1:-(2 ^ 62)<=lo)(h2:lo < 2 ^ 62)(h3:-(2 ^ 62)<=hi)(h4:hi < 2 ^ 62)
  (q:R (Itr lo (hi - lo).toNat) H):wpAny (model X.prog X.w) X.A (pyIter (.ref s.heap.objs.size)) (PIE X QC σ tg R) E { s with heap:=s.heap.push { cls:=.type "range",data:=.fields #[.int lo t,.int hi u,.int 1 v] },toks:=tk }:=by
 refine wpAny_pyIter_range (IsRange.new ..) (small_one h1 h2 h3 h4) ?_;have I1:Inv X QC σ H { s with heap:=s.heap.push { cls:=.type "range",data:=.fields #[.int lo t,.int hi u,.int 1 v] },toks:=tk }:=I.kept λ b o e=>A7 _ e;refine⟨(s.heap.push { cls:=.type "range",data:=.fields #[.int lo t,.int hi u,.int 1 v] }).objs.size,[(s.heap.push { cls:=.type "range",data:=.fields #[.int lo t,.int hi u,.int 1 v] }).objs.size],_,_,H,Y,
  I1.kept (t':=tk) λ b o e=>A7 _ e,nP _ lo (hi - lo).toNat,?_,λ b hb=>?_,q⟩
 ·have e1:lo+((0:Nat):Int) * 1=lo:=by simp
  have e2:(((hi - lo).toNat:Nat):Int) - ((0:Nat):Int)=Builtin.Range.rangeSize lo hi 1:=by rw[rangeSize_one];split <;> lia
  show IsRangeIter _ _ (lo+((0:Nat):Int) * 1) ((((hi - lo).toNat:Nat):Int) - ((0:Nat):Int)) 1;rw[e1,e2];exact A8 _ rfl
 ·have e:b=(s.heap.push { cls:=.type "range",data:=.fields #[.int lo t,.int hi u,.int 1 v] }).objs.size:=by simpa using hb
  subst e;exact I1.fpOk (B3 _) (I1.hok.fresh (B3 _))
def FZ(ta:TA):TI:=λ σ H R=>ta σ H λ vs H1=>∃j:Int,vs=[.int j]/\-(2 ^ 62)<=j/\j < 2 ^ 62/\R (Itr 0 j.toNat) H1
def Ga(ta:TA):TI:=λ σ H R=>ta σ H λ vs H1=>∃i j:Int,vs=[.int i,.int j]/\(-(2 ^ 62)<=i/\i < 2 ^ 62/\-(2 ^ 62)<=j/\j < 2 ^ 62)/\R (Itr i (j - i).toNat) H1
theorem ip{a:Expr}{ta:TA}{p pos:Pos}(hg:Gl X "range")(hm:X.mg "range" = none)(ha:PA X [a] ta)(hs:starEach [a] X.env=[(false,eval a X.env)]:=by rfl):PI X tg (.Call (.Name "range" p) [a] [] pos) (FZ ta):=by
 intro QC s σ H R I h;refine Call_ (fh I hg hm boot_range (QM (thn (ha pos QC s σ H _ I h) ?_) hs rfl));rintro us s1 ⟨vs,H1,I1,r1,q1⟩;obtain⟨j,e,q1,q2,q⟩:=q1;subst e;cases r1 with
 | cons r rr=>
  cases rr;obtain⟨t,rfl⟩:=r;exact call_range_1 (mE I1 ⋯ ⋯ q1 q2 (by simpa using q))
theorem iq{a b:Expr}{ta:TA}{p pos:Pos}(hg:Gl X "range")(hm:X.mg "range" = none)(ha:PA X [a,b] ta)(hs:starEach [a,b] X.env=[(false,eval a X.env),(false,eval b X.env)]:=by rfl)(hs2:starEach [b] X.env=[(false,eval b X.env)]:=by rfl) :
  PI X tg (.Call (.Name "range" p) [a,b] [] pos) (Ga ta):=by
 intro QC s σ H R I h;refine Call_ (fh I hg hm boot_range (QM (thn (ha pos QC s σ H _ I h) ?_) (by rw[hs,hs2]) (by rw[hs2];rfl)));rintro us s1 ⟨vs,H1,I1,r1,q1⟩;obtain⟨i,j,e,⟨q1,q2,q3,q4⟩,q⟩:=q1;subst e;cases r1 with
 | cons r rr=>
  cases rr with
  | cons r' rr=>
   cases rr;obtain⟨t,rfl⟩:=r;obtain⟨t',rfl⟩:=r';exact call_range_2 (mE I1 q1 q2 q3 q4 q)
def Gb(wi:TI)(g:TG)(tb:TS):TS:=λ D σ H=>wi σ H λ J H1=>∃W:Nat->Nat->St->Hp->Prop,(∃m,W 0 m σ H1)/\∀i m σ H,W i m σ H ->
 (J.stop i H/\D.nx σ H)\/(J.go i H/\∃N:St->Hp->Prop,(∀σ' H',N σ' H'->∃m',m' < m/\W (i+1) m' σ' H')/\∀x H',J.yld i H x H'->g x σ H' λ σ2 H2=>tb { D with nx:=N,ct:=N,bk:=D.nx } σ2 H2)
def lA(fp:QA P6)(h:Heap):QA (P6×Obj):=fp.filterMap λ b=>(h.get? b).map λ o=>(b,o)
theorem cM{fp:QA P6}{h:Heap}{b:P6}{o:Obj}(hb:b∈fp)(e:h.get? b=some o):(b,o)∈lA fp h:=List.mem_filterMap.mpr %[b,hb|by rw[e];rfl]
theorem rS{fp:QA P6}{h:Heap}{p:P6×Obj}(hp:p∈lA fp h):p.1∈fp/\h.get? p.1=some p.2:=by
 obtain⟨b,hb,e⟩:=List.mem_filterMap.mp hp;cases q:h.get? b with
 | none=>rw[q]at e;cases e
 | some o=>
  rw[q]at e;have e':(b,o)=p:=B8 e;subst e';exact%[hb|q]
theorem Inv.pinned{QC:QA (P6×Obj)}{σ:St}{H:Hp}{s:F4}{fp:QA P6}(I:Inv X QC σ H s)(hf:∀b∈fp,gL X QC H b)(ho:∀b∈fp,∃o,s.heap.get? b=some o/\∀v,o.data≠.cell v):Inv X (QC ++ lA fp s.heap) σ H s :=
 I.pins_of λ p hp=>(C2.mp hp).elim (λ z=>I.pin p (A5 _ z)) λ z=>by obtain⟨hb,e⟩:=rS z;obtain⟨f0,f1,f2,_⟩:=hf p.1 hb;obtain⟨o,e',d⟩:=ho p.1 hb;rw[e]at e';cases e';exact%[e,f0,f1,f2|d]
theorem Inv.unpinned{QC pl:QA (P6×Obj)}{σ:St}{H:Hp}{s:F4}(I:Inv X (QC ++ pl) σ H s):Inv X QC σ H s:=I.pins_of λ p hp=>I.pin p (A5 _ (B6 _ hp))
theorem cG{iter:Expr}{body:QA Stmt}{wi:TI}{g:TG}{tb:TS}{pos:Pos}(hp:PassesOwn (model X.prog X.w) X.A X.env X.xe)(hc:X.calm=true)(hi:PI X tg iter wi)(hg:PG X tg g)(hb:PSs X body tb)
  (hs:∀x,foldedSetIterable iter X.env x=pure x:=by intro _;rfl):PS X (.For tg iter body [] pos) (Gb wi g tb):=by
 intro QC s σ H D I h;refine wpAny_For (thn (hi QC s σ H _ I h) λ v s1 h1=>thn h1 λ itv s2 h2=>?_) hs;obtain⟨it,fp,tn,J,H2,e,I2,T,st2,f2,W,⟨m0,w0⟩,turn⟩:=h2;subst e;have stat:∀{H':Hp},(∀b∈fp,H' b=none)->∀b∈fp,gL X QC H' b:=λ hn b hb=>%[hn b hb|(f2 b hb).2]
 refine codeAny_forLoop_any (λ n s'=>∃i σ' H',Inv X QC σ' H' s'/\tn i s'.heap/\(∀b∈fp,H' b=none)/\W i n σ' H') ?_ m0 %[0,σ,H2,I2,st2,λ b hb=>(f2 b hb).1|w0];rintro n s3 ⟨i,σ3,H3,I3,st3,fr3,w3⟩;rcases turn i n σ3 H3 w3 with⟨stop,qn⟩ | ⟨go,N,hN,step⟩
 ·refine Qg hp (thn (T.done X rfl rfl rfl hc i QC s3 σ3 H3 X.xe I3 (stat fr3) st3 stop) ?_);rintro r s4 ⟨hr,I4⟩;subst hr;exact wpAny_execs_nil %[σ3,H3,I4|qn]
 ·refine Qg hp (thn (T.item X rfl rfl rfl hc i QC s3 σ3 H3 X.xe I3 (stat fr3) st3 go) ?_);rintro r s4 ⟨u,hr,h4⟩;subst hr;refine Qg hp (thn h4 ?_);rintro _ s5 ⟨x,H5,I5,r5,y5,st5,fr5⟩;have I5':=I5.pinned (stat fr5) (T.obj _ _ st5);refine Qg hp (thn (hg _ s5 σ3 H5 x u _ I5' r5 (step x H5 y5)) ?_);rintro _ s6 ⟨σ6,H6,I6,q6⟩;refine Qg hp (thn (hb _ s6 σ6 H6 _ I6 q6) λ f s7 q7=>?_);have again:∀{σ7:St}{H7:Hp},Inv X (QC ++ lA fp s5.heap) σ7 H7 s7->N σ7 H7->∃m,m < n/\∃i σ' H',Inv X QC σ' H' s7/\tn i s7.heap/\(∀b∈fp,H' b=none)/\W i m σ' H':=λ {σ7 H7} I7 n7=>by obtain⟨m',hm,w7⟩:=hN σ7 H7 n7;refine%[m',hm,i+1,σ7,H7,I7.unpinned,T.keep _ _ _ st5 λ b hb o e=>(I7.pin (b,o) (A5 _ (A5 _ (cM hb e)))).1,λ b hb=>?_|w7];obtain⟨o,e,d⟩:=T.obj _ _ st5 b hb;exact(I7.pin (b,o) (A5 _ (A5 _ (cM hb e)))).2.1
  cases f with
  | next=>obtain⟨σ7,H7,I7,n7⟩:=q7;exact again I7 n7
  | cont=>obtain⟨σ7,H7,I7,n7⟩:=q7;exact again I7 n7
  | brk=>obtain⟨σ7,H7,I7,q7⟩:=q7;exact%[σ7,H7,I7.unpinned|q7]
  | ret v=>obtain⟨x7,σ7,H7,I7,r7,q7⟩:=q7;exact%[x7,σ7,H7,I7.unpinned,r7|q7]
end
theorem fk{K:C4}{a:P6}{xs:QA V}{g:TG}{tb:TS}{D:Ends}{σ:St}{H:Hp}(Pv:Nat->St->Hp->Prop)(h0:Pv 0 σ H)(hl:∀i σ H,i<=xs.length->Pv i σ H->SqL K H a xs)
  (hs:∀i x σ H,xs[i]?=some x->Pv i σ H->g x σ H λ σ2 H2=>tb { D with nx:=Pv (i+1),ct:=Pv (i+1),bk:=D.nx } σ2 H2) (hd:∀σ H,Pv xs.length σ H->D.nx σ H) :
  ∃W:Nat->Nat->St->Hp->Prop,(∃m,W 0 m σ H)/\∀i m σ H,W i m σ H ->
   ((Itl K a).stop i H/\D.nx σ H)\/((Itl K a).go i H/\∃N:St->Hp->Prop,(∀σ' H',N σ' H'->∃m',m' < m/\W (i+1) m' σ' H')/\∀x H',(Itl K a).yld i H x H'->g x σ H' λ σ2 H2=>tb { D with nx:=N,ct:=N,bk:=D.nx } σ2 H2):=by
 refine%[λ i m σ H=>m=xs.length - i/\i<=xs.length/\Pv i σ H,%[xs.length,by simp,E6 _|h0]|?_];rintro i m σ H ⟨rfl,hi,p⟩;have q:=hl i σ H hi p
 by_cases hlt:i < xs.length
 ·refine .inr %[%[xs,xs[i],q|by simp[hlt]],Pv (i+1),λ σ' H' p'=>%[xs.length - (i+1),⋯,Y,hlt|p']|λ x H' y=>?_];obtain⟨e,y⟩:=y;subst e;exact hs i x σ _ (y xs q) p
 ·have e:i=xs.length:=⋯
  subst e;exact .inl %[%[xs,q|B3 _]|hd σ H p]
theorem ja{K:C4}{a:P6}{xs:QA V}{g:TG}{tb:TS}{D:Ends}{σ:St}{H:Hp}(Pv:Nat->St->Hp->Prop)(h0:Pv 0 σ H)(hl:∀i σ H,i<=xs.length->Pv i σ H->SqT K H a xs)
  (hs:∀i x σ H,xs[i]?=some x->Pv i σ H->g x σ H λ σ2 H2=>tb { D with nx:=Pv (i+1),ct:=Pv (i+1),bk:=D.nx } σ2 H2) (hd:∀σ H,Pv xs.length σ H->D.nx σ H) :
  ∃W:Nat->Nat->St->Hp->Prop,(∃m,W 0 m σ H)/\∀i m σ H,W i m σ H ->
   ((Itt K a).stop i H/\D.nx σ H)\/((Itt K a).go i H/\∃N:St->Hp->Prop,(∀σ' H',N σ' H'->∃m',m' < m/\W (i+1) m' σ' H')/\∀x H',(Itt K a).yld i H x H'->g x σ H' λ σ2 H2=>tb { D with nx:=N,ct:=N,bk:=D.nx } σ2 H2):=by
 refine%[λ i m σ H=>m=xs.length - i/\i<=xs.length/\Pv i σ H,%[xs.length,by simp,E6 _|h0]|?_];rintro i m σ H ⟨rfl,hi,p⟩;have q:=hl i σ H hi p
 by_cases hlt:i < xs.length
 ·refine .inr %[%[xs,xs[i],q|by simp[hlt]],Pv (i+1),λ σ' H' p'=>%[xs.length - (i+1),⋯,Y,hlt|p']|λ x H' y=>?_];obtain⟨e,y⟩:=y;subst e;exact hs i x σ _ (y xs q) p
 ·have e:i=xs.length:=⋯
  subst e;exact .inl %[%[xs,q|B3 _]|hd σ H p]
theorem fQ{lo:Int}{n:Nat}{g:TG}{tb:TS}{D:Ends}{σ:St}{H:Hp}(Pv:Nat->St->Hp->Prop)(h0:Pv 0 σ H)
  (hs:∀i σ H,i < n->Pv i σ H->g (.int (lo+i)) σ H λ σ2 H2=>tb { D with nx:=Pv (i+1),ct:=Pv (i+1),bk:=D.nx } σ2 H2) (hd:∀σ H,Pv n σ H->D.nx σ H) :
  ∃W:Nat->Nat->St->Hp->Prop,(∃m,W 0 m σ H)/\∀i m σ H,W i m σ H ->
   ((Itr lo n).stop i H/\D.nx σ H)\/((Itr lo n).go i H/\∃N:St->Hp->Prop,(∀σ' H',N σ' H'->∃m',m' < m/\W (i+1) m' σ' H')/\∀x H',(Itr lo n).yld i H x H'->g x σ H' λ σ2 H2=>tb { D with nx:=N,ct:=N,bk:=D.nx } σ2 H2):=by
 refine%[λ i m σ H=>m=n - i/\i<=n/\Pv i σ H,%[n,by simp,E6 _|h0]|?_];rintro i m σ H ⟨rfl,hi,p⟩
 by_cases hlt:i < n
 ·refine .inr %[hlt,Pv (i+1),λ σ' H' p'=>%[n - (i+1),⋯,Y,hlt|p']|λ x H' y=>?_];obtain⟨e,y⟩:=y;subst e y;exact hs i σ _ hlt p
 ·have e:i=n:=⋯
  subst e;exact .inl %[B3 _|hd σ H p]
abbrev R2:=V->V->Hp->VK->Prop
def OpR(X:Cx)(f:F8->F8->Sem F8)(r:R2):Prop :=
 ∀(QC:QA (P6×Obj))(s:F4)(σ:St)(H:Hp)(x y:V)(v u:F8)(Q:VK),Inv X QC σ H s->RelV x v->RelV y u->r x y H Q ->
  wpAny (model X.prog X.w) X.A (f v u) (EP X QC σ Q) X.xe s
def UnR(X:Cx)(f:F8->Sem F8)(r:V->Hp->VK->Prop):Prop :=
 ∀(QC:QA (P6×Obj))(s:F4)(σ:St)(H:Hp)(x:V)(v:F8)(Q:VK),Inv X QC σ H s->RelV x v->r x H Q ->
  wpAny (model X.prog X.w) X.A (f v) (EP X QC σ Q) X.xe s
def de(X:Cx)(f:F8)(r:QA V->Hp->VK->Prop):Prop :=
 ∀(QC:QA (P6×Obj))(s:F4)(σ:St)(H:Hp)(xs:QA V)(us:QA F8)(Q:VK),Inv X QC σ H s->Vals xs us->r xs H Q ->
  wpAny (model X.prog X.w) X.A (call f us) (EP X QC σ Q) X.xe s
def MZ(X:Cx)(r:V->Hp->(Bool->Hp->Prop)->Prop):Prop :=
 ∀(QC:QA (P6×Obj))(s:F4)(σ:St)(H:Hp)(x:V)(v:F8)(Q:Bool->Hp->Prop),Inv X QC σ H s->RelV x v->r x H Q ->
  wpAny (model X.prog X.w) X.A (truthy v) (TP X QC σ Q) X.xe s
def tOp(r:R2)(ta tb:TE):TE:=λ σ H Q=>ta σ H λ x H1=>tb σ H1 λ y H2=>r x y H2 Q
def tUn(r:V->Hp->VK->Prop)(ta:TE):TE:=λ σ H Q=>ta σ H λ x H1=>r x H1 Q
inductive rI(C:Int->Int->Prop)(g:Int->Int->V)(x:V)(y:V)(H:Hp)(Q:VK):Prop
|mk(i j:Int)(_:x=.int i)(_:y=.int j)(_:C i j)(_:Q (g i j) H)
inductive rI0(g:Int->Int->V)(x:V)(y:V)(H:Hp)(Q:VK):Prop
|mk(i j:Int)(_:x=.int i)(_:y=.int j)(_:Q (g i j) H)
def rU(g:Int->V):V->Hp->VK->Prop:=λ x H Q=>∃i,x=.int i/\Q (g i) H
section
variable{X:Cx}{a b c:Expr}{ta tb tc:TE}{pos:Pos}
theorem Ag(ha:PE X a ta)(hb:PE X b tb){QC:QA (P6×Obj)}{s:F4}{σ:St}{H:Hp}{R:V->V->Hp->Prop}(I:Inv X QC σ H s)
  (h:ta σ H λ x H1=>tb σ H1 λ y H2=>R x y H2) {Q:F8->F4->Prop} {f:F8->F8->Sem F8}
  (hf:∀v u s2 x y H2,Inv X QC σ H2 s2->RelV x v->RelV y u->R x y H2->wpAny (model X.prog X.w) X.A (f v u) Q X.xe s2) :
  wpAny (model X.prog X.w) X.A (eval a X.env) (λ v s₁=>wpAny (model X.prog X.w) X.A (eval b X.env) (λ u s₂=>wpAny (model X.prog X.w) X.A (f v u) Q X.xe s₂) X.xe s₁) X.xe s:=by
 refine thn (ha QC s σ H _ I h) ?_;rintro v s1 ⟨x,H1,I1,r1,q1⟩;refine thn (hb QC s1 σ H1 _ I1 q1) ?_;rintro u s2 ⟨y,H2,I2,r2,q2⟩;exact hf v u s2 x y H2 I2 r1 r2 q2
theorem ay{op:Operator}{r:R2}(ho:OpR X (binaryOp op) r)(ha:PE X a ta)(hb:PE X b tb):PE X (.BinOp a op b pos) (tOp r ta tb):=by intro QC s σ H Q I h;exact wpAny_BinOp (Ag ha hb I h λ v u s2 x y H2 I2 rx ry q=>ho QC s2 σ H2 x y v u Q I2 rx ry q)
theorem zI{op:UnaryOp}{r:V->Hp->VK->Prop}(ho:UnR X (unaryOp op) r)(ha:PE X a ta):PE X (.UnaryOp op a pos) (tUn r ta):=by intro QC s σ H Q I h;exact UnaryOp_ (thn (ha QC s σ H _ I h) λ v s1 %[x,H1,I1,r1|q1]=>ho QC s1 σ H1 x v Q I1 r1 q1)
theorem opI{f:F8->F8->Sem F8}{C:Int->Int->Prop}{g:Int->Int->Int}
  (rule:∀(i j:Int)(t u:Tok)(s:F4)(Q E:F8->F4->Prop),C i j->Q (.int (g i j) s.toks) { s with toks:=s.toks+1 }->wpAny (model X.prog X.w) X.A (f (.int i t) (.int j u)) Q E s) :
  OpR X f (rI C λ i j=>.int (g i j)):=by
 intro QC s σ H x y v u Q I rx ry h;obtain⟨i,j,rfl,rfl,hc,q⟩:=h;obtain⟨t,rfl⟩:=rx;obtain⟨t',rfl⟩:=ry;exact rule i j t t' s _ _ hc %[.int (g i j),H,I.tok _,%[_|rfl]|q]
theorem Gc{f:F8->F8->Sem F8}{g:Int->Int->Int}
  (rule:∀(i j:Int)(t u:Tok)(s:F4)(Q E:F8->F4->Prop),Q (.int (g i j) s.toks) { s with toks:=s.toks+1 }->wpAny (model X.prog X.w) X.A (f (.int i t) (.int j u)) Q E s) :
  OpR X f (rI0 λ i j=>.int (g i j)):=by
 intro QC s σ H x y v u Q I rx ry h;obtain⟨i,j,rfl,rfl,q⟩:=h;obtain⟨t,rfl⟩:=rx;obtain⟨t',rfl⟩:=ry;exact rule i j t t' s _ _ %[.int (g i j),H,I.tok _,%[_|rfl]|q]
theorem xE{f:F8->F8->Sem F8}{g:Int->Int->Bool}
  (rule:∀(i j:Int)(t u:Tok)(s:F4)(Q E:F8->F4->Prop),Q (.bool (g i j)) s->wpAny (model X.prog X.w) X.A (f (.int i t) (.int j u)) Q E s) :
  OpR X f (rI0 λ i j=>.bl (g i j)):=by
 intro QC s σ H x y v u Q I rx ry h;obtain⟨i,j,rfl,rfl,q⟩:=h;obtain⟨t,rfl⟩:=rx;obtain⟨t',rfl⟩:=ry;exact rule i j t t' s _ _ %[.bl (g i j),H,I,rfl|q]
def Gd(i j:Int):Prop:=0 < j/\j < 1073741824
def Ge(i j:Int):Prop:=0<=j/\j<=1000000/\i.natAbs < 2 ^ 64
def CMul(i j:Int):Prop:=(-(2 ^ 64) < i/\i < 2 ^ 64)\/(-(2 ^ 64) < j/\j < 2 ^ 64)
theorem CMul.ok{i j:Int}(h:CMul i j):IntMulOk i j:=by
 rcases h with⟨h1,h2⟩ | ⟨h1,h2⟩
 ·exact .of_left (intBits_le_64 h1 h2)
 ·exact .of_right (intBits_le_64 h1 h2)
theorem aM:OpR X (binaryOp .Add) (rI0 λ i j=>.int (i+j)):=Gc λ _ _ _ _ _ _ _ q=>add_int q
theorem br:OpR X (binaryOp .Sub) (rI0 λ i j=>.int (i - j)):=Gc λ _ _ _ _ _ _ _ q=>sub_int q
theorem dS:OpR X (binaryOp .Mult) (rI CMul λ i j=>.int (i * j)):=opI λ _ _ _ _ _ _ _ hc q=>mul_int q hc.ok
theorem xF:OpR X (binaryOp .FloorDiv) (rI Gd λ i j=>.int (i / j)):=opI λ i j _ _ _ _ _ hc q=>by have h1:(0:Int) < j:=hc.1;have h2:j < 1073741824:=hc.2;exact floordiv_int ⋯ (by rw[Int.fdiv_eq_ediv_of_nonneg i ⋯];exact q) (.inl (PyProof.noPylong_small ⋯))
theorem ju:OpR X (binaryOp .Mod) (rI (λ _ j=>0 < j) λ i j=>.int (i % j)):=opI λ i j _ _ _ _ _ hc q=>by have h1:(0:Int) < j:=hc;exact mod_int' ⋯ (by rw[Int.fmod_eq_emod_of_nonneg i ⋯];exact q)
theorem ir:OpR X (binaryOp .Pow) (rI Ge λ i j=>.int (i ^ j.toNat)):=opI λ _ _ _ _ _ _ _ hc q=>pow_int_small hc.1 hc.2.1 hc.2.2 q
theorem unI{f:F8->Sem F8}{g:Int->Int}
  (rule:∀(i:Int)(t:Tok)(s:F4)(Q E:F8->F4->Prop),Q (.int (g i) s.toks) { s with toks:=s.toks+1 }->wpAny (model X.prog X.w) X.A (f (.int i t)) Q E s) :
  UnR X f (rU λ i=>.int (g i)):=by
 intro QC s σ H x v Q I rx h;obtain⟨i,rfl,q⟩:=h;obtain⟨t,rfl⟩:=rx;exact rule i t s _ _ %[.int (g i),H,I.tok _,%[_|rfl]|q]
theorem uB:UnR X (unaryOp .USub) (rU λ i=>.int (-i)):=unI λ _ _ _ _ _ q=>neg_int q
inductive rz_op_add_ib(x:V)(y:V)(H:Hp)(Q:VK):Prop
|mk(i k:_)(_:x=.int i)(_:y=.bl k)(_:Q (.int (i+b2i k)) H)
end
def Gf:V->V->Bool
 | .non,.non=>true | .non,.int _=>true | .int _,.non=>true | .non,.bl _=>true | .bl _,.non=>true | .non,.str _=>true | .str _,.non=>true
 | .int _,.int _=>true | .bl _,.bl _=>true | .str _,.str _=>true | .byt _,.byt _=>true
 | .int _,.str _=>true | .str _,.int _=>true | .bl _,.str _=>true | .str _,.bl _=>true
 | _,_=>false
def rEq:R2:=λ x y H Q=>Gf x y=true/\Q (.bl (decide (x=y))) H
def rNe:R2:=λ x y H Q=>Gf x y=true/\Q (.bl (!decide (x=y))) H
theorem lB{i j:Int}:decide (V.int i=V.int j)=(i == j):=by rw[PY];simp
theorem uC{i j:Bool}:decide (V.bl i=V.bl j)=(i == j):=by rw[PY];simp
theorem qv{i j:Str}:decide (V.str i=V.str j)=(i == j):=by rw[PY];simp
theorem qw{i j:P9 UInt8}:decide (V.byt i=V.byt j)=(i.toList == j.toList):=by rw[PY];cases i;cases j;simp
section
variable{X:Cx}{a b c:Expr}{ta tb tc:TE}{pos:Pos}
theorem aR{QC:QA (P6×Obj)}{σ:St}{H:Hp}{s:F4}{Q:VK}{k k':Bool}(I:Inv X QC σ H s)(q:Q (.bl k) H)(e:k=k'):EP X QC σ Q (.bool k') s:=by subst e;exact%[.bl k,H,I,Y|q]
theorem cf:OpR X (compareOp .Eq) rEq:=by
 intro QC s σ H x y v u Q I rx ry h;obtain⟨hs,q⟩:=h;cases x with
 | non=>
  cases rx;cases y with
  | non=>cases ry;exact PySem.EqNone.eq_none_none (aR I q (by simp))
  | bl j=>cases ry;exact PySem.EqNone.eq_none_bool (aR I q (by simp))
  | int j=>obtain⟨t',rfl⟩:=ry;exact PySem.EqNone.eq_none_int (aR I q (by simp))
  | str j=>obtain⟨t',rfl⟩:=ry;exact PySem.EqNone.eq_none_str (aR I q (by simp))
  | _=>exact absurd (show false=true from hs) B2
 | bl i=>
  cases rx;cases y with
  | non=>cases ry;exact PySem.EqNone.eq_bool_none (aR I q (by simp))
  | bl j=>cases ry;exact eq_bool (aR I q uC)
  | str j=>obtain⟨t',rfl⟩:=ry;exact PySem.EqMixed.eq_bool_str (aR I q (by simp))
  | _=>exact absurd (show false=true from hs) B2
 | int i=>
  obtain⟨t,rfl⟩:=rx;cases y with
  | non=>cases ry;exact PySem.EqNone.eq_int_none (aR I q (by simp))
  | int j=>obtain⟨t',rfl⟩:=ry;exact eq_int (aR I q lB)
  | str j=>obtain⟨t',rfl⟩:=ry;exact PySem.EqMixed.eq_int_str (aR I q (by simp))
  | _=>exact absurd (show false=true from hs) B2
 | str i=>
  obtain⟨t,rfl⟩:=rx;cases y with
  | non=>cases ry;exact PySem.EqNone.eq_str_none (aR I q (by simp))
  | bl j=>cases ry;exact PySem.EqMixed.eq_str_bool (aR I q (by simp))
  | int j=>obtain⟨t',rfl⟩:=ry;exact PySem.EqMixed.eq_str_int (aR I q (by simp))
  | str j=>obtain⟨t',rfl⟩:=ry;exact eq_str (aR I q qv)
  | _=>exact absurd (show false=true from hs) B2
 | byt i=>
  obtain⟨t,rfl⟩:=rx;cases y with
  | byt j=>obtain⟨t',rfl⟩:=ry;exact PySem.W.eq_bytes (aR I q qw)
  | _=>exact absurd (show false=true from hs) B2
 | _=>cases y <;> exact absurd (show false=true from hs) B2
theorem gM:OpR X (compareOp .NotEq) rNe:=by
 intro QC s σ H x y v u Q I rx ry h;obtain⟨hs,q⟩:=h;cases x with
 | non=>
  cases rx;cases y with
  | non=>cases ry;exact PySem.EqNone.ne_none_none (aR I q (by simp))
  | bl j=>cases ry;exact PySem.EqNone.ne_none_bool (aR I q (by simp))
  | int j=>obtain⟨t',rfl⟩:=ry;exact PySem.EqNone.ne_none_int (aR I q (by simp))
  | str j=>obtain⟨t',rfl⟩:=ry;exact PySem.EqNone.ne_none_str (aR I q (by simp))
  | _=>exact absurd (show false=true from hs) B2
 | bl i=>
  cases rx;cases y with
  | non=>cases ry;exact PySem.EqNone.ne_bool_none (aR I q (by simp))
  | bl j=>cases ry;exact ne_bool (aR I q (QV not uC))
  | str j=>obtain⟨t',rfl⟩:=ry;exact PySem.EqMixed.ne_bool_str (aR I q (by simp))
  | _=>exact absurd (show false=true from hs) B2
 | int i=>
  obtain⟨t,rfl⟩:=rx;cases y with
  | non=>cases ry;exact PySem.EqNone.ne_int_none (aR I q (by simp))
  | int j=>obtain⟨t',rfl⟩:=ry;exact ne_int (aR I q (QV not lB))
  | str j=>obtain⟨t',rfl⟩:=ry;exact PySem.EqMixed.ne_int_str (aR I q (by simp))
  | _=>exact absurd (show false=true from hs) B2
 | str i=>
  obtain⟨t,rfl⟩:=rx;cases y with
  | non=>cases ry;exact PySem.EqNone.ne_str_none (aR I q (by simp))
  | bl j=>cases ry;exact PySem.EqMixed.ne_str_bool (aR I q (by simp))
  | int j=>obtain⟨t',rfl⟩:=ry;exact PySem.EqMixed.ne_str_int (aR I q (by simp))
  | str j=>obtain⟨t',rfl⟩:=ry;exact ne_str (aR I q (QV not qv))
  | _=>exact absurd (show false=true from hs) B2
 | byt i=>
  obtain⟨t,rfl⟩:=rx;cases y with
  | byt j=>obtain⟨t',rfl⟩:=ry;exact PySem.W.ne_bytes (aR I q (QV not qw))
  | _=>exact absurd (show false=true from hs) B2
 | _=>cases y <;> exact absurd (show false=true from hs) B2
theorem mF:OpR X (compareOp .Lt) (rI0 λ i j=>.bl (decide (i < j))):=xE λ _ _ _ _ _ _ _ q=>lt_int q
theorem kC:OpR X (compareOp .LtE) (rI0 λ i j=>.bl (decide (i<=j))):=xE λ _ _ _ _ _ _ _ q=>le_int q
theorem uD:OpR X (compareOp .Gt) (rI0 λ i j=>.bl (decide (j < i))):=xE λ _ _ _ _ _ _ _ q=>gt_int q
theorem qx:OpR X (compareOp .GtE) (rI0 λ i j=>.bl (decide (j<=i))):=xE λ _ _ _ _ _ _ _ q=>ge_int q
inductive rz_op_lt_str(x:V)(y:V)(H:Hp)(Q:VK):Prop
|mk(i j:_)(_:x=.str i)(_:y=.str j)(_:Q (.bl (decide (i.cps.toList < j.cps.toList))) H)
inductive rz_op_in_str(x:V)(y:V)(H:Hp)(Q:VK):Prop
|mk(i j:_)(_:x=.str i)(_:y=.str j)(_:Q (.bl (!(Builtin.Str.occurrences j i 0 j.length 1).isEmpty)) H)
theorem uE:OpR X (compareOp .Is) (λ x y H Q=>y=.non/\Q (.bl (decide (x=.non))) H):=by
 intro QC s σ H x y v u Q I rx ry h;obtain⟨rfl,q⟩:=h;cases ry;refine is_none_gen (aR I q ?_);cases x <;> first
  | (cases rx;rfl)
  | (obtain⟨t,rfl⟩:=rx;rfl)
theorem xG:OpR X (compareOp .IsNot) (λ x y H Q=>y=.non/\Q (.bl (!decide (x=.non))) H):=by
 intro QC s σ H x y v u Q I rx ry h;obtain⟨rfl,q⟩:=h;cases ry;refine isnot_none_gen (aR I q ?_);cases x <;> first
  | (cases rx;rfl)
  | (obtain⟨t,rfl⟩:=rx;rfl)
inductive rz_op_notin_str(x:V)(y:V)(H:Hp)(Q:VK):Prop
|mk(i j:_)(_:x=.str i)(_:y=.str j)(_:Q (.bl (!(!(Builtin.Str.occurrences j i 0 j.length 1).isEmpty))) H)
def qy:HO->Bool
 | .lst _=>true
 | .ins _ _ _=>true
 | _=>false
inductive rz_op_is_ref(x:V)(y:V)(H:Hp)(Q:VK):Prop
|mk(a b oa ob:_)(_:x=.ref a)(_:y=.ref b)(_:H a=some oa)(_:qy oa=true)(_:H b=some ob)(_:qy ob=true)(_:Q (.bl (decide (a=b))) H)
inductive rz_op_isnot_ref(x:V)(y:V)(H:Hp)(Q:VK):Prop
|mk(a b oa ob:_)(_:x=.ref a)(_:y=.ref b)(_:H a=some oa)(_:qy oa=true)(_:H b=some ob)(_:qy ob=true)(_:Q (.bl (!decide (a=b))) H)
theorem aE(b:Expr){op:CmpOp}(h:op≠.In:=by decide)(h2:op≠.NotIn:=by decide):behindInMarks op b=false:=by
 have e1:(op == CmpOp.In)=false:=by cases op <;> first | rfl | exact absurd rfl h
 have e2:(op == CmpOp.NotIn)=false:=by cases op <;> first | rfl | exact absurd rfl h2
 cases b <;> simp[behindInMarks,e1,e2]
theorem cq{op:CmpOp}{r:R2}(ho:OpR X (compareOp op) r)(ha:PE X a ta)(hb:PE X b tb)(hm:behindInMarks op b=false):PE X (.Compare a [op] [b] pos) (tOp r ta tb):=by intro QC s σ H Q I h;exact wpAny_Compare1 (Ag ha hb I h λ v u s2 x y H2 I2 rx ry q=>ho QC s2 σ H2 x y v u Q I2 rx ry q) hm
def uF(t:TE):TT:=λ σ H Q=>t σ H λ x H'=>IsB x λ k=>Q k H'
theorem aB{op:CmpOp}{r:R2}(ho:OpR X (compareOp op) r)(ha:PE X a ta)(hb:PE X b tb)(hm:behindInMarks op b=false):PT X (.Compare a [op] [b] pos) (uF (tOp r ta tb)):=by
 intro QC s σ H Q I h;refine wpAny_isTrue_Compare1 (thn (ha QC s σ H _ I h) λ v s1 %[x,H1,I1,r1|q1]=>thn (hb QC s1 σ H1 _ I1 q1) λ u s2 %[y,H2,I2,r2|q2]=>
  thn (ho QC s2 σ H2 x y v u _ I2 r1 r2 q2) λ c s3 %[z,H3,I3,r3,k,e|q3]=>?_) hm
 subst e;cases r3;exact F0 %[H3,I3|q3]
def Ah(r r':R2)(ta tb tc:TE):TE:=λ σ H Q=>ta σ H λ x H1=>tb σ H1 λ y H2=>r x y H2 λ z H3=>∃k,z=.bl k /\
 (if k=true then tc σ H3 λ w' H4=>r' y w' H4 Q else Q (.bl false) H3)
theorem uG{op op':CmpOp}{r r':R2}(ho:OpR X (compareOp op) r)(ho':OpR X (compareOp op') r')(ha:PE X a ta)(hb:PE X b tb)(hc:PE X c tc)
  (hm:lastMarks [op,op'] [b,c]=false:=by with_unfolding_all rfl):PT X (.Compare a [op,op'] [b,c] pos) (uF (Ah r r' ta tb tc)):=by
 intro QC s σ H Q I h;refine isTrue_chain (thn (ha QC s σ H _ I h) λ v s1 %[x,H1,I1,r1|q1]=>test_link (thn (hb QC s1 σ H1 _ I1 q1) λ u s2 %[y,H2,I2,r2|q2]=>
  thn (ho QC s2 σ H2 x y v u _ I2 r1 r2 q2) λ d s3 %[z,H3,I3,r3,k,e|q3]=>?_)) hm
 subst e;cases r3;refine F0 ?_;cases k with
 | false=>
  obtain⟨k',e',q'⟩:=q3;cases e';exact ite_ff %[H3,I3|q']
 | true=>
  refine ite_tt (test_last (thn (hc QC s3 σ H3 _ I3 q3) ?_));rintro w' s4 ⟨z',H4,I4,r4,q4⟩;refine thn (ho' QC s4 σ H4 y z' u w' _ I4 r2 r4 q4) ?_;rintro d' s5 ⟨z2,H5,I5,r5,k2,e2,q5⟩;subst e2;cases r5;exact F0 %[H5,I5|q5]
def Gg(K:C4)(x:V)(H:Hp)(k:Bool):Prop :=
 match x with
 | .non=>k=false
 | .bl b=>k=b
 | .int i=>k=(i != 0)
 | .str y=>y.length<=sizeLine/\k=((y.length:Int) != 0)
 | .byt y=>y.size<=sizeLine/\k=((y.size:Int) != 0)
 | .ref p=>(∃xs,SqL K H p xs/\k=!xs.isEmpty)\/(∃xs,SqT K H p xs/\k=!xs.isEmpty)\/∃kvs,H p=some (.dK kvs)/\k=!kvs.isEmpty
 | _=>False
theorem nQ{κ:Type}{kvs:QA (κ×V)}{vs:QA (κ×F8)}(r:KV kvs vs):(!vs.isEmpty)=!kvs.isEmpty:=by cases r <;> rfl
theorem jv{xs:QA V}{its:QA F8}(r:Vals xs its):(!its.toArray.isEmpty)=!xs.isEmpty:=by cases r <;> simp
theorem gy:(sizeLine:Nat) < 2 ^ 63:=by rw[sizeLine_eq];decide
theorem Ai:MZ X (λ x H Q=>∃k,Gg X.K x H k/\Q k H):=by
 intro QC s σ H x v Q I rx h;obtain⟨k,e,q⟩:=h;have hl:=gy;have hs:sizeLine=16777216:=sizeLine_eq;cases x with
 | non=>
  cases rx;have e':k=false:=e;subst e';exact truthy_none %[H,I|q]
 | bl b=>
  cases rx;have e':k=b:=e;subst e';exact F0 %[H,I|q]
 | int i=>
  obtain⟨t,rfl⟩:=rx;have e':k=(i != 0):=e;subst e';exact PySem.P.truthy_int %[H,I|q]
 | str y=>
  obtain⟨t,rfl⟩:=rx;obtain⟨hy,e'⟩:y.length<=sizeLine/\k=((y.length:Int) != 0):=e;subst e';exact PySem.P.truthy_str ⋯ %[H,I.tok _|q]
 | byt y=>
  obtain⟨t,rfl⟩:=rx;obtain⟨hy,e'⟩:y.size<=sizeLine/\k=((y.size:Int) != 0):=e;subst e';exact PySem.W.truthy_bytes ⋯ %[H,I.tok _|q]
 | ref p=>
  cases rx;have e':(∃xs,SqL X.K H p xs/\k=!xs.isEmpty)\/(∃xs,SqT X.K H p xs/\k=!xs.isEmpty)\/∃kvs,H p=some (.dK kvs)/\k=!kvs.isEmpty:=e;rcases e' with⟨xs,hx,e'⟩ | ⟨xs,hx,e'⟩ | ⟨kvs,hx,e'⟩
  ·subst e';obtain⟨its,r,pl,hz⟩:=I.list hx;have QE:=r.length;exact wpAny_truthy_list pl.isList (by simp only[G7];lia) %[H,I.tok _|by rw[jv r];exact q]
  ·subst e';obtain⟨its,r,pl,hz⟩:=I.tuple hx;have QE:=r.length;exact truthy_tuple pl (by simp only[G7];lia) %[H,I.tok _|by rw[jv r];exact q]
  ·subst e';obtain⟨hz,hS,vs,r,m⟩:kvs.length<=sizeLine/\(p == sysModules)=false/\∃vs,KV kvs vs/\s.heap.DictOf (li X.prog X.w) p vs:=I.hok p _ hx;have QE:kvs.length=vs.length:=E1 r;exact wpAny_truthy_dict hS m ⋯ %[H,I.tok _|by rw[nQ r];exact q]
 | _=>exact(show False from e).elim
theorem ft(ha:PE X a ta)(he:∀aV,isTrue a X.env aV=(do let v<-aV;standAt a.pos;holding [v] (truthy v))) :
  PT X a (λ σ H Q=>ta σ H λ x H'=>∃k,Gg X.K x H' k/\Q k H'):=by
 intro QC s σ H Q I h;exact isTrue_plain (thn (ha QC s σ H _ I h) λ v s1 %[x,H1,I1,r1|q1]=>Ai QC s1 σ H1 x v Q I1 r1 q1) (he _)
inductive rz_op_add_str(x:V)(y:V)(H:Hp)(Q:VK):Prop
|mk(i j:_)(_:x=.str i)(_:y=.str j)(_:i.length+j.length<=sizeLine)(_:Q (.str (i ++ j)) H)
inductive rz_iop_add_str(x:V)(y:V)(H:Hp)(Q:VK):Prop
|mk(i j:_)(_:x=.str i)(_:y=.str j)(_:i.length+j.length<=sizeLine)(_:Q (.str (i ++ j)) H)
inductive rz_op_add_byt(x:V)(y:V)(H:Hp)(Q:VK):Prop
|mk(i j:_)(_:x=.byt i)(_:y=.byt j)(_:i.size+j.size<=16777216)(_:Q (.byt (i ++ j)) H)
theorem fu{x:V}{us:QA F8}(r:Vals [x] us):∃u,us=[u]/\RelV x u:=by
 cases r with
 | cons r1 r2=>cases r2;exact%[_,Y|r1]
theorem zJ{x y:V}{us:QA F8}(r:Vals [x,y] us):∃u w',us=[u,w']/\RelV x u/\RelV y w':=by
 cases r with
 | cons r1 r2=>
  cases r2 with
  | cons r3 r4=>cases r4;exact%[_,_,Y,r1|r3]
inductive rz_call_abs(xs:QA V)(H:Hp)(Q:VK):Prop
|mk(i:_)(_:xs=[.int i])(_:Q (.int (if i < 0 then -i else i)) H)
inductive rz_call_max2(xs:QA V)(H:Hp)(Q:VK):Prop
|mk(i j:_)(_:xs=[.int i,.int j])(_:Q (.int (if j > i then j else i)) H)
theorem kD(hc:X.calm=true):de X (.builtin "max") (rz_call_max2):=by
 intro QC s σ H xs us Q I r h;obtain⟨i,j,rfl,q⟩:=h;obtain⟨u,w',rfl,⟨t,rfl⟩,⟨t',rfl⟩⟩:=zJ r;refine max_two_ints (I.ok.hd hc) λ h' tk k=>%[_,H,I.kept k,?_|q]
 by_cases hj:j > i
 ·rw[QI hj,QI hj];exact%[_|Y]
 ·rw[QH hj,QH hj];exact%[_|Y]
inductive rz_call_min2(xs:QA V)(H:Hp)(Q:VK):Prop
|mk(i j:_)(_:xs=[.int i,.int j])(_:Q (.int (if j < i then j else i)) H)
theorem kF(hc:X.calm=true):de X (.builtin "min") (rz_call_min2):=by
 intro QC s σ H xs us Q I r h;obtain⟨i,j,rfl,q⟩:=h;obtain⟨u,w',rfl,⟨t,rfl⟩,⟨t',rfl⟩⟩:=zJ r;refine min_two_ints (I.ok.hd hc) λ h' tk k=>%[_,H,I.kept k,?_|q]
 by_cases hj:j < i
 ·rw[QI hj,QI hj];exact%[_|Y]
 ·rw[QH hj,QH hj];exact%[_|Y]
theorem kG:de X (.type "int") (λ xs H Q=>(∃i,xs=[.int i]/\Q (.int i) H)\/∃k,xs=[.bl k]/\Q (.int (if k then 1 else 0)) H):=by
 intro QC s σ H xs us Q I r h;rcases h with⟨i,rfl,q⟩ | ⟨k,rfl,q⟩
 ·obtain⟨u,rfl,t,rfl⟩:=fu r;exact call_int_int %[.int i,H,I,%[_|rfl]|q]
 ·obtain⟨u,rfl,r1⟩:=fu r;cases r1;exact call_int_bool %[.int (if k then 1 else 0),H,I.tok _,%[_|rfl]|q]
inductive rz_call_str_int(xs:QA V)(H:Hp)(Q:VK):Prop
|mk(i:_)(_:xs=[.int i])(_:i.natAbs.log2 < 1920)(_:Q (.str (toString i)) H)
inductive rz_call_ord(xs:QA V)(H:Hp)(Q:VK):Prop
|mk(x:_)(_:xs=[.str x])(_:x.length=1)(_:Q (.int (x.cps.getD 0 0:Nat)) H)
inductive rz_call_chr(xs:QA V)(H:Hp)(Q:VK):Prop
|mk(i:_)(_:xs=[.int i])(_:0<=i)(_:i<=1114111)(_:Q (.str ⟨#[i.toNat]⟩) H)
def Na(K:C4)(x:V)(H:Hp)(n:Nat):Prop :=
 match x with
 | .str y=>y.length<=sizeLine/\n=y.length
 | .byt y=>y.size<=sizeLine/\n=y.size
 | .ref p=>(∃xs,SqL K H p xs/\n=xs.length)\/∃xs,SqT K H p xs/\n=xs.length
 | _=>False
inductive rz_call_len(K:C4)(xs:QA V)(H:Hp)(Q:VK):Prop
|mk(x n:_)(_:xs=[x])(_:Na K x H n)(_:Q (.int n) H)
inductive rz_call_divmod(xs:QA V)(H:Hp)(Q:VK):Prop
|mk(i j:_)(_:xs=[.int i,.int j])(_:Gd i j)(_:∀p,H p=none->Q (.ref p) (upd H p (.tup [.int (i / j),.int (i % j)])))
end
structure ObjM(h:Heap)(x dx C:P6)(mA:Str->P8 Value):Prop where
 obj:h.get? x=some (PySem.W.instObj C dx)
 ns:h.Ns1 dx mA
 ne:dx≠x
theorem rV{h:Heap}{dx:P6}{mA:Str->P8 F8}(n:h.Ns1 dx mA):∃od,h.get? dx=some od/\∀name,PySem.W.lookIn name od=some (mA name):=by
 obtain⟨o,es,ep,ho,hd,hk,_,hm⟩:=n;refine%[o,ho|λ name=>?_];have e:=hm name;unfold nsFind findBy at e;rw[<- Array.find?_toList]at e;unfold PySem.W.lookIn;rw[hd];dsimp only
 split
 ·rename_i y q
  rw[q]at e;exact QV some e
 ·rename_i q
  rw[q]at e;have a:es.toList.any (·.refKey)=false:=by rw[List.any_eq_false];intro y hy;obtain⟨z,t,hkey⟩:=hk y (Array.mem_toList_iff.mp hy);simp[DictEntry.refKey,hkey]
  have a':¬ es.toList.any (·.refKey)=true:=by rw[a];exact B2
  rw[QH a'];exact QV some e
theorem ObjM.look{h:Heap}{x dx C:P6}{mA:Str->P8 F8}(I:ObjM h x dx C mA):∃od,PySem.W.InstAt h x (PySem.W.instObj C dx) C (some od)/\∀name,PySem.W.lookIn name od=some (mA name) :=
 let ⟨od,ho,hl⟩:=rV I.ns
 %[od,%[I.obj,rfl,rfl|ho]|hl]
section
variable{prog:F5}{w:F7}{A:Around}{E:F8->F4->Prop}{s:F4}{K:C4}{x dx C f:P6}{mA:Str->P8 F8}{name:Str}{v:F8}
theorem xH{expr:Bool}{Q:F8->F4->Prop}(X:K.In s.heap)(I:ObjM s.heap x dx C mA)(hg:PySem.W.plainGet K C name=true)(hh:PySem.W.hasDictIn K C=true)
  (ha:PySem.W.findIn K (.ref C) name=some none) (hv:mA name=some v) (hv':PySem.W.handedIn v=true) (h:Q v { s with toks:=s.toks+1 }) :
  wpAny (model prog w) A (getAttr (.ref x) name expr) Q E s:=by
 obtain⟨od,J,hl⟩:=I.look;exact PySem.W.get_value X J (PySem.W.plainGet_of hg).1 (PySem.W.findObj_own hh ha rfl (by rw[hl,hv])) hv' h
theorem uH{pl:Sem Bool}{Q:F8×QA F8->F4->Prop}(X:K.In s.heap)(I:ObjM s.heap x dx C mA)(hg:PySem.W.plainGet K C name=true)
  (hf:PySem.W.findIn K (.ref C) name=some (↑f)) (ht:PySem.W.isFn K (.ref f)=true) (hv:mA name=none) (h:Q (.ref f,[.ref x]) s) :
  wpAny (model prog w) A (getMethod (.ref x) name pl) Q E s:=by
 obtain⟨od,J,hl⟩:=I.look;exact PySem.W.method_fn X J (PySem.W.plainGet_of hg).1 (PySem.W.plainGet_of hg).2 hf (C3.mp ht) (by show(PySem.W.lookIn name od).map (·.isSome)=some false;rw[hl,hv];rfl) h
theorem xI{ns:QA Str}{Q:Unit->F4->Prop}(X:K.In s.heap)(I:ObjM s.heap x dx C mA)
  (hs:PySem.W.findIn K (.ref C) "__setattr__" = some (some (.builtin "object.__setattr__"))) (hp:PySem.W.plainOver K C=true) (ht:PySem.W.takerIn K C name=some none) (hh:PySem.W.hasDictIn K C=true)
  (hw:PySem.Within mA ns) (hsz:ns.length<=sizeLine)
  (h:∀h',ObjM h' x dx C (λ y=>if y=name then some v else mA y)->Heap.SameBut dx s.heap h'->Q () { s with heap:=h',toks:=s.toks+2 }) :
  wpAny (model prog w) A (setAttr (.ref x) name v) Q E s:=by
 obtain⟨od,J,hl⟩:=I.look;refine PySem.W.set_plain X J hs (PySem.W.osa_open (s:={ s with toks:=s.toks+1 }) (r:=none) X J hp ht λ b=>?_);obtain⟨cd,hc,hd'⟩:=PySem.W.any_some hh;have hx:s.heap.get? x=some %[.ref C,some dx,.plain|#[]]:=I.obj;refine A0 (A2 (A0 (A0 (wpAny_loadPart hx (A0 (PySem.W.Looks.here (s:={ s with toks:=s.toks+1 }) (PySem.W.looks_clsIn X hc) ?_))))));rw[hd'];refine A2 (a:=some dx) (A0 (A2 (A0 ?_)));refine wpAny_nsSet1 (s:={ s with toks:=s.toks+1 }) I.ns λ h' hn2 hs2=>?_;obtain⟨oD,esD,epD,hoD,hdD,hcD⟩:=hn2.count (PySem.Within.cons name v hw);refine A0 (wpAny_lookBehind hoD (by rw[hdD];exact pastItsLine_dict (C5 hcD (by rw[List.length_cons];lia))) ?_);exact A2 (h _ %[(hs2.2 _ (Ne.symm I.ne)).trans I.obj,hn2|I.ne] hs2)
theorem uI{R:Result->F4->Prop}{vs:QA F8}{kw:QA (Str×F8)}(X:K.In s.heap)(hm:PySem.W.makesIn K C=true)
  (hi:PySem.W.findIn K (.ref C) "__init__" = some (↑f)) (hf:PySem.W.typeIn K (.ref f)=some (.type "function"))
  (h:codeAny (model prog w) (A.under (.builtin "type.__call__" %[.ref C :: vs|kw])) (.call (.ref f) %[.ref (s.heap.objs.size+1) :: vs|kw]) (PySem.W.InitBack (s.heap.objs.size+1) R)
   { s with heap:=(s.heap.push PySem.W.emptyDict).push (PySem.W.instObj C s.heap.objs.size) }) :
  codeAny (model prog w) A (.call (.ref C) %[vs|kw]) R s:=by
 obtain⟨hh,g,d,t,os⟩:=s;exact PySem.W.make_core (PySem.W.makes_of X hm) (PySem.W.looks_findIn X hi) (λ self=>PySem.W.bind_fn X self hf) (.inl rfl) h
end
def bG(f:Str)(v:V):QA (Str×V)->QA (Str×V)
 | []=>[(f,v)]
 | (g,x) :: r=>if g=f then(g,v) :: r else(g,x) :: bG f v r
theorem aZ(f g:Str)(v:V):∀fs:QA (Str×V),(bG f v fs).lookup g=if g=f then some v else fs.lookup g
 | []=>by
  show List.lookup g [(f,v)]=_
  by_cases h:g=f
  ·have hb:(g == f)=true:=C3.mpr h;simp only[List.lookup,hb,QI h]
  ·have hb:(g == f)=false:=beq_eq_false_iff_ne.mpr h;simp only[List.lookup,hb,QH h]
 | (k,x) :: r=>by
  have ih:=aZ f g v r;rw[show bG f v ((k,x) :: r)=(if k=f then(k,v) :: r else(k,x) :: bG f v r)from rfl]
  by_cases hk:k=f
  ·rw[QI hk]
   by_cases h:g=k
   ·have hb:(g == k)=true:=C3.mpr h;simp only[List.lookup,hb,QI (h.trans hk)]
   ·have hb:(g == k)=false:=beq_eq_false_iff_ne.mpr h;simp only[List.lookup,hb,QH (λ e:g=f=>h (e.trans hk.symm))]
  ·rw[QH hk]
   by_cases h:g=k
   ·have hb:(g == k)=true:=C3.mpr h;simp only[List.lookup,hb,QH (λ e:g=f=>hk (h.symm.trans e))]
   ·have hb:(g == k)=false:=beq_eq_false_iff_ne.mpr h;simp only[List.lookup,hb];exact ih
theorem iu(f:Str)(v:V):∀fs:QA (Str×V),f∈(bG f v fs).map (·.1)/\∀g,g∈fs.map (·.1)->g∈(bG f v fs).map (·.1)
 | []=>%[by simp[bG]|λ g h=>by simp at h]
 | (k,x) :: r=>by
  obtain⟨i1,i2⟩:=iu f v r;rw[show bG f v ((k,x) :: r)=(if k=f then(k,v) :: r else(k,x) :: bG f v r)from rfl]
  by_cases hk:k=f
  ·rw[QI hk];subst hk;exact%[by simp|λ g h=>by simpa using h]
  ·rw[QH hk];refine%[?_|λ g h=>?_]
   ·rw[J0];exact B4 _ i1
   ·rw[J0]at h ⊢;rcases G5.mp h with e | e
    ·exact G5.mpr (.inl e)
    ·exact B4 _ (i2 g e)
theorem bV(f:Str)(v:V):∀fs:QA (Str×V),(bG f v fs).length<=fs.length+1
 | []=>by simp[bG]
 | (k,x) :: r=>by
  have ih:=bV f v r;rw[show bG f v ((k,x) :: r)=(if k=f then(k,v) :: r else(k,x) :: bG f v r)from rfl]
  by_cases hk:k=f
  ·rw[QI hk,G8,G8];lia
  ·rw[QH hk,G8,G8];lia
theorem RelO.some_of{v:V}{o:P8 F8}(r:RelO (some v) o):∃u,o=some u/\RelV v u:=by
 cases o with
 | none=>exact(show False from r).elim
 | some u=>exact%[u,Y|r]
theorem RelO.none_of{o:P8 F8}(r:RelO none o):o=none:=by
 cases o with
 | none=>rfl
 | some u=>exact(show False from r).elim
theorem rW{v:V}{u:F8}(r:RelV v u):PySem.W.handedIn u=true:=by
 cases v with
 | non=>cases(show u=Value.none from r);rfl
 | bl b=>cases(show u=Value.bool b from r);rfl
 | int i=>obtain⟨t,e⟩:=(show∃t,u=Value.int i t from r);cases e;rfl
 | str x=>obtain⟨t,e⟩:=(show∃t,u=Value.str x t from r);cases e;rfl
 | byt b=>obtain⟨t,e⟩:=(show∃t,u=Value.bytes b t from r);cases e;rfl
 | flt b=>obtain⟨t,e⟩:=(show∃t,u=Value.float b t from r);cases e;rfl
 | ref a=>cases(show u=Value.ref a from r);rfl
 | ty n=>cases(show u=Value.type n from r);rfl
section
variable{P:F5}{w:F7}{H H':Hp}{h h':Heap}{a C dx:P6}{fs fs':QA (Str×V)}
theorem gN(hok:HOk P w H h)(e:H a=some (.ins C dx fs)):∃mA,ObjM h a dx C mA/\(∀f,RelO (fs.lookup f) (mA f))/\PySem.Within mA (fs.map (·.1))/\fs.length<=1000/\H dx=some (.own a):=by
 obtain⟨d,z,ne,ob,mA,n,r,q⟩:=(show ObjOk P w H h a (.ins C dx fs)from hok a _ e)
 exact%[mA,%[ob,n|ne],r,q,z|d]
end
structure Cls(K:C4)(C:P6):Prop where
 pg:PySem.W.plainGet K C Str.empty=true
 hd:PySem.W.hasDictIn K C=true
 po:PySem.W.plainOver K C=true
 sa:PySem.W.findIn K (.ref C) "__setattr__" = some (some (.builtin "object.__setattr__"))
theorem Cls.get{K:C4}{C:P6}(c:Cls K C)(f:Str):PySem.W.plainGet K C f=true:=c.pg
def NoAttr(K:C4)(C:P6)(f:Str):Prop:=PySem.W.findIn K (.ref C) f=some none
theorem NoAttr.taker{K:C4}{C:P6}{f:Str}(n:NoAttr K C f):PySem.W.takerIn K C f=some none:=by
 unfold PySem.W.takerIn;rw[show PySem.W.findIn K (.ref C) f=some none from n]
 rfl
structure Con(K:C4)(C:P6)(f:Str)(v:V)(u:Value):Prop where
 at_:PySem.W.findIn K (.ref C) f=some (some u)
 rel:RelV v u
 get:PySem.W.specialIn K u "__get__" = some none
 cp:PySem.W.copiedNames.contains f=false
structure Meth(K:C4)(C:P6)(m:Str)(f:P6):Prop where
 at_:PySem.W.findIn K (.ref C) m=some (↑f)
 fn:PySem.W.isFn K (.ref f)=true
 kp:PySem.W.keepIn K (.ref f)=true
section
variable{X:Cx}{QC:QA (P6×Obj)}{σ:St}{H:Hp}{s:F4}{a C dx:P6}{fs:QA (Str×V)}{f:Str}{v:V}{A:Around}{E:F8->F4->Prop}
theorem nR{b:Bool}{Q:F8->F4->Prop}(I:Inv X QC σ H s)(e:H a=some (.ins C dx fs))(c:Cls X.K C)(n:NoAttr X.K C f)(l:fs.lookup f=some v)
  (h:∀u s',Inv X QC σ H s'->RelV v u->Q u s'):wpAny (model X.prog X.w) A (getAttr (.ref a) f b) Q E s:=by
 obtain⟨mA,O,r,_,_,_⟩:=gN I.hok e;obtain⟨u,hu,ru⟩:=RelO.some_of (v:=v) (o:=mA f) (by rw[<- l];exact r f);exact xH I.kIn O (c.get f) c.hd n hu (rW ru) (h u _ (I.tok _) ru)
theorem gz{m:Str}{g:P6}{pl:Sem Bool}{Q:F8×QA F8->F4->Prop}(I:Inv X QC σ H s)(e:H a=some (.ins C dx fs))(c:Cls X.K C)(k:Meth X.K C m g)(l:fs.lookup m=none)
  (h:Q (.ref g,[.ref a]) s):wpAny (model X.prog X.w) A (getMethod (.ref a) m pl) Q E s:=by
 obtain⟨mA,O,r,_,_,_⟩:=gN I.hok e;have hn:mA m=none:=RelO.none_of (by rw[<- l];exact r m);exact uH I.kIn O (c.get m) k.at_ k.fn hn h
theorem nS{y:V}{u:F8}{Q:Unit->F4->Prop}(I:Inv X QC σ H s)(e:H a=some (.ins C dx fs))(c:Cls X.K C)(n:NoAttr X.K C f)(hl:fs.length < 1000)(ry:RelV y u)
  (h:∀s',Inv X QC σ (upd H a (.ins C dx (bG f y fs))) s'->Q () s'):wpAny (model X.prog X.w) A (setAttr (.ref a) f u) Q E s:=by
 obtain⟨mA,O,r,wi,_,ho⟩:=gN I.hok e;have hz:(fs.map (·.1)).length<=sizeLine:=by rw[G4,sizeLine_eq];lia
 refine xI I.kIn O c.sa c.po n.taker c.hd wi hz λ h' O' sb=>h _ ?_;have hd:∃o,h'.get? dx=some o:=let ⟨o,_,_,e',_⟩:=O'.ns;%[o|e']
 refine I.write (x:=a) (e:=dx) (by rw[e];exact True.intro) (.inr ho) (λ b q hb z=>(sb.2 b hb).trans z) hd ?_;refine%[by rw[ap O.ne];exact ho,?_,O.ne,O'.obj,_,O'.ns,λ g=>?_|λ g hg=>?_]
 ·have:=bV f y fs;lia
 ·show RelO ((bG f y fs).lookup g) (if g=f then some u else mA g);rw[aZ]
  by_cases q:g=f
  ·rw[QI q,QI q];exact ry
  ·rw[QH q,QH q];exact r g
 ·by_cases q:g=f
  ·rw[q];exact(iu f y fs).1
  ·refine(iu f y fs).2 g (wi g λ z=>hg ?_);show(if g=f then some u else mA g)=none;rw[QH q];exact z
theorem Inv.made(I:Inv X QC σ H s):Inv X QC σ (upd (upd H s.heap.objs.size (.own (s.heap.objs.size+1))) (s.heap.objs.size+1) (.ins C s.heap.objs.size []))
  { s with heap:=(s.heap.push PySem.W.emptyDict).push (PySem.W.instObj C s.heap.objs.size) }:=by
 have e1:(s.heap.push PySem.W.emptyDict).get? s.heap.objs.size=some PySem.W.emptyDict:=A8 s.heap rfl;have e2:((s.heap.push PySem.W.emptyDict).push (PySem.W.instObj C s.heap.objs.size)).get? (s.heap.objs.size+1)=some (PySem.W.instObj C s.heap.objs.size):=by have:=A8 (s.heap.push PySem.W.emptyDict) (o:=PySem.W.instObj C s.heap.objs.size) rfl;rwa [QP]at this
 have e3:(s.heap.push PySem.W.emptyDict).Ns s.heap.objs.size (λ _=>none):=%[PySem.W.emptyDict,#[],_,e1,Y,(λ e he=>absurd he (by simp))|λ _=>rfl]
 have I1:=I.laid (a:=s.heap.objs.size) (o:=.own (s.heap.objs.size+1)) (h':=s.heap.push PySem.W.emptyDict) (t':=s.toks) (λ b u q=>A7 _ q) (B3 _) %[_|e1];refine I1.laid (a:=s.heap.objs.size+1) (o:=.ins C s.heap.objs.size []) (t':=s.toks) (λ b u q=>A7 _ q) (Nat.le_of_eq (QP _ _)) ?_;have ne:s.heap.objs.size≠s.heap.objs.size+1:=B9 (E8 _);refine%[by rw[ap ne,af],E6 _,ne,e2,λ _=>none,(Heap.Ns1.of_empty e3).at λ o q=>A7 _ q,λ _=>True.intro|λ y hy=>absurd rfl hy]
theorem xJ{prog:F5}{w:F7}{env:Env}{e:Expr}{f:Str}{pos:Pos}{s:F4}{Q:F8->F4->Prop}(hb:attributeBase e f env (eval e env)=eval e env)
  (h:wpAny (model prog w) A (eval e env) (λ o s₁=>wpAny (model prog w) A (getAttr o f true) Q E s₁) E s):wpAny (model prog w) A (eval (.Attribute e f pos) env) Q E s :=
 Attribute_any_ h (by rw[arm_eval_Attribute,hb])
end
def Gh(K:C4)(ta:TE)(f:Str):TE:=λ σ H Q=>ta σ H λ x H1=>∃a C dx fs v,x=.ref a/\H1 a=some (.ins C dx fs)/\Cls K C/\NoAttr K C f/\fs.lookup f=some v/\Q v H1
def Gi(K:C4)(ta tv:TE)(f:Str):TS:=λ D σ H=>tv σ H λ y H1=>ta σ H1 λ x H2=>∃a C dx fs,x=.ref a/\H2 a=some (.ins C dx fs)/\Cls K C/\NoAttr K C f/\fs.length < 1000 /\
 D.nx σ (upd H2 a (.ins C dx (bG f y fs)))
section
variable{X:Cx}{o e value:Expr}{f:Str}{pos pos' tpos:Pos}{ta tv:TE}
theorem bN(he:PE X e ta)(hb:attributeBase e f X.env (eval e X.env)=eval e X.env):PE X (.Attribute e f pos) (Gh X.K ta f):=by intro QC s σ H Q I h;refine xJ hb (thn (he QC s σ H _ I h) ?_);rintro u s1 ⟨x,H1,I1,rx,a,C,dx,fs,v,ex,ea,c,n,l,q⟩;subst ex;obtain rfl:u=Value.ref a:=rx;exact nR I1 ea c n l λ u' s2 I2 ru=>%[v,H1,I2,ru|q]
theorem fv(ha:PE X o ta)(hv:PE X value tv)(hs:swapsWith value (some (.Attribute o f pos')) pos.line X.env=pure false):PS X (.Assign [.Attribute o f pos'] value pos) (Gi X.K ta tv f):=by intro QC s σ H D I h;refine plainObj_wpAny_Assign_Attribute (thn (hv QC s σ H _ I h) ?_) hs;rintro u s1 ⟨y,H1,I1,ry,q⟩;refine thn (ha QC s1 σ H1 _ I1 q) ?_;rintro ov s2 ⟨x,H2,I2,rx,a,C,dx,fs,ex,ea,c,n,l,q2⟩;subst ex;obtain rfl:ov=Value.ref a:=rx;exact nS I2 ea c n l ry λ s3 I3=>%[σ,_,I3|q2]
theorem zK{pl:Sem Bool}{m:Str}{apos:Pos}{args:QA Expr}{QC:QA (P6×Obj)}{s:F4}{σ:St}{H:Hp}{Q:F8->F4->Prop}{te:TE}(he:PE X e te)(I:Inv X QC σ H s)
  (h:te σ H λ x H1=>∃a C dx fs g,x=.ref a/\H1 a=some (.ins C dx fs)/\Cls X.K C/\Meth X.K C m g/\fs.lookup m=none /\
   ∀s1,Inv X QC σ H1 s1->wpAny (model X.prog X.w) X.A (callWith pos (.ref g) [.ref a] (backTo pos (starEach args X.env)) (backToKw pos (keywordEach [] X.env))) Q X.xe s1)
  (ht:eval (.Call (.Attribute e m apos) args [] pos) X.env=(do
   let ov<-eval e X.env
   standAt apos.atName
   let (f,first)<-holding [ov] (getMethod ov m pl)
   callWith pos f first (backTo pos (starEach args X.env)) (backToKw pos (keywordEach [] X.env)))) :
  wpAny (model X.prog X.w) X.A (eval (.Call (.Attribute e m apos) args [] pos) X.env) Q X.xe s:=by
 refine PySem.W.methodCall_KW (pl:=pl) (thn (he QC s σ H _ I h) ?_) ht;rintro u s1 ⟨x,H1,I1,rx,a,C,dx,fs,g,ex,ea,c,k,l,q⟩;subst ex;obtain rfl:u=Value.ref a:=rx;exact gz I1 ea c k l (q s1 I1)
end
section
variable{X:Cx}{QC:QA (P6×Obj)}{σ:St}{H:Hp}{s:F4}{A:Around}{E Q:F8->F4->Prop}{c:F8}{b:Bool}
inductive TyOf(K:C4)(H:Hp):V->Value->Prop where
 | non:TyOf K H .non (.type "NoneType")
 | bl (x:Bool):TyOf K H (.bl x) (.type "bool")
 | int (i:Int):TyOf K H (.int i) (.type "int")
 | str (x:Str):TyOf K H (.str x) (.type "str")
 | flt (x:UInt64):TyOf K H (.flt x) (.type "float")
 | lst {a:P6} {xs:QA V} (e:H a=↥xs):TyOf K H (.ref a) (.type "list")
 | frz {a:P6} {o:Obj} {xs:QA V} (e:H a=some (.frz o (.lst xs))):TyOf K H (.ref a) (.type "list")
 | tup {a:P6} {xs:QA V} (e:H a= ~~~xs):TyOf K H (.ref a) (.type "tuple")
 | dK {a:P6} {kvs:QA (Key×V)} (e:H a=some (.dK kvs)):TyOf K H (.ref a) (.type "dict")
 | dT {a:P6} {kvs:QA (QA Key×V)} (e:H a=some (.dT kvs)):TyOf K H (.ref a) (.type "dict")
 | ext {a:P6} {φ:Heap->Prop} (e:H a=some (.ext φ)) (c:∀h,φ h->∃o,h.get? a=some o/\o.cls=.type "dict"):TyOf K H (.ref a) (.type "dict")
 | ins {a C dx:P6} {fs:QA (Str×V)} (e:H a=some (.ins C dx fs)) (cl:Cls K C) (ha:PySem.W.findIn K (.ref C) "__class__" = some (some (.builtin "object.__class__")))
   (hn:PySem.W.specialIn K (.builtin "object.__class__") "__get__" = some (some (.builtin "getset_descriptor.__get__"))) (htk:PySem.W.takesIn K (.builtin "object.__class__")=some true)
   (hm:PySem.W.mroIn K C (.type "object")=some true):TyOf K H (.ref a) (.ref C)
theorem rX{x:V}{u t:F8}(I:Inv X QC σ H s)(rx:RelV x u)(ty:TyOf X.K H x t)(e:PySem.W.kitOne X.K t c=some b)(h:∀tk,Q (.bool b) { s with toks:=tk }) :
  wpAny (model X.prog X.w) A (call (.builtin "isinstance") [u,c]) Q E s:=by
 cases ty with
 | non=>cases(show u=Value.none from rx);exact PySem.W.kia_one PySem.W.kitx_none I.kIn True.intro e (λ z=>nomatch z) h
 | bl y=>cases(show u=Value.bool y from rx);exact PySem.W.kia_one PySem.W.kitx_bool I.kIn True.intro e (λ z=>nomatch z) h
 | int i=>obtain⟨t,q⟩:=(show∃t,u=Value.int i t from rx);cases q;exact PySem.W.kia_one PySem.W.kitx_int I.kIn True.intro e (λ z=>nomatch z) h
 | str y=>obtain⟨t,q⟩:=(show∃t,u=Value.str y t from rx);cases q;exact PySem.W.kia_one PySem.W.kitx_str I.kIn True.intro e (λ z=>nomatch z) h
 | flt y=>obtain⟨t,q⟩:=(show∃t,u=Value.float y t from rx);cases q;exact PySem.W.kia_one PySem.W.kitx_float I.kIn True.intro e (λ z=>nomatch z) h
 | @lst a xs ea=>
  cases(show u=Value.ref a from rx);obtain⟨_,_,n,_,h1⟩:=(show ObjOk X.prog X.w H s.heap a (.lst xs)from I.hok a _ ea)
  exact PySem.W.kia_one PySem.W.kitx_list I.kIn %[_,h1|Y] e (λ z=>nomatch z) h
 | @frz a ob xs ea=>
  cases(show u=Value.ref a from rx);obtain⟨_,_,_,n,_,h1⟩:=(show ObjOk X.prog X.w H s.heap a (.frz ob (.lst xs))from I.hok a _ ea)
  exact PySem.W.kia_one PySem.W.kitx_list I.kIn %[_,h1|Y] e (λ z=>nomatch z) h
 | @tup a xs ea=>
  cases(show u=Value.ref a from rx);obtain⟨_,_,_,p⟩:=(show ObjOk X.prog X.w H s.heap a (.tup xs)from I.hok a _ ea)
  obtain⟨o,h1,h2,_⟩:=p;exact PySem.W.kia_one PySem.W.kitx_tuple I.kIn %[o,h1|h2] e (λ z=>nomatch z) h
 | @dK a kvs ea=>
  cases(show u=Value.ref a from rx);obtain⟨_,_,vs,_,p⟩:=(show ObjOk X.prog X.w H s.heap a (.dK kvs)from I.hok a _ ea)
  obtain⟨o,es,ep,h1,h2,_⟩:=p;exact PySem.W.kia_one PySem.W.kitx_dict I.kIn %[o,h1|h2.1] e (λ z=>nomatch z) h
 | @dT a kvs ea=>
  cases(show u=Value.ref a from rx);obtain⟨_,_,xs,_,o,es,ep,h1,h2,_⟩:=(show ObjOk X.prog X.w H s.heap a (.dT kvs)from I.hok a _ ea)
  exact PySem.W.kia_one PySem.W.kitx_dict I.kIn %[o,h1|h2.1] e (λ z=>nomatch z) h
 | @ext a φ ea c=>
  cases(show u=Value.ref a from rx);obtain⟨p,_,_⟩:=(show ObjOk X.prog X.w H s.heap a (.ext φ)from I.hok a _ ea)
  obtain⟨o,h1,h2⟩:=c _ p;exact PySem.W.kia_one PySem.W.kitx_dict I.kIn %[o,h1|h2] e (λ z=>nomatch z) h
 | @ins a C dx fs ea cl ha hn htk hm=>
  cases(show u=Value.ref a from rx);obtain⟨mA,O,_⟩:=gN I.hok ea;obtain⟨od,J,_⟩:=O.look;exact PySem.W.kia_one (PySem.W.kitx_own (cl.get _) cl.hd ha hn htk hm) I.kIn J e (λ z=>nomatch z) h
end
structure Room(k:Nat)(A:Around):Prop where
 hd:A.handled=none
 dp:A.depth+3 * k+5 < recursionLimit
 un:A.units+16 * k+200 < cLine
 gd:A.guards=some []
theorem Room.mono{j k:Nat}{A:Around}(r:Room k A)(h:j<=k):Room j A:=%[r.hd,by have:=r.dp;lia,by have:=r.un;lia|r.gd]
theorem Room.deeper{k:Nat}{A:Around}(r:Room (k+1) A)(env:Env):Room k (A.deeper env) :=
 %[r.hd,by have:=r.dp;show A.depth+1+3 * k+5 < _;lia,by have:=r.un;show A.units+3+16 * k+200 < _;lia|r.gd]
theorem nT{A:Around}{C:P6}{us:QA F8}{kw:QA (Str×F8)}:(A.under (.builtin "type.__call__" %[.ref C :: us|kw])).depth=A.depth+1:=by first | rfl | simp[Around.under,Code.weight,Code.isCreation,Code.isGuard,Code.isCaller,Code.frames,Code.isFrame,guardIds]
theorem nU{A:Around}{C:P6}{us:QA F8}{kw:QA (Str×F8)}:(A.under (.builtin "type.__call__" %[.ref C :: us|kw])).units=A.units+1:=by first | rfl | simp[Around.under,Code.cUnits,Code.frames,Code.isFrame]
theorem mG{A:Around}{C:P6}{us:QA F8}{kw:QA (Str×F8)}:(A.under (.builtin "type.__call__" %[.ref C :: us|kw])).guards=A.guards:=by
 have e:Code.guards (.builtin "type.__call__" %[.ref C :: us|kw])=[]:=by
  have:(Code.builtin "type.__call__" %[.ref C :: us|kw]).isGuard=false:=by show guardIds.contains "type.__call__" = false;decide +kernel
  simp[Code.guards,this]
 unfold Around.under;dsimp only;rw[e]
 rfl
theorem Room.make{k:Nat}{A:Around}(r:Room (k+1) A)(C:P6)(us:QA F8)(kw:QA (Str×F8)):Room k (A.under (.builtin "type.__call__" %[.ref C :: us|kw])) :=
 %[r.hd,by have:=r.dp;rw[nT];lia,by have:=r.un;rw[nU];lia|by rw[mG];exact r.gd]
theorem Room.depth{k:Nat}{A:Around}(r:Room k A):A.depth < recursionLimit:=by have:=r.dp;lia
theorem Room.units{k:Nat}{A:Around}(r:Room k A):A.units+64 < cLine:=by have:=r.un;lia
def ko:TA:=λ _ H Q=>Q [] H
def gv(ta:TE)(tr:TA):TA:=λ σ H Q=>ta σ H λ x H1=>tr σ H1 λ xs H2=>Q (x :: xs) H2
section
variable{X:Cx}{e:Expr}{es:QA Expr}{te:TE}{t:TA}{pos:Pos}
theorem ab:PA X [] ko:=λ _ _ _ _ H Q I h=>Calls.spliced_nil %[[],H,I,.nil|h]
theorem aa(ha:PE X e te)(hr:PA X es t)(hs:starEach (e :: es) X.env=(false,eval e X.env) :: starEach es X.env:=by rfl):PA X (e :: es) (gv te t):=by intro pos QC s σ H Q I h;rw[hs];show wpAny _ _ (spliced ((false,eval e X.env) :: backTo pos (starEach es X.env))) _ _ s;refine Calls.spliced_cons (thn (ha QC s σ H _ I h) ?_);rintro u s1 ⟨x,H1,I1,r1,q1⟩;exact thn (hr pos QC s1 σ H1 _ I1 q1) λ us s2 %[xs,H2,I2,r2|q2]=>%[x :: xs,H2,I2,.cons r1 r2|q2]
def Gj(t:TA):TE:=λ σ H Q=>t σ H λ xs H1=>xs.length<=sizeLine/\∀p,H1 p=none->Q (.ref p) (upd H1 p (.tup xs))
def Gk(t:TA):TE:=λ σ H Q=>t σ H λ xs H1=>xs.length<=sizeLine/\∀p,H1 p=none->Q (.ref p) (upd H1 p (.lst xs))
theorem aD{x1}(h:PA X es t):PE X (.Tuple es x1 pos) (Gj t):=by intro QC s σ H Q I hq;refine wpAny_Tuple_spliced (thn (h pos QC s σ H _ I hq) λ us s1 %[xs,H1,I1,r,z|q]=>%[by rw[<- r.length];exact z|?_]);have hf:H1 s1.heap.objs.size=none:=I1.hok.fresh (B3 _);refine%[.ref s1.heap.objs.size,upd H1 s1.heap.objs.size (.tup xs),I1.laid (t':=s1.toks) (λ b u e=>A7 _ e) (B3 _) ?_,Y|q _ hf];exact%[z,us,r|%[_,A8 _ rfl,Y,_|Y]]
theorem bu(h:PA X es t):PE X (.List es pos) (Gk t):=by intro QC s σ H Q I hq;refine wpAny_List_spliced (thn (h pos QC s σ H _ I hq) λ us s1 %[xs,H1,I1,r,z|q]=>%[by rw[<- r.length];exact z|?_]);have hf:H1 s1.heap.objs.size=none:=I1.hok.fresh (B3 _);refine%[.ref s1.heap.objs.size,upd H1 s1.heap.objs.size (.lst xs),I1.laid (t':=s1.toks) (λ b u e=>A7 _ e) (B3 _) ?_,Y|q _ hf];exact%[z,us,0,r|A8 _ rfl]
end
abbrev Sp:=QA V->Hp->VK->XK->Prop
abbrev CXT:=QA Env->Hp->F4->XK->F8->F4->Prop
structure Env0(P:Program)(w:World)(K:C4)(mg:Str->P8 Value)(base:Heap)(A:Around)(outer:QA Env)(s:Shared)(H:Hp):Prop where
 frames:A.frames=some outer
 mod:Mod K mg base
 bs:∀b o,base.get? b=some o->s.heap.get? b=some o/\H b=none
 bsz:base.objs.size<=s.heap.objs.size
 funs:s.heap.FunFrames base outer
 frf:∀b∈frs outer,H b=none
 hok:HOk P w H s.heap
 bare:AllBare s.gens
def CE(outer:QA Env)(P:F5)(w:F7)(H:Hp)(s:F4)(Q:VK)(u:F8)(s':F4):Prop :=
 ∃v H',s'.os=s.os/\AllBare s'.gens/\Un (frs outer) [] H H' s.heap s'.heap/\HOk P w H' s'.heap/\RelV v u/\Q v H'
def CR(CX:CXT)(outer:QA Env)(P:F5)(w:F7)(H:Hp)(s:F4)(Q:VK)(E:XK)(r:Result)(s':F4):Prop :=
 match r with
 | .ok (.ret u)=>CE outer P w H s Q u s'
 | .ok _=>False
 | .error e=>CX outer H s E e s'
structure FnOk(P:Program)(w:World)(K:C4)(mg:Str->P8 Value)(base:Heap)(CX:CXT)(k:Nat)(f:P6)(fd:FuncData)(ps:QA Str)(sp:Sp):Prop where
 len:∀vs H Q E,sp vs H Q E->vs.length=ps.length
 run:∀(A:Around)(outer:QA Env)(s:F4)(H:Hp)(args:Args)(us:QA F8)(vs:QA V)(Q:VK)(E:XK),Room k A->Env0 P w K mg base A outer s H->BindsTo s fd args (ps.zip us)->Vals vs us->sp vs H Q E ->
  codeAny (model P w) A (.call (.ref f) args) (CR CX outer P w H s Q E) s
theorem Env0.make{P:F5}{w:F7}{K:C4}{mg:Str->P8 F8}{base:Heap}{A:Around}{outer:QA Env}{s:F4}{H:Hp}(e:Env0 P w K mg base A outer s H)(C:P6)(us:QA F8)(kw:QA (Str×F8)) :
  Env0 P w K mg base (A.under (.builtin "type.__call__" %[.ref C :: us|kw])) outer s H:=⟨by first | exact e.frames | (simpa[Around.under,Code.envs,Code.isFrame,pushEnvs]using e.frames),e.mod,e.bs,e.bsz,e.funs,e.frf,e.hok,e.bare⟩
section
variable{X:Cx}{QC:QA (P6×Obj)}{σ:St}{H:Hp}{s s':F4}
theorem Inv.env0(I:Inv X QC σ H s):Env0 X.prog X.w X.K X.mg X.base X.A X.stack s H :=
 %[I.ok.frames,I.ok.mod,I.bs,C5 I.ok.bsz I.sz,I.stack,I.stkFree,I.hok|I.bare]
theorem Inv.after{Q:VK}{u:F8}(I:Inv X QC σ H s)(h:CE X.stack X.prog X.w H s Q u s'):EP X QC σ Q u s':=by obtain⟨v,H',os,bare,un,hok,r,q⟩:=h;obtain⟨hh,g,d,t,os'⟩:=s';obtain rfl:os'=s.os:=os;exact%[v,H',I.call (h':=hh) (g':=g) (d':=d) (t':=t) (ch:=[]) un hok bare (λ b z=>absurd z (by simp)),r|q]
end
def uJ(sp:Sp)(dvs:QA V)(E:XK)(t:TA):TE:=λ σ H Q=>t σ H λ vs H1=>sp (vs ++ dvs) H1 Q E
def jw(C:P6)(m:Str)(sp:Sp)(dvs:QA V)(E:XK)(ta:TE)(t:TA):TE:=λ σ H Q=>ta σ H λ x H1=>∃a dx fs,x=.ref a/\H1 a=some (.ins C dx fs)/\fs.lookup m=none /\
 t σ H1 λ vs H2=>sp (x :: (vs ++ dvs)) H2 Q E
def zL(C:P6)(sp:Sp)(dvs:QA V)(E:XK)(t:TA):TE:=λ σ H Q=>t σ H λ vs H1=>∀x dx,H1 x=none->H1 dx=none->dx≠x ->
 sp (.ref x :: (vs ++ dvs)) (upd (upd H1 dx (.own x)) x (.ins C dx [])) (λ v H2=>v=.non/\Q (.ref x) H2) E
def Binds(K:C4)(fd:F6)(ps:QA Str)(ds:QA F8):Prop :=
 ∀(s:F4)(us:QA F8),K.In s.heap->(us ++ ds).length=ps.length->BindsTo s fd %[us|[]] (ps.zip (us ++ ds))
theorem Binds.all{K:C4}{fd:F6}{ps:QA Str}(h:∀us:QA F8,us.length=ps.length->bindArgs fd %[us|[]]=pure (ps.zip us)):Binds K fd ps []:=λ s us _ hl=>by rw[J7]at hl ⊢;exact .of_eq (h us hl)
def gB(CX:CXT)(X:Cx)(E:XK):Prop:=∀(QC:QA (P6×Obj))(σ:St)(H:Hp)(s:F4)(e:F8)(s':F4),Inv X QC σ H s->CX X.stack H s E e s'->X.xe e s'
section
variable{X:Cx}{CX:CXT}{k:Nat}{f C:P6}{fd:F6}{ps:QA Str}{sp:Sp}{dvs:QA V}{ds:QA F8}{E:XK}{x m:Str}{p pos apos:Pos}{e o:Expr}{es:QA Expr}{ta:TE}{t:TA}
theorem nV{QC:QA (P6×Obj)}{σ:St}{H:Hp}{s:F4}{Q:VK}{us:QA F8}{vs:QA V}(F:FnOk X.prog X.w X.K X.mg X.base CX k f fd ps sp)(hr:Room k X.A)(hb:Binds X.K fd ps ds)(hd:Vals dvs ds)(hx:gB CX X E)
  (I:Inv X QC σ H s) (r:Vals vs us) (h:sp (vs ++ dvs) H Q E):wpAny (model X.prog X.w) X.A (call (.ref f) us) (EP X QC σ Q) X.xe s:=by
 have r2:Vals (vs ++ dvs) (us ++ ds):=r.append hd;have hl:(us ++ ds).length=ps.length:=by rw[<- r2.length];exact F.len _ _ _ _ h
 refine wpAny_call (codeAny_mono (F.run X.A X.stack s H %[us|[]] (us ++ ds) (vs ++ dvs) Q E hr I.env0 (hb s us I.kIn hl) r2 h) λ r s' hq=>?_);cases r with
 | error e=>exact hx QC σ H s e s' I hq
 | ok fl=>
  cases fl with
  | ret u=>exact I.after hq
  | next=>exact E5 hq
  | brk=>exact E5 hq
  | cont=>exact E5 hq
theorem xK(F:FnOk X.prog X.w X.K X.mg X.base CX k f fd ps sp)(hr:Room k X.A)(hg:Gl X x)(hm:X.mg x=↑f)(hk:PySem.W.keepIn X.K (.ref f)=true)(hb:Binds X.K fd ps ds)(hd:Vals dvs ds)(hx:gB CX X E)
  (ha:PA X (e :: es) t) (hdb:(x == ("__debug__" : Str))=false:=by decide) (he:starEach (e :: es) X.env=(false,eval e X.env) :: starEach es X.env:=by rfl) (hpl:(backTo pos (starEach es X.env)).any (·.1)=false:=by rfl) :
  PE X (.Call (.Name x p) (e :: es) [] pos) (uJ sp dvs E t):=by
 intro QC s σ H Q I h;refine wpAny_Call_Name_kw (lm I hg hm ?_ hdb);refine PySem.W.callWith_K (h₀:=X.base) I.ok.mod.kin hk (thn (ha pos QC s σ H _ I h) λ us s1 %[vs,H1,I1,r|q]=>%[I1.kIn|?_]) he hpl;exact nV F hr hb hd hx I1 r q
theorem xL{pl:Sem Bool}(he:PE X o ta)(c:Cls X.K C)(hm:Meth X.K C m f)(F:FnOk X.prog X.w X.K X.mg X.base CX k f fd ps sp)(hr:Room k X.A)(hb:Binds X.K fd ps ds)(hd:Vals dvs ds)(hx:gB CX X E)(ha:PA X (e :: es) t)
  (hst:starEach (e :: es) X.env=(false,eval e X.env) :: starEach es X.env:=by rfl) (hpl:(backTo pos (starEach es X.env)).any (·.1)=false:=by rfl)
  (ht:eval (.Call (.Attribute o m apos) (e :: es) [] pos) X.env=(do
   let ov<-eval o X.env
   standAt apos.atName
   let (f,first)<-holding [ov] (getMethod ov m pl)
   callWith pos f first (backTo pos (starEach (e :: es) X.env)) (backToKw pos (keywordEach [] X.env))):=by rfl) :
  PE X (.Call (.Attribute o m apos) (e :: es) [] pos) (jw C m sp dvs E ta t):=by
 intro QC s σ H Q I h;refine PySem.W.methodCall_KW (pl:=pl) (thn (he QC s σ H _ I h) ?_) ht;rintro u s1 ⟨x,H1,I1,rx,a,dx,fs,ex,ea,l,q⟩;subst ex;obtain rfl:u=Value.ref a:=rx;refine gz I1 ea c hm l ?_;refine PySem.W.callWith_K (first:=[.ref a]) (h₀:=X.base) I.ok.mod.kin hm.kp (thn (ha pos QC s1 σ H1 _ I1 q) λ us s2 %[vs,H2,I2,r|q2]=>%[I2.kIn|?_]) hst hpl;exact nV (us:=.ref a :: us) (vs:=.ref a :: vs) F hr hb hd hx I2 (.cons rfl r) q2
theorem uK{pl:Sem Bool}(he:PE X o ta)(c:Cls X.K C)(hm:Meth X.K C m f)(F:FnOk X.prog X.w X.K X.mg X.base CX k f fd ps sp)(hr:Room k X.A)(hb:Binds X.K fd ps ds)(hd:Vals dvs ds)(hx:gB CX X E)
  (ht:eval (.Call (.Attribute o m apos) [] [] pos) X.env=(do
   let ov<-eval o X.env
   standAt apos.atName
   let (f,first)<-holding [ov] (getMethod ov m pl)
   callWith pos f first (backTo pos (starEach [] X.env)) (backToKw pos (keywordEach [] X.env))):=by rfl) :
  PE X (.Call (.Attribute o m apos) [] [] pos) (jw C m sp dvs E ta ko):=by
 intro QC s σ H Q I h;refine PySem.W.methodCall_KW (pl:=pl) (thn (he QC s σ H _ I h) ?_) ht;rintro u s1 ⟨x,H1,I1,rx,a,dx,fs,ex,ea,l,q⟩;subst ex;obtain rfl:u=Value.ref a:=rx;refine gz I1 ea c hm l ?_;exact PySem.W.callWith_K0 (first:=[.ref a]) I1.kIn hm.kp (nV (us:=[.ref a]) (vs:=[.ref a]) F hr hb hd hx I1 (.cons rfl .nil) q)
structure Mk(K:C4)(C f:P6):Prop where
 makes:PySem.W.makesIn K C=true
 init:PySem.W.findIn K (.ref C) "__init__" = some (↑f)
 fn:PySem.W.isFn K (.ref f)=true
 kp:PySem.W.keepIn K (.ref C)=true
theorem uL{QC:QA (P6×Obj)}{σ:St}{H:Hp}{s:F4}{Q:VK}{us:QA F8}{vs:QA V}(M:Mk X.K C f)(F:FnOk X.prog X.w X.K X.mg X.base CX k f fd ps sp)(hr:Room (k+1) X.A)(hb:Binds X.K fd ps ds)(hd:Vals dvs ds)
  (hx:gB CX X E) (I:Inv X QC σ H s) (r:Vals vs us)
  (h:∀x dx,H x=none->H dx=none->dx≠x->sp (.ref x :: (vs ++ dvs)) (upd (upd H dx (.own x)) x (.ins C dx [])) (λ v H2=>v=.non/\Q (.ref x) H2) E) :
  wpAny (model X.prog X.w) X.A (call (.ref C) us) (EP X QC σ Q) X.xe s:=by
 have hq:=h (s.heap.objs.size+1) s.heap.objs.size (I.hok.fresh (Nat.le_succ _)) (I.hok.fresh (B3 _)) (B9 (E8 _));have I2:=Inv.made (C:=C) I;have r2:Vals (V.ref (s.heap.objs.size+1) :: (vs ++ dvs)) (Value.ref (s.heap.objs.size+1) :: (us ++ ds)):=.cons rfl (r.append hd);have hl:(Value.ref (s.heap.objs.size+1) :: us ++ ds).length=ps.length:=by have e:=r2.length;rw[F.len _ _ _ _ hq]at e;exact e.symm
 refine wpAny_call (uI (f:=f) I.kIn M.makes M.init (C3.mp M.fn) (codeAny_mono (F.run _ X.stack _ _ %[Value.ref (s.heap.objs.size+1) :: us|[]] (Value.ref (s.heap.objs.size+1) :: (us ++ ds)) _ _ E (hr.make C us [])
  (I2.env0.make C us []) (hb _ (Value.ref (s.heap.objs.size+1) :: us) I2.kIn hl) r2 hq) λ r s' hq'=>?_))
 cases r with
 | error e=>exact hx QC σ _ _ e s' I2 hq'
 | ok fl=>
  cases fl with
  | ret u=>
   obtain⟨v,H',I3,rv,ev,q3⟩:=I2.after hq';subst ev;exact%[rv|%[V.ref (s.heap.objs.size+1),H',I3,Y|q3]]
  | next=>exact E5 hq'
  | brk=>exact E5 hq'
  | cont=>exact E5 hq'
theorem xM(M:Mk X.K C f)(F:FnOk X.prog X.w X.K X.mg X.base CX k f fd ps sp)(hr:Room (k+1) X.A)(hg:Gl X x)(hm:X.mg x=↑C)(hb:Binds X.K fd ps ds)(hd:Vals dvs ds)(hx:gB CX X E)
  (ha:PA X (e :: es) t) (hdb:(x == ("__debug__" : Str))=false:=by decide) (he:starEach (e :: es) X.env=(false,eval e X.env) :: starEach es X.env:=by rfl) (hpl:(backTo pos (starEach es X.env)).any (·.1)=false:=by rfl) :
  PE X (.Call (.Name x p) (e :: es) [] pos) (zL C sp dvs E t):=by
 intro QC s σ H Q I h;refine wpAny_Call_Name_kw (lm I hg hm ?_ hdb);refine PySem.W.callWith_K (h₀:=X.base) I.ok.mod.kin M.kp (thn (ha pos QC s σ H _ I h) λ us s1 %[vs,H1,I1,r|q]=>%[I1.kIn|?_]) he hpl;exact uL M F hr hb hd hx I1 r q
end
section
variable{X:Cx}{CX:CXT}{k:Nat}{f C:P6}{fd:F6}{ps ks:QA Str}{sp:Sp}{E:XK}{x m:Str}{p pos apos kpos:Pos}{e o:Expr}{es:QA Expr}{kws:QA Keyword}{te ta:TE}{t tk:TA}{nm:P8 Str}
structure KBinds(K:C4)(fd:FuncData)(ps ks:QA Str)(g:QA Value->QA Value->QA Value)(gV:QA V->QA V->QA V):Prop where
 to:∀(s:F4)(us ws:QA F8),K.In s.heap->(g us ws).length=ps.length->BindsTo s fd %[us|ks.zip ws] (ps.zip (g us ws))
 rel:∀{vs:QA V}{us:QA F8}{zs:QA V}{ws:QA F8},Vals vs us->Vals zs ws->Vals (gV vs zs) (g us ws)
variable{g:QA F8->QA F8->QA F8}{gV:QA V->QA V->QA V}
end
structure FnScope(N P:QA Str)(sc:Scope):Prop where
 kind:sc.kind=.function
 co:sc.isCoroutine=false
 gen:sc.isGenerator=false
 nd:N.Nodup
 pre:N.take P.length=P
 par:∀x∈P,sc.names.lookup x=some .local\/sc.names.lookup x=some .cell
 nofree:∀y∈sc.names,y.2≠.free
theorem kH{kindOf:Str->P8 NameKind}{x:Str}:∀{binds:QA (Str×F8)}{m:Str->P8 F8},(∀v,(x,v)∉binds)->bindL kindOf binds m x=m x
 | [],_,_=>rfl
 | (n,v) :: r,m,h=>by
  unfold bindL;rw[kH λ w hw=>h w (B4 _ hw)]
  split
  ·have:x≠n:=by rintro rfl;exact h v B7
   simp[this]
  ·rfl
theorem kI{kindOf:Str->P8 NameKind}{x:Str}:∀{binds:QA (Str×F8)}{m:Str->P8 F8},(∀v,(x,v)∉binds)->bindC kindOf binds m x=m x
 | [],_,_=>rfl
 | (n,v) :: r,m,h=>by
  unfold bindC;rw[kI λ w hw=>h w (B4 _ hw)]
  split
  ·rfl
  ·have:x≠n:=by rintro rfl;exact h v B7
   simp[this]
theorem kJ{kindOf:Str->P8 NameKind}{x:Str}{v:F8}:∀{P:QA Str}{vs:QA F8}{i:Nat}{m:Str->P8 F8},P.Nodup->P[i]?=some x->vs[i]?=some v->kindOf x=some .local ->
  bindL kindOf (P.zip vs) m x=some v
 | [],_,_,_,_,h,_,_=>by simp at h
 | _ :: _,[],_,_,_,_,h,_=>by simp at h
 | p :: P,w :: vs,0,m,nd,h1,h2,hk=>by simp at h1 h2;subst h1;subst h2;show bindL kindOf ((p,w) :: P.zip vs) m p=_;unfold bindL;rw[kH λ v hv=>(N9.mp nd).1 (PZ hv).1,QI hk];simp
 | p :: P,w :: vs,i+1,m,nd,h1,h2,hk=>by show bindL kindOf ((p,w) :: P.zip vs) m x=_;unfold bindL;exact kJ (i:=i) (N9.mp nd).2 (by simpa using h1) (by simpa using h2) hk
theorem kL{kindOf:Str->P8 NameKind}{x:Str}{v:F8}:∀{P:QA Str}{vs:QA F8}{i:Nat}{m:Str->P8 F8},P.Nodup->P[i]?=some x->vs[i]?=some v->kindOf x≠some .local ->
  bindC kindOf (P.zip vs) m x=some v
 | [],_,_,_,_,h,_,_=>by simp at h
 | _ :: _,[],_,_,_,_,h,_=>by simp at h
 | p :: P,w :: vs,0,m,nd,h1,h2,hk=>by simp at h1 h2;subst h1;subst h2;show bindC kindOf ((p,w) :: P.zip vs) m p=_;unfold bindC;rw[kI λ v hv=>(N9.mp nd).1 (PZ hv).1,QH hk];simp
 | p :: P,w :: vs,i+1,m,nd,h1,h2,hk=>by show bindC kindOf ((p,w) :: P.zip vs) m x=_;unfold bindC;exact kL (i:=i) (N9.mp nd).2 (by simpa using h1) (by simpa using h2) hk
def iO(N:QA Str)(vs:QA V):St:=vs.map some ++ List.replicate (N.length - vs.length) none
def nW(CX:CXT)(P:F5)(w:F7)(K:C4)(mg:Str->P8 F8)(base:Heap)(N:QA Str)(qual:Str)(scope:Scope)(f:P6)(cd:F8)(A:Around)(outer:QA Env)(s:F4)(H:Hp)(E:XK):Cx where
 prog:=P
 w:=w
 K:=K
 mg:=mg
 base:=base
 A:=A.deeper (envOfC qual scope s.heap.objs.size f cd)
 N:=N
 s₀:=s
 H₀:=H
 env:=envOfC qual scope s.heap.objs.size f cd
 outer:=outer
 stack:=envOfC qual scope s.heap.objs.size f cd :: outer
 ex:=[]
 calm:=true
 fn:=λ _=>true
 pn:=[]
 xe:=λ e s'=>wpAny (model P w) (A.deeper (envOfC qual scope s.heap.objs.size f cd)) (leaving (envOfC qual scope s.heap.objs.size f cd) e) (λ _ s''=>CX outer H s E e s'') (λ e' s''=>CX outer H s E e' s'') s'
theorem mH{sc:Scope}{n:Nat}{x:Str}(h:sc.names.lookup x=some .cell):∃c,(cellsFrom n sc.names []).lookup x=some c:=by have q:=PySem.W.cellsFrom_some sc.names n [] (.inl h);exact Option.isSome_iff_exists.mp q
theorem rY{CX:CXT}{P:F5}{w:F7}{K:C4}{mg:Str->P8 F8}{base:Heap}{N ps:QA Str}{qual:Str}{scope:Scope}{f:P6}{cd:F8}{A:Around}{outer:QA Env}{s s1:F4}{H:Hp}{E:XK}{us:QA F8}{vs:QA V}
  (S:FnScope N ps scope) (hd:A.handled=none) (e0:Env0 P w K mg base A outer s H) (hl:vs.length=ps.length) (r:Vals vs us)
  (x:InCallC s s.heap.objs.size (bindL (envOfC qual scope s.heap.objs.size f cd).kindOf (ps.zip us) λ _=>none) (cellsFrom (s.heap.objs.size+1) scope.names []) (bindC (envOfC qual scope s.heap.objs.size f cd).kindOf (ps.zip us) λ _=>none) s1) :
  Inv (nW CX P w K mg base N qual scope f cd A outer s H E) [] (iO N vs) H s1:=by
 have hpl:ps.length<=N.length:=by have:=QV List.length S.pre;rw[J3]at this;lia
 obtain⟨h1,tk,rfl,hk⟩:=x.done;have noA:∀b:P6,b∉(nW CX P w K mg base N qual scope f cd A outer s H E).ex:=λ b z=>absurd (show b∈([]:QA P6)from z) (by simp);refine⟨%[e0.mod,S.kind,Y,Y,B3 _,λ y z c h1 h2=>?_,λ y hy=>?_,λ y c _ h=>?_,λ _=>hd,Around.frames_deeper e0.frames,.inr %[Y|Y],λ b z=>absurd z (noA b),e0.bs,e0.bsz,λ b _ _=>noA b,λ b z=>absurd z (noA b),e0.funs|e0.frf],
  rfl,e0.bare,Un.kept hk,%[_,x.toInCall.ns|λ i y v h1 h2 h3=>?_],λ y c h=>%[_|x.cell y c h],e0.hok.fresh (B3 _),λ y c h=>?_,λ p hp=>absurd (show p∈([]:QA (P6×Obj))from hp) (by simp),e0.hok.kept hk,?_⟩
 ·exact name_of_addr x.apart (Qi h1) (Qi h2)
 ·have hy:scope.names.lookup y=some .cell\/scope.names.lookup y=some .free:=hy;rcases hy with hy | hy
  ·exact mH hy
  ·exact absurd rfl (S.nofree _ (Qi hy))
 ·exact Nat.le_of_lt (x.above y c (Qi h))
 ·have hi:i < vs.length:=by
   unfold iO at h2
   by_cases hi:i < vs.length
   ·exact hi
   ·rw[N4 (by simpa using hi)]at h2;rw[List.getElem?_replicate]at h2
    split at h2 <;> cases h2
  have ha:vs[i]?=some v:=by
   unfold iO at h2;rw[N8 (by simpa using hi),J2]at h2;cases e:vs[i]? with
   | none=>rw[e]at h2;cases h2
   | some a=>rw[e]at h2;cases h2;rfl
  obtain⟨u,hu,rv⟩:=r.get ha;have hp:ps[i]?=some y:=by rw[<- S.pre,List.getElem?_take_of_lt ⋯];exact h1
  have ndP:ps.Nodup:=by rw[<- S.pre];exact S.nd.sublist (List.take_sublist _ _)
  refine%[u,rv|?_];rcases S.par y (B5 hp)with k | k
  ·exact .inl %[k|kJ ndP hp hu k]
  ·obtain⟨c,e⟩:=mH (n:=s.heap.objs.size+1) k;refine .inr %[.inl k,c,e|?_];have q:=x.cell y c e;rw[kL ndP hp hu (by show scope.names.lookup y≠_;rw[k];decide)]at q;exact q
 ·exact e0.hok.fresh (Nat.le_of_lt (x.above y c (Qi h)))
 ·unfold iO;show _=N.length;rw[G6,G4,J8];lia
theorem Gm{CX:CXT}{P:F5}{w:F7}{K:C4}{mg:Str->P8 F8}{base:Heap}{k:Nat}{f:P6}{name qual:Str}{params:Arguments}{body:QA Stmt}{scope:Scope}{dV kV doc pm cdv ct oc:F8}{an od:P8 P6}
  {osl:P9 (P8 F8)} {N ps:QA Str} {sp:Sp} (lk:K.lookup f=some %[oc,od,.func (E4 name qual params body scope dV kV doc pm an cdv ct)|osl]) (hcd:PySem.W.codeIn K cdv qual=true) (S:FnScope N ps scope)
  (len:∀vs H Q E,sp vs H Q E->vs.length=ps.length)
  (hbody:∀(A:Around)(outer:QA Env)(s:F4)(H:Hp)(vs:QA V)(Q:VK)(E:XK),Room k (A.deeper (envOfC qual scope s.heap.objs.size f cdv))->sp vs H Q E ->
   ∃t,PSs (nW CX P w K mg base N qual scope f cdv A outer s H E) body t/\t { nx:=λ _ H'=>Q .non H',rt:=Q } (iO N vs) H) :
  FnOk P w K mg base CX (k+1) f (E4 name qual params body scope dV kV doc pm an cdv ct) ps sp:=by
 refine%[len|λ A outer s H args us vs Q E hr e0 hb r hsp=>?_];have hl:=len _ _ _ _ hsp;have KX:K.In s.heap:=e0.mod.kin.keeps λ b o e=>(e0.bs b o e).1;have lim:s.heap.NoLimit:=e0.mod.nolimit.keeps λ b o e=>(e0.bs b o e).1;have hkind:∀y∈ps.zip us,scope.names.lookup y.1=some .local\/(scope.names.lookup y.1=some .cell/\((cellsFrom (s.heap.objs.size+1) scope.names []).lookup y.1).isSome=true):=λ⟨n,v⟩ hy=>by
  rcases S.par n (PZ hy).1 with q | q
  ·exact .inl q
  ·exact .inr %[q|PySem.W.cellsFrom_some _ _ _ (.inl q)]
 refine codeAny_call_function hr.depth (KX _ _ lk) rfl S.co S.gen rfl (PySem.W.codeRec_of KX hcd) (hb _ _ _ _ ?_);refine wpAny_newFunctionEnv_cells S.kind hkind λ env he s1 x=>?_;subst he;refine%[lim.keeps x.toInCall.keep|codeAny_func ?_];obtain⟨t,ht,hq⟩:=hbody A outer s H vs Q E (hr.deeper _) hsp;have I:Inv (nW CX P w K mg base N qual scope f cdv A outer s H E) [] (iO N vs) H s1:=rY S hr.hd e0 hl r x;refine Qk (ht [] s1 (iO N vs) H _ I hq) (λ fl s' hs=>?_) λ e s' hs=>hs;have fin:∀{σ':St}{H':Hp}{v:V}{u:F8},Inv (nW CX P w K mg base N qual scope f cdv A outer s H E) [] σ' H' s'->RelV v u->Q v H'->CE outer P w H s Q u s' :=
  λ {σ' H' v u} J rv q=>%[v,H',J.os,J.bare,J.base,J.hok,rv|q]
 cases fl with
 | ret u=>
  obtain⟨v,σ',H',J,rv,q⟩:=hs;exact fin J rv q
 | next=>
  obtain⟨σ',H',J,q⟩:=hs;exact fin (v:=V.non) (u:=Value.none) J rfl q
 | brk=>
  obtain⟨_,_,_,q⟩:=hs;exact E5 q
 | cont=>
  obtain⟨_,_,_,q⟩:=hs;exact E5 q
section
variable{X:Cx}{x:Str}{p pos:Pos}{e:Expr}{es:QA Expr}{t:TA}{id T:String}{r:QA V->Hp->VK->Prop}
def tCB(r:QA V->Hp->VK->Prop)(t:TA):TE:=λ σ H Q=>t σ H λ vs H1=>r vs H1 Q
theorem aI(hc:de X (.builtin id) r)(hg:Gl X x)(hm:X.mg x=none)(hv:bootBuiltins x=some (.builtin id))(ha:PA X (e :: es) t)(hn:x ≠ "__name__" := by decide)(hdb:(x == ("__debug__" : Str))=false:=by decide)
  (he:starEach (e :: es) X.env=(false,eval e X.env) :: starEach es X.env:=by rfl) (hpl:(backTo pos (starEach es X.env)).any (·.1)=false:=by rfl):PE X (.Call (.Name x p) (e :: es) [] pos) (tCB r t):=by
 intro QC s σ H Q I h;refine wpAny_Call_Name_kw (fh I hg hm hv ?_ hn hdb);exact PyProof.Rows.callWith_builtin1 (thn (ha pos QC s σ H _ I h) λ us s1 %[vs,H1,I1,r1|q1]=>hc QC s1 σ H1 vs us Q I1 r1 q1) he hpl
theorem bo(hc:de X (.type T) r)(hg:Gl X x)(hm:X.mg x=none)(hv:bootBuiltins x=some (.type T))(ha:PA X (e :: es) t)(hn:x ≠ "__name__" := by decide)(hdb:(x == ("__debug__" : Str))=false:=by decide)
  (he:starEach (e :: es) X.env=(false,eval e X.env) :: starEach es X.env:=by rfl) (hpl:(backTo pos (starEach es X.env)).any (·.1)=false:=by rfl):PE X (.Call (.Name x p) (e :: es) [] pos) (tCB r t):=by
 intro QC s σ H Q I h;refine wpAny_Call_Name_kw (fh I hg hm hv ?_ hn hdb);exact QM (thn (ha pos QC s σ H _ I h) λ us s1 %[vs,H1,I1,r1|q1]=>hc QC s1 σ H1 vs us Q I1 r1 q1) he hpl
end
end L2
namespace HT
open PySem PyProof.Rows
section
variable{prog:F5}{w:F7}{A:Around}{E:F8->F4->Prop}{s:F4}
theorem cat_tup{t b:P6}{vs ws:QA F8}{Q:F8->F4->Prop}(ht:IsTup s.heap t vs.toArray)(hb:IsTup s.heap b ws.toArray)(hv:vs≠[])
  (h1:ws=[]->Q (.ref t) s) (h2:ws≠[]->Q (.ref s.heap.objs.size) { s with heap:=s.heap.push { cls:=.type "tuple",data:=.seq (vs ++ ws).toArray } })
  (hsz:vs.length+ws.length<=sizeLine):wpAny (model prog w) A (binaryOp .Add (.ref t) (.ref b)) Q E s:=by
 obtain⟨⟨cls,dd,data,sl⟩,ho,hc,n,hd⟩:=id ht;obtain⟨⟨cls2,dd2,data2,sl2⟩,ho2,hc2,n2,hd2⟩:=id hb;simp only at hc hd hc2 hd2;subst hc hd hc2 hd2;have e:vs.toArray ++ ws.toArray=(vs ++ ws).toArray:=by simp
 by_cases hw:ws=[]
 ·exact concat_meets %[_,ho|rfl] %[_,ho2|rfl] noFill_tuple_add seq_tuple_add PySem.F.slot_tuple_add PySem.F.entry_tuple_add (PySem.F.args_tuple_add_2 _ _)
   (tuple_addW1 t b vs.toArray ws.toArray n n2 dd dd2 sl sl2 (by simpa using hv) (by simp[hw])) %[ho,ho2|h1 hw]
 ·refine concat_meets %[_,ho|rfl] %[_,ho2|rfl] noFill_tuple_add seq_tuple_add PySem.F.slot_tuple_add PySem.F.entry_tuple_add (PySem.F.args_tuple_add_2 _ _)
   (tuple_addW2 t b vs.toArray ws.toArray n n2 dd dd2 sl sl2 (by simpa using hv) (by simpa using hw) (by rw[G7,G7];exact hsz)) %[ho,ho2|?_]
  rw[e];exact h2 hw
def sIx(n d:Nat):P8 Int->Nat
 | none=>d
 | some v=>if v < 0 then(v+(n:Int)).toNat else min v.toNat n
theorem Aj(n d:Nat)(hd:d<=n)(o:P8 Int):sIx n d o<=n:=by
 cases o with
 | none=>exact hd
 | some v=>
  show(if v < 0 then(v+(n:Int)).toNat else min v.toNat n)<=n
  by_cases hv:v < 0
  ·rw[QI hv];lia
  ·rw[QH hv];exact Nat.min_le_right _ _
theorem qz(v:Int)(n d:Nat):(if v < 0 then max (v+(n:Int)) 0 else min v (n:Int))=((sIx n d (some v):Nat):Int):=by
 show(if v < 0 then max (v+(n:Int)) 0 else min v (n:Int))=(((if v < 0 then(v+(n:Int)).toNat else min v.toNat n):Nat):Int)
 by_cases hv:v < 0
 ·simp only[QI hv];lia
 ·simp only[QH hv];lia
theorem nX(lo hi:P8 Int)(n:Nat):Builtin.Slice.sliceAdjust lo hi 1 (n:Int)=(((sIx n 0 lo:Nat):Int),((sIx n n hi:Nat):Int)):=by
 have h1:¬ ((1:Int) < 0):=⋯
 unfold Builtin.Slice.sliceAdjust;simp only[h1,QN];refine Prod.ext ?_ ?_
 ·cases lo with
  | none=>rfl
  | some v=>exact qz v n 0
 ·cases hi with
  | none=>rfl
  | some v=>exact qz v n n
theorem nY(i j:Nat):Builtin.Slice.slicePlaces (i:Int) (j:Int) 1=j - i:=by
 unfold Builtin.Slice.slicePlaces;have h1:(1:Int) > 0:=⋯
 simp only[h1,Qa,Int.ediv_one]
 split <;> lia
theorem jx{v:F8}{o:P8 Int}{Q:P8 Int->F4->Prop}(p:IsPart v o)(h:Q o s):wpAny (model prog w) A (Builtin.Slice.slicePartIndex v) Q E s:=by
 cases p with
 | none=>exact slicePart_none h
 | int i t=>exact slicePart_int h
theorem iw{sl:P6}{vl vu:F8}{lo hi:P8 Int}{n:Nat}{Q:Int×Int×Nat->F4->Prop}(hs:s.heap.IsSliceOf sl vl vu .none)(pl:IsPart vl lo)(pu:IsPart vu hi)
  (h:Q (((sIx n 0 lo:Nat):Int),1,sIx n n hi - sIx n 0 lo) s):wpAny (model prog w) A (Builtin.Slice.sliceApplied (.ref sl) (pure (n:Int))) Q E s:=by
 obtain⟨os,hos,hcs,hds⟩:=id hs;unfold Builtin.Slice.sliceApplied Builtin.Slice.sliceFields;refine A0 (A0 (QZ hos hds (x:=vl) rfl (A0 (QZ hos hds (x:=vu) rfl (A0 (QZ hos hds (x:=.none) rfl (A2 ?_)))))));refine A0 (slicePart_none ?_);show wpAny _ _ (if ((1:Int) == 0)=true then _ else _) _ _ s;rw[QH ∅];refine A0 (jx pl (A0 (jx pu (A0 (A2 ?_)))));show wpAny _ _ (match Builtin.Slice.sliceAdjust lo hi 1 (n:Int)with | (lo,hi)=>pure (lo,(1:Int),Builtin.Slice.slicePlaces lo hi 1)) _ _ s;rw[nX lo hi n];show wpAny _ _ (pure (((sIx n 0 lo:Nat):Int),(1:Int),Builtin.Slice.slicePlaces ((sIx n 0 lo:Nat):Int) ((sIx n n hi:Nat):Int) 1)) _ _ s;rw[nY];exact A2 h
theorem uM(xs:P9 F8)(i k:Nat):((List.range k).filterMap λ (m:Nat)=>xs[((i:Int)+(m:Int) * 1).toNat]?).toArray=((xs.toList.drop i).take k).toArray:=by
 have e:(λ (m:Nat)=>xs[((i:Int)+(m:Int) * 1).toNat]?)=λ m=>xs[i+m]? := by
  funext m
  have:((i:Int)+(m:Int) * 1).toNat=i+m:=⋯
  rw[this]
 rw[e];have:=pick_run xs i k;rw[List.filterMap_map]at this;have e2:((λ x=>xs[x]?)∘λ x=>i+x)=λ m=>xs[i+m]? := rfl;rw[e2]at this;rw[this]
theorem getItem_tuple_cut{t sl:P6}{items:P9 F8}{vl vu:F8}{lo hi:P8 Int}{Q:F8->F4->Prop}(ht:IsTup s.heap t items)(hs:s.heap.IsSliceOf sl vl vu .none)(pl:IsPart vl lo)(pu:IsPart vu hi)
  (hw:¬ (sIx items.size 0 lo=0/\sIx items.size items.size hi=items.size))
  (h:Q (.ref s.heap.objs.size) { s with heap:=s.heap.push { cls:=.type "tuple",data:=.seq ((items.toList.drop (sIx items.size 0 lo)).take (sIx items.size items.size hi - sIx items.size 0 lo)).toArray } })
  (hsz:items.size<=sizeLine):wpAny (model prog w) A (getItem (.ref t) (.ref sl)) Q E s:=by
 have htake:sizeOk (.seq ((items.toList.drop (sIx items.size 0 lo)).take (sIx items.size items.size hi - sIx items.size 0 lo)).toArray):=by show((items.toList.drop (sIx items.size 0 lo)).take (sIx items.size items.size hi - sIx items.size 0 lo)).toArray.size<=sizeLine;rw[G7,J3,List.length_drop,K3];lia
 have hj:sIx items.size items.size hi<=items.size:=Aj _ _ (B3 _) hi;obtain⟨os,hos,hcs,hds⟩:=id hs;have hTs:s.TypeIs (.ref sl) "slice" := %[os,hos|hcs]
 unfold getItem
 try with_reducible refine QL ?_
 first | refine A0 (A2 ?_) | skip
 refine A0 (wpAny_sequenceKey ht.typeIs ∅ ?_);refine A0 (wpAny_callSpecial?_slot (name:=Str.ofString "__getitem__") ht.typeIs PyProof.Rows.slot_tuple_getitem
  (F1 PyProof.Rows.slot_tuple_getitem ht.typeIs entry_tuple_getitem ?_ (args_tuple_getitem _ _)))
 show wpAny _ _ (Builtin.Tuple.tupleItemsOf (.ref t) >>= _) _ _ s;refine A0 (tupleItemsOf_ ht ?_);refine A0 (wpAny_typeOf hTs ?_);rw[QI ∅];refine A0 (iw hs pl pu ?_);have hno:¬ ((((sIx items.size 0 lo:Nat):Int) == 0 && (1:Int) == 1 && (sIx items.size items.size hi - sIx items.size 0 lo) == items.size)=true):=by intro q;rw[K4,K4]at q;have q1:((sIx items.size 0 lo:Nat):Int)=0:=eq_of_beq q.1.1;have q2:sIx items.size items.size hi - sIx items.size 0 lo=items.size:=eq_of_beq q.2;exact hw %[⋯|⋯]
 show wpAny _ _ (if (((sIx items.size 0 lo:Nat):Int) == 0 && (1:Int) == 1 && (sIx items.size items.size hi - sIx items.size 0 lo) == items.size)=true then _ else _) _ _ s;rw[QH hno,uM]
 first
  | exact A0 (m:=Builtin.Tuple.tupleExact _) (F2 (A2 ⟨_,rfl,A2 h⟩) htake)
  | exact A0 (m:=Builtin.Tuple.tupleExact _) (F2 (A0 (A2 (A2 ⟨_,rfl,A2 h⟩))) htake)
  | exact A0 (A0 (m:=Builtin.Tuple.tupleExact _) (F2 (A2 (A2 ⟨_,rfl,A2 h⟩)) htake))
  | exact A0 (A0 (m:=Builtin.Tuple.tupleExact _) (F2 (A2 ⟨_,rfl,A2 h⟩) htake))
end
end HT
namespace L2
open PySem PySem.Spec PyProof.Rows
abbrev TO:=St->Hp->(P8 Int->Hp->Prop)->Prop
def PO(X:Cx)(e:P8 Expr)(t:TO):Prop :=
 ∀(QC:QA (P6×Obj))(s:F4)(σ:St)(H:Hp)(Q:P8 Int->Hp->Prop),Inv X QC σ H s->t σ H Q ->
  wpAny (model X.prog X.w) X.A (evalPart e X.env) (λ u s'=>∃o H',Inv X QC σ H' s'/\IsPart u o/\Q o H') X.xe s
def xN:TO:=λ _ H Q=>Q none H
def Gn(t:TE):TO:=λ σ H Q=>t σ H λ x H1=>∃i,x=.int i/\Q (some i) H1
section
variable{X:Cx}{e:Expr}{te:TE}{lo hi:P8 Expr}{tl th:TO}{pos p2:Pos}
theorem qA:PO X none xN:=by intro QC s σ H Q I h;rw[evalPart_none];exact A2 %[none,H,I,.none|h]
theorem qB(h:PE X e te):PO X (some e) (Gn te):=by intro QC s σ H Q I hw;rw[evalPart_some];refine thn (h QC s σ H _ I hw) ?_;rintro u s1 ⟨x,H1,I1,r1,q1⟩;obtain⟨i,rfl,q⟩:=q1;obtain⟨t,rfl⟩:=r1;exact%[some i,H1,I1,.int i t|q]
def SlR(X:Cx)(r:V->P8 Int->P8 Int->Hp->VK->Prop):Prop :=
 ∀(QC:QA (P6×Obj))(s:F4)(σ:St)(H:Hp)(x:V)(v vl vu:F8)(lo hi:P8 Int)(sl:P6)(Q:VK),Inv X QC σ H s->RelV x v->s.heap.IsSliceOf sl vl vu .none->IsPart vl lo->IsPart vu hi->r x lo hi H Q ->
  ∃T id,typeLookup (.type T) "__getitem__" = pure (some (.builtin id))/\s.TypeIs v T/\wpAny (model X.prog X.w) X.A (getItem v (.ref sl)) (EP X QC σ Q) X.xe s
def tSl(r:V->P8 Int->P8 Int->Hp->VK->Prop)(te:TE)(tl th:TO):TE:=λ σ H Q=>te σ H λ x H1=>tl σ H1 λ l H2=>th σ H2 λ u H3=>r x l u H3 Q
theorem mI{r:V->P8 Int->P8 Int->Hp->VK->Prop}(hr:SlR X r)(he:PE X e te)(hl:PO X lo tl)(hu:PO X hi th):PE X (.Subscript e (.Slice lo hi none p2) pos) (tSl r te tl th):=by intro QC s σ H Q I h;refine Subscript_ (thn (he QC s σ H _ I h) ?_);rintro v s1 ⟨x,H1,I1,r1,q1⟩;refine wpAny_Slice (thn (hl QC s1 σ H1 _ I1 q1) ?_);rintro vl s2 ⟨l,H2,I2,pl,q2⟩;refine thn (hu QC s2 σ H2 _ I2 q2) ?_;rintro vu s3 ⟨u,H3,I3,pu,q3⟩;rw[evalPart_none];refine A2 ?_;have I4:Inv X QC σ H3 { s3 with heap:=s3.heap.push { cls:=.type "slice",data:=.fields #[vl,vu,.none] } }:=I3.kept (t':=s3.toks) λ b ob q=>A7 _ q;obtain⟨T,id,hT,ht,hg⟩:=hr QC { s3 with heap:=s3.heap.push { cls:=.type "slice",data:=.fields #[vl,vu,.none] } } σ H3 x v vl vu l u s3.heap.objs.size Q I4 r1 (Heap.IsSliceOf.new ..) pl pu q3;show wpAny (model X.prog X.w) X.A (subscriptTail e (.Slice lo hi none p2) v (.ref s3.heap.objs.size)) (EP X QC σ Q) X.xe { s3 with heap:=s3.heap.push { cls:=.type "slice",data:=.fields #[vl,vu,.none] } };exact tail_any (ops:=[.ref s3.heap.objs.size,v]) ht hT hg (by with_unfolding_all rfl)
def lC(xs:QA V)(lo hi:P8 Int):QA V:=(xs.drop (HT.sIx xs.length 0 lo)).take (HT.sIx xs.length xs.length hi - HT.sIx xs.length 0 lo)
theorem iP(xs:QA V)(lo hi:P8 Int):(lC xs lo hi).length<=xs.length:=by unfold lC;rw[J3,List.length_drop];lia
def Nb(K:C4):V->P8 Int->P8 Int->Hp->VK->Prop:=λ x lo hi H Q=>∃a xs,x=.ref a/\SqT K H a xs /\
 ¬ (HT.sIx xs.length 0 lo=0/\HT.sIx xs.length xs.length hi=xs.length)/\∀p,H p=none->Q (.ref p) (upd H p (.tup (lC xs lo hi)))
theorem Ak:SlR X (Nb X.K):=by
 intro QC s σ H x v vl vu lo hi sl Q I rx hs pl pu h;obtain⟨a,xs,rfl,hx,hw,q⟩:=h;cases rx;obtain⟨its,r,ht,hz⟩:=I.tuple hx;have QE:its.toArray.size=xs.length:=by rw[G7];exact r.length.symm
 refine%["tuple",_,PyProof.Rows.slot_tuple_getitem.lookup,ht.typeIs|?_];refine HT.getItem_tuple_cut ht hs pl pu (by rw[QE];exact hw) ?_ (by rw[QE];exact hz);rw[QE];refine%[.ref s.heap.objs.size,_,I.laid (t':=s.toks) (o:=.tup (lC xs lo hi)) (λ b ob q=>A7 _ q) (B3 _) ?_,Y|q _ (I.hok.fresh (B3 _))];exact%[C5 (iP xs lo hi) hz,_,(r.drop (HT.sIx xs.length 0 lo)).take (HT.sIx xs.length xs.length hi - HT.sIx xs.length 0 lo)|IsTup.new _ _]
def Go(K:C4):R2:=λ x y H Q=>∃a b xs ys,x=.ref a/\y=.ref b/\SqT K H a xs/\SqT K H b ys/\xs≠[]/\xs.length+ys.length<=sizeLine /\
 (ys=[]->Q (.ref a) H)/\(ys≠[]->∀p,H p=none->Q (.ref p) (upd H p (.tup (xs ++ ys))))
theorem Vals.nil_iff{xs:QA V}{us:QA F8}(r:Vals xs us):us=[]↔xs=[]:=by
 cases r with
 | nil=>simp
 | cons _ _=>simp
theorem xO:OpR X (binaryOp .Add) (Go X.K):=by intro QC s σ H x y v u Q I rx ry h;obtain⟨a,b,xs,ys,rfl,rfl,ha,hb,hx,hz,q1,q2⟩:=h;cases rx;cases ry;obtain⟨its,r1,p1,_⟩:=I.tuple ha;obtain⟨its2,r2,p2,_⟩:=I.tuple hb;refine HT.cat_tup p1 p2 (λ z=>hx (r1.nil_iff.mp z)) (λ z=>%[.ref a,H,I,Y|q1 (r2.nil_iff.mp z)]) (λ z=>?_) (by rw[<- r1.length,<- r2.length];exact hz);refine%[.ref s.heap.objs.size,_,I.laid (t':=s.toks) (o:=.tup (xs ++ ys)) (λ b ob q=>A7 _ q) (B3 _) ?_,Y|q2 (λ w=>z (r2.nil_iff.mpr w)) _ (I.hok.fresh (B3 _))];exact%[by rw[G6];exact hz,_,r1.append r2|IsTup.new _ _]
inductive rz_call_tupleT(K:C4)(xs:QA V)(H:Hp)(Q:VK):Prop
|mk(a ys:_)(_:xs=[.ref a])(_:SqT K H a ys)(_:Q (.ref a) H)
end
def ixN(n:Nat)(i:Int):P8 Nat:=if 0<=i then(if i < n then some i.toNat else none)else if -(n:Int)<=i then some (i+n).toNat else none
def atI{α:Type}(xs:QA α)(i:Int):P8 α:=(ixN xs.length i).bind λ j=>xs[j]?
theorem qD{n:Nat}{i:Int}{j:Nat}(h:ixN n i=some j):seqIndex? i n=some j/\j < n/\-(n:Int)<=i/\i < n:=by
 unfold ixN at h
 by_cases h0:0<=i
 ·rw[QI h0]at h
  by_cases h1:i < n
  ·rw[QI h1]at h;have e:i.toNat=j:=B8 h;exact%[by rw[seqIndex_of h0 h1,e],⋯,⋯|h1]
  ·rw[QH h1]at h;cases h
 ·rw[QH h0]at h
  by_cases h1:-(n:Int)<=i
  ·rw[QI h1]at h;have e:(i+n).toNat=j:=B8 h;exact%[by rw[seqIndex_neg ⋯ h1,e],⋯,h1|⋯]
  ·rw[QH h1]at h;cases h
theorem jb{α:Type}{xs:QA α}{i:Int}{v:α}(h:atI xs i=some v):∃j,seqIndex? i xs.length=some j/\xs[j]?=some v/\j < xs.length/\-(xs.length:Int)<=i/\i < xs.length:=by
 unfold atI at h;cases e:ixN xs.length i with
 | none=>rw[e]at h;cases h
 | some j=>
  rw[e]at h;obtain⟨h1,h2,h3,h4⟩:=qD e;exact%[j,h1,h,h2,h3|h4]
theorem qE{α:Type}{xs:QA α}{j:Nat}{v:α}(h:xs[j]?=some v):atI xs (j:Int)=some v:=by
 have hj:j < xs.length:=(A6.mp h).1;have e:ixN xs.length (j:Int)=some j:=by unfold ixN;rw[QI ⋯,QI ⋯];simp
 unfold atI;rw[e];exact h
theorem uN{α:Type}(xs:QA α)(v:α):atI (xs ++ [v]) (-1)=some v:=by
 have hl:(xs ++ [v]).length=xs.length+1:=by simp
 have e:ixN (xs ++ [v]).length (-1)=some xs.length:=by unfold ixN;rw[hl,QH ∅,QI ⋯];congr 1;lia
 unfold atI;rw[e];show(xs ++ [v])[xs.length]?=some v;simp
def xP(b:Expr):Prop:=∀o i,subscripted b false o i=operate [o,i] (getItem o i)
def IxR(X:Cx)(r:R2):Prop :=
 ∀(value slice:Expr)(QC:QA (P6×Obj))(s:F4)(σ:St)(H:Hp)(x y:V)(v u:F8)(Q:VK),Inv X QC σ H s->RelV x v->RelV y u->r x y H Q ->
  subscripted slice false v u=operate [v,u] (getItem v u)->wpAny (model X.prog X.w) X.A (subscriptTail value slice v u) (EP X QC σ Q) X.xe s
def MtR(X:Cx)(id:String)(r:V->QA V->Hp->VK->Prop):Prop :=
 ∀(QC:QA (P6×Obj))(s:F4)(σ:St)(H:Hp)(x:V)(xs:QA V)(v:F8)(us:QA F8)(Q:VK),Inv X QC σ H s->RelV x v->Vals xs us->r x xs H Q ->
  wpAny (model X.prog X.w) X.A (call (.builtin id) (v :: us)) (EP X QC σ Q) X.xe s
section
variable{X:Cx}{a b:Expr}{ta tb:TE}{pos:Pos}
theorem IxR.or{r r':R2}(h:IxR X r)(h':IxR X r'):IxR X (λ x y H Q=>r x y H Q\/r' x y H Q):=by
 intro value slice QC s σ H x y v u Q I rx ry q hs;rcases q with q | q
 ·exact h value slice QC s σ H x y v u Q I rx ry q hs
 ·exact h' value slice QC s σ H x y v u Q I rx ry q hs
theorem av{r:R2}(hr:IxR X r)(ha:PE X a ta)(hb:PE X b tb)(hs:xP b):PE X (.Subscript a b pos) (tOp r ta tb):=by intro QC s σ H Q I h;exact Subscript_ (Ag ha hb I h λ v u s2 x y H2 I2 rx ry q=>hr a b QC s2 σ H2 x y v u Q I2 rx ry q (hs _ _))
inductive rIxL(K:C4)(x:V)(y:V)(H:Hp)(Q:VK):Prop
|mk(p:P6)(xs:QA V)(i:Int)(v:V)(_:x=.ref p)(_:y=.int i)(_:SqL K H p xs)(_:atI xs i=some v)(_:Q v H)
inductive rIxT(K:C4)(x:V)(y:V)(H:Hp)(Q:VK):Prop
|mk(p:P6)(xs:QA V)(i:Int)(v:V)(_:x=.ref p)(_:y=.int i)(_:SqT K H p xs)(_:atI xs i=some v)(_:Q v H)
def Gp:R2:=λ x y H Q=>∃z i c,x=.str z/\y=.int i/\z.length<=sizeLine/\atI z.cps.toList i=some c/\Q (.str %[|#[c]]) H
theorem ix_list:IxR X (rIxL X.K):=by
 intro value slice QC s σ H x y v u Q I rx ry h hs;obtain⟨p,xs,i,z,rfl,rfl,hq,he,q⟩:=h;cases rx;obtain⟨t,rfl⟩:=ry;obtain⟨its,r,pl,hz⟩:=I.list hq;obtain⟨j,h1,h2,h3,h4,h5⟩:=jb he;obtain⟨w,ew,rw'⟩:=r.get h2;have hl:=r.length;have hn:=gy;have fin:EP X QC σ Q w s:=%[z,H,I,rw'|q]
 by_cases h0:0<=i
 ·have hj:i.toNat=j:=by rw[seqIndex_of h0 h5]at h1;exact B8 h1
  exact item_listR pl.isList h0 ⋯ (by rw[hj];simpa using ew) fin hs
 ·have hj:(i+(its.toArray.size:Int)).toNat=j:=by rw[seqIndex_neg ⋯ h4]at h1;rw[G7,<- hl];exact B8 h1
  exact subscriptTail_builtinR (x:=w) pl.isList.typeIs slot_list_getitem.lookup
   (wpAny_getItem_list_neg (Q:=λ r s'=>r=w/\EP X QC σ Q r s') pl.isList ⋯ (by rw[G7] <;> lia) ⋯ (by rw[hj];simpa using ew) %[rfl|fin]) hs
theorem ix_tup:IxR X (rIxT X.K):=by
 intro value slice QC s σ H x y v u Q I rx ry h hs;obtain⟨p,xs,i,z,rfl,rfl,hq,he,q⟩:=h;cases rx;obtain⟨t,rfl⟩:=ry;obtain⟨its,r,pl,hz⟩:=I.tuple hq;obtain⟨j,h1,h2,h3,h4,h5⟩:=jb he;obtain⟨w,ew,rw'⟩:=r.get h2;have hl:=r.length;have hn:=gy;have fin:EP X QC σ Q w s:=%[z,H,I,rw'|q]
 exact subscriptTail_builtinR (x:=w) pl.typeIs slot_tuple_getitem.lookup
  (getItem_tuple (j:=j) (Q:=λ r s'=>r=w/\EP X QC σ Q r s') pl ⋯ ⋯ (by rw[G7,<- hl];exact h1) (by simpa using ew) %[rfl|fin]) hs
theorem uO:IxR X Gp:=by
 intro value slice QC s σ H x y v u Q I rx ry h hs;obtain⟨z,i,c,rfl,rfl,hz,he,q⟩:=h;obtain⟨t,rfl⟩:=rx;obtain⟨t',rfl⟩:=ry;obtain⟨j,h1,h2,h3,h4,h5⟩:=jb he;have hl:z.cps.toList.length=z.length:=by simp[Str.length]
 rw[hl]at h1 h4 h5;have hn:=gy;exact tail_any (typeIs_str s z t) slot_str_getitem.lookup (getItem_str (c:=c) (by
  have e1:decide (i < -(2 ^ 63:Int))=false:=B1 ⋯;have e2:decide (i≥2 ^ 63)=false:=B1 ⋯;rw[e1,e2,Bool.or_false]) (by rw[h1];simpa using h2) %[.str %[|#[c]],H,I.tok _,%[_|rfl]|q]) hs
def rIx(K:C4):R2:=λ x y H Q=>rIxL K x y H Q\/rIxT K x y H Q\/Gp x y H Q
theorem bc:IxR X (rIx X.K):=ix_list.or (ix_tup.or uO)
theorem nZ(its:QA F8)(n j:Nat)(u:F8):Obj.mapSeq (·.setIfInBounds j u) { cls:=.type "list",data:=.seq its.toArray n }={ cls:=.type "list",data:=.seq (its.set j u).toArray n }:=by simp[Obj.mapSeq]
theorem Inv.lst{QC:QA (P6×Obj)}{σ:St}{H:Hp}{s:F4}{p:P6}{xs:QA V}(I:Inv X QC σ H s)(h:H p=↥xs) :
  ∃(its:QA F8)(n:Nat),Vals xs its/\s.heap.get? p=some { cls:=.type "list",data:=.seq its.toArray n }/\xs.length<=sizeLine:=by
 obtain⟨z,its,n,r,e⟩:=I.hok p _ h;exact%[its,n,r,e|z]
theorem Inv.lstUpd{QC:QA (P6×Obj)}{σ:St}{H:Hp}{s:F4}{p:P6}{xs ys:QA V}{its its':QA F8}{n n':Nat}{f:Obj->Obj}(I:Inv X QC σ H s)(h:H p=↥xs)
  (ho:s.heap.get? p=some { cls:=.type "list",data:=.seq its.toArray n }) (hf:f { cls:=.type "list",data:=.seq its.toArray n }={ cls:=.type "list",data:=.seq its'.toArray n' }) (r:Vals ys its') (hz:ys.length<=sizeLine) (t:Nat) :
  Inv X QC σ (upd H p (.lst ys)) { s with heap:=s.heap.update p f,toks:=t }:=by
 have e:(s.heap.update p f).get? p=some { cls:=.type "list",data:=.seq its'.toArray n' }:=by rw[Heap.get?_update_self f ho (by rw[hf] <;> rfl),hf]
 refine I.write (x:=p) (e:=p) (by rw[h];trivial) (.inl rfl) (λ b u hb q=>(Heap.get?_update_other _ _ (Ne.symm hb)).trans q) %[_|e] ?_;exact%[hz,its',n',r|e]
inductive rSetL(o:V)(i:V)(v:V)(H:Hp)(Q:Hp->Prop):Prop
|mk(p:P6)(xs:QA V)(k:Int)(j:Nat)(_:o=.ref p)(_:i=.int k)(_:H p=↥xs)(_:ixN xs.length k=some j)(_:Q (upd H p (.lst (xs.set j v))))
theorem fz:Ad X rSetL:=by
 intro QC s σ H o i v ov iv u Q I ro ri rv h;obtain⟨p,xs,k,j,rfl,rfl,hp,hj,q⟩:=h;cases ro;obtain⟨t,rfl⟩:=ri;obtain⟨its,n,r,ho,hz⟩:=I.lst hp;obtain⟨h1,h2,h3,h4⟩:=qD hj;have hl:=r.length;have hn:=gy;have I':Inv X QC σ (upd H p (.lst (xs.set j v))) { s with heap:=s.heap.update p (Obj.mapSeq (·.setIfInBounds j u)) } :=
  I.lstUpd hp ho (nZ its n j u) (r.set rv j) (by rw[List.length_set];exact hz) s.toks
 by_cases h0:0<=k
 ·have hk:k.toNat=j:=by rw[seqIndex_of h0 h4]at h1;exact B8 h1
  exact PySem.W.ki_setAt ho h0 ⋯ (by rw[G7,<- hl];exact h4) (by rw[hk];exact%[_,I'|q])
 ·have hk:(k+(its.toArray.size:Int)).toNat=j:=by rw[seqIndex_neg ⋯ h3]at h1;rw[G7,<- hl];exact B8 h1
  exact PySem.W.ki_setBack ho ⋯ (by rw[G7,<- hl];exact h3) ⋯ (by rw[hk];exact%[_,I'|q])
theorem lD(lo hi:P8 Int)(n:Nat):(sliceBounds lo hi none n).1=((HT.sIx n 0 lo:Nat):Int)/\(sliceBounds lo hi none n).2.1=((HT.sIx n n hi:Nat):Int)/\(sliceBounds lo hi none n).2.2=1:=by
 refine%[?_,?_|Y]
 ·cases lo with
  | none=>simp[sliceBounds,HT.sIx]
  | some i=>
   simp only[sliceBounds,HT.sIx,Option.getD_none,show(1:Int) > 0 by decide,Qa]
   by_cases h:i < 0
   ·simp only[h,Qa] <;> lia
   ·simp only[h,QN] <;> lia
 ·cases hi with
  | none=>simp[sliceBounds,HT.sIx]
  | some i=>
   simp only[sliceBounds,HT.sIx,Option.getD_none,show(1:Int) > 0 by decide,Qa]
   by_cases h:i < 0
   ·simp only[h,Qa] <;> lia
   ·simp only[h,QN] <;> lia
theorem kq(its:QA F8)(lo hi:P8 Int):slicePick its.toArray lo hi none=((its.drop (HT.sIx its.length 0 lo)).take (HT.sIx its.length its.length hi - HT.sIx its.length 0 lo)).toArray:=by obtain⟨h1,h2,h3⟩:=lD lo hi its.toArray.size;unfold slicePick;rw[h1,h2,h3];simp only[sliceRange_one,pick_run,G7] <;> rfl
inductive rSlL(K:C4)(x:V)(lo:P8 Int)(hi:P8 Int)(H:Hp)(Q:VK):Prop
|mk(a:P6)(xs:QA V)(_:x=.ref a)(_:SqL K H a xs)(_:∀p,H p=none->Q (.ref p) (upd H p (.lst (lC xs lo hi))))
theorem xQ:SlR X (rSlL X.K):=by intro QC s σ H x v vl vu lo hi sl Q I rx hs pl pu h;obtain⟨a,xs,rfl,hx,q⟩:=h;cases rx;obtain⟨its,r,ht,hz⟩:=I.list hx;have QE:=r.length;refine%["list",_,slot_list_getitem.lookup,ht.isList.typeIs|?_];refine wpAny_getItem_list_slice ht.isList hs pl pu .none (by simp) ?_ (by rw[G7] <;> lia);rw[kq,<- QE];refine%[.ref s.heap.objs.size,_,I.laid (t':=s.toks) (o:=.lst (lC xs lo hi)) (λ b ob q=>A7 _ q) (B3 _) ?_,Y|q _ (I.hok.fresh (B3 _))];exact%[C5 (iP xs lo hi) hz,_,0,(r.drop (HT.sIx xs.length 0 lo)).take (HT.sIx xs.length xs.length hi - HT.sIx xs.length 0 lo)|A8 _ rfl]
def iQ:V->Bool
 | .non=>true
 | .bl _=>true
 | .int _=>true
 | .str _=>true
 | _=>false
def eqV:V->V->Bool
 | .non,.non=>true
 | .bl a,.bl b=>a == b
 | .bl a,.int b=>(if a then 1 else 0) == b
 | .int a,.bl b=>a == (if b then 1 else 0)
 | .int a,.int b=>a == b
 | .str a,.str b=>a == b
 | _,_=>false
theorem Al{A:Around}{s:F4}{y x:V}{u v:F8}(ry:RelV y u)(rx:RelV x v)(fy:iQ y=true)(fx:iQ x=true):SeqAt.EqAt A s u v (eqV y x):=by
 cases y with
 | non=>
  cases ry;cases x with
  | non=>cases rx;exact SeqAt.EqAt.same _
  | bl b=>cases rx;exact SeqAt.EqAt.none_bool b
  | int b=>obtain⟨t,rfl⟩:=rx;exact SeqAt.EqAt.none_int b t
  | str b=>obtain⟨t,rfl⟩:=rx;exact SeqAt.EqAt.none_str b t
  | _=>exact absurd (show false=true from fx) B2
 | bl a=>
  cases ry;cases x with
  | non=>cases rx;exact SeqAt.EqAt.bool_none a
  | bl b=>cases rx;exact SeqAt.EqAt.bool_bool a b
  | int b=>obtain⟨t,rfl⟩:=rx;exact SeqAt.EqAt.bool_int a b t
  | str b=>obtain⟨t,rfl⟩:=rx;exact SeqAt.EqAt.bool_str a b t
  | _=>exact absurd (show false=true from fx) B2
 | int a=>
  obtain⟨t',rfl⟩:=ry;cases x with
  | non=>cases rx;exact SeqAt.EqAt.int_none a t'
  | bl b=>cases rx;exact SeqAt.EqAt.int_bool a t' b
  | int b=>obtain⟨t,rfl⟩:=rx;exact SeqAt.EqAt.int_int a t' b t
  | str b=>obtain⟨t,rfl⟩:=rx;exact SeqAt.EqAt.int_str a t' b t
  | _=>exact absurd (show false=true from fx) B2
 | str a=>
  obtain⟨t',rfl⟩:=ry;cases x with
  | non=>cases rx;exact SeqAt.EqAt.str_none a t'
  | bl b=>cases rx;exact SeqAt.EqAt.str_bool a t' b
  | int b=>obtain⟨t,rfl⟩:=rx;exact SeqAt.EqAt.str_int a t' b t
  | str b=>obtain⟨t,rfl⟩:=rx;exact SeqAt.EqAt.str_str a t' b t
  | _=>exact absurd (show false=true from fx) B2
 | _=>exact absurd (show false=true from fy) B2
def eqU(x:V)(u:F8):Bool:=match u with
 | .none=>eqV .non x
 | .bool b=>eqV (.bl b) x
 | .int i _=>eqV (.int i) x
 | .str z _=>eqV (.str z) x
 | _=>false
theorem uP{x y:V}{u:F8}(r:RelV y u)(f:iQ y=true):eqU x u=eqV y x:=by
 cases y with
 | non=>cases r;rfl
 | bl b=>cases r;rfl
 | int i=>obtain⟨t,rfl⟩:=r;rfl
 | str z=>obtain⟨t,rfl⟩:=r;rfl
 | _=>exact absurd (show false=true from f) B2
theorem gO{x:V}:∀{xs:QA V}{us:QA F8},Vals xs us->xs.all iQ=true->us.any (eqU x)=xs.any λ y=>eqV y x
 | _,_,.nil,_=>rfl
 | y :: xs,u :: us,.cons r t,f=>by rw[O9,K4]at f;rw[List.any_cons,List.any_cons,uP r f.1,gO t f.2]
theorem fA{A:Around}{s:F4}{x:V}{v:F8}(rx:RelV x v)(fx:iQ x=true):∀{xs:QA V}{us:QA F8},Vals xs us->xs.all iQ=true->∀u∈us,SeqAt.EqAt A s u v (eqU x u)
 | _,_,.nil,_=>λ u hu=>by cases hu
 | y :: xs,u :: us,.cons r t,f=>λ u' hu=>by
  rw[O9,K4]at f;rcases G5.mp hu with rfl | hu
  ·rw[uP r f.1];exact Al r rx f.1 fx
  ·exact fA rx fx t f.2 u' hu
def inV(x:V)(xs:QA V):Bool:=xs.any λ y=>eqV y x
def rIn(K:C4)(neg:Bool):R2:=λ x y H Q=>∃p xs,y=.ref p/\(SqL K H p xs\/SqT K H p xs)/\iQ x=true/\xs.all iQ=true/\Q (.bl (if neg then !inV x xs else inV x xs)) H
theorem fR:OpR X (compareOp .In) (rIn X.K false):=by
 intro QC s σ H x y v u Q I rx ry h;obtain⟨p,xs,rfl,hq,fx,fs,q⟩:=h;cases ry;rcases hq with hq | hq
 ·obtain⟨its,r,pl,hz⟩:=I.list hq;refine SeqAt.in_listAt (eqU x) pl.isList (λ w hw=>fA rx fx r fs w (by simpa using hw)) %[.bl _,H,I,rfl|?_];rw[show its.toArray.any (eqU x)=its.any (eqU x)by simp,gO r fs];exact q
 ·obtain⟨its,r,pl,hz⟩:=I.tuple hq;refine SeqAt.in_tupleAt (eqU x) pl (λ w hw=>fA rx fx r fs w (by simpa using hw)) %[.bl _,H,I,rfl|?_];rw[show its.toArray.any (eqU x)=its.any (eqU x)by simp,gO r fs];exact q
theorem gR:OpR X (compareOp .NotIn) (rIn X.K true):=by
 intro QC s σ H x y v u Q I rx ry h;obtain⟨p,xs,rfl,hq,fx,fs,q⟩:=h;cases ry;rcases hq with hq | hq
 ·obtain⟨its,r,pl,hz⟩:=I.list hq;refine SeqAt.notIn_listAt (eqU x) pl.isList (λ w hw=>fA rx fx r fs w (by simpa using hw)) %[.bl _,H,I,rfl|?_];rw[show its.toArray.any (eqU x)=its.any (eqU x)by simp,gO r fs];exact q
 ·obtain⟨its,r,pl,hz⟩:=I.tuple hq;refine SeqAt.notIn_tupleAt (eqU x) pl (λ w hw=>fA rx fx r fs w (by simpa using hw)) %[.bl _,H,I,rfl|?_];rw[show its.toArray.any (eqU x)=its.any (eqU x)by simp,gO r fs];exact q
inductive rz_op_notIn_str(x:V)(y:V)(H:Hp)(Q:VK):Prop
|mk(i j:_)(_:x=.str i)(_:y=.str j)(_:Q (.bl (!(!(Builtin.Str.occurrences j i 0 j.length 1).isEmpty))) H)
inductive rz_call_len_seq(K:C4)(xs:QA V)(H:Hp)(Q:VK):Prop
|mk(p ys:_)(_:xs=[.ref p])(_:(SqL K H p ys\/SqT K H p ys))(_:Q (.int ys.length) H)
theorem aY:de X (.builtin "len") (rz_call_len_seq X.K):=by
 intro QC s σ H xs us Q I r h;obtain⟨p,ys,rfl,hq,q⟩:=h;obtain⟨u,rfl,rx⟩:=fu r;cases rx;have hn:=gy;rcases hq with hq | hq
 ·obtain⟨its,r',pl,hz⟩:=I.list hq;have QE:=r'.length;exact Calls.call_len_list pl.isList (by simp only[G7] <;> lia) %[.int ys.length,H,I.tok _,%[s.toks+1|by rw[G7,QE]]|q]
 ·obtain⟨its,r',pl,hz⟩:=I.tuple hq;have QE:=r'.length;exact len_tuple pl (by simp only[G7] <;> lia) %[.int ys.length,H,I.tok _,%[s.toks+1|by rw[G7,QE]]|q]
inductive rz_call_len_str(xs:QA V)(H:Hp)(Q:VK):Prop
|mk(z:_)(_:xs=[.str z])(_:z.length<=sizeLine)(_:Q (.int z.length) H)
inductive rz_call_list_of(K:C4)(xs:QA V)(H:Hp)(Q:VK):Prop
|mk(p ys:_)(_:xs=[.ref p])(_:(SqL K H p ys\/SqT K H p ys))(_:∀l,H l=none->Q (.ref l) (upd H l (.lst ys)))
theorem eD:de X (.type "list") (rz_call_list_of X.K):=by
 intro QC s σ H xs us Q I r h;obtain⟨p,ys,rfl,hq,q⟩:=h;obtain⟨u,rfl,rx⟩:=fu r;cases rx;have fin:∀(its:QA F8),Vals ys its->ys.length<=sizeLine->∀(h':Heap)(c':Nat),(∀b o',s.heap.get? b=some o'->h'.get? b=some o') ->
   h'.get? s.heap.objs.size=some { cls:=.type "list",dict:=none,data:=.seq its.toArray c',slots:=#[] }->EP X QC σ Q (.ref s.heap.objs.size) { s with heap:=h' }:=λ its r' hz h' c' kp e=>
  %[.ref s.heap.objs.size,_,I.laid (t':=s.toks) kp (B3 _) (show ObjOk X.prog X.w _ h' _ (.lst ys)from%[hz,its,c',r'|e]),rfl|q _ (I.hok.fresh (B3 _))]
 rcases hq with hq | hq
 ·obtain⟨its,r',pl,hz⟩:=I.list hq;have QE:=r'.length;obtain⟨o,ho,hc,n,hd⟩:=pl.isList;exact call_list_seq p (.inl rfl) ho hc hd (λ h' c' kp e=>fin its r' hz h' c' kp e) (by simp only[G7] <;> lia)
 ·obtain⟨its,r',pl,hz⟩:=I.tuple hq;have QE:=r'.length;obtain⟨o,ho,hc,n,hd⟩:=pl;exact call_list_seq p (.inr rfl) ho hc hd (λ h' c' kp e=>fin its r' hz h' c' kp e) (by simp only[G7] <;> lia)
inductive rz_call_tuple_of(K:C4)(xs:QA V)(H:Hp)(Q:VK):Prop
|mk(p ys:_)(_:xs=[.ref p])(_:((SqL K H p ys/\∀l,H l=none->Q (.ref l) (upd H l (.tup ys)))\/(SqT K H p ys/\Q (.ref p) H)))
theorem bh:de X (.type "tuple") (rz_call_tuple_of X.K):=by
 intro QC s σ H xs us Q I r h;obtain⟨p,ys,rfl,h⟩:=h;obtain⟨u,rfl,rx⟩:=fu r;cases rx;rcases h with⟨hq,q⟩ | ⟨hq,q⟩
 ·obtain⟨its,r',pl,hz⟩:=I.list hq;have QE:=r'.length;refine call_tuple_list pl.isList (λ h' kp=>?_) (by simp only[G7] <;> lia);have I1:Inv X QC σ H { s with heap:=h' }:=I.kept (t':=s.toks) kp;have I2:Inv X QC σ (upd H h'.objs.size (.tup ys)) { s with heap:=h'.push { cls:=.type "tuple",data:=.seq its.toArray } } :=
   I1.laid (t':=s.toks) (λ b o e=>A7 _ e) (B3 _) (show ObjOk X.prog X.w _ _ _ (.tup ys)from%[hz,its,r'|IsTup.new _ _])
  exact%[.ref h'.objs.size,_,I2,Y|q _ (I1.hok.fresh (B3 _))]
 ·obtain⟨its,r',pl,hz⟩:=I.tuple hq;exact call_tuple_same pl %[.ref p,H,I,rfl|q]
def tyV(K:C4)(T:String)(x:V)(H:Hp):Prop:=match x with
 | .str _=>T = "str"
 | .int _=>T = "int"
 | .ref p=>(T = "list" /\ ∃xs,SqL K H p xs)\/(T = "tuple" /\ ∃o,K.lookup p=some o/\o.cls=.type "tuple" /\ o.dict=none) \/
   (T = "dict" /\ ((∃kvs,H p=some (.dK kvs))\/∃kvs,H p=some (.dT kvs)))\/(T = "set" /\ ∃S n,H p=some (.set S n))
 | _=>False
theorem uQ{QC:QA (P6×Obj)}{σ:St}{H:Hp}{s:F4}{T:String}{x:V}{v:F8}(I:Inv X QC σ H s)(r:RelV x v)(ty:tyV X.K T x H) :
  s.TypeIs v T/\∀a,v=.ref a->∃ob,s.heap.get? a=some ob/\ob.dict=none:=by
 cases x with
 | str z=>
  obtain⟨t,rfl⟩:=r;cases(show T = "str" from ty);exact%[typeIs_str s z t|λ _ e=>nomatch e]
 | int i=>
  obtain⟨t,rfl⟩:=r;cases(show T = "int" from ty);exact%[typeIs_int s i t|λ _ e=>nomatch e]
 | ref p=>
  cases r;rcases ty with⟨rfl,xs,hq⟩ | ⟨rfl,o,hk,hc,hd⟩ | ⟨rfl,hk⟩ | ⟨rfl,S,n,hk⟩
  ·obtain⟨its,_,pl,_⟩:=I.list hq;refine%[pl.isList.typeIs|λ a e=>?_];cases e;obtain⟨o,n,e,c,hd,_⟩:=pl;exact%[o,e|hd]
  ·refine%[%[o,I.kIn p o hk|hc]|λ a e=>?_];cases e;exact%[o,I.kIn _ o hk|hd]
  ·have z:∃o,s.heap.get? p=some o/\o.ExactDict:=by
    rcases hk with⟨kvs,hk⟩ | ⟨kvs,hk⟩
    ·obtain⟨_,_,_,_,o,_,_,e,ex,_⟩:=I.hok p _ hk;exact%[o,e|ex]
    ·obtain⟨_,_,_,_,o,_,_,e,ex,_⟩:=I.hok p _ hk;exact%[o,e|ex]
   obtain⟨o,e,ex⟩:=z;refine%[%[o,e|ex.1]|λ a e2=>?_];cases e2;exact%[o,e|ex.2.1]
  ·obtain⟨o,_,_,_,e,ex,_⟩:=I.hok p _ hk;refine%[%[o,e|ex.1]|λ a e2=>?_];cases e2;exact%[o,e|ex.2.1]
 | _=>exact E5 ty
def Nc(K:C4)(T:String)(r:V->QA V->Hp->VK->Prop)(to:TE):TE:=λ σ H Q=>to σ H λ x H1=>tyV K T x H1/\r x [] H1 Q
def tBM(K:C4)(T:String)(r:V->QA V->Hp->VK->Prop)(to:TE)(t:TA):TE:=λ σ H Q=>to σ H λ x H1=>tyV K T x H1/\t σ H1 λ xs H2=>r x xs H2 Q
variable{o e:Expr}{es:QA Expr}{to:TE}{t:TA}{name:Str}{apos cpos:Pos}{T id:String}{r:V->QA V->Hp->VK->Prop}
theorem jy(pa:PlainAttrs T)(slot:Slot T name id)(hty:typeOf (.builtin id)=pure (.type "method_descriptor"))(hm:MtR X id r)(ho:PE X o to)
  (hbase:attributeBase o name X.env (eval o X.env)=eval o X.env:=by rfl) (hline:(apos.endLine == cpos.line)=true:=by rfl):PE X (.Call (.Attribute o name apos) [] [] cpos) (Nc X.K T r to):=by
 intro QC s σ H Q I h;refine wpAny_Call_method0_late hbase hline (thn (ho QC s σ H _ I h) ?_);rintro v s1 ⟨x,H1,I1,r1,ty,q1⟩;obtain⟨h1,h2⟩:=uQ I1 r1 ty;exact%[T,id,pa,slot,hty,h1,h2|Calls.callWith_builtin rfl (PySem.evalArgs_none (hm QC s1 σ H1 x [] v [] Q I1 r1 .nil q1))]
theorem dG(pa:PlainAttrs T)(slot:Slot T name id)(hty:typeOf (.builtin id)=pure (.type "method_descriptor"))(hm:MtR X id r)(ho:PE X o to)(ha:PA X (e :: es) t)
  (hbase:attributeBase o name X.env (eval o X.env)=eval o X.env:=by rfl)
  (hfew:((backTo cpos (starEach (e :: es) X.env)).all (λ x=>!x.1) && (backToKw cpos (keywordEach [] X.env)).all (λ x=>x.1.isSome)
   && decide ((e :: es).length+([]:QA Keyword).length+(if ([]:QA Keyword).isEmpty then 0 else 1) < 30))=true:=by rfl)
  (hline:(apos.endLine == cpos.line)=true:=by rfl) (hs:starEach (e :: es) X.env=(false,eval e X.env) :: starEach es X.env:=by rfl) (hplain:(backTo cpos (starEach es X.env)).any (·.1)=false:=by rfl) :
  PE X (.Call (.Attribute o name apos) (e :: es) [] cpos) (tBM X.K T r to t):=by
 intro QC s σ H Q I h;refine wpAny_Call_method_late hbase hfew hline rfl (thn (ho QC s σ H _ I h) ?_);rintro v s1 ⟨x,H1,I1,r1,ty,q1⟩;obtain⟨h1,h2⟩:=uQ I1 r1 ty;refine%[T,id,pa,slot,hty,h1,h2|?_];have hA:=ha cpos QC s1 σ H1 _ I1 q1;rw[hs]at hA ⊢;refine Calls.callWith_builtin (by show(false || (backTo cpos (starEach es X.env)).any (·.1))=false;rw[hplain] <;> rfl) (Calls.evalArgs_plain ?_);exact thn hA λ us s2 %[vs,H2,I2,r2|q2]=>hm QC s2 σ H2 x vs v us Q I2 r1 r2 q2
/- xs.append(e),list.index on a module's tuple .. are MtR facts of 06m -/
end
def MtM(X:Cx)(id:String)(r:V->QA V->Hp->VK->Prop):Prop :=
 ∀(QC:QA (P6×Obj))(s:F4)(σ:St)(H:Hp)(x:V)(xs:QA V)(v:F8)(us:QA F8)(Q:VK),Inv X QC σ H s->RelV x v->Vals xs us->r x xs H Q ->
  wpAny (model X.prog X.w) X.A (call (.builtin id) (v :: us)) (EP X QC σ Q) X.xe s
theorem Vals.one:∀{x:V}{us:QA F8},Vals [x] us->∃u,us=[u]/\RelV x u
 | _,_,.cons r .nil=>%[_,Y|r]
theorem Vals.zero:∀{us:QA F8},Vals [] us->us=[]
 | _,.nil=>rfl
theorem Vals.dropLast{xs:QA V}{us:QA F8}(h:Vals xs us):Vals xs.dropLast us.dropLast:=by
 induction h with
 | nil=>exact .nil
 | cons r t ih=>
  cases t with
  | nil=>exact .nil
  | cons q t'=>exact .cons r ih
theorem og{α:Type}(l:QA α):l.eraseIdx (l.length - 1)=l.dropLast:=by
 induction l with
 | nil=>rfl
 | cons a r ih=>
  cases r with
  | nil=>rfl
  | cons b r=>
   have e:(a :: b :: r).length - 1=((b :: r).length - 1)+1:=by have h1:(a :: b :: r).length=r.length+2:=rfl;have h2:(b :: r).length=r.length+1:=rfl;lia
   rw[e,List.eraseIdx_cons_succ,ih]
   all_goals rfl
section
variable{X:Cx}{QC:QA (P6×Obj)}{σ:St}{H:Hp}{s:F4}{l b:P6}{xs ys zs:QA V}
theorem Inv.lset{its its':QA F8}{n:Nat}{f:P9 F8->P9 F8}{t':Nat}(I:Inv X QC σ H s)(hH:H l=↥xs)
  (e:s.heap.get? l=some { cls:=.type "list",data:=.seq its.toArray n }) (hf:f its.toArray=its'.toArray) (hv:Vals ys its') (hz:ys.length<=sizeLine) :
  Inv X QC σ (upd H l (.lst ys)) { s with heap:=s.heap.update l (Obj.mapSeq f),toks:=t' }:=by
 have q:=PySem.IsL.update e f;rw[hf]at q;refine I.write (x:=l) (e:=l) (by rw[hH];exact trivial) (.inl rfl) (λ b' u hb hu=>(Heap.get?_update_other s.heap (Obj.mapSeq f) (Ne.symm hb)).trans hu) %[_|q] ?_;exact%[hz,its',_,hv|q]
theorem Inv.lnew{its:QA F8}{t':Nat}(I:Inv X QC σ H s)(hv:Vals ys its)(hz:ys.length<=sizeLine) :
  Inv X QC σ (upd H s.heap.objs.size (.lst ys)) { s with heap:=s.heap.push { cls:=.type "list",data:=.seq its.toArray },toks:=t' } :=
 I.laid (λ _ _ q=>A7 _ q) (B3 _) %[hz,its,0,hv|A8 _ rfl]
theorem Inv.fresh(I:Inv X QC σ H s):H s.heap.objs.size=none:=I.hok.fresh (B3 _)
theorem Inv.lstM(I:Inv X QC σ H s)(hH:H l=↥xs):xs.length<=sizeLine/\∃(its:QA F8)(n:Nat),Vals xs its/\xs.length=its.length/\s.heap.get? l=some { cls:=.type "list",data:=.seq its.toArray n }:=by obtain⟨z,its,n,r,e⟩:=I.hok l _ hH;exact%[z,its,n,r,r.length|e]
theorem uR{n:Nat}(h:n<=sizeLine):Builtin.List.listTooLong n=false:=by unfold Builtin.List.listTooLong;exact B1 ⋯
end
section
variable{X:Cx}
inductive rAppend(x:V)(vs:QA V)(H:Hp)(Q:VK):Prop
|mk(l:P6)(xs:QA V)(y:V)(_:x=.ref l)(_:vs=[y])(_:H l=↥xs)(_:xs.length < sizeLine)(_:Q .non (upd H l (.lst (xs ++ [y]))))
theorem dj:MtM X "list.append" rAppend:=by intro QC s σ H x vs v us Q I rx rv h;obtain⟨l,xs,y,rfl,rfl,hH,hz,q⟩:=h;cases rx;obtain⟨u,rfl,ru⟩:=rv.one;obtain⟨z,its,n,r,hl,e⟩:=I.lstM hH;refine call_meets F.slot_list_append %[_,e|Y] F.entry_list_append (F.args_list_append_2 _ _) (PySem.list_append l its.toArray n u (by rw[G7];lia)) %[e|?_];refine%[.non,_,I.lset (its':=its ++ [u]) hH e (by simp) (r.append (.cons ru .nil)) ?_,Y|q];rw[G6,List.length_singleton];lia
def xR:V->QA V->Hp->VK->Prop:=λ x vs H Q=>∃l b xs zs,x=.ref l/\vs=[.ref b]/\H l=↥xs/\H b=↥zs/\xs.length+zs.length<=sizeLine/\Q .non (upd H l (.lst (xs ++ zs)))
theorem dX:MtM X "list.extend" xR:=by
 intro QC s σ H x vs v us Q I rx rv h;obtain⟨l,b,xs,zs,rfl,rfl,hH,hB,hz,q⟩:=h;cases rx;obtain⟨u,rfl,ru⟩:=rv.one;cases ru;obtain⟨z,its,n,r,hl,e⟩:=I.lstM hH;obtain⟨z2,its2,n2,r2,hl2,e2⟩:=I.lstM hB;have hsz:its.toArray.size+its2.toArray.size<=sizeLine:=by rw[G7,G7];lia
 have hlong:¬ (!its.toArray.isEmpty && Builtin.List.listTooLong (its.toArray.size+its2.toArray.size))=true:=by rw[uR hsz,M0];exact B2
 refine call_meets F.slot_list_extend %[_,e|Y] F.entry_list_extend (F.args_list_extend_2 _ _)
  (AutoSeq1.list_extend_list_list_0 l its.toArray n b its2.toArray n2 hlong (by rw[G7];lia) ⋯) %[e,e2|?_]
 refine%[.non,_,I.lset (its':=its ++ its2) hH e (by simp) (r.append r2) ?_,Y|q];rw[G6];lia
def Nd:V->QA V->Hp->VK->Prop:=λ x vs H Q=>∃l xs y,x=.ref l/\vs=[]/\H l=↥xs/\xs[xs.length - 1]?=some y/\Q y (upd H l (.lst xs.dropLast))
theorem jz:MtM X "list.pop" Nd:=by
 intro QC s σ H x vs v us Q I rx rv h;obtain⟨l,xs,y,rfl,rfl,hH,hy,q⟩:=h;cases rx;have hus:=rv.zero;subst hus;obtain⟨z,its,n,r,hl,e⟩:=I.lstM hH;obtain⟨u,hu,ru⟩:=r.get hy;have hy':its.toArray[its.toArray.size - 1]?=some u:=by show its.toArray[its.length - 1]?=some u;rw[<- N6,<- hl];exact hu
 refine call_meets F.slot_list_pop %[_,e|Y] F.entry_list_pop (F.args_list_pop_1 _) (MeetsSeq.list_pop_last l its.toArray n u hy' (by rw[G7];lia)) %[e|?_];refine%[y,_,I.lset (its':=its.dropLast) hH e ?_ r.dropLast ?_,ru|q]
 ·show its.toArray.eraseIdxIfInBounds (its.toArray.size - 1)=its.dropLast.toArray;rw[G7,List.eraseIdxIfInBounds_toArray,og]
 ·rw[List.length_dropLast];lia
inductive rCat(x:V)(y:V)(H:Hp)(Q:VK):Prop
|mk(l b:P6)(xs zs:QA V)(_:x=.ref l)(_:y=.ref b)(_:H l=↥xs)(_:H b=↥zs)(_:xs.length+zs.length<=sizeLine)(_:∀p,H p=none->Q (.ref p) (upd H p (.lst (xs ++ zs))))
theorem uS:OpR X (binaryOp .Add) rCat:=by
 intro QC s σ H x y v u Q I rx ry h;obtain⟨l,b,xs,zs,rfl,rfl,hH,hB,hz,q⟩:=h;cases rx;cases ry;obtain⟨z,its,n,r,hl,e⟩:=I.lstM hH;obtain⟨z2,its2,n2,r2,hl2,e2⟩:=I.lstM hB;refine PySem.P.add_list e e2 ?_ (by rw[G7,G7];lia);have ea:its.toArray ++ its2.toArray=(its ++ its2).toArray:=by simp
 rw[ea];exact%[.ref _,_,I.lnew (t':=s.toks) (r.append r2) (by rw[G6];lia),Y|q _ I.fresh]
end
end L2
namespace Att
open PySem PySem.W PySem.Calls PyProof.Rows
theorem iW{P:Params}{h:Heap}:∀(ns:QA Int)(vs:QA F8),WellAll P h vs (ns.map WData.int)->IntsAre vs ns:=by
 intro ns
 induction ns with
 | nil=>
  intro vs w;rw[O4]at w;cases w;exact .nil
 | cons n ns ih=>
  intro vs w;rw[J0]at w;cases w with
  | cons a b=>
   cases a;exact .cons _ _ (ih _ b)
theorem rZ{l:OpenLaw}{n:Nat}(hn:l.most=some n){P:Params}{h:Heap}{args:QA WData}{vals:QA F8}
  (hpre:l.row.toRowW.claim.pre args=true) (hwl:WellAll P h vals args) :
  ∃a vs ns,vals=[Value.ref a]/\args=[WData.list (ns.map WData.int)]/\h.get? a=some { cls:=.type "list",data:=.seq vs.toArray }/\IntsAre vs ns/\ns.length<=n:=by
 have hsh:WShape.hasAll [] args [.list .int]=true:=(pre_splitW hpre).1;have hc:l.pre.holds [] { args:=args }=true:=(pre_splitW hpre).2;obtain⟨d,r,rfl,h1,h2⟩:=hasAllW_cons hsh;obtain rfl:=hasAllW_nil h2;obtain⟨xs,rfl,h3⟩:=hasW_list h1;obtain⟨ns,rfl⟩:=items_int h3;have QE:ns.length<=n:=by
  unfold OpenLaw.pre at hc;have h4:(WTm.not (.lt (.lit (.int (n:Int))) (.len (.arg 0)))).holds [] { args:=[.list (ns.map .int)] }=true:=by have h4:=(holds_andW hc).1;rw[hn]at h4;exact h4
  have h5:=condW_of h4 (w_not (w_lt w_lit (w_len_list (w_arg rfl))));rw[G4]at h5;refine Nat.le_of_not_lt λ q=>?_;have q':(n:Int) < ((ns.length:Nat):Int):=⋯
  first
   | (rw[QG q']at h5;exact absurd h5 ∅)
   | (simp at h5;lia)
 cases hwl with
 | cons w1 w2=>
  cases w2;cases w1 with
  | list ho hall=>exact%[_,_,ns,Y,Y,ho,iW ns _ hall|QE]
theorem sj(l:OpenLaw)(args:QA WData):l.row.toRowW.claim.post args (.bool true) args=true :=
 postW_of (r:=l.row.toRowW) (X:=(true == true))
  (show WShape.has [] (.bool true) .bool=true by first | rfl | decide | simp[WShape.has,WShape.arms,WShape.armsAll])
  (show(WTm.eq .res (.lit (.bool true))).value [] { args:=args,res:=some (.bool true),after:=args }=some (.bool (true == true))from w_eq_bool (w_res rfl) w_lit) rfl
theorem attach_call{l:OpenLaw}{n:Nat}{q:F5}{loose:QA Str}{XP:(Str->P8 F8)->Heap->Prop}{YP:F7->Heap->Prop}{d:DefRec}
  (hn:l.most=some n) (hdf:d.params.defaults=[])
  (call:∀(w:F7)(s₀ s₁:F4)(mg mb:Str->P8 F8)(fa:P6)(o:Obj)(pm cd doc:F8)(a:P6)(vs:QA F8)(ns:QA Int),
   Ground q loose [] XP w s₀ mg mb s₁.heap->YP w s₁.heap ->
   s₁.heap.get? fa=some o->o.data=.func (docDef d.name d.params d.body d.scope pm cd doc)->s₁.heap.CodeRec cd d.name->mg d.name=↑fa ->
   s₁.heap.get? a=some { cls:=.type "list",data:=.seq vs.toArray }->IntsAre vs ns->ns.length<=n->s₁.gens=#[] ->
   codeAny (model l.prog w) callerA (.call (.ref fa) %[[.ref a]|[]]) (λ r s'=>r=.ok (.ret (.bool true))/\OldK s₁.heap s'.heap/\s'.os=s₁.os/\AllBare s'.gens) s₁) :
  WalkO q loose XP YP l.row.toRowW d [] (λ f vs=>PySem.call f vs):=by
 intro w s₀ s₁ mg mb G YY0 fa o pm cd doc dV kV ho hd hcd hD hmg hg args vals as hpre hlay hrd hwl hlo;obtain rfl:dV=.none:=Dflts.none hD hdf;obtain rfl:kV=.none:=Dflts.noKw hD;obtain⟨a,vs,ns,rfl,rfl,hobj,hints,QE⟩:=rZ hn hpre hwl;refine enter_call (codeAny_mono (call w s₀ s₁ mg mb fa o pm cd doc a vs ns G YY0 ho (fd_plain hd) hcd hmg hobj hints QE hg) λ r s' hq=>?_);obtain⟨rfl,h2,h3,h4⟩:=hq;exact%[.inl %[.bool true,.bool true,[],Y,λ _=>rfl,.bool true,sj l _|λ _=>%[List.Pairwise.nil|λ _ hm=>(nomatch hm)]],h2,h3|h4]
section
variable{prog:F5}{w:F7}{A:Around}{E:F8->F4->Prop}{s:F4}{K:Frag}
def Nf(h:Heap)(L d:P6):QA (P6×Obj):=(List.range h.objs.size).filterMap λ a=>if a=L\/a=d then none else(h.get? a).map λ o=>(a,o)
end
end Att
namespace L2
open PySem PySem.Spec PyProof.Rows
theorem kM:∀{vs:QA F8}{ns:QA Int},IntsAre vs ns->Vals (ns.map V.int) vs
 | _,_,.nil=>.nil
 | _,_,.cons n t h=>.cons %[t|Y] (kM h)
def Am(H:Hp):Prop:=∀b,H b=none\/∃o xs,H b=some (.frz o (.lst xs))
theorem uT{P:F5}{w:F7}{K:C4}{mg mb:Str->P8 F8}{CX:CXT}{k:Nat}{fa a:P6}{fd:F6}{x:Str}{sp:Sp}{s₁:F4}{vs:QA F8}{ns:QA Int}
  (KX:K.In s₁.heap) (hns:s₁.heap.Ns QB mg) (hb:s₁.heap.Ns builtinsNs mb) (hbb:∀x:Str,x ≠ "__name__" -> mb x=bootBuiltins x) (hlim:s₁.heap.NoLimit) (hg:s₁.gens=#[])
  (ha:s₁.heap.get? a=some { cls:=.type "list",data:=.seq vs.toArray }) (hi:IntsAre vs ns) (hl:ns.length<=sizeLine) (hr:Room k callerA)
  (F:∀base:Heap,K.In base->base.Ns QB mg->FnOk P w K mg base CX k fa fd [x] sp) (hbind:∀(s:F4)(u:F8),BindsTo s fd %[[u]|[]] [(x,u)])
  (hsp:∀H:Hp,Am H->SqL K H a (ns.map V.int)->sp [.ref a] H (λ v _=>v=.bl true) λ _ _ _=>False)
  (hCX:∀H e s',CX [] H s₁ (λ _ _ _=>False) e s'->False) :
  codeAny (model P w) callerA (.call (.ref fa) %[[.ref a]|[]]) (λ r s'=>r=.ok (.ret (.bool true))/\OldK s₁.heap s'.heap/\s'.os=s₁.os/\AllBare s'.gens) s₁:=by
 have rv:=kM hi;have lenV:=hi.length;have core:∀H:Hp,Am H->SqL K H a (ns.map V.int)->HOk P w H s₁.heap->(∀b,H b≠none->b=a)->(H a≠none->K.lookup a=none) ->
   codeAny (model P w) callerA (.call (.ref fa) %[[.ref a]|[]]) (λ r s'=>r=.ok (.ret (.bool true))/\OldK s₁.heap s'.heap/\s'.os=s₁.os/\AllBare s'.gens) s₁:=by
  intro H hO hS hok hA hK;have base_of:∀{b:P6}{o:Obj},s₁.heap.get? b=some o->H b=none->(lj s₁.heap H).get? b=some o:=λ e n=>ux e n;have noA:∀{b:P6}{o:Obj}{es:P9 DictEntry}{ep:Nat},s₁.heap.get? b=some o->o.data=.dict es ep->H b=none:=λ {b o es ep} e d=>by
   cases q:H b with
   | none=>rfl
   | some u=>
    have e':b=a:=hA b (by rw[q];simp);subst e';rw[ha]at e;cases e;have d':Data.seq vs.toArray _=Data.dict es ep:=d;cases d'
  have nsK:∀{b:P6}{m:Str->P8 F8},s₁.heap.Ns b m->(lj s₁.heap H).Ns b m:=λ {b m} ⟨o,es,ep,e,d,r⟩=>%[o,es,ep,base_of e (noA e d),d|r]
  have hKb:K.In (lj s₁.heap H):=λ b o e=>base_of (KX b o e) (by
   cases q:H b with
   | none=>rfl
   | some u=>
    have e':b=a:=hA b (by rw[q];simp);subst e';rw[hK (by rw[q];simp)]at e;cases e)
  have hM:Mod K mg (lj s₁.heap H):=%[hKb,nsK hns,%[mb,nsK hb|hbb]|let ⟨mc,h1,h2⟩:=hlim;%[mc,nsK h1|h2]]
  have e0:Env0 P w K mg (lj s₁.heap H) callerA [] s₁ H:=%[Y,hM,λ b o e=>xA e,Nat.le_of_eq (rR _ _),trivial,λ b hb=>absurd (show b∈([]:QA P6)from hb) (by simp),hok|.of_eq hg]
  refine codeAny_mono ((F _ hKb (nsK hns)).run callerA [] s₁ H %[[.ref a]|[]] [.ref a] [.ref a] _ _ hr e0 (hbind s₁ (.ref a)) (.cons rfl .nil) (hsp H hO hS)) λ r s' h=>?_;cases r with
  | error e=>exact(hCX H e s' h).elim
  | ok fl=>
   cases fl with
   | next=>exact E5 h
   | brk=>exact E5 h
   | cont=>exact E5 h
   | ret u=>
    obtain⟨v,H',os,bare,un,hok',r',q⟩:=h;have q':v=.bl true:=q;subst q';obtain rfl:u=Value.bool true:=r';refine%[Y,OldK.of_keep λ b o e=>?_,os|bare];cases q:H b with
    | none=>exact un.keep b o e q (by intro z;exact absurd (show b∈([]:QA P6)from z) (by simp)) (by simp)
    | some u=>
     rcases hO b with z | ⟨ob,xs,z⟩
     ·rw[q]at z;cases z
     ·have z2:=un.frzs b ob _ z;obtain⟨e1,_⟩:=hok b _ z;obtain⟨e2,_⟩:=hok' b _ z2;rw[e]at e1;cases e1;exact e2
 cases hk:K.lookup a with
 | some o=>
  have e:=KX a o hk;rw[ha]at e;cases e;refine core (λ _=>none) (λ _=>.inl rfl) (.inr %[_,vs.toArray,_,hk,Y,Y,Y,by rw[G7,lenV];exact hl|by simpa using rv]) (λ b u z=>by have z':(none:P8 HO)=some u:=z;cases z') (λ b z=>absurd rfl z) λ z=>absurd rfl z
 | none=>
  refine core (λ b=>if b=a then some (.frz { cls:=.type "list",data:=.seq vs.toArray } (.lst (ns.map V.int)))else none) (λ b=>?_) (.inl (.inr %[{ cls:=.type "list",data:=.seq vs.toArray }|QI rfl])) (λ b u z=>?_) (λ b z=>?_) λ _=>hk
  ·by_cases hb:b=a
   ·exact .inr %[_,_|QI hb]
   ·exact .inl (QH hb)
  ·by_cases hb:b=a
   ·have z':=(QI hb).symm.trans z;cases z';subst hb;exact%[ha,by rw[G4];exact hl,vs,_,rv|ha]
   ·have z':=(QH hb).symm.trans z;cases z'
  ·by_cases hb:b=a
   ·exact hb
   ·exact absurd (QH hb) z
theorem walk_of{l:PySem.W.OpenLaw}{n k:Nat}{q:F5}{loose:QA Str}{XP:(Str->P8 F8)->Heap->Prop}{YP:F7->Heap->Prop}{d:DefRec}{K:Params->C4}{CX:F7->CXT}{sp:F7->Sp}{x:Str}
  (hn:l.most=some n) (hn2:n<=sizeLine) (hdf:d.params.defaults=[]) (hr:Room k callerA)
  (hY:∀(w:F7)(h:Heap),YP w h->(K w.params).In h)
  (F:∀(w:F7)(mg:Str->P8 F8)(fa:P6)(h:Heap),(K w.params).In h->h.Ns QB mg->mg d.name=↑fa ->
   ∃fd:F6,(∀(s:F4)(u:F8),BindsTo s fd %[[u]|[]] [(x,u)]) /\
    ∀base:Heap,(K w.params).In base->base.Ns QB mg->FnOk l.prog w (K w.params) mg base (CX w) k fa fd [x] (sp w))
  (hsp:∀(w:F7)(H:Hp)(a:P6)(ns:QA Int),ns.length<=n->Am H->SqL (K w.params) H a (ns.map V.int)->sp w [.ref a] H (λ v _=>v=.bl true) λ _ _ _=>False)
  (hCX:∀(w:F7)(H:Hp)(s:F4)(e:F8)(s':F4),CX w [] H s (λ _ _ _=>False) e s'->False) :
  PySem.W.WalkO q loose XP YP l.row.toRowW d [] (λ f vs=>PySem.call f vs):=by
 refine Att.attach_call hn hdf λ w s₀ s₁ mg mb fa o pm cd doc a vs ns G YY0 ho hd hcd hmg hobj hints QE hg=>?_;have KX:=hY w _ YY0;obtain⟨fd,hb,hF⟩:=F w mg fa _ KX G.T.g hmg;exact uT KX G.T.g G.T.b G.T.builtins G.T.nolimit hg hobj hints (C5 QE hn2) hr hF hb (λ H hO hS=>hsp w H a ns QE hO hS) λ H e s'=>hCX w H s₁ e s'
def inClass(s:Stmt)(j:Nat):Stmt:=match s with
 | .ClassDef _ _ _ body _ _ _ _ _ _ _=>body.getD j (.Pass %[0,0,0|0])
 | _=>.Pass %[0,0,0|0]
def defArgs(s:Stmt):Arguments:=match s with
 | .FunctionDef _ a _ _ _ _ _ _ _ _=>a
 | _=>{ posonlyargs:=[],args:=[],vararg:=none,kwonlyargs:=[],kw_defaults:=[],kwarg:=none,defaults:=[] }
def defBody(s:Stmt):QA Stmt:=match s with
 | .FunctionDef _ _ b _ _ _ _ _ _ _=>b
 | _=>[]
def defScope(s:Stmt):Scope:=match s with
 | .FunctionDef _ _ _ _ _ _ sc _ _ _=>sc
 | _=>{ kind:=.function,names:=[],isGenerator:=false,isCoroutine:=false }
abbrev CX0:CXT:=λ _ _ _ _ _ _=>False
abbrev E0:XK:=λ _ _ _=>False
theorem qF{X:Cx}:gB CX0 X E0:=λ _ _ _ _ _ _ _ h=>h.elim
structure Fun(K:C4)(x qual:Str)(st:Stmt)(f:P6)(fd:FuncData):Prop where
 ex:∃(oc:F8)(od:P8 P6)(kV doc pm:F8)(an:P8 P6)(cdv ct:F8)(osl:P9 (P8 F8)),
  fd=E4 x qual (defArgs st) (defBody st) (defScope st) .none kV doc pm an cdv ct/\K.lookup f=some %[oc,od,.func fd|osl]/\PySem.W.codeIn K cdv qual=true
 kp:PySem.W.keepIn K (.ref f)=true
section
variable{P:F5}{w:F7}{K:C4}{mg:Str->P8 F8}{base:Heap}
theorem Fun.ok{x qual:Str}{st:Stmt}{f:P6}{fd:F6}{N ps:QA Str}{k:Nat}{sp:Sp}(F:Fun K x qual st f fd)(S:FnScope N ps (defScope st))(len:∀vs H Q E,sp vs H Q E->vs.length=ps.length)
  (hbody:∀(cdv:F8)(A:Around)(outer:QA Env)(s:F4)(H:Hp)(vs:QA V)(Q:VK)(E:XK),Room k (A.deeper (envOfC qual (defScope st) s.heap.objs.size f cdv))->sp vs H Q E ->
   ∃t,PSs (nW CX0 P w K mg base N qual (defScope st) f cdv A outer s H E).nox (defBody st) t/\t { nx:=λ _ H'=>Q .non H',rt:=Q } (iO N vs) H):FnOk P w K mg base CX0 (k+1) f fd ps sp:=by
 obtain⟨oc,od,kV,doc,pm,an,cdv,ct,osl,rfl,lk,hcd⟩:=F.ex;refine Gm lk hcd S len λ A outer s H vs Q E hr hsp=>?_;obtain⟨t,h,q⟩:=hbody cdv A outer s H vs Q E hr hsp;exact%[t,h.nox|q]
theorem Fun.binds{x qual:Str}{st:Stmt}{f:P6}{fd:F6}{ps:QA Str}(F:Fun K x qual st f fd)
  (h:∀(kV doc pm:F8)(an:P8 P6)(cdv ct:F8)(us:QA F8),us.length=ps.length->bindArgs (E4 x qual (defArgs st) (defBody st) (defScope st) .none kV doc pm an cdv ct) %[us|[]]=pure (ps.zip us)):Binds K fd ps []:=by
 obtain⟨oc,od,kV,doc,pm,an,cdv,ct,osl,rfl,lk,hcd⟩:=F.ex;exact .all (h kV doc pm an cdv ct)
theorem oh{x qual:Str}{st:Stmt}{f:P6}{oc:F8}{od an:P8 P6}{osl:P9 (P8 F8)}{kV doc pm cdv ct:F8}(l:K.lookup f=some %[oc,od,.func (E4 x qual (defArgs st) (defBody st) (defScope st) .none kV doc pm an cdv ct)|osl])
  (c:PySem.W.codeIn K cdv qual=true) (k:PySem.W.keepIn K (.ref f)=true):Fun K x qual st f (E4 x qual (defArgs st) (defBody st) (defScope st) .none kV doc pm an cdv ct):=%[%[oc,od,kV,doc,pm,an,cdv,ct,osl,Y,l|c]|k]
end
section
variable{X:Cx}
theorem pv(i:Nat){x:Str}{pos:Pos}(hN:X.N[i]?=some x:=by rfl)(hv:Vis X.env.scope x:=by first | exact Or.inl rfl | exact Or.inr (Or.inl rfl) | exact Or.inr (Or.inr rfl))(hd:(x == ("__debug__" : Str))=false:=by decide)
  (hcd:(x == ("__classdict__" : Str))=false:=by decide):PE X (.Name x pos) (tVar i):=Ab hN hv hd hcd
end
theorem aP{A B:Prop}(h:B):if false=true then A else B:=by rw[QH B2];exact h
theorem aW{A B:Prop}(h:A):if true=true then A else B:=by rw[QI rfl];exact h
theorem dv{c A B:Prop}[Decidable c](h1:c->A)(h2:¬ c->B):if c then A else B:=by
 by_cases h:c
 ·rw[QI h];exact h1 h
 ·rw[QH h];exact h2 h
def Same(H H':Hp):Prop:=∀b o,H b=some o->H' b=some o
theorem Same.refl(H:Hp):Same H H:=λ _ _ h=>h
theorem Same.trans{H H1 H2:Hp}(a:Same H H1)(b:Same H1 H2):Same H H2:=λ c o h=>b c o (a c o h)
theorem Same.free{H H':Hp}(e:Same H H'){l:P6}(h:H' l=Option.none):H l=Option.none:=by
 cases q:H l with
 | none=>rfl
 | some o=>
  rw[e l o q]at h;cases h
theorem Same.seq{K:C4}{H H':Hp}{a:P6}{xs:QA V}(e:Same H H')(h:SqL K H a xs):SqL K H' a xs:=by
 rcases h with(h | ⟨o,h⟩) | h
 ·exact .inl (.inl (e _ _ h))
 ·exact .inl (.inr %[o|e _ _ h])
 ·exact .inr h
def cz(env:Env):QA (Str×NameKind)->QA (Str×P6)->QA (Str×P6)
 | [],acc=>acc
 | (n,k) :: r,acc=>cz env r (if (k == NameKind.free)=true then(n,(env.cells.lookup n).getD 0) :: acc else acc)
theorem eE(env:Env):∀(names:QA (Str×NameKind))(acc:QA (Str×P6))(x:Str)(c:P6),(∀y∈names,y.2=.free->∃c,env.cells.lookup y.1=some c) ->
  (∀x c,acc.lookup x=some c->env.cells.lookup x=some c)->(cz env names acc).lookup x=some c->env.cells.lookup x=some c
 | [],acc,x,c,_,h,e=>h x c e
 | (n,k) :: r,acc,x,c,hf,h,e=>by
  refine eE env r _ x c (λ y hy=>hf y (B4 _ hy)) (λ x c e'=>?_) e
  by_cases hk:(k == NameKind.free)=true
  ·rw[QI hk]at e';obtain⟨c0,hc0⟩:=hf (n,k) B7 (by simpa using hk);have hc0':env.cells.lookup n=some c0:=hc0;rw[M5]at e';cases hx:x == n with
   | true=>
    rw[hx]at e';have:x=n:=by simpa using hx
    subst this;rw[hc0']at e' ⊢;simpa using e'
   | false=>rw[hx]at e';exact h x c e'
  ·rw[QH hk]at e';exact h x c e'
theorem jA(env:Env):∀(names:QA (Str×NameKind))(acc:QA (Str×P6))(x:Str),(∃c,acc.lookup x=some c)->∃c,(cz env names acc).lookup x=some c
 | [],acc,x,h=>h
 | (n,k) :: r,acc,x,h=>by
  refine jA env r _ x ?_
  by_cases hk:(k == NameKind.free)=true
  ·rw[QI hk,M5];cases hx:x == n with
   | true=>exact%[_|Y]
   | false=>exact h
  ·rw[QH hk];exact h
theorem ix(env:Env):∀(names:QA (Str×NameKind))(acc:QA (Str×P6))(x:Str),(x,NameKind.free)∈names->∃c,(cz env names acc).lookup x=some c
 | [],acc,x,h=>by simp at h
 | (n,k) :: r,acc,x,h=>by
  rcases G5.mp h with e | e
  ·have e1:x=n:=QV Prod.fst e;have e2:NameKind.free=k:=QV Prod.snd e;subst e1;subst e2;refine jA env r _ x ?_;rw[QI (by simp),M5];simp
  ·exact ix env r _ x e
theorem jB{env:Env}{scope:Scope}(hf:∀y∈scope.names,y.2=.free->∃c,env.cells.lookup y.1=some c):closureFor scope env=pure (cz env scope.names []):=by
 have key:∀(names:QA (Str×NameKind))(acc:QA (Str×P6)),(∀y∈names,y.2=.free->∃c,env.cells.lookup y.1=some c) ->
   (forIn names acc (λ (x:Str×NameKind)(r:QA (Str×P6))=>(if (x.2 == NameKind.free)=true then do
    let a<-cellOf env x.1
    pure (ForInStep.yield ((x.1,a) :: r))else pure (ForInStep.yield r)) ):Sem (QA (Str×P6)))=pure (cz env names acc):=by
  intro names
  induction names with
  | nil=>intro acc _;rfl
  | cons y r ih=>
   intro acc h;obtain⟨n,k⟩:=y;have ih':=λ acc=>ih acc λ z hz=>h z (B4 _ hz);rw[List.forIn_cons]
   by_cases hk:(k == NameKind.free)=true
   ·obtain⟨c,hc⟩:=h (n,k) B7 (by simpa using hk);have hc':env.cells.lookup n=some c:=hc;have e1:cellOf env n=pure c:=by unfold cellOf;rw[hc']
    have e2:cz env ((n,k) :: r) acc=cz env r ((n,c) :: acc):=by show cz env r _=_;rw[QI hk,hc'];rfl
    rw[QI hk,e2,<- ih'];show((cellOf env n >>= λ a=>pure (ForInStep.yield ((n,a) :: acc))) >>= _)=_;rw[e1]
    rfl
   ·have e2:cz env ((n,k) :: r) acc=cz env r acc:=by show cz env r _=_;rw[QH hk]
    rw[QH hk,e2,<- ih']
    rfl
 have:=key scope.names [] hf;simp only[closureFor];exact(QV (λ m=>m >>= λ r=>(pure r:Sem _)) this).trans rfl
theorem lE{env:Env}{scope:Scope}(hcell:∀y∈scope.names,y.2≠.cell){x:Str}:((relabel scope env).names.lookup x=some .cell\/(relabel scope env).names.lookup x=some .free)->(x,NameKind.free)∈scope.names:=by
  have key:∀names:QA (Str×NameKind),(∀y∈names,y.2≠.cell)->∀k,(names.map λ(n,k)=>if (k == NameKind.free && env.scope.kind == .function && env.kindOf n == some .cell)then(n,NameKind.cell)else(n,k)).lookup x=some k ->
      (k=.cell\/k=.free)->(x,NameKind.free)∈names:=by
    intro names
    induction names with
    | nil=>intro _ k h _;simp at h
    | cons y r ih=>
      obtain⟨n,k'⟩:=y;intro hc k h hk;have nc:k'≠.cell:=hc (n,k') B7;rw[J0]at h
      by_cases hb:(k' == NameKind.free && env.scope.kind == .function && env.kindOf n == some .cell)=true
      . have hb':k'=.free:=by simp at hb;exact hb.1.1
        dsimp only at h;rw[QI hb,M5]at h;cases hx:x == n with
        | true=>have:x=n:=(by simpa using hx);subst this;subst hb';exact B7
        | false=>rw[hx]at h;exact B4 _ (ih (λ y hy=>hc y (B4 _ hy)) k h hk)
      . dsimp only at h
        rw[QH hb,M5]at h;cases hx:x == n with
        | true=>
          rw[hx]at h;have:x=n:=by simpa using hx
          subst this;have e:k'=k:=by simpa using h
          rcases hk with q | q
          . exact absurd (e.trans q) nc
          . rw[e,q];exact B7
        | false=>rw[hx]at h;exact B4 _ (ih (λ y hy=>hc y (B4 _ hy)) k h hk)
  rintro(h | h)
  . exact key _ hcell _ h (.inl rfl)
  . exact key _ hcell _ h (.inr rfl)
def cK(X:Cx)(QC:QA (P6×Obj))(s2:F4)(H2:Hp)(scope:Scope)(C:P6)(N':QA Str)(fp:QA P6):Cx where
 prog:=X.prog
 w:=X.w
 K:=X.K
 mg:=X.mg
 base:=X.base
 A:=X.A
 N:=N'
 s₀:=s2
 H₀:=H2
 env:=compEnvC scope (cz X.env scope.names []) C X.env
 outer:=X.stack
 stack:=X.stack
 ex:=fp
 fn:=λ _=>false
 calm:=X.calm
 pn:=X.pn ++ QC
 xe:=λ _ _=>False
def bD(σ:St)(cap:QA Nat)(k:Nat):St:=List.replicate k none ++ cap.map λ j=>(σ[j]?).join
def leS(σ σ':St):Prop:=σ'.length=σ.length/\∀ (i:Nat) v,σ[i]?=some (some v)->σ'[i]?=some (some v)
theorem leS.set{σ:St}{i:Nat}{v:V}(h:σ[i]?=some none):leS σ (σ.set i (some v)):=by
 refine%[by simp|λ j w e=>?_]
 by_cases hj:j=i
 ·subst hj;rw[h]at e;cases e
 ·rw[List.getElem?_set_ne (Ne.symm hj)];exact e
structure CompOk(X:Cx)(scope:Scope)(own:QA Str)(cs:QA Str)(cap:QA Nat):Prop where
 kind:scope.kind=.function
 cell:∀y∈scope.names,y.2≠.cell
 names:∀y∈scope.names,y.2=.local->scope.names.lookup y.1=some .local
 free:∀y∈scope.names,y.2=.free->X.env.kindOf y.1=some .cell\/X.env.kindOf y.1=some .free
 caps:∀ (i:Nat) y,cs[i]?=some y->∃j,cap[i]?=some j/\X.N[j]?=some y/\(y,NameKind.free)∈scope.names
 ownl:∀y∈own,scope.names.lookup y=some .local
 len:cs.length=cap.length
 free2:∀y,(y,NameKind.free)∈scope.names->scope.names.lookup y=some .local->False
def uU(X:Cx)(ifs:QA Expr)(tt:TT):Prop :=
 ∀(QC:QA (P6×Obj))(s:F4)(σ:St)(H:Hp)(Q:Bool->Hp->Prop),Inv X QC σ H s->tt σ H Q ->
  wpAny (model X.prog X.w) X.A (forIn ifs true λ c r=>if r=true then do let ok<-isTrue c X.env (eval c X.env);pure (ForInStep.yield ok)else pure (ForInStep.yield r)) (TP X QC σ Q) X.xe s
def Gq:TT:=λ _ H Q=>Q true H
theorem bd{X:Cx}:uU X [] Gq:=λ _ _ _ H _ I h=>wpAny_tests_nil %[H,I|h]
theorem fB{X:Cx}{c:Expr}{tt:TT}(h:PT X c tt):uU X [c] tt:=λ QC s σ H Q I q=>wpAny_tests_one (h QC s σ H Q I q)
def eV(σ:St)(cap:QA Nat)(k:Nat)(J:It)(g:TG)(tt:TT)(te:TE)(Q:QA V->Hp->Prop)(W:Nat->Nat->QA V->Hp->Prop):Prop :=
 ∀i m ys H,W i m ys H->(J.stop i H/\ys.length<=sizeLine/\Q ys H) \/
  (J.go i H/\ys.length < sizeLine/\∀x H',J.yld i H x H'->g x (bD σ cap k) H' λ σ2 H2=>leS (bD σ cap k) σ2/\tt σ2 H2 λ ok H3=>
   if ok=true then te σ2 H3 (λ v H4=>∃m',m' < m/\W (i+1) m' (ys ++ [v]) H4)else∃m',m' < m/\W (i+1) m' ys H3)
theorem HOk.add{P:F5}{w:F7}{H:Hp}{h:Heap}{a:P6}{o:HO}(x:HOk P w H h)(n:H a=none)(new:ObjOk P w (upd H a o) h a o):HOk P w (upd H a o) h:=λ b u e=>by
 by_cases hb:b=a
 ·subst hb;rw[af]at e;cases e;exact new
 ·rw[ap hb]at e;exact(x b u e).stay (λ c v _ q=>q) (λ c q=>by rw[ap (ax q n)];exact q) λ c xs q=>by rw[ap (ax q n)];exact q
section
variable{X:Cx}{QC:QA (P6×Obj)}{σ:St}{H2:Hp}{s2:F4}{scope:Scope}{own cs:QA Str}{cap:QA Nat}{fp:QA P6}
theorem sk{h1:Heap}{C:P6}{tk:Nat}(I:Inv X QC σ H2 s2)(ok:CompOk X scope own cs cap)(hf:∀b∈fp,gL X QC H2 b)(hfl:∀b∈fp,b < s2.heap.objs.size)
  (hC:s2.heap.objs.size<=C) (hns:h1.Ns C (λ _=>none)) (old:∀b o,s2.heap.get? b=some o->h1.get? b=some o) :
  Inv (cK X QC s2 H2 scope C (own ++ cs) fp) [] (bD σ cap own.length) H2 { s2 with heap:=h1,toks:=tk }:=by
 have hfr:∀y∈scope.names,y.2=.free->∃c,X.env.cells.lookup y.1=some c:=λ y hy e=>I.ok.has y.1 (ok.free y hy e);have sub:∀x c,(cz X.env scope.names []).lookup x=some c->X.env.cells.lookup x=some c:=λ x c e=>eE X.env scope.names [] x c hfr (λ _ _ z=>by simp at z) e;have clt:∀x c,(cz X.env scope.names []).lookup x=some c->c < s2.heap.objs.size:=λ x c e=>by obtain⟨v,o,ho,_⟩:=I.cell x c (sub x c e);exact A9 ho
 refine⟨%[I.ok.mod,ok.kind,I.ok.glob,I.ok.blt,hC,λ y z c h1 h2=>I.ok.inj y z c (sub y c h1) (sub z c h2),λ y hy=>?_,λ y c z=>?_,I.ok.hd,I.ok.frames,.inl rfl,λ b hb=>?_,I.bs,C5 I.ok.bsz I.sz,λ b o e hb=>?_,λ b hb z=>?_,I.stack|I.stkFree],
  rfl,I.bare,Un.kept old,%[_,hns|λ i y v e1 e2 e3=>?_],λ y c e=>?_,I.hok.fresh hC,λ y c e=>I.freeC y c (sub y c e),λ p hp=>?_,I.hok.kept old,?_⟩
 ·have hm:=lE ok.cell hy;exact ix X.env scope.names [] y hm
 ·exact absurd (show false=true from z) B2
 ·exact%[B9 (C1 (hfl b hb) hC)|λ x c e=>(hf b hb).2.2.2.2.1 x c (sub x c e)]
 ·rcases(hf b hb).2.2.2.1 with z | z
  ·exact I.ok.noex b o e z
  ·exact absurd (C1 (A9 (I.ok.bs b o e).1) z) (C8 _)
 ·rcases G5.mp (I.stkSub b z)with q | q
  ·exact(hf b hb).2.1 q
  ·exact(hf b hb).2.2.1 q
 ·have hi:own.length<=i:=by
   refine Nat.le_of_not_lt λ q=>?_;unfold bD at e2;rw[N8 (by simpa using q),List.getElem?_replicate]at e2
   split at e2 <;> cases e2
  have e1':cs[i - own.length]?=some y:=by have e1:(own ++ cs)[i]?=some y:=e1;rwa [N4 hi]at e1
  obtain⟨j,hj,hN,hm⟩:=ok.caps _ y e1';have hk:=ok.free _ hm rfl;have e2':σ[j]?=some (some v):=by
   unfold bD at e2;rw[N4 (by simpa using hi),J8,J2,hj]at e2;have e2:(σ[j]?).join=some v:=by simpa using e2
   cases q:σ[j]? with
   | none=>rw[q]at e2;cases e2
   | some w=>rw[q]at e2;have:w=some v:=e2;rw[this]
  obtain⟨m,hn,hl⟩:=I.loc;obtain⟨u,ru,l⟩:=hl j y v hN e2' (by rcases hk with q | q;exact .inr (.inl q);exact .inr (.inr q));refine%[u,ru|.inr ?_];obtain⟨c,hc⟩:=ix X.env scope.names [] y hm;have hc':=sub y c hc;have cellu:h1.IsCell c (some u):=by
   rcases l with⟨k,_⟩ | ⟨k,c',e,o,ho,hd⟩
   ·rcases hk with q | q <;> (have z:X.env.kindOf y=_:=q;rw[k]at z;cases z)
   ·rw[hc']at e;cases e;exact%[o,old _ _ ho|hd]
  refine%[?_,c,hc|cellu];rcases e3 with z | z | z
  ·exfalso;have key:∀names:QA (Str×NameKind),True:=λ _=>trivial;have z:(relabel scope X.env).names.lookup y=some .local:=z;have zz:scope.names.lookup y=some .local:=by
    unfold relabel at z;dsimp only at z;revert z;generalize scope.names=names
    induction names with
    | nil=>intro z;simp at z
    | cons q r ih=>
     obtain⟨n,k⟩:=q;intro z;rw[J0]at z
     by_cases hb:(k == NameKind.free && X.env.scope.kind == .function && X.env.kindOf n == some .cell)=true
     ·dsimp only at z;rw[QI hb,M5]at z;rw[M5];cases hx:y == n with
      | true=>rw[hx]at z;cases z
      | false=>rw[hx]at z;exact ih z
     ·dsimp only at z;rw[QH hb,M5]at z;rw[M5];cases hx:y == n with
      | true=>rw[hx]at z;exact z
      | false=>rw[hx]at z;exact ih z
   have:=ok.free2 y hm zz;exact this
  ·exact .inl z
  ·exact .inr z
 ·obtain⟨v,o,ho,hd⟩:=I.cell y c (sub y c e);exact%[v,o,old _ _ ho|hd]
 ·have hp':p∈X.pn ++ QC:=by have:p∈(X.pn ++ QC) ++ []:=hp;simpa using this
  obtain⟨e,n,ne,nf,d⟩:=I.pin p hp';refine%[old _ _ e,n,B9 (C1 (A9 e) hC),λ z=>?_|d];rcases G5.mp (I.stkSub p.1 z)with q | q
  ·exact ne q
  ·exact nf q
 ·show(bD σ cap own.length).length=(own ++ cs).length;unfold bD;rw[G6,J8,G4,G6,ok.len]
end
section
variable{X:Cx}{QC:QA (P6×Obj)}{σ:St}{H2:Hp}{s2:F4}{scope:Scope}{own cs:QA Str}{cap:QA Nat}{fp:QA P6}{it:P6}{tn:Nat->Heap->Prop}
 {elt tg iter:Expr} {ifs:QA Expr} {pos:Pos} {J:It} {g:TG} {tt:TT} {te:TE} {E:F8->F4->Prop} {W:Nat->Nat->QA V->Hp->Prop} {Qf:QA V->Hp->Prop}
structure BlkEnd(X:Cx)(QC:QA (P6×Obj))(σ:St)(Qf:QA V->Hp->Prop)(D C:P6)(s':Shared):Prop where
 ex:∃(ys:QA V)(H':Hp),H' D=none/\Qf ys H'/\Inv X QC σ (upd H' D (.lst ys)) s'/\gL X QC (upd H' D (.lst ys)) C
 ns:∃m,s'.heap.Ns C m
theorem Inv.bareP{pins':QA (P6×Obj)}{H:Hp}{s:F4}(I:Inv X pins' σ H s):Inv X [] σ H s:=I.pins_of λ p hp=>absurd hp (by simp)
theorem mJ{RR:F8->P6->Result->F4->Prop}(I:Inv X QC σ H2 s2)(ok:CompOk X scope own cs cap)(hc:X.calm=true)(T:Turn X.prog X.w X.K tg J fp it tn)(st:tn 0 s2.heap)(hf:∀b∈fp,gL X QC H2 b)
  (hg:∀C,PG (cK X QC s2 H2 scope C (own ++ cs) fp) tg g) (hi:∀C,uU (cK X QC s2 H2 scope C (own ++ cs) fp) ifs tt) (he:∀C,PE (cK X QC s2 H2 scope C (own ++ cs) fp) elt te)
  (w0:∃m,W 0 m [] H2) (turn:eV σ cap own.length J g tt te Qf W)
  (hRR:∀D C s',BlkEnd X QC σ Qf D C s'->RR (.ref D) C (.ok .next) s') :
  wpAny (model X.prog X.w) X.A (newList []) (λ acc s₃=>wpAny (model X.prog X.w) X.A (newFunctionEnv scope X.env.globals (cz X.env scope.names []) [] X.env.qual none .none (some X.env)) (λ cenv s₄=>
   codeAny (model X.prog X.w) X.A (.compStart (.ListComp elt [%[tg,iter,ifs|0]] scope pos) 0 (.ref it) acc { cenv with scope:=relabel scope X.env }) (RR acc cenv.locals) s₄) E s₃) E s2:=by
 refine F2 (wpAny_newFunctionEnv ok.cell (by intro y hy;simp at hy) (λ h₁ hns₁ hsb₁=>?_) ok.kind);dsimp only at hns₁ hsb₁ ⊢;generalize hHH:s2.heap.push { cls:=.type "list",dict:=none,data:=.seq ([]:QA F8).toArray }=HH at hns₁ hsb₁ ⊢;have hCs:HH.objs.size=s2.heap.objs.size+1:=by rw[<- hHH,QP]
 have hDC:s2.heap.objs.size≠HH.objs.size:=by rw[hCs];exact B9 (E8 _)
 have hCle:s2.heap.objs.size<=HH.objs.size:=by rw[hCs];exact Nat.le_succ _
 have hfl:∀b∈fp,b < s2.heap.objs.size:=λ b hb=>by obtain⟨o,e,_⟩:=T.obj 0 _ st b hb;exact A9 e
 have old:∀b o,s2.heap.get? b=some o->h₁.get? b=some o:=λ b o e=>hsb₁.extBut b o (by rw[hCs];exact B9 (O0 (A9 e))) (A7 _ (hHH ▸ A7 _ e));have hacc:h₁.PlainList s2.heap.objs.size #[]:=%[_|hsb₁.extBut _ _ hDC (A7 _ (hHH ▸ A8 _ rfl))]
 generalize hD:s2.heap.objs.size=D at *;generalize hCC:HH.objs.size=C at *;have hns₁':h₁.Ns C (λ _=>none):=hns₁;have I0:Inv (cK X QC s2 H2 scope C (own ++ cs) fp) [] (bD σ cap own.length) H2 { s2 with heap:=h₁,toks:=s2.toks+([]:QA (Str×F8)).length } :=
  sk I ok hf (λ b hb=>by rw[hD];exact hfl b hb) (by rw[hD];exact hCle) hns₁' old
 have Dfs:D∉frs X.stack:=λ hb=>by obtain⟨_,o,ho,_⟩:=I.stack.mem hb;exact absurd (A9 ho) (by rw[hD];exact C8 _)
 have Dfp:∀b∈fp,D≠b:=λ b hb z=>absurd (hfl b hb) (by rw[<- z];exact C8 _);have clt:∀x c,(cz X.env scope.names []).lookup x=some c->c < D:=λ x c e=>by have e':=eE X.env scope.names [] x c (λ y hy e=>I.ok.has y.1 (ok.free y hy e)) (λ _ _ z=>by simp at z) e;obtain⟨v,o,ho,_⟩:=I.cell x c e';have:=A9 ho;rw[hD]at this;exact this
 have plt:∀p∈X.pn ++ QC,p.1 < D:=λ p hp=>by have:=A9 (I.pin p hp).1;rw[hD]at this;exact this
 have stat:∀{H':Hp}{ob:Obj},(∀b∈fp,H' b=none)->∀b∈fp,gL (cK X QC s2 H2 scope C (own ++ cs) fp) [(D,ob)] H' b:=λ {H' ob} hn b hb=>by
  have q:=I0.ok.exf b hb;refine%[hn b hb,q.1,I0.ok.exfs b hb,.inl hb,q.2|λ p hp=>?_];rcases C2.mp hp with z | z
  ·exact(hf b hb).2.2.2.2.2 p z
  ·have:p=(D,ob):=by simpa using z
   subst this;exact Dfp b hb
 have loop:codeAny (model X.prog X.w) X.A (.compLoop (.ListComp elt [%[tg,iter,ifs|0]] scope pos) 0 (.ref it) (.ref D) (compEnvC scope (cz X.env scope.names []) C X.env)) (RR (.ref D) C)
   { s2 with heap:=h₁,toks:=s2.toks+([]:QA (Str×F8)).length }:=by
  obtain⟨m0,w0⟩:=w0;refine codeAny_loop rfl (λ n s'=>∃i H' its ys,Inv (cK X QC s2 H2 scope C (own ++ cs) fp) [] (bD σ cap own.length) H' s'/\tn i s'.heap/\(∀b∈fp,H' b=none)/\s'.heap.PlainList D its.toArray/\Vals ys its/\H' D=none/\W i n ys H') ?_ m0
   %[0,H2,[],[],I0,T.keep 0 _ _ st λ b _ o e=>old b o e,λ b hb=>(hf b hb).1,hacc,.nil,I.hok.fresh (by rw[hD];exact B3 _)|w0]
  rintro n s3 ⟨i,H3,its,ys,I3,st3,fr3,⟨nn,pl3⟩,rv3,hD3,w3⟩;show wpAny _ X.A ((compTurn (.ListComp elt [%[tg,iter,ifs|0]] scope pos) 0 (.ref it) (.ref D) (compEnvC scope (cz X.env scope.names []) C X.env)).onRaise (λ x=>do noteFrame x (compEnvC scope (cz X.env scope.names []) C X.env);theTreesLotGoes x)) _ _ s3;refine wpAny_noted ?_;rw[compTurn_list];refine A0 (wpAny_standAt (A0 ?_));have I3':Inv (cK X QC s2 H2 scope C (own ++ cs) fp) [(D,{ cls:=.type "list",data:=.seq its.toArray nn })] (bD σ cap own.length) H3 s3 :=
   I3.pins_of λ p hp=>by
    have:p=(D,{ cls:=.type "list",data:=.seq its.toArray nn }):=by simpa using hp
    subst this;exact%[pl3,hD3,hDC,Dfs|λ v z=>by cases z]
  rcases turn i n ys H3 w3 with⟨stop,hz,qf⟩ | ⟨go,hz,step⟩
  ·refine thn (T.done (cK X QC s2 H2 scope C (own ++ cs) fp) rfl rfl rfl hc i _ s3 _ H3 _ I3' (stat fr3) st3 stop) ?_;rintro r s4 ⟨hr,I4⟩;subst hr;refine A2 (hRR D C s4 %[%[ys,H3,hD3,qf,?_|?_]|?_])
   ·have pl4:=(I4.pin (D,_) (A5 _ (C9.mpr rfl))).1;have u4:=I4.base;have Ds2:s2.heap.get? D=none:=Heap.get?_none_of_le (by rw[hD];exact B3 _);refine I.call' (s':=s4) (ch:=fp) I4.os %[u4.keep,u4.slot,λ b o e n hx=>?_,u4.there,λ b xs e=>?_,λ b o u e=>?_|λ b ps e=>?_] ?_ I4.bare λ b hb=>%[(hf b hb).2.2.2.1,(hf b hb).2.1,(hf b hb).2.2.2.2.1|(hf b hb).2.2.2.2.2]
    ·rw[ap (λ z=>by rw[z,Ds2]at e;cases e)];exact u4.free b o e n hx
    ·have:=u4.tups b xs e;rw[ap (ax this hD3)];exact this
    ·have:=u4.frzs b o u e;rw[ap (ax this hD3)];exact this
    ·obtain⟨more,e'⟩:=u4.tbls b ps e;exact%[more|by rw[ap (ax e' hD3)];exact e']
    ·exact I4.hok.add hD3 %[hz,its,nn,rv3|pl4]
   ·have CH:(upd H3 D (.lst ys)) C=none:=by rw[ap (Ne.symm hDC)];exact I4.free
    exact I.fpOk (H':=upd H3 D (.lst ys)) (by rw[hD];exact hCle) CH
   ·obtain⟨m,hn,_⟩:=I4.loc;exact%[m|hn]
  ·refine thn (T.item (cK X QC s2 H2 scope C (own ++ cs) fp) rfl rfl rfl hc i _ s3 _ H3 _ I3' (stat fr3) st3 go) ?_;rintro r s4 ⟨u,hr,h4⟩;subst hr;refine A0 (thn h4 ?_);rintro _ s5 ⟨x,H5,I5,r5,y5,st5,fr5⟩;have I5':=I5.pinned (stat fr5) (T.obj _ _ st5);refine A0 (Qk (hg C _ s5 _ H5 x u _ I5' r5 (step x H5 y5)) (?_) λ _ _ z=>E5 z);rintro _ s6 ⟨σ6,H6,I6,le6,q6⟩;refine A0 (Qk (hi C _ s6 σ6 H6 _ I6 q6) (?_) λ _ _ z=>E5 z);rintro b s7 ⟨H7,I7,q7⟩;have back:∀{pins':QA (P6×Obj)}{H8:Hp}{s8:F4},Inv (cK X QC s2 H2 scope C (own ++ cs) fp) pins' σ6 H8 s8->Inv (cK X QC s2 H2 scope C (own ++ cs) fp) [] (bD σ cap own.length) H8 s8:=λ I8=>
    I8.bareP.weak le6.1.symm λ i v e=>le6.2 i v e
   cases b with
   | false=>
    rw[QH B2]at q7;obtain⟨m',hm,w7⟩:=q7;refine A2 %[rfl,m',hm,i+1,H7,its,ys,back I7,T.keep _ _ _ st5 λ b hb o e=>?_,λ b hb=>?_,%[nn|?_],rv3,?_|w7]
    ·exact(I7.pin (b,o) (A5 _ (A5 _ (cM hb e)))).1
    ·obtain⟨o,e,d⟩:=T.obj _ _ st5 b hb;exact(I7.pin (b,o) (A5 _ (A5 _ (cM hb e)))).2.1
    ·exact(I7.pin (D,_) (A5 _ (B6 _ (C9.mpr rfl)))).1
    ·exact(I7.pin (D,_) (A5 _ (B6 _ (C9.mpr rfl)))).2.1
   | true=>
    rw[QI rfl]at q7;refine A0 (A0 (Qk (he C _ s7 σ6 H7 _ I7 q7) (?_) λ _ _ z=>E5 z));rintro y s8 ⟨v,H8,I8,r8,m',hm,w8⟩;have pD:=I8.pin (D,{ cls:=.type "list",data:=.seq its.toArray nn }) (A5 _ (B6 _ (C9.mpr rfl)));have QE:=rv3.length;refine A0 (wpAny_list_append_plain (hsz:=by rw[G7];lia) %[nn|pD.1] λ h9 pl9 sb9=>A2 (A2 ?_));have I8':=back I8;refine%[Y,m',hm,i+1,H8,its ++ [y],ys ++ [v],?_,T.keep _ _ _ st5 λ b hb o e=>?_,λ b hb=>?_,?_,rv3.append (.cons r8 .nil),pD.2.1|w8]
    ·exact I8'.turned (t':=s8.toks) (λ b o hb e=>sb9.extBut b o hb e) pD.2.1 hDC (.inr (by show s2.heap.objs.size<=D;rw[hD];exact B3 _)) (λ x c e=>B9 (clt x c e)) λ p hp=>by
      have hp':p∈X.pn ++ QC:=by have:p∈(X.pn ++ QC) ++ []:=hp;simpa using this
      exact B9 (plt p hp')
    ·exact sb9.extBut b o (Ne.symm (Dfp b hb)) (I8.pin (b,o) (A5 _ (A5 _ (cM hb e)))).1
    ·obtain⟨o,e,d⟩:=T.obj _ _ st5 b hb;exact(I8.pin (b,o) (A5 _ (A5 _ (cM hb e)))).2.1
    ·have e:its.toArray.push y=(its ++ [y]).toArray:=by simp
     rw[<- e];exact pl9
 exact codeAny_compStart_list loop (T.self _ 0 _ _ _ (T.keep 0 _ _ st λ b _ o e=>old b o e) loop)
def uV(wi:TI)(cap:QA Nat)(k:Nat)(g:TG)(tt:TT)(te:TE):TE:=λ σ H Q=>wi σ H λ J H1=>
 ∃W:Nat->Nat->QA V->Hp->Prop,(∃m,W 0 m [] H1)/\eV σ cap k J g tt te (λ ys H'=>∀p,H' p=none->Q (.ref p) (upd H' p (.lst ys))) W
theorem bO{wi:TI}(hc:X.calm=true)(hit:PI X tg iter wi)(ok:CompOk X scope own cs cap)
  (hg:∀QC s2 H2 C fp,PG (cK X QC s2 H2 scope C (own ++ cs) fp) tg g) (hi:∀QC s2 H2 C fp,uU (cK X QC s2 H2 scope C (own ++ cs) fp) ifs tt) (he:∀QC s2 H2 C fp,PE (cK X QC s2 H2 scope C (own ++ cs) fp) elt te)
  (hs:∀x,foldedSetIterable iter X.env x=pure x:=by intro _;rfl):PE X (.ListComp elt [%[tg,iter,ifs|0]] scope pos) (uV wi cap own.length g tt te):=by
 intro QC s σ H Q I h;rw[eval_ListComp];refine wpAny_comprehension_free (use:=none) rfl hs (jB λ y hy e=>I.ok.has y.1 (ok.free y hy e)) ok.kind ok.names (thn (hit QC s σ H _ I h) λ v s1 h1=>thn h1 λ itv s2 h2=>?_);obtain⟨it,fp,tn,J,H2,e,I2,T,st2,f2,W,w0,turn⟩:=h2;subst e;refine mJ (RR:=λ acc C=>compPost (model X.prog X.w) X.A X.xe none (EP X QC σ Q) acc C) I2 ok hc T st2 f2 (λ C=>hg _ _ _ _ _) (λ C=>hi _ _ _ _ _) (λ C=>he _ _ _ _ _) w0 turn λ D C s' B=>?_;obtain⟨⟨ys,H',hD,q,I',fp'⟩,m,hn⟩:=B;obtain⟨f0,f1,f2',f3,f4,f5⟩:=fp';exact%[m,hn|λ h' sb=>%[.ref D,_,I'.turned (t':=s'.toks) (λ b o hb e=>sb.extBut b o hb e) f0 f1 f3 f4 f5,Y|q D hD]]
theorem dH{wi:TI}{i:Nat}{y:Str}{py spos:Pos}(hc:X.calm=true)(hN:X.N.Nodup)(hiy:X.N[i]?=some y)(hy:X.env.scope.names.lookup y=some .local)
  (hsw:swapsWith (.ListComp elt [%[tg,iter,ifs|0]] scope pos) (some (.Name y py)) spos.line X.env=pure true) (hit:PI X tg iter wi) (ok:CompOk X scope own cs cap)
  (hg:∀QC s2 H2 C fp,PG (cK X QC s2 H2 scope C (own ++ cs) fp) tg g) (hi:∀QC s2 H2 C fp,uU (cK X QC s2 H2 scope C (own ++ cs) fp) ifs tt) (he:∀QC s2 H2 C fp,PE (cK X QC s2 H2 scope C (own ++ cs) fp) elt te)
  (hs:∀x,foldedSetIterable iter X.env x=pure x:=by intro _;rfl):PS X (.Assign [.Name y py] (.ListComp elt [%[tg,iter,ifs|0]] scope pos) spos) (Ae (uV wi cap own.length g tt te) (bU i)):=by
 intro QC s σ H D0 I h;rw[exec_Assign_Name_used _ _ _ _ hsw];refine A0 (wpAny_standAt (A0 ?_));show wpAny _ X.A (do let _<-comprehension (.ListComp elt [%[tg,iter,ifs|0]] scope pos) scope X.env _ (newList []) false (eval iter X.env) (some (assign (.Name y py) X.env))) _ _ s;refine A0 (Qk (wpAny_comprehension_free (use:=some (assign (.Name y py) X.env)) (Q:=λ _ s'=>SP X QC D0 .next s') rfl hs (jB λ y hy e=>I.ok.has y.1 (ok.free y hy e)) ok.kind ok.names
  (thn (hit QC s σ H _ I h) λ v s1 h1=>thn h1 λ itv s2 h2=>?_)) (λ _ s' hq=>A2 (A2 hq)) λ _ _ e=>e)
 obtain⟨it,fp,tn,J,H2,e,I2,T,st2,f2,W,w0,turn⟩:=h2;subst e;refine mJ (RR:=λ acc C=>compPost (model X.prog X.w) X.A X.xe (some (assign (.Name y py) X.env)) (λ _ s'=>SP X QC D0 .next s') acc C) I2 ok hc T st2 f2 (λ C=>hg _ _ _ _ _) (λ C=>hi _ _ _ _ _) (λ C=>he _ _ _ _ _) w0 turn λ D C s' B=>?_;obtain⟨⟨ys,H',hD,q,I',fp'⟩,m,hn⟩:=B;obtain⟨f0,f1,f2',f3,f4,f5⟩:=fp';show wpAny _ X.A (assign (.Name y py) X.env (.ref D)) _ _ _;refine wpAny_assign_Name (kA I' hN hiy (.inl hy) (v:=.ref D) rfl (?_) (.inr hy));rintro s3 I3 ⟨a,sb,ha⟩;have hCa:C≠a:=by
  rcases ha with z | z
  ·rw[z];exact f1
  ·exactλ q=>f4 y a z q.symm
 refine%[m,hn.sameBut sb hCa|λ h' sb'=>%[_,_,I3.turned (t':=s3.toks) (λ b o hb e=>sb'.extBut b o hb e) f0 f1 f3 f4 f5|q D hD]]
end
def CDivB(i j:Int):Prop:=0 < j/\j<=10 ^ 60
theorem CDivB.np{i j:Int}(h:CDivB i j):Builtin.divisionGoesByPylong i j=false:=by
 refine PyProof.noPylong_of_log2 ?_;have h1:j.natAbs < 2 ^ 200:=by obtain⟨a,b⟩:=h;lia
 have h2:j.natAbs.log2 < 200:=(Nat.log2_lt (by have:=h.1;lia)).mpr h1;lia
section
variable{X:Cx}
theorem uW:OpR X (binaryOp .FloorDiv) (rI CDivB λ i j=>.int (i / j)):=opI λ i j _ _ _ _ _ hc q=>by refine floordiv_int (by have:=hc.1;lia) ?_ (.inl hc.np);rw[Int.fdiv_eq_ediv_of_nonneg _ (by have:=hc.1;lia)];exact q
theorem Inv.kitx{QC:QA (P6×Obj)}{σ:St}{H:Hp}{s:F4}{x:V}{u t:F8}(I:Inv X QC σ H s)(rx:RelV x u)(ty:TyOf X.K H x t) :
  ∃P:Heap->Prop,PySem.W.KitX X.K u t P/\P s.heap/\u≠.builtin "__main__.__loader__#opaque" := by
 cases ty with
 | non=>cases(show u=Value.none from rx);exact%[_,PySem.W.kitx_none,True.intro|λ z=>nomatch z]
 | bl y=>cases(show u=Value.bool y from rx);exact%[_,PySem.W.kitx_bool,True.intro|λ z=>nomatch z]
 | int i=>obtain⟨t,q⟩:=(show∃t,u=Value.int i t from rx);cases q;exact%[_,PySem.W.kitx_int,True.intro|λ z=>nomatch z]
 | str y=>obtain⟨t,q⟩:=(show∃t,u=Value.str y t from rx);cases q;exact%[_,PySem.W.kitx_str,True.intro|λ z=>nomatch z]
 | flt y=>obtain⟨t,q⟩:=(show∃t,u=Value.float y t from rx);cases q;exact%[_,PySem.W.kitx_float,True.intro|λ z=>nomatch z]
 | @lst a xs ea=>
  cases(show u=Value.ref a from rx);obtain⟨_,_,n,_,h1⟩:=(show ObjOk X.prog X.w H s.heap a (.lst xs)from I.hok a _ ea)
  exact%[_,PySem.W.kitx_list,%[_,h1|Y]|λ z=>nomatch z]
 | @frz a ob xs ea=>
  cases(show u=Value.ref a from rx);obtain⟨_,_,_,n,_,h1⟩:=(show ObjOk X.prog X.w H s.heap a (.frz ob (.lst xs))from I.hok a _ ea)
  exact%[_,PySem.W.kitx_list,%[_,h1|Y]|λ z=>nomatch z]
 | @tup a xs ea=>
  cases(show u=Value.ref a from rx);obtain⟨_,_,_,p⟩:=(show ObjOk X.prog X.w H s.heap a (.tup xs)from I.hok a _ ea)
  obtain⟨o,h1,h2,_⟩:=p;exact%[_,PySem.W.kitx_tuple,%[o,h1|h2]|λ z=>nomatch z]
 | @dK a kvs ea=>
  cases(show u=Value.ref a from rx);obtain⟨_,_,vs,_,p⟩:=(show ObjOk X.prog X.w H s.heap a (.dK kvs)from I.hok a _ ea)
  obtain⟨o,es,ep,h1,h2,_⟩:=p;exact%[_,PySem.W.kitx_dict,%[o,h1|h2.1]|λ z=>nomatch z]
 | @dT a kvs ea=>
  cases(show u=Value.ref a from rx);obtain⟨_,_,xs,_,o,es,ep,h1,h2,_⟩:=(show ObjOk X.prog X.w H s.heap a (.dT kvs)from I.hok a _ ea)
  exact%[_,PySem.W.kitx_dict,%[o,h1|h2.1]|λ z=>nomatch z]
 | @ext a φ ea c=>
  cases(show u=Value.ref a from rx);obtain⟨p,_,_⟩:=(show ObjOk X.prog X.w H s.heap a (.ext φ)from I.hok a _ ea)
  obtain⟨o,h1,h2⟩:=c _ p;exact%[_,PySem.W.kitx_dict,%[o,h1|h2]|λ z=>nomatch z]
 | @ins a C dx fs ea cl ha hn htk hm=>
  cases(show u=Value.ref a from rx);obtain⟨mA,O,_⟩:=gN I.hok ea;obtain⟨od,J,_⟩:=O.look;exact%[_,PySem.W.kitx_own (cl.get _) cl.hd ha hn htk hm,J|λ z=>nomatch z]
def clV:V->P8 Value
 | .ty T=>some (.type T)
 | .ref C=>↑C
 | _=>none
theorem clV.rel{v:V}{u c:F8}(e:clV v=some c)(r:RelV v u):u=c:=by
 cases v with
 | ty T=>have e':Value.type T=c:=B8 e;rw[<- e'];exact r
 | ref C=>have e':Value.ref C=c:=B8 e;rw[<- e'];exact r
 | _=>cases e
def clVs:QA V->P8 (QA F8)
 | []=>some []
 | v :: r=>match clV v,clVs r with
  | some c,some cs=>some (c :: cs)
  | _,_=>none
theorem clVs.rel:∀{vs:QA V}{us cs:QA F8},clVs vs=some cs->Vals vs us->us=cs
 | [],_,_,e,.nil=>B8 e
 | v :: r,_,_,e,.cons r1 r2=>by
  unfold clVs at e
  split at e
  ·rename_i c cs' e1 e2
   cases e;rw[clV.rel e1 r1,clVs.rel e2 r2]
  ·cases e
inductive rz_call_isinst(K:C4)(xs:QA V)(H:Hp)(Q:VK):Prop
|mk(x cv t c b:_)(_:xs=[x,cv])(_:TyOf K H x t)(_:clV cv=some c)(_:PySem.W.kitOne K t c=some b)(_:Q (.bl b) H)
theorem dI:de X (.builtin "isinstance") (rz_call_isinst X.K):=by
 intro QC s σ H xs us Q I rv h;obtain⟨x,cv,t,c,b,rfl,ty,e1,e2,q⟩:=h;cases rv with
 | cons r1 rr=>
  cases rr with
  | cons r2 rr=>
   cases rr;rw[clV.rel e1 r2];exact rX I r1 ty e2 λ tk=>%[.bl b,H,I.tok tk,Y|q]
inductive rz_call_isinstT(K:C4)(xs:QA V)(H:Hp)(Q:VK):Prop
|mk(x p t cvs cs b:_)(_:xs=[x,.ref p])(_:TyOf K H x t)(_:H p= ~~~cvs)(_:clVs cvs=some cs)(_:PySem.W.kitAny K t cs=some b)(_:Q (.bl b) H)
theorem lF:de X (.builtin "isinstance") (rz_call_isinstT X.K):=by
 intro QC s σ H xs us Q I rv h;obtain⟨x,p,t,cvs,cs,b,rfl,ty,hp,e1,e2,q⟩:=h;cases rv with
 | cons r1 rr=>
  cases rr with
  | cons r2 rr=>
   cases rr;cases r2;obtain⟨_,its,rits,o,ho,hc,n,hd⟩:=I.hok p _ hp;obtain⟨P,Z,p1,p2⟩:=I.kitx r1 ty;obtain⟨oc,od,dt,osl⟩:=o
   replace hc:oc=.type "tuple" := hc
   replace hd:dt=.seq its.toArray n:=hd
   subst hc hd;have e3:=clVs.rel e1 rits;subst e3;exact PySem.W.kia_tup Z I.kIn p1 ho e2 p2 λ tk=>%[.bl b,H,I.tok tk,Y|q]
end
mutual
inductive DatV(K:C4)(H:Hp):V->PyData->Prop
 | non:DatV K H .non .none
 | bl (b:Bool):DatV K H (.bl b) (.bool b)
 | int (i:Int):DatV K H (.int i) (.int i)
 | str (x:Str):DatV K H (.str x) (.str x)
 | lst {a:P6} {xs:QA V} {ds:QA PyData}:SqL K H a xs->DatVs K H xs ds->DatV K H (.ref a) (.list ds)
 | tup {a:P6} {xs:QA V} {ds:QA PyData}:SqT K H a xs->DatVs K H xs ds->DatV K H (.ref a) (.tuple ds)
inductive DatVs(K:C4)(H:Hp):QA V->QA PyData->Prop
 | nil:DatVs K H [] []
 | cons {x:V} {d:PyData} {xs:QA V} {ds:QA PyData}:DatV K H x d->DatVs K H xs ds->DatVs K H (x :: xs) (d :: ds)
end
section
variable{X:Cx}{QC:QA (P6×Obj)}{σ:St}{H:Hp}{s:F4}
mutual
theorem Inv.reads(I:Inv X QC σ H s):∀{v:V}{d:PyData},DatV X.K H v d->∀{u:F8},RelV v u->∃as,Reads s.heap u d as
 | _,_,.non,u,r=>by cases(show u=Value.none from r);exact%[_|.none]
 | _,_,.bl b,u,r=>by cases(show u=Value.bool b from r);exact%[_|.bool b]
 | _,_,.int i,u,r=>by obtain⟨t,e⟩:=(show∃t,u=Value.int i t from r);subst e;exact%[_|.int i t]
 | _,_,.str x,u,r=>by obtain⟨t,e⟩:=(show∃t,u=Value.str x t from r);subst e;exact%[_|.str x t]
 | _,_,.lst (a:=a) h hs,u,r=>by cases(show u=Value.ref a from r);obtain⟨its,rv,⟨o,n,e,c,_,d⟩,_⟩:=I.list h;obtain⟨as,ra⟩:=I.readsAll hs rv;exact%[_|.list e c d (by simpa using ra)]
 | _,_,.tup (a:=a) h hs,u,r=>by cases(show u=Value.ref a from r);obtain⟨its,rv,⟨o,e,c,n,d⟩,_⟩:=I.tuple h;obtain⟨as,ra⟩:=I.readsAll hs rv;exact%[_|.tuple e c d (by simpa using ra)]
theorem Inv.readsAll(I:Inv X QC σ H s):∀{vs:QA V}{ds:QA PyData},DatVs X.K H vs ds->∀{us:QA F8},Vals vs us->∃as,ReadsAll s.heap us ds as
 | _,_,.nil,_,.nil=>%[_|.nil]
 | _,_,.cons h hs,_,.cons r rs=>by obtain⟨as,ra⟩:=I.reads h r;obtain⟨bs,rb⟩:=I.readsAll hs rs;exact%[_|.cons ra rb]
end
end
section
variable{X:Cx}
inductive rz_op_neD(K:C4)(x:V)(y:V)(H:Hp)(Q:VK):Prop
|mk(da db:_)(_:DatV K H x da)(_:DatV K H y db)(_:SeqAt.shaped da=true)(_:SeqAt.shaped db=true)(_:Q (.bl (!PyData.eqv da db)) H)
theorem lG(hu:X.A.units+64 < cLine):OpR X (compareOp .NotEq) (rz_op_neD X.K):=by intro QC s σ H x y v u Q I rx ry h;obtain⟨da,db,hx,hy,s1,s2,q⟩:=h;obtain⟨as,ra⟩:=I.reads hx rx;obtain⟨bs,rb⟩:=I.reads hy ry;exact ne_dataH ra rb s1 s2 hu %[.bl _,H,I,rfl|q]
inductive rz_op_eqD(K:C4)(x:V)(y:V)(H:Hp)(Q:VK):Prop
|mk(da db:_)(_:DatV K H x da)(_:DatV K H y db)(_:SeqAt.shaped da=true)(_:SeqAt.shaped db=true)(_:Q (.bl (PyData.eqv da db)) H)
theorem An(hu:X.A.units+64 < cLine):OpR X (compareOp .Eq) (rz_op_eqD X.K):=by intro QC s σ H x y v u Q I rx ry h;obtain⟨da,db,hx,hy,s1,s2,q⟩:=h;obtain⟨as,ra⟩:=I.reads hx rx;obtain⟨bs,rb⟩:=I.reads hy ry;exact eq_dataH ra rb s1 s2 hu %[.bl _,H,I,rfl|q]
end
section
variable{prog:F5}{w:F7}{A:Around}{E:F8->F4->Prop}
theorem jC{it l:P6}{items:P9 F8}(hne:l≠it):∀(n i:Nat)(s:F4)(Q:QA F8->F4->Prop),s.heap.IsListIter it l i->s.heap.IsList l items->i+n<=items.size ->
  (∀h',h'.IsListIter it l (i+n)->Heap.SameBut it s.heap h'->Q ((items.toList.drop i).take n) { s with heap:=h' })->wpAny (model prog w) A (draw (.ref it) n) Q E s
 | 0,i,s,Q,hit,_,_,hQ=>by show wpAny _ _ (pure []) Q E s;exact A2 (by simpa using hQ s.heap hit (Heap.SameBut.refl ..))
 | n+1,i,s,Q,hit,ht,hle,hQ=>by
  have hlt:i < items.size:=⋯
  show wpAny _ _ (pyNext (.ref it) >>= _) Q E s;refine A0 (wpAny_pyNext_list_item hit ht (x:=items[i]) (by simp[hlt]) λ h₁ hit₁ hs₁=>?_);refine A0 (QL (jC hne n (i+1) _ _ hit₁ (ht.extBut hs₁.extBut hne) ⋯ λ h₂ hit₂ hs₂=>A2 ?_));have hd:items.toList.drop i=items[i] :: items.toList.drop (i+1):=by simp[M8,hlt]
  have q:=hQ h₂ (by rw[show i+(n+1)=i+1+n by lia];exact hit₂) (hs₁.trans hs₂);rw[hd,List.take_succ_cons]at q;exact q
theorem gS{s:F4}{l:P6}{items:P9 F8}{Q:QA F8->F4->Prop}(hh:A.handled=none)(ht:s.heap.IsList l items)
  (hQ:∀h',Heap.ExtBut s.heap.objs.size s.heap h'->Q items.toList { s with heap:=h' }):wpAny (model prog w) A (unpackItems (.ref l) items.size none) Q E s:=by
 have hlt:l≠s.heap.objs.size:=by obtain⟨o,ho,_⟩:=ht;exact B9 (A9 ho)
 have hp:(s.heap.push { cls:=.type "list_iterator",data:=.fields #[.ref l,.int 0 0] }).IsList l items:=by obtain⟨o,ho,r⟩:=ht;exact%[o,A7 _ ho|r]
 unfold unpackItems;refine A0 ?_
 ·unfold notIterableAtAll;refine A0 (wpAny_specialOf ht.typeIs PySem.slot_list_iter.lookup ?_);refine A2 ?_;simp only[J9,QN];refine A0 (QL (wpAny_pyIter_list ht ?_));refine A0 (QL (jC hlt items.size 0 _ _ %[_,A8 _ rfl,rfl|rfl] hp ⋯ λ h₁ hit₁ hs₁=>?_));have hall:List.take items.size (List.drop 0 items.toList)=items.toList:=by rw[List.drop_zero];exact K1 (by simp)
  rw[hall];rw[QH (by simp)];have ht₁:h₁.IsList l items:=hp.extBut hs₁.extBut hlt;refine A0 (QL (wpAny_pyNext_list_end hh hit₁ ht₁ (by simp) λ h₂ he₂=>?_));simp only[Option.isSome_none,J9,if_false];refine A2 (hQ h₂ λ b o hb e=>he₂ b o hb (hs₁.extBut b o hb (A7 _ e)))
theorem gD{s:F4}{env:Env}{elts:QA Expr}{x1}{pos:Pos}{l:P6}{items:P9 F8}{Q:Unit->F4->Prop}(hh:A.handled=none)(ht:s.heap.IsList l items)
  (hn:(assignEach elts env).length=items.size) (hstar:(assignEach elts env).findIdx? (·.1)=none)
  (h:∀h',Heap.ExtBut s.heap.objs.size s.heap h'->wpAny (model prog w) A (assignInOrder ((assignEach elts env).map (·.2)) items.toList) Q E { s with heap:=h' }) :
  wpAny (model prog w) A (assign (.Tuple elts x1 pos) env (.ref l)) Q E s:=by
 rw[assign_Tuple];refine A0 (wpAny_standAt ?_);unfold unpack;rw[hn,hstar];exact A0 (QL (gS hh ht h))
end
section
variable{X:Cx}{pos:Pos}
def Gr(K:C4)(n:Nat)(t:TGs):TG:=λ v σ H Q=>∃a xs,v=.ref a/\(SqL K H a xs\/SqT K H a xs)/\xs.length=n/\t xs σ H Q
theorem jD{es:QA Expr}{k:Nat}{t:TGs}{n:Nat}(hc:X.calm=true)(h:PGs X es t)
  (hn:(assignEach es X.env).length=n:=by rfl) (hst:(assignEach es X.env).findIdx? (·.1)=none:=by rfl):PG X (.Tuple es k pos) (Gr X.K n t):=by
 intro QC s σ H v u Q I r hw;obtain⟨a,xs,e1,hq,hl,hw⟩:=hw;rcases hq with hq | hq
 ·subst e1;cases r;obtain⟨its,rv,ht,hz⟩:=I.list hq;refine gD (I.ok.hd hc) ht.isList (by simp[hn,<- hl,rv.length]) hst λ h' hx=>?_;have I1:Inv X QC σ H { s with heap:=h' }:=I.kept (t':=s.toks) λ b o e=>hx b o (B9 (A9 e)) e;exact h QC _ σ H xs _ Q I1 (by simpa using rv) hw
 ·exact aU hc h hn hst QC s σ H v u Q I r %[a,xs,e1,hq,hl|hw]
end
def Itz(l1 l2:P6):It :=
  ⟨λ i H=>∃xs ys x y,H l1=↥xs/\H l2=↥ys/\xs[i]?=some x/\ys[i]?=some y,
   λ i H v H'=>∃p xs ys x y,H p=none/\v=.ref p/\H'=upd H p (.tup [x,y])/\H l1=↥xs/\H l2=↥ys/\xs[i]?=some x/\ys[i]?=some y,
   λ i H=>∃xs ys,H l1=↥xs/\H l2=↥ys/\(xs.length<=i\/ys.length<=i)⟩
section
variable{X:Cx}
theorem Inv.turnedN{QC:QA (P6×Obj)}{σ:St}{H:Hp}{s:F4}{h':Heap}{t':Nat}{ch:QA P6}(I:Inv X QC σ H s)(hf:∀b∈ch,gL X QC H b)(k:∀b o,b∉ch->s.heap.get? b=some o->h'.get? b=some o):Inv X QC σ H { s with heap:=h',toks:=t' }:=by
 have hLc:X.env.locals∉ch:=λ z=>(hf _ z).2.1 rfl;have nt:∀b u,H b=some u->b∉ch:=λ b u e z=>by rw[(hf b z).1]at e;cases e
 refine I.step (g':=s.gens) (d':=s.drawn) (ch:=ch) (λ b hb=>%[(hf b hb).2.2.2.1,(hf b hb).2.1,(hf b hb).2.2.2.2.1|(hf b hb).2.2.2.2.2]) (λ b o _ _ hc e _=>k b o hc e) (λ b o _ _ hc e _=>%[o.slots|k b o hc e]) (λ _ _ _ _ n=>n)
  (λ b o hc e=>%[o|k b o hc e]) (λ _ _ e=>e) (λ _ _ _ e=>e) (λ b ps e=>%[#[]|by rw[e];simp]) (λ m hm=>?_) (λ b u e=>?_) I.bare
 ·obtain⟨o,es,ep,ho,r⟩:=hm;exact%[o,es,ep,k _ o hLc ho|r]
 ·refine(I.hok b u e).stay (λ c v hc q=>k c v ?_ q) (λ _ q=>q) λ _ _ q=>q;rcases hc with z | z
  ·rw[z];exact nt b u e
  ·exact nt c _ z
theorem Inv.track{QC:QA (P6×Obj)}{σ:St}{H:Hp}{s:F4}{a:P6}{o:HO}(I:Inv X QC σ H s)(hf:gL X QC H a)(fa:X.s₀.heap.objs.size<=a)(new:ObjOk X.prog X.w (upd H a o) s.heap a o):Inv X QC σ (upd H a o) s:=by
 obtain⟨f0,f1,f2,f3,f4,f5⟩:=hf;have s0:∀b o,X.s₀.heap.get? b=some o->b≠a:=λ b o e=>B9 (C1 (A9 e) fa);refine%[I.ok,I.os,I.bare,%[I.base.keep,I.base.slot,λ b o e n hx=>?_,I.base.there,λ b xs e=>?_,λ b o u e=>?_|λ b ps e=>?_],I.loc,I.cell,?_,λ x c e=>?_,λ p hp=>?_,I.hok.add f0 new|I.len]
 ·rw[ap (s0 b o e)];exact I.base.free b o e n hx
 ·have q:=I.base.tups b xs e;rw[ap (ax q f0)];exact q
 ·have q:=I.base.frzs b o u e;rw[ap (ax q f0)];exact q
 ·obtain⟨more,q⟩:=I.base.tbls b ps e;exact%[more|by rw[ap (ax q f0)];exact q]
 ·rw[ap (Ne.symm f1)];exact I.free
 ·rw[ap (f4 x c e)];exact I.freeC x c e
 ·obtain⟨e,n,r⟩:=I.pin p hp;exact%[e,by rw[ap (f5 p hp)];exact n|r]
end
structure ZipAp(z TI TO i1 i2:P6):Prop where
 nd:[z,TI,TO,i1,i2].Nodup
def Ng(ta:TA):TI:=λ σ H R=>ta σ H λ vs H1=>∃l1 l2 xs ys,vs=[.ref l1,.ref l2]/\H1 l1=↥xs/\H1 l2=↥ys/\R (Itz l1 l2) H1
end L2
namespace L2
open PySem PySem.Spec PyProof.Rows
def Dn(P:F5)(w:F7)(K:C4)(mg:Str->P8 F8)(base:Heap)(x:Str)(ps:QA Str)(k:Nat)(sp:Sp):Prop :=
 ∃(f:P6)(fd:F6),FnOk P w K mg base CX0 k f fd ps sp/\Binds K fd ps []/\PySem.W.keepIn K (.ref f)=true/\mg x=↑f
theorem aq{X:Cx}{k:Nat}{ps:QA Str}{sp:Sp}{x:Str}{p pos:Pos}{e:Expr}{es:QA Expr}{t:TA}(D:Dn X.prog X.w X.K X.mg X.base x ps k sp)(hr:Room k X.A)(hg:Gl X x)(ha:PA X (e :: es) t)
  (hdb:(x == ("__debug__" : Str))=false:=by decide) (he:starEach (e :: es) X.env=(false,eval e X.env) :: starEach es X.env:=by rfl) (hpl:(backTo pos (starEach es X.env)).any (·.1)=false:=by rfl) :
  PE X (.Call (.Name x p) (e :: es) [] pos) (uJ sp [] E0 t):=by
 obtain⟨f,fd,F,hb,hk,hm⟩:=D;exact xK F hr hg hm hk hb .nil qF ha hdb he hpl
def qG(sc:Scope)(N:QA Str)(scope:Scope)(own cs:QA Str)(cap:QA Nat):Bool :=
 decide (scope.kind=.function) && scope.names.all (λ y=>decide (y.2≠.cell)) && scope.names.all (λ y=>decide (y.2=.local->scope.names.lookup y.1=some .local)) &&
 scope.names.all (λ y=>decide (y.2=.free->sc.names.lookup y.1=some .cell\/sc.names.lookup y.1=some .free)) && own.all (λ y=>decide (scope.names.lookup y=some .local)) &&
 decide (cs.length=cap.length) && (cs.zip cap).all (λ y=>decide (N[y.2]?=some y.1) && decide ((y.1,NameKind.free)∈scope.names)) && scope.names.all (λ y=>decide (y.2=.free->scope.names.lookup y.1≠some .local))
theorem aL{X:Cx}{sc:Scope}{N:QA Str}{scope:Scope}{own cs:QA Str}{cap:QA Nat}(h1:X.env.scope=sc)(h2:X.N=N)(h:qG sc N scope own cs cap=true):CompOk X scope own cs cap:=by
 subst h1 h2;unfold qG at h;simp only[K4,List.all_eq_true,decide_eq_true_eq]at h;obtain⟨⟨⟨⟨⟨⟨⟨a1,a2⟩,a3⟩,a4⟩,a5⟩,a6⟩,a7⟩,a8⟩:=h;refine%[a1,a2,a3,a4,λ i y e=>?_,a5,a6|λ y hy e=>a8 _ hy rfl e];have hi:i < cs.length:=(A6.mp e).1;have hj:i < cap.length:=by rw[<- a6];exact hi
 refine%[cap[i],E9 hj|?_];have hm:(y,cap[i])∈cs.zip cap:=by
  have:(cs.zip cap)[i]?=some (y,cap[i]):=by rw[List.getElem?_zip_eq_some];exact%[e|E9 hj]
  exact B5 this
 exact a7 _ hm
theorem bg{σ:St}{H:Hp}{A B:Hp->Prop}(h:A H):Gq σ H (λ ok H3=>if ok=true then A H3 else B H3):=by show(if (true:Bool)=true then A H else B H);rw[QI rfl];exact h
section
variable{X:Cx}{tg:Expr}
def Ao(K:C4)(tl:TE):TI:=λ σ H R=>zH K tl σ H R\/FY K tl σ H R
theorem uX{l:Expr}{tl:TE}(hl:PE X l tl):PI X tg l (Ao X.K tl):=by
 intro QC s σ H R I h;rcases h with h | h
 ·exact cm hl QC s σ H R I h
 ·exact fj hl QC s σ H R I h
end
def aS:QA String:=["NoneType","bool","int","str","list","tuple","dict"]
theorem xS{K:C4}:∀T∈aS,PySem.W.kitOne K (.type T) (.type "int")=some (T == "int" || T == "bool"):=by intro T h;simp only[aS,G5,J1,QO]at h;rcases h with rfl | rfl | rfl | rfl | rfl | rfl | rfl <;> kernel_rfl
theorem mK{K:C4}:∀T∈aS,PySem.W.kitOne K (.type T) (.type "bool")=some (T == "bool"):=by intro T h;simp only[aS,G5,J1,QO]at h;rcases h with rfl | rfl | rfl | rfl | rfl | rfl | rfl <;> kernel_rfl
theorem uY{K:C4}:∀T∈aS,PySem.W.kitOne K (.type T) (.type "list")=some (T == "list"):=by intro T h;simp only[aS,G5,J1,QO]at h;rcases h with rfl | rfl | rfl | rfl | rfl | rfl | rfl <;> kernel_rfl
theorem sn{K:C4}:∀T∈aS,PySem.W.kitOne K (.type T) (.type "tuple")=some (T == "tuple"):=by intro T h;simp only[aS,G5,J1,QO]at h;rcases h with rfl | rfl | rfl | rfl | rfl | rfl | rfl <;> kernel_rfl
theorem eF{K:C4}:∀T∈aS,PySem.W.kitOne K (.type T) (.type "str")=some (T == "str"):=by intro T h;simp only[aS,G5,J1,QO]at h;rcases h with rfl | rfl | rfl | rfl | rfl | rfl | rfl <;> kernel_rfl
theorem xT{K:C4}:∀T∈aS,PySem.W.kitAny K (.type T) [.type "list",.type "tuple"]=some (T == "list" || T == "tuple"):=by
 intro T h;have h1:=uY (K:=K) T h;have h2:=sn (K:=K) T h;unfold PySem.W.kitAny;rw[h1];cases e:(T == "list")with
 | true=>rfl
 | false=>
  show PySem.W.kitAny K (.type T) [.type "tuple"]=_;unfold PySem.W.kitAny;rw[h2];cases e2:(T == "tuple") <;> rfl
def Ty(K:C4)(H:Hp)(x:V)(T:String):Prop:=T∈aS/\TyOf K H x (.type T)
theorem Ty.int{K:C4}{H:Hp}{i:Int}:Ty K H (.int i) "int" := %[by simp[aS]|.int i]
theorem Ty.bl{K:C4}{H:Hp}{b:Bool}:Ty K H (.bl b) "bool" := %[by simp[aS]|.bl b]
theorem Ty.non{K:C4}{H:Hp}:Ty K H .non "NoneType" := %[by simp[aS]|.non]
theorem Ty.str{K:C4}{H:Hp}{x:Str}:Ty K H (.str x) "str" := %[by simp[aS]|.str x]
theorem Ty.lst{K:C4}{H:Hp}{a:P6}{xs:QA V}(e:H a=↥xs):Ty K H (.ref a) "list" := %[by simp[aS]|.lst e]
theorem Ty.tup{K:C4}{H:Hp}{a:P6}{xs:QA V}(e:H a= ~~~xs):Ty K H (.ref a) "tuple" := %[by simp[aS]|.tup e]
theorem Ty.dK{K:C4}{H:Hp}{a:P6}{xs:QA (Key×V)}(e:H a=some (.dK xs)):Ty K H (.ref a) "dict" := %[by simp[aS]|.dK e]
def aV:V->Int->Bool
 | .int i,l=>decide (l<=i)
 | _,_=>false
def sr:V->Bool
 | .bl _=>true
 | _=>false
theorem Ap{K:C4}{H:Hp}{x:V}{T:String}(t:TyOf K H x (.type T))(h:T∈aS):(T == "int")=true->∃i,x=.int i:=by
 intro e;have e':T = "int" := by simpa using e
 subst e';generalize hv:Value.type "int" = tv at t;cases t with
 | int i=>exact%[i|Y]
 | _=>exact absurd hv (by simp)
theorem qH{K:C4}{H:Hp}{x:V}{T:String}(t:TyOf K H x (.type T)):(T == "bool")=sr x:=by
 generalize hv:Value.type T=tv at t;cases t with
 | bl b=>cases hv;rfl
 | non=>cases hv;rfl
 | int i=>cases hv;rfl
 | str i=>cases hv;rfl
 | flt i=>cases hv;rfl
 | lst i=>cases hv;rfl
 | frz i=>cases hv;rfl
 | tup i=>cases hv;rfl
 | dK i=>cases hv;rfl
 | dT i=>cases hv;rfl
 | ext i _=>cases hv;rfl
 | ins=>cases hv
end L2
local macro_rules|`($a ^^^ $b)=>`(@L2.aa _ _ _ _ _ $a $b rfl)
local macro_rules|`($a<<<$b)=>`(@L2.ad _ _ _ _ _ $a $b)
local macro_rules|`($a>>>$b)=>`(@L2.ad _ _ _ _ _ $a (@L2.ag _ _ _ $b))
local macro_rules|`($a⁻¹)=>`(@L2.ag _ _ _ (@L2.au _ _ _ _ $a))
local macro_rules|`($a∩$b)=>`(@L2.aq _ _ _ _ _ _ _ _ _ _ $a (($(Lean.mkIdent `hr)).mono ∅) rfl $b ∅ rfl rfl)
local macro_rules|`($a∪$b)=>`(@L2.aq _ _ _ _ _ _ _ _ _ _ $a $(Lean.mkIdent `hr) rfl $b ∅ rfl rfl)
local macro_rules|`($a∣$b)=>`(@L2.aw _ _ $a _ _ _ _ $(Lean.mkIdent `nd) rfl (Or.inl rfl) $b rfl (Or.inl rfl))
local macro_rules|`($a&&&$o&&&$b)=>`(@L2.av _ _ _ _ _ _ _ $o $a $b (fun _ _=>rfl))
local macro_rules|`($a|||$o|||$b)=>`(@L2.ay _ _ _ _ _ _ _ _ $o $a $b)
local macro_rules|`($a•$b)=>`(L2.ah (L2.ai (i:=$a) $(Lean.mkIdent `nd) rfl (Or.inl rfl)) $b)
local macro_rules|`($a<*>$o<*>$b)=>`(@L2.aB _ _ _ _ _ _ _ _ $o $a $b (L2.aE _))
local macro_rules|`($a<|>$b<|>$c)=>`(@L2.aK _ _ _ _ _ _ _ _ $a $b $c)
namespace Pc
open PySem L2
structure Pot(a b:Int):Prop where
 a0:0<=a
 b0:0<=b
 b1:b < 2147483629
def PotAt(H:Hp)(p:P6):Prop:=∃a b,Pot a b/\H p=↥[.int a,.int b]
def But(p:P6)(H H':Hp):Prop:=∀b o,b≠p->H b=some o->H' b=some o
theorem But.refl{p:P6}{H:Hp}:But p H H:=λ _ _ _ e=>e
theorem But.trans{p:P6}{H H1 H2:Hp}(a:But p H H1)(b:But p H1 H2):But p H H2:=λ c o n e=>b c o n (a c o n e)
theorem But.upd{p:P6}{H:Hp}{o:HO}:But p H (upd H p o):=λ b u n e=>by rw[ap n];exact e
theorem But.new{p q:P6}{H:Hp}{o:HO}(h:H q=none):But p H (L2.upd H q o):=λ b u n e=>by rw[ap (ax e h)];exact e
theorem PotAt.new{p q:P6}{H:Hp}{o:HO}(x:PotAt H p)(h:H q=none):PotAt (L2.upd H q o) p:=by obtain⟨a,b,h1,h2⟩:=x;exact%[a,b,h1|by rw[ap (ax h2 h)];exact h2]
theorem PotAt.some{p:P6}{H:Hp}(x:PotAt H p):H p≠none:=by obtain⟨a,b,_,h⟩:=x;rw[h];exactλ z=>nomatch z
theorem But.same{p:P6}{H H':Hp}(b:But p H H')(h:H p=none):Same H H':=λ c o e=>b c o (ax e h) e
structure Kd where
 w:Int
 h:Int
 wo:Int
 wa:Int
 tu:Bool
def kdV(k:Kd):QA V:=[.int k.w,.int k.h,.int k.wo,.int k.wa,.bl k.tu]
structure Good(k:Kd):Prop where
 w:1<=k.w
 h:1<=k.h
 wo:0<=k.wo
 wa:0<=k.wa
 w':k.w < 10 ^ 60
 h':k.h < 10 ^ 60
 wo':k.wo < 10 ^ 60
 wa':k.wa < 10 ^ 60
def zM(H:Hp)(v:V)(k:Kd):Prop:=∃a,v=.ref a/\H a= ~~~(kdV k)
def Gs(H:Hp)(v:V)(k:Kd):Prop:=∃a,v=.ref a/\H a=↥(kdV k)
def RowAt(H:Hp)(v:V)(k:Kd):Prop:=zM H v k\/Gs H v k
abbrev Tups(H:Hp):QA V->QA Kd->Prop:=Paired (zM H)
theorem Tups.keep{H H':Hp}(k:∀b xs,H b= ~~~xs->H' b= ~~~xs):∀{xs:QA V}{ks:QA Kd},Tups H xs ks->Tups H' xs ks:=λ r=>
 G2 r λ v kd %[a,e|h]=>%[a,e|k a _ h]
def zN(K:C4):Sp:=λ vs H Q _=>∃(a:P6)(ns:QA Int)(n:Int),vs=[.ref a,.int n]/\SqL K H a (ns.map V.int)/\0<=n/\n<=1000/\ns.length<=63 /\
 ∀(p:P6)(H':Hp),H p=none->PotAt H' p->Same H H'->Q (.ref p) H'
def eG:Sp:=λ vs H Q _=>∃(p:P6)(m:Int),vs=[.ref p,.int m]/\PotAt H p/\0 < m/\m<=10 ^ 60/\∀(r:Int)(H':Hp),0<=r->r < m->PotAt H' p->But p H H'->Q (.int r) H'
def mL:Sp:=λ vs H Q _=>∃(p:P6)(l:Int),vs=[.ref p,.int l]/\PotAt H p/\0<=l/\l<=1/\∀(n:Int)(H':Hp),l<=n->n < 10 ^ 60->PotAt H' p->But p H H'->Q (.int n) H'
structure ToldAt(H:Hp)(t l:P6)(bl:Int)(xs:QA V)(ks:QA Kd):Prop where
 t:H t= ~~~[.int bl,.ref l]
 l:H l=↥xs
 r:Tups H xs ks
 b0:0<=bl
 b1:bl < 10 ^ 60
 g:∀k∈ks,Good k
 n0:1<=xs.length
 n1:xs.length<=8
def cT(K:C4):Sp:=λ vs H Q _=>∃(x:V)(T:String)(l:Int),vs=[x,.int l]/\Ty K H x T/\Q (.bl (aV x l)) H
def lH(K:C4):Sp:=λ vs H Q _=>∃(x:V)(T:String),vs=[x]/\Ty K H x T/\Q (.bl (sr x)) H
def kN(K:C4):Sp:=λ vs H Q _=>∃(x:V)(T:String),vs=[x]/\Ty K H x T/\∀H',Same H H'->Q (.bl (T == "list" || T == "tuple")) H'
def kO:QA V->Bool
 | [w,h,wo,wa,tu]=>aV w 1 && aV h 1 && aV wo 0 && aV wa 0 && sr tu
 | _=>false
def jE(K:C4):Sp:=λ vs H Q _=>∃(x:V)(T:String),vs=[x]/\Ty K H x T /\ 
 ((T ≠ "list" /\ T ≠ "tuple" /\ ∀H',Same H H'->Q (.bl false) H')\/∃(a:P6)(xs:QA V),x=.ref a/\(H a=↥xs\/H a= ~~~xs)/\(∀y∈xs,∃U,Ty K H y U)/\∀H',Same H H'->Q (.bl (kO xs)) H')
theorem jF{k:Kd}(g:Good k):kO (kdV k)=true:=by
 show(decide (1<=k.w) && decide (1<=k.h) && decide (0<=k.wo) && decide (0<=k.wa) && true)=true;rw[QG g.w,QG g.h,QG g.wo,QG g.wa]
 rfl
theorem Ty.same{K:C4}{H H':Hp}{x:V}{T:String}(s:Same H H')(t:Ty K H x T):Ty K H' x T:=by
 refine%[t.1|?_];have t2:=t.2;generalize hv:Value.type T=tv at t2 ⊢;cases t2 with
 | non=>exact .non
 | bl b=>exact .bl b
 | int b=>exact .int b
 | str b=>exact .str b
 | flt b=>exact .flt b
 | lst e=>exact .lst (s _ _ e)
 | frz e=>exact .frz (s _ _ e)
 | tup e=>exact .tup (s _ _ e)
 | dK e=>exact .dK (s _ _ e)
 | dT e=>exact .dT (s _ _ e)
 | ext e c=>exact .ext (s _ _ e) c
 | ins=>cases hv
end Pc
namespace L2
open PySem PySem.Spec PyProof.Rows
abbrev uZ(K:C4):QA V->Hp->VK->Prop:=rz_call_tuple_of K
theorem va{K:C4}{j:Nat}{a:P6}{xs:QA V}{g:TG}{tb:TS}{D:Ends}{σ:St}{H:Hp}(hσ:σ[j]?=some (↑a))(hs:H a=↥xs\/H a= ~~~xs)(Pv:Nat->St->Hp->Prop)(h0:Pv 0 σ H)
  (hk:∀i σ H',i<=xs.length->Pv i σ H'->∀o,H a=some o->H' a=some o)
  (ht:∀i x σ H,xs[i]?=some x->Pv i σ H->g x σ H λ σ2 H2=>tb { D with nx:=Pv (i+1),ct:=Pv (i+1),bk:=D.nx } σ2 H2) (hd:∀σ H,Pv xs.length σ H->D.nx σ H):Gb (Ao K (tVar j)) g tb D σ H:=by
 rcases hs with z | z
 ·exact .inl %[_,hσ,a,Y,%[xs|G1 z]|fk (xs:=xs) Pv h0 (λ i σ H' hi p=>G1 (hk i σ H' hi p _ z)) ht hd]
 ·exact .inr %[_,hσ,a,Y,%[xs|G0 z]|ja (xs:=xs) Pv h0 (λ i σ H' hi p=>G0 (hk i σ H' hi p _ z)) ht hd]
def Nx(n:Nat)(Pv:Nat->QA V->Hp->Prop)(i:Nat)(ys:QA V)(H:Hp):Prop:=∃m',m' < n - i/\m'=n - (i+1)/\i+1<=n/\Pv (i+1) ys H
theorem Nx.of{n:Nat}{Pv:Nat->QA V->Hp->Prop}{i:Nat}{ys:QA V}{H:Hp}(h:i < n)(p:Pv (i+1) ys H):Nx n Pv i ys H:=%[n - (i+1),⋯,Y,h|p]
theorem bE{K:C4}{a:P6}{xs:QA V}{σ:St}{cap:QA Nat}{k:Nat}{g:TG}{tt:TT}{te:TE}{Q:QA V->Hp->Prop}{H:Hp}(hs:H a=↥xs\/H a= ~~~xs)(Pv:Nat->QA V->Hp->Prop)
  (hk:∀i ys H',i<=xs.length->Pv i ys H'->∀o,H a=some o->H' a=some o) (h0:Pv 0 [] H)
  (ht:∀i x ys H',xs[i]?=some x->Pv i ys H'->ys.length < sizeLine/\g x (bD σ cap k) H' λ σ2 H2=>leS (bD σ cap k) σ2/\tt σ2 H2 λ ok H3=>if ok=true then te σ2 H3 (λ v H4=>Nx xs.length Pv i (ys ++ [v]) H4)else Nx xs.length Pv i ys H3)
  (hd:∀ys H',Pv xs.length ys H'->ys.length<=sizeLine/\Q ys H') :
  (H a=↥xs->∃W,(∃m,W 0 m [] H)/\eV σ cap k (Itl K a) g tt te Q W)/\(H a= ~~~xs->∃W,(∃m,W 0 m [] H)/\eV σ cap k (Itt K a) g tt te Q W):=by
 refine%[λ z=>%[λ i m ys H'=>m=xs.length - i/\i<=xs.length/\Pv i ys H',%[_,Y,E6 _|h0]|?_]|λ z=>%[λ i m ys H'=>m=xs.length - i/\i<=xs.length/\Pv i ys H',%[_,Y,E6 _|h0]|?_]]
 ·rintro i m ys H' ⟨rfl,hi,p⟩;have z':=hk i ys H' hi p _ z
  by_cases hin:i < xs.length
  ·obtain⟨e,hg⟩:=ht i xs[i] ys H' (by simp[hin]) p;refine .inr %[%[xs,xs[i],G1 z'|by simp[hin]],e|λ x H2 yl=>?_];obtain⟨e1,e2⟩:=yl;have e3:=e2 xs (G1 z');have e4:x=xs[i]:=by simpa[hin]using e3.symm
   subst e1 e4;exact hg
  ·have e:i=xs.length:=⋯
   subst e;obtain⟨a1,a2⟩:=hd ys H' p;exact .inl %[%[xs,G1 z'|B3 _],a1|a2]
 ·rintro i m ys H' ⟨rfl,hi,p⟩;have z':=hk i ys H' hi p _ z
  by_cases hin:i < xs.length
  ·obtain⟨e,hg⟩:=ht i xs[i] ys H' (by simp[hin]) p;refine .inr %[%[xs,xs[i],G0 z'|by simp[hin]],e|λ x H2 yl=>?_];obtain⟨e1,e2⟩:=yl;have e3:=e2 xs (G0 z');have e4:x=xs[i]:=by simpa[hin]using e3.symm
   subst e1 e4;exact hg
  ·have e:i=xs.length:=⋯
   subst e;obtain⟨a1,a2⟩:=hd ys H' p;exact .inl %[%[xs,G0 z'|B3 _],a1|a2]
theorem ss{K:C4}{j:Nat}{a:P6}{xs:QA V}{σ:St}{cap:QA Nat}{k:Nat}{g:TG}{tt:TT}{te:TE}{Q:VK}{H:Hp}(hσ:σ[j]?=some (↑a))(hs:H a=↥xs\/H a= ~~~xs)(Pv:Nat->QA V->Hp->Prop)
  (hk:∀i ys H',i<=xs.length->Pv i ys H'->∀o,H a=some o->H' a=some o) (h0:Pv 0 [] H)
  (ht:∀i x ys H',xs[i]?=some x->Pv i ys H'->ys.length < sizeLine/\g x (bD σ cap k) H' λ σ2 H2=>leS (bD σ cap k) σ2/\tt σ2 H2 λ ok H3=>if ok=true then te σ2 H3 (λ v H4=>Nx xs.length Pv i (ys ++ [v]) H4)else Nx xs.length Pv i ys H3)
  (hd:∀ys H',Pv xs.length ys H'->ys.length<=sizeLine/\∀p,H' p=none->Q (.ref p) (upd H' p (.lst ys))):uV (Ao K (tVar j)) cap k g tt te σ H Q:=by
 obtain⟨c1,c2⟩:=bE (K:=K) (σ:=σ) (cap:=cap) (k:=k) (g:=g) (tt:=tt) (te:=te) hs Pv hk h0 ht hd;rcases hs with z | z
 ·exact .inl %[_,hσ,a,Y,%[xs|G1 z]|c1 z]
 ·exact .inr %[_,hσ,a,Y,%[xs|G0 z]|c2 z]
end L2
namespace Pc
open PySem L2
def oi(b:Int)(r:P6):QA (Str×V):=bG "kind_rows" (.ref r) (bG "blade_width" (.int b) [])
theorem kbw:¬ (("blade_width" : Str) = "kind_rows"):=∅
theorem jG(b:Int)(r:P6):(oi b r).lookup ("blade_width" : Str)=⇑b:=by unfold oi;rw[aZ,QH kbw,aZ,QI rfl]
theorem fS(b:Int)(r:P6):(oi b r).lookup ("kind_rows" : Str)=↑r:=by unfold oi;rw[aZ,QI rfl]
theorem bT(b:Int)(r:P6){m:Str}(h1:¬ m = "kind_rows")(h2:¬ m = "blade_width"):(oi b r).lookup m=none:=by
 unfold oi;rw[aZ,QH h1,aZ,QH h2]
 all_goals rfl
def ShopAt(C:P6)(H:Hp)(x:P6)(b:Int)(ks:QA Kd):Prop:=∃dx r rs,H x=some (.ins C dx (oi b r))/\H r= ~~~rs/\Tups H rs ks
theorem ShopAt.keep{C:P6}{H H':Hp}{x:P6}{b:Int}{ks:QA Kd}(s:ShopAt C H x b ks)(k1:∀b xs,H b= ~~~xs->H' b= ~~~xs)(k2:∀b C dx fs,H b=some (.ins C dx fs)->H' b=some (.ins C dx fs)):ShopAt C H' x b ks:=by obtain⟨dx,r,rs,h1,h2,h3⟩:=s;exact%[dx,r,rs,k2 _ _ _ _ h1,k1 _ _ h2|Tups.keep k1 h3]
def oj(C:P6):Sp:=λ vs H Q _=>∃(x dx ks:P6)(b:Int)(rs:QA V)(kds:QA Kd),vs=[.ref x,.int b,.ref ks]/\H x=some (.ins C dx [])/\0<=b/\(H ks=↥rs\/H ks= ~~~rs)/\Paired (RowAt H) rs kds/\(∀k∈kds,Good k)/\1<=rs.length/\rs.length<=8 /\
 ∀H':Hp,ShopAt C H' x b kds->(∀c o,c≠x->H c=some o->H' c=some o)->Q .non H'
def eH(C:P6):Sp:=λ vs H Q _=>∃(x:P6)(b:Int)(ks:QA Kd),vs=[.ref x]/\ShopAt C H x b ks/\Q (.int b) H
def fT(C:P6):Sp:=λ vs H Q _=>∃(x:P6)(b:Int)(ks:QA Kd),vs=[.ref x]/\ShopAt C H x b ks/\∀(l:P6)(rs:QA V),H l=none->Tups H rs ks->Q (.ref l) (upd H l (.lst rs))
theorem qI{K:C4}{H:Hp}{k:Kd}:∀y∈kdV k,∃U,Ty K H y U:=by
 intro y hy;simp only[kdV,G5,J1,QO]at hy;rcases hy with rfl | rfl | rfl | rfl | rfl
 ·exact%[_|.int]
 ·exact%[_|.int]
 ·exact%[_|.int]
 ·exact%[_|.int]
 ·exact%[_|.bl]
theorem Paired.getR{α β:Type}{F:α->β->Prop}:∀{l₁:QA α}{l₂:QA β}{i:Nat}{x:α},Paired F l₁ l₂->l₁[i]?=some x->∃y,l₂[i]?=some y/\F x y
 | _,_,_,_,.nil,e=>by simp at e
 | _,_,0,_,.cons h _,e=>by simp at e;subst e;exact%[_,Y|h]
 | _,_,i+1,x,.cons _ t,e=>by obtain⟨y,h1,h2⟩:=Paired.getR (i:=i) (x:=x) t (by simpa using e);exact%[y,by simpa using h1|h2]
abbrev G3:=@Paired.getR
theorem RowAt.same{H H':Hp}{v:V}{k:Kd}(s:Same H H')(r:RowAt H v k):RowAt H' v k:=by
 rcases r with⟨a,e,h⟩ | ⟨a,e,h⟩
 ·exact .inl %[a,e|s _ _ h]
 ·exact .inr %[a,e|s _ _ h]
theorem su{K:C4}{H:Hp}{v:V}{k:Kd}{Q:VK}{E:XK}(r:RowAt H v k)(g:Good k)(q:∀H',Same H H'->Q (.bl true) H'):jE K [v] H Q E:=by
 rcases r with⟨a,rfl,h⟩ | ⟨a,rfl,h⟩
 ·exact%[_,_,Y,.tup h|.inr %[a,_,Y,.inr h,qI|λ H' s=>by rw[jF g];exact q H' s]]
 ·exact%[_,_,Y,.lst h|.inr %[a,_,Y,.inl h,qI|λ H' s=>by rw[jF g];exact q H' s]]
structure ShopTxt(K:C4)(C:P6):Prop where
 cl:Cls K C
 nB:NoAttr K C "blade_width"
 nK:NoAttr K C "kind_rows"
end Pc
namespace L2
open PySem PySem.Spec PyProof.Rows
def Mn(P:F5)(w:F7)(K:C4)(mg:Str->P8 F8)(base:Heap)(C:P6)(m:Str)(ps:QA Str)(k:Nat)(sp:Sp):Prop :=
 ∃(f:P6)(fd:F6),FnOk P w K mg base CX0 k f fd ps sp/\Binds K fd ps []/\Meth K C m f
theorem bW{X:Cx}{k:Nat}{C:P6}{ps:QA Str}{sp:Sp}{m:Str}{o:Expr}{ta:TE}{apos pos:Pos}{pl:Sem Bool}(he:PE X o ta)(c:Cls X.K C)(D:Mn X.prog X.w X.K X.mg X.base C m ps k sp)(hr:Room k X.A)
  (ht:eval (.Call (.Attribute o m apos) [] [] pos) X.env=(do
   let ov<-eval o X.env
   standAt apos.atName
   let (f,first)<-holding [ov] (getMethod ov m pl)
   callWith pos f first (backTo pos (starEach [] X.env)) (backToKw pos (keywordEach [] X.env))):=by rfl):PE X (.Call (.Attribute o m apos) [] [] pos) (jw C m sp [] E0 ta ko):=by
 obtain⟨f,fd,F,hb,hm⟩:=D;exact uK he c hm F hr hb .nil qF ht
def Kn(P:F5)(w:F7)(K:C4)(mg:Str->P8 F8)(base:Heap)(x:Str)(C:P6)(ps:QA Str)(k:Nat)(sp:Sp):Prop :=
 ∃(f:P6)(fd:F6),Mk K C f/\FnOk P w K mg base CX0 k f fd ps sp/\Binds K fd ps []/\mg x=↑C
theorem zO{X:Cx}{k:Nat}{C:P6}{ps:QA Str}{sp:Sp}{x:Str}{p pos:Pos}{e:Expr}{es:QA Expr}{t:TA}(D:Kn X.prog X.w X.K X.mg X.base x C ps k sp)(hr:Room (k+1) X.A)(hg:Gl X x)(ha:PA X (e :: es) t)
  (hdb:(x == ("__debug__" : Str))=false:=by decide) (he:starEach (e :: es) X.env=(false,eval e X.env) :: starEach es X.env:=by rfl) (hpl:(backTo pos (starEach es X.env)).any (·.1)=false:=by rfl) :
  PE X (.Call (.Name x p) (e :: es) [] pos) (zL C sp [] E0 t):=by
 obtain⟨f,fd,M,F,hb,hm⟩:=D;exact xM M F hr hg hm hb .nil qF ha hdb he hpl
end L2
namespace Pc
open PySem L2
theorem Same.but{p:P6}{H H':Hp}(s:Same H H'):But p H H':=λ b o _ e=>s b o e
theorem Same.new{q:P6}{H:Hp}{o:HO}(h:H q=none):Same H (upd H q o):=λ b u e=>by rw[ap (ax e h)];exact e
abbrev F9:=@Same.new
end Pc
namespace PySem
open Sem (wp)
open AutoSeq1 (wpAny_loadPart')
section
variable{prog:F5}{w:F7}{A:Around}{E:F8->F4->Prop}{s:F4}
theorem eW{it t:P6}{i:Nat}{items}{x:F8}{Q:F8->F4->Prop}(hit:s.heap.IsTupleIter it t i)
  (ht:s.heap.IsTuple t items) (hx:items[i]?=some x)
  (hQ:∀h',h'.IsTupleIter it t (i+1)->Heap.SameBut it s.heap h'->Q x { s with heap:=h' }) :
  wpAny (model prog w) A (Builtin.SmallTypes.nextOf (.ref it)) Q E s:=by
 obtain⟨o,ho,hc,hd⟩:=id hit;obtain⟨ol,hol,_,nl,hdl⟩:=ht;unfold Builtin.SmallTypes.nextOf;refine A0 (wpAny_callSpecial?_slot (name:=Str.ofString "__next__") hit.typeIs F.slot_tuple_iterator_next
  (F1 F.slot_tuple_iterator_next hit.typeIs F.entry_tuple_iterator_next ?_ (F.args_tuple_iterator_next_1 _)))
 show wpAny _ _ (field (.ref it) 0 >>= _) _ _ s;refine A0 (QZ ho hd (x:=.ref t) rfl ?_);show wpAny _ _ (if (Value.ref t == Value.none)=true then _ else _) _ _ s;rw[QH (show¬ ((Value.ref t == Value.none)=true)from B2)];show wpAny _ _ (field (.ref it) 1 >>= _) _ _ s;refine A0 (QZ ho hd (x:=.int i 0) rfl ?_);show wpAny _ _ (seqItems? (.ref t) >>= _) _ _ s;refine A0 (wpAny_seqItems hol hdl ?_);simp only[J4,hx];refine A0 (wpAny_setField ho hd (by simp) (A2 %[x,rfl|A2 (hQ _ ?_ (Heap.SameBut.update ..))]));exact⟨_,Heap.get?_update_self _ ho (Obj.isFreed_of_fields (Obj.data_mapFields hd _)),(Obj.cls_mapFields ..).trans hc,by
  rw[Obj.data_mapFields hd];simp[rawInt]⟩
theorem dw{it t:P6}{i:Nat}{items}{Q:F8->F4->Prop}(hh:A.handled=none)
  (hit:s.heap.IsTupleIter it t i) (ht:s.heap.IsTuple t items) (hx:items[i]?=none)
  (hE:∀h' e,Heap.ExtBut it s.heap h'->(∃o,h'.get? e=some o/\o.cls=.type "StopIteration")->E (.ref e) { s with heap:=h' }) :
  wpAny (model prog w) A (Builtin.SmallTypes.nextOf (.ref it)) Q E s:=by
 obtain⟨o,ho,hc,hd⟩:=id hit;obtain⟨ol,hol,_,nl,hdl⟩:=ht;unfold Builtin.SmallTypes.nextOf;refine A0 (wpAny_callSpecial?_slot (name:=Str.ofString "__next__") hit.typeIs F.slot_tuple_iterator_next
  (F1 F.slot_tuple_iterator_next hit.typeIs F.entry_tuple_iterator_next ?_ (F.args_tuple_iterator_next_1 _)))
 show wpAny _ _ (field (.ref it) 0 >>= _) _ _ s;refine A0 (QZ ho hd (x:=.ref t) rfl ?_);show wpAny _ _ (if (Value.ref t == Value.none)=true then _ else _) _ _ s;rw[QH (show¬ ((Value.ref t == Value.none)=true)from B2)];show wpAny _ _ (field (.ref it) 1 >>= _) _ _ s;refine A0 (QZ ho hd (x:=.int i 0) rfl ?_);show wpAny _ _ (seqItems? (.ref t) >>= _) _ _ s;refine A0 (wpAny_seqItems hol hdl ?_);simp only[J4,hx];refine A0 (wpAny_rule (A0 (wpAny_setField ho hd (by simp) ?_)));show wpAny _ _ (newExc (.type "StopIteration") [] >>= _) _ _ _;refine A0 ?_;simp only[newExc,newTuple];refine A0 (F2 ?_ (by size_fits));refine A0 (m:=firstArgMember _ _) (wpAny_of_eq (a:=Value.none) (by first | rfl | (simp only[firstArgMember];rfl)) ?_);refine F2 ?_ (by size_fits);simp only[raiseNew];refine A0 (wpAny_handled ?_)
 first | rw[show A.in1.handled=none from hh] | rw[hh]
 refine A0 (A2 (wpAny_throw ?_));exact hE _ _ (((Heap.SameBut.update ..).extBut.push _).push _) %[_,A8 _ rfl|rfl]
end
theorem vb{prog:F5}{w:F7}{A:Around}(hh:A.handled=none)(it l:P6)(hne:l≠it)(items:P9 F8) :
  Draws prog w A it [it,l] items.size (λ i v=>items[i]?=some v) (λ i h=>h.IsTupleIter it l i/\h.IsTuple l items) where
 live:=λ _ _ st=>let ⟨o,ho,_⟩:=st.1;%[o|ho]
 frame:=λ _ _ _ st hk=>%[st.1.at λ o e=>hk it (by simp) o e|let ⟨o,ho,r⟩:=st.2;%[o,hk l (by simp) o ho|r]]
 item:=λ i s Q E hi st hQ=>by refine eW st.1 st.2 (x:=items[i]) (by simp[hi]) λ h' hit' hs'=>?_;exact hQ _ h' s.toks (by simp[hi]) %[hit'|st.2.extBut hs'.extBut hne] hs'
 done:=λ s Q E st hE=>dw hh st.1 st.2 (by simp) hE
theorem jH(l:P6)(items:P9 F8)(n:Nat)(dct:P8 P6)(sl:P9 (P8 F8)) :
  Meets (Builtin.«enumerate.__new__» %[[.type "enumerate",.ref l]|[]]) (λ _ R s=>s.heap.get? l=some { cls:=.type "tuple",dict:=dct,data:=.seq items n,slots:=sl } /\
   R (.ok (.ret (.ref (s.heap.push { cls:=.type "tuple_iterator",data:=.fields #[.ref l,.int 0 0] }).objs.size)))
    { s with heap:=(s.heap.push { cls:=.type "tuple_iterator",data:=.fields #[.ref l,.int 0 0] }).push { cls:=.type "enumerate",data:=.fields #[.none,.bool false,.ref s.heap.objs.size,rawInt 0,.none,.none] } }) :=
 .of_wp λ prog w A R s h=>by
  obtain⟨hp,g,d,tk,os⟩:=s;obtain⟨hl,h⟩:=h;have hsub:=sub_enumerate;have hL:Heap.IsTuple (Shared.heap %[hp,g,d,tk|os]) l items:=%[_,hl,Y,n|Y]
  wp_walk using Qb hl
  refine wpAny_stack_any λ st=>A2 ?_
  split
  ·rename_i c _ _ _ _ _
   cases(c == Value.type "enumerate")
   ·wp_walk using Qb hl,QW hL
    exact%[_,Y|h]
   ·wp_walk using Qb hl,QW hL
    exact%[_,Y|h]
  ·wp_walk using Qb hl,QW hL
   exact%[_,Y|h]
section
variable{prog:F5}{w:F7}{A:Around}{E:F8->F4->Prop}{s:F4}
theorem gE{l:P6}{items:P9 F8}{Q:F8->F4->Prop}(hL:s.heap.IsTuple l items)
  (h:∀h',IsEnum h' (s.heap.objs.size+1) s.heap.objs.size 0 .none->h'.IsTupleIter s.heap.objs.size l 0->h'.objs.size=s.heap.objs.size+2 ->
   (∀b o,s.heap.get? b=some o->h'.get? b=some o)->Q (.ref (s.heap.objs.size+1)) { s with heap:=h' }) :
  wpAny (model prog w) A (call (.type "enumerate") [.ref l]) Q E s:=by
 obtain⟨⟨c,dct,dt,sl⟩,hl,hc,n,hd⟩:=hL
 replace hc:c=.type "tuple" := hc
 replace hd:dt=.seq items n:=hd
 subst hc hd;refine callType_new F.called_enumerate ∅ (F.typeCall_enumerate_1 _) (F.newCall_enumerate_1 _) (λ obj=>F.args_object_init_2 obj _) F.entry_enumerate_new
  (jH l items n dct sl) %[hl|?_]
 have hz:(s.heap.push { cls:=.type "tuple_iterator",data:=.fields #[.ref l,.int 0 0] }).objs.size=s.heap.objs.size+1:=QP ..;show _/\_;rw[hz];have he:IsEnum ((s.heap.push { cls:=.type "tuple_iterator",data:=.fields #[.ref l,.int 0 0] }).push
   { cls:=.type "enumerate",data:=.fields #[.none,.bool false,.ref s.heap.objs.size,rawInt 0,.none,.none] }) (s.heap.objs.size+1) s.heap.objs.size 0 .none:=by
  have:=A8 (s.heap.push { cls:=.type "tuple_iterator",data:=.fields #[.ref l,.int 0 0] })
   (o:={ cls:=.type "enumerate",data:=.fields #[.none,.bool false,.ref s.heap.objs.size,rawInt 0,.none,.none] }) rfl
  rw[hz]at this;exact this
 refine%[%[_,he|Y]|h _ he %[_,A7 _ (A8 _ rfl),Y|Y] (by rw[QP,hz]) λ b o x=>A7 _ (A7 _ x)]
end
end PySem
namespace L2
open PySem PySem.Spec PyProof.Rows
def Ite(f:QA V->HO)(l:P6):It :=
  ⟨λ i H=>∃xs x,H l=some (f xs)/\xs[i]?=some x,
   λ i H v H'=>∃p xs x,H p=none/\v=.ref p/\H'=upd H p (.tup [.int i,x])/\H l=some (f xs)/\xs[i]?=some x,
   λ i H=>∃xs,H l=some (f xs)/\xs.length<=i⟩
section
variable{X:Cx}{QC:QA (P6×Obj)}{σ:St}{H:Hp}{s:F4}
theorem kP{f:QA V->HO}{tn:Nat->Heap->Prop}{es:QA Expr}{kk:Nat}{tp:Pos}{e it l:P6}{i:Nat}{xs:QA V}{x:V}{u:F8}{tk:Nat}{h':Heap}{E:F8->F4->Prop}(hne:e≠it)(I:Inv X QC σ H s)(hf:∀b∈[e,it],gL X QC H b)(hl:H l=some (f xs))(hx:xs[i]?=some x)
  (ho:∀b∈[e,it],b < s.heap.objs.size) (r:RelV x u) (b1:IsEnumOut h' e it ((i:Int)+1) u s.heap.objs.size) (b3:h'.get? s.heap.objs.size=some { cls:=.type "tuple",data:=.seq #[.int i tk,u] })
  (bk:∀b o,b≠e->b≠it->s.heap.get? b=some o->h'.get? b=some o) (hn:∀h'',IsEnum h'' e it ((i+1:Nat):Int) u->Heap.SameBut e h' h''->tn (i+1) h'') :
  wpAny (model X.prog X.w) X.A (letOwnedTupleGo (.Tuple es kk tp) (.ref e) (.ref s.heap.objs.size)) (λ _ s2=>∃x H',Inv X QC σ H' s2/\RelV x (.ref s.heap.objs.size)/\(Ite f l).yld i H x H'/\tn (i+1) s2.heap/\∀b∈[e,it],H' b=none) E { s with heap:=h',toks:=tk+1 }:=by
 refine wpAny_letOwnedTupleGo_enum b1 λ h'' c1 cs=>?_;have es':e < s.heap.objs.size:=ho e (by simp);have k2:∀b o,b∉[e,it]->s.heap.get? b=some o->h''.get? b=some o:=λ b o hb q=>by simp only[G5,J1,QO,not_or]at hb;exact cs.extBut b o hb.1 (bk b o hb.1 hb.2 q)
 have I1:Inv X QC σ H { s with heap:=h'',toks:=tk+1 }:=I.turnedN (t':=tk+1) hf k2;have hp:h''.get? s.heap.objs.size=some { cls:=.type "tuple",data:=.seq #[.int i tk,u] }:=cs.extBut _ _ (O3 es') b3;have hn0:H s.heap.objs.size=none:=I.hok.fresh (B3 _);have fpk:=I.fpOk (H':=H) (B3 _) hn0;have I2:Inv X QC σ (upd H s.heap.objs.size (.tup [.int i,x])) { s with heap:=h'',toks:=tk+1 }:=I1.track fpk I.sz %[by show 2<=sizeLine;decide,[.int i tk,u],.cons %[tk|Y] (.cons r .nil),_,hp,Y,_|Y];refine%[.ref s.heap.objs.size,_,I2,Y,%[_,xs,x,hn0,Y,Y,hl|hx],hn h'' c1 cs|λ b hb=>?_];rw[ap (B9 (ho b hb))];exact(hf b hb).1
end
theorem om{P:F5}{w:F7}{K:C4}{es:QA Expr}{kk:Nat}{tp:Pos}(l e it:P6)(hne:e≠it) :
  Turn P w K (.Tuple es kk tp) (Ite .lst l) [e,it] e (λ i h=>(∃old,IsEnum h e it i old)/\h.IsListIter it l i) where
 mem:=by simp
 obj:=λ i h st b hb=>by
  obtain⟨⟨old,a1⟩,⟨o2,a2,_,d2⟩⟩:=st;simp only[G5,J1,QO]at hb;rcases hb with rfl | rfl
  ·exact%[_,a1|λ v q=>by cases q]
  ·exact%[_,a2|λ v q=>by rw[d2]at q;cases q]
 keep:=λ i h h' st k=>by obtain⟨⟨old,a1⟩,a2⟩:=st;exact%[%[old|k e (by simp) _ a1]|a2.at λ o q=>k it (by simp) o q]
 item:=by
  intro X hP hw hK hc i QC s σ H E I hf st hg;subst hP hw hK;obtain⟨⟨old,a1⟩,a2⟩:=st;obtain⟨xs,x,e1,ex⟩:=hg;obtain⟨its,rv,p1,_⟩:=I.list (G1 e1);obtain⟨u,hu,r⟩:=rv.get ex;have ho:∀b∈[e,it],b < s.heap.objs.size:=λ b hb=>by
   obtain⟨o2,a2',_⟩:=a2;simp only[G5,J1,QO]at hb;rcases hb with rfl | rfl
   ·exact A9 a1
   ·exact A9 a2'
  refine wpAny_pyNext_enum_item a1 a2 p1.isList (x:=u) (by simpa using hu) hne λ h' b1 b2 b3 b4 bk=>%[_,Y|?_]
  exact kP (tn:=λ i h=>(∃old,IsEnum h e it i old)/\h.IsListIter it l i) hne I hf e1 ex ho r b1 b3 bk λ h'' c1 cs=>%[%[u|c1]|b2.extBut cs.extBut (Ne.symm hne)]
 done:=by
  intro X hP hw hK hc i QC s σ H E I hf st hg;subst hP hw hK;obtain⟨⟨old,a1⟩,a2⟩:=st;obtain⟨xs,e1,ex⟩:=hg;obtain⟨its,rv,p1,_⟩:=I.list (G1 e1);have lv:=rv.length;refine wpAny_pyNext_enum_end (I.ok.hd hc) a1 a2 p1.isList (by simp;lia) λ h' bk=>%[Y|?_]
  exact I.turnedN (t':=s.toks) hf λ b o hb q=>by simp only[G5,J1,QO,not_or]at hb;exact bk b o hb.2 q
 self:=λ _ _ _ _ _ st h=>by obtain⟨⟨old,a1⟩,_⟩:=st;exact wpAny_pyIter_enum a1 h
theorem oq{P:F5}{w:F7}{K:C4}{es:QA Expr}{kk:Nat}{tp:Pos}(l e it:P6)(hne:e≠it) :
  Turn P w K (.Tuple es kk tp) (Ite .tup l) [e,it] e (λ i h=>(∃old,IsEnum h e it i old)/\h.IsTupleIter it l i) where
 mem:=by simp
 obj:=λ i h st b hb=>by
  obtain⟨⟨old,a1⟩,⟨o2,a2,_,d2⟩⟩:=st;simp only[G5,J1,QO]at hb;rcases hb with rfl | rfl
  ·exact%[_,a1|λ v q=>by cases q]
  ·exact%[_,a2|λ v q=>by rw[d2]at q;cases q]
 keep:=λ i h h' st k=>by obtain⟨⟨old,a1⟩,a2⟩:=st;exact%[%[old|k e (by simp) _ a1]|a2.at λ o q=>k it (by simp) o q]
 item:=by
  intro X hP hw hK hc i QC s σ H E I hf st hg;subst hP hw hK;obtain⟨⟨old,a1⟩,a2⟩:=st;obtain⟨xs,x,e1,ex⟩:=hg;obtain⟨its,rv,p1,_⟩:=I.tuple (G0 e1);obtain⟨u,hu,r⟩:=rv.get ex;have lt:i < its.toArray.size:=by simp;exact(A6.mp hu).1
  have ho:∀b∈[e,it],b < s.heap.objs.size:=λ b hb=>by
   obtain⟨o2,a2',_⟩:=a2;simp only[G5,J1,QO]at hb;rcases hb with rfl | rfl
   ·exact A9 a1
   ·exact A9 a2'
  have nl:∀b∈[e,it],l≠b:=λ b hb q=>by rw[q,(hf b hb).1]at e1;cases e1
  have p1':s.heap.IsTuple l its.toArray:=p1;have DD:Draws X.prog X.w X.A.in1 it [it,l] its.toArray.size (λ i v=>its.toArray[i]?=some v) (λ i h=>h.IsTupleIter it l i/\h.IsTuple l its.toArray):=vb (show X.A.in1.handled=none from I.ok.hd hc) it l (nl it (by simp)) its.toArray;refine wpAny_pyNext_enum_itemD DD a1 %[a2|p1'] lt hne (by simp only[G5,J1,QO,not_or];exact%[hne|Ne.symm (nl e (by simp))]) λ x' h' tk px b1 b2 b3 b4 bk=>%[_,Y|?_]
  have hu':its.toArray[i]?=some u:=by simpa using hu
  have eu:u=x':=B8 (hu'.symm.trans px);subst eu;exact kP (tn:=λ i h=>(∃old,IsEnum h e it i old)/\h.IsTupleIter it l i) hne I hf e1 ex ho r b1 b3 bk λ h'' c1 cs=>%[%[u|c1]|b2.1.extBut cs.extBut (Ne.symm hne)]
 done:=by
  intro X hP hw hK hc i QC s σ H E I hf st hg;subst hP hw hK;obtain⟨⟨old,a1⟩,a2⟩:=st;obtain⟨xs,e1,ex⟩:=hg;obtain⟨its,rv,p1,_⟩:=I.tuple (G0 e1);have lv:=rv.length;have p1':s.heap.IsTuple l its.toArray:=p1;have hT:s.TypeIs (.ref e) "enumerate" := %[_,a1|Y]
  unfold pyNext;refine A0 (wpAny_attempt (wpAny_callSpecial?_slot (name:=Str.ofString "__next__") hT F.slot_enumerate_next
   (F1 F.slot_enumerate_next hT F.entry_enumerate_next ?_ (F.args_enumerate_next_1 _))))
  show wpAny _ _ (field (.ref e) 2 >>= _) _ _ _;refine A0 (QZ a1 rfl (x:=.ref it) rfl ?_);refine A0 (dw (I.ok.hd hc) a2 p1' (by simp;lia) λ h' x he' hx'=>?_);obtain⟨o,ho,hc⟩:=hx';refine A0 (wpAny_isInstance (T := "StopIteration") (b:=true) %[o,ho|hc] isSubtype_stop ?_);refine A2 %[rfl|?_];exact I.turnedN (t':=s.toks) hf λ b o hb q=>by simp only[G5,J1,QO,not_or]at hb;exact he' b o hb.2 q
 self:=λ _ _ _ _ _ st h=>by obtain⟨⟨old,a1⟩,_⟩:=st;exact wpAny_pyIter_enum a1 h
def Gu(ta:TA):TI:=λ σ H R=>ta σ H λ vs H1=>∃l xs,vs=[.ref l]/\((H1 l=↥xs/\R (Ite .lst l) H1)\/(H1 l= ~~~xs/\R (Ite .tup l) H1))
theorem qJ{X:Cx}{a:Expr}{ta:TA}{p pos tp:Pos}{es:QA Expr}{kk:Nat}(hg:Gl X "enumerate")(hm:X.mg "enumerate" = none)(ha:PA X [a] ta)
  (hs:starEach [a] X.env=[(false,eval a X.env)]:=by rfl) :
  PI X (.Tuple es kk tp) (.Call (.Name "enumerate" p) [a] [] pos) (Gu ta):=by
 intro QC s σ H R I h;refine Call_ (fh I hg hm PyProof.Rows.boot_enumerate (QM (thn (ha pos QC s σ H _ I h) ?_) (by rw[hs];rfl) (by rfl)));rintro us s1 ⟨vs,H1,I1,r1,q1⟩;obtain⟨l,xs,rfl,q⟩:=q1;cases r1 with
 | cons r rr=>
  cases rr;cases r;rcases q with⟨e1,q⟩ | ⟨e1,q⟩
  ·obtain⟨its1,rv1,p1,_⟩:=I1.list (G1 e1);refine call_enumerate_list p1.isList λ h' z1 z2 sz keep=>?_;have I2:Inv X QC σ H1 { s1 with heap:=h' }:=I1.kept (t':=s1.toks) keep;refine wpAny_pyIter_enum z1 %[s1.heap.objs.size+1,[s1.heap.objs.size+1,s1.heap.objs.size],_,_,H1,rfl,I2,om l _ _ (Nat.succ_ne_self _),%[%[_|z1]|z2],λ b hb=>?_|q];have hb':s1.heap.objs.size<=b:=by simp only[G5,J1,QO]at hb;rcases hb with rfl | rfl <;> lia
   exact I1.fpOk hb' (I1.hok.fresh hb')
  ·obtain⟨its1,rv1,p1,_⟩:=I1.tuple (G0 e1);have p1':s1.heap.IsTuple l its1.toArray:=p1;refine gE p1' λ h' z1 z2 sz keep=>?_;have I2:Inv X QC σ H1 { s1 with heap:=h' }:=I1.kept (t':=s1.toks) keep;refine wpAny_pyIter_enum z1 %[s1.heap.objs.size+1,[s1.heap.objs.size+1,s1.heap.objs.size],_,_,H1,rfl,I2,oq l _ _ (Nat.succ_ne_self _),%[%[_|z1]|z2],λ b hb=>?_|q];have hb':s1.heap.objs.size<=b:=by simp only[G5,J1,QO]at hb;rcases hb with rfl | rfl <;> lia
   exact I1.fpOk hb' (I1.hok.fresh hb')
theorem vc{f:QA V->HO}(hf:∀xs ys,f xs=f ys->xs=ys){l:P6}{xs:QA V}{g:TG}{tb:TS}{D:Ends}{σ:St}{H:Hp}(Pv:Nat->St->Hp->Prop)(h0:Pv 0 σ H)(hk:∀i σ H',Pv i σ H'->H' l=some (f xs))
  (ht:∀i x p σ H,xs[i]?=some x->H p=none->Pv i σ H->g (.ref p) σ (upd H p (.tup [.int i,x])) λ σ2 H2=>tb { D with nx:=Pv (i+1),ct:=Pv (i+1),bk:=D.nx } σ2 H2) (hd:∀σ H,Pv xs.length σ H->D.nx σ H) :
  ∃W:Nat->Nat->St->Hp->Prop,(∃m,W 0 m σ H)/\∀i m σ H,W i m σ H ->
   ((Ite f l).stop i H/\D.nx σ H)\/((Ite f l).go i H/\∃N:St->Hp->Prop,(∀σ' H',N σ' H'->∃m',m' < m/\W (i+1) m' σ' H')/\∀x H',(Ite f l).yld i H x H'->g x σ H' λ σ2 H2=>tb { D with nx:=N,ct:=N,bk:=D.nx } σ2 H2):=by
 refine%[λ i m σ H=>m=xs.length - i/\i<=xs.length/\Pv i σ H,%[xs.length,by simp,E6 _|h0]|?_];rintro i m σ H ⟨rfl,hi,p⟩;have e1:=hk i σ H p
 by_cases hlt:i < xs.length
 ·refine .inr %[%[xs,xs[i],e1|by simp[hlt]],Pv (i+1),λ σ' H' p'=>%[xs.length - (i+1),⋯,Y,hlt|p']|λ v H' y=>?_];obtain⟨q,xs',x,hq,rfl,rfl,e1',ex⟩:=y;rw[e1]at e1';cases hf _ _ (B8 e1');exact ht i x q σ H ex hq p
 ·have e:i=xs.length:=⋯
  subst e;exact .inl %[%[xs,e1|B3 _]|hd σ H p]
end L2
namespace Pc
open PySem L2
def bm(k:Kd):Bool:=k.tu && !decide (k.w=k.h)
def lyT(i:Nat)(k:Kd):QA (Nat×Bool):=(i,false) :: if bm k=true then[(i,true)]else[]
def lyK:QA Kd->Nat->QA (Nat×Bool)
 | [],_=>[]
 | k :: r,i=>lyT i k ++ lyK r (i+1)
def mM(K:C4):Sp:=λ vs H Q _=>∃(a:P6)(k:Kd),vs=[.ref a]/\H a= ~~~(kdV k)/\Q (.bl (bm k)) H
def gp(ks:QA Kd)(x t:V):Bool:=match x,t with
 | .int i,.bl b=>decide (0<=i) && match ks[i.toNat]? with
  | some k=>!b || bm k
  | none=>false
 | _,_=>false
def fU(K:C4)(C:P6):Sp:=λ vs H Q _=>∃(s:P6)(b:Int)(ks:QA Kd)(x t:V)(T U:String),vs=[.ref s,x,t]/\ShopAt C H s b ks/\Ty K H x T/\Ty K H t U/\Q (.bl (gp ks x t)) H
end Pc
namespace L2
open PySem PySem.Spec PyProof.Rows
section
variable{X:Cx}
inductive rz_op_inD(K:C4)(x:V)(y:V)(H:Hp)(Q:VK):Prop
|mk(d xs:_)(_:DatV K H x d)(_:DatV K H y (.list xs))(_:SeqAt.shaped (.list xs)=true)(_:SeqAt.shaped d=true)(_:(∀y∈xs,SeqAt.noMix y d=true))(_:Q (.bl (decide (countIn d xs≠0))) H)
theorem fC{k:Nat}{C:P6}{ps:QA Str}{sp:Sp}{m:Str}{o:Expr}{e:Expr}{es:QA Expr}{ta:TE}{t:TA}{apos pos:Pos}{pl:Sem Bool}(he:PE X o ta)(c:Cls X.K C)(D:Mn X.prog X.w X.K X.mg X.base C m ps k sp)(hr:Room k X.A)(ha:PA X (e :: es) t)
  (hst:starEach (e :: es) X.env=(false,eval e X.env) :: starEach es X.env:=by rfl) (hpl:(backTo pos (starEach es X.env)).any (·.1)=false:=by rfl)
  (ht:eval (.Call (.Attribute o m apos) (e :: es) [] pos) X.env=(do
   let ov<-eval o X.env
   standAt apos.atName
   let (f,first)<-holding [ov] (getMethod ov m pl)
   callWith pos f first (backTo pos (starEach (e :: es) X.env)) (backToKw pos (keywordEach [] X.env))):=by rfl):PE X (.Call (.Attribute o m apos) (e :: es) [] pos) (jw C m sp [] E0 ta t):=by
 obtain⟨f,fd,F,hb,hm⟩:=D;exact xL he c hm F hr hb .nil qF ha hst hpl ht
inductive rz_op_catT0(K:C4)(x:V)(y:V)(H:Hp)(Q:VK):Prop
|mk(a b ys:_)(_:x=.ref a)(_:y=.ref b)(_:SqT K H a [])(_:SqT K H b ys)(_:Q (.ref b) H)
theorem vd:OpR X (binaryOp .Add) (rz_op_catT0 X.K):=by
 intro QC s σ H x y v u Q I rx ry h;obtain⟨a,b,ys,rfl,rfl,ha,hb,q⟩:=h;cases rx;cases ry;obtain⟨its,r1,p1,_⟩:=I.tuple ha;obtain⟨its2,r2,p2,_⟩:=I.tuple hb;cases r1;obtain⟨⟨cls,dd,data,sl⟩,ho,hc,n,hd⟩:=p1;obtain⟨⟨cls2,dd2,data2,sl2⟩,ho2,hc2,n2,hd2⟩:=p2;simp only at hc hd hc2 hd2;subst hc hd hc2 hd2;exact concat_meets %[_,ho|rfl] %[_,ho2|rfl] noFill_tuple_add seq_tuple_add PySem.F.slot_tuple_add PySem.F.entry_tuple_add (PySem.F.args_tuple_add_2 _ _)
   (tuple_addW0 a b _ _ n n2 dd dd2 sl sl2 rfl) %[ho,ho2|%[.ref b,H,I,rfl|q]]
def Gv:R2:=λ x y H Q=>∃a b xs ys,x=.ref a/\y=.ref b/\H a= ~~~xs/\H b= ~~~ys/\xs.length+ys.length<=sizeLine /\
 ∀m H',(H'=H/\(m=a\/m=b))\/(H m=none/\H'=upd H m (.tup (xs ++ ys)))->H' m= ~~~(xs ++ ys)->Q (.ref m) H'
theorem xU:OpR X (binaryOp .Add) Gv:=by
 intro QC s σ H x y v u Q I rx ry h;obtain⟨a,b,xs,ys,rfl,rfl,ha,hb,hz,q⟩:=h
 by_cases hx:xs=[]
 ·subst hx;exact vd QC s σ H _ _ v u Q I rx ry %[a,b,ys,rfl,rfl,G0 ha,G0 hb|q b H (.inl %[rfl|.inr rfl]) hb]
 ·refine xO QC s σ H _ _ v u Q I rx ry %[a,b,xs,ys,rfl,rfl,G0 ha,G0 hb,hx,hz,λ e=>?_|λ e p hp=>q p _ (.inr %[hp|rfl]) af];subst e;exact q a H (.inl %[Y|.inl rfl]) (by rw[J7];exact ha)
end
end L2
namespace Pc
open PySem L2
abbrev Lp(x:Str):QA Nat:=x.cps.toList
theorem ve(x y:Str):Lp (x ++ y)=Lp x ++ Lp y:=Array.toList_append
end Pc
namespace L2
open PySem PySem.Spec PyProof.Rows
theorem mN:∀{ys:QA Str}{its:QA F8},Vals (ys.map V.str) its->StrsAre its ys
 | [],_,.nil=>.nil
 | y :: ys,_,.cons r t=>by
  obtain⟨tk,e⟩:=(show∃t,_=Value.str y t from r)
  subst e;exact .cons y tk (mN t)
section
variable{X:Cx}
theorem qK:MtR X "str.join" (λ x xs H Q=>∃sep p ys,x=.str sep/\xs=[.ref p]/\H p=↥(ys.map V.str)/\sep.length<=64/\(List.map (λ x:Str=>x.length) ys).sum+ys.length * 64<=16777216/\Q (.str (Txt.join sep ys)) H):=by intro QC s σ H x xs v us Q I rx rv h;obtain⟨sep,p,ys,rfl,rfl,hp,h1,h2,q⟩:=h;obtain⟨t,rfl⟩:=rx;obtain⟨u,rfl,ru⟩:=fu rv;cases ru;obtain⟨its,r,pl,hz⟩:=I.list (G1 hp);exact join_listC pl.isList (by simpa using mN r) h1 h2 λ t' k=>%[.str _,H,I.tok _,%[_|Y]|q]
inductive rz_call_int_text(xs:QA V)(H:Hp)(Q:VK):Prop
|mk(z n:_)(_:xs=[.str z])(_:intText? z=some n)(_:z.length<=640)(_:Q (.int n) H)
end
theorem lI:∀{ns:QA Int}{its:QA F8},Vals (ns.map V.int) its->IntsAre its ns
 | [],_,r=>by cases r;exact .nil
 | n :: ns,_,r=>by
  cases r with
  | cons r1 r2=>
   obtain⟨t,e⟩:=r1;subst e;exact .cons n t (lI r2)
section
variable{X:Cx}
inductive rz_call_divmodB(xs:QA V)(H:Hp)(Q:VK):Prop
|mk(i j:_)(_:xs=[.int i,.int j])(_:CDivB i j)(_:∀p,H p=none->Q (.ref p) (upd H p (.tup [.int (i / j),.int (i % j)])))
inductive rz_call_sortedI(K:C4)(xs:QA V)(H:Hp)(Q:VK):Prop
|mk(p:P6)(ns:QA Int)(_:xs=[.ref p])(_:SqL K H p (ns.map V.int))(_:ns.length < 64)(_:∀(l:P6)(ns':QA Int),H l=none->ns'.Perm ns->ns'.Pairwise (·<=·)->Q (.ref l) (upd H l (.lst (ns'.map V.int))))
inductive rz_call_sumI(K:C4)(xs:QA V)(H:Hp)(Q:VK):Prop
|mk(p:P6)(ns:QA Int)(_:xs=[.ref p])(_:SqL K H p (ns.map V.int))(_:Q (.int ns.sum) H)
theorem fV(hc:X.calm=true):de X (.builtin "sum") (rz_call_sumI X.K):=by
 intro QC s σ H xs us Q I r h;obtain⟨p,ns,rfl,hs,q⟩:=h;obtain⟨u,rfl,rfl⟩:=fu r;obtain⟨its,rv,pl,_⟩:=I.list hs;have hi:=lI rv;obtain⟨xs,e⟩:=hi.allInts.items;have pl':=pl.isList;rw[e]at pl';refine sum_intListG (I.ok.hd hc) pl' λ h' tk t' hk=>?_;have e2:preSum (numAt xs) xs.size=ns.sum:=by rw[preSum_eq,K1 (by simp),<- nums_intItems,<- e,show its.toArray.toList=its from rfl,hi.numsOf]
 rw[e2];exact%[.int ns.sum,H,I.kept hk,%[_|Y]|q]
theorem mO:∀{bs:QA Bool}{its:QA F8},Vals (bs.map V.bl) its->its=bs.map Value.bool
 | [],_,r=>by cases r;rfl
 | b :: bs,_,r=>by
  cases r with
  | cons r1 r2=>
   have e:_=Value.bool b:=r1;subst e;rw[J0,mO r2]
theorem sv(bs:QA Bool):(List.range bs.length).all (λ i=>bs.getD i false)=bs.all id:=by
 rw[PY,List.all_eq_true,List.all_eq_true];constructor
 ·intro h b hb;obtain⟨i,hi,e⟩:=O2 hb;have:=h i (List.mem_range.mpr hi);rw[N5,E9 hi]at this;simpa[e]using this
 ·intro h i hi;have hi':=List.mem_range.mp hi;rw[N5,E9 hi'];exact h _ (List.getElem_mem hi')
inductive rz_call_allB(K:C4)(xs:QA V)(H:Hp)(Q:VK):Prop
|mk(p:P6)(bs:QA Bool)(_:xs=[.ref p])(_:SqL K H p (bs.map V.bl))(_:Q (.bl (bs.all id)) H)
theorem sC(hc:X.calm=true):de X (.builtin "all") (rz_call_allB X.K):=by
 intro QC s σ H xs us Q I r h;obtain⟨p,bs,rfl,hs,q⟩:=h;obtain⟨u,rfl,rfl⟩:=fu r;obtain⟨its,rv,pl,_⟩:=I.list hs;have e:=mO rv;subst e;have hlt:p < s.heap.objs.size:=by obtain⟨_,_,e,_⟩:=pl;exact A9 e
 refine call_all_walk (wpAny_pyIter_list pl.isList ?_);refine%[_,_,_,_,_,_,λ i=>bs.getD i false,Y,Walks.list (A:=X.A.in1) (I.ok.hd hc) _ p (B9 hlt) _,%[%[_,A8 _ rfl,Y|Y]|pl.isList.push _],λ i v s' Q' E' hP hQ'=>?_|λ h' tk hk=>?_]
 ·have hP':(bs.map Value.bool)[i]?=some v:=by simpa using hP
  rw[J2]at hP';cases hb:bs[i]? with
  | none=>rw[hb]at hP';cases hP'
  | some b=>
   rw[hb]at hP';cases hP';have hQ2:Q' (bs.getD i false) s':=hQ';rw[N5,hb]at hQ2;exact F0 hQ2
 ·have e2:((bs.map Value.bool).toArray.size)=bs.length:=by simp
  rw[e2,sv];refine%[.bl (bs.all id),H,I.kept (h':=h') (t':=tk) (λ b o e=>hk b o ?_ (A7 _ e)),Y|q];intro z;rw[C9.mp z]at e;exact absurd (A9 e) (C8 _)
inductive rz_call_repr(K:C4)(xs:QA V)(H:Hp)(Q:VK):Prop
|mk(a d:_)(_:xs=[.ref a])(_:DatV K H (.ref a) d)(_:d.showable=true)(_:d.hasDict=false)(_:d.depth<=64)(_:d.shown.length<=sizeLine)(_:Q (.str d.shown) H)
def CMulB(i j:Int):Prop:=i.natAbs < 2 ^ 4096/\j.natAbs < 2 ^ 4096
theorem qL{k:Int}(h:k.natAbs < 2 ^ 4096):Builtin.Int.intBits k<=2 ^ 20:=by
 have e:(2:Nat) ^ 20=1048576:=∅
 unfold Builtin.Int.intBits
 split
 ·exact E6 _
 ·have:k.natAbs.log2 < 4096:=by
   rcases Nat.eq_zero_or_pos k.natAbs with h0 | hp
   ·rw[h0];decide
   ·exact(Nat.log2_lt (O3 hp)).mpr h
  lia
theorem CMulB.ok{i j:Int}(h:CMulB i j):IntMulOk i j:=.of_bits (qL h.1) (qL h.2)
theorem dJ:OpR X (binaryOp .Mult) (rI CMulB λ i j=>.int (i * j)):=opI λ _ _ _ _ _ _ _ hc q=>mul_int q hc.ok
end
theorem aH{α:Type}{xs:QA α}{i:Int}{v:α}(h0:0<=i)(h:xs[i.toNat]?=some v):atI xs i=some v:=by
 have e:i=((i.toNat:Nat):Int):=⋯
 have z:atI xs ((i.toNat:Nat):Int)=some v:=qE h;rw[<- e]at z;exact z
end L2
namespace Pc
open PySem L2
theorem vf{K:C4}{H:Hp}:∀ns:QA Int,DatVs K H (ns.map V.int) (ns.map PyData.int)
 | []=>.nil
 | n :: r=>.cons (.int n) (vf r)
end Pc
namespace L2
open PySem PySem.Spec PyProof.Rows
theorem lJ{X:Cx}(K:C4){x y:Str}{px py pos:Pos}{k:Nat}(hK:X.K=K)(hc:X.calm=true)(hN:X.N.Nodup)(h0:X.N[0]?=some x)(h1:X.N[1]?=some y)(l0:X.env.scope.names.lookup x=some .local)(l1:X.env.scope.names.lookup y=some .local) :
  PG X (.Tuple [.Name x px,.Name y py] k pos) (gTup K 2 (gCons (bU 0) (gCons (bU 1) mC))) :=
 hK ▸ aU hc (ah (ai hN h0 (.inl l0) (.inr l0)) (ah (ai hN h1 (.inl l1) (.inr l1)) aJ))
theorem mP{X:Cx}(K:C4){x y z:Str}{px py pz pos:Pos}{k:Nat}(hK:X.K=K)(hc:X.calm=true)(hN:X.N.Nodup)(h0:X.N[0]?=some x)(h1:X.N[1]?=some y)(h2:X.N[2]?=some z)(l0:X.env.scope.names.lookup x=some .local)(l1:X.env.scope.names.lookup y=some .local)(l2:X.env.scope.names.lookup z=some .local) :
  PG X (.Tuple [.Name x px,.Name y py,.Name z pz] k pos) (gTup K 3 (gCons (bU 0) (gCons (bU 1) (gCons (bU 2) mC)))) :=
 hK ▸ aU hc (ah (ai hN h0 (.inl l0) (.inr l0)) (ah (ai hN h1 (.inl l1) (.inr l1)) (ah (ai hN h2 (.inl l2) (.inr l2)) aJ)))
theorem vg{l1 l2:P6}{xs ys:QA V}{σ:St}{cap:QA Nat}{k:Nat}{g:TG}{tt:TT}{te:TE}{Q:QA V->Hp->Prop}{H:Hp}(Pv:Nat->QA V->Hp->Prop)(hn:xs.length=ys.length)
  (hk:∀i zs H',Pv i zs H'->H' l1=↥xs/\H' l2=↥ys) (h0:Pv 0 [] H)
  (hz:∀i zs H',i < xs.length->Pv i zs H'->zs.length < sizeLine)
  (ht:∀i x y p zs H',xs[i]?=some x->ys[i]?=some y->H' p=none->Pv i zs H'->g (.ref p) (bD σ cap k) (upd H' p (.tup [x,y])) λ σ2 H2=>leS (bD σ cap k) σ2/\tt σ2 H2 λ ok H3=>if ok=true then te σ2 H3 (λ v H4=>Nx xs.length Pv i (zs ++ [v]) H4)else Nx xs.length Pv i zs H3)
  (hd:∀zs H',Pv xs.length zs H'->zs.length<=sizeLine/\Q zs H'):∃W,(∃m,W 0 m [] H)/\eV σ cap k (Itz l1 l2) g tt te Q W:=by
 refine%[λ i m zs H'=>m=xs.length - i/\i<=xs.length/\Pv i zs H',%[_,Y,E6 _|h0]|?_];rintro i m zs H' ⟨rfl,hi,p⟩;obtain⟨e1,e2⟩:=hk i zs H' p
 by_cases hlt:i < xs.length
 ·have hx:xs[i]?=some xs[i]:=by simp[hlt]
  have hy:ys[i]?=some (ys[i]'⋯):=by simp[show i < ys.length by lia]
  refine .inr %[%[xs,ys,_,_,e1,e2,hx|hy],hz i zs H' hlt p|λ v H2 yl=>?_]
  ·obtain⟨q,xs',ys',x,y,hq,rfl,rfl,e1',e2',ex,ey⟩:=yl;rw[e1]at e1';cases e1';rw[e2]at e2';cases e2';exact ht i x y q zs H' ex ey hq p
 ·have e:i=xs.length:=⋯
  subst e;obtain⟨a1,a2⟩:=hd zs H' p;exact .inl %[%[xs,ys,e1,e2|.inl (B3 _)],a1|a2]
section
variable{X:Cx}
inductive rz_call_maxI(K:C4)(xs:QA V)(H:Hp)(Q:VK):Prop
|mk(p:P6)(ns:QA Int)(_:xs=[.ref p])(_:SqL K H p (ns.map V.int))(_:ns≠[])(_:∀m,m∈ns->(∀x∈ns,x<=m)->Q (.int m) H)
end
end L2
namespace PySem
def SqA:Bool->Heap->P6->P9 F8->Prop
 | true,h,l,xs=>h.IsTuple l xs
 | false,h,l,xs=>h.IsList l xs
def ItA:Bool->Heap->P6->P6->Nat->Prop
 | true,h,a,l,k=>h.IsTupleIter a l k
 | false,h,a,l,k=>h.IsListIter a l k
abbrev mQ(h:Heap)(T:P6)(vs:QA F8):Prop:=h.get? T=some { cls:=.type "tuple",data:=.seq vs.toArray }
theorem SqA.at{b:Bool}{h h':Heap}{l:P6}{xs:P9 F8}(x:SqA b h l xs)(e:∀o,h.get? l=some o->h'.get? l=some o):SqA b h' l xs:=by cases b <;> (obtain⟨o,ho,r⟩:=x;exact%[o,e _ ho|r])
theorem ItA.at{b:Bool}{h h':Heap}{a l:P6}{k:Nat}(x:ItA b h a l k)(e:∀o,h.get? a=some o->h'.get? a=some o):ItA b h' a l k:=by cases b <;> (obtain⟨o,ho,r⟩:=x;exact%[o,e _ ho|r])
theorem ItA.obj{b:Bool}{h:Heap}{a l:P6}{k:Nat}(x:ItA b h a l k):∃o,h.get? a=some o/\∀v,o.data≠.cell v:=by cases b <;> (obtain⟨o,ho,_,d⟩:=x;exact%[o,ho|λ v q=>by rw[d]at q;cases q])
abbrev fpZ(z TI TO:P6)(its:QA (Bool×P6×P6)):QA P6:=z :: TI :: TO :: its.map (·.2.1)
def StZ(f:F8)(z TI TO:P6)(its:QA (Bool×P6×P6))(i:Nat)(h:Heap):Prop :=
 IsZip h z TI TO f/\mQ h TI (its.map λ p=>.ref p.2.1)/\(∃os,os.length=its.length/\mQ h TO os)/\∀p∈its,ItA p.1 h p.2.1 p.2.2 i
section
variable{prog:F5}{w:F7}{A:Around}{E:F8->F4->Prop}{s:F4}
theorem vh{α:Type}{vs os:QA α}{n:Nat}{y:α}(hy:vs[n]?=some y)(ho:n < os.length):(vs.take n ++ os.drop n).set n y=vs.take (n+1) ++ os.drop (n+1):=by
 have h:=(A6.mp hy).1;have hl:(vs.take n).length=n:=by simp;lia
 rw[M8 ho,List.set_append_right _ _ ⋯,hl,Nat.sub_self,List.set_cons_zero,List.take_succ,hy];simp
theorem sD{b:Bool}{it l:P6}{i:Nat}{items}{Q:F8->F4->Prop}(hh:A.handled=none)(hit:ItA b s.heap it l i)(hl:SqA b s.heap l items)
  (hQ:∀x,items[i]?=some x->∀h',ItA b h' it l (i+1)->Heap.SameBut it s.heap h'->Q x { s with heap:=h' }) (hE:items[i]?=none->∀h' e,Heap.ExtBut it s.heap h'->(∃o,h'.get? e=some o/\o.cls=.type "StopIteration")->E (.ref e) { s with heap:=h' }) :
  wpAny (model prog w) A (Builtin.SmallTypes.nextOf (.ref it)) Q E s:=by
 cases hx:items[i]? with
 | none=>cases b;exact wpAny_nextOf_list_end hh hit hl hx (hE hx);exact dw hh hit hl hx (hE hx)
 | some x=>cases b;exact wpAny_nextOf_list_item hit hl hx (hQ x hx);exact eW hit hl hx (hQ x hx)
theorem iR{z TI TO:P6}{its:QA (Bool×P6×P6)}{k:Nat}{vs:QA F8}{Q:P8 F8->F4->Prop}(hh:A.handled=none)(nd:(fpZ z TI TO its).Nodup)(n0:its≠[])(hl:its.length<=9)(st:StZ .none z TI TO its k s.heap)(ha:∀p∈its,p.2.2∉fpZ z TI TO its)(hvl:vs.length<=its.length)
  (hv:∀ (j:Nat) p,its[j]?=some p->∃xs,SqA p.1 s.heap p.2.2 xs/\(j<=vs.length->xs[k]?=vs[j]?))
  (hQ:vs.length=its.length->∀h',StZ (rawInt s.heap.objs.size) z TI TO its (k+1) h'->mQ h' s.heap.objs.size vs->(∀c o,c∉fpZ z TI TO its->s.heap.get? c=some o->h'.get? c=some o)->Q (↑s.heap.objs.size) { s with heap:=h' })
  (hE:vs.length < its.length->∀h',(∀c o,c∉fpZ z TI TO its->s.heap.get? c=some o->h'.get? c=some o)->Q none { s with heap:=h' }):wpAny (model prog w) A (pyNext (.ref z)) Q E s:=by
 obtain⟨hz,hTI,⟨os,ho,hTO⟩,hi⟩:=st;have hT:s.TypeIs (.ref z) "zip" := %[_,hz|Y]
 unfold pyNext;refine A0 (wpAny_attempt (wpAny_callSpecial?_slot (name:=Str.ofString "__next__") hT F.slot_zip_next
  (F1 F.slot_zip_next hT F.entry_zip_next ?_ (F.args_zip_next_1 _))))
 show wpAny _ _ (field (.ref z) 2 >>= _) _ _ _;refine A0 (QZ hz rfl (x:=.bool false) rfl ?_);show wpAny _ _ (field (.ref z) 3 >>= _) _ _ _;refine A0 (QZ hz rfl (x:=.ref TI) rfl ?_);refine A0 (wpAny_seqItems hTI rfl ?_);have em:(its.map λ p=>Value.ref p.2.1).toArray.isEmpty=false:=by cases its with | nil=>exact absurd rfl n0 | cons a t=>simp
 dsimp only;rw[em];show wpAny _ _ (Builtin.SmallTypes.ownedTupleIsFree (.ref z) >>= _) _ _ _;refine A0 ?_;unfold Builtin.SmallTypes.ownedTupleIsFree;refine A0 (QZ hz rfl (x:=.none) rfl (A2 ?_));simp only[Qa];refine A0 (wpAny_rule ?_);refine A0 (QZ hz rfl (x:=.ref TO) rfl ?_);refine A0 (wpAny_setField_rec hz (by simp) λ h₁ hz₁ hs₁=>?_)
 replace hz₁:IsZip h₁ z TI TO .ellipsis:=hz₁
 simp only[N9,G5,not_or]at nd;obtain⟨⟨n1,n2,n3⟩,⟨n4,n5⟩,n6,n7⟩:=nd;refine A0 (wpAny_forIn_list _ (λ rest b s'=>b.1=none/\∃n h',rest=((its.map λ p=>Value.ref p.2.1).zipIdx).drop n/\n<=vs.length/\s'={ s with heap:=h' }/\IsZip h' z TI TO .ellipsis/\mQ h' TO (vs.take n ++ os.drop n)/\(∀ (j:Nat) p,its[j]?=some p->ItA p.1 h' p.2.1 p.2.2 (if j < n then k+1 else k))/\h'.objs.size=s.heap.objs.size/\∀c o,c≠z->c≠TO->c∉its.map (·.2.1)->s.heap.get? c=some o->h'.get? c=some o) _ ?_ ?_ _ _ ?_)
 ·rintro x rest b s' ⟨hb,n,h',hr,hn,rfl,hz',hTO',hi',hsz,hk⟩;obtain⟨b1,b2⟩:=b;cases(show b1=none from hb);have hnl:n < its.length:=by
   rcases Nat.lt_or_ge n its.length with h | h
   ·exact h
   ·rw[List.drop_of_length_le (by simpa using h)]at hr;cases hr
  have hp:its[n]?=some its[n]:=by simp[hnl]
  generalize its[n]=p at hp;have hm:p∈its:=B5 hp;have hx:x=(Value.ref p.2.1,n)/\rest=((its.map λ p=>Value.ref p.2.1).zipIdx).drop (n+1):=by
   have e:((its.map λ p=>Value.ref p.2.1).zipIdx)[n]?=some (Value.ref p.2.1,n):=by simp[hp]
   rw[M8 (by simpa using hnl)]at hr;cases hr;exact%[by simpa[E9 (show n < ((its.map λ p=>Value.ref p.2.1).zipIdx).length by simpa using hnl)]using e|Y]
  obtain⟨rfl,rfl⟩:=hx;obtain⟨xs,sq,ex⟩:=hv n p hp;have A1:=ha p hm;simp only[G5,not_or]at A1;have sq':SqA p.1 h' p.2.2 xs:=sq.at λ o e=>hk _ o A1.1 A1.2.2.1 A1.2.2.2 e;have it':=hi' n p hp;rw[QH (C8 n)]at it';have mi:p.2.1∈its.map (·.2.1):=M3 hm;have iz:p.2.1≠z:=λ e=>n3 (e ▸ mi);have iT:p.2.1≠TO:=λ e=>n6 (e ▸ mi);have ne:∀ (j:Nat) q,its[j]?=some q->j≠n->q.2.1≠p.2.1:=λ j q hj h e=>h ((List.getElem?_inj (by have:=(A6.mp hj).1;simpa using this) n7).mp (by simp[hj,hp,e]));dsimp only;refine A0 (wpAny_onRaise ?_);show wpAny _ _ (Builtin.SmallTypes.nextOf (.ref p.2.1) >>= _) _ _ _;refine A0 (sD hh it' sq' (λ y hy h₂ i₂ hs₂=>A2 ?_) λ hy h₂ e hs₂ he=>?_)
  ·have hnv:n < vs.length:=by
    rcases Nat.lt_or_ge n vs.length with h | h
    ·exact h
    ·rw[ex hn,C7 h]at hy;cases hy
   rw[ex hn]at hy;have hTO₂:=hs₂.extBut _ _ (Ne.symm iT) hTO';refine A0 (wpAny_seqItems hTO₂ rfl ?_);refine A0 (wpAny_updateSeq hTO₂ rfl ?_ ?_ ?_)
   ·refine A0 (wpAny_letGo (A2 ?_));have hs₃:=Heap.SameBut.update h₂ TO (Obj.mapSeq λ x=>x.setIfInBounds n y);refine%[Y,n+1,_,Y,hnv,Y,hs₃.extBut _ _ n2 (hs₂.extBut _ _ (Ne.symm iz) hz'),?_,λ j q hj=>?_,by rw[hs₃.1,hs₂.1,hsz]|λ c o c1 c2 c3 e=>hs₃.extBut _ _ c2 (hs₂.extBut _ _ (λ e'=>c3 (e' ▸ mi)) (hk c o c1 c2 c3 e))]
    ·show Heap.get? _ _=_;rw[Heap.get?_update_self _ hTO₂ rfl,<- vh hy ⋯];simp[Obj.mapSeq]
    ·have qT:q.2.1≠TO:=λ e=>n6 (e ▸ M3 (B5 hj));rcases Nat.lt_trichotomy j n with h | h | h
     ·have:=hi' j q hj;rw[QI h]at this;rw[QI ⋯];exact this.at λ o e=>hs₃.extBut _ _ qT (hs₂.extBut _ _ (ne j q hj ⋯) e)
     ·subst h;rw[hp]at hj;cases hj;rw[QI (E8 _)];exact i₂.at λ o e=>hs₃.extBut _ _ qT e
     ·have:=hi' j q hj;rw[QH ⋯]at this;rw[QH ⋯];exact this.at λ o e=>hs₃.extBut _ _ qT (hs₂.extBut _ _ (ne j q hj ⋯) e)
   ·exact C5 (by simp;lia) (show 9<=sizeLine by decide)
   ·exact C5 (by simp;lia) (show 9<=sizeLine+1 by decide)
  ·have hnv:vs.length<=n:=by rw[ex hn]at hy;exact List.getElem?_eq_none_iff.mp hy
   obtain⟨oe,hoe,hce⟩:=he;have hz₂:=hs₂ _ _ (Ne.symm iz) hz';have hez:e≠z:=λ x=>by subst x;rw[hz₂]at hoe;cases hoe;simp at hce
   refine wpAny_setField_rec hz₂ (by simp) λ h₃ _ hs₃=>A0 (wpAny_isInstance (T := "StopIteration") (b:=true) %[oe,hs₃.extBut _ _ hez hoe|hce] isSubtype_stop (A2 (hE ⋯ h₃ λ c o hc q=>?_)));simp only[G5,not_or]at hc;exact hs₃.extBut _ _ hc.1 (hs₂ _ _ (λ e'=>hc.2.2.2 (e' ▸ mi)) (hk c o hc.1 hc.2.2.1 hc.2.2.2 q))
 ·rintro⟨b1,b2⟩ s' ⟨hb,n,h',hr,hn,rfl,hz',hTO',hi',hsz,hk⟩;cases(show b1=none from hb);have hnl:its.length<=n:=by
   rcases Nat.lt_or_ge n its.length with h | h
   ·have:=QV List.length hr;simp at this;lia
   ·exact h
  have e1:vs.take n ++ os.drop n=vs:=by rw[List.drop_of_length_le ⋯,K1 ⋯,J7]
  rw[e1]at hTO';refine A0 (wpAny_seqItems hTO' rfl ?_);refine A0 (wpAny_newTuple ?_ (C5 (by simp;lia) (show 9<=sizeLine by decide)));have hzl:z < h'.objs.size:=A9 hz';show wpAny _ _ (Builtin.SmallTypes.ownedTupleHandOut (.ref z) (.ref h'.objs.size) >>= _) _ _ _;refine A0 ?_;unfold Builtin.SmallTypes.ownedTupleHandOut;refine A0 (wpAny_setField_rec (A7 _ hz') (by simp) λ h₇ hz₇ hs₇=>?_);refine wpAny_setField_rec hz₇ (by simp) λ h₈ hz₈ hs₈=>?_
  replace hz₈:IsZip h₈ z TI TO (rawInt h'.objs.size):=hz₈
  have up:∀c o,c≠z->h'.get? c=some o->h₈.get? c=some o:=λ c o c1 e=>hs₈.extBut _ _ c1 (hs₇.extBut _ _ c1 (A7 _ e));have hT₈:mQ h₈ h'.objs.size vs:=hs₈.extBut _ _ (O3 hzl) (hs₇.extBut _ _ (O3 hzl) (A8 _ rfl));refine A2 %[_,rfl|?_];refine A2 ?_;rw[hsz]at hz₈ hT₈ ⊢;refine hQ ⋯ h₈ %[hz₈,up _ _ (Ne.symm n1) (hk _ _ (Ne.symm n1) n4 n5 hTI),%[vs,⋯|up _ _ (Ne.symm n2) hTO']|λ p hp=>?_] hT₈ λ c o hc e=>?_
  ·obtain⟨j,hj⟩:=List.getElem?_of_mem hp;have:=hi' j p hj;rw[QI (by have:=(A6.mp hj).1;lia)]at this;exact this.at λ o e=>up _ o (λ e'=>n3 (e' ▸ M3 hp)) e
  ·simp only[G5,not_or]at hc;exact up c o hc.1 (hk c o hc.1 hc.2.2.1 hc.2.2.2 e)
 ·exact%[Y,0,h₁,Y,E6 _,Y,hz₁,hs₁.extBut _ _ (Ne.symm n2) hTO,λ j p e=>by rw[QH (E7 _)];exact(hi p (B5 e)).at λ o q=>hs₁.extBut _ _ (λ e'=>n3 (e' ▸ M3 (B5 e))) q,hs₁.1|λ c o c1 _ _ e=>hs₁.extBut _ _ c1 e]
structure ZIts(h h':Heap)(its:QA (Bool×P6×P6)):Prop where
 nd:(its.map (·.2.1)).Nodup
 it:∀p∈its,h.objs.size<=p.2.1/\p.2.1 < h'.objs.size/\ItA p.1 h' p.2.1 p.2.2 0
 keep:∀c o,h.get? c=some o->h'.get? c=some o
 le:h.objs.size<=h'.objs.size
theorem ZIts.push{h h':Heap}{its:QA (Bool×P6×P6)}(Z:ZIts h h' its)(o:Obj):ZIts h (h'.push o) its :=
 %[Z.nd,λ p hp=>let ⟨a1,a2,a3⟩:=Z.it p hp;%[a1,by rw[QP];exact O0 a2|a3.at λ o e=>A7 _ e],λ c o e=>A7 _ (Z.keep c o e)|by rw[QP];have:=Z.le;lia]
theorem ZIts.add{h h':Heap}{its:QA (Bool×P6×P6)}(Z:ZIts h h' its){o:Obj}{b:Bool}{l:P6}(i:ItA b (h'.push o) h'.objs.size l 0):ZIts h (h'.push o) (its ++ [(b,h'.objs.size,l)]):=by
 have P:=Z.push o;refine%[?_,λ p hp=>?_,P.keep|P.le]
 ·rw[I9,List.nodup_append];refine%[P.nd,by simp|λ a ha c hc e=>?_];obtain⟨p,hp,rfl⟩:=K7.mp ha;simp at hc;exact B9 (Z.it p hp).2.1 (e.trans hc)
 ·rcases C2.mp hp with hp | hp
  ·exact P.it p hp
  ·cases C9.mp hp;exact%[Z.le,by rw[QP];exact E8 _|i]
theorem ou{ls:QA (Bool×P6)}{Q:QA F8->F4->Prop}(hs:∀p∈ls,∃xs,SqA p.1 s.heap p.2 xs)
  (hQ:∀(h':Heap)(its:QA (Bool×P6×P6)),its.map (λ p=>(p.1,p.2.2))=ls->ZIts s.heap h' its->Q (its.map λ p=>.ref p.2.1) { s with heap:=h' }) :
  wpAny (model prog w) A (Builtin.SmallTypes.iterAll (ls.map λ p=>.ref p.2)) Q E s:=by
 unfold Builtin.SmallTypes.iterAll;refine A0 (wpAny_forIn_list _ (λ rest b s'=>∃(its:QA (Bool×P6×P6))(ls':QA (Bool×P6))(h':Heap),b=(its.map λ p=>Value.ref p.2.1).toArray/\rest=(ls'.map λ p=>Value.ref p.2)/\its.map (λ p=>(p.1,p.2.2)) ++ ls'=ls/\s'={ s with heap:=h' }/\ZIts s.heap h' its) _ ?_ ?_ _ _ %[[],ls,s.heap,rfl,rfl,rfl,rfl,.nil,by simp,λ _ _ e=>e|B3 _])
 ·rintro x rest b s' ⟨its,ls',h',rfl,hr,he,rfl,Z⟩;cases ls' with
  | nil=>cases hr
  | cons p t=>
   obtain⟨b,l⟩:=p;cases hr;obtain⟨xs,sq⟩:=hs (b,l) (by rw[<- he];simp);have sq':SqA b h' l xs:=sq.at λ o e=>Z.keep _ o e;refine A0 (QL ?_);cases b
   ·exact wpAny_pyIter_list sq' (A2 %[its ++ [(false,h'.objs.size,l)],t,_,by simp,rfl,by rw[<- he];simp,rfl|Z.add %[_,A8 _ rfl,rfl|rfl]])
   ·exact QW sq' (A2 %[its ++ [(true,h'.objs.size,l)],t,_,by simp,rfl,by rw[<- he];simp,rfl|Z.add %[_,A8 _ rfl,rfl|rfl]])
 ·rintro b s' ⟨its,ls',h',rfl,hr,he,rfl,Z⟩;cases ls' with
  | cons p t=>cases hr
  | nil=>exact A2 (by simpa using hQ h' its (by simpa using he) Z)
structure ZipNew(h h':Heap)(ls:QA (Bool×P6))(z TI TO:P6)(its:QA (Bool×P6×P6)):Prop where
 src:its.map (λ p=>(p.1,p.2.2))=ls
 nd:(fpZ z TI TO its).Nodup
 old:∀a∈fpZ z TI TO its,h.objs.size<=a
 st:StZ .none z TI TO its 0 h'
 keep:∀c o,h.get? c=some o->h'.get? c=some o
theorem vi(ls:QA (Bool×P6))(hl:ls.length<=9) :
  Meets (Builtin.«zip.__new__» %[.type "zip" :: ls.map λ p=>.ref p.2|[]]) (λ _ R s=>(∀p∈ls,∃xs,SqA p.1 s.heap p.2 xs) /\
   ∀h' z TI TO its,ZipNew s.heap h' ls z TI TO its->R (.ok (.ret (.ref z))) { s with heap:=h' }) :=
 .of_wp λ prog w A R s h=>by
  obtain⟨hs,h⟩:=h;have nine:9<=sizeLine:=∅
  unfold Builtin.«zip.__new__» Builtin.SmallTypes.newClass;simp only[isType,sub_zip,pure_bind];show wpAny _ _ (Builtin.SmallTypes.iterAll (ls.map λ p=>.ref p.2) >>= _) _ _ _;refine A0 (ou hs λ h' its e Z=>?_);have len:its.length<=sizeLine:=by rw[<- e,G4]at hl;lia
  refine A0 (wpAny_newTuple ?_ (by simpa using len));refine A0 (wpAny_newTuple ?_ (by simpa using len));generalize h1:h'.push _=g;have e1:g.objs.size=h'.objs.size+1:=by rw[<- h1,QP]
  generalize h2:g.push _=g2;have e2:g2.objs.size=h'.objs.size+2:=by rw[<- h2,QP,e1]
  show wpAny _ _ (newObj (.type "zip") (.fields #[.none,.bool false,.bool false,.ref h'.objs.size,.ref g.objs.size]) >>= _) _ _ _;refine A0 (F2 ?_);have Z2:ZIts s.heap g2 its:=h2 ▸ (h1 ▸ Z.push _:ZIts s.heap g its).push _;have g1:mQ g h'.objs.size (its.map λ p=>.ref p.2.1):=h1 ▸ A8 _ rfl;have gi:mQ g2 h'.objs.size (its.map λ p=>.ref p.2.1):=h2 ▸ A7 _ g1;have go:mQ g2 g.objs.size ((its.map λ p=>Value.ref p.2.1).map λ _=>.none):=h2 ▸ A8 _ rfl;rw[N0]at go;have Z3:=Z2.push { cls:=.type "zip",data:=.fields #[.none,.bool false,.bool false,.ref h'.objs.size,.ref g.objs.size] };have lt:∀a∈its.map (·.2.1),s.heap.objs.size<=a/\a < h'.objs.size:=λ a ha=>by obtain⟨p,hp,rfl⟩:=K7.mp ha;exact%[(Z.it p hp).1|(Z.it p hp).2.1]
  refine A2 %[_,rfl|h _ g2.objs.size h'.objs.size g.objs.size its %[e,?_,λ a ha=>?_,%[A8 _ rfl,A7 _ gi,%[_,by simp|A7 _ go]|λ p hp=>(Z3.it p hp).2.2]|Z3.keep]]
  ·simp only[N9,G5,not_or];exact%[%[O3 ⋯,O3 ⋯|λ x=>by have:=(lt _ x).2;lia],%[B9 ⋯|λ x=>by have:=(lt _ x).2;lia],λ x=>by have:=(lt _ x).2;lia|Z.nd]
  ·have le:=Z.le;simp only[G5]at ha;rcases ha with rfl | rfl | rfl | ha
   ·lia
   ·lia
   ·lia
   ·exact(lt _ ha).1
theorem sE{ls:QA (Bool×P6)}{Q:F8->F4->Prop}(hl:ls.length<=9)(hct:checkTypeCall "zip" %[ls.map λ p=>.ref p.2|[]]=pure ())(hcn:checkBuiltinCall "zip.__new__" %[.type "zip" :: ls.map λ p=>.ref p.2|[]]=pure ())
  (hok:∀obj,argsOk "object.__init__" %[obj :: ls.map λ p=>.ref p.2|[]]) (hs:∀p∈ls,∃xs,SqA p.1 s.heap p.2 xs) (h:∀h' z TI TO its,ZipNew s.heap h' ls z TI TO its->Q (.ref z) { s with heap:=h' }) :
  wpAny (model prog w) A (call (.type "zip") (ls.map λ p=>.ref p.2)) Q E s :=
 callType_new F.called_zip ∅ hct hcn hok F.entry_zip_new (vi ls hl) %[hs|λ h' z TI TO its Z=>show _/\_ from%[%[_,Z.st.1|rfl]|h h' z TI TO its Z]]
end
end PySem
namespace L2
open PySem PySem.Spec PyProof.Rows
def sqO:Bool->QA V->HO
 | true,xs=>.tup xs
 | false,xs=>.lst xs
theorem Inv.sq{X:Cx}{QC:QA (P6×Obj)}{σ:St}{H:Hp}{s:F4}(I:Inv X QC σ H s){b:Bool}{l:P6}{xs:QA V}(e:H l=some (sqO b xs)):∃its:QA F8,Vals xs its/\SqA b s.heap l its.toArray:=by
 cases b
 ·obtain⟨its,r,p,_⟩:=I.list (G1 e);exact%[its,r|p.isList]
 ·obtain⟨its,r,p,_⟩:=I.tuple (G0 e);exact%[its,r|p]
def RowN(H:Hp)(i:Nat):QA (Bool×P6)->QA V->Prop
 | [],vs=>vs=[]
 | p :: ls,[]=>(∃xs,H p.2=some (sqO p.1 xs)/\xs.length<=i)/\∀q∈ls,∃xs,H q.2=some (sqO q.1 xs)
 | p :: ls,v :: vs=>(∃xs,H p.2=some (sqO p.1 xs)/\xs[i]?=some v)/\RowN H i ls vs
def xV(ls:QA (Bool×P6)):It :=
 %[λ i H=>∃vs,RowN H i ls vs/\vs.length=ls.length,λ i H v H'=>∃p vs,H p=none/\v=.ref p/\H'=upd H p (.tup vs)/\RowN H i ls vs/\vs.length=ls.length|λ i H=>∃vs,RowN H i ls vs/\vs.length < ls.length]
section
variable{X:Cx}{QC:QA (P6×Obj)}{σ:St}{H:Hp}{s:F4}
theorem RowN.src{i:Nat}:∀{ls:QA (Bool×P6)}{vs:QA V},RowN H i ls vs->∀p∈ls,∃xs,H p.2=some (sqO p.1 xs)
 | [],_,_,p,hp=>by cases hp
 | q :: ls,[],h,p,hp=>by
  rcases G5.mp hp with rfl | hp
  ·obtain⟨xs,e,_⟩:=h.1;exact%[xs|e]
  ·exact h.2 p hp
 | q :: ls,v :: vs,h,p,hp=>by
  rcases G5.mp hp with rfl | hp
  ·obtain⟨xs,e,_⟩:=h.1;exact%[xs|e]
  ·exact RowN.src h.2 p hp
theorem RowN.vals(I:Inv X QC σ H s){i:Nat}:∀{ls:QA (Bool×P6)}{vs:QA V},RowN H i ls vs->∃us,Vals vs us/\∀ (j:Nat) p,ls[j]?=some p->∃xs,SqA p.1 s.heap p.2 xs/\(j<=us.length->xs[i]?=us[j]?)
 | [],vs,h=>by cases h;exact%[[],.nil|λ j p e=>by simp at e]
 | q :: ls,[],h=>by
  refine%[[],.nil|λ j p e=>?_];cases j with
  | zero=>
   cases e;obtain⟨xs,e,l⟩:=h.1;obtain⟨its,rv,p⟩:=I.sq e;exact%[_,p|λ _=>by simpa using by rw[<- rv.length];exact l]
  | succ j=>
   obtain⟨xs,e⟩:=h.2 p (B5 (by simpa using e));obtain⟨its,rv,p⟩:=I.sq e;exact%[_,p|λ h=>absurd h (by simp)]
 | q :: ls,v :: vs,h=>by
  obtain⟨xs,e,ev⟩:=h.1;obtain⟨us,r1,r3⟩:=RowN.vals I h.2;obtain⟨its,rv,p⟩:=I.sq e;obtain⟨u,hu,ru⟩:=rv.get ev;refine%[u :: us,.cons ru r1|λ j p' e'=>?_];cases j with
  | zero=>cases e';exact%[_,p|λ _=>by simpa using hu]
  | succ j=>
   obtain⟨ys,y1,y2⟩:=r3 j p' (by simpa using e');exact%[ys,y1|λ h=>by simpa using y2 (by simpa using h)]
end
theorem sG{P:F5}{w:F7}{K:C4}{es:QA Expr}{kk:Nat}{tp:Pos}{ls:QA (Bool×P6)}{z TI TO:P6}{its:QA (Bool×P6×P6)}(src:its.map (λ p=>(p.1,p.2.2))=ls)(nd:(fpZ z TI TO its).Nodup)(n0:its≠[])(hl:its.length<=9) :
  Turn P w K (.Tuple es kk tp) (xV ls) (fpZ z TI TO its) z (StZ .none z TI TO its) where
 mem:=by simp
 obj:=λ i h st b hb=>by
  obtain⟨a1,a2,⟨os,_,a3⟩,a4⟩:=st;simp only[G5]at hb;rcases hb with rfl | rfl | rfl | hb
  ·exact%[_,a1|λ v q=>by cases q]
  ·exact%[_,a2|λ v q=>by cases q]
  ·exact%[_,a3|λ v q=>by cases q]
  ·obtain⟨p,hp,rfl⟩:=K7.mp hb;exact(a4 p hp).obj
 keep:=λ i h h' st k=>by obtain⟨a1,a2,⟨os,l,a3⟩,a4⟩:=st;exact%[k z (by simp) _ a1,k TI (by simp) _ a2,%[os,l|k TO (by simp) _ a3]|λ p hp=>(a4 p hp).at λ o e=>k _ (by simp only[G5];exact .inr (.inr (.inr (M3 hp)))) o e]
 item:=by
  intro X hP hw hK hc i QC s σ H E I hf st ⟨vs,row,hvl⟩;subst hP hw hK src;obtain⟨a1,a2,⟨os,ol,a3⟩,a4⟩:=id st;obtain⟨us,rv,hu⟩:=row.vals I;have ul:=rv.length;rw[G4]at hvl;refine iR (I.ok.hd hc) nd n0 hl st (λ p hp hb=>?_) (vs:=us) ⋯ (λ j p e=>hu j (p.1,p.2.2) (by simp[e])) (λ _ h' ⟨b1,b2,⟨ot,ol',b3⟩,b4⟩ b5 bk=>%[_,Y|?_]) λ h=>⋯
  ·obtain⟨xs,e⟩:=row.src (p.1,p.2.2) (M3 (f:=λ p=>(p.1,p.2.2)) hp);rw[(hf _ hb).1]at e;cases e
  ·refine wpAny_letOwnedTupleGo_zip b1 λ h'' c1 cs=>?_;have zs:z < s.heap.objs.size:=A9 a1;have ne:∀b∈TI :: TO :: its.map (·.2.1),b≠z:=λ b hb e=>(N9.mp nd).1 (e ▸ hb);have I1:Inv X QC σ H { s with heap:=h'' }:=I.turnedN (t':=s.toks) hf λ b o hb e=>cs.extBut b o (λ e'=>hb (by simp[e'])) (bk b o hb e);have hn:H s.heap.objs.size=none:=I.hok.fresh (B3 _);have I2:Inv X QC σ (upd H s.heap.objs.size (.tup vs)) { s with heap:=h'' }:=I1.track (I.fpOk (H':=H) (B3 _) hn) I.sz %[C5 ⋯ (show 9<=sizeLine by decide),us,rv,_,cs.extBut _ _ (O3 zs) b5,Y,_|Y];have tn:StZ .none z TI TO its (i+1) h'':=%[c1,cs.extBut _ _ (ne TI (by simp)) b2,%[ot,ol'|cs.extBut _ _ (ne TO (by simp)) b3]|λ p hp=>(b4 p hp).at λ o e=>cs.extBut _ _ (ne _ (by simp only[G5];exact .inr (.inr (M3 hp)))) e]
   refine%[.ref s.heap.objs.size,_,I2,Y,%[_,vs,hn,Y,Y,row|by simpa using hvl],tn|λ b hb=>?_];have hbl:b < s.heap.objs.size:=by
    simp only[G5]at hb;rcases hb with rfl | rfl | rfl | hb
    ·exact zs
    ·exact A9 a2
    ·exact A9 a3
    ·obtain⟨p,hp,rfl⟩:=K7.mp hb;obtain⟨o,ho,_⟩:=(a4 p hp).obj;exact A9 ho
   rw[ap (B9 hbl)];exact(hf b hb).1
 done:=by
  intro X hP hw hK hc i QC s σ H E I hf st ⟨vs,row,hvl⟩;subst hP hw hK src;obtain⟨us,rv,hu⟩:=row.vals I;have ul:=rv.length;rw[G4]at hvl;refine iR (I.ok.hd hc) nd n0 hl st (λ p hp hb=>?_) (vs:=us) ⋯ (λ j p e=>hu j (p.1,p.2.2) (by simp[e])) (λ h=>⋯) λ _ h' bk=>%[Y|I.turnedN (t':=s.toks) hf bk]
  obtain⟨xs,e⟩:=row.src (p.1,p.2.2) (M3 (f:=λ p=>(p.1,p.2.2)) hp);rw[(hf _ hb).1]at e;cases e
 self:=λ _ _ _ _ _ st h=>wpAny_pyIter_zip st.1 h
theorem Turn.conv{P:F5}{w:F7}{K:C4}{tg:Expr}{J J':It}{fp:QA P6}{it:P6}{tn:Nat->Heap->Prop}(T:Turn P w K tg J fp it tn)(h1:∀i H,J'.go i H->J.go i H)(h2:∀i H v H',J.yld i H v H'->J'.yld i H v H')(h3:∀i H,J'.stop i H->J.stop i H):Turn P w K tg J' fp it tn :=
 %[T.mem,T.obj,T.keep,λ X a b c d i QC s σ H E I hf t g=>Qk (T.item X a b c d i QC s σ H E I hf t (h1 _ _ g)) (λ r s1 ⟨u,e,z⟩=>%[u,e|Qk z (λ _ s2 ⟨x,H',q1,q2,q3,q4⟩=>%[x,H',q1,q2,h2 _ _ _ _ q3|q4]) λ _ _ z=>z]) λ _ _ z=>z,λ X a b c d i QC s σ H E I hf t g=>T.done X a b c d i QC s σ H E I hf t (h3 _ _ g)|T.self]
theorem qM:∀{ls:QA (Bool×P6)}{us:QA F8},Vals (ls.map λ p=>V.ref p.2) us->us=ls.map λ p=>Value.ref p.2
 | [],_,.nil=>rfl
 | _ :: _,_,.cons r rr=>by cases r;exact QV _ (qM rr)
theorem xW{X:Cx}{a:Expr}{as:QA Expr}{ta:TA}{p pos tp:Pos}{es:QA Expr}{kk:Nat}{C:QA V->Hp->(It->Hp->Prop)->Prop}(hg:Gl X "zip")(hm:X.mg "zip" = none)(ha:PA X (a :: as) ta)
  (hs:starEach (a :: as) X.env=(false,eval a X.env) :: starEach as X.env) (hp:(backTo pos (starEach as X.env)).any (·.1)=false) (n:Nat) (hn:n < 9) (hct:∀vs:QA F8,vs.length=n+1->checkTypeCall "zip" %[vs|[]]=pure ()/\checkBuiltinCall "zip.__new__" %[.type "zip" :: vs|[]]=pure ()/\∀obj,argsOk "object.__init__" %[obj :: vs|[]])
  (hw:∀vs H1 R,C vs H1 R->∃(ls:QA (Bool×P6))(J:It),ls.length=n+1/\vs=ls.map (λ p=>.ref p.2)/\(∀p∈ls,∃xs,H1 p.2=some (sqO p.1 xs))/\R J H1/\(∀i H,J.go i H->(xV ls).go i H)/\(∀i H v H',(xV ls).yld i H v H'->J.yld i H v H')/\∀i H,J.stop i H->(xV ls).stop i H) :
  PI X (.Tuple es kk tp) (.Call (.Name "zip" p) (a :: as) [] pos) (λ σ H R=>ta σ H λ vs H1=>C vs H1 R):=by
 intro QC s σ H R I h;refine Call_ (fh I hg hm PyProof.Rows.boot_zip (QM (thn (ha pos QC s σ H _ I h) ?_) hs hp));rintro us s1 ⟨vs,H1,I1,r1,q1⟩;obtain⟨ls,J,ln,rfl,sq,q,c1,c2,c3⟩:=hw _ _ _ q1;have e:=qM r1;subst e;obtain⟨d1,d2,d3⟩:=hct (ls.map λ p=>Value.ref p.2) (by simpa using ln);refine sE ⋯ d1 d2 d3 (λ p hp=>?_) λ h' z TI TO its Z=>?_
 ·obtain⟨xs,e⟩:=sq p hp;obtain⟨_,_,q⟩:=I1.sq e;exact%[_|q]
 ·have il:its.length=n+1:=by rw[<- ln,<- Z.src,G4]
  exact wpAny_pyIter_zip Z.st.1 ⟨z,_,_,J,H1,Y,I1.kept (t':=s1.toks) Z.keep,(sG Z.src Z.nd (λ e=>by rw[e]at il;cases il) ⋯).conv c1 c2 c3,Z.st,λ b hb=>I1.fpOk (Z.old b hb) (I1.hok.fresh (Z.old b hb)),q⟩
def sqE(b c:Bool)(l1 l2:P6):It :=
  ⟨λ i H=>∃xs ys x y,H l1=some (sqO b xs)/\H l2=some (sqO c ys)/\xs[i]?=some x/\ys[i]?=some y,
   λ i H v H'=>∃p xs ys x y,H p=none/\v=.ref p/\H'=upd H p (.tup [x,y])/\H l1=some (sqO b xs)/\H l2=some (sqO c ys)/\xs[i]?=some x/\ys[i]?=some y,
   λ i H=>∃xs ys,H l1=some (sqO b xs)/\H l2=some (sqO c ys)/\(xs.length<=i\/ys.length<=i)⟩
theorem qN{X:Cx}(bb cc:Bool){a b:Expr}{ta:TA}{p pos tp:Pos}{es:QA Expr}{kk:Nat}(hg:Gl X "zip")(hm:X.mg "zip" = none)(ha:PA X [a,b] ta)
  (hs:starEach [a,b] X.env=[(false,eval a X.env),(false,eval b X.env)]:=by rfl) (hs2:starEach [b] X.env=[(false,eval b X.env)]:=by rfl) :
  PI X (.Tuple es kk tp) (.Call (.Name "zip" p) [a,b] [] pos) (λ σ H R=>ta σ H λ vs H1=>∃l1 l2 xs ys,vs=[.ref l1,.ref l2]/\H1 l1=some (sqO bb xs)/\H1 l2=some (sqO cc ys)/\R (sqE bb cc l1 l2) H1):=by
 refine xW hg hm ha (by rw[hs,hs2]) (by rw[hs2];rfl) 1 ⋯ (λ vs hv=>?_) λ vs H1 R %[l1,l2,xs,ys,e,e1,e2|q]=>%[[(bb,l1),(cc,l2)],_,Y,e,?_,q,?_,?_|?_]
 ·match vs,hv with
  | [x,y],_=>exact%[F.typeCall_zip_2 _ _,F.newCall_zip_2 _ _|λ obj=>F.args_object_init_3 obj _ _]
 ·simp only[G5,J1,QO];rintro p (rfl | rfl)
  ·exact%[_|e1]
  ·exact%[_|e2]
 ·rintro i H ⟨xs,ys,x,y,a1,a2,a3,a4⟩;exact%[[x,y],%[%[_,a1|a3],%[_,a2|a4]|Y]|Y]
 ·rintro i H v H' ⟨p,vs,a0,rfl,rfl,r,hl⟩
  match vs,r,hl with
  | [x,y],⟨⟨xs,a1,a3⟩,⟨ys,a2,a4⟩,_⟩,_=>exact%[p,xs,ys,x,y,a0,Y,Y,a1,a2,a3|a4]
 ·rintro i H ⟨xs,ys,a1,a2,a3⟩
  by_cases h:xs.length<=i
  ·refine%[[],%[%[_,a1|h]|?_]|by simp];rintro q hq;cases C9.mp hq;exact%[_|a2]
  ·exact⟨[xs[i]'⋯],⟨%[_,a1|by simp],%[_,a2|by rcases a3 with a | a;lia;exact a],by simp⟩,by simp⟩
theorem xX{X:Cx}{a b:Expr}{ta:TA}{p pos tp:Pos}{es:QA Expr}{kk:Nat}(hg:Gl X "zip")(hm:X.mg "zip" = none)(ha:PA X [a,b] ta)
  (hs:starEach [a,b] X.env=[(false,eval a X.env),(false,eval b X.env)]:=by rfl) (hs2:starEach [b] X.env=[(false,eval b X.env)]:=by rfl) :
  PI X (.Tuple es kk tp) (.Call (.Name "zip" p) [a,b] [] pos) (Ng ta):=qN false false hg hm ha hs hs2
def Gw(l1 l2:P6):It :=
  ⟨λ i H=>∃xs ys x y,H l1= ~~~xs/\H l2=↥ys/\xs[i]?=some x/\ys[i]?=some y,
   λ i H v H'=>∃p xs ys x y,H p=none/\v=.ref p/\H'=upd H p (.tup [x,y])/\H l1= ~~~xs/\H l2=↥ys/\xs[i]?=some x/\ys[i]?=some y,
   λ i H=>∃xs ys,H l1= ~~~xs/\H l2=↥ys/\(xs.length<=i\/ys.length<=i)⟩
def Gx(ta:TA):TI:=λ σ H R=>ta σ H λ vs H1=>∃l1 l2 xs ys,vs=[.ref l1,.ref l2]/\H1 l1= ~~~xs/\H1 l2=↥ys/\R (Gw l1 l2) H1
theorem qO{X:Cx}{a b:Expr}{ta:TA}{p pos tp:Pos}{es:QA Expr}{kk:Nat}(hg:Gl X "zip")(hm:X.mg "zip" = none)(ha:PA X [a,b] ta)
  (hs:starEach [a,b] X.env=[(false,eval a X.env),(false,eval b X.env)]:=by rfl) (hs2:starEach [b] X.env=[(false,eval b X.env)]:=by rfl) :
  PI X (.Tuple es kk tp) (.Call (.Name "zip" p) [a,b] [] pos) (Gx ta):=qN true false hg hm ha hs hs2
end L2
namespace PyProof.Rows
set_option autoImplicit false
open PySem
structure SBaseT(κ0:SortKind)(a₀:P9 P7)(st:SortSt):Prop where
 perm:(arrOf st).Perm a₀
 kind:kindOf st=κ0
 failed:failedOf st=none
 pend:pendingOf st=#[]
theorem SBaseT.size{κ0:SortKind}{a₀:P9 P7}{st:SortSt}(h:SBaseT κ0 a₀ st):(arrOf st).size=a₀.size:=h.perm.size_eq
theorem SBaseT.setArr{κ0:SortKind}{a₀:P9 P7}{st:SortSt}(h:SBaseT κ0 a₀ st){xs:P9 P7}(hp:xs.Perm (arrOf st)):SBaseT κ0 a₀ (setArr st xs) :=
 %[hp.trans h.perm,h.kind,h.failed|h.pend]
theorem SBaseT.atK{κ:KeyKind}{κ0:SortKind}{a₀:P9 P7}{st:SortSt}(h:SBaseT κ0 a₀ st)(h0:KeysOf κ a₀){i:Nat}(hi:i < a₀.size) :
  ∃x p a,(arrOf st)[i]?=some (x,p)/\κ.keyOf x=some a/\KK κ (arrOf st) i=a:=by
 have hi':i < (arrOf st).size:=by rw[h.size];exact hi
 have hm:(arrOf st)[i]∈a₀.toList:=(Array.perm_iff_toList_perm.mp h.perm).mem_iff.mp (by simp);obtain⟨a,ha⟩:=h0 _ hm;have e:(arrOf st)[i]?=some (arrOf st)[i]:=getElem?_pos _ i hi';refine%[(arrOf st)[i].1,(arrOf st)[i].2,a,by rw[e],ha|?_];unfold KK;rw[e];simp[ha]
def cH(prog:F5)(w:F7)(A:Around)(s:F4)(κ0:SortKind)(κ:KeyKind):Prop :=
 ∀(E:F8->F4->Prop)(x y:F8)(a b:κ.α)(Q:Bool->F4->Prop),κ.keyOf x=some a->κ.keyOf y=some b->Q (κ.blt a b) s->wpAny (model prog w) A (keyLt' κ0 x y) Q E s
section
variable{prog:F5}{w:F7}{A:Around}{E:F8->F4->Prop}{s:F4}{a₀:P9 P7}{κ:KeyKind}{κ0:SortKind}
theorem ow(hO:cH prog w A s κ0 κ){st:SortSt}{i j:Nat}{x y:F8}{a b:κ.α}{p q:F8}{Q:P8 Bool->SortSt->Prop}(hk:kindOf st=κ0)
  (hi:(arrOf st)[i]?=some (x,p)) (hj:(arrOf st)[j]?=some (y,q)) (ha:κ.keyOf x=some a) (hb:κ.keyOf y=some b) (h:Q (some (κ.blt a b)) st) :
  wpS (model prog w) A E s (ltAt' i j) Q st:=by
 rw[ltAt'_eq];refine A3 (wpS_get ?_);show wpS _ _ _ _ (do let x<-elem' (arrOf st) i;let y<-elem' (arrOf st) j;lt' x y) Q st;rw[elem'_eq,elem'_eq,hi,hj];refine A3 (A4 (A3 (A4 ?_)));rw[lt'_eq];refine A3 (wpS_get ?_);rw[hk];refine A3 (wpS_lift (wpAny_attempt (hO _ x y a b _ ha hb %[rfl|?_])));exact A4 h
theorem dY{st:SortSt}{i j:Nat}{Q:P8 Bool->SortSt->Prop}(hO:cH prog w A s κ0 κ)(hB:SBaseT κ0 a₀ st)(h0:KeysOf κ a₀)(hi:i < a₀.size)(hj:j < a₀.size)
  (h:Q (some (κ.blt (KK κ (arrOf st) i) (KK κ (arrOf st) j))) st):wpS (model prog w) A E s (ltAt' i j) Q st:=by
 obtain⟨x,p,a,e1,ha,ka⟩:=hB.atK h0 hi;obtain⟨y,q,b,e2,hb,kb⟩:=hB.atK h0 hj;rw[ka,kb]at h;exact ow hO hB.kind e1 e2 ha hb h
theorem iy{st:SortSt}{n ok:Nat}{Q:Bool->SortSt->Prop}(hO:cH prog w A s κ0 κ)(h0:KeysOf κ a₀)(hn:n<=a₀.size)(hok:ok<=n)(hB:SBaseT κ0 a₀ st)(hs:SortedToK κ (arrOf st) ok)
  (h:∀st',SBaseT κ0 a₀ st'->SortedToK κ (arrOf st') n->Q true st'):wpS (model prog w) A E s (binarySort' 0 n ok) Q st:=by
 rw[binarySort'_eq];simp only[Nat.zero_add];refine A3 (wpS_mono (wpS_forRange (I:=λ k c st'=>c=(none,())/\SBaseT κ0 a₀ st'/\SortedToK κ (arrOf st') (min k n))
  (Q:=λ c st'=>c=(none,())/\SBaseT κ0 a₀ st'/\SortedToK κ (arrOf st') n) ?step ?fin ?init) ?post)
 case post=>
  rintro c st' ⟨rfl,hB',hs'⟩;exact A4 (h st' hB' hs')
 case init=>
  refine%[Y,hB|λ i j hij hj=>?_]
  by_cases h1:ok=0
  ·have:i=j:=⋯
   subst this;exact QT _
  ·exact hs i j hij ⋯
 case fin=>
  rintro c st' ⟨hc,hB',hs'⟩;refine%[hc,hB'|?_];rwa [show min (max (max ok 1) n) n=n by lia]at hs'
 case step=>
  rintro k c st' hak hkn ⟨rfl,hB',hs'⟩;rw[show min k n=k by lia]at hs';have hk:k < a₀.size:=⋯
  refine A3 (wpS_mono (wpS_forRange (I:=λ x c st''=>st''=st'/\∃l r,c=(none,l,r)/\l<=r/\r<=k/\r - l<=k - x /\
    (∀i,i < l->κ.kle (KK κ (arrOf st') i) (KK κ (arrOf st') k))/\(∀i,r<=i->i < k->κ.klt (KK κ (arrOf st') k) (KK κ (arrOf st') i)))
   (Q:=λ c st''=>st''=st'/\∃l r,c=(none,l,r)/\l<=k /\
    (∀i,i < l->κ.kle (KK κ (arrOf st') i) (KK κ (arrOf st') k))/\(∀i,l<=i->i < k->κ.klt (KK κ (arrOf st') k) (KK κ (arrOf st') i))) ?istep ?ifin ?iinit) ?ipost)
  case iinit=>exact%[Y,0,k,Y,⋯,⋯,⋯,λ i hi=>⋯|λ i h1 h2=>⋯]
  case ifin=>
   rintro c st'' ⟨rfl,l,r,rfl,hlr,hrk,hm,hlo,hhi⟩;have:l=r:=⋯
   subst this;exact%[Y,l,l,Y,hrk,hlo|hhi]
  case istep=>
   rintro x c st'' _ hxk ⟨rfl,l,r,rfl,hlr,hrk,hm,hlo,hhi⟩;dsimp only
   by_cases hge:l≥r
   ·rw[QI hge];have:l=r:=⋯
    subst this;exact A4 %[rfl,l,l,rfl,hrk,hlo|hhi]
   ·rw[QH hge];refine A3 (dY hO hB' h0 hk ⋯ ?_);cases hless:κ.blt (KK κ (arrOf st'') k) (KK κ (arrOf st'') ((l+r) / 2))
    case true=>
     simp only[Qa];refine A4 %[rfl,l,(l+r) / 2,rfl,⋯,⋯,⋯,hlo|λ i h1 h2=>?_];exact KeyOrd.klt_of_klt_of_kle hless (hs' _ _ h1 h2)
    case false=>
     simp only[J9,QN];refine A4 %[rfl,(l+r) / 2+1,r,rfl,⋯,⋯,⋯,λ i h1=>?_|hhi];exact KeyOrd.kle_trans (hs' i ((l+r) / 2) ⋯ ⋯) (show κ.kle _ _ from hless)
  case ipost=>
   rintro c st'' ⟨rfl,l,r,rfl,hlk,hlo,hhi⟩;show wpS _ _ _ _ (do moveDown' k l;pure (ForInStep.yield (none,()))) _ _;rw[moveDown'_eq];refine A3 (wpS_modify (A4 %[rfl,hB'.setArr (bubble_perm _ _ _)|?_]));rw[show min (k+1) n=k+1 by lia];have hks:k < (arrOf st'').size:=by rw[hB'.size];exact hk
   intro i j hij hj;show κ.kle (KK κ (bubble (arrOf st'') k (k - l)) i) (KK κ (bubble (arrOf st'') k (k - l)) j);rw[KK_bubble hks ⋯,KK_bubble hks ⋯,show k - (k - l)=l by lia]
   repeat' split
   all_goals first
    | (exfalso;lia)
    | exact QT _
    | exact hlo _ ⋯
    | exact KeyOrd.kle_of_klt (hhi _ ⋯ ⋯)
    | exact hs' _ _ ⋯ ⋯
theorem gw{st:SortSt}{a nrem:Nat}{Q:AscSt->SortSt->Prop}(hO:cH prog w A s κ0 κ)(h0:KeysOf κ a₀)(hn:nrem<=a₀.size)(ha:1<=a)(han:a<=nrem)(hB:SBaseT κ0 a₀ st)
  (hs:SortedToK κ (arrOf st) a)
  (h:∀n,a<=n->n<=nrem->SortedToK κ (arrOf st) n->(n=nrem\/κ.klt (KK κ (arrOf st) n) (KK κ (arrOf st) (n - 1)))->Q (none,n) st) :
  wpS (model prog w) A E s (ascLoop a nrem) Q st:=by
 unfold ascLoop;refine wpS_forRange (I:=λ x c st'=>st'=st/\c=(none,x)/\SortedToK κ (arrOf st) x) ?step ?fin %[rfl,rfl|hs]
 case fin=>
  rintro c st' ⟨rfl,rfl,hs'⟩;rw[show max a nrem=nrem by lia]at hs' ⊢;exact h nrem han (B3 _) hs' (.inl rfl)
 case step=>
  rintro x c st' hax hxn ⟨rfl,rfl,hs'⟩;dsimp only;refine A3 (dY hO hB h0 ⋯ ⋯ ?_);cases hless:κ.blt (KK κ (arrOf st') x) (KK κ (arrOf st') (x - 1))
  case true=>
   simp only[Qa];exact A4 (h x hax ⋯ hs' (.inr hless))
  case false=>
   simp only[J9,QN];refine A4 %[rfl,rfl|λ i j hij hj=>?_]
   by_cases hjx:j < x
   ·exact hs' i j hij hjx
   ·have hj':j=x:=⋯
    subst hj'
    by_cases hi':i=j
    ·subst hi';exact QT _
    ·exact KeyOrd.kle_trans (hs' i (j - 1) ⋯ ⋯) hless
theorem iS{st:SortSt}{n nrem:Nat}{Q:P8 Nat->SortSt->Prop}(hO:cH prog w A s κ0 κ)(h0:KeysOf κ a₀)(hn:nrem<=a₀.size)(h1:1<=n)(hnn:n<=nrem)(hB:SBaseT κ0 a₀ st)
  (hs:NonIncK κ (arrOf st) n) (h:∀m st',SBaseT κ0 a₀ st'->1<=m->m<=nrem->SortedToK κ (arrOf st') m->Q (some m) st') :
  wpS (model prog w) A E s (tail3 n nrem) Q st:=by
 unfold tail3;have hsz:n<=(arrOf st).size:=by rw[hB.size];lia
 refine A3 (wpS_reverse ?_);have hB':SBaseT κ0 a₀ (setArr st (mirror (arrOf st) 0 n ((n - 0) / 2))):=hB.setArr (mirror_perm _ _ _ _);refine A3 (gw hO h0 hn h1 hnn hB' ?_ λ m hm1 hm2 hsm _=>A4 (h m _ hB' ⋯ hm2 hsm));intro i j hij hj;show κ.kle (KK κ (mirror (arrOf st) 0 n ((n - 0) / 2)) i) (KK κ (mirror (arrOf st) 0 n ((n - 0) / 2)) j);rw[KK_mirror hsz,KK_mirror hsz,QI ⋯,QI ⋯];exact hs _ _ ⋯ ⋯
theorem jI{st:SortSt}{n nrem:Nat}{Q:DescSt->SortSt->Prop}(hO:cH prog w A s κ0 κ)(h0:KeysOf κ a₀)(hn:nrem<=a₀.size)(h1:1<=n)(hnn:n<=nrem)(hB:SBaseT κ0 a₀ st)
  (hs:NonIncK κ (arrOf st) n)
  (h:∀m neq st',SBaseT κ0 a₀ st'->n<=m->m<=nrem->NonIncK κ (arrOf st') m->neq+1<=m->(∀i,m - (neq+1)<=i->i < m->KK κ (arrOf st') i=KK κ (arrOf st') (m - 1))->Q (none,m,neq) st') :
  wpS (model prog w) A E s (descLoop n nrem) Q st:=by
 unfold descLoop;refine wpS_forRange (I:=λ x c st'=>∃neq,c=(none,x,neq)/\SBaseT κ0 a₀ st'/\NonIncK κ (arrOf st') x/\neq+1<=x /\
   (∀i,x - (neq+1)<=i->i < x->KK κ (arrOf st') i=KK κ (arrOf st') (x - 1))) ?step ?fin %[0,rfl,hB,hs,⋯|λ i h1 h2=>by congr 1;lia]
 case fin=>
  rintro c st' ⟨neq,rfl,hB',hs',hq,he⟩;rw[show max n nrem=nrem by lia]at hs' hq he ⊢;exact h nrem neq st' hB' hnn (B3 _) hs' hq he
 case step=>
  rintro x c st' hax hxn ⟨neq,rfl,hB',hs',hq,he⟩;dsimp only;have hsz:x<=(arrOf st').size:=by rw[hB'.size];lia
  refine A3 (dY hO hB' h0 ⋯ ⋯ ?_);cases hless:κ.blt (KK κ (arrOf st') x) (KK κ (arrOf st') (x - 1))
  case true=>
   simp only[Qa];have step1:∀xs:P9 P7,(∀k,KK κ xs k=KK κ (arrOf st') k)->NonIncK κ xs (x+1):=by
    intro xs hk i j hij hj;rw[hk,hk]
    by_cases hjx:j < x
    ·exact hs' i j hij hjx
    ·have hj':j=x:=⋯
     subst hj'
     by_cases hi':i=j
     ·subst hi';exact QT _
     ·exact KeyOrd.kle_trans (KeyOrd.kle_of_klt hless) (hs' i (j - 1) ⋯ ⋯)
   by_cases hneq:neq > 0
   ·rw[QI hneq];refine A3 (wpS_reverse (A4 %[0,rfl,hB'.setArr (mirror_perm _ _ _ _),step1 _ (KK_mirror_equal hsz he),⋯|λ i h1 h2=>by congr 1;lia]))
   ·rw[QH hneq];exact A4 %[0,rfl,hB',step1 _ (λ _=>rfl),⋯|λ i h1 h2=>by congr 1;lia]
  case false=>
   simp only[J9,QN];refine A3 (dY hO hB' h0 ⋯ ⋯ ?_);cases hlarger:κ.blt (KK κ (arrOf st') (x - 1)) (KK κ (arrOf st') x)
   case true=>
    simp only[Qa];exact A4 (h x neq st' hB' hax ⋯ hs' hq he)
   case false=>
    simp only[J9,QN];have heqx:KK κ (arrOf st') x=KK κ (arrOf st') (x - 1):=KeyOrd.kle_antisymm hlarger hless;refine A4 %[neq+1,rfl,hB',λ i j hij hj=>?_,⋯|λ i h1 h2=>?_]
    ·by_cases hjx:j < x
     ·exact hs' i j hij hjx
     ·have hj':j=x:=⋯
      subst hj'
      by_cases hi':i=j
      ·subst hi';exact QT _
      ·rw[heqx];exact hs' i (j - 1) ⋯ ⋯
    ·rw[show x+1 - 1=x by lia]
     by_cases hix:i=x
     ·subst hix;rfl
     ·rw[heqx];exact he i ⋯ ⋯
theorem fD{st:SortSt}{n nrem:Nat}{Q:P8 Nat->SortSt->Prop}(hO:cH prog w A s κ0 κ)(h0:KeysOf κ a₀)(hn:nrem<=a₀.size)(hnn:n+1<=nrem)(hB:SBaseT κ0 a₀ st)
  (hs:NonIncK κ (arrOf st) (n+1)) (h:∀m st',SBaseT κ0 a₀ st'->1<=m->m<=nrem->SortedToK κ (arrOf st') m->Q (some m) st') :
  wpS (model prog w) A E s (descPart n nrem) Q st:=by
 unfold descPart;refine A3 (wpS_lift (wpAny_rule %[rfl|?_]));refine A3 (jI hO h0 hn ⋯ hnn hB hs λ m neq st' hB' hm1 hm2 hs' hq he=>?_);dsimp only;have hsz:m<=(arrOf st').size:=by rw[hB'.size];lia
 by_cases hneq:neq > 0
 ·rw[QI hneq];refine A3 (wpS_reverse (iS hO h0 hn ⋯ hm2 (hB'.setArr (mirror_perm _ _ _ _)) ?_ h));intro i j hij hj;show κ.kle (KK κ (mirror (arrOf st') _ _ _) j) (KK κ (mirror (arrOf st') _ _ _) i);rw[KK_mirror_equal hsz he,KK_mirror_equal hsz he];exact hs' i j hij hj
 ·rw[QH hneq];exact iS hO h0 hn ⋯ hm2 hB' hs' h
theorem jJ{st:SortSt}{nrem:Nat}{Q:P8 Nat->SortSt->Prop}(hO:cH prog w A s κ0 κ)(h0:KeysOf κ a₀)(hn:nrem<=a₀.size)(h1:1<=nrem)(hB:SBaseT κ0 a₀ st)
  (h:∀m st',SBaseT κ0 a₀ st'->1<=m->m<=nrem->SortedToK κ (arrOf st') m->Q (some m) st') :
  wpS (model prog w) A E s (countRun' 0 nrem) Q st:=by
 rw[countRun0_eq];refine A3 (gw hO h0 hn (B3 1) h1 hB (λ i j hij hj=>by have:i=j:=⋯;subst this;exact QT _) λ n hn1 hn2 hsn hor=>?_);dsimp only
 by_cases hnn:n=nrem
 ·rw[QI (by simpa using hnn)];exact A4 (h n st hB hn1 hn2 hsn)
 ·rw[QH (by simpa using hnn)];have hlt:κ.klt (KK κ (arrOf st) n) (KK κ (arrOf st) (n - 1)):=hor.resolve_left hnn
  by_cases hgt:n > 1
  ·rw[QI hgt];refine A3 (dY hO hB h0 ⋯ ⋯ ?_);cases hrose:κ.blt (KK κ (arrOf st) 0) (KK κ (arrOf st) (n - 1))
   case true=>
    simp only[Qa];exact A4 (h n st hB hn1 hn2 hsn)
   case false=>
    simp only[J9,QN];have hsz:n<=(arrOf st).size:=by rw[hB.size];lia
    have hall:∀k,0<=k->k < n->KK κ (arrOf st) k=KK κ (arrOf st) (n - 1):=by intro k _ hk;have a1:=hsn 0 k ⋯ hk;have a2:=hsn k (n - 1) ⋯ ⋯;exact KeyOrd.kle_antisymm a2 (KeyOrd.kle_trans hrose a1)
    refine A3 (wpS_reverse (fD hO h0 hn ⋯ (hB.setArr (mirror_perm _ _ _ _)) ?_ h));intro i j hij hj;show κ.kle (KK κ (mirror (arrOf st) _ _ _) j) (KK κ (mirror (arrOf st) _ _ _) i);rw[KK_mirror_equal hsz hall,KK_mirror_equal hsz hall]
    by_cases hjn:j < n
    ·rw[hall i ⋯ ⋯,hall j ⋯ hjn];exact QT _
    ·have hj':j=n:=⋯
     subst hj'
     by_cases hi':i=j
     ·subst hi';exact QT _
     ·rw[hall i ⋯ ⋯];exact KeyOrd.kle_of_klt hlt
  ·rw[QH hgt];have hn1':n=1:=⋯
   subst hn1';refine fD hO h0 hn ⋯ hB ?_ h;intro i j hij hj
   by_cases hi':i=j
   ·subst hi';exact QT _
   ·have hi0:i=0:=⋯
    have hj1:j=1:=⋯
    subst hi0;subst hj1;exact KeyOrd.kle_of_klt hlt
theorem SBaseT.doneK{st:SortSt}(hB:SBaseT κ0 a₀ st)(hs:SortedToK κ (arrOf st) a₀.size):SDoneK κ a₀ (setPending st ((pendingOf st).push (0,a₀.size,0))) :=
 %[hB.perm,hB.failed,by show(pendingOf st).push _=_;rw[hB.pend];rfl|hs]
theorem jK{st:SortSt}{Q:Unit->SortSt->Prop}(hO:cH prog w A s κ0 κ)(h0:KeysOf κ a₀)(hB:SBaseT κ0 a₀ st)(h2:2<=a₀.size)(h64:a₀.size < 64)
  (h:∀st',(arrOf st').Perm a₀->failedOf st'=none->SortedToK κ (arrOf st') a₀.size->Q () st'):wpS (model prog w) A E s sortRuns' Q st:=by
 rw[sortRuns'_eq];refine A3 (wpS_get ?_);dsimp only;have hmr:minRun' a₀.size a₀.size 0=a₀.size:=by
  obtain⟨f,hf⟩:∃f,a₀.size=f+1:=%[a₀.size - 1|⋯]
  have:minRun' (f+1) a₀.size 0=a₀.size:=by rw[minRun'_succ,QI h64];rfl
  rwa [<- hf]at this
 simp only[hB.size,hmr];refine A3 (wpS_mono (wpS_forRange
  (I:=λ x c st'=>(x=0/\c=(none,0)/\SBaseT κ0 a₀ st')\/(1<=x/\c=(none,a₀.size)/\SDoneK κ a₀ st'))
  (Q:=λ c st'=>c=(none,a₀.size)/\SDoneK κ a₀ st') ?step ?fin (.inl %[Y,Y|hB])) ?post)
 case fin=>
  rintro c st' (⟨hx,_,_⟩ | ⟨_,hc,hD⟩)
  ·lia
  ·exact%[hc|hD]
 case step=>
  rintro x c st' _ hx (⟨rfl,rfl,hB'⟩ | ⟨hx1,rfl,hD⟩)
  ·dsimp only;rw[QH ⋯];simp only[Nat.sub_zero,Nat.min_self,Nat.zero_add];refine A3 (jJ hO h0 (B3 _) ⋯ hB' λ m st2 hB2 hm1 hm2 hs2=>?_);dsimp only
   by_cases hlt:m < a₀.size
   ·rw[QI hlt];refine A3 (wpS_lift (wpAny_rule %[rfl|?_]));refine A3 (iy hO h0 (B3 _) hm2 hB2 hs2 λ st3 hB3 hs3=>?_);simp only[Bool.not_true,J9,QN];refine A3 (wpS_get ?_);have hb:(pendingOf st3).back?=none:=by rw[hB3.pend];rfl
    rw[hb];dsimp only;exact A3 (wpS_modify (A4 (.inr %[⋯,Y|hB3.doneK hs3])))
   ·rw[QH hlt];have hm:m=a₀.size:=⋯
    subst hm;refine A3 (wpS_get ?_);have hb:(pendingOf st2).back?=none:=by rw[hB2.pend];rfl
    rw[hb];dsimp only;exact A3 (wpS_modify (A4 (.inr %[⋯,Y|hB2.doneK hs2])))
  ·dsimp only;rw[QI (B3 _)];exact A4 %[rfl|hD]
 case post=>
  rintro c st' ⟨rfl,hD⟩;dsimp only;refine A3 (wpS_mono (wpS_forRange (I:=λ _ c st''=>st''=st'/\c=(none,())) (Q:=λ c st''=>st''=st'/\c=(none,())) ?_ (λ _ _ hh=>hh) %[rfl|rfl]) ?_)
  ·rintro x c st'' _ _ ⟨rfl,rfl⟩;refine A3 (wpS_get ?_);rw[QI (by rw[hD.2.2.1];exact B3 1)];exact A4 %[rfl|rfl]
  ·rintro c st'' ⟨rfl,rfl⟩;exact A4 (h _ hD.1 hD.2.1 hD.2.2.2)
end
section
variable{prog:F5}{w:F7}{A:Around}{E:F8->F4->Prop}{s:F4}
theorem eX{κ:KeyKind}{κ0:SortKind}{a:P6}{vs:QA F8}{n:Nat}{P:Fin->F4->Prop}(ho:s.heap.get? a=some (seqObj "list" vs.toArray n))
  (h0:KeysOf κ (pairsOf vs)) (hkk:∀s':F4,(∀b o,b≠a->s.heap.get? b=some o->s'.heap.get? b=some o)->cH prog w A s' κ0 κ/\∀v₁ v₂ rest,vs=v₁ :: v₂ :: rest->∀(Q:SortKind->F4->Prop),Q κ0 s'->wpAny (model prog w) A (keyKind' (v₁ :: v₂ :: rest).toArray) Q E s') (h64:vs.length < 64)
  (h:∀st':SortSt,(arrOf st').Perm (pairsOf vs)->SortedToK κ (arrOf st') (pairsOf vs).size->P (.done (.ret .none)) { s with heap:=sortedHeap s.heap a vs ((arrOf st').map (·.2)) }) :
  wpAny (model prog w) A (Builtin.«list.sort» %[[.ref a]|[]]) P E s:=by
 rw[list_sort_plain];have ha:a < s.heap.objs.size:=A9 ho;refine A0 (listItems_at ho rfl ?_);refine A0 (listUpdate_at ho rfl ?_);obtain⟨e1,ho1⟩:∃e1,(s.heap.update a (Obj.mapSeq λ _=>#[])).get? a=some (seqObj "list" #[] e1):=%[_|get?_update_seq ho (λ _=>#[])]
 refine A0 (seqEpoch_at ho1 rfl ?_);refine A0 (wpAny_newTuple ?_);refine A0 (wpAny_newList ?_);refine QL ?_;have ho6:(((s.heap.update a (Obj.mapSeq λ _=>#[])).push (seqObj "tuple" vs.toArray 0)).push (seqObj "list" #[] 0)).get? a=some (seqObj "list" #[] e1):=by rw[Heap.get?_push_ne _ _ _ (by rw[size_push',Heap.size_update];exact B9 (O0 ha)),Heap.get?_push_ne _ _ _ (by rw[Heap.size_update];exact B9 ha)];exact ho1
 show wpAny (model prog w) A _ P E { s with heap:=((s.heap.update a (Obj.mapSeq λ _=>#[])).push (seqObj "tuple" vs.toArray 0)).push (seqObj "list" #[] 0) };dsimp only;have hsz:vs.toArray.size=vs.length:=by simp
 have fin:=h
 by_cases h2:vs.toArray.size < 2
 ·rw[QI h2,QI h2];refine A0 (A2 ?_);rw[StateT.run_pure];refine A0 (A2 ?_);dsimp only;refine A0 (seqEpoch_at ho6 rfl ?_);refine A0 (listUpdate_at ho6 rfl ?_ (hsz2:=by rw[Array.size_map];show(pairsOf vs).size<=_;rw[pairsOf_size,sizeLine_eq];lia));simp only[bne_self_eq_false,J9,QN];refine A2 (fin (SortSt.mk' general' (vs.toArray.zip vs.toArray) #[] 7 none) (Array.Perm.refl _) ?_);intro i j hij hj;have:i=j:=by rw[pairsOf_size]at hj;lia
  subst this;exact QT _
 ·rw[QH h2,QH h2];obtain⟨v₁,v₂,rest,rfl⟩:∃v₁ v₂ rest,vs=v₁ :: v₂ :: rest:=by
   match vs,hsz,h2 with
   | [],_,h2=>simp at h2
   | [_],_,h2=>simp at h2
   | v₁ :: v₂ :: rest,_,_=>exact%[v₁,v₂,rest|Y]
  have kp:∀b o,b≠a->s.heap.get? b=some o->(((s.heap.update a (Obj.mapSeq λ _=>#[])).push (seqObj "tuple" (v₁ :: v₂ :: rest).toArray 0)).push (seqObj "list" #[] 0)).get? b=some o:=λ b o nb e=>
   A7 _ (A7 _ (by rw[Heap.get?_update_ne _ _ _ _ nb];exact e))
  obtain⟨hO,hK⟩:=hkk { s with heap:=((s.heap.update a (Obj.mapSeq λ _=>#[])).push (seqObj "tuple" (v₁ :: v₂ :: rest).toArray 0)).push (seqObj "list" #[] 0) } kp;refine A0 (hK _ _ _ rfl _ ?_);refine A0 (Qk (jK (κ:=κ) (κ0:=κ0) hO (a₀:=pairsOf (v₁ :: v₂ :: rest)) (st:=SortSt.mk' κ0 ((v₁ :: v₂ :: rest).toArray.zip (v₁ :: v₂ :: rest).toArray) #[] 7 none)
   (Q:=λ _ st'=>(arrOf st').Perm (pairsOf (v₁ :: v₂ :: rest))/\failedOf st'=none/\SortedToK κ (arrOf st') (pairsOf (v₁ :: v₂ :: rest)).size)
   h0 %[Array.Perm.refl _,rfl,rfl|rfl] (by rw[pairsOf_size];simp) (by rw[pairsOf_size];exact h64) λ st' a1 a2 a3=>%[a1,a2|a3]) ?_ λ _ _ e=>e)
  rintro⟨⟨⟩,st'⟩ s' ⟨rfl,hp,hf,hs⟩;dsimp only;refine A0 (seqEpoch_at ho6 rfl ?_);refine A0 (listUpdate_at ho6 rfl ?_ (hsz2:=by refine C5 (Nat.le_of_eq ((Array.size_map ..).trans (hp.size_eq.trans (pairsOf_size _)))) ?_;rw[sizeLine_eq];lia));rw[hf];simp only[bne_self_eq_false,J9,QN];exact A2 (fin st' hp hs)
theorem xY{κ:KeyKind}{κ0:SortKind}{l:P6}{vs:QA F8}{Q:F8->F4->Prop}(hl:s.heap.IsList l vs.toArray)(h0:KeysOf κ (pairsOf vs))(hkk:∀ (A':Around) (s':F4),(∀b o,s.heap.get? b=some o->s'.heap.get? b=some o)->cH prog w A' s' κ0 κ/\∀v₁ v₂ rest,vs=v₁ :: v₂ :: rest->∀ (Q:SortKind->F4->Prop) (E':F8->F4->Prop),Q κ0 s'->wpAny (model prog w) A' (keyKind' (v₁ :: v₂ :: rest).toArray) Q E' s')(h64:vs.length < 64)
  (h:∀st':SortSt,(arrOf st').Perm (pairsOf vs)->SortedToK κ (arrOf st') (pairsOf vs).size->Q (.ref (s.heap.objs.size+1)) { s with heap:=sortedAll s.heap vs ((arrOf st').map (·.2)) }) :
  wpAny (model prog w) A (call (.builtin "sorted") [.ref l]) Q E s:=by
 refine Calls.call_function_entry kind_sorted plain_sorted entry_sorted (args_sorted1 _) ?_;unfold Builtin.«sorted»;refine A0 (m:=checkCount "sorted" 1 1 _) (A2 ?_);refine A0 (collect_list hl ?_);refine A0 (wpAny_newList ?_);have hsz:((s.heap.push (seqObj "list" #[] 0)).update s.heap.objs.size (Obj.mapSeq (· ++ vs.toArray))).objs.size=s.heap.objs.size+1:=by rw[Heap.size_update,size_push']
 have hoL:(((s.heap.push (seqObj "list" #[] 0)).update s.heap.objs.size (Obj.mapSeq (· ++ vs.toArray))).push (seqObj "list" vs.toArray 0)).get? (s.heap.objs.size+1)=some (seqObj "list" vs.toArray 0):=by rw[<- hsz];exact A8 _ rfl
 show wpAny _ _ _ _ _ { s with heap:=((s.heap.push (seqObj "list" #[] 0)).update s.heap.objs.size (Obj.mapSeq (· ++ vs.toArray))).push (seqObj "list" vs.toArray 0) };rw[hsz];refine A0 (QL (F1 slot_list_sort %[_,hoL|rfl] entry_list_sort (eX hoL h0 (λ s' k=>by obtain⟨a1,a2⟩:=hkk _ s' (λ b o e=>k b o (B9 (O0 (A9 e))) (A7 _ (by rw[Heap.get?_update_ne _ _ _ _ (B9 (Heap.lt_size e))];exact A7 _ e)));exact%[a1|λ v1 v2 r e Q q=>a2 v1 v2 r e Q _ q]) h64 λ st' a1 a2=>%[_,Y|?_]) (args_list_sort _)));exact A2 %[_,rfl|h st' a1 a2]
end
end PyProof.Rows
namespace L2
open PySem PySem.Spec PyProof.Rows
def cI:QA Bool->QA F8->P8 (QA Int)
 | [],[]=>some []
 | false :: r,.int i _ :: vs=>(cI r vs).map (i :: ·)
 | true :: r,.bool b :: vs=>(cI r vs).map ((if b=true then 1 else 0) :: ·)
 | _,_=>none
def mR:QA Bool->QA V->P8 (QA Int)
 | [],[]=>some []
 | false :: r,.int i :: vs=>(mR r vs).map (i :: ·)
 | true :: r,.bl b :: vs=>(mR r vs).map ((if b=true then 1 else 0) :: ·)
 | _,_=>none
theorem oz:∀{sh:QA Bool}{vs:QA V}{us:QA F8}{k:QA Int},Vals vs us->mR sh vs=some k->cI sh us=some k
 | [],[],_,_,r,h=>by cases r;exact h
 | [],_ :: _,_,_,_,h=>by cases h
 | false :: r,v :: vs,us,k,rv,h=>by
  cases rv with
  | cons r1 r2=>
   cases v with
   | int i=>
    obtain⟨t,rfl⟩:=r1;have h:(mR r vs).map (i :: ·)=some k:=h;show(cI r _).map (i :: ·)=some k;cases e:mR r vs with
    | none=>rw[e]at h;cases h
    | some k'=>rw[e]at h;rw[oz r2 e];exact h
   | _=>cases h
 | true :: r,v :: vs,us,k,rv,h=>by
  cases rv with
  | cons r1 r2=>
   cases v with
   | bl b=>
    cases(show _=Value.bool b from r1);have h:(mR r vs).map ((if b=true then 1 else 0) :: ·)=some k:=h;show(cI r _).map ((if b=true then 1 else 0) :: ·)=some k;cases e:mR r vs with
    | none=>rw[e]at h;cases h
    | some k'=>rw[e]at h;rw[oz r2 e];exact h
   | _=>cases h
 | false :: _,[],_,_,_,h=>by cases h
 | true :: _,[],_,_,_,h=>by cases h
def aX:QA Int->QA Int->Bool
 | [],[]=>false
 | [],_ :: _=>true
 | _ :: _,[]=>false
 | a :: r,b :: t=>if a=b then aX r t else decide (a < b)
theorem cN:∀a,aX a a=false
 | []=>rfl
 | a :: r=>by rw[aX,QI rfl];exact cN r
theorem fW:∀a b c,aX a b=true->aX b c=true->aX a c=true
 | [],[],_,h,_=>by cases h
 | [],_ :: _,[],_,h=>by cases h
 | [],_ :: _,_ :: _,_,_=>rfl
 | _ :: _,[],_,h,_=>by cases h
 | _ :: _,_ :: _,[],_,h=>by cases h
 | a :: r,b :: t,c :: u,h1,h2=>by
  rw[aX]at h1 h2 ⊢
  by_cases e1:a=b
  ·rw[QI e1]at h1
   by_cases e2:b=c
   ·rw[QI e2]at h2;rw[QI (e1.trans e2)];exact fW r t u h1 h2
   ·rw[QH e2]at h2;rw[QH (by rw[e1];exact e2),e1];exact h2
  ·rw[QH e1]at h1;have h1:=C0 h1
   by_cases e2:b=c
   ·rw[QH ⋯];exact B0 ⋯
   ·rw[QH e2]at h2;have h2:=C0 h2;rw[QH ⋯];exact B0 ⋯
theorem jc:∀a b c,aX a c=true->aX a b=true\/aX b c=true
 | [],[],_,h=>.inr h
 | [],_ :: _,_,_=>.inl rfl
 | _ :: _,_,[],h=>by cases h
 | _ :: _,[],_ :: _,_=>.inr rfl
 | a :: r,b :: t,c :: u,h=>by
  rw[aX]at h;rw[aX,aX]
  by_cases e1:a=b
  ·rw[QI e1]
   by_cases e2:b=c
   ·rw[QI (e1.trans e2)]at h;rw[QI e2];exact jc r t u h
   ·rw[QH (by rw[e1];exact e2)]at h;rw[QH e2];exact .inr (by rw[<- e1];exact h)
  ·rw[QH e1]
   by_cases e3:a=c
   ·rw[QH ⋯]
    by_cases z:a < b
    ·exact .inl (B0 z)
    ·exact .inr (B0 ⋯)
   ·rw[QH e3]at h;have h:=C0 h
    by_cases z:a < b
    ·exact .inl (B0 z)
    ·rw[QH ⋯];exact .inr (B0 ⋯)
theorem fX:∀a b,aX a b=false->aX b a=false->a=b
 | [],[],_,_=>rfl
 | [],_ :: _,h,_=>by cases h
 | _ :: _,[],_,h=>by cases h
 | a :: r,b :: t,h1,h2=>by
  rw[aX]at h1 h2
  by_cases e:a=b
  ·rw[QI e]at h1;rw[QI e.symm]at h2;rw[e,fX r t h1 h2]
  ·rw[QH e]at h1;rw[QH (Ne.symm e)]at h2;have:=of_decide_eq_false h1;have:=of_decide_eq_false h2;exact absurd (show a=b by lia) e
def sH(h:Heap)(sh:QA Bool):KeyKind where
 α:=QA Int
 blt:=aX
 irrefl:=cN
 trans:=fW
 negTrans:=jc
 total:=fX
 keyOf:=λ v=>match v with
  | .ref a=>match h.get? a with
   | some o=>match o.data with
    | .seq xs _=>cI sh xs.toList
    | _=>none
   | none=>none
  | _=>none
 dflt:=[]
theorem qQ{h:Heap}{sh:QA Bool}{v:F8}{k:QA Int}(e:(sH h sh).keyOf v=some k):∃a o xs n,v=.ref a/\h.get? a=some o/\o.data=.seq xs n/\cI sh xs.toList=some k:=by
 cases v with
 | ref a=>
  have e:(match h.get? a with
   | some o=>match o.data with
    | .seq xs _=>cI sh xs.toList
    | _=>none
   | none=>none)=some k:=e
  cases h1:h.get? a with
  | none=>rw[h1]at e;cases e
  | some o=>
   rw[h1]at e;cases h2:o.data with
   | seq xs n=>
    have e:(match o.data with
     | .seq xs _=>cI sh xs.toList
     | _=>none)=some k:=e
    rw[h2]at e;exact%[a,o,xs,n,Y,h1,h2|e]
   | _=>
    have e:(match o.data with
     | .seq xs _=>cI sh xs.toList
     | _=>none)=some k:=e
    rw[h2]at e;cases e
 | _=>cases e
theorem gT:∀{sh:QA Bool}{us:QA F8}{k:QA Int},cI sh us=some k->us.length=sh.length
 | [],[],_,_=>rfl
 | [],_ :: _,_,h=>by cases h
 | false :: r,[],_,h=>by cases h
 | true :: r,[],_,h=>by cases h
 | false :: r,v :: vs,k,h=>by
  cases v with
  | int i t=>
   have h:(cI r vs).map (i :: ·)=some k:=h;cases e:cI r vs with
   | none=>rw[e]at h;cases h
   | some k'=>rw[G8,G8,gT e]
  | _=>cases h
 | true :: r,v :: vs,k,h=>by
  cases v with
  | bool b=>
   have h:(cI r vs).map ((if b=true then 1 else 0) :: ·)=some k:=h;cases e:cI r vs with
   | none=>rw[e]at h;cases h
   | some k'=>rw[G8,G8,gT e]
  | _=>cases h
section
variable{prog:F5}{w:F7}{A:Around}{E:F8->F4->Prop}{s:F4}
theorem mS{a b:Bool}{Q:Bool->F4->Prop}(h:Q (a == b) s):wpAny (model prog w) A (eqBool (.bool a) (.bool b)) Q E s:=by
 unfold eqBool;show wpAny _ _ (if (Value.bool a == Value.bool b)=true then _ else _) Q E s
 by_cases hab:(Value.bool a == Value.bool b)=true
 ·rw[QI hab];have e:a=b:=by have:=eq_of_beq hab;injection this
  subst e;exact A0 (wpAny_rule (A2 (by simpa using h)))
 ·rw[QH hab];exact A0 (eq_bool (F0 h))
theorem lK{bb:Bool}{Q:Bool->F4->Prop}:∀(sh:QA Bool)(xs ys:QA F8)(a c:QA Int)(i:Nat),cI sh xs=some a->cI sh ys=some c->((bb && i == 0)=true->sh.head?=some false\/sh=[])->Q (aX a c) s->PySem.W.KatLex prog w A bb false Q (xs.zip ys) i s
 | [],[],[],a,c,i,h1,h2,_,q=>by cases h1;cases h2;exact PySem.W.kat_nil q
 | [],_ :: _,_,_,_,_,h,_,_,_=>by cases h
 | [],[],_ :: _,_,_,_,_,h,_,_=>by cases h
 | false :: r,[],_,_,_,_,h,_,_,_=>by cases h
 | true :: r,[],_,_,_,_,h,_,_,_=>by cases h
 | false :: r,_ :: _,[],_,_,_,_,h,_,_=>by cases h
 | true :: r,_ :: _,[],_,_,_,_,h,_,_=>by cases h
 | false :: r,v :: vs,u :: us,a,c,i,h1,h2,hb,q=>by
  cases v with
  | int p t=>cases u with
   | int p' t'=>
    have h1:(cI r vs).map (p :: ·)=some a:=h1;have h2:(cI r us).map (p' :: ·)=some c:=h2;cases e1:cI r vs with
    | none=>rw[e1]at h1;cases h1
    | some a'=>
     cases e2:cI r us with
     | none=>rw[e2]at h2;cases h2
     | some c'=>
      rw[e1]at h1;rw[e2]at h2;cases h1;cases h2;rw[aX]at q;refine PySem.W.kat_cons (wpAny_eqBool_int (PySem.W.kat_go (λ e=>PySem.W.kat_yes ?_) (λ e=>PySem.W.kat_no ?_)))
      ·rw[QI (by simpa using e)]at q;exact lK r vs us a' c' (i+1) e1 e2 (λ z=>by simp at z) q
      ·rw[QH (by simpa using e)]at q;cases z:(bb && i == 0)with
       | true=>exact oneLt_int q
       | false=>exact PySem.W.kat_one _ _ (PyProof.Rows.lt_int q)
   | _=>cases h2
  | _=>cases h1
 | true :: r,v :: vs,u :: us,a,c,i,h1,h2,hb,q=>by
  cases v with
  | bool p=>cases u with
   | bool p'=>
    have h1:(cI r vs).map ((if p=true then 1 else 0) :: ·)=some a:=h1;have h2:(cI r us).map ((if p'=true then 1 else 0) :: ·)=some c:=h2;cases e1:cI r vs with
    | none=>rw[e1]at h1;cases h1
    | some a'=>
     cases e2:cI r us with
     | none=>rw[e2]at h2;cases h2
     | some c'=>
      rw[e1]at h1;rw[e2]at h2;cases h1;cases h2;rw[aX]at q;refine PySem.W.kat_cons (mS (PySem.W.kat_go (λ e=>PySem.W.kat_yes ?_) (λ e=>PySem.W.kat_no ?_)))
      ·have e:p=p':=by simpa using e
       rw[QI (by rw[e])]at q;exact lK r vs us a' c' (i+1) e1 e2 (λ z=>by simp at z) q
      ·have e:p≠p':=by simpa using e
       rw[QH (by cases p <;> cases p' <;> simp_all)]at q;cases z:(bb && i == 0)with
       | true=>rcases hb z with z | z <;> cases z
       | false=>
        refine PySem.W.kat_one _ _ (PyProof.Rows.lt_bool ?_);show Q (decide (b2i p < b2i p')) s;rw[show decide (b2i p < b2i p')=decide ((if p=true then(1:Int)else 0) < (if p'=true then 1 else 0))by cases p <;> cases p' <;> rfl];exact q
   | _=>cases h2
  | _=>cases h1
theorem sI{h:Heap}{sh:QA Bool}(h0:sh.head?=some false)(k:∀b o,h.get? b=some o->s.heap.get? b=some o):cH prog w A s (tuples' true) (sH h sh):=by intro E x y a b Q ha hb q;obtain⟨x',ox,xs,n,rfl,hx,dx,fx⟩:=qQ ha;obtain⟨y',oy,ys,m,rfl,hy,dy,fy⟩:=qQ hb;have l1:=gT fx;have l2:=gT fy;refine PySem.W.kat_lt (k _ _ hx) dx (k _ _ hy) dy ?_;rw[show decide (xs.size < ys.size)=false from QJ (by rw[<- K3,<- K3];lia)];exact lK sh _ _ a b 0 fx fy (λ _=>.inl h0) q
end
theorem iA:∀{as:QA P6}{its:QA F8},Vals (as.map V.ref) its->its=as.map Value.ref
 | [],_,r=>by cases r;rfl
 | a :: as,_,r=>by
  cases r with
  | cons r1 r2=>
   have e:_=Value.ref a:=r1;subst e;rw[J0,iA r2]
theorem iB:∀as:QA P6,Vals (as.map V.ref) (as.map Value.ref)
 | []=>.nil
 | a :: as=>.cons rfl (iB as)
theorem mT{α β:Type}{f:α->β}(g:β->P8 α)(hg:∀a,g (f a)=some a){l:QA β}{as:QA α}(h:l.Perm (as.map f)):∃as':QA α,l=as'.map f/\as'.Perm as:=by
 refine%[l.filterMap g,?_|?_]
 ·have all:∀x∈l,∃a,f a=x:=λ x hx=>by obtain⟨a,_,e⟩:=K7.mp (h.mem_iff.mp hx);exact%[a|e]
  clear h
  induction l with
  | nil=>rfl
  | cons x r ih=>
   obtain⟨a,rfl⟩:=all x B7;rw[K9,hg a,J0,<- ih λ y hy=>all y (B4 _ hy)]
 ·have:=h.filterMap g;rw[List.filterMap_map,show(g∘f)=some from funext hg,List.filterMap_some]at this;exact this
theorem iU{h:Heap}{sh:QA Bool}{key:P6->QA Int}(h0:sh.head?=some false):∀(as:QA P6),(∀a∈as,∃o us n,h.get? a=some o/\o.cls=.type "tuple" /\ o.data=.seq (List.toArray us) n/\cI sh us=some (key a))->∃fs,PySem.W.KatTups h (as.map Value.ref) fs/\fs.length=as.length/\∀v∈fs,∃i t,v=Value.int i t
 | [],_=>%[[],trivial,Y|λ v hv=>by cases hv]
 | a :: as,H=>by
  obtain⟨fs,h1,h2,h3⟩:=iU h0 as λ b hb=>H b (B4 _ hb);obtain⟨o,us,n,e,c,d,f⟩:=H a B7;obtain⟨r,hr⟩:∃r,sh=false :: r:=by
   cases sh with
   | nil=>cases h0
   | cons x r=>cases h0;exact%[r|Y]
  subst hr;cases us with
  | nil=>cases f
  | cons u us=>
   cases u with
   | int i t=>exact%[.int i t :: fs,PySem.W.KatTups.cons e c d (by simp) h1,by rw[G8,G8,h2]|λ v hv=>(G5.mp hv).elim (λ z=>%[i,t|z]) (h3 v)]
   | _=>cases f
section
variable{X:Cx}
def Aq(K:C4)(xs:QA V)(H:Hp)(Q:VK):Prop:=∃(p:P6)(as:QA P6)(sh:QA Bool)(key:P6->QA Int),xs=[.ref p]/\SqL K H p (as.map V.ref)/\as.length < 64/\sh.head?=some false/\(∀a∈as,∃vs,SqT K H a vs/\mR sh vs=some (key a)) /\
 ∀(l:P6)(as':QA P6),H l=none->as'.Perm as->(as'.map key).Pairwise (λ x y=>aX y x=false)->Q (.ref l) (upd H l (.lst (as'.map V.ref)))
theorem gU:de X (.builtin "sorted") (Aq X.K):=by
 intro QC s σ H xs us Q I r h;obtain⟨p,as,sh,key,rfl,hs,h64,h0,hk,q⟩:=h;obtain⟨u,rfl,rfl⟩:=fu r;obtain⟨its,rv,pl,_⟩:=I.list hs;have ei:=iA rv;subst ei;have tu:∀a∈as,∃o us n,s.heap.get? a=some o/\o.cls=.type "tuple" /\ o.data=.seq (List.toArray us) n/\cI sh us=some (key a):=λ a ha=>by obtain⟨vs,hv,hf⟩:=hk a ha;obtain⟨us,r,⟨o,e,c,n,d⟩,_⟩:=I.tuple hv;exact%[o,us,n,e,c,d|oz r hf]
 have kof:∀a∈as,(sH s.heap sh).keyOf (.ref a)=some (key a):=λ a ha=>by
  obtain⟨o,us,n,e,c,d,f⟩:=tu a ha;show(match s.heap.get? a with
   | some o=>match o.data with
    | .seq xs _=>cI sh xs.toList
    | _=>none
   | none=>none)=some (key a)
  rw[e];show(match o.data with
    | .seq xs _=>cI sh xs.toList
    | _=>none)=some (key a)
  rw[d];exact f
 refine xY (κ:=sH s.heap sh) (κ0:=tuples' true) pl.isList ?keys ?kk (by rw[G4];exact h64) λ st' hp hs'=>?_
 case keys=>
  intro pr hpr;rw[pairsOf_toList]at hpr;obtain⟨a,ha,e⟩:=K7.mp (PZ (show(pr.1,pr.2)∈_ from hpr)).1;exact%[key a|by rw[<- e];exact kof a ha]
 case kk=>
  intro A' s' k;refine%[sI h0 k|λ v1 v2 rest e Q E' q=>?_];obtain⟨fs,f1,f2,f3⟩:=iU (h:=s'.heap) (key:=key) h0 as λ a ha=>by obtain⟨o,us,n,e,c,d,f⟩:=tu a ha;exact%[o,us,n,k _ _ e,c,d|f]
  rw[e]at f1;have:(as.map Value.ref).length=rest.length+2:=by rw[e];rfl
  rw[G4]at this;refine PySem.W.kat_kind (T:=.type "int") f1 ⋯ (λ v hv=>?_) rfl q;obtain⟨i,t,rfl⟩:=f3 v hv;exact PySem.W.Looks.of_pure rfl
 have pz:∀l:QA P6,(l.map Value.ref).zip (l.map Value.ref)=l.map λ a=>(Value.ref a,Value.ref a):=λ l=>by
  induction l with
  | nil=>rfl
  | cons a l ih=>rw[J0,List.zip_cons_cons,ih,J0]
 have hp':=Array.perm_iff_toList_perm.mp hp;rw[pairsOf_toList,pz]at hp';obtain⟨as',ea,pa⟩:=mT (f:=λ a=>(Value.ref a,Value.ref a)) (λ pr=>match pr.1 with
  | .ref a=>some a
  | _=>none) (λ a=>rfl) hp'
 have eo:((arrOf st').map (·.2)).toList=as'.map Value.ref:=by rw[Array.toList_map,ea,N0];rfl
 obtain⟨e,he⟩:=sortedAll_at s.heap (as.map Value.ref) ((arrOf st').map (·.2));have hn:H (s.heap.objs.size+1)=none:=I.hok.fresh (Nat.le_succ _);refine%[.ref (s.heap.objs.size+1),upd H (s.heap.objs.size+1) (.lst (as'.map V.ref)),I.laid (o:=.lst (as'.map V.ref)) (t':=s.toks) (λ _ _=>sortedAll_old) (Nat.le_succ _) (show ObjOk _ _ _ _ _ (.lst _)from%[?_,((arrOf st').map (·.2)).toList,e,?_|?_]),Y|q _ as' hn pa ?_]
 ·rw[G4,pa.length_eq];have:(64:Nat)<=sizeLine:=∅
  lia
 ·rw[eo];exact iB as'
 ·rw[he]
 ·rw[List.pairwise_iff_getElem];intro i j hi hj hij;rw[G4]at hi hj;have sz:(pairsOf (as.map Value.ref)).size=as.length:=by rw[pairsOf_size,G4]
  have kk:∀i (hi:i < as'.length),KK (sH s.heap sh) (arrOf st') i=key as'[i]:=λ i hi=>by
   have e:(arrOf st')[i]?=some (Value.ref as'[i],Value.ref as'[i]):=by rw[<- N6,ea,J2,E9 hi];rfl
   unfold KK;rw[e];show((sH s.heap sh).keyOf (.ref as'[i])).getD _=_;rw[kof _ (pa.mem_iff.mp (List.getElem_mem hi))];rfl
  have:=hs' i j ⋯ (by rw[sz,<- pa.length_eq];exact hj);rw[kk i hi,kk j hj]at this;rw[List.getElem_map,List.getElem_map];exact this
end
theorem xZ{X:Cx}{i j k:Nat}{x y z:Str}{e:Expr}{te:TE}{p1 p2 p3 pos:Pos}(hN:X.N.Nodup)(hi:X.N[i]?=some x)(hj:X.N[j]?=some y)(hk:X.N[k]?=some z)(lx:X.env.scope.names.lookup x=some .local)(ly:X.env.scope.names.lookup y=some .local)(lz:X.env.scope.names.lookup z=some .local)(he:PE X e te)
  (hs:swapsWithSole [.Name x p1,.Name y p2,.Name z p3] e pos.line X.env=pure false:=by rfl) (hw:swappedStores [.Name x p1,.Name y p2,.Name z p3] e X.env=pure none:=by rfl) :
  PS X (.Assign [.Name x p1,.Name y p2,.Name z p3] e pos) (λ D σ H=>te σ H λ v H1=>D.nx (((σ.set i (some v)).set j (some v)).set k (some v)) H1):=by
 intro QC s σ H D I h;refine wpAny_Assign_stores (thn (he QC s σ H _ I h) ?_) hs hw;rintro v s1 ⟨u,H1,I1,r1,q1⟩;show wpAny _ _ (do holding [v] (assign (.Name x p1) X.env v);holding [v] (assign (.Name y p2) X.env v);assign (.Name z p3) X.env v) _ _ _;refine A0 (QL (wpAny_assign_Name (dW I1 hN hi (.inl lx) r1 (λ s2 I2=>?_) (.inr lx))));refine A0 (QL (wpAny_assign_Name (dW I2 hN hj (.inl ly) r1 (λ s3 I3=>?_) (.inr ly))));exact wpAny_assign_Name (dW I3 hN hk (.inl lz) r1 (λ s4 I4=>%[_,H1,I4|q1]) (.inr lz))
theorem b60{a:Int}(h0:0<=a)(h:a<=10 ^ 60):a.natAbs < 2 ^ 4096:=by
 have e:(10:Int) ^ 60 < 2 ^ 200:=∅
 have e2:(2:Nat) ^ 200<=2 ^ 4096:=Nat.pow_le_pow_right ∅ ∅;have e3:((2:Nat) ^ 200:Int)=2 ^ 200:=∅
 refine C1 ?_ e2;have:(a.natAbs:Int) < ((2 ^ 200:Nat):Int):=by rw[Int.natAbs_of_nonneg h0];lia
 exact Int.ofNat_lt.mp this
end L2
namespace PySem
open Spec
section
variable{prog:F5}{w:F7}{A:Around}{E:F8->F4->Prop}{s:F4}{l:P6}{xs:P9 (Int×Tok)}
theorem mU{Q:F8->F4->Prop}(hh:A.handled=none)(hl:s.heap.IsTuple l (intItems xs))
  (h:∀h' tk t',(∀b o,s.heap.get? b=some o->h'.get? b=some o)->Q (.int (preSum (numAt xs) xs.size) t') { s with heap:=h',toks:=tk }) :
  wpAny (model prog w) A (call (.builtin "sum") [.ref l]) Q E s:=by
 have hlt:l < s.heap.objs.size:=by obtain⟨_,e,_⟩:=hl;exact A9 e
 refine call_sum_walkG (QW hl %[_,_,_,_,_,_,numAt xs,rfl,Walks.tuple (A:=A.in1) hh _ l (B9 hlt) (intItems xs),%[%[_,A8 _ rfl,rfl|rfl]|?_],λ b hb=>?_,(λ _ _=>intItems_at)|λ h' tk t' hk=>?_])
 ·obtain⟨o,e,r⟩:=hl;exact%[o,A7 _ e|r]
 ·show b < (s.heap.push _).objs.size;rw[QP];rcases G5.mp hb with rfl | hb
  ·exact E8 _
  ·rcases G5.mp hb with rfl | hb
   ·exact O0 hlt
   ·cases hb
 ·have:=h h' tk t' λ b o e=>hk b o (λ hm=>by
   have:b=s.heap.objs.size:=by simpa using hm
   subst this;exact absurd (A9 e) (C8 _)) (A7 _ e)
  simpa[intItems]using this
end
end PySem
namespace L2
open PySem PySem.Spec PyProof.Rows
section
variable{X:Cx}
inductive rz_call_sumT(K:C4)(xs:QA V)(H:Hp)(Q:VK):Prop
|mk(p:P6)(ns:QA Int)(_:xs=[.ref p])(_:SqT K H p (ns.map V.int))(_:Q (.int ns.sum) H)
theorem sJ(hc:X.calm=true):de X (.builtin "sum") (rz_call_sumT X.K):=by
 intro QC s σ H xs us Q I r h;obtain⟨p,ns,rfl,hs,q⟩:=h;obtain⟨u,rfl,rfl⟩:=fu r;obtain⟨its,rv,pl,_⟩:=I.tuple hs;have hi:=lI rv;obtain⟨xs,e⟩:=hi.allInts.items;rw[e]at pl;refine mU (I.ok.hd hc) pl λ h' tk t' hk=>?_;have e2:preSum (numAt xs) xs.size=ns.sum:=by rw[preSum_eq,K1 (by simp),<- nums_intItems,<- e,show its.toArray.toList=its from rfl,hi.numsOf]
 rw[e2];exact%[.int ns.sum,H,I.kept hk,%[_|Y]|q]
inductive rz_mt_extendT(K:C4)(x:V)(vs:QA V)(H:Hp)(Q:VK):Prop
|mk(l b xs zs:_)(_:x=.ref l)(_:vs=[.ref b])(_:H l=↥xs)(_:SqT K H b zs)(_:xs.length+zs.length<=sizeLine)(_:Q .non (upd H l (.lst (xs ++ zs))))
theorem mV{lo:Int}{n:Nat}{σ:St}{cap:QA Nat}{k:Nat}{g:TG}{tt:TT}{te:TE}{Q:QA V->Hp->Prop}{H:Hp}(Pv:Nat->QA V->Hp->Prop)(h0:Pv 0 [] H)
  (ht:∀i ys H',i < n->Pv i ys H'->ys.length < sizeLine/\g (.int (lo+i)) (bD σ cap k) H' λ σ2 H2=>leS (bD σ cap k) σ2/\tt σ2 H2 λ ok H3=>if ok=true then te σ2 H3 (λ v H4=>Nx n Pv i (ys ++ [v]) H4)else Nx n Pv i ys H3)
  (hd:∀ys H',Pv n ys H'->ys.length<=sizeLine/\Q ys H'):∃W,(∃m,W 0 m [] H)/\eV σ cap k (Itr lo n) g tt te Q W:=by
 refine%[λ i m ys H'=>m=n - i/\i<=n/\Pv i ys H',%[_,Y,E6 _|h0]|?_];rintro i m ys H' ⟨rfl,hi,p⟩
 by_cases hin:i < n
 ·obtain⟨e,hg⟩:=ht i ys H' hin p;refine .inr %[hin,e|λ x H2 yl=>?_];obtain⟨e1,e2⟩:=yl;subst e1 e2;exact hg
 ·have e:i=n:=⋯
  subst e;obtain⟨a1,a2⟩:=hd ys H' p;exact .inl %[B3 _,a1|a2]
end
def Itv(K:C4)(a:P6)(n:Nat):It :=
 %[λ i H=>i < n/\∃xs x,SqL K H a xs/\xs[n - 1 - i]?=some x,λ i H x H'=>H'=H/\∀xs,SqL K H a xs->xs[n - 1 - i]?=some x|λ i _=>n=i]
theorem vj{P:F5}{w:F7}{K:C4}{tg:Expr}(a it:P6)(n:Nat):Turn P w K tg (Itv K a n) [it] it (λ i h=>h.IsRevIter it a ((n:Int) - 1 - (i:Int))) where
 mem:=by simp
 obj:=λ i h st b hb=>by
  have e:b=it:=by simpa using hb
  subst e;obtain⟨o,e,c,d⟩:=st;exact%[o,e|λ v z=>by rw[d]at z;cases z]
 keep:=λ i h h' st k=>st.at λ o e=>k it (by simp) o e
 item:=by
  intro X hP hw hK hc i QC s σ H E I hf st hg;subst hP hw hK;obtain⟨hi,xs,x,hq,hx⟩:=hg;obtain⟨its,rv,p,hz⟩:=I.list hq;obtain⟨u,hu,ru⟩:=rv.get hx;obtain⟨f0,f1,f2,f3,f4,f5⟩:=hf it (by simp);have ei:(n:Int) - 1 - (i:Int)=((n - 1 - i:Nat):Int):=⋯
  rw[ei]at st;refine wpAny_pyNext_rev_item st p.isList (x:=u) (by simpa using hu) λ h' st' sb=>?_;have I1:Inv X QC σ H { s with heap:=h' }:=I.turned (t':=s.toks) (λ b o hb e=>(sb.2 b hb).trans e) f0 f1 f3 f4 f5;rw[show((n - 1 - i:Nat):Int) - 1=(n:Int) - 1 - ((i+1:Nat):Int)by lia]at st';obtain⟨o,e,c,d⟩:=id st';exact%[u,Y|mD (s:={ s with heap:=h' }) e c d ∅ %[x,H,I1,ru,%[Y|λ ys hy=>by rw[I.list_inj hy hq];exact hx],st'|λ b hb=>(hf b hb).1]]
 done:=by intro X hP hw hK hc i QC s σ H E I hf st hg;subst hP hw hK;have hg:n=i:=hg;obtain⟨f0,f1,f2,f3,f4,f5⟩:=hf it (by simp);rw[show(n:Int) - 1 - (i:Int)=-1 by lia]at st;exact wpAny_pyNext_rev_end (I.ok.hd hc) st λ h' eb=>%[Y|I.turned (t':=s.toks) (λ b o hb e=>eb b o hb e) f0 f1 f3 f4 f5]
 self:=λ _ _ _ _ _ st h=>wpAny_pyIter_revIter st h
section
variable{X:Cx}{tg:Expr}
def Nh(K:C4)(ta:TA):TI:=λ σ H R=>ta σ H λ vs H1=>∃a xs,vs=[V.ref a]/\SqL K H1 a xs/\R (Itv K a xs.length) H1
theorem vk{a:Expr}{ta:TA}{p pos:Pos}(hg:Gl X "reversed")(hm:X.mg "reversed" = none)(ha:PA X [a] ta)(hs:starEach [a] X.env=[(false,eval a X.env)]:=by rfl):PI X tg (.Call (.Name "reversed" p) [a] [] pos) (Nh X.K ta):=by
 intro QC s σ H R I h;refine Call_ (fh I hg hm boot_reversed (QM (thn (ha pos QC s σ H _ I h) ?_) hs rfl));rintro us s1 ⟨vs,H1,I1,r1,q1⟩;obtain⟨l,xs,e,hq,q⟩:=q1;subst e;cases r1 with
 | cons r rr=>
  cases rr;cases r;obtain⟨its,rv,pl,hz⟩:=I1.list hq;have hl:=rv.length;refine call_reversed_list pl.isList ?_;have st:(s1.heap.push (revObj l ((its.toArray.size:Int) - 1))).IsRevIter s1.heap.objs.size l ((xs.length:Int) - 1 - ((0:Nat):Int)):=by refine%[_,A8 _ rfl,Y|?_];show Data.fields #[.ref l,rawInt ((its.toArray.size:Int) - 1)]=_;rw[G7,hl,show(its.length:Int) - 1 - ((0:Nat):Int)=(its.length:Int) - 1 by simp]
  refine wpAny_pyIter_revIter st %[s1.heap.objs.size,[s1.heap.objs.size],_,_,H1,rfl,I1.kept (t':=s1.toks) λ b o e=>A7 _ e,vj l _ _,st,λ b hb=>?_|q];have e:b=s1.heap.objs.size:=by simpa using hb
  subst e;exact I1.fpOk (B3 _) (I1.hok.fresh (B3 _))
end
theorem vm{K:C4}{a:P6}{xs:QA V}{σ:St}{cap:QA Nat}{k:Nat}{g:TG}{tt:TT}{te:TE}{Q:QA V->Hp->Prop}{H:Hp}(Pv:Nat->QA V->Hp->Prop)
  (hk:∀i ys H',i<=xs.length->Pv i ys H'->H' a=↥xs) (h0:Pv 0 [] H)
  (ht:∀i x ys H',i < xs.length->xs[xs.length - 1 - i]?=some x->Pv i ys H'->ys.length < sizeLine/\g x (bD σ cap k) H' λ σ2 H2=>leS (bD σ cap k) σ2/\tt σ2 H2 λ ok H3=>if ok=true then te σ2 H3 (λ v H4=>Nx xs.length Pv i (ys ++ [v]) H4)else Nx xs.length Pv i ys H3)
  (hd:∀ys H',Pv xs.length ys H'->ys.length<=sizeLine/\Q ys H'):∃W,(∃m,W 0 m [] H)/\eV σ cap k (Itv K a xs.length) g tt te Q W:=by
 refine%[λ i m ys H'=>m=xs.length - i/\i<=xs.length/\Pv i ys H',%[_,Y,E6 _|h0]|?_];rintro i m ys H' ⟨rfl,hi,p⟩;have z:=hk i ys H' hi p
 by_cases hin:i < xs.length
 ·have hj:xs.length - 1 - i < xs.length:=⋯
  obtain⟨e,hg⟩:=ht i xs[xs.length - 1 - i] ys H' hin (E9 hj) p;refine .inr %[%[hin,xs,xs[xs.length - 1 - i],G1 z|E9 hj],e|λ x H2 yl=>?_];obtain⟨e1,e2⟩:=yl;have e3:=e2 xs (G1 z);rw[E9 hj]at e3;have e4:=B8 e3;subst e1 e4;exact hg
 ·have e:i=xs.length:=⋯
  subst e;obtain⟨a1,a2⟩:=hd ys H' p;exact .inl %[Y,a1|a2]
def Gy:V->QA V->Hp->VK->Prop:=λ x xs H Q=>∃sep p ys,x=.str sep/\xs=[.ref p]/\H p=↥(ys.map V.str)/\sep.length<=64/\(List.map (λ x:Str=>x.length) ys).sum+ys.length * 64<=16777216/\Q (.str (Txt.join sep ys)) H
theorem vn{X:Cx}(K:C4){o e:Expr}{to:TE}{t:TA}{apos cpos:Pos}(hK:X.K=K)(ho:PE X o to)(ha:PA X [e] t)
  (hbase:attributeBase o "join" X.env (eval o X.env)=eval o X.env:=by rfl)
  (hfew:((backTo cpos (starEach [e] X.env)).all (λ x=>!x.1) && (backToKw cpos (keywordEach [] X.env)).all (λ x=>x.1.isSome)
   && decide (([e]:QA Expr).length+([]:QA Keyword).length+(if ([]:QA Keyword).isEmpty then 0 else 1) < 30))=true:=by rfl)
  (hline:(apos.endLine == cpos.line)=true:=by rfl) (hs:starEach [e] X.env=(false,eval e X.env) :: starEach [] X.env:=by rfl) (hplain:(backTo cpos (starEach [] X.env)).any (·.1)=false:=by rfl) :
  PE X (.Call (.Attribute o "join" apos) [e] [] cpos) (tBM K "str" Gy to t) :=
 hK ▸ dG PySem.F.plainAttrs_str PySem.F.slot_str_join PySem.F.type_str_join qK ho ha hbase hfew hline hs hplain
theorem vo{X:Cx}:OpR X (compareOp .IsNot) (λ x y H Q=>y=.bl true/\∃b,x=.bl b/\Q (.bl (!b)) H):=by
 intro QC s σ H x y v u Q I rx ry h;obtain⟨rfl,b,rfl,q⟩:=h;cases ry;cases rx;unfold compareOp isSame;cases b
 ·exact A0 (A2 (A2 (aR I q rfl)))
 ·exact A0 (A2 (A2 (aR I q rfl)))
theorem sK{f:QA V->HO}(hf:∀xs ys,f xs=f ys->xs=ys){l:P6}{xs:QA V}{σ:St}{cap:QA Nat}{k:Nat}{g:TG}{tt:TT}{te:TE}{Q:QA V->Hp->Prop}{H:Hp}(Pv:Nat->QA V->Hp->Prop)
  (hk:∀i zs H',Pv i zs H'->H' l=some (f xs)) (h0:Pv 0 [] H)
  (hz:∀i zs H',i < xs.length->Pv i zs H'->zs.length < sizeLine)
  (ht:∀i x p zs H',xs[i]?=some x->H' p=none->Pv i zs H'->g (.ref p) (bD σ cap k) (upd H' p (.tup [.int i,x])) λ σ2 H2=>leS (bD σ cap k) σ2/\tt σ2 H2 λ ok H3=>if ok=true then te σ2 H3 (λ v H4=>Nx xs.length Pv i (zs ++ [v]) H4)else Nx xs.length Pv i zs H3)
  (hd:∀zs H',Pv xs.length zs H'->zs.length<=sizeLine/\Q zs H'):∃W,(∃m,W 0 m [] H)/\eV σ cap k (Ite f l) g tt te Q W:=by
 refine%[λ i m zs H'=>m=xs.length - i/\i<=xs.length/\Pv i zs H',%[_,Y,E6 _|h0]|?_];rintro i m zs H' ⟨rfl,hi,p⟩;have e1:=hk i zs H' p
 by_cases hlt:i < xs.length
 ·have hx:xs[i]?=some xs[i]:=by simp[hlt]
  refine .inr %[%[xs,_,e1|hx],hz i zs H' hlt p|λ v H2 yl=>?_]
  ·obtain⟨q,xs',x,hq,rfl,rfl,e1',ex⟩:=yl;rw[e1]at e1';have e2:=hf _ _ (B8 e1');subst e2;exact ht i x q zs H' ex hq p
 ·have e:i=xs.length:=⋯
  subst e;obtain⟨a1,a2⟩:=hd zs H' p;exact .inl %[%[xs,e1|B3 _],a1|a2]
section
variable{X:Cx}{tg:Expr}
def Gz(K:C4)(tl:TE):TI:=λ σ H R=>tl σ H λ x H1=>∃a,x=.ref a/\(((∃xs,SqL K H1 a xs)/\R (Itl K a) H1)\/((∃xs,SqT K H1 a xs)/\R (Itt K a) H1))
theorem lL{l:Expr}{tl:TE}(hl:PE X l tl):PI X tg l (Gz X.K tl):=by
 intro QC s σ H R I h;refine thn (hl QC s σ H _ I h) ?_;rintro v s1 ⟨x,H1,I1,r1,q1⟩;obtain⟨a,e,hq⟩:=q1;subst e;cases r1;have fr:∀b∈[s1.heap.objs.size],gL X QC H1 b:=λ b hb=>by
  have e:b=s1.heap.objs.size:=by simpa using hb
  subst e;exact I1.fpOk (B3 _) (I1.hok.fresh (B3 _))
 rcases hq with⟨⟨xs,hq⟩,q⟩ | ⟨⟨xs,hq⟩,q⟩
 ·obtain⟨its,rv,p,hz⟩:=I1.list hq;refine wpAny_pyIter_list p.isList ?_;exact%[s1.heap.objs.size,[s1.heap.objs.size],_,_,H1,Y,I1.kept (t':=s1.toks) λ b o e=>A7 _ e,kB a _,%[_,A8 _ rfl,Y|Y],fr|q]
 ·obtain⟨its,rv,p,hz⟩:=I1.tuple hq;refine QW (show s1.heap.IsTuple a its.toArray from p) ?_;exact%[s1.heap.objs.size,[s1.heap.objs.size],_,_,H1,Y,I1.kept (t':=s1.toks) λ b o e=>A7 _ e,jt a _,%[_,A8 _ rfl,Y|Y],fr|q]
end
mutual
inductive Tl where
 | rest
 | piece (i:Nat) (c:Bool) (x y:Int)
 | row (dn:Bool) (r:Tls)
inductive Tls where
 | nil
 | cons (n:Int) (t:Tl) (r:Tls)
end
def wyL(dn:Bool):Str:=if dn=true then "down" else "across"
def b01(c:Bool):Int:=if c=true then 1 else 0
theorem lM{a b:Bool}(h:b01 a=b01 b):a=b:=by cases a <;> cases b <;> first | rfl | exact absurd h ∅
mutual
noncomputable def enc:Tl->QA Int
 | .rest=>[3]
 | .piece i c x y=>[2,i,b01 c,x,y]
 | .row dn r=>b01 dn :: eY r
noncomputable def eY:Tls->QA Int
 | .nil=>[0]
 | .cons n t r=>1 :: n :: (enc t ++ eY r)
end
mutual
noncomputable def tlD:Tl->PyData
 | .rest=>.tuple [.str "rest"]
 | .piece i c x y=>.tuple [.str "piece",.int i,.bool c,.int x,.int y]
 | .row dn r=>.tuple [.str (wyL dn),.tuple (bH r)]
noncomputable def bH:Tls->QA PyData
 | .nil=>[]
 | .cons n t r=>.tuple [.int n,tlD t] :: bH r
end
mutual
theorem jd:∀(t u:Tl)(r r':QA Int),enc t ++ r=enc u ++ r'->t=u/\r=r'
 | .rest,.rest,r,r',h=>by simpa[enc]using h
 | .rest,.piece ..,r,r',h=>by simp[enc]at h
 | .rest,.row dn _,r,r',h=>by cases dn <;> simp[enc,b01]at h
 | .piece ..,.rest,r,r',h=>by simp[enc]at h
 | .piece i c x y,.piece i' c' x' y',r,r',h=>by simp only[enc,K6,List.cons.injEq,List.nil_append,true_and]at h;obtain⟨h1,h2,h3,h4,h5⟩:=h;rw[lM h2,h3,h4,show i=i' by lia];exact%[Y|h5]
 | .piece ..,.row dn _,r,r',h=>by cases dn <;> simp[enc,b01]at h
 | .row dn _,.rest,r,r',h=>by cases dn <;> simp[enc,b01]at h
 | .row dn _,.piece ..,r,r',h=>by cases dn <;> simp[enc,b01]at h
 | .row dn a,.row dn' a',r,r',h=>by simp only[enc,K6,List.cons.injEq]at h;obtain⟨h1,h2⟩:=mW a a' r r' h.2;rw[lM h.1,h1];exact%[Y|h2]
theorem mW:∀(t u:Tls)(r r':QA Int),eY t ++ r=eY u ++ r'->t=u/\r=r'
 | .nil,.nil,r,r',h=>by simpa[eY]using h
 | .nil,.cons ..,r,r',h=>by simp[eY]at h
 | .cons ..,.nil,r,r',h=>by simp[eY]at h
 | .cons n t a,.cons n' t' a',r,r',h=>by simp only[eY,K6,List.cons.injEq,true_and,N1]at h;obtain⟨h1,h2⟩:=jd t t' _ _ h.2;obtain⟨h3,h4⟩:=mW a a' r r' h2;rw[h.1,h1,h3];exact%[Y|h4]
end
theorem ya{t u:Tl}(h:enc t=enc u):t=u:=(jd t u [] [] (by rw[h])).1
theorem qR:∀(l r r':QA Int),aX (l ++ r) (l ++ r')=aX r r'
 | [],_,_=>rfl
 | a :: l,r,r'=>by rw[K6,K6,aX,QI rfl];exact qR l r r'
theorem qS:∀(l l' r r':QA Int),(∀z,l ++ z≠l')->(∀z,l≠l' ++ z)->aX (l ++ r) (l' ++ r')=aX l l'
 | [],l',_,_,h,_=>absurd rfl (h l')
 | l,[],_,_,_,h=>absurd rfl (h l)
 | a :: l,b :: l',r,r',h1,h2=>by
  rw[K6,K6,aX,aX]
  by_cases e:a=b
  ·rw[QI e,QI e];exact qS l l' r r' (λ z hz=>h1 z (by rw[K6,e,hz])) (λ z hz=>h2 z (by rw[K6,e,hz]))
  ·rw[QH e,QH e]
theorem yc{t u:Tl}(h:t≠u)(r r':QA Int):aX (enc t ++ r) (enc u ++ r')=aX (enc t) (enc u) :=
 qS _ _ _ _ (λ z e=>h (jd t u z [] (by rw[J7];exact e)).1) (λ z e=>h (jd t u [] z (by rw[J7];exact e)).1)
theorem sL(n n':Int)(t t':Tl)(r r':Tls):aX (eY (.cons n t r)) (eY (.cons n' t' r'))=aX (n :: (enc t ++ eY r)) (n' :: (enc t' ++ eY r')):=by rw[eY,eY,aX,QI rfl]
theorem GA:(PyData.str "piece").canLay0=true:=∅
theorem Ar(dn:Bool):(PyData.str (wyL dn)).canLay0=true:=by cases dn <;> decide +kernel
mutual
theorem cO:∀t:Tl,(tlD t).canLay0=true
 | .rest=>∅
 | .piece i c x y=>by have:=GA;simp only[tlD,PyData.canLay0,PyData.canLayAll0,K8]at this ⊢;exact this
 | .row dn r=>by have h1:=Ar dn;have h2:=gW r;simp only[tlD,PyData.canLay0,PyData.canLayAll0,K8]at h1 ⊢;rw[h1,h2];rfl
theorem gW:∀t:Tls,PyData.canLayAll0 (bH t)=true
 | .nil=>rfl
 | .cons n t r=>by have h1:=cO t;have h2:=gW r;simp only[bH,PyData.canLayAll0,PyData.canLay0,K8,M4];rw[h1,h2];rfl
end
mutual
theorem iC:∀t u:Tl,PyData.eqv (tlD t) (tlD u)=true↔t=u
 | .rest,.rest=>by simp[tlD,PyData.eqv,PyData.eqvAll]
 | .rest,.piece ..=>by simp[tlD,PyData.eqv,PyData.eqvAll]
 | .rest,.row dn _=>by simp[tlD,PyData.eqv,PyData.eqvAll]
 | .piece ..,.rest=>by simp[tlD,PyData.eqv,PyData.eqvAll]
 | .piece i c x y,.piece i' c' x' y'=>by
  simp only[tlD,PyData.eqv,PyData.eqvAll,K4,beq_iff_eq,true_and,and_true,Tl.piece.injEq];constructor
  ·rintro⟨h1,h2,h3,h4⟩;exact%[⋯,h2,h3|h4]
  ·rintro⟨h1,h2,h3,h4⟩;exact%[⋯,h2,h3|h4]
 | .piece ..,.row dn _=>by simp[tlD,PyData.eqv,PyData.eqvAll]
 | .row dn _,.rest=>by simp[tlD,PyData.eqv,PyData.eqvAll]
 | .row dn _,.piece ..=>by simp[tlD,PyData.eqv,PyData.eqvAll]
 | .row dn r,.row dn' r'=>by
  have h:=lN r r';simp only[tlD,PyData.eqv,PyData.eqvAll,K4,beq_iff_eq,and_true,Tl.row.injEq];rw[h];constructor
  ·rintro⟨h1,h2⟩;exact⟨by cases dn <;> cases dn' <;> first | rfl | exact absurd h1 ∅,h2⟩
  ·rintro⟨h1,h2⟩;rw[h1];exact%[Y|h2]
theorem lN:∀t u:Tls,PyData.eqvAll (bH t) (bH u)=true↔t=u
 | .nil,.nil=>by simp[bH,PyData.eqvAll]
 | .nil,.cons ..=>by simp[bH,PyData.eqvAll]
 | .cons ..,.nil=>by simp[bH,PyData.eqvAll]
 | .cons n t r,.cons n' t' r'=>by have h1:=iC t t';have h2:=lN r r';simp only[bH,PyData.eqv,PyData.eqvAll,K4,beq_iff_eq,and_true,Tls.cons.injEq];rw[h1,h2,and_assoc]
end
theorem yd{t u:Tl}(h:tlD t=tlD u):t=u:=(iC t u).mp (by rw[h];exact(iC u u).mpr rfl)
end L2
namespace PySem.SeqAt
open AutoSeq1 (wpAny_loadPart')
open MeetsSeq MeetsSeq2 MeetsSeq3 SeqRoads2
def LtAt(A:Around)(s:F4)(y x:F8)(b:Bool):Prop :=
 ∀(prog:F5)(w:F7)(E Q:F8->F4->Prop),Q (.bool b) s->wpAny (model prog w) A (richCompare .Lt y x) Q E s
inductive LexAt(A:Around)(s:Shared)(fin:Bool):QA (Value×Value)->Bool->Prop
 | nil:LexAt A s fin [] fin
 | eq {x y:F8} {r:QA (F8×F8)} {c:Bool}:EqAt A s x y true->LexAt A s fin r c->LexAt A s fin ((x,y) :: r) c
 | ne {x y:F8} {r:QA (F8×F8)} {c:Bool}:EqAt A s x y false->LtAt A s x y c->LexAt A s fin ((x,y) :: r) c
theorem oA(l b:P6)(items items2:P9 F8)(n n2:Nat)(dd dd2:P8 P6)(sl sl2:P9 (P8 F8))(c:Bool) :
  Meets (Builtin.«tuple.__lt__» %[[.ref l,.ref b]|[]])
   (λ A R s=>s.heap.get? l=some { cls:=.type "tuple",dict:=dd,data:=.seq items n,slots:=sl }/\s.heap.get? b=some { cls:=.type "tuple",dict:=dd2,data:=.seq items2 n2,slots:=sl2 } /\
    LexAt A.in1 s (decide (items.size < items2.size)) (items.toList.zip items2.toList) c/\R (.ok (.ret (.bool c))) s) :=
 .of_wp λ prog w A R s h=>by
  obtain⟨hp,g,d,tk,os⟩:=s;obtain⟨hl,hb,he,h⟩:=h;have f2:=AutoSeq1.sub_tuple_tuple
  wp_walk using Qb hl,Qb hb,wpAny_forIn_list _ (λ rest b s'=>b.1=none/\s'=%[hp,g,d,tk|os]/\LexAt A.in1 %[hp,g,d,tk|os] (decide (items.size < items2.size)) rest c) _
  case turn=>
   rintro⟨y,x⟩ rest b s' ⟨hb',rfl,hL⟩;cases hL with
   | eq h1 h2=>
    refine A0 (h1 prog w _ _ ?_)
    wp_walk
    exact%[Y,Y|h2]
   | ne h1 h2=>
    refine A0 (h1 prog w _ _ ?_);simp only[Bool.not_false,Qa];refine A0 (wpAny_rule ?_);refine A0 (h2 prog w _ _ ?_)
    wp_walk
    exact%[_,Y|h]
  case fin=>
   rintro⟨b1,b2⟩ s' ⟨hb',rfl,hL⟩;simp only at hb';subst hb';cases hL
   wp_walk
   exact%[_,Y|by simpa[Builtin.Tuple.tupleCompareSizes]using h]
  case h=>
   exact%[Y,Y|he]
theorem LtAt.tuples{A:Around}{s:F4}{l b:P6}{items items2:P9 F8}{c:Bool}(hl:s.heap.IsTuple l items)(hb:s.heap.IsTuple b items2)(hu:A.units < cLine)
  (he:LexAt A.in1 s (decide (items.size < items2.size)) (items.toList.zip items2.toList) c):LtAt A s (.ref l) (.ref b) c:=λ prog w E Q h=>by
 obtain⟨⟨cls,dd,data,sl⟩,ho,hc,n,hd⟩:=id hl;obtain⟨⟨cls2,dd2,data2,sl2⟩,ho2,hc2,n2,hd2⟩:=id hb;simp only at hc hd hc2 hd2;subst hc hd hc2 hd2;exact richCompare_meets_room (op:=.Lt) %[_,ho|rfl] %[_,ho2|rfl] F.slot_tuple_lt F.entry_tuple_lt (F.args_tuple_lt_2 _ _) (oA l b items items2 n n2 dd dd2 sl sl2 c)
  %[ho,ho2,he|show Value.bool c≠Value.notImplemented/\Q (.bool c) s from%[(λ x=>nomatch x)|h]] hu
end PySem.SeqAt
namespace L2
open PySem PySem.Spec PyProof.Rows PySem.SeqAt
theorem bY{h:Heap}{a:F8}{ds:QA PyData}{as:QA P6}(r:Reads h a (.tuple ds) as):∃l vs bs,a=.ref l/\h.IsTuple l (List.toArray vs)/\ReadsAll h vs ds bs:=by
 cases r with
 | @tuple l o vs n xs as h1 h2 h3 h4=>exact%[l,vs.toList,_,Y,%[o,h1,h2,n|by simpa using h3]|h4]
theorem aG{h:Heap}{vs:QA F8}{d:PyData}{ds:QA PyData}{as:QA P6}(r:ReadsAll h vs (d :: ds) as):∃v vs' bs cs,vs=v :: vs'/\Reads h v d bs/\ReadsAll h vs' ds cs:=by
 cases r with
 | cons h1 h2=>exact%[_,_,_,_,Y,h1|h2]
theorem bp{h:Heap}{vs:QA F8}{as:QA P6}(r:ReadsAll h vs [] as):vs=[]:=by cases r;rfl
theorem vp{A:Around}{s:F4}{x y:F8}{z z':Str}{as bs:QA P6}(hx:Reads s.heap x (.str z) as)(hy:Reads s.heap y (.str z') bs){c:Bool}(hne:(z == z')=false)(hc:decide (z.cps.toList < z'.cps.toList)=c){fin:Bool}{r:QA (F8×F8)}:LexAt A s fin ((x,y) :: r) c:=by
 cases hx;cases hy
 rename_i t u
 refine .ne ?_ λ prog w E Q h=>PyProof.Rows.lt_str (by rw[hc];exact h);have:=EqAt.str_str (A:=A) (s:=s) z t z' u;rw[hne]at this;exact this
theorem vq{A:Around}{s:F4}{x y:F8}{z:Str}{as bs:QA P6}(hx:Reads s.heap x (.str z) as)(hy:Reads s.heap y (.str z) bs):EqAt A s x y true:=by
 cases hx;cases hy
 rename_i t u
 have:=EqAt.str_str (A:=A) (s:=s) z t z u;rw[beq_self_eq_true]at this;exact this
theorem qU{A:Around}{s:F4}{x y:F8}{n m:Int}{as bs:QA P6}(hx:Reads s.heap x (.int n) as)(hy:Reads s.heap y (.int m) bs):EqAt A s x y (n == m):=by cases hx;cases hy;exact EqAt.int_int n _ m _
theorem ye{A:Around}{s:F4}{x y:F8}{n m:Int}{as bs:QA P6}(hx:Reads s.heap x (.int n) as)(hy:Reads s.heap y (.int m) bs):LtAt A s x y (decide (n < m)):=by cases hx;cases hy;exactλ prog w E Q h=>PyProof.Rows.lt_int h
theorem je{A:Around}{s:F4}{x y:F8}{n m:Int}{as bs:QA P6}{fin:Bool}{r:QA (F8×F8)}{u v:QA Int}(hx:Reads s.heap x (.int n) as)(hy:Reads s.heap y (.int m) bs)(h:n=m->LexAt A s fin r (aX u v)):LexAt A s fin ((x,y) :: r) (aX (n :: u) (m :: v)):=by
 have e:=qU (A:=A) hx hy;rw[aX]
 by_cases c:n=m
 ·rw[QI c];rw[show(n == m)=true by simpa using c]at e;exact .eq e (h c)
 ·rw[QH c];rw[show(n == m)=false by simpa using c]at e;exact .ne e (ye hx hy)
theorem vt{A:Around}{s:F4}{x y:F8}{n m:Bool}{as bs:QA P6}{fin:Bool}{r:QA (F8×F8)}{u v:QA Int}(hx:Reads s.heap x (.bool n) as)(hy:Reads s.heap y (.bool m) bs)(h:n=m->LexAt A s fin r (aX u v)):LexAt A s fin ((x,y) :: r) (aX (b01 n :: u) (b01 m :: v)):=by
 cases hx;cases hy;have e:=EqAt.bool_bool (A:=A) (s:=s) n m;rw[aX]
 by_cases c:n=m
 ·rw[QI (by rw[c])];rw[show(n == m)=true by simpa using c]at e;exact .eq e (h c)
 ·rw[QH (λ z=>c (lM z))];rw[show(n == m)=false by simpa using c]at e;refine .ne e λ prog w E Q h=>PyProof.Rows.lt_bool ?_;have:decide (b2i n < b2i m)=decide (b01 n < b01 m):=by cases n <;> cases m <;> rfl
  show Q (.bool (decide (b2i n < b2i m))) s;rw[this];exact h
theorem qV{A:Around}{s:F4}{x y:F8}{fin c:Bool}{p:Prop}{k:Bool}(hp:k=true↔p)(h1:EqAt A s x y k)(h2:¬p->LtAt A s x y c)(h3:p->fin=c):LexAt A s fin [(x,y)] c:=by
 cases k with
 | true=>
  rw[<- h3 (hp.mp rfl)];exact .eq h1 .nil
 | false=>exact .ne h1 (h2 λ z=>absurd (hp.mpr z) ∅)
theorem oB(d:PyData)(ds:QA PyData):d.depth<=PyData.depthAll (d :: ds)/\PyData.depthAll ds<=PyData.depthAll (d :: ds):=by rw[PyData.depthAll];lia
def hdW:Tl->Str
 | .rest=>"rest"
 | .piece ..=>"piece"
 | .row dn _=>wyL dn
def hdI:Tl->Int
 | .rest=>3
 | .piece ..=>2
 | .row dn _=>b01 dn
def tlT:Tl->QA PyData
 | .rest=>[]
 | .piece i c x y=>[.int i,.bool c,.int x,.int y]
 | .row _ r=>[.tuple (bH r)]
def As:Tl->QA Int
 | .rest=>[]
 | .piece i c x y=>[i,b01 c,x,y]
 | .row _ r=>eY r
theorem GB(t:Tl):tlD t=.tuple (.str (hdW t) :: tlT t):=by cases t <;> rw[tlD] <;> rfl
theorem vv(t:Tl):enc t=hdI t :: As t:=by cases t <;> rw[enc] <;> rfl
theorem zP(t:Tl):(hdW t,hdI t)∈([("rest",3),("piece",2),("down",1),("across",0)]:QA (Str×Int)):=by
 cases t with
 | row dn r=>cases dn <;> simp[hdW,hdI,wyL,b01]
 | _=>simp[hdW,hdI]
theorem GC:∀p∈([("rest",3),("piece",2),("down",1),("across",0)]:QA (Str×Int)),∀q∈([("rest",3),("piece",2),("down",1),("across",0)]:QA (Str×Int)),(p.2=q.2->p.1=q.1)/\(p.2≠q.2->(p.1 == q.1)=false/\decide (p.1.cps.toList < q.1.cps.toList)=decide (p.2 < q.2)):=∅
theorem vx{t u:Tl}{A:Around}{s:F4}{a b:F8}{as bs:QA P6}(ra:Reads s.heap a (tlD t) as)(rb:Reads s.heap b (tlD u) bs)(hu:A.units < cLine)
  (k:∀vs ws as bs,hdI t=hdI u->ReadsAll s.heap vs (tlT t) as->ReadsAll s.heap ws (tlT u) bs->LexAt A.in1 s (decide (vs.length+1 < ws.length+1)) (vs.zip ws) (aX (As t) (As u))):LtAt A s a b (aX (enc t) (enc u)):=by
 rw[GB]at ra rb;obtain⟨l,vs,_,rfl,ta,ra⟩:=bY ra;obtain⟨v,vs,_,_,rfl,r1,ra⟩:=aG ra;obtain⟨l',ws,_,rfl,tb,rb⟩:=bY rb;obtain⟨w,ws,_,_,rfl,r2,rb⟩:=aG rb;obtain⟨h1,h2⟩:=GC _ (zP t) _ (zP u);refine .tuples ta tb hu ?_;rw[vv,vv,aX]
 by_cases e:hdI t=hdI u
 ·have h1:hdW t=hdW u:=h1 e;rw[h1]at r1;rw[QI e];exact .eq (vq r1 r2) (k _ _ _ _ e ra rb)
 ·rw[QH e];obtain⟨h3,h4⟩:=h2 e;exact vp r1 r2 h3 h4
mutual
theorem zQ:∀(t u:Tl)(A:Around)(s:F4)(a b:F8)(as bs:QA P6),Reads s.heap a (tlD t) as->Reads s.heap b (tlD u) bs->A.units+(tlD t).depth < cLine->LtAt A s a b (aX (enc t) (enc u))
 | .rest,u,A,s,a,b,as,bs,ra,rb,hu=>vx ra rb ⋯ λ vs ws _ _ e ra rb=>by
  cases bp ra;cases u with
  | rest=>cases bp rb;exact .nil
  | piece i c x y=>simp[hdI]at e
  | row dn r=>cases dn <;> simp[hdI,b01]at e
 | .piece i c x y,u,A,s,a,b,as,bs,ra,rb,hu=>vx ra rb ⋯ λ vs ws _ _ e ra rb=>by
  cases u with
  | rest=>simp[hdI]at e
  | piece i' c' x' y'=>
   obtain⟨v1,vs,_,_,rfl,a1,ra⟩:=aG ra;obtain⟨v2,vs,_,_,rfl,a2,ra⟩:=aG ra;obtain⟨v3,vs,_,_,rfl,a3,ra⟩:=aG ra;obtain⟨v4,vs,_,_,rfl,a4,ra⟩:=aG ra;cases bp ra;obtain⟨w1,ws,_,_,rfl,c1,rb⟩:=aG rb;obtain⟨w2,ws,_,_,rfl,c2,rb⟩:=aG rb;obtain⟨w3,ws,_,_,rfl,c3,rb⟩:=aG rb;obtain⟨w4,ws,_,_,rfl,c4,rb⟩:=aG rb;cases bp rb;exact je a1 c1 λ _=>vt a2 c2 λ _=>je a3 c3 λ _=>je a4 c4 λ _=>.nil
  | row dn r=>cases dn <;> simp[hdI,b01]at e
 | .row dn r,u,A,s,a,b,as,bs,ra,rb,hu=>vx ra rb ⋯ λ vs ws _ _ e ra rb=>by
  cases u with
  | rest=>cases dn <;> simp[hdI,b01]at e
  | piece i c x y=>cases dn <;> simp[hdI,b01]at e
  | row dn' r'=>
   rw[tlD]at hu;obtain⟨v1,vs,_,_,rfl,a1,ra⟩:=aG ra;cases bp ra;obtain⟨w1,ws,_,_,rfl,c1,rb⟩:=aG rb;cases bp rb;have hu:A.units+(max 0 (max (PyData.depthAll (bH r)+1) 0)+1) < cLine:=hu;have k:PyData.eqv (.tuple (bH r)) (.tuple (bH r'))=true↔r=r':=lN r r';refine qV k (eqAt_reads _ _ _ s _ _ _ _ a1 c1 (gW r) (gW r') (by rw[PyData.depth];show A.units+1+_ < _;lia)) (λ _=>?_) (λ z=>by rw[z];exact(cN (eY r')).symm);obtain⟨p,ps,_,rfl,tp,rp⟩:=bY a1;obtain⟨q,qs,_,rfl,tq,rq⟩:=bY c1;refine .tuples tp tq (by show A.units+1 < _;lia) ?_;exact qW r r' _ s ps qs _ _ rp rq (by show A.units+1+1+_ < _;lia)
theorem qW:∀(r r':Tls)(A:Around)(s:F4)(vs ws:QA F8)(as bs:QA P6),ReadsAll s.heap vs (bH r) as->ReadsAll s.heap ws (bH r') bs->A.units+PyData.depthAll (bH r) < cLine->LexAt A s (decide (vs.length < ws.length)) (vs.zip ws) (aX (eY r) (eY r'))
 | .nil,.nil,A,s,vs,ws,as,bs,ra,rb,hu=>by cases bp ra;cases bp rb;exact .nil
 | .nil,.cons ..,A,s,vs,ws,as,bs,ra,rb,hu=>by cases bp ra;rw[bH]at rb;obtain⟨w,ws,_,_,rfl,r2,rb⟩:=aG rb;exact .nil
 | .cons ..,.nil,A,s,vs,ws,as,bs,ra,rb,hu=>by cases bp rb;rw[bH]at ra;obtain⟨w,ws,_,_,rfl,r2,ra⟩:=aG ra;exact .nil
 | .cons n t r,.cons m u r',A,s,vs,ws,as,bs,ra,rb,hu=>by
  rw[bH]at ra rb hu;obtain⟨v,vs,_,_,rfl,r1,ra9⟩:=aG ra;obtain⟨w,ws,_,_,rfl,r2,rb9⟩:=aG rb;have hd:=oB (.tuple [.int n,tlD t]) (bH r);have h0:(PyData.tuple [.int n,tlD t]).depth=max 0 (max (tlD t).depth 0)+1:=rfl;have k:PyData.eqv (.tuple [.int n,tlD t]) (.tuple [.int m,tlD u])=true↔n=m/\t=u:=by have:=iC t u;simp only[PyData.eqv,PyData.eqvAll,K4,beq_iff_eq,and_true];rw[this]
  have lay:∀(n:Int)(t:Tl),(PyData.tuple [.int n,tlD t]).canLay0=true:=λ n t=>by simp only[PyData.canLay0,PyData.canLayAll0,K8,M4];exact cO t
  have e:=eqAt_reads _ _ A s _ _ _ _ r1 r2 (lay n t) (lay m u) ⋯;rw[sL,List.zip_cons_cons,show decide ((v :: vs).length < (w :: ws).length)=decide (vs.length < ws.length)by simp];cases z:PyData.eqv (.tuple [.int n,tlD t]) (.tuple [.int m,tlD u])with
  | true=>
   rw[z]at e;obtain⟨rfl,rfl⟩:=k.mp z;rw[aX,QI rfl,qR];exact .eq e (qW r r' A s vs ws _ _ ra9 rb9 ⋯)
  | false=>
   rw[z]at e;refine .ne e ?_;have nk:¬(n=m/\t=u):=λ y=>by rw[k.mpr y]at z;cases z
   obtain⟨p,ps,_,rfl,tp,rp⟩:=bY r1;obtain⟨q,qs,_,rfl,tq,rq⟩:=bY r2;obtain⟨v1,ps,_,_,rfl,a1,rp⟩:=aG rp;obtain⟨v2,ps,_,_,rfl,a2,rp⟩:=aG rp;cases bp rp;obtain⟨w1,qs,_,_,rfl,c1,rq⟩:=aG rq;obtain⟨w2,qs,_,_,rfl,c2,rq⟩:=aG rq;cases bp rq;refine .tuples tp tq ⋯ (je a1 c1 λ hn=>?_);rw[yc (λ z=>nk %[hn|z])];exact qV (iC t u) (eqAt_reads _ _ _ s _ _ _ _ a2 c2 (cO t) (cO u) (by show A.units+1+_ < _;lia)) (λ _=>zQ t u _ s _ _ _ _ a2 c2 (by show A.units+1+_ < _;lia)) (λ z=>absurd %[hn|z] nk)
end
end L2
namespace PyProof.Rows
open PySem
section
variable{prog:F5}{w:F7}{A:Around}{E:F8->F4->Prop}{s:F4}
theorem vy{κ:KeyKind}{κ0:SortKind}{l:P6}{vs:QA F8}{Q:F8->F4->Prop}(hl:s.heap.IsList l vs.toArray)(h0:KeysOf κ (pairsOf vs))(hkk:∀ (A':Around) (s':F4),A'.units<=A.units+4->(∀b o,s.heap.get? b=some o->s'.heap.get? b=some o)->cH prog w A' s' κ0 κ/\∀v₁ v₂ rest,vs=v₁ :: v₂ :: rest->∀ (Q:SortKind->F4->Prop) (E':F8->F4->Prop),Q κ0 s'->wpAny (model prog w) A' (keyKind' (v₁ :: v₂ :: rest).toArray) Q E' s')(h64:vs.length < 64)
  (h:∀st':SortSt,(arrOf st').Perm (pairsOf vs)->SortedToK κ (arrOf st') (pairsOf vs).size->Q (.ref (s.heap.objs.size+1)) { s with heap:=sortedAll s.heap vs ((arrOf st').map (·.2)) }) :
  wpAny (model prog w) A (call (.builtin "sorted") [.ref l]) Q E s:=by
 refine Calls.call_function_entry kind_sorted plain_sorted entry_sorted (args_sorted1 _) ?_;unfold Builtin.«sorted»;refine A0 (m:=checkCount "sorted" 1 1 _) (A2 ?_);refine A0 (collect_list hl ?_);refine A0 (wpAny_newList ?_);have hsz:((s.heap.push (seqObj "list" #[] 0)).update s.heap.objs.size (Obj.mapSeq (· ++ vs.toArray))).objs.size=s.heap.objs.size+1:=by rw[Heap.size_update,size_push']
 have hoL:(((s.heap.push (seqObj "list" #[] 0)).update s.heap.objs.size (Obj.mapSeq (· ++ vs.toArray))).push (seqObj "list" vs.toArray 0)).get? (s.heap.objs.size+1)=some (seqObj "list" vs.toArray 0):=by rw[<- hsz];exact A8 _ rfl
 show wpAny _ _ _ _ _ { s with heap:=((s.heap.push (seqObj "list" #[] 0)).update s.heap.objs.size (Obj.mapSeq (· ++ vs.toArray))).push (seqObj "list" vs.toArray 0) };rw[hsz];refine A0 (QL (F1 slot_list_sort %[_,hoL|rfl] entry_list_sort (eX hoL h0 (λ s' k=>by refine And.imp id (λ a2 v1 v2 r e Q q=>a2 v1 v2 r e Q _ q) (hkk _ s' ?_ (λ b o e=>k b o (B9 (O0 (A9 e))) (A7 _ (by rw[Heap.get?_update_ne _ _ _ _ (B9 (Heap.lt_size e))];exact A7 _ e))));show A.units+1+1<=A.units+4;lia) h64 λ st' a1 a2=>%[_,Y|?_]) (args_list_sort _)));exact A2 %[_,rfl|h st' a1 a2]
end
end PyProof.Rows
namespace L2
open PySem PySem.Spec PyProof.Rows PySem.SeqAt
mutual
theorem jf{h h':Heap}(k:∀b o,h.get? b=some o->h'.get? b=some o):∀{v:F8}{d:PyData}{as:QA P6},Reads h v d as->Reads h' v d as
 | _,_,_,.none=>.none
 | _,_,_,.bool b=>.bool b
 | _,_,_,.int i t=>.int i t
 | _,_,_,.str x t=>.str x t
 | _,_,_,.list h1 h2 h3 h4=>.list (k _ _ h1) h2 h3 (fE k h4)
 | _,_,_,.tuple h1 h2 h3 h4=>.tuple (k _ _ h1) h2 h3 (fE k h4)
 | _,_,_,.dict h1 h2 h3 h4 h5=>.dict (k _ _ h1) h2 h3 (fE k h4) (fE k h5)
theorem fE{h h':Heap}(k:∀b o,h.get? b=some o->h'.get? b=some o):∀{v:QA F8}{d:QA PyData}{as:QA P6},ReadsAll h v d as->ReadsAll h' v d as
 | _,_,_,.nil=>.nil
 | _,_,_,.cons a r=>.cons (jf k a) (fE k r)
end
def ItR(h:Heap)(m:Nat)(v:F8)(z:Int×Tl):Prop:=(∃as,Reads h v (.tuple [.int z.1,tlD z.2]) as)/\(tlD z.2).depth<=m
def cP(z:Int×Tl):QA Int:=z.1 :: enc z.2
theorem vz{a b:Int×Tl}(h:cP a=cP b):a=b:=by
 obtain⟨n,t⟩:=a;obtain⟨m,u⟩:=b;have h:n :: enc t=m :: enc u:=h;injection h with h1 h2
 rw[h1,ya h2]
theorem At(n:Int)(t:Tl):(PyData.tuple [.int n,tlD t]).canLay0=true:=by simp only[PyData.canLay0,PyData.canLayAll0,K8,M4];exact cO t
theorem ItR.uniq{h:Heap}{m:Nat}{v:F8}{a b:Int×Tl}(ha:ItR h m v a)(hb:ItR h m v b):a=b:=by obtain⟨⟨as,ra⟩,_⟩:=ha;obtain⟨⟨bs,rb⟩,_⟩:=hb;have:=Reads.unique _ _ v as bs (At _ _) ra rb;obtain⟨n,t⟩:=a;obtain⟨n',t'⟩:=b;simp only[PyData.tuple.injEq,List.cons.injEq,PyData.int.injEq,and_true]at this;rw[this.1,yd this.2]
open Classical in
def mX(h:Heap)(m:Nat)(v:F8):P8 (QA Int):=if e:∃z,ItR h m v z then some (cP e.choose)else none
theorem mY{h:Heap}{m:Nat}{v:F8}{k:QA Int}(e:mX h m v=some k):∃z,ItR h m v z/\k=cP z:=by
 unfold mX at e
 split at e
 ·rename_i x
  exact%[_,x.choose_spec|(B8 e).symm]
 ·cases e
theorem vA{h:Heap}{m:Nat}{v:F8}{z:Int×Tl}(hz:ItR h m v z):mX h m v=some (cP z):=by unfold mX;rw[dif_pos %[z|hz],(Exists.choose_spec (%[z|hz]:∃z,ItR h m v z)).uniq hz]
def tlK(h:Heap)(m:Nat):KeyKind where
 α:=QA Int
 blt:=aX
 irrefl:=cN
 trans:=fW
 negTrans:=jc
 total:=fX
 keyOf:=mX h m
 dflt:=[]
section
variable{prog:F5}{w:F7}{A:Around}{E:F8->F4->Prop}{s:F4}
theorem vB{h:Heap}{m:Nat}(hu:A.units+m < cLine)(k:∀b o,h.get? b=some o->s.heap.get? b=some o):cH prog w A s (tuples' true) (tlK h m):=by
 intro E x y a b Q ha hb q;obtain⟨⟨n,t⟩,⟨⟨as,ra⟩,da⟩,rfl⟩:=mY ha;obtain⟨⟨n',t'⟩,⟨⟨bs,rb⟩,db⟩,rfl⟩:=mY hb;obtain⟨l,vs,_,rfl,⟨ox,hx,cx,nx,dx⟩,ra⟩:=bY (jf k ra);obtain⟨l',ws,_,rfl,⟨oy,hy,cy,ny,dy⟩,rb⟩:=bY (jf k rb);obtain⟨v1,vs,_,_,rfl,a1,ra⟩:=aG ra;obtain⟨v2,vs,_,_,rfl,a2,ra⟩:=aG ra;cases bp ra;obtain⟨w1,ws,_,_,rfl,c1,rb⟩:=aG rb;obtain⟨w2,ws,_,_,rfl,c2,rb⟩:=aG rb;cases bp rb;have q:Q (aX (n :: enc t) (n' :: enc t')) s:=q;rw[aX]at q;refine PySem.W.kat_lt hx dx hy dy (PySem.W.kat_cons (qU a1 c1 prog w _ _ (PySem.W.kat_go (λ e=>PySem.W.kat_yes (PySem.W.kat_cons ?_)) (λ e=>PySem.W.kat_no ?_))))
 ·have e:n=n':=by simpa using e
  rw[QI e]at q;have hd:A.units+min (tlD t).depth (tlD t').depth < cLine:=by have:(tlD t).depth<=m:=da;lia
  refine eqAt_reads _ _ A s _ _ _ _ a2 c2 (cO t) (cO t') hd prog w _ _ (PySem.W.kat_go (λ e=>PySem.W.kat_yes (PySem.W.kat_nil ?_)) (λ e=>PySem.W.kat_no (PySem.W.kat_one _ _ ?_)))
  ·rw[(iC t t').mp e,cN]at q;exact q
  ·have:(tlD t).depth<=m:=da;exact zQ t t' A s _ _ _ _ a2 c2 ⋯ prog w _ _ q
 ·have e:¬n=n':=by simpa using e
  rw[QH e]at q;cases a1;cases c1;exact oneLt_int q
end
section
variable{X:Cx}
inductive rSortL(K:C4)(xs:QA V)(H:Hp)(Q:VK):Prop
|mk(p:P6)(as:QA P6)(key:P6->Int×Tl)(_:xs=[.ref p])(_:SqL K H p (as.map V.ref))(_:as.length < 64)(_:∀a∈as,DatV K H (.ref a) (.tuple [.int (key a).1,tlD (key a).2])/\(tlD (key a).2).depth<=200)
  (h4:∀(l:P6)(as':QA P6),H l=none->as'.Perm as->(as'.map key).Pairwise (λ x y=>aX (cP y) (cP x)=false)->Q (.ref l) (upd H l (.lst (as'.map V.ref)))):rSortL K xs H Q
theorem lO(hu:X.A.units+220 < cLine):de X (.builtin "sorted") (rSortL X.K):=by
 intro QC s σ H xs us Q I r h;obtain⟨p,as,key,rfl,hs,h64,hk,q⟩:=h;obtain⟨u,rfl,rfl⟩:=fu r;obtain⟨its,rv,pl,_⟩:=I.list hs;have ei:=iA rv;subst ei;have tu:∀a∈as,ItR s.heap 200 (.ref a) (key a):=λ a ha=>by obtain⟨hd,d2⟩:=hk a ha;obtain⟨bs,rd⟩:=I.reads hd (u:=.ref a) rfl;exact%[%[bs|rd]|d2]
 have kof:∀a∈as,(tlK s.heap 200).keyOf (.ref a)=some (cP (key a)):=λ a ha=>vA (tu a ha);refine vy (κ:=tlK s.heap 200) (κ0:=tuples' true) pl.isList ?keys ?kk (by rw[G4];exact h64) λ st' hp hs'=>?_
 case keys=>
  intro pr hpr;rw[pairsOf_toList]at hpr;obtain⟨a,ha,e⟩:=K7.mp (PZ (show(pr.1,pr.2)∈_ from hpr)).1;exact%[cP (key a)|by rw[<- e];exact kof a ha]
 case kk=>
  intro A' s' ua k;refine%[vB ⋯ k|λ v1 v2 rest e Q E' q=>?_];have firsts:∀bs:QA P6,(∀a∈bs,a∈as)->∃fs,PySem.W.KatTups s'.heap (bs.map Value.ref) fs/\fs.length=bs.length/\∀v∈fs,∃i t,v=Value.int i t:=λ bs=>by
   induction bs with
   | nil=>exactλ _=>%[[],trivial,Y|λ v hv=>by cases hv]
   | cons a bs ih=>
    intro hb;obtain⟨fs,f1,f2,f3⟩:=ih λ b hb'=>hb b (B4 _ hb');obtain⟨⟨cs,rd⟩,_⟩:=tu a (hb a B7);obtain⟨l,vs,_,el,⟨o,h1,h2,n,h3⟩,ra⟩:=bY (jf k rd);cases el;obtain⟨x1,vs,_,_,rfl,a1,ra⟩:=aG ra;cases a1 with
    | int _ t=>
     refine%[.int (key a).1 t :: fs,PySem.W.KatTups.cons h1 h2 h3 (by simp) f1,by rw[G8,G8,f2]|λ v hv=>?_];rcases G5.mp hv with z | z
     ·exact%[_,t|z]
     ·exact f3 v z
  obtain⟨fs,f1,f2,f3⟩:=firsts as λ _ h=>h;rw[e]at f1;have:(as.map Value.ref).length=rest.length+2:=by rw[e];rfl
  rw[G4]at this;refine PySem.W.kat_kind (T:=.type "int") f1 ⋯ (λ v hv=>?_) rfl q;obtain⟨i,t,rfl⟩:=f3 v hv;exact PySem.W.Looks.of_pure rfl
 have pz:∀l:QA P6,(l.map Value.ref).zip (l.map Value.ref)=l.map λ a=>(Value.ref a,Value.ref a):=λ l=>by
  induction l with
  | nil=>rfl
  | cons a l ih=>rw[J0,List.zip_cons_cons,ih,J0]
 have hp':=Array.perm_iff_toList_perm.mp hp;rw[pairsOf_toList,pz]at hp';obtain⟨as',ea,pa⟩:=mT (f:=λ a=>(Value.ref a,Value.ref a)) (λ pr=>match pr.1 with
  | .ref a=>some a
  | _=>none) (λ a=>rfl) hp'
 have eo:((arrOf st').map (·.2)).toList=as'.map Value.ref:=by rw[Array.toList_map,ea,N0];rfl
 obtain⟨e,he⟩:=sortedAll_at s.heap (as.map Value.ref) ((arrOf st').map (·.2));have hn:H (s.heap.objs.size+1)=none:=I.hok.fresh (Nat.le_succ _);refine%[.ref (s.heap.objs.size+1),upd H (s.heap.objs.size+1) (.lst (as'.map V.ref)),I.laid (o:=.lst (as'.map V.ref)) (t':=s.toks) (λ _ _=>sortedAll_old) (Nat.le_succ _) (show ObjOk _ _ _ _ _ (.lst _)from%[?_,((arrOf st').map (·.2)).toList,e,?_|?_]),Y|q _ as' hn pa ?_]
 ·rw[G4,pa.length_eq];have:(64:Nat)<=sizeLine:=∅
  lia
 ·rw[eo];exact iB as'
 ·rw[he]
 ·rw[List.pairwise_iff_getElem];intro i j hi hj hij;rw[G4]at hi hj;have sz:(pairsOf (as.map Value.ref)).size=as.length:=by rw[pairsOf_size,G4]
  have kk:∀i (hi:i < as'.length),KK (tlK s.heap 200) (arrOf st') i=cP (key as'[i]):=λ i hi=>by
   have e:(arrOf st')[i]?=some (Value.ref as'[i],Value.ref as'[i]):=by rw[<- N6,ea,J2,E9 hi];rfl
   unfold KK;rw[e];show((tlK s.heap 200).keyOf (.ref as'[i])).getD _=_;rw[kof _ (pa.mem_iff.mp (List.getElem_mem hi))];rfl
  have:=hs' i j ⋯ (by rw[sz,<- pa.length_eq];exact hj);rw[kk i hi,kk j hj]at this;rw[List.getElem_map,List.getElem_map];exact this
inductive rSortM(K:C4)(xs:QA V)(H:Hp)(Q:VK):Prop
|mk(p:P6)(ps:QA (P6×(Int×Tl)))(_:xs=[.ref p])(_:SqL K H p (ps.map λ z=>V.ref z.1))(_:ps.length < 64)(_:∀z∈ps,DatV K H (.ref z.1) (.tuple [.int z.2.1,tlD z.2.2])/\(tlD z.2.2).depth<=200)
  (h4:∀(l:P6)(ps':QA (P6×(Int×Tl))),H l=none->ps'.Perm ps->(ps'.map (·.2)).Pairwise (λ x y=>aX (cP y) (cP x)=false)->Q (.ref l) (upd H l (.lst (ps'.map λ z=>V.ref z.1)))):rSortM K xs H Q
open Classical in
theorem gX(hu:X.A.units+220 < cLine):de X (.builtin "sorted") (rSortM X.K):=by
 intro QC s σ H xs us Q I r h;obtain⟨p,ps,rfl,hs,h64,hk,q⟩:=h;have tu:∀z∈ps,ItR s.heap 200 (.ref z.1) z.2:=λ z hz=>by obtain⟨hd,d2⟩:=hk z hz;obtain⟨bs,rd⟩:=I.reads hd (u:=.ref z.1) rfl;exact%[%[bs|rd]|d2]
 have hkey:∃key:P6->Int×Tl,∀z∈ps,key z.1=z.2:=by
  refine%[λ a=>if e:∃z,ItR s.heap 200 (.ref a) z then e.choose else(0,.rest)|λ z hz=>?_];have e:∃y,ItR s.heap 200 (.ref z.1) y:=%[_|tu z hz]
  show(if e:∃y,ItR s.heap 200 (.ref z.1) y then e.choose else(0,.rest))=z.2;rw[dif_pos e];exact e.choose_spec.uniq (tu z hz)
 obtain⟨key,hkey⟩:=hkey;have eps:∀l:QA (P6×(Int×Tl)),(∀z∈l,key z.1=z.2)->(l.map (·.1)).map (λ a=>(a,key a))=l:=λ l=>by
  induction l with
  | nil=>exactλ _=>rfl
  | cons z l ih=>exactλ h=>by rw[J0,J0,ih λ y hy=>h y (B4 _ hy),h z B7]
 refine lO hu QC s σ H _ us Q I r %[p,ps.map (·.1),key,rfl,by rw[N0];exact hs,by rw[G4];exact h64,λ a ha=>?_|λ l as' hl pm pw=>?_]
 ·obtain⟨z,hz,rfl⟩:=K7.mp ha;rw[hkey z hz];exact hk z hz
 ·have:=q l (as'.map λ a=>(a,key a)) hl (by have:=pm.map λ a=>(a,key a);rw[eps ps hkey]at this;exact this) (by rw[N0];exact pw);rw[N0]at this;exact this
end
end L2
namespace L2
open PySem PySem.Spec PyProof.Rows PySem.SeqAt
section
variable{X:Cx}
inductive rz_op_neN(K:C4)(x:V)(y:V)(H:Hp)(Q:VK):Prop
|mk(da db:_)(_:DatV K H x da)(_:DatV K H y db)(_:da.canLay0=true)(_:db.canLay0=true)(_:da.depth<=210)(_:Q (.bl (!PyData.eqv da db)) H)
theorem gF(hu:X.A.units+220 < cLine):OpR X (compareOp .NotEq) (rz_op_neN X.K):=by intro QC s σ H x y v u Q I rx ry h;obtain⟨da,db,hx,hy,s1,s2,dz,q⟩:=h;obtain⟨as,ra⟩:=I.reads hx rx;obtain⟨bs,rb⟩:=I.reads hy ry;exact compareNe_reads ra rb s1 s2 (by have:min da.depth db.depth<=da.depth:=Nat.min_le_left _ _;lia) %[.bl _,H,I,rfl|q]
end
theorem yf{X:Cx}(K:C4){x y:Str}{px py pos:Pos}{k:Nat}(hK:X.K=K)(hc:X.calm=true)(hN:X.N.Nodup)(h0:X.N[0]?=some x)(h1:X.N[1]?=some y)(l0:X.env.scope.names.lookup x=some .local)(l1:X.env.scope.names.lookup y=some .local) :
  PG X (.Tuple [.Name x px,.Name y py] k pos) (Gr K 2 (gCons (bU 0) (gCons (bU 1) mC))) :=
 hK ▸ jD hc (ah (ai hN h0 (.inl l0) (.inr l0)) (ah (ai hN h1 (.inl l1) (.inr l1)) aJ))
theorem iD{K:C4}{a:P6}{xs:QA V}{σ:St}{cap:QA Nat}{k:Nat}{g:TG}{tt:TT}{te:TE}{Q:QA V->Hp->Prop}{H:Hp}(hs:H a=↥xs\/H a= ~~~xs)(Pv:Nat->QA V->Hp->Prop)
  (hk:∀i ys H',i<=xs.length->Pv i ys H'->∀o,H a=some o->H' a=some o) (h0:Pv 0 [] H)
  (ht:∀i x ys H',xs[i]?=some x->Pv i ys H'->ys.length < sizeLine/\g x (bD σ cap k) H' λ σ2 H2=>leS (bD σ cap k) σ2/\tt σ2 H2 λ ok H3=>if ok=true then te σ2 H3 (λ v H4=>Nx xs.length Pv i (ys ++ [v]) H4)else Nx xs.length Pv i ys H3)
  (hd:∀ys H',Pv xs.length ys H'->ys.length<=sizeLine/\Q ys H') :
  ((∃ys,SqL K H a ys)/\∃W,(∃m,W 0 m [] H)/\eV σ cap k (Itl K a) g tt te Q W)\/((∃ys,SqT K H a ys)/\∃W,(∃m,W 0 m [] H)/\eV σ cap k (Itt K a) g tt te Q W):=by
 rcases hs with z | z
 ·exact .inl %[%[_|G1 z]|(bE (K:=K) (.inl z) Pv hk h0 ht hd).1 z]
 ·exact .inr %[%[_|G0 z]|(bE (K:=K) (.inr z) Pv hk h0 ht hd).2 z]
theorem yg{K:C4}{a:P6}{xs:QA V}{g:TG}{tb:TS}{D:Ends}{σ:St}{H:Hp}(Pv:Nat->St->Hp->Prop)(h0:Pv 0 σ H)(hl:∀i σ H,i<=xs.length->Pv i σ H->SqL K H a xs)
  (hs:∀i x σ H,i < xs.length->xs[xs.length - 1 - i]?=some x->Pv i σ H->g x σ H λ σ2 H2=>tb { D with nx:=Pv (i+1),ct:=Pv (i+1),bk:=D.nx } σ2 H2) (hd:∀σ H,Pv xs.length σ H->D.nx σ H) :
  ∃W:Nat->Nat->St->Hp->Prop,(∃m,W 0 m σ H)/\∀i m σ H,W i m σ H ->
   ((Itv K a xs.length).stop i H/\D.nx σ H)\/((Itv K a xs.length).go i H/\∃N:St->Hp->Prop,(∀σ' H',N σ' H'->∃m',m' < m/\W (i+1) m' σ' H')/\∀x H',(Itv K a xs.length).yld i H x H'->g x σ H' λ σ2 H2=>tb { D with nx:=N,ct:=N,bk:=D.nx } σ2 H2):=by
 refine%[λ i m σ H=>m=xs.length - i/\i<=xs.length/\Pv i σ H,%[xs.length,by simp,E6 _|h0]|?_];rintro i m σ H ⟨rfl,hi,p⟩;have q:=hl i σ H hi p
 by_cases hlt:i < xs.length
 ·have hj:xs.length - 1 - i < xs.length:=⋯
  refine .inr %[%[hlt,xs,xs[xs.length - 1 - i],q|E9 hj],Pv (i+1),λ σ' H' p'=>%[xs.length - (i+1),⋯,Y,hlt|p']|λ x H' y=>?_];obtain⟨e,y⟩:=y;subst e;exact hs i x σ _ hlt (y xs q) p
 ·have e:i=xs.length:=⋯
  subst e;exact .inl %[Y|hd σ H p]
end L2
namespace L2
open PySem PySem.Spec PyProof.Rows
theorem kQ{l1 l2:P6}{xs ys:QA V}{σ:St}{cap:QA Nat}{k:Nat}{g:TG}{tt:TT}{te:TE}{Q:QA V->Hp->Prop}{H:Hp}(Pv:Nat->QA V->Hp->Prop)(hn:xs.length=ys.length)
  (hk:∀i zs H',Pv i zs H'->H' l1= ~~~xs/\H' l2=↥ys) (h0:Pv 0 [] H)
  (hz:∀i zs H',i < xs.length->Pv i zs H'->zs.length < sizeLine)
  (ht:∀i x y p zs H',xs[i]?=some x->ys[i]?=some y->H' p=none->Pv i zs H'->g (.ref p) (bD σ cap k) (upd H' p (.tup [x,y])) λ σ2 H2=>leS (bD σ cap k) σ2/\tt σ2 H2 λ ok H3=>if ok=true then te σ2 H3 (λ v H4=>Nx xs.length Pv i (zs ++ [v]) H4)else Nx xs.length Pv i zs H3)
  (hd:∀zs H',Pv xs.length zs H'->zs.length<=sizeLine/\Q zs H'):∃W,(∃m,W 0 m [] H)/\eV σ cap k (Gw l1 l2) g tt te Q W:=by
 refine%[λ i m zs H'=>m=xs.length - i/\i<=xs.length/\Pv i zs H',%[_,Y,E6 _|h0]|?_];rintro i m zs H' ⟨rfl,hi,p⟩;obtain⟨e1,e2⟩:=hk i zs H' p
 by_cases hlt:i < xs.length
 ·have hx:xs[i]?=some xs[i]:=by simp[hlt]
  have hy:ys[i]?=some (ys[i]'⋯):=by simp[show i < ys.length by lia]
  refine .inr %[%[xs,ys,_,_,e1,e2,hx|hy],hz i zs H' hlt p|λ v H2 yl=>?_]
  ·obtain⟨q,xs',ys',x,y,hq,rfl,rfl,e1',e2',ex,ey⟩:=yl;rw[e1]at e1';cases e1';rw[e2]at e2';cases e2';exact ht i x y q zs H' ex ey hq p
 ·have e:i=xs.length:=⋯
  subst e;obtain⟨a1,a2⟩:=hd zs H' p;exact .inl %[%[xs,ys,e1,e2|.inl (B3 _)],a1|a2]
theorem sM{X:Cx}(K:C4){x y z:Str}{px py pz pos pos2:Pos}{k k2:Nat}(hK:X.K=K)(hc:X.calm=true)(hN:X.N.Nodup)(h0:X.N[0]?=some x)(h1:X.N[1]?=some y)(h2:X.N[2]?=some z)(l0:X.env.scope.names.lookup x=some .local)(l1:X.env.scope.names.lookup y=some .local)(l2:X.env.scope.names.lookup z=some .local) :
  PG X (.Tuple [.Name x px,.Tuple [.Name y py,.Name z pz] k2 pos2] k pos) (gTup K 2 (gCons (bU 0) (gCons (gTup K 2 (gCons (bU 1) (gCons (bU 2) mC))) mC))) :=
 hK ▸ aU hc (ah (ai hN h0 (.inl l0) (.inr l0)) (ah (aU hc (ah (ai hN h1 (.inl l1) (.inr l1)) (ah (ai hN h2 (.inl l2) (.inr l2)) aJ))) aJ))
end L2
namespace Pc
open PySem L2
def sp(c:Nat):QA Nat->QA (QA Nat)
 | []=>[[]]
 | x :: r=>if x=c then[] :: sp c r else(x :: (sp c r).headD []) :: (sp c r).tail
end Pc
namespace L2
open PySem PySem.Spec PyProof.Rows
def Its(x:Str):It:=%[λ i _=>i < x.cps.size,λ i H v H'=>H'=H/\∃c,x.cps[i]?=some c/\v=.str %[|#[c]]|λ i _=>x.cps.size<=i]
theorem vC{P:F5}{w:F7}{K:C4}{tg:Expr}(it:P6)(x:Str)(t:Tok):Turn P w K tg (Its x) [it] it (λ i h=>h.IsStrIter it "str_ascii_iterator" x t i) where
 mem:=by simp
 obj:=λ i h st b hb=>by
  have e:b=it:=by simpa using hb
  subst e;obtain⟨o,e,c,d⟩:=st;exact%[o,e|λ v z=>by rw[d]at z;cases z]
 keep:=λ i h h' st k=>let ⟨o,ho,r⟩:=st;%[o,k it (by simp) o ho|r]
 item:=by intro X hP hw hK hc i QC s σ H E I hf st hg;subst hP hw hK;have hg:i < x.cps.size:=hg;obtain⟨f0,f1,f2,f3,f4,f5⟩:=hf it (by simp);refine wpAny_pyNext_ascii_item st (c:=x.cps[i]) (by simp[hg]) λ h' st' sb=>?_;have I1:Inv X QC σ H { s with heap:=h',toks:=s.toks+1 }:=I.turned (λ b o hb e=>(sb.2 b hb).trans e) f0 f1 f3 f4 f5;obtain⟨o,e,c,d⟩:=id st';exact%[_,Y|mD (s:={ s with heap:=h',toks:=s.toks+1 }) e c d ∅ %[.str %[|#[x.cps[i]]],H,I1,%[_|Y],%[Y,x.cps[i],by simp[hg]|Y],st'|λ b hb=>(hf b hb).1]]
 done:=by intro X hP hw hK hc i QC s σ H E I hf st hg;subst hP hw hK;have hg:x.cps.size<=i:=hg;obtain⟨f0,f1,f2,f3,f4,f5⟩:=hf it (by simp);exact wpAny_pyNext_ascii_end (I.ok.hd hc) st (by simp[hg]) λ h' eb=>%[Y|I.turned (t':=s.toks) (λ b o hb e=>eb b o hb e) f0 f1 f3 f4 f5]
 self:=λ _ _ _ _ _ st h=>wpAny_pyIter_striter_ascii st h
section
variable{X:Cx}{tg:Expr}
def Ni(tl:TE):TI:=λ σ H R=>tl σ H λ v H1=>∃x,v=.str x/\x.cps.all (· < 128)=true/\R (Its x) H1
theorem Au{l:Expr}{tl:TE}(hl:PE X l tl):PI X tg l (Ni tl):=by
 intro QC s σ H R I h;refine thn (hl QC s σ H _ I h) ?_;rintro v s1 ⟨y,H1,I1,r1,x,ey,ha,q⟩;subst ey;obtain⟨t,rfl⟩:=r1;refine wpAny_pyIter_ascii ha %[s1.heap.objs.size,[s1.heap.objs.size],_,_,H1,rfl,I1.kept (t':=s1.toks) λ b o e=>A7 _ e,vC _ x t,%[_,A8 _ rfl,rfl|rfl],λ b hb=>?_|q];have e:b=s1.heap.objs.size:=by simpa using hb
 subst e;exact I1.fpOk (B3 _) (I1.hok.fresh (B3 _))
end
theorem vD{x:Str}{σ:St}{cap:QA Nat}{k:Nat}{g:TG}{tt:TT}{te:TE}{Q:QA V->Hp->Prop}{H:Hp}(Pv:Nat->QA V->Hp->Prop)(h0:Pv 0 [] H)
  (ht:∀i c ys H',(Pc.Lp x)[i]?=some c->Pv i ys H'->ys.length < sizeLine/\g (.str %[|#[c]]) (bD σ cap k) H' λ σ2 H2=>leS (bD σ cap k) σ2/\tt σ2 H2 λ ok H3=>if ok=true then te σ2 H3 (λ v H4=>Nx (Pc.Lp x).length Pv i (ys ++ [v]) H4)else Nx (Pc.Lp x).length Pv i ys H3)
  (hd:∀ys H',Pv (Pc.Lp x).length ys H'->ys.length<=sizeLine/\Q ys H'):∃W,(∃m,W 0 m [] H)/\eV σ cap k (Its x) g tt te Q W:=by
 have hs:(Pc.Lp x).length=x.cps.size:=K3;refine%[λ i m ys H'=>m=(Pc.Lp x).length - i/\i<=(Pc.Lp x).length/\Pv i ys H',%[_,Y,E6 _|h0]|?_];rintro i m ys H' ⟨rfl,hi,p⟩
 by_cases hin:i < (Pc.Lp x).length
 ·obtain⟨a1,a2⟩:=ht i (Pc.Lp x)[i] ys H' (E9 hin) p;refine .inr %[show i < x.cps.size by lia,a1|?_];rintro v H2 ⟨rfl,c,hc,rfl⟩;have:(Pc.Lp x)[i]=c:=by
   have e:(Pc.Lp x)[i]?=some c:=by rw[<- hc];simp[Pc.Lp]
   rw[E9 hin]at e;exact B8 e
  rw[<- this];exact a2
 ·have e:i=(Pc.Lp x).length:=⋯
  subst e;obtain⟨a1,a2⟩:=hd ys H' p;exact .inl %[show x.cps.size<=_ by lia,a1|a2]
end L2
namespace Pc
open PySem L2
theorem yi(x:Str)(c:Nat):Txt.count x %[|#[c]]=(((Lp x).count c:Nat):Int):=by
 unfold Txt.count;rw[StrLaws.occ_eq,K3];have sub:∀i,i < x.cps.size->(Builtin.Str.subAt x %[|#[c]] i=true↔(Lp x)[i]?=some c):=λ i hi=>by
  unfold Builtin.Str.subAt;rw[beq_iff_eq];have e1:(Lp x)[i]?=some x.cps[i]:=by rw[N6];exact Array.getElem?_eq_getElem hi
  rw[e1];have e2:x.cps.extract i (i+(%[|#[c]]:Str).length)=#[x.cps[i]]:=by
   apply Array.ext_getElem?;intro j;rw[Array.getElem?_extract];show(if j < min (i+1) x.cps.size - i then x.cps[i+j]? else none)=_
   by_cases hj:j=0
   ·subst hj;rw[QI ⋯];simp[hi]
   ·rw[QH ⋯];simp;lia
  rw[e2];constructor
  ·intro h;have:=QV (λ a:P9 Nat=>a[0]?) h;simpa using this
  ·intro h;rw[B8 h]
 have key:∀(k i:Nat)(f:P9 Nat)(fr:Nat),i+k=x.cps.size+1->fr<=i->f.size<=i->(forIn (m:=Id) (List.range' i k) (f,fr) (StrLaws.occBody x %[|#[c]] x.length (x.length+1))).run.fst.size=f.size+((Lp x).drop i).count c:=by
  intro k
  induction k with
  | zero=>
   intro i f fr hk hf hs;rw[List.drop_eq_nil_of_le (by rw[K3];lia)]
   rfl
  | succ k ih=>
   intro i f fr hk hf hs;rw[List.range'_succ,List.forIn_cons]
   by_cases hi:i < x.cps.size
   ·have ed:(Lp x).drop i=x.cps[i] :: (Lp x).drop (i+1):=by rw[M8 (by rw[K3];exact hi)];simp
    have e1:(Lp x)[i]?=some x.cps[i]:=by rw[N6];exact Array.getElem?_eq_getElem hi
    rw[ed,List.count_cons]
    by_cases hc:x.cps[i]=c
    ·have hp:((f.size < x.length+1/\fr<=i)/\i+(%[|#[c]]:Str).length<=x.length)/\Builtin.Str.subAt x %[|#[c]] i=true:=%[%[%[by show f.size < x.cps.size+1;lia|hf]|by show i+1<=x.cps.size;lia]|(sub i hi).mpr (by rw[e1,hc])]
     have st:StrLaws.occBody x %[|#[c]] x.length (x.length+1) i (f,fr)=pure (ForInStep.yield (f.push i,i+1)):=QI hp;rw[st];show(forIn (m:=Id) (List.range' (i+1) k) (f.push i,i+1) _).run.fst.size=_;rw[ih (i+1) _ _ ⋯ (B3 _) (by rw[Array.size_push];lia),Array.size_push,QI (by rw[hc];exact beq_self_eq_true _)];lia
    ·have hp:¬ (((f.size < x.length+1/\fr<=i)/\i+(%[|#[c]]:Str).length<=x.length)/\Builtin.Str.subAt x %[|#[c]] i=true):=λ z=>hc (B8 (e1.symm.trans ((sub i hi).mp z.2)));have st:StrLaws.occBody x %[|#[c]] x.length (x.length+1) i (f,fr)=pure (ForInStep.yield (f,fr)):=QH hp;rw[st];show(forIn (m:=Id) (List.range' (i+1) k) (f,fr) _).run.fst.size=_;rw[ih (i+1) _ _ ⋯ ⋯ ⋯,QH (by simpa using hc)];lia
   ·have hp:¬ (((f.size < x.length+1/\fr<=i)/\i+(%[|#[c]]:Str).length<=x.length)/\Builtin.Str.subAt x %[|#[c]] i=true):=λ z=>by have:i+1<=x.cps.size:=z.1.2;lia
    have st:StrLaws.occBody x %[|#[c]] x.length (x.length+1) i (f,fr)=pure (ForInStep.yield (f,fr)):=QH hp;rw[st];show(forIn (m:=Id) (List.range' (i+1) k) (f,fr) _).run.fst.size=_;rw[ih (i+1) _ _ ⋯ ⋯ ⋯,List.drop_eq_nil_of_le (by rw[K3];lia),List.drop_eq_nil_of_le (by rw[K3];lia)]
 have:=key (x.length+1 - 0) 0 #[] 0 (by show 0+(x.cps.size+1 - 0)=_;lia) (B3 _) (B3 _);rw[this,List.drop_zero];simp
end Pc
namespace L2
open PySem PySem.Spec PyProof.Rows PySem.SeqAt
def qX:V->QA V->Hp->VK->Prop:=λ x vs H Q=>∃(t z:Str),x=.str t/\vs=[.str z]/\Q (.int (Txt.count t z)) H
theorem sN{X:Cx}:MtR X "str.count" qX:=by intro QC s σ H x vs v us Q I rx rv h;obtain⟨t,z,rfl,rfl,q⟩:=h;obtain⟨a,rfl⟩:=rx;obtain⟨u,rfl,ru⟩:=rv.one;obtain⟨b,rfl⟩:=ru;exact SC.count %[.int _,H,I.tok _,%[s.toks|Y]|q]
theorem sO{X:Cx}(K:C4){o e:Expr}{to:TE}{t:TA}{apos cpos:Pos}(hK:X.K=K)(ho:PE X o to)(ha:PA X [e] t)
  (hbase:attributeBase o "count" X.env (eval o X.env)=eval o X.env:=by rfl)
  (hfew:((backTo cpos (starEach [e] X.env)).all (λ x=>!x.1) && (backToKw cpos (keywordEach [] X.env)).all (λ x=>x.1.isSome)
   && decide (([e]:QA Expr).length+([]:QA Keyword).length+(if ([]:QA Keyword).isEmpty then 0 else 1) < 30))=true:=by rfl)
  (hline:(apos.endLine == cpos.line)=true:=by rfl) (hs:starEach [e] X.env=(false,eval e X.env) :: starEach [] X.env:=by rfl) (hplain:(backTo cpos (starEach [] X.env)).any (·.1)=false:=by rfl) :
  PE X (.Call (.Attribute o "count" apos) [e] [] cpos) (tBM K "str" qX to t) :=
 hK ▸ dG PySem.F.plainAttrs_str PySem.F.slot_str_count PySem.F.type_str_count sN ho ha hbase hfew hline hs hplain
end L2
namespace Pc
open PySem L2
def top(i:Nat):Stmt:=PySem.Challenge.pw_platecuts_k96_whole_one_telling_one_lot.main.body.getD i (.Pass %[0,0,0|0])
abbrev GD:Stmt:=top 0
abbrev lP:Stmt:=top 13
abbrev lQ:Stmt:=top 14
abbrev yj:Stmt:=top 15
abbrev dL:Stmt:=top 16
abbrev dM:Stmt:=top 17
abbrev jg:Stmt:=top 22
abbrev fY:Stmt:=top 23
abbrev dN:Stmt:=top 30
abbrev lR:Stmt:=top 31
abbrev jh:Stmt:=top 32
abbrev df:Stmt:=top 33
abbrev jj:Stmt:=top 34
abbrev eI:Stmt:=top 35
abbrev fZ:Stmt:=top 36
abbrev eJ:Stmt:=top 40
abbrev eK:Stmt:=top 41
abbrev bL:Stmt:=top 42
abbrev eL:Stmt:=top 43
abbrev lS:Stmt:=top 44
abbrev gY:Stmt:=top 45
abbrev cQ:Stmt:=top 46
abbrev cr:Stmt:=top 47
abbrev bv:Stmt:=top 48
abbrev ga:Stmt:=top 49
abbrev gb:Stmt:=top 51
abbrev fF:Stmt:=top 52
abbrev dZ:Stmt:=top 53
abbrev fG:Stmt:=top 54
abbrev gZ:Stmt:=top 55
abbrev qY:Stmt:=top 62
abbrev gc:Stmt:=top 63
abbrev ef:Stmt:=top 64
abbrev jk:Stmt:=top 68
abbrev jl:Stmt:=top 69
abbrev ej:Stmt:=inClass (top 70) 0
abbrev eN:Stmt:=inClass (top 70) 1
abbrev eO:Stmt:=inClass (top 70) 2
abbrev mZ:Stmt:=inClass (top 70) 3
abbrev ng:Stmt:=inClass (top 70) 4
abbrev dg:Stmt:=inClass (top 70) 5
abbrev eP:Stmt:=inClass (top 70) 6
abbrev hG:Stmt:=top 74
abbrev yk:Stmt:=top 76
abbrev qZ:Stmt:=top 77
abbrev jm:Stmt:=top 78
abbrev fH:Stmt:=top 79
abbrev rc:Stmt:=top 80
abbrev kR:Stmt:=top 81
abbrev lT:Stmt:=top 82
abbrev cR:Stmt:=top 83
abbrev jL:Stmt:=top 84
abbrev ym:Stmt:=top 85
abbrev fI:Stmt:=top 86
abbrev lU:Stmt:=top 87
theorem bJ{CX:_}{P:F5}{w:F7}{K:C4}{mg:Str->P8 F8}{base:Heap}{N:QA Str}{qual:Str}{scope:Scope}{f:P6}{cd:F8}{A:Around}{outer:QA Env}{s₀:F4}{H₀:Hp}{E:XK}:(nW CX P w K mg base N qual scope f cd A outer s₀ H₀ E).nox.K=K:=rfl
@[elab_as_elim] theorem bZ{H:Hp}{t:P6}{o:HO}{P:Hp->Prop}(ht:H t=none)(h:∀H',H' t=some o->Same H H'->P H'):P (upd H t o):=h _ af (F9 ht)
section
variable{P:F5}{w:F7}{K:C4}{mg:Str->P8 F8}{base:Heap}
structure Blt(mg:Str->P8 Value):Prop where
 isi:mg "isinstance" = none
 int:mg "int" = none
 bool:mg "bool" = none
 list:mg "list" = none
 tuple:mg "tuple" = none
 len:mg "len" = none
 range:mg "range" = none
 max:mg "max" = none
 min:mg "min" = none
 abs:mg "abs" = none
 divmod:mg "divmod" = none
 sum:mg "sum" = none
 sorted:mg "sorted" = none
 all:mg "all" = none
 repr:mg "repr" = none
 zip:mg "zip" = none
 enumerate:mg "enumerate" = none
 mostk:∃t,mg "MOST_KINDS" = some (.int 8 t)
 fivek:∃t,mg "THINGS_OF_A_KIND" = some (.int 5 t)
theorem Av{xs:QA V}{i:Int}(h0:0<=i)(h1:i < xs.length):∃v,atI xs i=some v/\v∈xs:=by
 have hk:i.toNat < xs.length:=⋯
 exact%[xs[i.toNat],aH h0 (E9 hk)|List.getElem_mem hk]
theorem vE{H H':Hp}{p:P6}(s:Same H H'):But p H H':=λ c o _ e=>s c o e
theorem eQ{t u:TS}{D:Ends}{σ:St}{H:Hp}(C:(St->Hp->Prop)->Prop)(h1:∀R:St->Hp->Prop,C R->t { D with nx:=R } σ H)(h2:C (u D)):xC t u D σ H:=h1 _ h2
theorem ao{t u:TS}{D:Ends}{σ:St}{H:Hp}(C:(St->Hp->Prop)->Prop)(h1:∀D':Ends,C D'.nx->t D' σ H)(h2:C (u D)):xC t u D σ H:=h1 _ h2
theorem cV{P:Prop}(h:∀G:Prop,(P->G)->G):P:=h P id
theorem cg{t u:TS}{D:Ends}{σ:St}{H:Hp}(J:St->Hp->Prop)(h1:∀R:St->Hp->Prop,(∀σ' H',J σ' H'->R σ' H')->t { D with nx:=R } σ H)(h2:∀σ' H',J σ' H'->u D σ' H'):xC t u D σ H:=h1 _ h2
theorem ls5{α:Type}:∀{xs:QA α},xs.length=5->∃a b c d e,xs=[a,b,c,d,e]
 | [a,b,c,d,e],_=>%[a,b,c,d,e|Y]
theorem ls3{α:Type}:∀{xs:QA α},xs.length=3->∃a b c,xs=[a,b,c]
 | [a,b,c],_=>%[a,b,c|Y]
theorem yn:FnScope ["thing","least"] ["thing","least"] (defScope lP):=%[Y,Y,Y,∅,Y,∅|∅]
theorem vF{f:P6}{fd:F6}(F:Fun K "is_whole" "is_whole" lP f fd)(B:Blt mg):FnOk P w K mg base CX0 1 f fd ["thing","least"] (cT K):=by
 exists yn
 ·obtain⟨x,T,l,rfl,_⟩:=h
  rfl
 obtain⟨x,T,l,rfl,⟨tn,ty⟩,q⟩:=h;refine⟨_,ag (au (dq (aI dI rfl B.isi QU (aa (pv 0) (aa (fP (v:=.ty "int") rfl B.int PyProof.Rows.boot_int rfl) ab)))
  (dq (uy (aI dI rfl B.isi QU (aa (pv 0) (aa (fP (v:=.ty "bool") rfl B.bool PyProof.Rows.boot_bool rfl) ab))))
  (fi (cq qx (pv 0) (pv 1) (aE _)))))),?_⟩
 refine%[_,Y,x,_,_,_,_,Y,ty,Y,xS T tn,_,Y|?_];have tb:=qH ty;refine dv (λ c=>?_) (λ c=>?_)
 ·refine%[_,Y,x,_,_,_,_,Y,ty,Y,mK T tn,_,Y,_,Y|?_];refine dv (λ c2=>?_) (λ c2=>?_)
  ·have hT:(T == "int")=true:=by
    have:(T == "bool")=false:=by simpa using c2
    rw[this,Bool.or_false]at c;exact c
   obtain⟨i,rfl⟩:=Ap ty tn hT;exact%[_,Y,_,Y,_,_,Y,Y|q]
  ·have hT:sr x=true:=by
    rw[<- tb];cases e:(T == "bool")with
    | true=>rfl
    | false=>rw[e]at c2;exact absurd rfl c2
   cases x <;> first | exact q | (exact absurd hT B2)
 ·have hx:aV x l=false:=by
   cases x with
   | int i=>
    exfalso;have ty':=ty;generalize hv:Value.type T=tv at ty';cases ty' with
    | int=>cases hv;exact c rfl
   | _=>rfl
  rw[hx]at q;exact q
theorem yo:FnScope ["thing"] ["thing"] (defScope lQ):=%[Y,Y,Y,∅,Y,∅|∅]
theorem vG{f:P6}{fd:F6}(F:Fun K "is_truth" "is_truth" lQ f fd)(B:Blt mg):FnOk P w K mg base CX0 1 f fd ["thing"] (lH K):=by
 exists yo
 ·obtain⟨x,T,rfl,_⟩:=h
  rfl
 obtain⟨x,T,rfl,⟨tn,ty⟩,q⟩:=h;refine%[_,ag (au (aI dI rfl B.isi QU (aa (pv 0) (aa (fP (v:=.ty "bool") rfl B.bool PyProof.Rows.boot_bool rfl) ab))))|?_];refine%[_,Y,x,_,_,_,_,Y,ty,Y,mK T tn|?_];rw[qH ty];exact q
theorem GE:FnScope ["thing"] ["thing"] (defScope yj):=%[Y,Y,Y,∅,Y,∅|∅]
theorem Aw{f:P6}{fd:F6}(F:Fun K "is_row" "is_row" yj f fd)(B:Blt mg):FnOk P w K mg base CX0 1 f fd ["thing"] (kN K):=by
 exists GE
 ·obtain⟨x,T,rfl,_⟩:=h
  rfl
 obtain⟨x,T,rfl,ty,q⟩:=h;refine%[_,ag (au (aI lF rfl B.isi QU (aa (pv 0) (aa (aD (aa (fP (v:=.ty "list") rfl B.list PyProof.Rows.boot_list rfl) (aa (fP (v:=.ty "tuple") rfl B.tuple QK rfl) ab))) ab))))|?_];refine%[_,Y,zS2|λ p hp=>?_];have s1:Same H (upd H p (.tup [.ty "list",.ty "tuple"])):=λ b o e=>by rw[ap (ax e hp)];exact e
 have t2:=Ty.same s1 ty;exact%[x,p,_,_,_,_,Y,t2.2,af,Y,xT T ty.1|q _ s1]
theorem scIsKind:FnScope ["thing","wide","high","worth","wanted","turns"] ["thing"] (defScope jk):=%[Y,Y,Y,∅,Y,∅|∅]
theorem sP{f:P6}{fd:F6}(F:Fun K "is_kind" "is_kind" jk f fd)(B:Blt mg)(DW:Dn P w K mg base "is_whole" ["thing","least"] 1 (cT K))(DT:Dn P w K mg base "is_truth" ["thing"] 1 (lH K))(DR:Dn P w K mg base "is_row" ["thing"] 1 (kN K)) :
  FnOk P w K mg base CX0 2 f fd ["thing"] (jE K):=by
 exists scIsKind
 ·obtain⟨x,T,rfl,_⟩:=h
  rfl
 obtain⟨x,T,rfl,ty,q⟩:=h;obtain⟨tk,htk⟩:=B.fivek;have nd:=scIsKind.nd;refine⟨_,ad (aK (PW.pt (bS (bj (aT (aq DR hr rfl (aa (pv 0) ab)))) (bR (aB gM (aI aY rfl B.len QQ (aa (pv 0) ab)) (aN (v:=.int 5) rfl htk %[tk|Y]) (aE _))))) (ag (au cD)) aF)
  (ad (bq (pv 0) (jD rfl (ah (ai (i:=1) nd rfl (Or.inl rfl)) (ah (ai (i:=2) nd rfl (Or.inl rfl)) (ah (ai (i:=3) nd rfl (Or.inl rfl)) (ah (ai (i:=4) nd rfl (Or.inl rfl)) (ah (ai (i:=5) nd rfl (Or.inl rfl)) aJ)))))))
  (ad (aK (PW.pt (bS (bj (aT (aq DW hr rfl (aa (pv 1) (aa ae ab))))) (bR (bj (aT (aq DW hr rfl (aa (pv 2) (aa ae ab)))))))) (ag (au cD)) aF)
  (ag (au (dq (aq DW hr rfl (aa (pv 3) (aa ae ab))) (dq (aq DW hr rfl (aa (pv 4) (aa ae ab))) (fi (aq DT hr rfl (aa (pv 5) ab))))))))),?_⟩
 refine%[_,Y,x,T,Y,ty|λ H1 s1=>%[_,Y|?_]];rcases q with⟨n1,n2,q⟩ | ⟨a,xs,rfl,hx,its,q⟩
 ·have e:(T == "list" || T == "tuple")=false:=by simp[n1,n2]
  rw[e];refine aW (aW ?_);exact q H1 s1
 ·have e:(T == "list" || T == "tuple")=true:=by
   have t2:=ty.2;generalize hv:Value.type T=tv at t2;generalize hr:V.ref a=rv at t2;cases t2 with
   | lst _=>cases hv;rfl
   | frz _=>cases hv;rfl
   | tup _=>cases hv;rfl
   | dK e=>cases hr;rcases hx with z | z <;> (rw[z]at e;cases e)
   | dT e=>cases hr;rcases hx with z | z <;> (rw[z]at e;cases e)
   | ext e _=>cases hr;rcases hx with z | z <;> (rw[z]at e;cases e)
   | ins=>cases hv
   | _=>cases hr
  rw[e];have sq:SqL K H1 a xs\/SqT K H1 a xs:=by
   rcases hx with z | z
   ·exact .inl (G1 (s1 _ _ z))
   ·exact .inr (G0 (s1 _ _ z))
  refine aP %[_,rfl,a,xs,rfl,sq,rfl,_,rfl|?_];refine dv (λ c=>?_) (λ c=>?_)
  ·have hl:xs.length≠5:=λ z=>by rw[z]at c;exact absurd c ∅
   have:kO xs=false:=by
    unfold kO
    split
    ·exact absurd rfl hl
    ·rfl
   rw[this]at q;exact q H1 s1
  ·have hl:xs.length=5:=by
    by_cases z:xs.length=5
    ·exact z
    ·exfalso;refine c ?_;have:¬ (V.int (xs.length:Int)=V.int 5):=λ h=>z (by have:=V.int.inj h;lia);rw[QJ this];rfl
   obtain⟨x1,x2,x3,x4,x5,rfl⟩:=ls5 hl;obtain⟨T1,t1⟩:=its x1 (by simp);obtain⟨T2,t2⟩:=its x2 (by simp);obtain⟨T3,t3⟩:=its x3 (by simp);obtain⟨T4,t4⟩:=its x4 (by simp);obtain⟨T5,t5⟩:=its x5 (by simp);refine%[_,Y,a,_,Y,sq,Y,x1,_,Y,x2,_,Y,x3,_,Y,x4,_,Y,x5,_,Y,Y|?_];refine%[_,Y,x1,T1,1,Y,Ty.same s1 t1,_,Y|?_];have q':∀b,kO [x1,x2,x3,x4,x5]=b->Q (.bl b) H1:=λ b e=>by rw[<- e];exact q H1 s1
   have k5:kO [x1,x2,x3,x4,x5]=(aV x1 1 && aV x2 1 && aV x3 0 && aV x4 0 && sr x5):=rfl;cases w1:aV x1 1 with
   | false=>
    refine aW (aW ?_);exact q' false (by rw[k5,w1];rfl)
   | true=>
    refine aP %[_,rfl,x2,T2,1,rfl,Ty.same s1 t2,_,rfl|?_];cases w2:aV x2 1 with
    | false=>
     refine aW ?_;exact q' false (by rw[k5,w1,w2];rfl)
    | true=>
     refine aP %[_,rfl,x3,T3,0,rfl,Ty.same s1 t3,_,rfl|?_];cases w3:aV x3 0 with
     | false=>
      refine aP ?_;exact q' false (by rw[k5,w1,w2,w3];rfl)
     | true=>
      refine aW %[_,rfl,x4,T4,0,rfl,Ty.same s1 t4,_,rfl|?_];cases w4:aV x4 0 with
      | false=>
       refine aP ?_;exact q' false (by rw[k5,w1,w2,w3,w4];rfl)
      | true=>
       refine aW %[_,rfl,x5,T5,rfl,Ty.same s1 t5|?_];exact q' _ (by rw[k5,w1,w2,w3,w4];rfl)
theorem scInit:FnScope ["self","blade","kinds","kind"] ["self","blade","kinds"] (defScope ej):=%[Y,Y,Y,∅,Y,∅|∅]
theorem yp{f C:P6}{fd:F6}(F:Fun K "__init__" "Shop.__init__" ej f fd)(B:Blt mg)(T:ShopTxt K C)(DW:Dn P w K mg base "is_whole" ["thing","least"] 1 (cT K))(DR:Dn P w K mg base "is_row" ["thing"] 1 (kN K))
  (DK:Dn P w K mg base "is_kind" ["thing"] 2 (jE K)):FnOk P w K mg base CX0 3 f fd ["self","blade","kinds"] (oj C):=by
 exists scInit
 ·obtain⟨x,dx,ks,b,rs,kds,rfl,_⟩:=h
  rfl
 obtain⟨x,dx,ks,b,rs,kds,rfl,hx,b0,hks,hrs,hgd,n1,n8,q⟩:=h;have hr1:=hr.mono (show 1<=2 by decide);obtain⟨tk,htk⟩:=B.mostk;have nd:=scInit.nd;have n8':(8:Nat) < sizeLine:=∅
 refine⟨_,ad (aK (bj (aT (aq DW hr1 rfl (aa (pv 1) (aa ae ab))))) io aF)
  (ad (aK (PW.pt (bS (bj (aT (aq DR hr1 rfl (aa (pv 2) ab)))) (bR (bj (uG kC kC ae (aI aY rfl B.len QQ (aa (pv 2) ab)) (aN (v:=.int 8) rfl htk %[tk|rfl])))))) io aF)
  (ad (cG E2 rfl (uX (pv 2)) (ai (i:=3) nd rfl (Or.inl rfl)) (ag (aK (bj (aT (aq DK hr rfl (aa (pv 3) ab)))) io aF)))
  (ad (fv (pv 0) (pv 1) rfl)
  (ag (fv (pv 0) (bo bh rfl B.tuple QK (aa (bO (own:=["kind"]) (cs:=[]) (cap:=[]) rfl (uX (pv 2))
   (aL (sc:=defScope ej) (N:=["self","blade","kinds","kind"]) rfl rfl ∅)
   (λ _ _ _ _ _=>ai (i:=0) (by show List.Nodup (["kind"]:QA Str);decide +kernel) rfl (Or.inl rfl) (Or.inr rfl)) (λ _ _ _ _ _=>bd)
   (λ _ _ _ _ _=>bo (r:=uZ K) bh rfl B.tuple QK (aa (pv 0) ab))) ab)) rfl))))),?_⟩
 refine%[_,Y,.int b,_,0,Y,.int,_,Y|?_];have wb:aV (.int b) 0=true:=B0 b0;rw[wb];refine aP ?_;have tyk:∃T,Ty K H (.ref ks) T/\(T == "list" || T == "tuple")=true:=by
  rcases hks with e | e
  ·exact%[_,.lst e|Y]
  ·exact%[_,.tup e|Y]
 obtain⟨T0,ty0,te0⟩:=tyk;refine%[_,Y,.ref ks,T0,Y,ty0|λ H1 s1=>%[_,Y|?_]];rw[te0];have sq:∀{H2:Hp},Same H H2->SqL K H2 ks rs\/SqT K H2 ks rs:=λ s2=>by
  rcases hks with z | z
  ·exact .inl (G1 (s2 _ _ z))
  ·exact .inr (G0 (s2 _ _ z))
 refine aP %[_,rfl,ks,rs,rfl,sq s1,_,_,rfl,rfl,_,rfl|?_];rw[QG (show(1:Int)<=(rs.length:Int)by lia)];refine aW %[_,_,rfl,rfl,_,rfl|?_];rw[QG (show(rs.length:Int)<=8 by lia)];refine aP ?_;have AW:=E1 hrs;refine va (j:=2) (a:=ks) (xs:=rs) rfl (hks.imp (λ z=>s1 _ _ z) λ z=>s1 _ _ z) (λ i σ H2=>∃v,σ=[↑x,⇑b,↑ks,v]/\Same H1 H2) %[none,rfl|Same.refl _] (λ i σ H2 _ ⟨_,_,s2⟩ o e=>s2 _ _ e) ?_ ?_
 ·rintro i y σ H2 hi ⟨v,rfl,s2⟩;obtain⟨k,hk,rk⟩:=G3 hrs hi;refine%[_,Y|?_];simp only[ko,J7];refine su ((rk.same s1).same s2) (hgd k (B5 hk)) λ H3 s3=>%[_,Y|aP ?_]
  exact%[_,Y|s2.trans s3]
 rintro σ H2 ⟨v,rfl,s12⟩;have s2:Same H H2:=s1.trans s12;refine%[_,Y,_,Y,x,C,dx,[],Y,s2 _ _ hx,T.cl,T.nB,(by show 0 < 1000;decide)|?_];have k3:∀c o,c≠x->H c=some o->(upd H2 x (.ins C dx (bG "blade_width" (.int b) []))) c=some o:=λ c o n e=>by rw[ap n];exact s2 c o e
 have x3:(upd H2 x (.ins C dx (bG "blade_width" (.int b) []))) x=some (.ins C dx (bG "blade_width" (.int b) [])):=af;generalize upd H2 x (.ins C dx (bG "blade_width" (.int b) []))=H3 at k3 x3 ⊢;have rx:∀c xs,H c=↥xs\/H c= ~~~xs->c≠x:=λ c xs e z=>by subst z;rcases e with e | e <;> (rw[hx]at e;cases e)
 dsimp only[Gi,tCB,gv];refine ss (j:=2) (a:=ks) (xs:=rs) rfl (hks.imp (λ z=>k3 _ _ (rx _ _ (.inl z)) z) λ z=>k3 _ _ (rx _ _ (.inr z)) z) (λ i ys H4=>ys.length=i/\Same H3 H4/\Tups H4 ys (kds.take i)) (λ i ys H4 _ ⟨_,s4,_⟩ o e=>s4 _ _ e) %[rfl,Same.refl _|.nil] ?_ ?_
 ·rintro i y ys H4 hi ⟨hy,s4,ty4⟩;have hin:i < rs.length:=(A6.mp hi).1;obtain⟨k,hk,rk⟩:=G3 hrs hi;have tk1:kds.take (i+1)=kds.take i ++ [k]:=by rw[J5,hk];rfl
  refine%[⋯,leS.set rfl|bg ?_];rcases rk with⟨a,rfl,h⟩ | ⟨a,rfl,h⟩
  ·have h4:=s4 _ _ (k3 _ _ (rx _ _ (.inr h)) h);exact%[_,Y,a,_,Y|.inr %[G0 h4|Nx.of hin %[by rw[G6,hy];rfl,s4|by rw[tk1];exact Paired.snoc ty4 %[a,Y|h4]]]]
  ·have h4:=s4 _ _ (k3 _ _ (rx _ _ (.inl h)) h);refine%[_,Y,a,_,Y|.inl %[G1 h4|λ l hl=>Nx.of hin %[by rw[G6,hy];rfl,λ c o e=>?_|?_]]]
   ·have e4:=s4 c o e;rw[ap (ax e4 hl)];exact e4
   ·rw[tk1];exact Paired.snoc (Tups.keep (λ c xs e=>by rw[ap (ax e hl)];exact e) ty4) %[l,rfl|af]
 rintro ys H4 ⟨hy,s4,ty4⟩;refine%[⋯|λ p hp=>?_];refine%[p,ys,Y|.inl %[G1 af|λ r hr'=>?_]];have hpr:r≠p:=λ z=>by rw[z,af]at hr';cases hr'
 have hr4:H4 r=none:=by rw[ap hpr]at hr';exact hr'
 have x4:=s4 _ _ x3;have xp:x≠p:=ax x4 hp;have xr:x≠r:=ax x4 hr4;refine%[_,Y,x,C,dx,_,Y,(by rw[ap xr,ap xp];exact x4),T.cl,T.nK,(C6 (bV _ _ _) ∅)|?_];rw[AW,K2]at ty4;refine q _ %[dx,r,ys,af,by rw[ap (Ne.symm xr),af]|?_] λ c o n e=>?_
 ·refine Tups.keep (λ c xs e=>?_) ty4;rw[ap (λ z=>by rw[z,x4]at e;cases e),ap (ax e hr4),ap (ax e hp)];exact e
 ·have e4:=s4 _ _ (k3 c o n e);rw[ap n,ap (ax e4 hr4),ap (ax e4 hp)];exact e4
theorem yq:FnScope ["self"] ["self"] (defScope eN):=%[Y,Y,Y,∅,Y,∅|∅]
theorem vH{f C:P6}{fd:F6}(F:Fun K "blade" "Shop.blade" eN f fd)(T:ShopTxt K C):FnOk P w K mg base CX0 1 f fd ["self"] (eH C):=by
 exists yq
 ·obtain⟨x,b,ks,rfl,_⟩:=h
  rfl
 obtain⟨x,b,ks,rfl,⟨dx,r,rs,h1,h2,h3⟩,q⟩:=h;exact%[_,ag (au (bN (pv 0) rfl)),_,Y,x,C,dx,_,_,Y,h1,T.cl,T.nB,jG _ _|q]
theorem yt:FnScope ["self"] ["self"] (defScope eO):=%[Y,Y,Y,∅,Y,∅|∅]
theorem vI{f C:P6}{fd:F6}(F:Fun K "kinds" "Shop.kinds" eO f fd)(T:ShopTxt K C)(ml:mg "list" = none):FnOk P w K mg base CX0 1 f fd ["self"] (fT C):=by
 exists yt
 ·obtain⟨x,b,ks,rfl,_⟩:=h
  rfl
 obtain⟨x,b,ks,rfl,⟨dx,r,rs,h1,h2,h3⟩,q⟩:=h;refine%[_,ag (au (bo eD rfl ml PyProof.Rows.boot_list (aa (bN (pv 0) rfl) ab)))|?_];exact%[_,Y,x,C,dx,_,_,Y,h1,T.cl,T.nK,fS _ _,r,rs,Y,.inr (G0 h2)|λ l hl=>q l rs hl h3]
theorem vJ:FnScope ["kind"] ["kind"] (defScope jl):=%[Y,Y,Y,∅,Y,∅|∅]
theorem sQ{f:P6}{fd:F6}(F:Fun K "can_lie_turned" "can_lie_turned" jl f fd):FnOk P w K mg base CX0 1 f fd ["kind"] (mM K):=by
 exists vJ
 ·obtain⟨a,k,rfl,_⟩:=h
  rfl
 obtain⟨a,k,rfl,ha,q⟩:=h;refine%[_,ag (au (dq (av ix_tup (pv 0) ae (λ _ _=>rfl)) (fi (cq gM (av ix_tup (pv 0) ae (λ _ _=>rfl)) (av ix_tup (pv 0) ae (λ _ _=>rfl)) (aE _)))))|?_];refine%[_,Y,a,_,4,_,Y,Y,G0 ha,Y,_,Y|?_];unfold bm at q;refine dv (λ c=>?_) (λ c=>?_)
 ·rw[c,M4]at q;refine%[_,Y,a,_,0,_,Y,Y,G0 ha,Y,_,Y,a,_,1,_,Y,Y,G0 ha,Y,Y|?_];rw[lB];rw[show(decide (k.w=k.h))=(k.w == k.h)from rfl]at q;exact q
 ·have c':k.tu=false:=by simpa using c
  rw[c',N3]at q;exact q
theorem sR:FnScope ["self","kind","turned"] ["self","kind","turned"] (defScope dg):=%[Y,Y,Y,∅,Y,∅|∅]
theorem oC{f C:P6}{fd:F6}(F:Fun K "is_lying" "Shop.is_lying" dg f fd)(B:Blt mg)(T:ShopTxt K C)(DW:Dn P w K mg base "is_whole" ["thing","least"] 1 (cT K))(DU:Dn P w K mg base "is_truth" ["thing"] 1 (lH K))(DT:Dn P w K mg base "can_lie_turned" ["kind"] 1 (mM K)) :
  FnOk P w K mg base CX0 2 f fd ["self","kind","turned"] (fU K C):=by
 exists sR
 ·obtain⟨s,b,ks,x,t,T0,U,rfl,_⟩:=h
  rfl
 obtain⟨s,b,ks,x,t,T0,U,rfl,⟨dx,r,rs,h1,h2,h3⟩,tx,tt,q⟩:=h;have ls3:=E1 h3;refine⟨_,ad (aK (PW.pt (bS (bj (aT (aq DW hr rfl (aa (pv 1) (aa ae ab))))) (bS (aB qx (pv 1) (aI aY rfl B.len QQ (aa (bN (pv 0) rfl) ab)) (aE _))
   (bR (bj (aT (aq DU hr rfl (aa (pv 2) ab)))))))) (ag (au cD)) aF)
  (ag (au (FT (uy (pv 2)) (fi (aq DT hr rfl (aa (av ix_tup (bN (pv 0) rfl) (pv 1) (λ _ _=>rfl)) ab)))))),?_⟩
 refine%[_,Y,x,_,0,Y,tx,_,Y|?_];cases hw:aV x 0 with
 | false=>
  have e:gp ks x t=false:=by
   cases x with
   | int i=>
    have h0:decide (0<=i)=false:=hw;cases t <;> first | rfl | (show(decide (0<=i) && _)=false;rw[h0,N3])
   | _=>rfl
  rw[e]at q;exact aW (aW q)
 | true=>
  have ex:∃i,x=.int i/\0<=i:=by
   cases x with
   | int i=>exact%[i,Y|C0 hw]
   | _=>cases hw
  obtain⟨i,rfl,i0⟩:=ex;refine aP %[_,rfl,_,rfl,s,C,dx,_,_,rfl,h1,T.cl,T.nK,fS _ _,r,rs,rfl,.inr (G0 h2),i,_,rfl,rfl,_,rfl|?_]
  by_cases hi:(rs.length:Int)<=i
  ·rw[QG hi];have e:gp ks (.int i) t=false:=by have hn:ks[i.toNat]?=none:=C7 ⋯;cases t <;> first | rfl | (show(decide (0<=i) && match ks[i.toNat]? with | some k=>_ | none=>false)=false;rw[hn,M0])
   rw[e]at q;exact aW (aW q)
  ·rw[QJ hi];refine aP %[_,rfl,t,_,rfl,tt,_,rfl|?_];have hlt:i.toNat < ks.length:=⋯
   cases hb:sr t with
   | false=>
    have e:gp ks (.int i) t=false:=by cases t <;> first | rfl | cases hb
    rw[e]at q;exact aW q
   | true=>
    have ex:∃c,t=.bl c:=by cases t <;> first | exact%[_|Y] | cases hb
    obtain⟨c,rfl⟩:=ex;obtain⟨y,hy⟩:∃y,rs[i.toNat]?=some y:=%[rs[i.toNat]'⋯|by simp[show i.toNat < rs.length by lia]]
    obtain⟨k,hk,a,rfl,ha⟩:=G3 h3 hy;have e:gp ks (.int i) (.bl c)=(!c || bm k):=by show(decide (0<=i) && match ks[i.toNat]? with | some k=>(!c || bm k) | none=>false)=_;rw[hk,QG i0,M4]
    rw[e]at q;refine aP %[_,rfl,c,rfl,_,rfl|?_];refine dv (λ d=>?_) (λ d=>?_)
    ·rw[d,Bool.true_or]at q;exact q
    ·have d':(!c)=false:=by simpa using d
     rw[d',Bool.false_or]at q;have at':atI rs i=↑a:=by
      have en:ixN rs.length i=some i.toNat:=by unfold ixN;rw[QI i0,QI ⋯]
      unfold atI;rw[en];exact hy
     exact%[_,Y,s,C,dx,_,_,Y,h1,T.cl,T.nK,fS _ _,_,Y,r,rs,i,_,Y,Y,G0 h2,at',a,k,Y,ha|q]
def vK(k:Kd)(c:Bool):QA V:=if c=true then[.int k.h,.int k.w]else[.int k.w,.int k.h]
inductive spSides(K:C4)(C:P6)(vs:QA V)(H:Hp)(Q:VK)(E_:XK):Prop
|mk(s:P6)(b:Int)(ks:QA Kd)(x t:V)(T U:String)(_:vs=[.ref s,x,t])(_:ShopAt C H s b ks)(_:Ty K H x T)(_:Ty K H t U)(_:gp ks x t=true)(_:∀(i:Int)(c:Bool)(k:Kd)(p:P6),x=.int i->t=.bl c->ks[i.toNat]?=some k->gp ks x t=true->H p=none->Q (.ref p) (upd H p (.tup (vK k c))))
theorem kS{ks:QA Kd}{x t:V}(h:gp ks x t=true):∃(i:Int)(c:Bool)(k:Kd),x=.int i/\t=.bl c/\0<=i/\ks[i.toNat]?=some k:=by
 unfold gp at h
 split at h
 ·rename_i i c
  rw[K4]at h;obtain⟨h1,h2⟩:=h
  split at h2
  ·rename_i k hk
   exact%[i,c,k,Y,Y,C0 h1|hk]
  ·cases h2
 ·cases h
theorem Ax{rs:QA V}{i:Int}{v:V}(i0:0<=i)(h:rs[i.toNat]?=some v):atI rs i=some v:=by
 have en:ixN rs.length i=some i.toNat:=by unfold ixN;have:=(A6.mp h).1;rw[QI i0,QI ⋯]
 unfold atI;rw[en];exact h
theorem scSides:FnScope ["self","kind","turned","row"] ["self","kind","turned"] (defScope eP):=%[Y,Y,Y,∅,Y,∅|∅]
theorem vL{f C:P6}{fd:F6}(F:Fun K "sides" "Shop.sides" eP f fd)(T:ShopTxt K C)(ML:Mn P w K mg base C "is_lying" ["self","kind","turned"] 2 (fU K C)) :
  FnOk P w K mg base CX0 3 f fd ["self","kind","turned"] (spSides K C):=by
 exists scSides
 ·obtain⟨s,b,ks,x,t,T0,U,rfl,_⟩:=h
  rfl
 obtain⟨s,b,ks,x,t,T0,U,rfl,S,tx,tt,he,hq⟩:=h;have nd:=scSides.nd;refine⟨_,ad (aK (bj (aT (fC (pv 0) T.cl ML hr (aa (pv 1) (aa (pv 2) ab))))) (ag cF) aF)
  (ad (aw (i:=3) nd rfl (Or.inl rfl) (av ix_tup (bN (pv 0) rfl) (pv 1) (λ _ _=>rfl)))
  (ad (aK (aT (pv 2)) (ag (au (aD (aa (av ix_tup (pv 3) ae (λ _ _=>rfl)) (aa (av ix_tup (pv 3) ae (λ _ _=>rfl)) ab))))) aF)
  (ag (au (aD (aa (av ix_tup (pv 3) ae (λ _ _=>rfl)) (aa (av ix_tup (pv 3) ae (λ _ _=>rfl)) ab))))))),?_⟩
 obtain⟨dx,r,rs,h1,h2,h3⟩:=id S;refine%[_,Y,s,dx,_,Y,h1,bT _ _ ∅ ∅,_,Y,_,Y,s,b,ks,x,t,T0,U,Y,S,tx,tt,_,Y|?_];cases hl:gp ks x t with
 | false=>rw[hl]at he;cases he
 | true=>
  obtain⟨i,c,k,rfl,rfl,i0,hk⟩:=kS hl;have GN:=E1 h3;have hik:=(A6.mp hk).1;obtain⟨y,hy⟩:∃y,rs[i.toNat]?=some y:=%[rs[i.toNat]'⋯|by simp[show i.toNat < rs.length by lia]]
  obtain⟨k',hk',a,rfl,ha⟩:=G3 h3 hy;rw[hk]at hk';obtain rfl:=B8 hk';refine aP ?_;refine%[_,Y,s,C,dx,_,_,Y,h1,T.cl,T.nK,fS _ _,_,Y,r,rs,i,_,Y,Y,G0 h2,Ax i0 hy|?_];refine%[_,Y,_,Y|?_];cases c with
  | true=>
   refine aW ?_;refine%[_,Y,a,_,1,_,Y,Y,G0 ha,Y,_,Y,a,_,0,_,Y,Y,G0 ha,Y,zS2|λ p hp=>?_];exact hq i true k p rfl rfl hk hl hp
  | false=>
   refine aP ?_;refine%[_,Y,a,_,0,_,Y,Y,G0 ha,Y,_,Y,a,_,1,_,Y,Y,G0 ha,Y,zS2|λ p hp=>?_];exact hq i false k p rfl rfl hk hl hp
mutual
inductive Dt(p:P6)(H:Hp):V->PyData->Prop
 | non:Dt p H .non .none
 | bl (b:Bool):Dt p H (.bl b) (.bool b)
 | int (i:Int):Dt p H (.int i) (.int i)
 | str (z:Str):Dt p H (.str z) (.str z)
 | lst {a:P6} {xs:QA V} {ds:QA PyData}:a≠p->H a=↥xs->Dts p H xs ds->Dt p H (.ref a) (.list ds)
 | tup {a:P6} {xs:QA V} {ds:QA PyData}:H a= ~~~xs->Dts p H xs ds->Dt p H (.ref a) (.tuple ds)
 | emp {a:P6}:H a=some (.dK [])->Dt p H (.ref a) (.dict [])
inductive Dts(p:P6)(H:Hp):QA V->QA PyData->Prop
 | nil:Dts p H [] []
 | cons {x:V} {d:PyData} {xs:QA V} {ds:QA PyData}:Dt p H x d->Dts p H xs ds->Dts p H (x :: xs) (d :: ds)
end
mutual
theorem Dt.same{p:P6}{H H':Hp}(s:Same H H'):∀{v:V}{d:PyData},Dt p H v d->Dt p H' v d
 | _,_,.non=>.non
 | _,_,.bl b=>.bl b
 | _,_,.int i=>.int i
 | _,_,.str z=>.str z
 | _,_,.lst n h r=>.lst n (s _ _ h) (r.same s)
 | _,_,.tup h r=>.tup (s _ _ h) (r.same s)
 | _,_,.emp h=>.emp (s _ _ h)
theorem Dts.same{p:P6}{H H':Hp}(s:Same H H'):∀{vs:QA V}{ds:QA PyData},Dts p H vs ds->Dts p H' vs ds
 | _,_,.nil=>.nil
 | _,_,.cons a r=>.cons (a.same s) (r.same s)
end
theorem Dts.length{p:P6}{H:Hp}:∀{vs:QA V}{ds:QA PyData},Dts p H vs ds->vs.length=ds.length
 | _,_,.nil=>rfl
 | _,_,.cons _ r=>by rw[G8,G8,r.length]
theorem Dt.ty{K:C4}{p:P6}{H:Hp}{v:V}{d:PyData}(h:Dt p H v d):∃T,Ty K H v T:=by
 cases h with
 | non=>exact%[_|Ty.non]
 | bl b=>exact%[_|Ty.bl]
 | int i=>exact%[_|Ty.int]
 | str z=>exact%[_|Ty.str]
 | lst _ h _=>exact%[_|Ty.lst h]
 | tup h _=>exact%[_|Ty.tup h]
 | emp h=>exact%[_|Ty.dK h]
mutual
theorem Dt.but{p:P6}{H H':Hp}(hp:∃xs,H p=↥xs)(b:But p H H'):∀{v:V}{d:PyData},Dt p H v d->Dt p H' v d
 | _,_,.non=>.non
 | _,_,.bl b=>.bl b
 | _,_,.int i=>.int i
 | _,_,.str z=>.str z
 | _,_,.lst n h r=>.lst n (b _ _ n h) (r.but hp b)
 | _,_,.tup h r=>.tup (b _ _ (λ z=>by obtain⟨_,e⟩:=hp;rw[z,e]at h;cases h) h) (r.but hp b)
 | _,_,.emp h=>.emp (b _ _ (λ z=>by obtain⟨_,e⟩:=hp;rw[z,e]at h;cases h) h)
theorem Dts.but{p:P6}{H H':Hp}(hp:∃xs,H p=↥xs)(b:But p H H'):∀{vs:QA V}{ds:QA PyData},Dts p H vs ds->Dts p H' vs ds
 | _,_,.nil=>.nil
 | _,_,.cons a r=>.cons (a.but hp b) (r.but hp b)
end
mutual
noncomputable def wt:PyData->Nat
 | .str z=>z.length+1
 | .list ds=>wts ds+1
 | .tuple ds=>wts ds+1
 | _=>1
noncomputable def wts:QA PyData->Nat
 | []=>0
 | d :: r=>wt d+wts r
end
theorem zR(d:PyData):1<=wt d:=by cases d <;> simp only[wt] <;> lia
def aQ:PyData->P8 (QA PyData)
 | .list ds=>some ds
 | .tuple ds=>some ds
 | _=>none
theorem vM{d x:PyData}{ds:QA PyData}(h:aQ d=some ds)(hx:x∈ds):sizeOf x < sizeOf d:=by
 have:=List.sizeOf_lt_of_mem hx;cases d <;> simp only[aQ,Option.some.injEq,reduceCtorEq]at h
 ·subst h;simp;lia
 ·subst h;simp;lia
theorem Dt.row{K:C4}{p:P6}{H:Hp}{v:V}{d:PyData}(h:Dt p H v d):(aQ d=none/\∃T,Ty K H v T/\(T == "list" || T == "tuple")=false)\/∃a xs ds T,aQ d=some ds/\v=.ref a/\(H a=↥xs\/H a= ~~~xs)/\Dts p H xs ds/\Ty K H v T/\(T == "list" || T == "tuple")=true:=by
 cases h with
 | non=>exact .inl %[Y,_,Ty.non|Y]
 | bl b=>exact .inl %[Y,_,Ty.bl|Y]
 | int i=>exact .inl %[Y,_,Ty.int|Y]
 | str z=>exact .inl %[Y,_,Ty.str|Y]
 | lst _ h r=>exact .inr %[_,_,_,_,Y,Y,.inl h,r,Ty.lst h|Y]
 | tup h r=>exact .inr %[_,_,_,_,Y,Y,.inr h,r,Ty.tup h|Y]
 | emp h=>exact .inl %[Y,_,Ty.dK h|Y]
def bw(d:PyData)(z:Str)(n:Nat):Bool:=match aQ d with
 | some (.str y :: r)=>decide (r.length+1=n) && decide (y=z)
 | _=>false
inductive spBegins(vs:QA V)(H:Hp)(Q:VK)(E_:XK):Prop
|mk(pp:P6)(v:V)(d:PyData)(z:Str)(n:Nat)(_:vs=[v,.str z,.int n])(_:1<=n)(_:Dt pp H v d)(_:∀H',Same H H'->Q (.bl (bw d z n)) H')
theorem scbegins:FnScope ["thing","word","many"] ["thing","word","many"] (defScope dN):=%[Y,Y,Y,∅,Y,∅|∅]
theorem sS{f:P6}{fd:F6}(F:Fun K "begins_with" "begins_with" dN f fd)(B:Blt mg)(bs:mg "str" = none)(DR:Dn P w K mg base "is_row" ["thing"] 1 (kN K)):FnOk P w K mg base CX0 2 f fd ["thing","word","many"] (spBegins):=by
 exists scbegins
 ·obtain⟨pp,v,d,z,n,rfl,_⟩:=h
  rfl
 obtain⟨pp,v,d,z,n,rfl,n1,hd,q⟩:=h;have nd:=scbegins.nd;refine%[_,(((PW.pt (bS (@bj _ _ _ _ (@aT _ _ _ (DR∪((pv 0)^^^ab)) (by intro _;rfl))) (bR ((@aI _ _ _ _ _ _ _ _ _ aY Y B.len QQ ((pv 0)^^^ab) ∅ ∅ Y Y)<*>gM<*>(pv 2)))))<|>(cD⁻¹)<|>aF)<<<((dq (@aI _ _ _ _ _ _ _ _ _ dI Y B.isi QU (((pv 0)&&&bc&&&ae)^^^((fP (v:=.ty "str") Y bs PyProof.Rows.boot_str Y)^^^ab)) ∅ ∅ Y Y) (fi (@cq _ _ _ _ _ _ _ _ cf ((pv 0)&&&bc&&&ae) (pv 1) (aE _))))⁻¹))|?_];dsimp only[bJ];rcases hd.row (K:=K)with⟨e,T,ty,hT⟩ | ⟨a,xs,ds,T,e,rfl,hx,dx,ty,hT⟩
 ·refine%[_,Y,v,T,Y,ty|λ H1 s1=>%[_,Y|?_]];rw[hT];have q1:=q H1 s1;unfold bw at q1;rw[e]at q1;exact aW (aW q1)
 refine%[_,Y,_,T,Y,ty|λ H1 s1=>%[_,Y|?_]];rw[hT];have sq:SqL K H1 a xs\/SqT K H1 a xs:=hx.imp (λ z=>G1 (s1 _ _ z)) λ z=>G0 (s1 _ _ z);refine aP %[_,rfl,a,_,rfl,sq,_,rfl,rfl,_,rfl|?_];have q1:=q H1 s1;have len:=dx.length;cases dx with
 | nil=>
  rw[show decide (V.int (([]:QA V).length:Int)=V.int (n:Int))=false from QJ (λ z=>by have:=V.int.inj z;simp at this;lia)];unfold bw at q1;rw[e]at q1;exact aW q1
 | @cons x d1 xs ds hd1 dr=>
  have a0:atI (x :: xs) 0=some x:=aH (E3 _) rfl;have ixs:∀Q':VK,Q' x H1->rIx K (.ref a) (.int 0) H1 Q':=λ Q' h=>sq.elim (λ z=>.inl %[a,_,0,x,Y,Y,z,a0|h]) (λ z=>.inr (.inl %[a,_,0,x,Y,Y,z,a0|h]));rw[G8,G8]at len
  by_cases hn:ds.length+1=n
  ·rw[show decide (V.int ((x :: xs).length:Int)=V.int (n:Int))=true from QG (by rw[G8,len,hn])];refine aP %[_,rfl|ixs _ ?_];cases hd1 with
   | str y=>
    refine%[_,_,_,_,_,Y,(Ty.str (K:=K)).2,Y,eF "str" (by simp[aS]),_,Y|aW ?_];refine%[_,Y|ixs _ %[_,Y,Y|?_]];unfold bw at q1;rw[e]at q1;simp only[hn,decide_true,M4]at q1;rw[show decide (V.str y=V.str z)=decide (y=z)from decide_eq_decide.mpr %[V.str.inj|QV _]];exact q1
   | non=>exact%[_,_,_,_,_,Y,(Ty.non (K:=K)).2,Y,eF "NoneType" (by simp[aS]),_,Y|aP (by unfold bw at q1;rw[e]at q1;exact q1)]
   | bl b=>exact%[_,_,_,_,_,Y,(Ty.bl (K:=K)).2,Y,eF "bool" (by simp[aS]),_,Y|aP (by unfold bw at q1;rw[e]at q1;exact q1)]
   | int i=>exact%[_,_,_,_,_,Y,(Ty.int (K:=K)).2,Y,eF "int" (by simp[aS]),_,Y|aP (by unfold bw at q1;rw[e]at q1;exact q1)]
   | lst _ h r=>exact%[_,_,_,_,_,Y,(Ty.lst (s1 _ _ h) (K:=K)).2,Y,eF "list" (by simp[aS]),_,Y|aP (by unfold bw at q1;rw[e]at q1;exact q1)]
   | tup h r=>exact%[_,_,_,_,_,Y,(Ty.tup (s1 _ _ h) (K:=K)).2,Y,eF "tuple" (by simp[aS]),_,Y|aP (by unfold bw at q1;rw[e]at q1;exact q1)]
   | emp h=>exact%[_,_,_,_,_,Y,(Ty.dK (s1 _ _ h) (K:=K)).2,Y,eF "dict" (by simp[aS]),_,Y|aP (by unfold bw at q1;rw[e]at q1;exact q1)]
  ·rw[show decide (V.int ((x :: xs).length:Int)=V.int (n:Int))=false from QJ (λ z=>hn (by have:=V.int.inj z;rw[G8,len]at this;lia))];refine aW ?_;have z:bw d z n=false:=by unfold bw;rw[e];cases d1 <;> simp[hn]
   rw[z]at q1;exact q1
def sd1(k:Kd)(c:Bool):Int:=if c=true then k.h else k.w
def sd2(k:Kd)(c:Bool):Int:=if c=true then k.w else k.h
theorem jM(k:Kd)(c:Bool):vK k c=[.int (sd1 k c),.int (sd2 k c)]:=by cases c <;> rfl
def gG(ks:QA Kd)(w h:Int)(kv tv xv yv:V):Bool:=gp ks kv tv && aV xv 0 && aV yv 0 && (match kv,tv,xv,yv with
 | .int i,.bl c,.int x,.int y=>(match ks[i.toNat]? with
  | some k=>decide (x+sd1 k c<=w) && decide (y+sd2 k c<=h)
  | none=>false)
 | _,_,_,_=>false)
inductive spLiesG(K:C4)(C:P6)(vs:QA V)(H:Hp)(Q:VK)(E_:XK):Prop
|mk(s:P6)(b:Int)(ks:QA Kd)(w h:Int)(kv tv xv yv:V)(T1 T2 T3 T4:String)(_:vs=[.ref s,.int w,.int h,kv,tv,xv,yv])(_:ShopAt C H s b ks)(_:Ty K H kv T1)(_:Ty K H tv T2)(_:Ty K H xv T3)(_:Ty K H yv T4)(_:∀H',Same H H'->Q (.bl (gG ks w h kv tv xv yv)) H')
theorem scliesG:FnScope ["shop","wide","high","kind","turned","x","y","piece_wide","piece_high"] ["shop","wide","high","kind","turned","x","y"] (defScope jg):=%[Y,Y,Y,∅,Y,∅|∅]
theorem vN{f C:P6}{fd:F6}(F:Fun K "lies_in" "lies_in" jg f fd)(T:ShopTxt K C)(DW:Dn P w K mg base "is_whole" ["thing","least"] 1 (cT K))(MI:Mn P w K mg base C "is_lying" ["self","kind","turned"] 2 (fU K C))(MS:Mn P w K mg base C "sides" ["self","kind","turned"] 3 (spSides K C)):FnOk P w K mg base CX0 4 f fd ["shop","wide","high","kind","turned","x","y"] (spLiesG K C):=by
 exists scliesG
 ·obtain⟨s,b,ks,w1,h1,kv,tv,xv,yv,T1,T2,T3,T4,rfl,_⟩:=h
  rfl
 obtain⟨s,b,ks,w1,h1',kv,tv,xv,yv,T1,T2,T3,T4,rfl,S,t1,t2,t3,t4,q⟩:=h;have nd:=scliesG.nd;have hr1:=hr.mono (show 1<=3 by decide);have hr2:=hr.mono (show 2<=3 by decide);refine%[_,(((PW.pt (bS (@bj _ _ _ _ (@aT _ _ _ (fC (pv 0) T.cl MI hr2 ((pv 3)^^^((pv 4)^^^ab))) (by intro _;rfl))) (bS (@bj _ _ _ _ (@aT _ _ _ (@aq _ _ _ _ _ _ _ _ _ _ DW hr1 Y ((pv 5)^^^(ae^^^ab)) ∅ Y Y) (by intro _;rfl))) (bR (@bj _ _ _ _ (@aT _ _ _ (@aq _ _ _ _ _ _ _ _ _ _ DW hr1 Y ((pv 6)^^^(ae^^^ab)) ∅ Y Y) (by intro _;rfl)))))))<|>(cD⁻¹)<|>aF)<<<((@bq _ _ _ _ _ _ (fC (pv 0) T.cl MS hr ((pv 3)^^^((pv 4)^^^ab))) (aU Y (7•(8•aJ))) Y Y Y)<<<((dq (@cq _ _ _ _ _ _ _ _ kC ((pv 5)|||aM|||(pv 7)) (pv 1) (aE _)) (fi (@cq _ _ _ _ _ _ _ _ kC ((pv 6)|||aM|||(pv 8)) (pv 2) (aE _))))⁻¹)))|?_];dsimp only[bJ];obtain⟨dx,r,rs,h1,h2,h3⟩:=id S;refine%[_,Y,s,dx,_,Y,h1,(bT _ _ ∅ ∅),_,Y,_,Y,s,b,ks,kv,tv,T1,T2,Y,S,t1,t2,_,Y|?_];cases ly:gp ks kv tv with
 | false=>
  have q1:=q H (Same.refl _);unfold gG at q1;rw[ly]at q1;exact aW (aW q1)
 | true=>
 refine aP %[_,rfl,xv,T3,0,rfl,t3,_,rfl|?_];cases hx:aV xv 0 with
 | false=>
  have q1:=q H (Same.refl _);unfold gG at q1;rw[ly,hx]at q1;exact aW (aW q1)
 | true=>
 refine aP %[_,rfl,yv,T4,0,rfl,t4,_,rfl|?_];cases hy:aV yv 0 with
 | false=>
  have q1:=q H (Same.refl _);unfold gG at q1;rw[ly,hx,hy]at q1;exact aW q1
 | true=>
 refine aP ?_;obtain⟨i,c,k,rfl,rfl,i0,hk⟩:=kS ly;obtain⟨x1,rfl⟩:∃i,xv=.int i:=by cases xv <;> first | exact%[_|Y] | cases hx
 obtain⟨y1,rfl⟩:∃i,yv=.int i:=by cases yv <;> first | exact%[_|Y] | cases hy
 refine%[_,Y,s,dx,_,Y,h1,(bT _ _ ∅ ∅),_,Y,_,Y,s,b,ks,.int i,.bl c,T1,T2,Y,S,t1,t2,ly|λ i' c' k' p e1 e2 hk' _ hp=>?_];cases e1;cases e2;rw[hk]at hk';cases hk';rw[jM];have q1:=q _ (F9 hp (o:=.tup [.int (sd1 k c),.int (sd2 k c)]));refine%[p,_,Y,G0 af,Y,_,_,Y,_,_,Y,Y|?_];refine%[_,Y,_,Y,_,_,Y,Y,_,Y,_,_,Y,Y,_,Y|?_];unfold gG at q1;rw[ly,hx,hy]at q1;simp only[hk,M4]at q1;refine dv (λ cc=>?_) (λ cc=>?_)
 ·refine%[_,Y,_,Y,_,_,Y,Y,_,Y,_,_,Y,Y|?_];rw[cc,M4]at q1;exact q1
 ·rw[show decide (x1+sd1 k c<=w1)=false by simpa using cc,N3]at q1;exact q1
theorem Dts.one{p:P6}{H:Hp}{xs:QA V}{ds:QA PyData}{n:Nat}(h:Dts p H xs ds)(hl:ds.length=n+1):∃x d xs' ds',xs=x :: xs'/\ds=d :: ds'/\Dt p H x d/\Dts p H xs' ds'/\ds'.length=n:=by
 cases h with
 | nil=>cases hl
 | cons a r=>exact%[_,_,_,_,Y,Y,a,r|Nat.succ.inj hl]
theorem Dts.zero{p:P6}{H:Hp}{xs:QA V}{ds:QA PyData}(h:Dts p H xs ds)(hl:ds.length=0):xs=[]/\ds=[]:=by
 cases h with
 | nil=>exact%[Y|Y]
 | cons a r=>cases hl
theorem Dts.three{p:P6}{H:Hp}{xs:QA V}{ds:QA PyData}(h:Dts p H xs ds)(hl:ds.length=3):∃x1 x2 x3 d1 d2 d3,xs=[x1,x2,x3]/\ds=[d1,d2,d3]/\Dt p H x1 d1/\Dt p H x2 d2/\Dt p H x3 d3:=by obtain⟨x1,d1,xs,ds,rfl,rfl,h1,h,hl⟩:=h.one hl;obtain⟨x2,d2,xs,ds,rfl,rfl,h2,h,hl⟩:=h.one hl;obtain⟨x3,d3,xs,ds,rfl,rfl,h3,h,hl⟩:=h.one hl;obtain⟨rfl,rfl⟩:=h.zero hl;exact%[_,_,_,_,_,_,Y,Y,h1,h2|h3]
theorem Dts.four{p:P6}{H:Hp}{xs:QA V}{ds:QA PyData}(h:Dts p H xs ds)(hl:ds.length=4):∃x1 x2 x3 x4 d1 d2 d3 d4,xs=[x1,x2,x3,x4]/\ds=[d1,d2,d3,d4]/\Dt p H x1 d1/\Dt p H x2 d2/\Dt p H x3 d3/\Dt p H x4 d4:=by obtain⟨x1,d1,xs,ds,rfl,rfl,h1,h,hl⟩:=h.one hl;obtain⟨x2,x3,x4,d2,d3,d4,rfl,rfl,h2,h3,h4⟩:=h.three hl;exact%[_,_,_,_,_,_,_,_,Y,Y,h1,h2,h3|h4]
structure TrC(K:C4)(mg:Str->P8 Value)(wa:P6):Prop where
 dn:∃t,mg "DOWN" = some (.str "down" t)
 rs:∃t,mg "REST" = some (.str "rest" t)
 pc:∃t,mg "PIECE" = some (.str "piece" t)
 n1:∃t,mg "THINGS_OF_A_REST" = some (.int 1 t)
 n5:∃t,mg "THINGS_OF_A_PIECE" = some (.int 5 t)
 n4:∃t,mg "THINGS_OF_A_CUT" = some (.int 4 t)
 wy:mg "WAYS" = ↑wa
 wq:∀H,SqT K H wa [.str "down",.str "across"]
def vO(b side:Int):PyData->Bool
 | .int p=>decide (1<=p) && decide (p+b < side)
 | _=>false
def gx(b side:Int)(d:PyData):Bool:=match aQ d with
 | some [_,p,_,_]=>vO b side p
 | _=>false
def isC(b w h:Int)(d:PyData):Bool:=if bw d "down" 4=true then gx b w d else if bw d "across" 4=true then gx b h d else false
def nh(ks:QA Kd)(w h:Int):PyData->PyData->PyData->PyData->Bool
 | .int i,.bool c,.int x,.int y=>gG ks w h (.int i) (.bl c) (.int x) (.int y)
 | _,_,_,_=>false
def isL(ks:QA Kd)(w h:Int)(d:PyData):Bool:=if bw d "piece" 5=true then(match aQ d with
 | some [_,k,t,x,y]=>nh ks w h k t x y
 | _=>false)else bw d "rest" 1
inductive spParts2(vs:QA V)(H:Hp)(Q:VK)(E_:XK):Prop
|mk(b w h p:Int)(t:P6)(dn:Bool)(_:vs=[.int b,.ref t,.str (if dn=true then "down" else "across"),.int p])(_:H t= ~~~[.int w,.int h])(_:∀(u t1 t2:P6)(H':Hp),H' u= ~~~[.ref t1,.ref t2]->H' t1= ~~~(if dn=true then[.int p,.int h]else[.int w,.int p])->H' t2= ~~~(if dn=true then[.int (w - p - b),.int h]else[.int w,.int (h - p - b)])->Same H H'->Q (.ref u) H')
inductive spCut(vs:QA V)(H:Hp)(Q:VK)(E_:XK):Prop
|mk(pp:P6)(b x y w h:Int)(sp:P6)(v:V)(d:PyData)(_:vs=[.int b,.ref sp])(_:H sp= ~~~[.int x,.int y,.int w,.int h,v])(_:Dt pp H v d)(_:∀H',Same H H'->Q (.bl (isC b w h d)) H')
inductive spLeaf(C:P6)(vs:QA V)(H:Hp)(Q:VK)(E_:XK):Prop
|mk(pp:P6)(b' x y w h:Int)(s sp:P6)(ks:QA Kd)(v:V)(d:PyData)(_:vs=[.ref s,.ref sp])(_:ShopAt C H s b' ks)(_:H sp= ~~~[.int x,.int y,.int w,.int h,v])(_:Dt pp H v d)(_:∀H',Same H H'->Q (.bl (isL ks w h d)) H')
inductive spBehind(vs:QA V)(H:Hp)(Q:VK)(E_:XK):Prop
|mk(b x y w h p:Int)(sp a:P6)(dn:Bool)(l r:V)(_:vs=[.int b,.ref sp])(_:H sp= ~~~[.int x,.int y,.int w,.int h,.ref a])(_:(H a=some (.lst [.str (if dn=true then "down" else "across"),.int p,l,r])\/H a=some (.tup [.str (if dn=true then "down" else "across"),.int p,l,r])))(_:∀(u t1 t2:P6)(H':Hp),H u=none->H' u=↥[.ref t1,.ref t2]->H' t1= ~~~(if dn=true then[.int x,.int y,.int p,.int h,l]else[.int x,.int y,.int w,.int p,l])->H' t2= ~~~(if dn=true then[.int (x+(p+b)),.int y,.int (w - p - b),.int h,r]else[.int x,.int (y+(p+b)),.int w,.int (h - p - b),r])->Same H H'->Q (.ref u) H')
theorem scparts2:FnScope ["blade","part","way","p","wide","high"] ["blade","part","way","p"] (defScope fY):=%[Y,Y,Y,∅,Y,∅|∅]
theorem sT{f wa:P6}{fd:F6}(F:Fun K "cut_parts" "cut_parts" fY f fd)(Z:TrC K mg wa):FnOk P w K mg base CX0 1 f fd ["blade","part","way","p"] (spParts2):=by
 exists scparts2
 ·obtain⟨b,w1,h1,p1,t,dn,rfl,_⟩:=h
  rfl
 obtain⟨b,w1,h1,p1,t,dn,rfl,ht,q⟩:=h;have nd:=scparts2.nd;obtain⟨tdn,hdn⟩:=Z.dn;obtain⟨trs,hrs⟩:=Z.rs;obtain⟨tpc,hpc⟩:=Z.pc;obtain⟨tn1,hn1⟩:=Z.n1;obtain⟨tn5,hn5⟩:=Z.n5;obtain⟨tn4,hn4⟩:=Z.n4;refine%[_,((@bq _ _ _ _ _ _ (pv 1) (aU Y (4•(5•aJ))) Y Y Y)<<<((((pv 2)<*>cf<*>(aN (v:=.str "down") Y hdn %[tdn|Y]))<|>((@aD _ _ _ _ _ ((@aD _ _ _ _ _ ((pv 3)^^^((pv 5)^^^ab)))^^^((@aD _ _ _ _ _ ((((pv 4)|||br|||(pv 3))|||br|||(pv 0))^^^((pv 5)^^^ab)))^^^ab)))⁻¹)<|>aF)<<<((@aD _ _ _ _ _ ((@aD _ _ _ _ _ ((pv 4)^^^((pv 3)^^^ab)))^^^((@aD _ _ _ _ _ ((pv 4)^^^((((pv 5)|||br|||(pv 3))|||br|||(pv 0))^^^ab)))^^^ab)))⁻¹)))|?_];dsimp only[bJ];refine%[_,Y,t,_,Y,G0 ht,Y,_,_,Y,_,_,Y,Y|?_];cases dn with
 | true=>
  refine%[_,Y,Y,_,Y|aW ?_];refine%[_,Y,_,Y,zS2|λ t1 h1'=>?_];have sa:Same H (upd H t1 (.tup [.int p1,.int h1])):=F9 h1';have ka:(upd H t1 (.tup [.int p1,.int h1])) t1= ~~~[.int p1,.int h1]:=af;generalize upd H t1 (.tup [.int p1,.int h1])=Ha at sa ka ⊢;refine%[_,Y,_,Y,_,_,Y,Y,_,Y,_,_,Y,Y,_,Y,zS2|λ t2 h2'=>?_];have sb:Same Ha (upd Ha t2 (.tup [.int (w1 - p1 - b),.int h1])):=F9 h2';have kb:(upd Ha t2 (.tup [.int (w1 - p1 - b),.int h1])) t2= ~~~[.int (w1 - p1 - b),.int h1]:=af;generalize upd Ha t2 (.tup [.int (w1 - p1 - b),.int h1])=Hb at sb kb ⊢;refine%[zS2|λ u hu=>?_];have sc:Same Hb (upd Hb u (.tup [.ref t1,.ref t2])):=F9 hu;have kc:(upd Hb u (.tup [.ref t1,.ref t2])) u= ~~~[.ref t1,.ref t2]:=af;generalize upd Hb u (.tup [.ref t1,.ref t2])=Hc at sc kc ⊢;exact q u t1 t2 Hc kc (sc _ _ (sb _ _ ka)) (sc _ _ kb) ((sa.trans sb).trans sc)
 | false=>
  refine%[_,Y,Y,_,Y|aP ?_];refine%[_,Y,_,Y,zS2|λ t1 h1'=>?_];have sa:Same H (upd H t1 (.tup [.int w1,.int p1])):=F9 h1';have ka:(upd H t1 (.tup [.int w1,.int p1])) t1= ~~~[.int w1,.int p1]:=af;generalize upd H t1 (.tup [.int w1,.int p1])=Ha at sa ka ⊢;refine%[_,Y,_,Y,_,Y,_,_,Y,Y,_,Y,_,_,Y,Y,zS2|λ t2 h2'=>?_];have sb:Same Ha (upd Ha t2 (.tup [.int w1,.int (h1 - p1 - b)])):=F9 h2';have kb:(upd Ha t2 (.tup [.int w1,.int (h1 - p1 - b)])) t2= ~~~[.int w1,.int (h1 - p1 - b)]:=af;generalize upd Ha t2 (.tup [.int w1,.int (h1 - p1 - b)])=Hb at sb kb ⊢;refine%[zS2|λ u hu=>?_];have sc:Same Hb (upd Hb u (.tup [.ref t1,.ref t2])):=F9 hu;have kc:(upd Hb u (.tup [.ref t1,.ref t2])) u= ~~~[.ref t1,.ref t2]:=af;generalize upd Hb u (.tup [.ref t1,.ref t2])=Hc at sc kc ⊢;exact q u t1 t2 Hc kc (sc _ _ (sb _ _ ka)) (sc _ _ kb) ((sa.trans sb).trans sc)
theorem jN{d:PyData}{z:Str}{n:Nat}(h:bw d z n=true):∃r,aQ d=some (.str z :: r)/\r.length+1=n:=by
 unfold bw at h
 split at h
 ·rename_i y r e
  rw[K4]at h;have:=C0 h.2;subst this;exact%[r,e|C0 h.1]
 ·cases h
theorem Dt.ref_row{p:P6}{H:Hp}{v:V}{d:PyData}{ds:QA PyData}(h:Dt p H v d)(e:aQ d=some ds):∃a xs,v=.ref a/\(H a=↥xs\/H a= ~~~xs)/\Dts p H xs ds:=by
 cases h <;> simp only[aQ,Option.some.injEq,reduceCtorEq]at e
 ·subst e;exact%[_,_,Y,.inl ‹_›|‹_›]
 ·subst e;exact%[_,_,Y,.inr ‹_›|‹_›]
theorem Dt.intOr{p:P6}{H:Hp}{v:V}{d:PyData}(h:Dt p H v d)(b z:Int):(∃i,d=.int i/\v=.int i)\/(aV v 1=false/\vO b z d=false):=by
 cases h with
 | int i=>exact .inl %[i,Y|Y]
 | _=>exact .inr %[Y|Y]
theorem Dts.ci{p:P6}{H:Hp}{vs:QA V}{d:PyData}{ds:QA PyData}(h:Dts p H vs (d :: ds)):∃x xs,vs=x :: xs/\Dt p H x d/\Dts p H xs ds:=by cases h with | cons a b=>exact%[_,_,Y,a|b]
theorem Dts.ni{p:P6}{H:Hp}{vs:QA V}(h:Dts p H vs []):vs=[]:=by cases h;rfl
theorem Dt.ii{p:P6}{H:Hp}{v:V}{i:Int}(h:Dt p H v (.int i)):v=.int i:=by cases h;rfl
theorem Dt.bi{p:P6}{H:Hp}{v:V}{i:Bool}(h:Dt p H v (.bool i)):v=.bl i:=by cases h;rfl
theorem Dt.si{p:P6}{H:Hp}{v:V}{i:Str}(h:Dt p H v (.str i)):v=.str i:=by cases h;rfl
theorem Dt.rest1{p:P6}{H:Hp}{v:V}{d:PyData}(h:Dt p H v d)(e:aQ d=some [.str "rest"]):∃a,v=.ref a/\(H a=some (.lst [.str "rest"])\/H a=some (.tup [.str "rest"])):=by obtain⟨a,xs,e,hx,r⟩:=h.ref_row e;obtain⟨x,xs,rfl,h0,r⟩:=r.ci;rw[h0.si,r.ni]at hx;exact%[a,e|hx]
theorem Dt.piece1{p:P6}{H:Hp}{v:V}{d:PyData}{i x y:Int}{c:Bool}(h:Dt p H v d)(e:aQ d=some [.str "piece",.int i,.bool c,.int x,.int y]):∃a,v=.ref a/\(H a=some (.lst [.str "piece",.int i,.bl c,.int x,.int y])\/H a=some (.tup [.str "piece",.int i,.bl c,.int x,.int y])):=by obtain⟨a,xs,e,hx,r⟩:=h.ref_row e;obtain⟨_,xs,rfl,h0,r⟩:=r.ci;obtain⟨_,xs,rfl,h1,r⟩:=r.ci;obtain⟨_,xs,rfl,h2,r⟩:=r.ci;obtain⟨_,xs,rfl,h3,r⟩:=r.ci;obtain⟨_,xs,rfl,h4,r⟩:=r.ci;rw[h0.si,h1.ii,h2.bi,h3.ii,h4.ii,r.ni]at hx;exact%[a,e|hx]
theorem Dt.cut1{p:P6}{H:Hp}{v:V}{d dl dr:PyData}{s:Str}{i:Int}(h:Dt p H v d)(e:aQ d=some [.str s,.int i,dl,dr]):∃a l r,v=.ref a/\(H a=↥[.str s,.int i,l,r]\/H a= ~~~[.str s,.int i,l,r])/\Dt p H l dl/\Dt p H r dr:=by obtain⟨a,xs,e,hx,r⟩:=h.ref_row e;obtain⟨_,xs,rfl,h0,r⟩:=r.ci;obtain⟨_,xs,rfl,h1,r⟩:=r.ci;obtain⟨_,xs,rfl,h2,r⟩:=r.ci;obtain⟨_,xs,rfl,h3,r⟩:=r.ci;rw[h0.si,h1.ii,r.ni]at hx;exact%[a,_,_,e,hx,h2|h3]
theorem ixR{H H1:Hp}{a:P6}{xs:QA V}(s1:Same H H1)(hx:H a=↥xs\/H a= ~~~xs){i:Int}{x:V}(e:atI xs i=some x){Q':VK}(h:Q' x H1):rIx K (.ref a) (.int i) H1 Q' :=
 hx.elim (λ z=>.inl %[a,_,i,x,Y,Y,G1 (s1 _ _ z),e|h]) (λ z=>.inr (.inl %[a,_,i,x,Y,Y,G0 (s1 _ _ z),e|h]))
theorem sccut:FnScope ["blade","spot","tree","way","side"] ["blade","spot"] (defScope lR):=%[Y,Y,Y,∅,Y,∅|∅]
theorem Ay{f wa:P6}{fd:F6}(F:Fun K "is_cut" "is_cut" lR f fd)(Z:TrC K mg wa)(DB:Dn P w K mg base "begins_with" ["thing","word","many"] 2 spBegins)(DW:Dn P w K mg base "is_whole" ["thing","least"] 1 (cT K)):FnOk P w K mg base CX0 3 f fd ["blade","spot"] (spCut):=by
 exists sccut
 ·obtain⟨pp,b,x1,y1,w1,h1,sp,v,d,rfl,_⟩:=h
  rfl
 refine cV λ G9 k9=>?_;obtain⟨pp,b,x0',y0',w1,h1,sp,v,d,rfl,hsp,hd,q⟩:=h;refine k9 ?_;have nd:=sccut.nd;obtain⟨tdn,hdn⟩:=Z.dn;obtain⟨trs,hrs⟩:=Z.rs;obtain⟨tpc,hpc⟩:=Z.pc;obtain⟨tn1,hn1⟩:=Z.n1;obtain⟨tn5,hn5⟩:=Z.n5;obtain⟨tn4,hn4⟩:=Z.n4;have hr1:=hr.mono (show 1<=2 by decide);refine%[_,((2∣((pv 1)&&&ix_tup&&&ae))<<<((@cG _ _ _ _ _ _ _ _ E2 Y (fj (aN (v:=.ref wa) Y Z.wy Y)) (ai (i:=3) nd Y (Or.inl Y)) (@ag _ _ _ ((@aT _ _ _ (DB∪((pv 2)^^^((pv 3)^^^((aN (v:=.int 4) Y hn4 %[tn4|Y])^^^ab)))) (by intro _;rfl))<|>((4∣(gJ ((pv 3)<*>cf<*>(aN (v:=.str "down") Y hdn ⟨tdn,Y⟩)) ((pv 1)&&&ix_tup&&&ae) ((pv 1)&&&ix_tup&&&ae)))<<<((dq (@aq _ _ _ _ _ _ _ _ _ _ DW hr1 Y (((pv 2)&&&bc&&&ae)^^^(ae^^^ab)) ∅ Y Y) (fi (@cq _ _ _ _ _ _ _ _ mF (((pv 2)&&&bc&&&ae)|||aM|||(pv 0)) (pv 4) (aE _))))⁻¹))<|>aF)) (by intro _;rfl))<<<(cD⁻¹)))|?_];dsimp only[bJ];refine%[_,Y,sp,_,4,_,Y,Y,G0 hsp,Y|?_];refine%[wa,Y,%[_|Z.wq H]|ja (xs:=[.str "down",.str "across"]) (λ i σ H'=>(∃v3 v4,σ=[⇑b,↑sp,some v,v3,v4])/\Same H H'/\(1<=i->bw d "down" 4=false)/\(2<=i->bw d "across" 4=false)) %[%[_,_|Y],Same.refl _,λ z=>absurd z ∅|λ z=>absurd z ∅] (λ i σ H' _ _=>Z.wq H') ?_ ?_]
 ·rintro i y σ H1 hi ⟨⟨v3,v4,rfl⟩,s1,g1,g2⟩
  match i,hi with
  | 0,hi=>
   cases hi;refine%[_,Y,_,Y,pp,v,d,"down",4,Y,∅,hd.same s1|λ H2 s12=>%[_,Y|?_]];have s2:=s1.trans s12;refine dv (λ hb=>?_) (λ hb=>%[%[_,_|Y],s2,λ _=>by simpa using hb|λ z=>absurd z ∅]);obtain⟨r0,er,rl⟩:=jN hb;obtain⟨a,xs,rfl,hx,dx⟩:=hd.ref_row er;obtain⟨x0,xs0,rfl,hd0,dx⟩:=dx.ci;obtain⟨x1,x2,x3,d1,d2,d3,rfl,rfl,hd1,hd2,hd3⟩:=dx.three (by simpa using rl);have sp2:=s2 _ _ hsp;have co:gx b w1 d=vO b w1 d1:=by unfold gx;rw[er]
   refine%[_,Y,Y,_,Y|aW %[_,Y,sp,_,2,_,Y,Y,G0 sp2,Y|?_]];have at1:atI [x0,x1,x2,x3] 1=some x1:=aH ∅ rfl;obtain⟨T1,t1⟩:=(hd1.same s2).ty (K:=K);refine%[_,Y|ixR s2 hx at1 %[x1,T1,1,Y,t1,_,Y|?_]];have q1:=q H2 s2;unfold isC at q1;rw[QI hb,co]at q1;rcases hd1.intOr b w1 with⟨p,rfl,rfl⟩ | hn
   ·have q1:Q (.bl (decide (1<=p) && decide (p+b < w1))) H2:=q1;refine dv (λ cc=>?_) (λ cc=>?_)
    ·have cc:decide (1<=p)=true:=cc;refine%[_,Y|ixR s2 hx at1 %[_,Y,_,_,Y,Y,_,Y,_,_,Y,Y|?_]];rw[cc,M4]at q1;exact q1
    ·have cc:¬ decide (1<=p)=true:=cc;rw[show decide (1<=p)=false by simpa using cc,N3]at q1;exact q1
   ·rw[hn.1];rw[hn.2]at q1;exact aP q1
  | 1,hi=>
   cases hi;have hb0:=g1 ∅;refine%[_,Y,_,Y,pp,v,d,"across",4,Y,∅,hd.same s1|λ H2 s12=>%[_,Y|?_]];have s2:=s1.trans s12;refine dv (λ hb=>?_) (λ hb=>%[%[_,_|Y],s2,λ _=>hb0|λ _=>by simpa using hb]);obtain⟨r0,er,rl⟩:=jN hb;obtain⟨a,xs,rfl,hx,dx⟩:=hd.ref_row er;obtain⟨x0,xs0,rfl,hd0,dx⟩:=dx.ci;obtain⟨x1,x2,x3,d1,d2,d3,rfl,rfl,hd1,hd2,hd3⟩:=dx.three (by simpa using rl);have sp2:=s2 _ _ hsp;have co:gx b h1 d=vO b h1 d1:=by unfold gx;rw[er]
   refine%[_,Y,Y,_,Y|aP %[_,Y,sp,_,3,_,Y,Y,G0 sp2,Y|?_]];have at1:atI [x0,x1,x2,x3] 1=some x1:=aH ∅ rfl;obtain⟨T1,t1⟩:=(hd1.same s2).ty (K:=K);refine%[_,Y|ixR s2 hx at1 %[x1,T1,1,Y,t1,_,Y|?_]];have q1:=q H2 s2;unfold isC at q1;rw[QH (by rw[hb0];decide),QI hb,co]at q1;rcases hd1.intOr b h1 with⟨p,rfl,rfl⟩ | hn
   ·have q1:Q (.bl (decide (1<=p) && decide (p+b < h1))) H2:=q1;refine dv (λ cc=>?_) (λ cc=>?_)
    ·have cc:decide (1<=p)=true:=cc;refine%[_,Y|ixR s2 hx at1 %[_,Y,_,_,Y,Y,_,Y,_,_,Y,Y|?_]];rw[cc,M4]at q1;exact q1
    ·have cc:¬ decide (1<=p)=true:=cc;rw[show decide (1<=p)=false by simpa using cc,N3]at q1;exact q1
   ·rw[hn.1];rw[hn.2]at q1;exact aP q1
 ·rintro σ H1 ⟨⟨v3,v4,rfl⟩,s1,g1,g2⟩;have q1:=q H1 s1;unfold isC at q1;rw[QH (by rw[g1 ∅];decide),QH (by rw[g2 ∅];decide)]at q1;exact q1
theorem bI{C:P6}{H H':Hp}{s:P6}{b:Int}{ks:QA Kd}(k:Same H H')(S:ShopAt C H s b ks):ShopAt C H' s b ks:=S.keep (λ c o e=>k _ _ e) (λ c C' d fs e=>k _ _ e)
theorem scleaf:FnScope ["shop","spot","x","y","wide","high","tree"] ["shop","spot"] (defScope jh):=%[Y,Y,Y,∅,Y,∅|∅]
theorem yu{f wa C:P6}{fd:F6}(F:Fun K "is_leaf" "is_leaf" jh f fd)(Z:TrC K mg wa)(DB:Dn P w K mg base "begins_with" ["thing","word","many"] 2 spBegins)(DL:Dn P w K mg base "lies_in" ["shop","wide","high","kind","turned","x","y"] 4 (spLiesG K C)):FnOk P w K mg base CX0 5 f fd ["shop","spot"] (spLeaf C):=by
 exists scleaf
 ·refine cV λ G9 k9=>?_;obtain⟨pp,b',x1,y1,w1,h1,s,sp,ks,v,d,rfl,_⟩:=h;refine k9 ?_
  rfl
 refine cV λ G9 k9=>?_;obtain⟨pp,b',x0',y0',w1,h1,s,sp,ks,v,d,rfl,S,hsp,hd,q⟩:=h;refine k9 ?_;have nd:=scleaf.nd;obtain⟨tdn,hdn⟩:=Z.dn;obtain⟨trs,hrs⟩:=Z.rs;obtain⟨tpc,hpc⟩:=Z.pc;obtain⟨tn1,hn1⟩:=Z.n1;obtain⟨tn5,hn5⟩:=Z.n5;obtain⟨tn4,hn4⟩:=Z.n4;have hr2:=hr.mono (show 2<=4 by decide);refine%[_,((@bq _ _ _ _ _ _ (pv 1) (aU Y (2•(3•(4•(5•(6•aJ)))))) Y Y Y)<<<(((@aT _ _ _ (@aq _ _ _ _ _ _ _ _ _ _ DB hr2 Y ((pv 6)^^^((aN (v:=.str "piece") Y hpc %[tpc|Y])^^^((aN (v:=.int 5) Y hn5 %[tn5|Y])^^^ab))) ∅ Y Y) (by intro _;rfl))<|>((DL∪((pv 0)^^^((pv 4)^^^((pv 5)^^^(((pv 6)&&&bc&&&ae)^^^(((pv 6)&&&bc&&&ae)^^^(((pv 6)&&&bc&&&ae)^^^(((pv 6)&&&bc&&&ae)^^^ab))))))))⁻¹)<|>aF)<<<((@aq _ _ _ _ _ _ _ _ _ _ DB hr2 Y ((pv 6)^^^((aN (v:=.str "rest") Y hrs ⟨trs,Y⟩)^^^((aN (v:=.int 1) Y hn1 ⟨tn1,Y⟩)^^^ab))) ∅ Y Y)⁻¹)))|?_];dsimp only[bJ];refine%[_,Y,sp,_,Y,G0 hsp,Y,_,_,Y,_,_,Y,_,_,Y,_,_,Y,_,_,Y,Y|?_];refine%[_,Y,pp,v,d,"piece",5,Y,∅,hd|λ H1 s1=>%[_,Y|?_]];refine dv (λ hb=>?_) (λ hb=>?_)
 ·obtain⟨r0,er,rl⟩:=jN hb;obtain⟨a,xs,rfl,hx,dx⟩:=hd.ref_row er;refine cV λ G9 k9=>?_;obtain⟨x0,xs0,rfl,hd0,dx⟩:=dx.ci;obtain⟨x1,x2,x3,x4,d1,d2,d3,d4,rfl,rfl,hd1,hd2,hd3,hd4⟩:=dx.four (by simpa using rl);refine k9 ?_;have a1:atI [x0,x1,x2,x3,x4] 1=some x1:=aH ∅ rfl;have a2:atI [x0,x1,x2,x3,x4] 2=some x2:=aH ∅ rfl;have a3:atI [x0,x1,x2,x3,x4] 3=some x3:=aH ∅ rfl;have a4:atI [x0,x1,x2,x3,x4] 4=some x4:=aH ∅ rfl;obtain⟨T1,t1⟩:=(hd1.same s1).ty (K:=K);obtain⟨T2,t2⟩:=(hd2.same s1).ty (K:=K);obtain⟨T3,t3⟩:=(hd3.same s1).ty (K:=K);obtain⟨T4,t4⟩:=(hd4.same s1).ty (K:=K);refine%[_,Y,_,Y,_,Y,_,Y|ixR s1 hx a1 %[_,Y|ixR s1 hx a2 %[_,Y|ixR s1 hx a3 %[_,Y|ixR s1 hx a4 ?_]]]];refine%[s,b',ks,w1,h1,x1,x2,x3,x4,T1,T2,T3,T4,Y,bI s1 S,t1,t2,t3,t4|λ H2 s2=>?_];have q1:=q H2 (s1.trans s2);unfold isL at q1;rw[QI hb,er]at q1;have e:nh ks w1 h1 d1 d2 d3 d4=gG ks w1 h1 x1 x2 x3 x4:=by
   cases hd1 with
   | int i=>cases hd2 with
    | bl c=>cases hd3 with
     | int x=>cases hd4 with
      | int y=>rfl
      | _=>simp[nh,gG,aV]
     | _=>simp[nh,gG,aV]
    | _=>simp[nh,gG,gp]
   | _=>simp[nh,gG,gp]
  have q1:Q (.bl (nh ks w1 h1 d1 d2 d3 d4)) H2:=q1;rw[e]at q1;exact q1
 ·refine%[_,Y,pp,v,d,"rest",1,Y,∅,hd.same s1|λ H2 s2=>?_];have q1:=q H2 (s1.trans s2);unfold isL at q1;rw[QH hb]at q1;exact q1
theorem scbehind:FnScope ["blade","spot","x","y","wide","high","tree","way","p","first","second","wide_ahead","high_ahead","wide_behind","high_behind","step","far_x","far_y"] ["blade","spot"] (defScope df):=%[Y,Y,Y,∅,Y,∅|∅]
theorem sU{f wa:P6}{fd:F6}(F:Fun K "spots_behind" "spots_behind" df f fd)(Z:TrC K mg wa)(DP:Dn P w K mg base "cut_parts" ["blade","part","way","p"] 1 spParts2):FnOk P w K mg base CX0 2 f fd ["blade","spot"] (spBehind):=by
 exists scbehind
 ·refine cV λ G9 k9=>?_;obtain⟨b,x1,y1,w1,h1,p1,sp,a,dn,l,r,rfl,_⟩:=h;refine k9 ?_
  rfl
 refine cV λ G9 k9=>?_;obtain⟨b,x1,y1,w1,h1,p1,sp,a,dn,l,r,rfl,hsp,ha,q⟩:=h;refine k9 ?_;have nd:=scbehind.nd;obtain⟨tdn,hdn⟩:=Z.dn;obtain⟨trs,hrs⟩:=Z.rs;obtain⟨tpc,hpc⟩:=Z.pc;obtain⟨tn1,hn1⟩:=Z.n1;obtain⟨tn5,hn5⟩:=Z.n5;obtain⟨tn4,hn4⟩:=Z.n4;refine%[_,((@bq _ _ _ _ _ _ (pv 1) (aU Y (2•(3•(4•(5•(6•aJ)))))) Y Y Y)<<<((@bq _ _ _ _ _ _ (pv 6) (jD Y (7•(8•(9•(10•aJ))))) Y Y Y)<<<((@bq _ _ _ _ _ _ (DP∪((pv 0)^^^((@aD _ _ _ _ _ ((pv 4)^^^((pv 5)^^^ab)))^^^((pv 7)^^^((pv 8)^^^ab))))) (aU Y (ah (aU Y (11•(12•aJ))) (ah (aU Y (13•(14•aJ))) aJ))) Y Y Y)<<<((15∣((pv 8)|||aM|||(pv 0)))<<<((@bq _ _ _ _ _ _ (gJ ((pv 7)<*>cf<*>(aN (v:=.str "down") Y hdn %[tdn|Y])) (@aD _ _ _ _ _ (((pv 2)|||aM|||(pv 15))^^^((pv 3)^^^ab))) (@aD _ _ _ _ _ ((pv 2)^^^(((pv 3)|||aM|||(pv 15))^^^ab)))) (aU Y (16•(17•aJ))) Y Y Y)<<<((@bu _ _ _ _ ((@aD _ _ _ _ _ ((pv 2)^^^((pv 3)^^^((pv 11)^^^((pv 12)^^^((pv 9)^^^ab))))))^^^((@aD _ _ _ _ _ ((pv 16)^^^((pv 17)^^^((pv 13)^^^((pv 14)^^^((pv 10)^^^ab))))))^^^ab)))⁻¹))))))|?_];dsimp only[bJ];refine%[_,Y,sp,_,Y,G0 hsp,Y,_,_,Y,_,_,Y,_,_,Y,_,_,Y,_,_,Y,Y|?_];have sq:SqL K H a [.str (if dn=true then "down" else "across"),.int p1,l,r]\/SqT K H a [.str (if dn=true then "down" else "across"),.int p1,l,r]:=ha.imp (λ z=>G1 z) λ z=>G0 z;refine%[_,Y,a,_,Y,sq,Y,_,_,Y,_,_,Y,_,_,Y,_,_,Y,Y|?_];clear sq;cases dn with
 | true=>
  refine%[_,Y,_,Y,_,Y,zS2|λ tp htp=>?_];have sa:Same H (upd H tp (.tup [.int w1,.int h1])):=F9 htp;have ka:(upd H tp (.tup [.int w1,.int h1])) tp= ~~~[.int w1,.int h1]:=af;generalize upd H tp (.tup [.int w1,.int h1])=Ha at sa ka ⊢;refine%[_,Y,_,Y,b,w1,h1,p1,tp,true,Y,ka|λ u t1 t2 Hb ku k1 k2 sb=>?_];refine%[u,_,Y,G0 ku,Y,_,_,Y,t1,_,Y,G0 k1,Y,_,_,Y,_,_,Y,Y,_,_,Y,t2,_,Y,G0 k2,Y,_,_,Y,_,_,Y,Y,Y|?_];refine cg (λ σ' H'=>σ'=[⇑b,↑sp,⇑x1,⇑y1,⇑w1,⇑h1,↑a,some (.str "down"),⇑p1,some l,some r,⇑p1,⇑h1,⇑(w1 - p1 - b),⇑h1,none,none,none]/\Hb=H') (λ R hR=>hR _ _ %[rfl|rfl]) ?_;rintro _ _ ⟨rfl,rfl⟩;refine%[_,Y,_,Y,_,_,Y,Y|?_];refine%[_,Y,Y,_,Y|aW %[_,Y,_,Y,_,_,Y,Y,_,Y,zS2|λ tf hf=>?_]];have sd:Same Hb (upd Hb tf (.tup [.int (x1+(p1+b)),.int y1])):=F9 hf;have kd:(upd Hb tf (.tup [.int (x1+(p1+b)),.int y1])) tf= ~~~[.int (x1+(p1+b)),.int y1]:=af;generalize upd Hb tf (.tup [.int (x1+(p1+b)),.int y1])=Hd at sd kd ⊢;refine%[tf,_,Y,G0 kd,Y,_,_,Y,_,_,Y,Y|?_];refine%[_,Y,_,Y,_,Y,_,Y,_,Y,zS5|λ g1 hg1=>?_];have se:Same Hd (upd Hd g1 (.tup [.int x1,.int y1,.int p1,.int h1,l])):=F9 hg1;have ke:(upd Hd g1 (.tup [.int x1,.int y1,.int p1,.int h1,l])) g1= ~~~[.int x1,.int y1,.int p1,.int h1,l]:=af;generalize upd Hd g1 (.tup [.int x1,.int y1,.int p1,.int h1,l])=He at se ke ⊢;refine%[_,Y,_,Y,_,Y,_,Y,_,Y,zS5|λ g2 hg2=>?_];have sf:Same He (upd He g2 (.tup [.int (x1+(p1+b)),.int y1,.int (w1 - p1 - b),.int h1,r])):=F9 hg2;have kf:(upd He g2 (.tup [.int (x1+(p1+b)),.int y1,.int (w1 - p1 - b),.int h1,r])) g2= ~~~[.int (x1+(p1+b)),.int y1,.int (w1 - p1 - b),.int h1,r]:=af;generalize upd He g2 (.tup [.int (x1+(p1+b)),.int y1,.int (w1 - p1 - b),.int h1,r])=Hf at sf kf ⊢;refine%[zS2|λ lu hlu=>?_];have sg:Same Hf (upd Hf lu (.lst [.ref g1,.ref g2])):=F9 hlu;have kg:(upd Hf lu (.lst [.ref g1,.ref g2])) lu=↥[.ref g1,.ref g2]:=af;generalize upd Hf lu (.lst [.ref g1,.ref g2])=Hg at sg kg ⊢;have sA:=((((sa.trans sb).trans sd).trans se).trans sf)
  exact q lu g1 g2 Hg (sA.free hlu) kg (sg _ _ (sf _ _ ke)) (sg _ _ kf) (sA.trans sg)
 | false=>
  refine%[_,Y,_,Y,_,Y,zS2|λ tp htp=>?_];have sa:Same H (upd H tp (.tup [.int w1,.int h1])):=F9 htp;have ka:(upd H tp (.tup [.int w1,.int h1])) tp= ~~~[.int w1,.int h1]:=af;generalize upd H tp (.tup [.int w1,.int h1])=Ha at sa ka ⊢;refine%[_,Y,_,Y,b,w1,h1,p1,tp,false,Y,ka|λ u t1 t2 Hb ku k1 k2 sb=>?_];refine%[u,_,Y,G0 ku,Y,_,_,Y,t1,_,Y,G0 k1,Y,_,_,Y,_,_,Y,Y,_,_,Y,t2,_,Y,G0 k2,Y,_,_,Y,_,_,Y,Y,Y|?_];refine cg (λ σ' H'=>σ'=[⇑b,↑sp,⇑x1,⇑y1,⇑w1,⇑h1,↑a,some (.str "across"),⇑p1,some l,some r,⇑w1,⇑p1,⇑w1,⇑(h1 - p1 - b),none,none,none]/\Hb=H') (λ R hR=>hR _ _ %[rfl|rfl]) ?_;rintro _ _ ⟨rfl,rfl⟩;refine%[_,Y,_,Y,_,_,Y,Y|?_];refine%[_,Y,Y,_,Y|aP %[_,Y,_,Y,_,Y,_,_,Y,Y,zS2|λ tf hf=>?_]];have sd:Same Hb (upd Hb tf (.tup [.int x1,.int (y1+(p1+b))])):=F9 hf;have kd:(upd Hb tf (.tup [.int x1,.int (y1+(p1+b))])) tf= ~~~[.int x1,.int (y1+(p1+b))]:=af;generalize upd Hb tf (.tup [.int x1,.int (y1+(p1+b))])=Hd at sd kd ⊢;refine%[tf,_,Y,G0 kd,Y,_,_,Y,_,_,Y,Y|?_];refine%[_,Y,_,Y,_,Y,_,Y,_,Y,zS5|λ g1 hg1=>?_];have se:Same Hd (upd Hd g1 (.tup [.int x1,.int y1,.int w1,.int p1,l])):=F9 hg1;have ke:(upd Hd g1 (.tup [.int x1,.int y1,.int w1,.int p1,l])) g1= ~~~[.int x1,.int y1,.int w1,.int p1,l]:=af;generalize upd Hd g1 (.tup [.int x1,.int y1,.int w1,.int p1,l])=He at se ke ⊢;refine%[_,Y,_,Y,_,Y,_,Y,_,Y,zS5|λ g2 hg2=>?_];have sf:Same He (upd He g2 (.tup [.int x1,.int (y1+(p1+b)),.int w1,.int (h1 - p1 - b),r])):=F9 hg2;have kf:(upd He g2 (.tup [.int x1,.int (y1+(p1+b)),.int w1,.int (h1 - p1 - b),r])) g2= ~~~[.int x1,.int (y1+(p1+b)),.int w1,.int (h1 - p1 - b),r]:=af;generalize upd He g2 (.tup [.int x1,.int (y1+(p1+b)),.int w1,.int (h1 - p1 - b),r])=Hf at sf kf ⊢;refine%[zS2|λ lu hlu=>?_];have sg:Same Hf (upd Hf lu (.lst [.ref g1,.ref g2])):=F9 hlu;have kg:(upd Hf lu (.lst [.ref g1,.ref g2])) lu=↥[.ref g1,.ref g2]:=af;generalize upd Hf lu (.lst [.ref g1,.ref g2])=Hg at sg kg ⊢;have sA:=((((sa.trans sb).trans sd).trans se).trans sf)
  exact q lu g1 g2 Hg (sA.free hlu) kg (sg _ _ (sf _ _ ke)) (sg _ _ kf) (sA.trans sg)
def isT(b:Int)(ks:QA Kd)(w h:Int)(d:PyData):Bool :=
 if isC b w h d=true then
  match e:aQ d with
  | some [_,.int p,l,r]=>if bw d "down" 4=true then isT b ks p h l && isT b ks (w - p - b) h r else isT b ks w p l && isT b ks w (h - p - b) r
  | _=>false
 else isL ks w h d
termination_by sizeOf d
decreasing_by all_goals (apply vM e;simp)
theorem dB{b:Int}{ks:QA Kd}{w h:Int}{d:PyData}(hc:isC b w h d=false):isT b ks w h d=isL ks w h d:=by rw[isT,QH (by rw[hc];decide)]
theorem jn{b:Int}{ks:QA Kd}{w h:Int}{d:PyData}(hc:isC b w h d=true):∃(dn:Bool)(p:Int)(l r:PyData),aQ d=some [.str (if dn=true then "down" else "across"),.int p,l,r]/\1<=p/\(dn=true->p+b < w)/\(dn=false->p+b < h) /\
  isT b ks w h d=(if dn=true then isT b ks p h l && isT b ks (w - p - b) h r else isT b ks w p l && isT b ks w (h - p - b) r):=by
 have key:∀side,gx b side d=true->∃x p l r,aQ d=some [x,.int p,l,r]/\1<=p/\p+b < side:=λ side h=>by
  unfold gx at h
  split at h
  ·rename_i x p l r e
   unfold vO at h
   split at h
   ·rename_i p'
    rw[K4]at h;exact%[x,p',l,r,e,C0 h.1|C0 h.2]
   ·cases h
  ·cases h
 have hc':=hc;unfold isC at hc
 by_cases hb:bw d "down" 4=true
 ·rw[QI hb]at hc;obtain⟨x,p,l,r,e,p1,p2⟩:=key _ hc;obtain⟨r',e',_⟩:=jN hb;rw[e]at e';cases e';refine⟨true,p,l,r,e,p1,λ _=>p2,λ z=>(by cases z),?_⟩;rw[isT,QI hc']
  split
  ·rename_i y p' l' r' e2
   rw[e]at e2;cases e2;rw[QI hb];rfl
  ·rename_i z
   exact absurd e (z _ _ _ _)
 ·rw[QH hb]at hc
  by_cases hb2:bw d "across" 4=true
  ·rw[QI hb2]at hc;obtain⟨x,p,l,r,e,p1,p2⟩:=key _ hc;obtain⟨r',e',_⟩:=jN hb2;rw[e]at e';cases e';refine⟨false,p,l,r,e,p1,λ z=>(by cases z),λ _=>p2,?_⟩;rw[isT,QI hc']
   split
   ·rename_i y p' l' r' e2
    rw[e]at e2;cases e2;rw[QH hb];rfl
   ·rename_i z
    exact absurd e (z _ _ _ _)
  ·rw[QH hb2]at hc;cases hc
structure Spot where
 x:Int
 y:Int
 w:Int
 h:Int
 d:PyData
def SpAt(p:P6)(H0 H:Hp)(v:V)(t:Spot):Prop:=∃a u,v=.ref a/\H a= ~~~[.int t.x,.int t.y,.int t.w,.int t.h,u]/\Dt p H0 u t.d
theorem SpAt.keep{p:P6}{H0 H H':Hp}(k:∀a xs,H a= ~~~xs->H' a= ~~~xs){v:V}{t:Spot}(h:SpAt p H0 H v t):SpAt p H0 H' v t:=by obtain⟨a,u,e,h1,h2⟩:=h;exact%[a,u,e,k _ _ h1|h2]
def iE(ts:QA Spot):Nat:=(ts.map λ t=>wt t.d).sum
theorem fJ(a b:QA Spot):iE (a ++ b)=iE a+iE b:=by unfold iE;rw[I9,M7]
theorem nj:∀ts:QA Spot,ts.length<=iE ts
 | []=>B3 _
 | t :: r=>by have:=nj r;have:=zR t.d;show r.length+1<=wt t.d+iE r;lia
theorem sV{d x y l r:PyData}(h:aQ d=some [x,y,l,r]):wt l+wt r < wt d:=by
 cases d <;> simp only[aQ,Option.some.injEq,reduceCtorEq]at h
 ·subst h;simp only[wt,wts];lia
 ·subst h;simp only[wt,wts];lia
theorem rf{α β:Type}{R:α->β->Prop}{x:α}:∀{xs:QA α}{zs:QA β},Paired R (xs ++ [x]) zs->∃ys y,zs=ys ++ [y]/\Paired R xs ys/\R x y
 | [],zs,h=>by
  cases h with
  | cons a t=>cases t;exact%[[],_,Y,.nil|a]
 | z :: xs,zs,h=>by
  cases h with
  | cons a t=>
   obtain⟨ys,y,rfl,p,r⟩:=rf t;exact%[_ :: ys,y,Y,.cons a p|r]
theorem wlP{α β:Type}{R:α->β->Prop}{vs:QA α}{ts:QA β}(pr:Paired R vs ts):(vs=[]/\ts=[])\/∃vs' ts' v0 t0,vs=vs' ++ [v0]/\ts=ts' ++ [t0]/\Paired R vs' ts'/\R v0 t0:=by
 rcases List.eq_nil_or_concat vs with rfl | ⟨vs',v0,rfl⟩
 ·cases pr;exact .inl %[Y|Y]
 ·rw[List.concat_eq_append]at pr ⊢;obtain⟨ts',t0,e,h1,h2⟩:=rf pr;exact .inr %[vs',ts',v0,t0,Y,e,h1|h2]
theorem eZ{α β:Type}{R:α->β->Prop}:∀{xs:QA α}{ys:QA β}{xs':QA α}{ys':QA β},Paired R xs ys->Paired R xs' ys'->Paired R (xs ++ xs') (ys ++ ys')
 | _,_,_,_,.nil,h=>h
 | _,_,_,_,.cons a t,h=>.cons a (eZ t h)
inductive spCP(vs:QA V)(H:Hp)(Q:VK)(E_:XK):Prop
|mk(w h:Int)(_:vs=[.int w,.int h])(_:1<=w)(_:1<=h)(_:Q .non H)
inductive spIsTree(C:P6)(vs:QA V)(H:Hp)(Q:VK)(E_:XK):Prop
|mk(pp s:P6)(b w h:Int)(ks:QA Kd)(v:V)(d:PyData)(_:vs=[.ref s,.int w,.int h,v])(_:ShopAt C H s b ks)(_:1<=w)(_:1<=h)(_:Dt pp H v d)(_:wt d<=30000)(_:∀H',Same H H'->Q (.bl (isT b ks w h d)) H')
theorem sccplate:FnScope ["wide","high"] ["wide","high"] (defScope dL):=%[Y,Y,Y,∅,Y,∅|∅]
theorem sW{f:P6}{fd:F6}(F:Fun K "check_plate" "check_plate" dL f fd)(DW:Dn P w K mg base "is_whole" ["thing","least"] 1 (cT K)):FnOk P w K mg base CX0 2 f fd ["wide","high"] (spCP):=by
 exists sccplate
 ·obtain⟨w1,h1,rfl,_⟩:=h
  rfl
 obtain⟨w1,h1,rfl,w0,h0,q⟩:=h;have nd:=sccplate.nd;refine%[_,(@ag _ _ _ ((PW.pt (bS (@bj _ _ _ _ (@aT _ _ _ (DW∪((pv 0)^^^(ae^^^ab))) (by intro _;rfl))) (bR (@bj _ _ _ _ (@aT _ _ _ (DW∪((pv 1)^^^(ae^^^ab))) (by intro _;rfl))))))<|>(@ag _ _ _ cF)<|>aF))|?_];refine%[_,Y,.int w1,"int",1,Y,Ty.int,_,Y|?_];rw[show aV (.int w1) 1=true from QG w0];refine aP %[_,rfl,.int h1,"int",1,rfl,Ty.int,_,rfl|?_];rw[show aV (.int h1) 1=true from QG h0];exact aP q
theorem scistree:FnScope ["shop","wide","high","thing","blade","waiting","spot"] ["shop","wide","high","thing"] (defScope jj):=%[Y,Y,Y,∅,Y,∅|∅]
theorem sX{f C:P6}{fd:F6}(F:Fun K "is_tree" "is_tree" jj f fd)(T:ShopTxt K C)(MB:Mn P w K mg base C "blade" ["self"] 1 (eH C))(DCP:Dn P w K mg base "check_plate" ["wide","high"] 2 (spCP))(DC:Dn P w K mg base "is_cut" ["blade","spot"] 3 (spCut))(DF:Dn P w K mg base "is_leaf" ["shop","spot"] 5 (spLeaf C))(DS:Dn P w K mg base "spots_behind" ["blade","spot"] 2 (spBehind)):FnOk P w K mg base CX0 6 f fd ["shop","wide","high","thing"] (spIsTree C):=by
 exists scistree
 ·obtain⟨pp,s,b,w1,h1,ks,v,d,rfl,_⟩:=h
  rfl
 obtain⟨pp,s,b,w1,h1,ks,v,d,rfl,S,w0,h0,hd,dz,q⟩:=h;have nd:=scistree.nd;have hr1:=hr.mono (show 1<=5 by decide);have hr2:=hr.mono (show 2<=5 by decide);have hr3:=hr.mono (show 3<=5 by decide);refine%[_,((@aO _ _ _ _ (@aq _ _ _ _ _ _ _ _ _ _ DCP hr2 Y ((pv 1)^^^((pv 2)^^^ab)) ∅ Y Y) Y)<<<((4∣(bW (pv 0) T.cl MB hr1))<<<((5∣(@bu _ _ _ _ ((@aD _ _ _ _ _ (ae^^^(ae^^^((pv 1)^^^((pv 2)^^^((pv 3)^^^ab))))))^^^ab)))<<<((gK E2 (ft (pv 5) (λ _=>Y)) ((6∣(jy F3 Qc Qd jz (pv 5)))>>>((@aT _ _ _ (@aq _ _ _ _ _ _ _ _ _ _ DC hr3 Y ((pv 4)^^^((pv 6)^^^ab)) ∅ Y Y) (by intro _;rfl))<|>(@ag _ _ _ (@aO _ _ _ _ (@dG _ _ _ _ _ _ _ _ _ _ _ _ F3 PySem.F.slot_list_extend PySem.F.type_list_extend dX (pv 5) ((@aq _ _ _ _ _ _ _ _ _ _ DS hr2 Y ((pv 4)^^^((pv 6)^^^ab)) ∅ Y Y)^^^ab) Y Y Y Y Y) Y))<|>(@ag _ _ _ ((@bj _ _ _ _ (@aT _ _ _ (DF∪((pv 0)^^^((pv 6)^^^ab))) (by intro _;rfl)))<|>(cD⁻¹)<|>aF)))))<<<(cD⁻¹)))))|?_];dsimp only[bJ];have sz:(40000:Nat)<=sizeLine:=∅
 refine%[_,Y,_,Y,w1,h1,Y,w0,h0|?_];obtain⟨dx,r,rs,S1,S2,S3⟩:=id S;refine%[_,Y,s,dx,_,Y,S1,(bT _ _ ∅ ∅),s,b,ks,Y,S|?_];refine%[_,Y,_,Y,_,Y,zS5|λ t ht=>?_];have sa:Same H (upd H t (.tup [.int 0,.int 0,.int w1,.int h1,v])):=F9 ht;have ka:(upd H t (.tup [.int 0,.int 0,.int w1,.int h1,v])) t= ~~~[.int 0,.int 0,.int w1,.int h1,v]:=af;generalize upd H t (.tup [.int 0,.int 0,.int w1,.int h1,v])=Ha at sa ka ⊢;refine%[zS1|λ wl hwl=>?_];have sb:Same Ha (upd Ha wl (.lst [.ref t])):=F9 hwl;have kb:(upd Ha wl (.lst [.ref t])) wl=↥[.ref t]:=af;generalize upd Ha wl (.lst [.ref t])=Hb at sb kb ⊢;have fw:H wl=none:=sa.free hwl;have sab:=sa.trans sb;refine%[λ m σ H'=>∃(vs:QA V)(ts:QA Spot)(v6:P8 V),σ=[↑s,⇑w1,⇑h1,some v,⇑b,↑wl,v6]/\m=iE ts/\H' wl=↥vs/\Paired (SpAt pp H H') vs ts/\iE ts<=30000/\isT b ks w1 h1 d=ts.all (λ t=>isT b ks t.w t.h t.d)/\Same H H',%[_,[.ref t],[%[0,0,w1,h1|d]],none,Y,Y,kb,.cons %[t,v,Y,sb _ _ ka|hd] .nil,by show wt d+0<=30000;lia,by rw[O9,List.all_nil,K8]|sab]|?_];intro m σ H1 hI9;refine cV λ G9 k9=>?_;obtain⟨vs,ts,v6,e8,e9,hw,pr,sz1,al,s1⟩:=hI9;rcases wlP pr with⟨rfl,rfl⟩ | ⟨vs',ts',v0,t0,rfl,rfl,prp,sp,u,rfl,hsp,hdu⟩
 ·subst e8 e9;refine k9 ?_;refine%[_,Y,_,.inl %[_,G1 hw|Y]|?_];have q1:=q H1 s1;rw[al]at q1;exact aP q1
 subst e8 e9;refine k9 ?_;refine%[_,Y,_,.inl %[_,G1 hw|Y]|?_];rw[show(!(vs' ++ [V.ref sp]).isEmpty)=true by cases vs' <;> rfl];have ssz:iE (ts' ++ [t0])=iE ts'+wt t0.d:=by rw[fJ];show _+(wt t0.d+0)=_;lia
 rw[ssz]at sz1 ⊢;refine aW %[λ σ' H'=>∃(vs:QA V)(ts:QA Spot)(v6:P8 V),σ'=[↑s,⇑w1,⇑h1,some v,⇑b,↑wl,v6]/\iE ts < iE ts'+wt t0.d/\H' wl=↥vs/\Paired (SpAt pp H H') vs ts/\iE ts<=30000/\isT b ks w1 h1 d=ts.all (λ t=>isT b ks t.w t.h t.d)/\Same H H',λ σ' H' ⟨vs,ts,v6,e,l,r⟩=>%[_,l,vs,ts,v6,e,rfl|r]|?_];rw[List.all_append,O9,List.all_nil,K8]at al;have ml:(vs' ++ [V.ref sp]).length=vs'.length+1:=by rw[G6];rfl
 have keep:∀{Hx:Hp}{o:HO},Same H Hx->Same H (upd Hx wl o):=λ {Hx o} sx c oo e=>by rw[ap (λ z=>by rw[z,fw]at e;cases e)];exact sx _ _ e
 refine ao (λ R=>∀(H':Hp),H' wl=↥vs'->Paired (SpAt pp H H') vs' ts'->H' sp= ~~~[.int t0.x,.int t0.y,.int t0.w,.int t0.h,u]->Same H H'->R [↑s,⇑w1,⇑h1,some v,⇑b,↑wl,↑sp] H') (λ Dd hR=>?_) ?_
 ·refine%[_,Y,.inl %[Y,_|G1 hw],wl,_,.ref sp,Y,Y,hw,(by rw[ml];simp)|?_];rw[O1];have kt:∀{c:P6}{xs:QA V},H1 c= ~~~xs->(upd H1 wl (.lst vs')) c= ~~~xs:=λ {c xs} e=>by rw[ap (λ z=>by rw[z,hw]at e;cases e)];exact e
  exact hR _ af (G2 prp λ v t h=>h.keep λ a xs e=>kt e) (kt hsp) (keep s1)
 rintro H2 hw2 pr2 hsp2 s2;refine%[_,Y,_,Y,pp,b,t0.x,t0.y,t0.w,t0.h,sp,u,t0.d,Y,hsp2,hdu.same s2|λ H3 s3=>%[_,Y|?_]];have s03:=s2.trans s3;refine dv (λ hc=>?_) (λ hc=>?_)
 ·refine cV λ G9 k9=>?_;obtain⟨dn,p,l,r,er,p1,pw,ph,eT⟩:=jn (ks:=ks) hc;obtain⟨a,lv,rv,rfl,hx,hdl,hdr⟩:=hdu.cut1 er;refine k9 ?_;refine%[_,Y,.inl %[Y,_|G1 (s3 _ _ hw2)],_,Y,_,Y|?_];refine%[b,t0.x,t0.y,t0.w,t0.h,p,sp,a,dn,lv,rv,Y,s3 _ _ hsp2,hx.imp (s03 _ _) (s03 _ _)|λ lu t1 t2 H4 hlu ku k1 k2 s4=>?_];have hw4:=s4 _ _ (s3 _ _ hw2);have pl:=E1 pr2;have sl:=nj ts';have two:=sV er;refine%[wl,lu,_,_,Y,Y,hw4,ku,by show _+2<=_;lia|?_];have kt:∀{c:P6}{xs:QA V},H4 c= ~~~xs->(upd H4 wl (.lst (vs' ++ [.ref t1,.ref t2]))) c= ~~~xs:=λ {c xs} e=>by rw[ap (λ z=>by rw[z,hw4]at e;cases e)];exact e
  have pr4:Paired (SpAt pp H (upd H4 wl (.lst (vs' ++ [.ref t1,.ref t2])))) vs' ts':=G2 pr2 λ v t h=>h.keep λ a xs e=>kt (s4 _ _ (s3 _ _ e));cases dn with
  | true=>
   have k1:H4 t1= ~~~[.int t0.x,.int t0.y,.int p,.int t0.h,lv]:=k1;have k2:H4 t2= ~~~[.int (t0.x+(p+b)),.int t0.y,.int (t0.w - p - b),.int t0.h,rv]:=k2;refine%[vs' ++ [.ref t1,.ref t2],ts' ++ [%[t0.x,t0.y,p,t0.h|l],%[t0.x+(p+b),t0.y,t0.w - p - b,t0.h|r]],_,Y,?_,af,eZ pr4 (.cons %[t1,lv,Y,kt k1|hdl] (.cons %[t2,rv,Y,kt k2|hdr] .nil)),?_,?_|keep (s03.trans s4)]
   ·rw[fJ];show _+(wt l+(wt r+0)) < _;lia
   ·rw[fJ];show _+(wt l+(wt r+0))<=_;lia
   ·rw[al,eT,List.all_append];simp only[Qa,O9,List.all_nil,K8]
  | false=>
   have k1:H4 t1= ~~~[.int t0.x,.int t0.y,.int t0.w,.int p,lv]:=k1;have k2:H4 t2= ~~~[.int t0.x,.int (t0.y+(p+b)),.int t0.w,.int (t0.h - p - b),rv]:=k2;refine%[vs' ++ [.ref t1,.ref t2],ts' ++ [%[t0.x,t0.y,t0.w,p|l],%[t0.x,t0.y+(p+b),t0.w,t0.h - p - b|r]],_,Y,?_,af,eZ pr4 (.cons %[t1,lv,Y,kt k1|hdl] (.cons %[t2,rv,Y,kt k2|hdr] .nil)),?_,?_|keep (s03.trans s4)]
   ·rw[fJ];show _+(wt l+(wt r+0)) < _;lia
   ·rw[fJ];show _+(wt l+(wt r+0))<=_;lia
   ·rw[al,eT,List.all_append];simp only[J9,QN,O9,List.all_nil,K8]
 ·have hc:isC b t0.w t0.h t0.d=false:=by simpa using hc
  have lf:=dB (ks:=ks) hc;refine%[_,Y,_,Y,pp,b,t0.x,t0.y,t0.w,t0.h,s,sp,ks,u,t0.d,Y,bI s03 S,s3 _ _ hsp2,hdu.same s03|λ H4 s4=>%[_,Y|?_]];have s04:=s03.trans s4;have sp0:=zR t0.d;cases hl:isL ks t0.w t0.h t0.d with
  | true=>
   rw[lf,hl,K8]at al;exact aP %[vs',ts',_,rfl,⋯,s4 _ _ (s3 _ _ hw2),G2 pr2 λ v t h=>h.keep λ a xs e=>s4 _ _ (s3 _ _ e),⋯,al|s04]
  | false=>
   rw[lf,hl,M0]at al;have q1:=q H4 s04;rw[al]at q1;exact aW q1
def cL(k:Kd):QA Bool:=if bm k=true then[false,true]else[false]
inductive Tr where
 | rest
 | piece (i:Nat) (c:Bool) (x y:Int)
 | cut (dn:Bool) (p:Int) (l r:Tr)
def toD:Tr->PyData
 | .rest=>.tuple [.str "rest"]
 | .piece i c x y=>.tuple [.str "piece",.int i,.bool c,.int x,.int y]
 | .cut dn p l r=>.tuple [.str (if dn=true then "down" else "across"),.int p,toD l,toD r]
def lvN:Tr->Nat
 | .cut _ _ l r=>lvN l+lvN r
 | _=>1
theorem yw:∀t:Tr,1<=(toD t).depth
 | .rest=>∅
 | .piece ..=>by show 1<=PyData.depthAll _+1;lia
 | .cut ..=>by show 1<=PyData.depthAll _+1;lia
def TrV(H:Hp):Tr->V->Prop
 | .rest,v=>∃a,v=.ref a/\H a=some (.tup [.str "rest"])
 | .piece i c x y,v=>∃a,v=.ref a/\H a=some (.tup [.str "piece",.int i,.bl c,.int x,.int y])
 | .cut dn p l r,v=>∃a x y,v=.ref a/\H a=some (.tup [.str (if dn=true then "down" else "across"),.int p,x,y])/\TrV H l x/\TrV H r y
theorem TrV.keep{H H':Hp}(k:∀a xs,H a= ~~~xs->H' a= ~~~xs):∀(t:Tr){v:V},TrV H t v->TrV H' t v
 | .rest,_,⟨a,e,h⟩=>%[a,e|k _ _ h]
 | .piece ..,_,⟨a,e,h⟩=>%[a,e|k _ _ h]
 | .cut _ _ l r,_,⟨a,x,y,e,h,h1,h2⟩=>%[a,x,y,e,k _ _ h,TrV.keep k l h1|TrV.keep k r h2]
theorem TrV.dt{p:P6}{H:Hp}:∀(t:Tr){v:V},TrV H t v->Dt p H v (toD t)
 | .rest,_,⟨a,e,h⟩=>by subst e;exact .tup h (.cons (.str _) .nil)
 | .piece ..,_,⟨a,e,h⟩=>by subst e;exact .tup h (.cons (.str _) (.cons (.int _) (.cons (.bl _) (.cons (.int _) (.cons (.int _) .nil)))))
 | .cut _ _ l r,_,⟨a,x,y,e,h,h1,h2⟩=>by subst e;exact .tup h (.cons (.str _) (.cons (.int _) (.cons (TrV.dt l h1) (.cons (TrV.dt r h2) .nil))))
def okT(b:Int)(ks:QA Kd):Int->Int->Tr->Prop
 | _,_,.rest=>True
 | w,h,.piece i c x y=>∃k,ks[i]?=some k/\c∈cL k/\0<=x/\0<=y/\x+sd1 k c<=w/\y+sd2 k c<=h
 | w,h,.cut dn p l r=>1<=p/\(if dn=true then p+b < w/\okT b ks p h l/\okT b ks (w - p - b) h r else p+b < h/\okT b ks w p l/\okT b ks w (h - p - b) r)
theorem jo{ks:QA Kd}{i:Nat}{c:Bool}{k:Kd}(hk:ks[i]?=some k)(hc:c∈cL k):gp ks (.int i) (.bl c)=true:=by
 unfold gp;simp only[J4,hk];rw[QG (show(0:Int)<=i by lia),M4];cases c with
 | false=>rfl
 | true=>
  unfold cL at hc;cases t:bm k with
  | true=>rfl
  | false=>rw[t]at hc;simp at hc
def But2(p q:P6)(H H':Hp):Prop:=∀c o,c≠p->c≠q->H c=some o->H' c=some o
theorem But2.trans{p q:P6}{H H' H'':Hp}(a:But2 p q H H')(b:But2 p q H' H''):But2 p q H H'':=λ c o n1 n2 e=>b c o n1 n2 (a c o n1 n2 e)
theorem But2.but{p q:P6}{H H':Hp}(a:But p H H'):But2 p q H H':=λ c o n1 _ e=>a c o n1 e
theorem dC{d:PyData}{y:Str}{r:QA PyData}(e:aQ d=some (.str y :: r))(z:Str)(n:Nat):bw d z n=(decide (r.length+1=n) && decide (y=z)):=by unfold bw;rw[e]
def pcD(ks:QA Kd)(w h:Int):QA PyData->Bool
 | [k,t,x,y]=>nh ks w h k t x y
 | _=>false
theorem kT{b:Int}{ks:QA Kd}{w h:Int}{d:PyData}{y:Str}{r:QA PyData}(e:aQ d=some (.str y :: r))(h1:(decide (y = "down"))=false)(h2:(decide (y = "across"))=false):isT b ks w h d=(if decide (y = "rest")=true then decide (r.length+1=1)else if decide (y = "piece")=true then pcD ks w h r else false):=by
 have hc:isC b w h d=false:=by
  unfold isC;rw[dC e,dC e,h1,h2];simp only[M0]
  rfl
 rw[dB hc];unfold isL;rw[dC e,dC e,e]
 by_cases hr:y = "rest"
 ·subst hr;rw[show decide ((Str.ofString "rest")=(Str.ofString "piece"))=false by decide +kernel,M0,QH B2,QG (rfl:(Str.ofString "rest")=Str.ofString "rest"),QI rfl,K8]
 ·rw[QJ hr,QH B2]
  by_cases hp:y = "piece"
  ·subst hp;rw[QG (rfl:(Str.ofString "piece")=Str.ofString "piece"),K8,QI (rfl:true=true),M0]
   match r with
   | []=>rfl
   | [_]=>rfl
   | [_,_]=>rfl
   | [_,_,_]=>rfl
   | [_,_,_,_]=>rfl
   | _ :: _ :: _ :: _ :: _ :: r=>simp[pcD]
  ·rw[QJ hp,M0,M0,QH B2,QH B2]
theorem rg{b:Int}{ks:QA Kd}{w h:Int}{d:PyData}{dn:Bool}{r:QA PyData}(e:aQ d=some (.str (if dn=true then "down" else "across") :: r)):isT b ks w h d=(match r with
  | [.int p,l,r']=>decide (1<=p) && (if dn=true then decide (p+b < w) && (isT b ks p h l && isT b ks (w - p - b) h r')else decide (p+b < h) && (isT b ks w p l && isT b ks w (h - p - b) r'))
  | _=>false):=by
 have cX:isC b w h d=false->isT b ks w h d=false:=λ hc=>by
  rw[dB hc];unfold isL;rw[dC e,dC e];cases dn
  ·rw[show decide ((if false=true then(Str.ofString "down")else Str.ofString "across")=Str.ofString "piece")=false by decide +kernel,show decide ((if false=true then(Str.ofString "down")else Str.ofString "across")=Str.ofString "rest")=false by decide +kernel,M0,M0,QH B2]
  ·rw[show decide ((if true=true then(Str.ofString "down")else Str.ofString "across")=Str.ofString "piece")=false by decide +kernel,show decide ((if true=true then(Str.ofString "down")else Str.ofString "across")=Str.ofString "rest")=false by decide +kernel,M0,M0,QH B2]
 cases hc:isC b w h d with
 | false=>
  rw[cX hc]
  split
  ·rename_i p l r' e
   unfold isC at hc;rw[dC e,dC e]at hc;cases dn
   ·rw[show decide ((if false=true then(Str.ofString "down")else Str.ofString "across")=Str.ofString "down")=false by decide +kernel,show decide ((if false=true then(Str.ofString "down")else Str.ofString "across")=Str.ofString "across")=true by decide +kernel]at hc;unfold gx at hc;rw[e]at hc;have hc:(decide (1<=p) && decide (p+b < h))=false:=hc;rw[QH B2,<- Bool.and_assoc,hc,N3]
   ·rw[show decide ((if true=true then(Str.ofString "down")else Str.ofString "across")=Str.ofString "down")=true by decide +kernel]at hc;unfold gx at hc;rw[e]at hc;have hc:(decide (1<=p) && decide (p+b < w))=false:=hc;rw[QI rfl,<- Bool.and_assoc,hc,N3]
  ·rfl
 | true=>
  obtain⟨dn',p,l,r',e',p1,pw,ph,eT⟩:=jn (ks:=ks) hc;rw[e]at e';have hdn:dn=dn':=by have:=PyData.str.inj (List.cons.inj (B8 e')).1;cases dn <;> cases dn' <;> first | rfl | exact absurd this ∅
  subst hdn;cases e';rw[eT];cases dn
  ·simp only[J9,QN];rw[QG p1,QG (ph rfl)];rfl
  ·simp only[Qa];rw[QG p1,QG (pw rfl)];rfl
def TrD:Tr->PyData->Prop
 | .rest,d=>aQ d=some [.str "rest"]
 | .piece i c x y,d=>aQ d=some [.str "piece",.int i,.bool c,.int x,.int y]
 | .cut dn p l r,d=>∃dl dr,aQ d=some [.str (if dn=true then "down" else "across"),.int p,dl,dr]/\TrD l dl/\TrD r dr
theorem TrD.to:∀t:Tr,TrD t (toD t)
 | .rest=>rfl
 | .piece ..=>rfl
 | .cut _ _ l r=>%[toD l,toD r,Y,TrD.to l|TrD.to r]
theorem TrD.good{b:Int}{ks:QA Kd}:∀(t:Tr)(d:PyData)(w h:Int),TrD t d->okT b ks w h t->isT b ks w h d=true
 | .rest,d,w,h,e,_=>by have e:aQ d=some (.str "rest" :: []):=e;rw[kT e ∅ ∅,QI ∅];rfl
 | .piece i c x y,d,w,h,e,⟨k,hk,hc,x0,y0,hx,hy⟩=>by
  have e:aQ d=some (.str "piece" :: [.int i,.bool c,.int x,.int y]):=e;rw[kT e ∅ ∅,QH ∅,QI ∅];show gG ks w h (.int i) (.bl c) (.int x) (.int y)=true;unfold gG;rw[jo hk hc];simp only[J4,hk];rw[show aV (.int x) 0=true from QG x0,show aV (.int y) 0=true from QG y0,QG hx,QG hy]
  rfl
 | .cut true p l r,d,w,h,⟨dl,dr,e,tl,tr⟩,⟨p1,hp,hl,hr⟩=>by have eT:isT b ks w h d=(decide (1<=p) && (decide (p+b < w) && (isT b ks p h dl && isT b ks (w - p - b) h dr))):=rg (dn:=true) (r:=[.int p,dl,dr]) e;rw[eT,QG p1,QG hp,TrD.good l dl p h tl hl,TrD.good r dr _ h tr hr];rfl
 | .cut false p l r,d,w,h,⟨dl,dr,e,tl,tr⟩,⟨p1,hp,hl,hr⟩=>by have eT:isT b ks w h d=(decide (1<=p) && (decide (p+b < h) && (isT b ks w p dl && isT b ks w (h - p - b) dr))):=rg (dn:=false) (r:=[.int p,dl,dr]) e;rw[eT,QG p1,QG hp,TrD.good l dl w p tl hl,TrD.good r dr w _ tr hr];rfl
def dT:Tr->Nat
 | .cut _ _ l r=>max (dT l) (dT r)+1
 | _=>0
def szT:Tr->Nat
 | .cut _ _ l r=>szT l+szT r+1
 | _=>1
theorem nq(t:Tr):1<=szT t:=by cases t <;> simp only[szT] <;> lia
theorem hI{d:PyData}{ds:QA PyData}(h:aQ d=some ds):wt d=wts ds+1:=by
 cases d <;> simp only[aQ,Option.some.injEq,reduceCtorEq]at h
 ·subst h;rw[wt]
 ·subst h;rw[wt]
theorem kU{C x dx:P6}{H:Hp}(hx:H x=none)(hd:H dx=none):Same H (upd (upd H dx (.own x)) x (.ins C dx [])):=λ c o e=>by rw[ap (ax e hx),ap (ax e hd)];exact e
def dpT:Tr->Nat
 | .cut _ _ l r=>max (dpT l) (dpT r)+1
 | _=>0
mutual
theorem Dt.fresh{p q:P6}{H:Hp}(hq:H q=none):∀{v:V}{d:PyData},Dt p H v d->Dt q H v d
 | _,_,.non=>.non
 | _,_,.bl b=>.bl b
 | _,_,.int i=>.int i
 | _,_,.str z=>.str z
 | _,_,.lst n h r=>.lst (ax h hq) h (r.fresh hq)
 | _,_,.tup h r=>.tup h (r.fresh hq)
 | _,_,.emp h=>.emp h
theorem Dts.fresh{p q:P6}{H:Hp}(hq:H q=none):∀{vs:QA V}{ds:QA PyData},Dts p H vs ds->Dts q H vs ds
 | _,_,.nil=>.nil
 | _,_,.cons a r=>.cons (a.fresh hq) (r.fresh hq)
end
def okU(b:Int)(ks:QA Kd):Int->Int->Tr->Prop
 | _,_,.rest=>True
 | w,h,.piece i c x y=>∃k,ks[i]?=some k/\(i,c)∈lyK ks 0/\0<=x/\0<=y/\x+sd1 k c<=w/\y+sd2 k c<=h
 | w,h,.cut dn p l r=>1<=p/\(if dn=true then p+b < w/\okU b ks p h l/\okU b ks (w - p - b) h r else p+b < h/\okU b ks w p l/\okU b ks w (h - p - b) r)
theorem rh{k:Kd}{c:Bool}(hc:c=false\/bm k=true):∀{ks:QA Kd}{i j:Nat},ks[i]?=some k->(j+i,c)∈lyK ks j
 | [],i,j,h=>by simp at h
 | x :: ks,0,j,h=>by
  cases h;refine C2.mpr (.inl ?_);unfold lyT;cases c with
  | false=>exact B7
  | true=>
   rw[QI (hc.resolve_left ∅)];exact B4 _ (C9.mpr rfl)
 | x :: ks,i+1,j,h=>by have:=rh hc (ks:=ks) (i:=i) (j:=j+1) (by simpa using h);rw[show j+(i+1)=j+1+i by lia];exact C2.mpr (.inr this)
theorem vP:∀{ks:QA Kd}{i:Nat}{q:Nat×Bool},q∈lyK ks i->i<=q.1/\∃k,ks[q.1 - i]?=some k/\(q.2=false\/bm k=true)
 | [],_,_,h=>by simp[lyK]at h
 | x :: ks,i,q,h=>by
  rcases C2.mp (show q∈lyT i x ++ lyK ks (i+1)from h)with h | h
  ·unfold lyT at h;rcases G5.mp h with rfl | h
   ·exact%[B3 _,x,by simp|.inl rfl]
   ·split at h
    ·rename_i ht
     rw[C9.mp h];exact%[B3 _,x,by simp|.inr ht]
    ·simp at h
  ·obtain⟨h1,k,h2,h3⟩:=vP h;exact%[⋯,k,by rw[show q.1 - i=(q.1 - (i+1))+1 by lia,List.getElem?_cons_succ];exact h2|h3]
theorem scPot:FnScope ["_law_script","_law_place","_law_cell"] ["_law_script","_law_place"] (defScope yk):=%[Y,Y,Y,∅,Y,∅|∅]
theorem Az{f:P6}{fd:F6}(F:Fun K "_law_pot" "_law_pot" yk f fd)(ml:mg "len" = none)(mi:mg "int" = none):FnOk P w K mg base CX0 1 f fd ["_law_script","_law_place"] (zN K):=by
 exists scPot
 ·obtain⟨a,ns,n,rfl,_⟩:=h
  rfl
 obtain⟨a,ns,n,rfl,hS,n0,n1,h63,q⟩:=h;refine⟨_,ad (aw (i:=2) scPot.nd rfl (Or.inl rfl) ae)
  (ad (aK (aB mF (pv 1) (aI aY rfl ml QQ (aa (pv 0) ab)) (aE _)) (ag (aw (i:=2) scPot.nd rfl (Or.inl rfl) (av ix_list (pv 0) (pv 1) (λ _ _=>rfl)))) aF)
  (ag (au (bu (aa (ay dS (pv 2) (bo kG rfl mi PyProof.Rows.boot_int (aa (cq qx (pv 2) (ay ir ae ae) (aE _)) ab)))
   (aa (ay ju (ay aM (ay aM (ay dS (pv 2) ae) (ay dS ae (pv 1))) ae) ae) ab)))))),?_⟩
 have hl:(ns.map V.int).length=ns.length:=G4 _;have fin:∀c:Int,Pot (c * (if decide ((10:Int) ^ (18:Int).toNat<=c)=true then 1 else 0)) ((c * 48271+7919 * n+12345) % 2147483629):=λ c=>by
  refine%[?_,Int.emod_nonneg _ ∅|Int.emod_lt_of_pos _ ∅]
  by_cases hc:(10:Int) ^ (18:Int).toNat<=c
  ·rw[QG hc,QI rfl];have:(0:Int)<=(10:Int) ^ (18:Int).toNat:=∅
   lia
  ·rw[QJ hc,QH B2];lia
 refine%[_,Y,_,Y,a,_,Y,.inl hS,_,_,Y,Y,_,Y|?_];refine dv (λ c=>?_) (λ c=>?_)
 ·have c':n < ((ns.map V.int).length:Int):=C0 c;rw[hl]at c';have hk:n.toNat < ns.length:=⋯
  have hv:atI (ns.map V.int) n=some (.int ns[n.toNat]):=by
   have e:n=((n.toNat:Nat):Int):=⋯
   have z:atI (ns.map V.int) ((n.toNat:Nat):Int)=some (.int ns[n.toNat]):=qE (by rw[J2,E9 hk];rfl);rw[<- e]at z;exact z
  refine%[_,Y,_,Y,a,_,_,_,Y,Y,hS,hv|?_];refine%[_,Y,_,Y,_,_,Y,Y,%[∅,∅|∅],_,_,Y,Y|.inr %[_,Y,_,_,Y,Y,.inr %[by split <;> decide|by split <;> decide],_,Y,_,_,Y,Y,.inr %[∅|∅],_,Y,_,_,Y,Y,.inl %[∅|∅],_,_,Y,Y,_,_,Y,Y,_,_,Y,Y,(by show(0:Int) < 2147483629;decide),zS2|λ p hp=>?_]];exact q p _ hp %[_,_,fin _|af] (λ b o e=>by rw[ap (ax e hp)];exact e)
 ·refine%[_,Y,_,Y,_,_,Y,Y,%[∅,∅|∅],_,_,Y,Y|.inr %[_,Y,_,_,Y,Y,.inr %[by split <;> decide|by split <;> decide],_,Y,_,_,Y,Y,.inr %[∅|∅],_,Y,_,_,Y,Y,.inl %[∅|∅],_,_,Y,Y,_,_,Y,Y,_,_,Y,Y,(by show(0:Int) < 2147483629;decide),zS2|λ p hp=>?_]];exact q p _ hp %[_,_,fin _|af] (λ b o e=>by rw[ap (ax e hp)];exact e)
theorem scDraw:FnScope ["_law_pot_here","_law_many","_law_found"] ["_law_pot_here","_law_many"] (defScope qZ):=%[Y,Y,Y,∅,Y,∅|∅]
theorem yx{f:P6}{fd:F6}(F:Fun K "_law_draw" "_law_draw" qZ f fd):FnOk P w K mg base CX0 1 f fd ["_law_pot_here","_law_many"] eG:=by
 exists scDraw
 ·obtain⟨p,m,rfl,_⟩:=h
  rfl
 obtain⟨p,m,rfl,⟨a,b,pt,hp⟩,m0,m1,q⟩:=h;refine⟨_,ad (aK (aB uD (av ix_list (pv 0) ae (λ _ _=>rfl)) ae (aE _))
   (ad (aw (i:=2) scDraw.nd rfl (Or.inl rfl) (ay ju (av ix_list (pv 0) ae (λ _ _=>rfl)) (pv 1)))
   (ad (bq (ay uW (av ix_list (pv 0) ae (λ _ _=>rfl)) (pv 1)) (lr (pv 0) ae fz))
   (ag (au (pv 2))))) aF)
  (ad (bq (ay ju (ay aM (ay dS (av ix_list (pv 0) ae (λ _ _=>rfl)) ae) ae) ae) (lr (pv 0) ae fz))
  (ag (au (ay ju (ay xF (ay ju (ay dS (av ix_list (pv 0) ae (λ _ _=>rfl)) (av ix_list (pv 0) ae (λ _ _=>rfl))) ae) ae) (pv 1))))),?_⟩
 have at0:atI [V.int a,V.int b] 0=⇑a:=rfl;have at1:atI [V.int a,V.int b] 1=⇑b:=rfl;refine%[_,Y,p,_,_,_,Y,Y,G1 hp,at0,_,_,Y,Y,_,Y|?_];refine dv (λ c=>?_) (λ c=>?_)
 ·have c':0 < a:=C0 c;refine%[_,Y,p,_,_,_,Y,Y,G1 hp,at0,_,Y,_,_,Y,Y,m0|?_];refine%[_,Y,p,_,_,_,Y,Y,G1 hp,at0,_,Y,_,_,Y,Y,%[m0|m1],_,Y,p,_,_,_,Y,Y,hp,Y|?_];refine%[_,Y|q _ _ (Int.emod_nonneg _ ⋯) (Int.emod_lt_of_pos _ m0) %[a / m,b,%[Int.ediv_nonneg pt.a0 ⋯,pt.b0|pt.b1]|af] But.upd]
 ·refine%[_,Y,p,_,_,_,Y,Y,G1 hp,at1,_,_,Y,Y,.inr %[∅|∅],_,_,Y,Y,_,_,Y,Y,(by show(0:Int) < 2147483629;decide),_,Y,p,_,_,_,Y,Y,hp,Y|?_];have n0:0<=(b * 39373+611953) % 2147483629:=Int.emod_nonneg _ ∅;have n1:(b * 39373+611953) % 2147483629 < 2147483629:=Int.emod_lt_of_pos _ ∅;refine%[_,Y,p,_,_,_,Y,Y,G1 af,Y,_,Y,p,_,_,_,Y,Y,G1 af,Y,_,_,Y,Y,.inl %[⋯|⋯],_,_,Y,Y,(by show(0:Int) < 2147483563;decide),_,_,Y,Y,%[∅|∅],_,Y,_,_,Y,Y,m0|?_];exact q _ _ (Int.emod_nonneg _ ⋯) (Int.emod_lt_of_pos _ m0) %[a,_,%[pt.a0,n0|n1]|af] But.upd
theorem scNumber:FnScope ["_law_pot_here","_law_least","_law_way"] ["_law_pot_here","_law_least"] (defScope jm):=%[Y,Y,Y,∅,Y,∅|∅]
theorem sY{f:P6}{fd:F6}(F:Fun K "_law_number" "_law_number" jm f fd)(D:Dn P w K mg base "_law_draw" ["_law_pot_here","_law_many"] 1 eG):FnOk P w K mg base CX0 2 f fd ["_law_pot_here","_law_least"] mL:=by
 exists scNumber
 ·obtain⟨p,l,rfl,_⟩:=h
  rfl
 obtain⟨p,l,rfl,pt,l0,l1,q⟩:=h;refine⟨_,ad (aw (i:=2) scNumber.nd rfl (Or.inl rfl) (aq D hr rfl (aa (pv 0) (aa ae ab))))
  (ad (aK (aB mF (pv 2) ae (aE _)) (ag (au (ay aM (pv 1) (aq D hr rfl (aa (pv 0) (aa ae ab)))))) aF)
  (ad (aK (aB cf (pv 2) ae (aE _)) (ag (au (ay aM (pv 1) (aq D hr rfl (aa (pv 0) (aa (ay br (ay ir ae ae) (pv 1)) ab)))))) aF)
  (ag (au (ay aM (ay aM (ay ir ae ae) (ay dS (aq D hr rfl (aa (pv 0) (aa (ay ir ae ae) ab))) (ay ir ae ae)))
   (aq D hr rfl (aa (pv 0) (aa (ay ir ae ae) ab)))))))),?_⟩
 have pw:∀{i j:Int},i=10->0<=j->j<=60->Ge i j:=λ {i j} a b c=>%[b,⋯|by subst a;decide]
 refine%[_,Y,p,4,Y,pt,∅,∅|λ y H1 y0 y1 pt1 b1=>?_];refine%[_,Y,_,_,Y,Y,_,Y|?_];refine dv (λ c=>?_) (λ c=>?_)
 ·refine%[_,Y,_,Y,p,12,Y,pt1,∅,∅|λ r H2 r0 r1 pt2 b2=>%[_,_,Y,Y|?_]];exact q _ _ ⋯ ⋯ pt2 (b1.trans b2)
 ·refine%[_,Y,Y,_,Y|?_];refine dv (λ c2=>?_) (λ c2=>?_)
  ·refine%[_,Y,_,Y,_,_,Y,Y,pw rfl ∅ ∅,_,Y,_,_,Y,Y,p,_,Y,pt1,?_,?_|λ r H2 r0 r1 pt2 b2=>%[_,_,Y,Y|?_]]
   ·show(0:Int) < 10 ^ 60 - l;lia
   ·show(10 ^ 60:Int) - l<=10 ^ 60;lia
   ·have r1':r < 10 ^ 60 - l:=r1;exact q _ _ ⋯ ⋯ pt2 (b1.trans b2)
  ·refine%[_,_,Y,Y,pw rfl ∅ ∅,_,Y,_,_,Y,Y,pw rfl ∅ ∅,p,_,Y,pt1,∅,∅|λ r H2 r0 r1 pt2 b2=>?_];have r1':r < 10 ^ 9:=r1;refine%[_,_,Y,Y,pw rfl ∅ ∅,_,_,Y,Y,.inl %[⋯|⋯],_,_,Y,Y,_,Y,_,_,Y,Y,pw rfl ∅ ∅,p,_,Y,pt2,∅,∅|λ r' H3 r0' r1'' pt3 b3=>%[_,_,Y,Y|?_]];have r2':r' < 10 ^ 9:=r1'';refine q _ _ ?_ ?_ pt3 (b1.trans (b2.trans b3))
   ·show l<=10 ^ 59+r * 10 ^ 40+r';lia
   ·show 10 ^ 59+r * 10 ^ 40+r' < 10 ^ 60;lia
theorem PotAt.ne{p q:P6}{H:Hp}(x:PotAt H p)(h:H q=none):p≠q:=λ z=>x.some (z ▸ h)
theorem PotAt.same{p:P6}{H H':Hp}(x:PotAt H p)(s:Same H H'):PotAt H' p:=by obtain⟨a,b,h,e⟩:=x;exact%[a,b,h|s _ _ e]
theorem jO{H:Hp}{p:P6}(h:PotAt H p):∃xs,H p=↥xs:=by obtain⟨_,_,_,e⟩:=h;exact%[_|e]
theorem lV{p c:P6}{H0 H:Hp}{o:HO}(b:But p H0 H)(pt:PotAt H p)(h:H c=none):∃H',upd H c o=H'/\H' c=some o/\c≠p/\Same H H'/\But p H0 H'/\PotAt H' p :=
 %[_,rfl,af,Ne.symm (pt.ne h),F9 h,b.trans (But.new h)|pt.new h]
theorem hJ{p:P6}{rs:QA V}{ks:QA Kd}{H H':Hp}(b:But p H H')(pt:PotAt H p)(h:Tups H rs ks):Tups H' rs ks:=by obtain⟨_,hp⟩:=jO pt;exact Tups.keep (λ x xs e=>b _ _ (λ z=>by rw[z,hp]at e;cases e) e) h
def iX(k:Kd)(c:Bool)(w h:Int):Bool:=decide (sd1 k c<=w) && decide (sd2 k c<=h)
inductive spShopL(vs:QA V)(H:Hp)(Q:VK)(E_:XK):Prop
|mk(p:P6)(_:vs=[.ref p])(_:PotAt H p)(_:∀(t l:P6)(b:Int)(rs:QA V)(ks:QA Kd)(H':Hp),H' t= ~~~[.int b,.ref l]->H' l=↥rs->l≠p->Tups H' rs ks->(∀k∈ks,Good k)->1<=rs.length->rs.length<=8->0<=b->PotAt H' p->But p H H'->Q (.ref t) H')
def fq1(ks:QA Kd)(w h:Int)(i:Nat):QA (Nat×Bool):=match ks[i]? with
 | some k=>((cL k).filter λ c=>iX k c w h).map λ c=>(i,c)
 | none=>[]
def fq(ks:QA Kd)(w h:Int)(n:Nat):QA (Nat×Bool):=(List.range n).flatMap (fq1 ks w h)
theorem rj(ks:QA Kd)(w h:Int)(n:Nat):fq ks w h (n+1)=fq ks w h n ++ fq1 ks w h n:=by unfold fq;rw[List.range_succ,List.flatMap_append,List.flatMap_cons,List.flatMap_nil,J7]
theorem AA{ks:QA Kd}{w h:Int}{n i:Nat}{c:Bool}(hm:(i,c)∈fq ks w h n):∃k,ks[i]?=some k/\c∈cL k/\iX k c w h=true:=by
 unfold fq at hm;rw[List.mem_flatMap]at hm;obtain⟨j,_,hj⟩:=hm;unfold fq1 at hj;cases e:ks[j]? with
 | none=>rw[e]at hj;cases hj
 | some k=>
  rw[e]at hj;obtain⟨c',hc',e2⟩:=K7.mp hj;cases e2;rw[List.mem_filter]at hc';exact%[k,e,hc'.1|hc'.2]
theorem rm(ks:QA Kd)(w h:Int)(i:Nat):(fq1 ks w h i).length<=2:=by
 unfold fq1
 split
 ·rw[G4];refine C5 (K0 _ _) ?_;unfold cL
  split <;> decide
 ·decide
theorem oE(ks:QA Kd)(w h:Int):∀n,(fq ks w h n).length<=2 * n
 | 0=>B3 _
 | n+1=>by rw[rj,G6];have:=oE ks w h n;have:=rm ks w h n;lia
theorem fb{a b c:St}(h1:leS a b)(h2:leS b c):leS a c:=%[h2.1.trans h1.1|λ i v e=>h2.2 i v (h1.2 i v e)]
def QAt(ks:QA Kd)(H:Hp)(v:V)(q:Nat×Bool):Prop:=∃a k,v=.ref a/\ks[q.1]?=some k/\H a= ~~~[.int q.1,.bl q.2,.int (sd1 k q.2),.int (sd2 k q.2)]
theorem QAt.keep{ks:QA Kd}{H H':Hp}(k:∀a xs,H a= ~~~xs->H' a= ~~~xs){v:V}{q:Nat×Bool}(h:QAt ks H v q):QAt ks H' v q:=by obtain⟨a,kk,e,e2,h⟩:=h;exact%[a,kk,e,e2|k _ _ h]
def Nj(k:Kd)(H:Hp)(v:V)(c:Bool):Prop:=∃a,v=.ref a/\H a= ~~~[.int (sd1 k c),.int (sd2 k c),.bl c]
inductive spFitQ(vs:QA V)(H:Hp)(Q:VK)(E_:XK):Prop
|mk(kl:P6)(rs:QA V)(ks:QA Kd)(w h:Int)(_:vs=[.ref kl,.int w,.int h])(_:H kl=↥rs)(_:Tups H rs ks)(_:rs.length<=8)(_:∀(l:P6)(ys:QA V)(H':Hp),H l=none->H' l=↥ys->Paired (QAt ks H') ys (fq ks w h ks.length)->Same H H'->Q (.ref l) H')
theorem scfitq:FnScope ["_law_kinds","_law_wide","_law_high","_law_found","_law_number_here","_law_kind","_law_sides"] ["_law_kinds","_law_wide","_law_high"] (defScope fH):=%[Y,Y,Y,∅,Y,∅|∅]
theorem yy{f:P6}{fd:F6}(F:Fun K "_law_fitting" "_law_fitting" fH f fd)(B:Blt mg):FnOk P w K mg base CX0 1 f fd ["_law_kinds","_law_wide","_law_high"] (spFitQ):=by
 exists scfitq
 ·obtain⟨kl,rs,ks,w1,h1,rfl,_⟩:=h
  rfl
 obtain⟨kl,rs,ks,w1,h1,rfl,hk0,tp,r8,q⟩:=h;have nd:=scfitq.nd;refine%[_,((3∣(@bu _ _ _ _ ab))<<<((@cG _ _ _ _ _ _ _ _ E2 Y (qJ Y B.enumerate ((pv 0)^^^ab)) (aU Y (ah (ai (i:=4) nd Y (Or.inr Y)) (5•aJ))) ((6∣(@bu _ _ _ _ ((@aD _ _ _ _ _ (((pv 5)&&&ix_tup&&&ae)^^^(((pv 5)&&&ix_tup&&&ae)^^^(cD^^^ab))))^^^ab)))<<<(((PW.pt (nO (@aT _ _ _ ((pv 5)&&&ix_tup&&&ae) (by intro _;rfl)) (lq (((pv 5)&&&ix_tup&&&ae)<*>gM<*>((pv 5)&&&ix_tup&&&ae)))))<|>(@ag _ _ _ (@aO _ _ _ _ (@dG _ _ _ _ _ _ _ _ _ _ _ _ F3 PySem.F.slot_list_append PySem.F.type_list_append dj (pv 6) ((@aD _ _ _ _ _ (((pv 5)&&&ix_tup&&&ae)^^^(((pv 5)&&&ix_tup&&&ae)^^^(cD^^^ab))))^^^ab) Y Y Y Y Y) Y))<|>aF)>>>(@aO _ _ _ _ (@dG _ _ _ _ _ _ _ _ _ _ _ _ F3 PySem.F.slot_list_extend PySem.F.type_list_extend dX (pv 3) ((bO (own:=["_law_a","_law_b","_law_turned"]) (cs:=["_law_wide","_law_high","_law_number_here"]) (cap:=[1,2,4]) Y (cm (pv 6)) (aL (sc:=defScope fH) (N:=["_law_kinds","_law_wide","_law_high","_law_found","_law_number_here","_law_kind","_law_sides"]) Y Y ∅) (λ _ _ _ _ _=>mP K Y Y (by show List.Nodup (["_law_a","_law_b","_law_turned","_law_wide","_law_high","_law_number_here"]:QA Str) ;decide +kernel) Y Y Y Y Y Y) (λ _ _ _ _ _=>(fB (PW.pt (nO ((pv 0)<*>kC<*>(pv 3)) (lq ((pv 1)<*>kC<*>(pv 4))))))) (λ _ _ _ _ _=>(@aD _ _ _ _ _ ((pv 5)^^^((pv 2)^^^((pv 0)^^^((pv 1)^^^ab)))))))^^^ab) Y Y Y Y Y) Y))) (by intro _;rfl))<<<((pv 3)⁻¹)))|?_];dsimp only[bJ];have sz:(100:Nat) < sizeLine:=∅
 refine%[∅|λ l hl=>?_];have s1:Same H (upd H l (.lst [])):=F9 hl;have l1:(upd H l (.lst ([]:QA V))) l=↥[]:=af;generalize upd H l (.lst ([]:QA V))=H1 at s1 l1 ⊢;have kl1:=s1 _ _ hk0;have nkl:kl≠l:=λ e=>by rw[e,hl]at hk0;cases hk0
 have len:=E1 tp;refine%[_,Y,kl,rs,Y|.inl %[kl1|vc (f:=.lst) (λ _ _ e=>by cases e;rfl) (xs:=rs) (λ i σ H'=>(∃v4 v5 v6,σ=[↑kl,⇑w1,⇑h1,↑l,v4,v5,v6])/\(∃ys,H' l=↥ys/\Paired (QAt ks H') ys (fq ks w1 h1 i))/\But l H1 H') %[%[_,_,_|Y],%[[],l1|.nil]|But.refl] (λ i σ H' ⟨_,_,b4⟩=>b4 _ _ nkl kl1) ?_ ?_]]
 ·rintro i x pp σ H2 hx hp ⟨⟨v4,v5,v6,rfl⟩,⟨ys,l2,py⟩,b2⟩;obtain⟨k,hk',ka,rfl,hka⟩:=G3 tp hx;have hin:i < rs.length:=(A6.mp hx).1;have nka:ka≠l:=λ e=>by rw[e,hl]at hka;cases hka
  have s3:Same H2 (upd H2 pp (.tup [.int i,.ref ka])):=F9 hp;have p3:(upd H2 pp (.tup [.int i,.ref ka])) pp= ~~~[.int i,.ref ka]:=af;generalize upd H2 pp (.tup [.int i,.ref ka])=H3 at s3 p3 ⊢;have ka3:H3 ka= ~~~(kdV k):=s3 _ _ (b2 _ _ nka (s1 _ _ hka));refine%[pp,_,Y,G0 p3,Y,_,_,Y,_,_,Y,Y|?_];refine ao (λ R=>∀sl a (H':Hp),H3 sl=none->H' sl=↥[.ref a]->H' a= ~~~[.int k.w,.int k.h,.bl false]->Same H3 H'->R [↑kl,⇑w1,⇑h1,↑l,⇑i,↑ka,↑sl] H') (λ Dd hR=>?_) ?_
  ·refine%[_,Y,ka,_,0,_,Y,Y,G0 ka3,Y,_,Y,ka,_,1,_,Y,Y,G0 ka3,Y,zS3|λ a ha=>?_];have s4:Same H3 (upd H3 a (.tup [.int k.w,.int k.h,.bl false])):=F9 ha;have k4:(upd H3 a (.tup [.int k.w,.int k.h,.bl false])) a= ~~~[.int k.w,.int k.h,.bl false]:=af;generalize upd H3 a (.tup [.int k.w,.int k.h,.bl false])=H4 at s4 k4 ⊢;exact%[zS1|λ sl hsl=>hR sl a _ (s4.free hsl) af (F9 hsl _ _ k4) (s4.trans (F9 hsl))]
  rintro sl a0 H4 fsl hs4 ha4 s34;have nsl:sl≠l:=λ e=>by rw[e,s3 _ _ l2]at fsl;cases fsl
  have ka4:=s34 _ _ ka3;refine eQ (λ R=>∀zs (H':Hp),H' sl=↥zs->Paired (Nj k H') zs (cL k)->But sl H4 H'->R [↑kl,⇑w1,⇑h1,↑l,⇑i,↑ka,↑sl] H') (λ R hR=>?_) ?_
  ·have no:bm k=false->R [↑kl,⇑w1,⇑h1,↑l,⇑i,↑ka,↑sl] H4:=λ ht=>hR _ _ hs4 (by unfold cL;rw[ht];exact .cons %[a0,Y|ha4] .nil) But.refl;refine%[_,Y,ka,_,4,_,Y,Y,G0 ka4,Y,_,Y|?_];cases htu:k.tu with
   | false=>exact aP (no (by unfold bm;rw[htu];rfl))
   | true=>
    refine aW %[_,rfl,ka,_,0,_,rfl,rfl,G0 ka4,rfl,_,rfl,ka,_,1,_,rfl,rfl,G0 ka4,rfl,rfl,_,rfl|?_]
    by_cases hwh:k.w=k.h
    ·rw[show decide (V.int k.w=V.int k.h)=true from QG (by rw[hwh])];exact aP (no (by unfold bm;rw[QG hwh];simp))
    ·rw[show decide (V.int k.w=V.int k.h)=false from QJ (λ z=>hwh (V.int.inj z))];refine aW %[_,rfl,.inl %[rfl,_|G1 hs4],_,rfl,ka,_,1,_,rfl,rfl,G0 ka4,rfl,_,rfl,ka,_,0,_,rfl,rfl,G0 ka4,rfl,zS3|λ a ha=>?_];have s5:Same H4 (upd H4 a (.tup [.int k.h,.int k.w,.bl true])):=F9 ha;have k5:(upd H4 a (.tup [.int k.h,.int k.w,.bl true])) a= ~~~[.int k.h,.int k.w,.bl true]:=af;generalize upd H4 a (.tup [.int k.h,.int k.w,.bl true])=H5 at s5 k5 ⊢;have hs5:=s5 _ _ hs4;refine%[sl,_,_,Y,Y,hs5,(by show 1 < sizeLine;decide)|?_];have kt:∀{c:P6}{xs:QA V},H5 c= ~~~xs->(upd H5 sl (.lst ([.ref a0] ++ [.ref a]))) c= ~~~xs:=λ {c xs} e=>by rw[ap (λ z=>by rw[z,hs5]at e;cases e)];exact e
     refine hR ([.ref a0,.ref a]) _ af ?_ (λ c o n e=>by rw[ap n];exact s5 _ _ e);have ht:bm k=true:=by unfold bm;rw[htu,QJ hwh];rfl
     unfold cL;rw[ht];exact .cons %[a0,Y|kt (s5 _ _ ha4)] (.cons %[a,Y|kt k5] .nil)
  rintro zs H5 hs5 pz5 b5;have l5:H5 l=↥ys:=b5 _ _ (Ne.symm nsl) (s34 _ _ (s3 _ _ l2));have zl:=E1 pz5;have ll:(cL k).length<=2:=by unfold cL;split <;> decide
  have yl:=E1 py;have fl:=oE ks w1 h1 i;refine%[_,Y,.inl %[Y,_|G1 l5]|?_];have fe:fq1 ks w1 h1 i=((cL k).filter λ c=>iX k c w1 h1).map λ c=>(i,c):=by unfold fq1;rw[hk']
  refine%[_,Y,sl,Y,%[_|G1 hs5]|(bE (K:=K) (.inl hs5) (λ j us Hx=>Same H5 Hx/\Paired (QAt ks Hx) us ((((cL k).take j).filter λ c=>iX k c w1 h1).map λ c=>(i,c))) (λ j us Hx _ ⟨sx,_⟩ o e=>sx _ _ e) %[Same.refl _|.nil] ?_ ?_).1 hs5]
  ·rintro j y us Hx hj ⟨sx,pu⟩;have hjn:j < zs.length:=(A6.mp hj).1;obtain⟨cc,hc',t,rfl,ht⟩:=G3 pz5 hj;have htx:=sx _ _ ht;have pul:=E1 pu;have tk:(cL k).take (j+1)=(cL k).take j ++ [cc]:=by rw[J5,hc'];rfl
   have pl:us.length<=2:=by rw[pul,G4];exact C5 (K0 _ _) (by rw[J3];lia)
   refine%[⋯|?_];refine%[t,_,Y,G0 htx,Y,_,_,Y,_,_,Y,_,_,Y,Y,fb (fb (leS.set rfl) (leS.set rfl)) (leS.set rfl)|?_];refine%[_,Y,_,Y,_,_,Y,Y,_,Y|?_];have pn:=O5 (p:=λ c=>iX k c w1 h1) ((cL k).take j) [cc];rw[<- tk]at pn;refine dv (λ c1=>?_) (λ c1=>?_)
   ·refine%[_,Y,_,Y,_,_,Y,Y,_,Y|?_];refine dv (λ c2=>?_) (λ c2=>?_)
    ·have ff:iX k cc w1 h1=true:=by unfold iX;rw[c1,c2];rfl
     refine%[_,Y,_,Y,_,Y,_,Y,zS4|λ z hz=>?_];refine Nx.of hjn %[sx.trans (F9 hz)|?_];rw[pn,M9,QI ff,P0,I9];exact eZ (G2 pu λ v q h=>h.keep λ a xs e=>F9 hz _ _ e) (.cons %[z,k,Y,hk'|af] .nil)
    ·have ff:¬ iX k cc w1 h1=true:=λ z=>c2 (by unfold iX at z;exact(Bool.and_eq_true_iff.mp z).2);refine Nx.of hjn %[sx|?_];rw[pn,M9,QH ff,P0,J7];exact pu
   ·have ff:¬ iX k cc w1 h1=true:=λ z=>c1 (by unfold iX at z;exact(Bool.and_eq_true_iff.mp z).1);refine aP (Nx.of hjn %[sx|?_]);rw[pn,M9,QH ff,P0,J7];exact pu
  ·rintro us Hx ⟨sx,pu⟩;rw[zl,K2,<- fe]at pu;have pul:=E1 pu;have f1:=rm ks w1 h1 i;refine%[⋯|λ xl hxl=>?_];have sy:Same Hx (upd Hx xl (.lst us)):=F9 hxl;have ky:(upd Hx xl (.lst us)) xl=↥us:=af;generalize upd Hx xl (.lst us)=Hy at sy ky ⊢;have ly:=sy _ _ (sx _ _ l5);refine%[l,xl,_,_,Y,Y,ly,ky,⋯|?_];have kt:∀{c:P6}{xs:QA V},Hy c= ~~~xs->(upd Hy l (.lst (ys ++ us))) c= ~~~xs:=λ {c xs} e=>by rw[ap (λ z=>by rw[z,ly]at e;cases e)];exact e
   have up:∀{c:P6}{xs:QA V},H2 c= ~~~xs->Hy c= ~~~xs:=λ {c xs} e=>sy _ _ (sx _ _ (b5 _ _ (λ z=>by rw[z]at e;rw[s34 _ _ (s3 _ _ e)]at hs4;cases hs4) (s34 _ _ (s3 _ _ e))));refine%[%[_,_,_|Y],%[ys ++ us,af|?_]|λ c o n e=>?_]
   ·rw[rj];exact eZ (G2 py λ v q h=>h.keep λ a xs e=>kt (up e)) (G2 pu λ v q h=>h.keep λ a xs e=>kt (sy _ _ e))
   ·rw[ap n];have e4:=s34 _ _ (s3 _ _ (b2 _ _ n e));refine sy _ _ (sx _ _ (b5 _ _ (λ z=>?_) e4));rw[z]at e;have:=s3 _ _ (b2 _ _ nsl e);rw[fsl]at this;cases this
 ·rintro σ H3 ⟨⟨v4,v5,v6,rfl⟩,⟨ys,l3,py⟩,b3⟩;rw[len]at py;exact%[_,Y|q l ys H3 hl l3 py (λ x o e=>b3 _ _ (λ z=>by rw[z,hl]at e;cases e) (s1 _ _ e))]
theorem lW:∀t:Tr,(toD t).depth<=1->lvN t=1
 | .rest,_=>rfl
 | .piece ..,_=>rfl
 | .cut dn p l r,h=>by exfalso;have h:PyData.depthAll [.str (if dn=true then "down" else "across"),.int p,toD l,toD r]+1<=1:=h;have:=yw l;simp only[PyData.depthAll,PyData.depth]at h;lia
theorem iF{b:Int}{ks:QA Kd}:∀(t:Tr)(w h:Int),okT b ks w h t->isT b ks w h (toD t)=true
 | .rest,w,h,_=>by
  rw[dB (by rfl)]
  rfl
 | .piece i c x y,w,h,⟨k,hk,hc,x0,y0,hx,hy⟩=>by
  rw[dB (by rfl)];show gG ks w h (.int i) (.bl c) (.int x) (.int y)=true;unfold gG;rw[jo hk hc];simp only[J4,hk];rw[show aV (.int x) 0=true from QG x0,show aV (.int y) 0=true from QG y0,QG hx,QG hy]
  rfl
 | .cut true p l r,w,h,⟨p1,hp,hl,hr⟩=>by
  have hc:isC b w h (toD (.cut true p l r))=true:=by show(decide (1<=p) && decide (p+b < w))=true;rw[QG p1,QG hp];rfl
  obtain⟨dn,p',l',r',e,_,_,_,eT⟩:=jn (ks:=ks) hc;cases dn with
  | true=>
   cases e;rw[eT,QI rfl,iF l p h hl,iF r _ h hr];rfl
  | false=>
   exfalso;have:(PyData.str "down")=.str "across" := by have:=B8 e;exact(List.cons.inj this).1
   exact absurd (PyData.str.inj this) ∅
 | .cut false p l r,w,h,⟨p1,hp,hl,hr⟩=>by
  have hc:isC b w h (toD (.cut false p l r))=true:=by show(decide (1<=p) && decide (p+b < h))=true;rw[QG p1,QG hp];rfl
  obtain⟨dn,p',l',r',e,_,_,_,eT⟩:=jn (ks:=ks) hc;cases dn with
  | false=>
   cases e;rw[eT,QH B2,iF l w p hl,iF r w _ hr];rfl
  | true=>
   exfalso;have:(PyData.str "across")=.str "down" := by have:=B8 e;exact(List.cons.inj this).1
   exact absurd (PyData.str.inj this) ∅
inductive spLeafL(vs:QA V)(H:Hp)(Q:VK)(E_:XK):Prop
|mk(p kl:P6)(rs:QA V)(ks:QA Kd)(w h:Int)(_:vs=[.ref p,.ref kl,.int w,.int h])(_:kl≠p)(_:H kl=↥rs)(_:Tups H rs ks)(_:rs.length<=8)(_:(∀k∈ks,Good k))(_:1<=w)(_:w < 10 ^ 60)(_:1<=h)(_:h < 10 ^ 60)(_:PotAt H p)(_:∀(v:V)(t:Tr)(H':Hp),TrV H' t v->(∀b,okT b ks w h t)->wt (toD t)<=11->(toD t).depth<=1->PotAt H' p->But p H H'->Q v H')
inductive spTreeL(n:Nat)(vs:QA V)(H:Hp)(Q:VK)(E_:XK):Prop
|mk(p st l lf:P6)(b:Int)(rs:QA V)(ks:QA Kd)(w h left:Int)(deep:Nat)(_:vs=[.ref p,.ref st,.int w,.int h,.ref lf,.int deep])(_:H st= ~~~[.int b,.ref l])(_:H l=↥rs)(_:l≠p)(_:l≠lf)(_:lf≠p)(_:Tups H rs ks)(_:rs.length<=8)(_:(∀k∈ks,Good k))(_:0<=b)(_:1<=w)(_:w < 10 ^ 60)(_:1<=h)(_:h < 10 ^ 60)(_:H lf=↥[.int left])(_:0<=left)(_:deep < n)(_:PotAt H p)(_:∀(v:V)(t:Tr)(left':Int)(H':Hp),TrV H' t v->okT b ks w h t->0<=left'->left'<=left->(wt (toD t):Int)<=20 * (left - left')+11->(toD t).depth<=deep+1->(lvN t:Int)<=left - left'+1->H' lf=↥[.int left']->PotAt H' p->But2 p lf H H'->Q v H')
theorem GF{ks:QA Kd}{H:Hp}:∀{ys:QA V}{qs:QA (Nat×Bool)},Paired (QAt ks H) ys qs->∃ds,DatVs K H ys ds/\ds.length=qs.length/\PyData.canLayAll0 ds=true/\PyData.depthAll ds<=1
 | _,_,.nil=>%[[],.nil,Y,Y|E6 _]
 | _,_,.cons ⟨a,k,e,e2,h⟩ r=>by
  subst e;obtain⟨ds,d1,d2,d3,d4⟩:=GF r;refine%[_ :: ds,.cons (.tup (G0 h) (.cons (.int _) (.cons (.bl _) (.cons (.int _) (.cons (.int _) .nil))))) d1,by rw[G8,G8,d2],?_|?_]
  ·simp[PyData.canLayAll0,PyData.canLay0,d3]
  ·simp only[PyData.depthAll,PyData.depth];lia
theorem scleafl:FnScope ["_law_pot_here","_law_kinds","_law_wide","_law_high","_law_some","_law_number_here","_law_turned","_law_a","_law_b"] ["_law_pot_here","_law_kinds","_law_wide","_law_high"] (defScope rc):=%[Y,Y,Y,∅,Y,∅|∅]
theorem vQ{f:P6}{fd:F6}(F:Fun K "_law_leaf" "_law_leaf" rc f fd)(B:Blt mg)(DD:Dn P w K mg base "_law_draw" ["_law_pot_here","_law_many"] 1 (eG))(DF:Dn P w K mg base "_law_fitting" ["_law_kinds","_law_wide","_law_high"] 1 (spFitQ)):FnOk P w K mg base CX0 2 f fd ["_law_pot_here","_law_kinds","_law_wide","_law_high"] (spLeafL):=by
 exists scleafl
 ·obtain⟨p,kl,rs,ks,w1,h1,rfl,_⟩:=h
  rfl
 obtain⟨p,kl,rs,ks,w1,h1,rfl,nkp,hk0,tp,r8,gk,w0,w60,h0,h60,pt,q⟩:=h;have nd:=scleafl.nd;have hu:=hr.units;refine%[_,((4∣(DF∪((pv 1)^^^((pv 2)^^^((pv 3)^^^ab)))))<<<(((PW.pt (bS ((pv 4)<*>(An hu)<*>(@bu _ _ _ _ ab)) (bR ((DD∪((pv 0)^^^(ae^^^ab)))<*>cf<*>ae))))<|>((@aD _ _ _ _ _ (dR^^^ab))⁻¹)<|>aF)<<<((@bq _ _ _ _ _ _ ((pv 4)&&&ix_list&&&(DD∪((pv 0)^^^((@aI _ _ _ _ _ _ _ _ _ aY Y B.len QQ ((pv 4)^^^ab) ∅ ∅ Y Y)^^^ab)))) (aU Y (5•(6•(7•(8•aJ))))) Y Y Y)<<<((@aD _ _ _ _ _ (dR^^^((pv 5)^^^((pv 6)^^^((DD∪((pv 0)^^^((((pv 2)|||br|||(pv 7))|||aM|||ae)^^^ab)))^^^((DD∪((pv 0)^^^((((pv 3)|||br|||(pv 8))|||aM|||ae)^^^ab)))^^^ab))))))⁻¹))))|?_];dsimp only[bJ];have e60:(100:Int) < 10 ^ 60:=∅
 have sz:(100:Nat) < sizeLine:=∅
 have len:=E1 tp;refine%[_,Y,_,Y,_,Y,kl,rs,ks,w1,h1,Y,hk0,tp,r8|λ l ys H1 hl l1 py s1=>?_];have pt1:=pt.same s1;have nlp:l≠p:=Ne.symm (pt.ne hl);have yl:=E1 py;have fl:=oE ks w1 h1 ks.length;have rest:∀Hx,But p H Hx->PotAt Hx p->Ac (Gj (gv (tC (.str "rest")) ko)) { nx:=λ x H'=>Q V.non H',rt:=Q } [↑p,↑kl,⇑w1,⇑h1,↑l,none,none,none,none] Hx:=λ Hx bx ptx=>by refine%[zS1|λ t ht=>?_];obtain⟨Hy,ey,ky,ny,sy,by',pty⟩:=lV (o:=.tup [.str "rest"]) bx ptx ht;rw[ey];exact q _ .rest Hy %[t,rfl|ky] (λ b=>trivial) ∅ ∅ pty by'
 refine cg (λ σ' H'=>σ'=[↑p,↑kl,⇑w1,⇑h1,↑l,none,none,none,none]/\H1=H') (λ R hR=>hR _ _ %[rfl|rfl]) ?_;rintro _ _ ⟨rfl,rfl⟩;refine eQ (λ R=>∀(H':Hp),ys≠[]->H' l=↥ys->Paired (QAt ks H') ys (fq ks w1 h1 ks.length)->PotAt H' p->But p H H'->R [↑p,↑kl,⇑w1,⇑h1,↑l,none,none,none,none] H') (λ R hR=>?_) ?_
 ·refine%[_,Y,∅|λ e0 he0=>?_];obtain⟨H2,e2,k2,n2,s2,b2,pt2⟩:=lV (o:=.lst []) (But.refl (p:=p) (H:=H1)) pt1 he0;rw[e2];clear e2;have s12:=s1.trans s2;have py2:Paired (QAt ks H2) ys (fq ks w1 h1 ks.length):=G2 py λ v q h=>h.keep λ a xs e=>s2 _ _ e;obtain⟨ds,d1,d2,d3,d4⟩:=GF (K:=K) py2;refine%[.list ds,.list [],.lst (G1 (s2 _ _ l1)) d1,.lst (G1 k2) .nil,?_,∅,_,Y|?_]
  ·simp[SeqAt.shaped,PyData.canLay0,PyData.depth,d3];lia
  cases ys with
  | nil=>
   have:ds=[]:=by cases ds with
    | nil=>rfl
    | cons _ _=>simp at d2;rw[<- yl]at d2;simp at d2
   subst this;exact aW (aW (rest _ (vE s12) pt2))
  | cons y0 yr=>
   have hne:PyData.eqv (.list ds) (.list [])=false:=by
    cases ds with
    | nil=>rw[<- yl]at d2;simp at d2
    | cons _ _=>rfl
   rw[hne];refine aP %[_,rfl,p,5,rfl,pt2,∅,∅|λ z H3 z0 z1 pt3 b3=>%[rfl,_,rfl|?_]];refine dv (λ cc=>?_) (λ cc=>?_)
   ·exact rest _ ((vE s12).trans b3) pt3
   ·refine hR _ (List.cons_ne_nil _ _) (b3 _ _ nlp (s2 _ _ l1)) ?_ pt3 ((vE s12).trans b3);obtain⟨_,hp⟩:=jO pt2;exact G2 py2 λ v q h=>h.keep λ a xs e=>b3 _ _ (λ z=>by rw[z,hp]at e;cases e) e
 rintro H2 ne l2 py2 pt2 b2;have y1:1<=ys.length:=by cases ys with
  | nil=>exact absurd rfl ne
  | cons _ _=>rw[G8];lia
 refine%[_,Y,_,Y,_,Y,l,_,Y,.inl (G1 l2),p,_,Y,pt2,⋯,⋯|λ r H3 r0 r1 pt3 b3=>?_];have l3:=b3 _ _ nlp l2;obtain⟨x,hx,hm⟩:=Av (xs:=ys) r0 r1;obtain⟨j,hj⟩:=List.mem_iff_getElem?.mp hm;obtain⟨⟨i,c⟩,hq,a,k,rfl,hk',ha⟩:=G3 py2 hj;obtain⟨k',hk2,hcl,hf⟩:=AA (B5 hq);rw[show ks[i]?=some k from hk']at hk2;cases hk2;have ha3:H3 a= ~~~[.int i,.bl c,.int (sd1 k c),.int (sd2 k c)]:=by obtain⟨_,hp⟩:=jO pt2;exact b3 _ _ (λ z=>by rw[z,hp]at ha;cases ha) ha
 have fits':sd1 k c<=w1/\sd2 k c<=h1:=by unfold iX at hf;rw[K4]at hf;exact%[C0 hf.1|C0 hf.2]
 have g:=gk k (B5 hk');have sp:1<=sd1 k c/\1<=sd2 k c:=by have:=g.w;have:=g.h;cases c <;> exact%[by assumption|by assumption]
 refine%[l,_,_,_,Y,Y,G1 l3,hx,a,_,Y,G0 ha3,Y,_,_,Y,_,_,Y,_,_,Y,_,_,Y,Y|?_];refine%[_,Y,_,Y,_,Y,_,Y,_,Y,_,_,Y,Y,_,_,Y,Y,p,_,Y,pt3,(by show 0 < w1 - sd1 k c+1;lia),(by show w1 - sd1 k c+1<=_;lia)|λ x1 H4 x0 x1' pt4 b4=>?_];refine%[_,Y,_,Y,_,Y,_,_,Y,Y,_,_,Y,Y,p,_,Y,pt4,(by show 0 < h1 - sd2 k c+1;lia),(by show h1 - sd2 k c+1<=_;lia)|λ y1' H5 y0 y1'' pt5 b5=>?_];refine%[zS5|λ t ht=>?_];obtain⟨H6,e6,k6,n6,s6,b6,pt6⟩:=lV (o:=.tup [.str "piece",.int i,.bl c,.int x1,.int y1']) (((b2.trans b3).trans b4).trans b5) pt5 ht;rw[show upd H5 t _=H6 from e6];refine q _ (.piece i c x1 y1') H6 %[t,rfl|k6] (λ b=>%[k,hk',hcl,x0,y0,by lia|by lia]) (by show wt (.str "piece")+(1+(1+(1+(1+0))))+1<=11;decide +kernel) (by simp[toD,PyData.depth,PyData.depthAll]) pt6 b6
theorem sctreel:FnScope ["_law_pot_here","_law_shop","_law_wide","_law_high","_law_left","_law_deep","_law_down","_law_room","_law_place","_law_behind","_law_first"] ["_law_pot_here","_law_shop","_law_wide","_law_high","_law_left","_law_deep"] (defScope kR):=%[Y,Y,Y,∅,Y,∅|∅]
theorem vR{f:P6}{fd:F6}(F:Fun K "_law_tree" "_law_tree" kR f fd)(B:Blt mg)(n:Nat)(DD:Dn P w K mg base "_law_draw" ["_law_pot_here","_law_many"] 1 (eG))(DL:Dn P w K mg base "_law_leaf" ["_law_pot_here","_law_kinds","_law_wide","_law_high"] 2 (spLeafL))(DT:Dn P w K mg base "_law_tree" ["_law_pot_here","_law_shop","_law_wide","_law_high","_law_left","_law_deep"] (3+n) (spTreeL n)):FnOk P w K mg base CX0 (3+(n+1)) f fd ["_law_pot_here","_law_shop","_law_wide","_law_high","_law_left","_law_deep"] (spTreeL (n+1)):=by
 exists sctreel
 ·obtain⟨p,st,l,lf,b,rs,ks,w1,h1,left,deep,rfl,_⟩:=h
  rfl
 obtain⟨p,st,l,lf,b,rs,ks,w1,h1,left,deep,rfl,hst,hl0,nlp,nll,nfp,tp,r8,gk,b0,w0,w60,h0,h60,hlf,lf0,dn0,pt,q⟩:=h;have nd:=sctreel.nd;refine%[_,((6∣(@cq _ _ _ _ _ _ _ _ cf (@aq _ _ _ _ _ _ _ _ _ _ DD (hr.mono (show 1<=3+n by lia)) Y ((pv 0)^^^(ae^^^ab)) ∅ Y Y) ae (aE _)))<<<((7∣((((@bu _ _ _ _ ((pv 3)^^^((pv 2)^^^ab)))&&&ix_list&&&(@bo _ _ _ _ _ _ _ _ _ kG Y B.int PyProof.Rows.boot_int ((pv 6)^^^ab) ∅ ∅ Y Y))|||br|||((pv 1)&&&ix_tup&&&ae))|||br|||ae))<<<(((PW.pt (bS (((pv 4)&&&ix_list&&&ae)<*>cf<*>ae) (bS ((pv 5)<*>cf<*>ae) (bS ((pv 7)<*>mF<*>ae) (bR ((@aq _ _ _ _ _ _ _ _ _ _ DD (hr.mono (show 1<=3+n by lia)) Y ((pv 0)^^^(ae^^^ab)) ∅ Y Y)<*>cf<*>ae))))))<|>((@aq _ _ _ _ _ _ _ _ _ _ DL (hr.mono (show 2<=3+n by lia)) Y ((pv 0)^^^(((pv 1)&&&ix_tup&&&ae)^^^((pv 2)^^^((pv 3)^^^ab)))) ∅ Y Y)⁻¹)<|>aF)<<<((@bq _ _ _ _ _ _ (((pv 4)&&&ix_list&&&ae)|||br|||ae) (lr (pv 4) ae fz) Y Y Y)<<<((8∣(ae|||aM|||(@aq _ _ _ _ _ _ _ _ _ _ DD (hr.mono (show 1<=3+n by lia)) Y ((pv 0)^^^((pv 7)^^^ab)) ∅ Y Y)))<<<((9∣((pv 8)|||aM|||((pv 1)&&&ix_tup&&&ae)))<<<(((@aT _ _ _ (pv 6) (by intro _;rfl))<|>((10∣(DT∪((pv 0)^^^((pv 1)^^^((pv 8)^^^((pv 3)^^^((pv 4)^^^(((pv 5)|||br|||ae)^^^ab))))))))<<<((@aD _ _ _ _ _ (dR^^^((pv 8)^^^((pv 10)^^^((DT∪((pv 0)^^^((pv 1)^^^(((pv 2)|||br|||(pv 9))^^^((pv 3)^^^((pv 4)^^^(((pv 5)|||br|||ae)^^^ab)))))))^^^ab)))))⁻¹))<|>aF)<<<((10∣(DT∪((pv 0)^^^((pv 1)^^^((pv 2)^^^((pv 8)^^^((pv 4)^^^(((pv 5)|||br|||ae)^^^ab))))))))<<<((@aD _ _ _ _ _ (dR^^^((pv 8)^^^((pv 10)^^^((DT∪((pv 0)^^^((pv 1)^^^((pv 2)^^^(((pv 3)|||br|||(pv 9))^^^((pv 4)^^^(((pv 5)|||br|||ae)^^^ab)))))))^^^ab)))))⁻¹)))))))))|?_];dsimp only[bJ];have e60:(100:Int) < 10 ^ 60:=∅
 have hr1:=hr.mono (show 1<=3+n by lia);have hr2:=hr.mono (show 2<=3+n by lia);have keepT:∀{Ha Hb:Hp}{x:Int},But2 p lf Ha Hb->PotAt Ha p->Ha lf=↥[.int x]->∀a xs,Ha a= ~~~xs->Hb a= ~~~xs:=λ {Ha Hb x} bb pp hh a xs e=>by obtain⟨_,hp⟩:=jO pp;exact bb _ _ (λ z=>by rw[z,hp]at e;cases e) (λ z=>by rw[z,hh]at e;cases e) e
 refine ao (λ R=>∀(dn:Bool)(H':Hp),PotAt H' p->But p H H'->R [↑p,↑st,⇑w1,⇑h1,↑lf,⇑deep,some (.bl dn),none,none,none,none] H') (λ Dd hR=>?_) ?_
 ·exact%[_,Y,p,2,Y,pt,∅,∅|λ z H1 z0 z1 pt1 b1=>%[Y|hR _ _ pt1 b1]]
 rintro dn H1 pt1 b1;have hst1:H1 st= ~~~[.int b,.ref l]:=keepT (But2.but b1) pt hlf _ _ hst;refine ao (λ R=>∀(H':Hp),Same H1 H'->R [↑p,↑st,⇑w1,⇑h1,↑lf,⇑deep,some (.bl dn),⇑((if dn=true then w1 else h1) - b - 1),none,none,none] H') (λ Dd hR=>?_) ?_
 ·refine%[_,Y,_,Y,zS2|λ rl hrl=>?_];have s2:Same H1 (upd H1 rl (.lst [.int h1,.int w1])):=F9 hrl;have k2:(upd H1 rl (.lst [.int h1,.int w1])) rl=↥[.int h1,.int w1]:=af;generalize upd H1 rl (.lst [.int h1,.int w1])=H2 at s2 k2 ⊢;refine%[_,Y|.inr ⟨dn,Y,rl,_,_,.int (if dn=true then w1 else h1),Y,Y,G1 k2,(by cases dn <;> rfl),?_⟩];exact%[_,Y,st,_,0,_,Y,Y,G0 (s2 _ _ hst1),Y,_,_,Y,Y,_,_,Y,Y|hR _ s2]
 rintro H2 s12;have pt2:=pt1.same s12;have b2:=b1.trans (vE s12);have hst2:=s12 _ _ hst1;have lf2:=b2 _ _ nfp hlf;have l2:=b2 _ _ nlp hl0;have tp2:Tups H2 rs ks:=hJ b2 pt tp;obtain⟨room,hroom⟩:∃room,(if dn=true then w1 else h1) - b - 1=room:=%[_|Y]
 rw[hroom];have leaf:∀Hx,But p H2 Hx->PotAt Hx p->Ac (uJ spLeafL [] E0 (gv (tVar 0) (gv (tOp (rIxT K) (tVar 1) (tC (.int 1))) (gv (tVar 2) (gv (tVar 3) ko))))) { nx:=λ x H'=>Q V.non H',rt:=Q } [↑p,↑st,⇑w1,⇑h1,↑lf,⇑deep,some (.bl dn),⇑room,none,none,none] Hx:=λ Hx bx ptx=>by have stx:=keepT (But2.but bx) pt2 lf2 _ _ hst2;refine%[_,Y,_,Y,st,_,1,_,Y,Y,G0 stx,Y,_,Y,_,Y,p,l,rs,ks,w1,h1,Y,nlp,bx _ _ nlp l2,hJ bx pt2 tp2,r8,gk,w0,w60,h0,h60,ptx|λ v t H' tv ok wl dl pt' b'=>?_];exact q v t left H' tv (ok b) lf0 (E3 _) ⋯ ⋯ (by have:=lW t dl;lia) (b' _ _ nfp (bx _ _ nfp lf2)) pt' (But2.but ((b2.trans bx).trans b'))
 refine eQ (λ R=>∀(H':Hp),1<=left->1<=deep->1<=room->PotAt H' p->But p H2 H'->R [↑p,↑st,⇑w1,⇑h1,↑lf,⇑deep,some (.bl dn),⇑room,none,none,none] H') (λ R hR=>?_) ?_
 ·refine%[_,Y,lf,_,0,_,Y,Y,G1 lf2,Y,Y,_,Y|?_]
  by_cases c1:left=0
  ·rw[show decide (V.int left=V.int 0)=true from QG (by rw[c1])];exact aW (aW (leaf _ But.refl pt2))
  rw[show decide (V.int left=V.int 0)=false from QJ (λ z=>c1 (V.int.inj z))];refine aP %[_,rfl,rfl,_,rfl|?_]
  by_cases c2:deep=0
  ·rw[show decide (V.int (deep:Int)=V.int 0)=true from QG (by rw[c2];rfl)];exact aW (aW (leaf _ But.refl pt2))
  rw[show decide (V.int (deep:Int)=V.int 0)=false from QJ (λ z=>c2 (by have:=V.int.inj z;lia))];refine aP %[_,rfl,_,_,rfl,rfl,_,rfl|?_]
  by_cases c3:room < 1
  ·rw[QG c3];exact aW (aW (leaf _ But.refl pt2))
  rw[QJ c3];refine aP %[_,rfl,p,6,rfl,pt2,∅,∅|λ z H3 z0 z1 pt3 b3=>%[rfl,_,rfl|?_]];refine dv (λ cc=>?_) (λ cc=>?_)
  ·exact leaf _ b3 pt3
  ·exact hR _ ⋯ ⋯ ⋯ pt3 b3
 rintro H3 left1 deep1 room1 pt3 b3;have lf3:=b3 _ _ nfp lf2;obtain⟨d',hd'⟩:∃d',deep=d'+1:=%[deep - 1|⋯]
 have ed:((deep:Int) - 1)=(d':Int):=⋯
 refine ao (λ R=>∀(H':Hp),H' lf=↥[.int (left - 1)]->PotAt H' p->But2 p lf H H'->R [↑p,↑st,⇑w1,⇑h1,↑lf,⇑deep,some (.bl dn),⇑room,none,none,none] H') (λ Dd hR=>?_) ?_
 ·refine%[_,Y,lf,_,0,_,Y,Y,G1 lf3,Y,_,_,Y,Y,_,Y,lf,_,0,0,Y,Y,lf3,Y|hR _ af ?_ (λ c o n1 n2 e=>?_)]
  ·obtain⟨x,y,hxy,e⟩:=pt3;exact%[x,y,hxy|by rw[ap (Ne.symm nfp)];exact e]
  ·rw[ap n2];exact b3 _ _ n1 (b2 _ _ n1 e)
 rintro H4 lf4 pt4 b14;have rmost:room < 10 ^ 60:=by rw[<- hroom];cases dn <;> simp only[Qa,J9,QN] <;> lia
 refine ao (λ R=>∀(pl:Int)(H':Hp),0<=pl->pl < room->PotAt H' p->But p H4 H'->R [↑p,↑st,⇑w1,⇑h1,↑lf,⇑deep,some (.bl dn),⇑room,⇑(1+pl),none,none] H') (λ Dd hR=>?_) ?_
 ·exact%[_,Y,_,Y,p,room,Y,pt4,⋯,⋯|λ pl H5 pl0 pl1 pt5 b5=>%[_,_,Y,Y|hR pl _ pl0 pl1 pt5 b5]]
 rintro pl H5 pl0 pl1 pt5 b45;have b15:=b14.trans (But2.but b45);have lf5:=b45 _ _ nfp lf4;have st5:=keepT b15 pt hlf _ _ hst;have l5:=b15 _ _ nlp nll hl0;have tp5:Tups H5 rs ks:=Tups.keep (keepT b15 pt hlf) tp;refine ao (λ R=>R [↑p,↑st,⇑w1,⇑h1,↑lf,⇑deep,some (.bl dn),⇑room,⇑(1+pl),⇑(1+pl+b),none] H5) (λ Dd hR=>?_) ?_
 ·exact%[_,Y,_,Y,st,_,0,_,Y,Y,G0 st5,Y,_,_,Y,Y|hR]
 skip
 cases dn with
 | true=>
  have hroom:w1 - b - 1=room:=hroom;refine%[_,Y,_,Y|aW ?_];refine%[_,Y,_,Y,_,Y,_,Y,_,Y,_,Y,_,_,Y,Y,p,st,l,lf,b,rs,ks,_,_,left - 1,d',(by rw[<- ed];rfl),st5,l5,nlp,nll,nfp,tp5,r8,gk,b0,⋯,⋯,⋯,⋯,lf5,⋯,⋯,pt5|λ v1 t1 lt1 H6 tv1 ok1 a1 a2 wt1 dp1 ln1 lf6 pt6 b56=>?_];have st6:=keepT b56 pt5 lf5 _ _ st5;have tp6:Tups H6 rs ks:=Tups.keep (keepT b56 pt5 lf5) tp5;refine%[_,Y,_,Y,_,Y,_,Y,_,Y,_,Y,_,_,Y,Y,_,Y,_,Y,_,Y,_,_,Y,Y,p,st,l,lf,b,rs,ks,_,_,lt1,d',(by rw[<- ed];rfl),st6,b56 _ _ nlp nll l5,nlp,nll,nfp,tp6,r8,gk,b0,⋯,⋯,⋯,⋯,lf6,a1,⋯,pt6|λ v2 t2 lt2 H7 tv2 ok2 c1 c2 wt2 dp2 ln2 lf7 pt7 b67=>?_];refine%[zS4|λ t ht=>?_];have s8:Same H7 (upd H7 t (.tup [.str "down",.int (1+pl),v1,v2])):=F9 ht;have k8:(upd H7 t (.tup [.str "down",.int (1+pl),v1,v2])) t=some (.tup [.str "down",.int (1+pl),v1,v2]):=af;rw[show upd H7 t _=upd H7 t (.tup [.str "down",.int (1+pl),v1,v2])from rfl];generalize upd H7 t (.tup [.str "down",.int (1+pl),v1,v2])=H8 at s8 k8 ⊢;have e8:w1 - (1+pl+b)=w1 - (1+pl) - b:=⋯
  refine q _ (.cut true (1+pl) t1 t2) lt2 H8 %[t,v1,v2,rfl,k8,TrV.keep (λ a xs e=>s8 _ _ (keepT b67 pt6 lf6 _ _ e)) t1 tv1|TrV.keep (λ a xs e=>s8 _ _ e) t2 tv2] %[⋯|?_] c1 ⋯ ?_ ?_ (by show((lvN t1+lvN t2:Nat):Int)<=_;lia) (s8 _ _ lf7) (pt7.same s8) (b15.trans (b56.trans (b67.trans (λ c o _ _ e=>s8 _ _ e))))
  ·rw[e8]at ok2;exact%[⋯,ok1|ok2]
  ·have:wt (.str "down")<=7:=∅
   show((wt (.str "down")+(1+(wt (toD t1)+(wt (toD t2)+0)))+1:Nat):Int)<=_;lia
  ·show PyData.depthAll [.str "down",.int (1+pl),toD t1,toD t2]+1<=_;simp only[PyData.depthAll,PyData.depth];lia
 | false=>
  have hroom:h1 - b - 1=room:=hroom;refine%[_,Y,_,Y|aP ?_];refine%[_,Y,_,Y,_,Y,_,Y,_,Y,_,Y,_,_,Y,Y,p,st,l,lf,b,rs,ks,_,_,left - 1,d',(by rw[<- ed];rfl),st5,l5,nlp,nll,nfp,tp5,r8,gk,b0,⋯,⋯,⋯,⋯,lf5,⋯,⋯,pt5|λ v1 t1 lt1 H6 tv1 ok1 a1 a2 wt1 dp1 ln1 lf6 pt6 b56=>?_];have st6:=keepT b56 pt5 lf5 _ _ st5;have tp6:Tups H6 rs ks:=Tups.keep (keepT b56 pt5 lf5) tp5;refine%[_,Y,_,Y,_,Y,_,Y,_,Y,_,Y,_,Y,_,_,Y,Y,_,Y,_,Y,_,_,Y,Y,p,st,l,lf,b,rs,ks,_,_,lt1,d',(by rw[<- ed];rfl),st6,b56 _ _ nlp nll l5,nlp,nll,nfp,tp6,r8,gk,b0,⋯,⋯,⋯,⋯,lf6,a1,⋯,pt6|λ v2 t2 lt2 H7 tv2 ok2 c1 c2 wt2 dp2 ln2 lf7 pt7 b67=>?_];refine%[zS4|λ t ht=>?_];have s8:Same H7 (upd H7 t (.tup [.str "across",.int (1+pl),v1,v2])):=F9 ht;have k8:(upd H7 t (.tup [.str "across",.int (1+pl),v1,v2])) t=some (.tup [.str "across",.int (1+pl),v1,v2]):=af;rw[show upd H7 t _=upd H7 t (.tup [.str "across",.int (1+pl),v1,v2])from rfl];generalize upd H7 t (.tup [.str "across",.int (1+pl),v1,v2])=H8 at s8 k8 ⊢;have e8:h1 - (1+pl+b)=h1 - (1+pl) - b:=⋯
  refine q _ (.cut false (1+pl) t1 t2) lt2 H8 %[t,v1,v2,rfl,k8,TrV.keep (λ a xs e=>s8 _ _ (keepT b67 pt6 lf6 _ _ e)) t1 tv1|TrV.keep (λ a xs e=>s8 _ _ e) t2 tv2] %[⋯|?_] c1 ⋯ ?_ ?_ (by show((lvN t1+lvN t2:Nat):Int)<=_;lia) (s8 _ _ lf7) (pt7.same s8) (b15.trans (b56.trans (b67.trans (λ c o _ _ e=>s8 _ _ e))))
  ·rw[e8]at ok2;exact%[⋯,ok1|ok2]
  ·have:wt (.str "across")<=7:=∅
   show((wt (.str "across")+(1+(wt (toD t1)+(wt (toD t2)+0)))+1:Nat):Int)<=_;lia
  ·show PyData.depthAll [.str "across",.int (1+pl),toD t1,toD t2]+1<=_;simp only[PyData.depthAll,PyData.depth];lia
theorem vS{f:P6}{fd:F6}(F:Fun K "_law_tree" "_law_tree" kR f fd):FnOk P w K mg base CX0 3 f fd ["_law_pot_here","_law_shop","_law_wide","_law_high","_law_left","_law_deep"] (spTreeL 0):=by
 exists sctreel
 ·obtain⟨p,st,l,lf,b,rs,ks,w1,h1,left,deep,rfl,_⟩:=h
  rfl
 ·obtain⟨p,st,l,lf,b,rs,ks,w1,h1,left,deep,_,_,_,_,_,_,_,_,_,_,_,_,_,_,_,_,z,_⟩:=h;exact absurd z (E7 _)
theorem nv{f:P6}{fd:F6}(F:Fun K "_law_tree" "_law_tree" kR f fd)(B:Blt mg)(DD:Dn P w K mg base "_law_draw" ["_law_pot_here","_law_many"] 1 (eG))(DL:Dn P w K mg base "_law_leaf" ["_law_pot_here","_law_kinds","_law_wide","_law_high"] 2 (spLeafL))(mk:∀n,FnOk P w K mg base CX0 (3+n) f fd ["_law_pot_here","_law_shop","_law_wide","_law_high","_law_left","_law_deep"] (spTreeL n)->Dn P w K mg base "_law_tree" ["_law_pot_here","_law_shop","_law_wide","_law_high","_law_left","_law_deep"] (3+n) (spTreeL n)):∀n,FnOk P w K mg base CX0 (3+n) f fd ["_law_pot_here","_law_shop","_law_wide","_law_high","_law_left","_law_deep"] (spTreeL n)
 | 0=>vS F
 | n+1=>vR F B n DD DL (mk n (nv F B DD DL mk n))
def wyS(dn:Bool):Str:=if dn=true then "down" else "across"
theorem jP{c:Bool}{a b:Prop}(h:c=true)(x:a):if c=true then a else b:=by rw[QI h];exact x
theorem dO{c:Bool}{a b:Prop}(h:c=false)(x:b):if c=true then a else b:=by rw[QH (by rw[h];exact B2)];exact x
def ofL:QA (Int×Tl)->Tls
 | []=>.nil
 | z :: r=>.cons z.1 z.2 (ofL r)
def srt(l:QA (Int×Tl)):QA (Int×Tl):=l.mergeSort λ a b=>Bool.not (aX (cP b) (cP a))
theorem bX(l:QA (Int×Tl)):(srt l).Perm l:=List.mergeSort_perm _ _
theorem oF(l:QA (Int×Tl)):(srt l).Pairwise λ x y=>aX (cP y) (cP x)=false:=by
 refine(List.pairwise_mergeSort (λ a b c h1 h2=>?_) (λ a b=>?_) l).imp (λ h=>by simpa using h)
 ·simp only[Bool.not_eq_true']at h1 h2 ⊢;cases e:aX (cP c) (cP a)with
  | false=>rfl
  | true=>
   rcases jc _ (cP b) _ e with z | z
   ·rw[z]at h2;cases h2
   ·rw[z]at h1;cases h1
 ·cases e:aX (cP b) (cP a)with
  | false=>rfl
  | true=>
   cases e2:aX (cP a) (cP b)with
   | false=>rfl
   | true=>
    have:=fW _ _ _ e e2;rw[cN]at this;cases this
theorem jQ{l l':QA (Int×Tl)}(h:l'.Perm l)(h1:l'.Pairwise λ x y=>aX (cP y) (cP x)=false):l'=srt l :=
 (h.trans (bX l).symm).eq_of_pairwise (λ a c _ _ x y=>vz (fX _ _ y x)) h1 (oF l)
theorem vT{l l':QA (Int×Tl)}(h:l'.Perm l):srt l'=srt l:=jQ ((bX l').trans h) (oF l')
def tel(b:Int):Tr->Int->Int->Tl×QA (Int×Tl)×QA (Int×Tl)
 | .rest,w,h=>(.rest,[(w,.rest)],[(h,.rest)])
 | .piece i c x y,w,h=>(.piece i c x y,[(w,.piece i c x y)],[(h,.piece i c x y)])
 | .cut true p l r,w,h=>(.row true (ofL (srt ((tel b l p h).2.1 ++ (tel b r (w - p - b) h).2.1))),(tel b l p h).2.1 ++ (tel b r (w - p - b) h).2.1,[(h,.row true (ofL (srt ((tel b l p h).2.1 ++ (tel b r (w - p - b) h).2.1))))])
 | .cut false p l r,w,h=>(.row false (ofL (srt ((tel b l w p).2.2 ++ (tel b r w (h - p - b)).2.2))),[(w,.row false (ofL (srt ((tel b l w p).2.2 ++ (tel b r w (h - p - b)).2.2))))],(tel b l w p).2.2 ++ (tel b r w (h - p - b)).2.2)
def bz(b:Int)(t:Tr)(w h:Int):Tl:=(tel b t w h).1
def bB(b:Int)(dn:Bool)(t:Tr)(w h:Int):QA (Int×Tl):=if dn=true then(tel b t w h).2.1 else(tel b t w h).2.2
def isW(dn:Bool):Tr->Bool
 | .cut d _ _ _=>d == dn
 | _=>false
theorem dD(b:Int)(dn:Bool)(p:Int)(l r:Tr)(w h:Int):bB b dn (.cut dn p l r) w h=bB b dn l (if dn=true then p else w) (if dn=true then h else p) ++ bB b dn r (if dn=true then w - p - b else w) (if dn=true then h else h - p - b):=by cases dn <;> rfl
theorem cw{b:Int}{dn:Bool}{t:Tr}(e:isW dn t=false)(w h:Int):bB b dn t w h=[(if dn=true then w else h,bz b t w h)]:=by
 cases t with
 | rest=>cases dn <;> rfl
 | piece=>cases dn <;> rfl
 | cut d=>cases d <;> cases dn <;> first | rfl | cases e
theorem cY(b:Int)(dn:Bool)(p:Int)(l r:Tr)(w h:Int):bz b (.cut dn p l r) w h=.row dn (ofL (srt (bB b dn (.cut dn p l r) w h))):=by cases dn <;> rfl
theorem dU(b:Int):∀(t:Tr)(w h:Int),(tel b t w h).2.1.length<=lvN t/\(tel b t w h).2.2.length<=lvN t/\1<=lvN t
 | .rest,_,_=>%[B3 _,B3 _|B3 _]
 | .piece ..,_,_=>%[B3 _,B3 _|B3 _]
 | .cut true p l r,w,h=>by have h1:=dU b l p h;have h2:=dU b r (w - p - b) h;show List.length (_ ++ _)<=lvN l+lvN r/\1<=lvN l+lvN r/\1<=lvN l+lvN r;rw[G6];lia
 | .cut false p l r,w,h=>by have h1:=dU b l w p;have h2:=dU b r w (h - p - b);show 1<=lvN l+lvN r/\List.length (_ ++ _)<=lvN l+lvN r/\1<=lvN l+lvN r;rw[G6];lia
theorem nw(b:Int)(dn:Bool)(t:Tr)(w h:Int):(bB b dn t w h).length<=lvN t:=by
 have:=dU b t w h;cases dn
 ·exact this.2.1
 ·exact this.1
theorem kW{m:Nat}:∀{l:QA (Int×Tl)},(∀z∈l,(tlD z.2).depth<=m)->PyData.depthAll (bH (ofL l))<=m+1
 | [],_=>E6 _
 | z :: l,h=>by have h1:=h z B7;have h2:=kW (l:=l) λ y hy=>h y (B4 _ hy);show max (max 0 (max (tlD z.2).depth 0)+1) (PyData.depthAll (bH (ofL l)))<=m+1;lia
theorem kX{m:Nat}{dn:Bool}{l:QA (Int×Tl)}(h:∀z∈l,(tlD z.2).depth<=m):(tlD (.row dn (ofL (srt l)))).depth<=m+3:=by have:=kW (l:=srt l) λ z hz=>h z ((bX l).mem_iff.mp hz);show max 0 (max (PyData.depthAll (bH (ofL (srt l)))+1) 0)+1<=m+3;lia
theorem dk(b:Int):∀(t:Tr)(w h:Int),(tlD (tel b t w h).1).depth<=3 * dT t+1/\(∀z∈(tel b t w h).2.1,(tlD z.2).depth<=3 * dT t+1)/\(∀z∈(tel b t w h).2.2,(tlD z.2).depth<=3 * dT t+1)
 | .rest,_,_=>%[B3 _,λ z hz=>by rw[C9.mp hz];exact B3 _|λ z hz=>by rw[C9.mp hz];exact B3 _]
 | .piece ..,_,_=>%[B3 _,λ z hz=>by rw[C9.mp hz];exact B3 _|λ z hz=>by rw[C9.mp hz];exact B3 _]
 | .cut true p l r,w,h=>by
  have h1:=(dk b l p h).2.1;have h2:=(dk b r (w - p - b) h).2.1;have all:∀z∈(tel b l p h).2.1 ++ (tel b r (w - p - b) h).2.1,(tlD z.2).depth<=3 * max (dT l) (dT r)+1:=λ z hz=>by
   rcases C2.mp hz with hz | hz
   ·have:=h1 z hz;lia
   ·have:=h2 z hz;lia
  have k:=kX (dn:=true) all;refine%[by show(tlD (.row true _)).depth<=3 * (max (dT l) (dT r)+1)+1;lia,λ z hz=>?_|λ z hz=>?_]
  ·have:=all z hz;show _<=3 * (max (dT l) (dT r)+1)+1;lia
  ·rw[C9.mp hz];show(tlD (.row true _)).depth<=3 * (max (dT l) (dT r)+1)+1;lia
 | .cut false p l r,w,h=>by
  have h1:=(dk b l w p).2.2;have h2:=(dk b r w (h - p - b)).2.2;have all:∀z∈(tel b l w p).2.2 ++ (tel b r w (h - p - b)).2.2,(tlD z.2).depth<=3 * max (dT l) (dT r)+1:=λ z hz=>by
   rcases C2.mp hz with hz | hz
   ·have:=h1 z hz;lia
   ·have:=h2 z hz;lia
  have k:=kX (dn:=false) all;refine%[by show(tlD (.row false _)).depth<=3 * (max (dT l) (dT r)+1)+1;lia,λ z hz=>?_|λ z hz=>?_]
  ·rw[C9.mp hz];show(tlD (.row false _)).depth<=3 * (max (dT l) (dT r)+1)+1;lia
  ·have:=all z hz;show _<=3 * (max (dT l) (dT r)+1)+1;lia
theorem oG{b:Int}{dn:Bool}{t:Tr}{w h:Int}{z:Int×Tl}(hz:z∈bB b dn t w h):(tlD z.2).depth<=3 * dT t+1:=by
 have:=dk b t w h;cases dn
 ·exact this.2.2 z hz
 ·exact this.2.1 z hz
mutual
def TlV(H:Hp):Tl->V->Prop
 | .rest,v=>∃a,v=.ref a/\H a=some (.tup [.str "rest"])
 | .piece i c x y,v=>∃a,v=.ref a/\H a=some (.tup [.str "piece",.int i,.bl c,.int x,.int y])
 | .row dn r,v=>∃a q xs,v=.ref a/\H a= ~~~[.str (wyL dn),.ref q]/\H q= ~~~xs/\TlsV H r xs
def TlsV(H:Hp):Tls->QA V->Prop
 | .nil,xs=>xs=[]
 | .cons n t r,xs=>∃a u ys,xs=.ref a :: ys/\H a= ~~~[.int n,u]/\TlV H t u/\TlsV H r ys
end
mutual
theorem TlV.keep{H H':Hp}(k:∀a xs,H a= ~~~xs->H' a= ~~~xs):∀(t:Tl){v:V},TlV H t v->TlV H' t v
 | .rest,_,h=>by rw[TlV]at h ⊢;obtain⟨a,e,h⟩:=h;exact%[a,e|k _ _ h]
 | .piece ..,_,h=>by rw[TlV]at h ⊢;obtain⟨a,e,h⟩:=h;exact%[a,e|k _ _ h]
 | .row dn r,_,h=>by rw[TlV]at h ⊢;obtain⟨a,q,xs,e,h1,h2,h3⟩:=h;exact%[a,q,xs,e,k _ _ h1,k _ _ h2|TlsV.keep k r h3]
theorem TlsV.keep{H H':Hp}(k:∀a xs,H a= ~~~xs->H' a= ~~~xs):∀(t:Tls){v:QA V},TlsV H t v->TlsV H' t v
 | .nil,_,h=>by rw[TlsV]at h ⊢;exact h
 | .cons n t r,_,h=>by rw[TlsV]at h ⊢;obtain⟨a,u,ys,e,h1,h2,h3⟩:=h;exact%[a,u,ys,e,k _ _ h1,TlV.keep k t h2|TlsV.keep k r h3]
end
mutual
theorem TlV.dat{K:C4}{H:Hp}:∀(t:Tl){v:V},TlV H t v->DatV K H v (tlD t)
 | .rest,_,h=>by rw[TlV]at h;obtain⟨a,e,h⟩:=h;subst e;exact .tup (G0 h) (.cons (.str _) .nil)
 | .piece ..,_,h=>by rw[TlV]at h;obtain⟨a,e,h⟩:=h;subst e;exact .tup (G0 h) (.cons (.str _) (.cons (.int _) (.cons (.bl _) (.cons (.int _) (.cons (.int _) .nil)))))
 | .row dn r,_,h=>by rw[TlV]at h;obtain⟨a,q,xs,e,h1,h2,h3⟩:=h;subst e;exact .tup (G0 h1) (.cons (.str _) (.cons (.tup (G0 h2) (TlsV.dat r h3)) .nil))
theorem TlsV.dat{K:C4}{H:Hp}:∀(t:Tls){v:QA V},TlsV H t v->DatVs K H v (bH t)
 | .nil,_,h=>by rw[TlsV]at h;subst h;exact .nil
 | .cons n t r,_,h=>by rw[TlsV]at h;obtain⟨a,u,ys,e,h1,h2,h3⟩:=h;subst e;exact .cons (.tup (G0 h1) (.cons (.int _) (.cons (TlV.dat t h2) .nil))) (TlsV.dat r h3)
end
def ItV(H:Hp)(v:V)(z:Int×Tl):Prop:=∃a u,v=.ref a/\H a= ~~~[.int z.1,u]/\TlV H z.2 u
theorem ItV.keep{H H':Hp}(k:∀a xs,H a= ~~~xs->H' a= ~~~xs){v:V}{z:Int×Tl}(h:ItV H v z):ItV H' v z:=by obtain⟨a,u,e,h1,h2⟩:=h;exact%[a,u,e,k _ _ h1|TlV.keep k _ h2]
theorem ItV.dat{K:C4}{H:Hp}{a:P6}{z:Int×Tl}(h:ItV H (.ref a) z):DatV K H (.ref a) (.tuple [.int z.1,tlD z.2]):=by obtain⟨c,u,e,h1,h2⟩:=h;cases e;exact .tup (G0 h1) (.cons (.int _) (.cons (TlV.dat _ h2) .nil))
theorem lX{H:Hp}:∀{vs:QA V}{zs:QA (Int×Tl)},Paired (ItV H) vs zs->TlsV H (ofL zs) vs
 | _,_,.nil=>by rw[ofL,TlsV]
 | _,_,.cons ⟨a,u,e,h1,h2⟩ r=>by rw[ofL,TlsV];exact%[a,u,_,by rw[e],h1,h2|lX r]
theorem oH{H:Hp}:∀{vs:QA V}{zs:QA (Int×Tl)},Paired (ItV H) vs zs->∃ps:QA (P6×(Int×Tl)),vs=ps.map (λ z=>V.ref z.1)/\zs=ps.map (·.2)/\∀z∈ps,ItV H (.ref z.1) z.2
 | _,_,.nil=>%[[],Y,Y|λ z hz=>by cases hz]
 | _,_,.cons (b:=z) ⟨a,u,e,h1,h2⟩ r=>by
  obtain⟨ps,e1,e2,h⟩:=oH r;refine%[(a,z) :: ps,by rw[e,e1];rfl,by rw[e2];rfl|λ y hy=>?_];rcases G5.mp hy with hy | hy
  ·rw[hy];exact%[a,u,Y,h1|h2]
  ·exact h y hy
theorem oI{H:Hp}:∀{ps:QA (P6×(Int×Tl))},(∀z∈ps,ItV H (.ref z.1) z.2)->Paired (ItV H) (ps.map λ z=>V.ref z.1) (ps.map (·.2))
 | [],_=>.nil
 | z :: ps,h=>.cons (h z B7) (oI λ y hy=>h y (B4 _ hy))
theorem dP:∀t:Tr,szT t+1=2 * lvN t
 | .rest=>rfl
 | .piece ..=>rfl
 | .cut _ _ l r=>by have h1:=dP l;have h2:=dP r;show szT l+szT r+1+1=2 * (lvN l+lvN r);lia
theorem gH:∀t:Tr,dT t+1<=lvN t
 | .rest=>B3 _
 | .piece ..=>B3 _
 | .cut _ _ l r=>by have h1:=gH l;have h2:=gH r;show max (dT l) (dT r)+1+1<=lvN l+lvN r;lia
theorem Room.units220{k:Nat}{A:Around}(r:Room k A)(h:2<=k):A.units+220 < cLine:=by have:=r.un;lia
structure Wa where
 w:Int
 h:Int
 t:Tr
def WaAt(p:P6)(H0 H:Hp)(v:V)(z:Wa):Prop:=∃a c u d,v=.ref a/\H a= ~~~[.ref c,u]/\H c= ~~~[.int z.w,.int z.h]/\Dt p H0 u d/\TrD z.t d
theorem WaAt.keep{p:P6}{H0 H H':Hp}(k:∀a xs,H a= ~~~xs->H' a= ~~~xs){v:V}{z:Wa}(h:WaAt p H0 H v z):WaAt p H0 H' v z:=by obtain⟨a,c,u,d,e,h1,h2,h3,h4⟩:=h;exact%[a,c,u,d,e,k _ _ h1,k _ _ h2,h3|h4]
def wsz(ts:QA Wa):Nat:=(ts.map λ t=>szT t.t).sum
theorem hV(a b:QA Wa):wsz (a ++ b)=wsz a+wsz b:=by unfold wsz;rw[I9,M7]
theorem rz:∀ts:QA Wa,ts.length<=wsz ts
 | []=>B3 _
 | t :: r=>by have:=rz r;have:=nq t.t;show r.length+1<=szT t.t+wsz r;lia
def wrw(b:Int)(dn:Bool)(ts:QA Wa):QA (Int×Tl):=ts.flatMap λ z=>bB b dn z.t z.w z.h
theorem lY(b:Int)(dn:Bool)(s t:QA Wa):wrw b dn (s ++ t)=wrw b dn s ++ wrw b dn t:=List.flatMap_append
theorem jp(b:Int)(dn:Bool)(z:Wa):wrw b dn [z]=bB b dn z.t z.w z.h:=by show bB b dn z.t z.w z.h ++ []=_;rw[J7]
theorem GG(dn:Bool):inV (V.str (wyL dn)) [V.str "down",V.str "across"]=true:=by cases dn <;> decide +kernel
theorem GH(d dn:Bool):decide (V.str (wyL d)=V.str (wyL dn))=(d == dn):=by cases d <;> cases dn <;> decide +kernel
def hdW:Tr->Str
 | .rest=>"rest"
 | .piece ..=>"piece"
 | .cut dn _ _ _=>wyL dn
theorem vU(t:Tr)(dn:Bool):decide (V.str (hdW t)=V.str (wyL dn))=isW dn t:=by
 cases t with
 | rest=>cases dn <;> decide +kernel
 | piece=>
  show decide (V.str "piece" = V.str (wyL dn))=false;cases dn <;> decide +kernel
 | cut d=>exact GH d dn
theorem TrD.head{t:Tr}{d:PyData}(h:TrD t d):∃ys,aQ d=some (.str (hdW t) :: ys):=by
 cases t with
 | rest=>exact%[_|h]
 | piece=>exact%[_|h]
 | cut dn p l r=>
  obtain⟨dl,dr,e,_⟩:=h;exact%[_|e]
def nA:Tr->Bool
 | .cut ..=>true
 | _=>false
theorem oJ{t:Tr}(h:nA t=true):∃dn p l r,t=.cut dn p l r:=by
 cases t with
 | cut dn p l r=>exact%[_,_,_,_|Y]
 | rest=>cases h
 | piece=>cases h
theorem lZ(t:Tr):inV (V.str (hdW t)) [V.str "down",V.str "across"]=nA t:=by
 cases t with
 | cut dn p l r=>show inV (V.str (wyL dn)) [V.str "down",V.str "across"]=true;cases dn <;> decide +kernel
 | rest=>show inV (V.str "rest") [V.str "down",V.str "across"]=false;decide +kernel
 | piece=>show inV (V.str "piece") [V.str "down",V.str "across"]=false;decide +kernel
theorem Dt.view{p:P6}{H:Hp}{v:V}{d:PyData}{t:Tr}(h:Dt p H v d)(td:TrD t d):∃a xs,v=.ref a/\(H a=↥(.str (hdW t) :: xs)\/H a= ~~~(.str (hdW t) :: xs))/\(∀dn p0 l r,t=.cut dn p0 l r->∃dl dr lv rv,xs=[.int p0,lv,rv]/\TrD l dl/\TrD r dr/\Dt p H lv dl/\Dt p H rv dr)/\(nA t=false->∀b w h H' l,H' l= ~~~(.str (hdW t) :: xs)->TlV H' (bz b t w h) (.ref l)):=by
 cases t with
 | rest=>
  obtain⟨a,e,hx⟩:=h.rest1 td;exact⟨a,_,e,hx,λ _ _ _ _ z=>(by cases z),λ _ b w h H' l hl=>by show TlV _ .rest _;rw[TlV];exact%[l,Y|hl]⟩
 | piece i c x y=>
  obtain⟨a,e,hx⟩:=h.piece1 td;exact⟨a,_,e,hx,λ _ _ _ _ z=>(by cases z),λ _ b w h H' l hl=>by show TlV _ (.piece i c x y) _;rw[TlV];exact%[l,Y|hl]⟩
 | cut dn p0 l r=>
  obtain⟨dl,dr,er,tl,tr⟩:=td;obtain⟨a,lv,rv,e,hx,h2,h3⟩:=h.cut1 er;exact⟨a,_,e,hx,λ _ _ _ _ z=>(by cases z;exact%[_,_,_,_,Y,tl,tr,h2|h3]),λ z=>by cases z⟩
theorem GI{dn:Bool}{t:Tr}(h:isW dn t=true):∃p l r,t=.cut dn p l r:=by
 cases t with
 | rest=>cases h
 | piece=>cases h
 | cut d p l r=>
  have:d=dn:=by simpa[isW]using h
  rw[this];exact%[_,_,_|Y]
theorem AB(dn:Bool)(p:Int)(l r:Tr):dT l < dT (.cut dn p l r)/\dT r < dT (.cut dn p l r)/\szT (.cut dn p l r)=szT l+szT r+1/\lvN (.cut dn p l r)=lvN l+lvN r:=by
 refine%[?_,?_,Y|Y]
 ·show dT l < max (dT l) (dT r)+1;lia
 ·show dT r < max (dT l) (dT r)+1;lia
inductive spCheckT(C:P6)(vs:QA V)(H:Hp)(Q:VK)(E_:XK):Prop
|mk(pp s:P6)(b w h:Int)(ks:QA Kd)(v:V)(d:PyData)(_:vs=[.ref s,.int w,.int h,v])(_:ShopAt C H s b ks)(_:1<=w)(_:1<=h)(_:Dt pp H v d)(_:wt d<=30000)(_:isT b ks w h d=true)(_:∀H',Same H H'->Q .non H')
inductive spSideA(vs:QA V)(H:Hp)(Q:VK)(E_:XK):Prop
|mk(c:P6)(w h:Int)(dn:Bool)(_:vs=[.ref c,.str (wyL dn)])(_:H c= ~~~[.int w,.int h])(_:Q (.int (if dn=true then w else h)) H)
inductive spTell(n:Nat)(vs:QA V)(H:Hp)(Q:VK)(E_:XK):Prop
|mk(pp c:P6)(b w h:Int)(v:V)(d:PyData)(t:Tr)(_:vs=[.int b,.ref c,v])(_:H c= ~~~[.int w,.int h])(_:Dt pp H v d)(_:TrD t d)(_:lvN t<=63)(_:dT t < n)(_:∀(u:V)(H':Hp),TlV H' (bz b t w h) u->Same H H'->Q u H')
inductive spTellO(C:P6)(vs:QA V)(H:Hp)(Q:VK)(E_:XK):Prop
|mk(pp s:P6)(b w h:Int)(ks:QA Kd)(v:V)(d:PyData)(t:Tr)(_:vs=[.ref s,.int w,.int h,v])(_:ShopAt C H s b ks)(_:1<=w)(_:1<=h)(_:Dt pp H v d)(_:wt d<=30000)(_:TrD t d)(_:okT b ks w h t)(_:lvN t<=63)(_:dT t < 50)(_:∀(u:V)(H':Hp),TlV H' (bz b t w h) u->Same H H'->Q u H')
theorem sccheckt:FnScope ["shop","wide","high","thing"] ["shop","wide","high","thing"] (defScope eI):=%[Y,Y,Y,∅,Y,∅|∅]
theorem tj{f C:P6}{fd:F6}(F:Fun K "check_tree" "check_tree" eI f fd)(DI:Dn P w K mg base "is_tree" ["shop","wide","high","thing"] 6 (spIsTree C)):FnOk P w K mg base CX0 7 f fd ["shop","wide","high","thing"] (spCheckT C):=by
 exists sccheckt
 ·obtain⟨pp,s,b,w1,h1,ks,v,d,rfl,_⟩:=h
  rfl
 refine cV λ G9 k9=>?_;obtain⟨pp,s,b,w1,h1,ks,v,d,rfl,SH,w0,h0,hd,dz,ht,q⟩:=h;refine k9 ?_;have nd:=sccheckt.nd;refine%[_,(@ag _ _ _ ((@bj _ _ _ _ (@aT _ _ _ (DI∪((pv 0)^^^((pv 1)^^^((pv 2)^^^((pv 3)^^^ab))))) (by intro _;rfl)))<|>(@ag _ _ _ cF)<|>aF))|?_];refine%[_,Y,_,Y,_,Y,_,Y,pp,s,b,w1,h1,ks,v,d,Y,SH,w0,h0,hd,dz|λ H1 s1=>%[_,Y|?_]];rw[ht];exact aP (q _ s1)
theorem scsidea:FnScope ["part","way"] ["part","way"] (defScope eJ):=%[Y,Y,Y,∅,Y,∅|∅]
theorem vV{f wa:P6}{fd:F6}(F:Fun K "side_along" "side_along" eJ f fd)(Z:TrC K mg wa):FnOk P w K mg base CX0 1 f fd ["part","way"] (spSideA):=by
 exists scsidea
 ·obtain⟨c,w1,h1,dn,rfl,_⟩:=h
  rfl
 obtain⟨c,w1,h1,dn,rfl,hc,q⟩:=h;have nd:=scsidea.nd;obtain⟨tdn,hdn⟩:=Z.dn;refine%[_,((gJ ((pv 1)<*>cf<*>(aN (v:=.str "down") Y hdn %[tdn|Y])) ((pv 0)&&&ix_tup&&&ae) ((pv 0)&&&ix_tup&&&ae))⁻¹)|?_];dsimp only[bJ];refine%[_,Y,Y,_,Y|?_];cases dn with
 | true=>exact jP ∅ %[_,rfl,c,_,0,_,rfl,rfl,G0 hc,rfl|q]
 | false=>exact dO ∅ %[_,rfl,c,_,1,_,rfl,rfl,G0 hc,rfl|q]
theorem sctell:FnScope ["blade","part","tree","way","row","waiting","inner_part","inner_tree","first","second"] ["blade","part","tree"] (defScope bL):=%[Y,Y,Y,∅,Y,∅|∅]
theorem yz{f wa:P6}{fd:F6}(F:Fun K "telling_of_part" "telling_of_part" bL f fd)(B:Blt mg)(Z:TrC K mg wa)(n:Nat)(n60:n<=60)(DC:Dn P w K mg base "cut_parts" ["blade","part","way","p"] 1 (spParts2))(DSA:Dn P w K mg base "side_along" ["part","way"] 1 (spSideA))(DT:Dn P w K mg base "telling_of_part" ["blade","part","tree"] (3+n) (spTell n)):FnOk P w K mg base CX0 (3+(n+1)) f fd ["blade","part","tree"] (spTell (n+1)):=by
 exists sctell
 ·obtain⟨pp,c,b,w1,h1,v,d,t,rfl,_⟩:=h
  rfl
 refine cV λ G9 k9=>?_;obtain⟨pp,c,b,w1,h1,v,d,t,rfl,hc,hd,td,l63,dn0,q⟩:=h;refine k9 ?_;have nd:=sctell.nd;have hu:=Room.units220 hr (show 2<=3+n by lia);refine%[_,((3∣((pv 2)&&&bc&&&ae))<<<(((@aB _ _ _ _ _ _ _ _ gR (pv 3) (aN (v:=.ref wa) Y Z.wy Y) Y)<|>((@bo _ _ _ _ _ _ _ _ _ bh Y B.tuple QK ((pv 2)^^^ab) ∅ ∅ Y Y)⁻¹)<|>aF)<<<((4∣(@bu _ _ _ _ ab))<<<((5∣(@bu _ _ _ _ ((@aD _ _ _ _ _ ((pv 1)^^^((pv 2)^^^ab)))^^^ab)))<<<((gK E2 (ft (pv 5) (λ _=>Y)) ((@bq _ _ _ _ _ _ (jy F3 Qc Qd jz (pv 5)) (aU Y (6•(7•aJ))) Y Y Y)>>>((((pv 7)&&&bc&&&ae)<*>cf<*>(pv 3))<|>((@bq _ _ _ _ _ _ (@aq _ _ _ _ _ _ _ _ _ _ DC (hr.mono (show 1<=3+n by lia)) Y ((pv 0)^^^((pv 6)^^^((pv 3)^^^(((pv 7)&&&bc&&&ae)^^^ab)))) ∅ Y Y) (aU Y (8•(9•aJ))) Y Y Y)>>>(@aO _ _ _ _ (@dG _ _ _ _ _ _ _ _ _ _ _ _ F3 PySem.F.slot_list_extend PySem.F.type_list_extend dX (pv 5) ((@bu _ _ _ _ ((@aD _ _ _ _ _ ((pv 8)^^^(((pv 7)&&&bc&&&ae)^^^ab)))^^^((@aD _ _ _ _ _ ((pv 9)^^^(((pv 7)&&&bc&&&ae)^^^ab)))^^^ab)))^^^ab) Y Y Y Y Y) Y))<|>(@ag _ _ _ (@aO _ _ _ _ (@dG _ _ _ _ _ _ _ _ _ _ _ _ F3 PySem.F.slot_list_append PySem.F.type_list_append dj (pv 4) ((@aD _ _ _ _ _ ((@aq _ _ _ _ _ _ _ _ _ _ DSA (hr.mono (show 1<=3+n by lia)) Y ((pv 6)^^^((pv 3)^^^ab)) ∅ Y Y)^^^((@aq _ _ _ _ _ _ _ _ _ _ DT (hr.mono (show 3+n<=3+n by lia)) Y ((pv 0)^^^((pv 6)^^^((pv 7)^^^ab))) ∅ Y Y)^^^ab)))^^^ab) Y Y Y Y Y) Y)))))<<<((@aD _ _ _ _ _ ((pv 3)^^^((@bo _ _ _ _ _ _ _ _ _ bh Y B.tuple PyProof.Rows.boot_tuple ((@aI _ _ _ _ _ _ _ _ _ (gX hu) Y B.sorted PyProof.Rows.boot_sorted ((pv 4)^^^ab) ∅ ∅ Y Y)^^^ab) ∅ ∅ Y Y)^^^ab)))⁻¹))))))|?_];dsimp only[bJ];have sz:(40000:Nat)<=sizeLine:=∅
 refine cV λ G9 k9=>?_;obtain⟨a,xs,rfl,hx,vw,lf⟩:=hd.view td;refine k9 ?_;refine%[_,Y|ixR (Same.refl _) hx (aH (E3 _) rfl) %[_,Y,wa,_,Y,.inr (Z.wq _),Y,Y,_,Y|?_]];rw[lZ];cases ec:nA t with
 | false=>
  refine jP rfl ?_;rcases hx with hx | hx
  ·exact%[_,Y,a,_,Y|.inl %[G1 hx|λ l hl=>q _ _ (lf ec _ _ _ _ _ af) (F9 hl)]]
  ·exact%[_,Y,a,_,Y|.inr %[G0 hx|q _ _ (lf ec _ _ _ _ _ hx) (Same.refl _)]]
 | true=>
  obtain⟨dn,pl,tl,tr,et⟩:=oJ ec;rw[show hdW t=wyL dn by rw[et];rfl];have szt:=dP t;have dl:=gH t;refine dO rfl %[∅|λ rl hrl=>?_];refine bZ hrl λ H0 k0 s0=>?_;refine%[_,Y,_,Y,zS2|λ t' ht=>?_];refine bZ ht λ Ha ka sa=>?_;refine%[zS1|λ wl hwl=>?_];refine bZ hwl λ Hb kb sb=>?_;have fw:H wl=none:=(s0.trans sa).free hwl;have nrw:rl≠wl:=λ z=>by rw[<- z,sa _ _ k0]at hwl;cases hwl
  have sab:=(s0.trans sa).trans sb;obtain⟨v,ev⟩:∃v,v=V.ref a:=%[_|Y]
  rw[<- ev]at hd ka ⊢;clear ev hx vw lf;refine%[λ m σ H'=>∃(vs us:QA V)(ts:QA Wa)(L:QA (Int×Tl))(v6 v7 v8 v9:P8 V),σ=[⇑b,↑c,some v,some (.str (wyL dn)),↑rl,↑wl,v6,v7,v8,v9]/\m=wsz ts/\H' wl=↥vs/\H' rl=↥us/\Paired (WaAt pp H H') vs ts/\Paired (ItV H') us L/\(L ++ wrw b dn ts).Perm (bB b dn t w1 h1)/\(∀z∈ts,(z.t=t\/dT z.t < dT t)/\lvN z.t<=63)/\wsz ts<=10000/\Same H H',%[_,[.ref t'],[],[%[w1,h1|t]],[],none,none,none,none,Y,Y,kb,sb _ _ (sa _ _ k0),.cons %[t',c,v,d,Y,sb _ _ ka,sab _ _ hc,hd|td] .nil,.nil,?_,?_,(by show szT t+0<=10000;lia)|sab]|?_]
  ·rw[jp];exact .refl _
  ·intro z hz;rw[C9.mp hz];exact%[.inl rfl|l63]
  intro m σ H1 hI9;refine cV λ G9 k9=>?_;obtain⟨vs,us,ts,L,v6,v7,v8,v9,e8,e9,hw,hl,pr,pu,pm,dz,sz1,s1⟩:=hI9;rcases wlP pr with⟨rfl,rfl⟩ | ⟨vs',ts',v0,t0,rfl,rfl,prp,sp,c0,u,du,rfl,hsp,hc0,hdu,tdu⟩
  ·subst e8 e9;refine k9 ?_;refine%[_,Y,_,.inl %[_,G1 hw|Y]|?_];rw[show wrw b dn []=[]from rfl,J7]at pm;obtain⟨ps,rfl,rfl,ips⟩:=oH pu;have ll:=nw b dn t w1 h1;have pl':=pm.length_eq;rw[G4]at pl';refine aP %[_,rfl,_,rfl,rl,ps,rfl,G1 hl,⋯,λ z hz=>%[(ips z hz).dat|?_]|λ l ps' hl' pm' pw=>?_]
   ·have:=oG (pm.mem_iff.mp (K7.mpr %[z,hz|Y]));lia
   refine bZ hl' λ H2 k2 s2=>?_;refine%[l,_,Y|.inl %[G1 k2|λ tq htq=>?_]];refine bZ htq λ H3 k3 s3=>?_;refine%[zS2|λ fr hfr=>?_];refine bZ hfr λ H4 k4 s4=>?_;have s14:=s2.trans (s3.trans s4);refine q _ H4 ?_ (s1.trans s14);rw[et,cY,<- et,TlV];refine%[fr,tq,_,Y,k4,s4 _ _ k3|?_];have ee:ps'.map (·.2)=srt (bB b dn t w1 h1):=jQ ((pm'.map _).trans pm) pw;rw[<- ee];exact lX (oI λ z hz=>(ips z (pm'.mem_iff.mp hz)).keep λ a xs e=>s14 _ _ e)
  subst e8 e9;refine k9 ?_;refine%[_,Y,_,.inl %[_,G1 hw|Y]|?_];have ssz:wsz (ts' ++ [t0])=wsz ts'+szT t0.t:=by rw[hV];show _+(szT t0.t+0)=_;lia
  rw[ssz]at sz1;refine jP (show(!(vs' ++ [V.ref sp]).isEmpty)=true by cases vs' <;> rfl) %[λ σ' H'=>∃(vs us:QA V)(ts:QA Wa)(L:QA (Int×Tl))(v6 v7 v8 v9:P8 V),σ'=[⇑b,↑c,some v,some (.str (wyL dn)),↑rl,↑wl,v6,v7,v8,v9]/\wsz ts < wsz (ts' ++ [t0])/\H' wl=↥vs/\H' rl=↥us/\Paired (WaAt pp H H') vs ts/\Paired (ItV H') us L/\(L ++ wrw b dn ts).Perm (bB b dn t w1 h1)/\(∀z∈ts,(z.t=t\/dT z.t < dT t)/\lvN z.t<=63)/\wsz ts<=10000/\Same H H',λ σ' H' ⟨vs,us,ts,L,v6,v7,v8,v9,e,l,r⟩=>%[_,l,vs,us,ts,L,v6,v7,v8,v9,e,rfl|r]|?_];rw[lY,jp]at pm;have ml:(vs' ++ [V.ref sp]).length=vs'.length+1:=by rw[G6];rfl
  have keep:∀{Hx:Hp}{o:HO},Same H Hx->Same H (upd Hx wl o):=λ {Hx o} sx c oo e=>by rw[ap (λ z=>by rw[z,fw]at e;cases e)];exact sx _ _ e
  have keepL:∀{Hx:Hp}{o:HO},Same H Hx->Same H (upd Hx rl o):=λ {Hx o} sx c oo e=>by rw[ap (λ z=>by rw[z,hrl]at e;cases e)];exact sx _ _ e
  refine ao (λ R=>∀(H':Hp),H' wl=↥vs'->H' rl=↥us->Paired (WaAt pp H H') vs' ts'->Paired (ItV H') us L->H' c0= ~~~[.int t0.w,.int t0.h]->Same H H'->R [⇑b,↑c,some v,some (.str (wyL dn)),↑rl,↑wl,↑c0,some u,v8,v9] H') (λ Dd hR=>?_) ?_
  ·refine%[_,Y,.inl %[Y,_|G1 hw],wl,_,.ref sp,Y,Y,hw,(by rw[ml];simp)|?_];rw[O1];have kt:∀{c:P6}{xs:QA V},H1 c= ~~~xs->(upd H1 wl (.lst vs')) c= ~~~xs:=λ {c xs} e=>by rw[ap (λ z=>by rw[z,hw]at e;cases e)];exact e
   refine%[sp,_,Y,G0 (kt hsp),Y,_,_,Y,_,_,Y,Y|?_];exact hR _ af (by rw[ap nrw];exact hl) (G2 prp λ v t h=>h.keep λ a xs e=>kt e) (G2 pu λ v t h=>h.keep λ a xs e=>kt e) (kt hc0) (keep s1)
  clear hw hl pr prp pu hsp hc0;rintro H2 hw2 hl2 pr2 pu2 hc2 s02;refine cV λ G9 k9=>?_;obtain⟨a0,xs0,rfl,hx0,vw,_⟩:=hdu.view tdu;refine k9 ?_;have sl:=rz ts';have pl2:=E1 pr2;refine%[_,Y|ixR s02 hx0 (aH (E3 _) rfl) %[_,Y,Y,_,Y|?_]];have dz0:=dz t0 (C2.mpr (.inr (C9.mpr rfl)));have dz':∀z∈ts',(z.t=t\/dT z.t < dT t)/\lvN z.t<=63:=λ z hz=>dz z (C2.mpr (.inl hz));cases hw0:isW dn t0.t with
  | false=>
   have nt:t0.t≠t:=λ z=>by rw[z,et]at hw0;simp[isW]at hw0
   have dlt:=dz0.1.resolve_left nt;have sp0:=nq t0.t;have pul:=E1 pu2;have l0:=gH t0.t;rw[cw hw0]at pm;have lml:=nw b dn t w1 h1;have pml:=pm.length_eq;rw[G6,G6,List.length_singleton]at pml;refine dO (show decide (V.str (hdW t0.t)=V.str (wyL dn))=false by rw[vU];exact hw0) %[_,rfl,.inl %[rfl,_|G1 hl2],_,rfl,_,rfl,c0,t0.w,t0.h,dn,rfl,hc2,_,rfl,_,rfl,_,rfl,pp,c0,b,t0.w,t0.h,.ref a0,du,t0.t,rfl,hc2,hdu.same s02,tdu,dz0.2,⋯|λ uu H3 tv s3=>%[zS2|λ it hit=>?_]];refine bZ hit λ H4 k4 s4=>?_;have s24:=s3.trans s4;have hl4:=s24 _ _ hl2;refine%[rl,us,_,Y,Y,hl4,⋯|?_];have kt:∀{c:P6}{xs:QA V},H4 c= ~~~xs->(upd H4 rl (.lst (us ++ [.ref it]))) c= ~~~xs:=λ {c xs} e=>by rw[ap (λ z=>by rw[z,hl4]at e;cases e)];exact e
   refine%[vs',us ++ [.ref it],ts',L ++ [(if dn=true then t0.w else t0.h,bz b t0.t t0.w t0.h)],_,_,_,_,Y,by rw[ssz];lia,by rw[ap (Ne.symm nrw)];exact s24 _ _ hw2,af,G2 pr2 λ v t h=>h.keep λ a xs e=>kt (s24 _ _ e),eZ (G2 pu2 λ v t h=>h.keep λ a xs e=>kt (s24 _ _ e)) (.cons %[it,uu,Y,kt k4|TlV.keep (λ a xs e=>kt (s4 _ _ e)) _ tv] .nil),?_,dz',⋯|keepL (s02.trans s24)];refine List.Perm.trans ?_ pm;rw[N1];exact(List.Perm.append_left _ N7)
  | true=>
   refine cV λ G9 k9=>?_;obtain⟨p0,l0,r0,e0⟩:=GI hw0;obtain⟨dl0,dr0,lv,rv,rfl,tdl,tdr,gl,gr⟩:=vw _ _ _ _ e0;rw[e0]at hx0 dz0;refine k9 ?_;obtain⟨q1,q2,q3,q4⟩:=AB dn p0 l0 r0;have szt0:szT t0.t=szT l0+szT r0+1:=by rw[e0];exact q3
   have hx0:H a0=↥[.str (wyL dn),.int p0,lv,rv]\/H a0= ~~~[.str (wyL dn),.int p0,lv,rv]:=hx0;refine jP (show decide (V.str (hdW t0.t)=V.str (wyL dn))=true by rw[vU];exact hw0) ?_;refine ao (λ R=>∀t1 t2 (H':Hp),H' t1= ~~~[.int (if dn=true then p0 else t0.w),.int (if dn=true then t0.h else p0)]->H' t2= ~~~[.int (if dn=true then t0.w - p0 - b else t0.w),.int (if dn=true then t0.h else t0.h - p0 - b)]->Same H2 H'->R [⇑b,↑c,some v,some (.str (wyL dn)),↑rl,↑wl,↑c0,↑a0,↑t1,↑t2] H') (λ Dd hR=>?_) ?_
   ·refine%[_,Y,_,Y,_,Y,_,Y|ixR s02 hx0 (aH ∅ rfl) %[b,t0.w,t0.h,p0,c0,dn,Y,hc2|λ u t1 t2 H3 ku k1 k2 s3=>%[u,_,Y,G0 ku,Y,_,_,Y,_,_,Y,Y|hR t1 t2 _ ?_ ?_ s3]]]
    ·rw[k1];cases dn <;> rfl
    ·rw[k2];cases dn <;> rfl
   rintro t1 t2 H3 k1 k2 s23;have s03:=s02.trans s23;refine%[_,Y,.inl %[Y,_|G1 (s23 _ _ hw2)],_,Y,_,Y|ixR s03 hx0 (aH ∅ rfl) %[zS2|λ i1 hi1=>?_]];refine bZ hi1 λ H4 k4 s4=>?_;refine%[_,Y,_,Y|ixR (s03.trans s4) hx0 (aH ∅ rfl) %[zS2|λ i2 hi2=>?_]];refine bZ hi2 λ H5 k5 s5=>?_;refine%[zS2|λ lu hlu=>?_];refine bZ hlu λ H6 k6 s6=>?_;have s36:=s4.trans (s5.trans s6);have s26:=s23.trans s36;have hw6:=s26 _ _ hw2;refine%[wl,lu,_,_,Y,Y,hw6,k6,by show _+2<=_;lia|?_];have kt:∀{c:P6}{xs:QA V},H6 c= ~~~xs->(upd H6 wl (.lst (vs' ++ [.ref i1,.ref i2]))) c= ~~~xs:=λ {c xs} e=>by rw[ap (λ z=>by rw[z,hw6]at e;cases e)];exact e
   have dl9:dT l0 < dT t/\dT r0 < dT t:=by
    rcases dz0.1 with z | z
    ·rw[<- z];exact%[q1|q2]
    ·exact%[Nat.lt_trans q1 z|Nat.lt_trans q2 z]
   refine%[vs' ++ [.ref i1,.ref i2],us,ts' ++ ([%[if dn=true then p0 else t0.w,if dn=true then t0.h else p0|l0]] ++ [%[if dn=true then t0.w - p0 - b else t0.w,if dn=true then t0.h else t0.h - p0 - b|r0]]),L,_,_,_,_,Y,?_,af,by rw[ap nrw];exact s26 _ _ hl2,eZ (G2 pr2 λ v t h=>h.keep λ a xs e=>kt (s26 _ _ e)) (.cons %[i1,t1,lv,dl0,Y,kt (s6 _ _ (s5 _ _ k4)),kt (s36 _ _ k1),gl|tdl] (.cons %[i2,t2,rv,dr0,Y,kt (s6 _ _ k5),kt (s36 _ _ k2),gr|tdr] .nil)),G2 pu2 λ v t h=>h.keep λ a xs e=>kt (s26 _ _ e),?_,λ z hz=>?_,?_|keep (s02.trans s26)]
   ·rw[ssz,hV,hV];show _+((szT l0+0)+(szT r0+0)) < _;lia
   ·rw[lY,lY,jp,jp];rw[e0,dD]at pm;exact pm
   ·rcases C2.mp hz with hz | hz
    ·exact dz' z hz
    ·rcases C2.mp hz with hz | hz
     ·rw[C9.mp hz];exact%[.inr dl9.1|by show lvN l0<=63;have:=dz0.2;have:=(dU b r0 0 0).2.2;lia]
     ·rw[C9.mp hz];exact%[.inr dl9.2|by show lvN r0<=63;have:=dz0.2;have:=(dU b l0 0 0).2.2;lia]
   ·rw[hV,hV];show _+((szT l0+0)+(szT r0+0))<=_;lia
theorem vW{f:P6}{fd:F6}(F:Fun K "telling_of_part" "telling_of_part" bL f fd):FnOk P w K mg base CX0 3 f fd ["blade","part","tree"] (spTell 0):=by
 exists sctell
 ·obtain⟨pp,c,b,w1,h1,v,d,t,rfl,_⟩:=h
  rfl
 ·refine cV λ G9 k9=>?_;obtain⟨pp,c,b,w1,h1,v,d,t,rfl,_,_,_,_,z,_⟩:=h;refine k9 ?_;exact absurd z (E7 _)
theorem nC{f wa:P6}{fd:F6}(F:Fun K "telling_of_part" "telling_of_part" bL f fd)(B:Blt mg)(Z:TrC K mg wa)(DC:Dn P w K mg base "cut_parts" ["blade","part","way","p"] 1 (spParts2))(DSA:Dn P w K mg base "side_along" ["part","way"] 1 (spSideA))(mk:∀n,FnOk P w K mg base CX0 (3+n) f fd ["blade","part","tree"] (spTell n)->Dn P w K mg base "telling_of_part" ["blade","part","tree"] (3+n) (spTell n)):∀n,n<=60->FnOk P w K mg base CX0 (3+n) f fd ["blade","part","tree"] (spTell n)
 | 0,_=>vW F
 | n+1,h=>yz F B Z n ⋯ DC DSA (mk n (nC F B Z DC DSA mk n ⋯))
theorem sctello:FnScope ["shop","wide","high","tree"] ["shop","wide","high","tree"] (defScope eL):=%[Y,Y,Y,∅,Y,∅|∅]
theorem vX{f C:P6}{fd:F6}(F:Fun K "telling_of" "telling_of" eL f fd)(T:ShopTxt K C)(MB:Mn P w K mg base C "blade" ["self"] 1 (eH C))(DCt:Dn P w K mg base "check_tree" ["shop","wide","high","thing"] 7 (spCheckT C))(DT:Dn P w K mg base "telling_of_part" ["blade","part","tree"] 53 (spTell 50)):FnOk P w K mg base CX0 54 f fd ["shop","wide","high","tree"] (spTellO C):=by
 exists sctello
 ·obtain⟨pp,s,b,w1,h1,ks,v,d,t,rfl,_⟩:=h
  rfl
 refine cV λ G9 k9=>?_;obtain⟨pp,s,b,w1,h1,ks,v,d,t,rfl,SH,w0,h0,hd,dz,td,okt,l63,dlt,q⟩:=h;refine k9 ?_;have nd:=sctello.nd;refine%[_,((@aO _ _ _ _ (DCt∩((pv 0)^^^((pv 1)^^^((pv 2)^^^((pv 3)^^^ab))))) Y)<<<((DT∪((bW (pv 0) T.cl MB (hr.mono ∅))^^^((@aD _ _ _ _ _ ((pv 1)^^^((pv 2)^^^ab)))^^^((pv 3)^^^ab))))⁻¹))|?_];obtain⟨dx,r,rs,S1,S2,S3⟩:=id SH;refine%[_,Y,_,Y,_,Y,_,Y,pp,s,b,w1,h1,ks,v,d,Y,SH,w0,h0,hd,dz,TrD.good t d w1 h1 td okt|λ H1 s1=>?_];have SH1:=bI s1 SH;obtain⟨dx',r',rs',S1',S2',S3'⟩:=id SH1;refine%[_,Y,s,dx',_,Y,S1',(bT _ _ ∅ ∅),s,b,ks,Y,SH1,_,Y,_,Y,zS2|λ c hc=>?_];refine bZ hc λ H2 k2 s2=>?_;exact%[_,Y,pp,c,b,w1,h1,v,d,t,Y,k2,hd.same (s1.trans s2),td,l63,dlt|λ u H3 tv s3=>q u H3 tv (s1.trans (s2.trans s3))]
theorem vY:∀t:Tr,(toD t).canLay0=true/\(toD t).depth=dT t+1
 | .rest=>%[∅|Y]
 | .piece ..=>%[by simp[toD,PyData.canLay0,PyData.canLayAll0];decide +kernel|Y]
 | .cut dn p l r=>by
  obtain⟨l1,l2⟩:=vY l;obtain⟨r1,r2⟩:=vY r;refine%[?_|?_]
  ·simp[toD,PyData.canLay0,PyData.canLayAll0,l1,r1];cases dn <;> decide +kernel
  ·simp only[toD,PyData.depth,PyData.depthAll,l2,r2,dT];rw[Nat.zero_max,Nat.zero_max,Nat.max_zero,Nat.add_max_add_right]
theorem TrV.head{H:Hp}:∀(t:Tr){v:V},TrV H t v->∃a xs,v=.ref a/\H a= ~~~(.str (hdW t) :: xs)
 | .rest,_,⟨a,e,h⟩=>%[a,_,e|h]
 | .piece ..,_,⟨a,e,h⟩=>%[a,_,e|h]
 | .cut ..,_,⟨a,x,y,e,h,_⟩=>%[a,_,e|h]
theorem Dts.get{p:P6}{H:Hp}:∀{vs:QA V}{ds:QA PyData}{i:Nat}{x:V},Dts p H vs ds->vs[i]?=some x->∃d,ds[i]?=some d/\Dt p H x d
 | _,_,0,_,.cons a _,e=>%[_,Y|by cases e;exact a]
 | _,_,i+1,_,.cons _ r,e=>by obtain⟨d,h1,h2⟩:=r.get (i:=i) (by simpa using e);exact%[d,by simpa using h1|h2]
mutual
inductive Lsd:PyData->PyData->Prop
 | same (d:PyData):Lsd d d
 | row {ds ds':QA PyData}:Lsds ds ds'->Lsd (.tuple ds) (.list ds')
inductive Lsds:QA PyData->QA PyData->Prop
 | nil:Lsds [] []
 | cons {d d':PyData} {ds ds':QA PyData}:Lsd d d'->Lsds ds ds'->Lsds (d :: ds) (d' :: ds')
end
theorem Lsd.row_of{d d':PyData}{ds:QA PyData}(h:Lsd d d')(e:d=.tuple ds):∃ds',aQ d'=some ds'/\Lsds ds ds':=by
 cases h with
 | same d=>
  subst e;refine%[ds,Y|?_]
  induction ds with
  | nil=>exact .nil
  | cons d ds ih=>exact .cons (.same d) ih
 | row r=>cases e;exact%[_,Y|r]
theorem Lsd.str{z:Str}{d:PyData}(h:Lsd (.str z) d):d=.str z:=by cases h;rfl
theorem Lsd.int{i:Int}{d:PyData}(h:Lsd (.int i) d):d=.int i:=by cases h;rfl
theorem Lsd.bool{b:Bool}{d:PyData}(h:Lsd (.bool b) d):d=.bool b:=by cases h;rfl
theorem Lsds.one{d:PyData}{ds es:QA PyData}(h:Lsds (d :: ds) es):∃e es',es=e :: es'/\Lsd d e/\Lsds ds es':=by
 cases h with
 | cons a r=>exact%[_,_,Y,a|r]
theorem Lsds.zero{es:QA PyData}(h:Lsds [] es):es=[]:=by cases h;rfl
theorem Lsd.tree:∀(t:Tr){d:PyData},Lsd (toD t) d->TrD t d
 | .rest,d,h=>by obtain⟨ds',e,r⟩:=h.row_of rfl;obtain⟨x1,es,rfl,h1,r⟩:=r.one;cases r.zero;cases h1.str;exact e
 | .piece i c x y,d,h=>by obtain⟨ds',e,r⟩:=h.row_of rfl;obtain⟨x1,es,rfl,h1,r⟩:=r.one;obtain⟨x2,es,rfl,h2,r⟩:=r.one;obtain⟨x3,es,rfl,h3,r⟩:=r.one;obtain⟨x4,es,rfl,h4,r⟩:=r.one;obtain⟨x5,es,rfl,h5,r⟩:=r.one;cases r.zero;cases h1.str;cases h2.int;cases h3.bool;cases h4.int;cases h5.int;exact e
 | .cut dn p l r,d,h=>by obtain⟨ds',e,r'⟩:=h.row_of rfl;obtain⟨x1,es,rfl,h1,r'⟩:=r'.one;obtain⟨x2,es,rfl,h2,r'⟩:=r'.one;obtain⟨x3,es,rfl,h3,r'⟩:=r'.one;obtain⟨x4,es,rfl,h4,r'⟩:=r'.one;cases r'.zero;cases h1.str;cases h2.int;exact%[x3,x4,e,Lsd.tree l h3|Lsd.tree r h4]
mutual
theorem Lsd.wt:∀{d d':PyData},Lsd d d'->wt d'=wt d
 | _,_,.same _=>rfl
 | _,_,.row r=>by simp only[Pc.wt];rw[r.wts]
theorem Lsds.wts:∀{d d':QA PyData},Lsds d d'->wts d'=wts d
 | _,_,.nil=>rfl
 | _,_,.cons a r=>by simp only[Pc.wts];rw[a.wt,r.wts]
end
mutual
theorem Lsd.depth:∀{d d':PyData},Lsd d d'->d'.depth=d.depth
 | _,_,.same _=>rfl
 | _,_,.row r=>by simp only[PyData.depth];rw[r.depth]
theorem Lsds.depth:∀{d d':QA PyData},Lsds d d'->PyData.depthAll d'=PyData.depthAll d
 | _,_,.nil=>rfl
 | _,_,.cons a r=>by simp only[PyData.depthAll];rw[a.depth,r.depth]
end
theorem ez{b:Int}{ks:QA Kd}:∀(t:Tr){w h:Int},okU b ks w h t->okT b ks w h t
 | .rest,_,_,_=>trivial
 | .piece i c x y,w,h,⟨k,hk,hm,x0,y0,hx,hy⟩=>by
  refine%[k,hk,?_,x0,y0,hx|hy];obtain⟨_,k',hk',hc⟩:=vP hm;have hk':ks[i]?=some k':=hk';rw[hk]at hk';cases hk';unfold cL;rcases hc with hc | hc
  ·have hc:c=false:=hc;rw[hc]
   split <;> simp
  ·rw[QI hc];cases c <;> simp
 | .cut true p l r,w,h,⟨p1,hp,hl,hr⟩=>%[p1,hp,ez l hl|ez r hr]
 | .cut false p l r,w,h,⟨p1,hp,hl,hr⟩=>%[p1,hp,ez l hl|ez r hr]
theorem iG:∀t:Tr,wt (toD t)<=11 * szT t
 | .rest=>∅
 | .piece ..=>by
  have:wt (.str "piece")=6:=∅
  show wt (.str "piece")+(1+(1+(1+(1+0))))+1<=11 * 1;lia
 | .cut dn p l r=>by
  have h1:=iG l;have h2:=iG r;have h3:wt (.str (if dn=true then "down" else "across"))<=7:=by cases dn <;> decide +kernel
  show wt (.str (if dn=true then "down" else "across"))+(1+(wt (toD l)+(wt (toD r)+0)))+1<=11 * (szT l+szT r+1);lia
def tlW(dn:Bool):Tl->Bool
 | .row d _=>d == dn
 | _=>false
def toL:Tls->QA (Int×Tl)
 | .nil=>[]
 | .cons n t r=>(n,t) :: toL r
theorem vZ(n:Int)(t:Tl)(r:Tls):toL (.cons n t r)=(n,t) :: toL r:=by rw[toL]
theorem ge:∀r:Tls,ofL (toL r)=r
 | .nil=>rfl
 | .cons n t r=>by rw[toL,ofL,ge r]
theorem hW:∀l:QA (Int×Tl),toL (ofL l)=l
 | []=>rfl
 | z :: l=>by rw[ofL,toL,hW l]
def bM(b:Int)(l:QA (Int×Tl)):Int:=(l.map (·.1)).sum+b * (l.length - 1)
theorem eB(b:Int)(z:Int×Tl):bM b [z]=z.1:=by show z.1+0+b * ((1:Nat) - 1)=z.1;rw[show(((1:Nat):Int) - 1)=0 by lia,Int.mul_zero];lia
theorem kY(b:Int)(z y:Int×Tl)(l:QA (Int×Tl)):bM b (z :: y :: l)=z.1+b+bM b (y :: l):=by
 show z.1+((y :: l).map (·.1)).sum+b * (((y :: l).length+1:Nat) - 1)=z.1+b+(((y :: l).map (·.1)).sum+b * ((y :: l).length - 1))
 rw[Int.natCast_add,Int.mul_sub,Int.mul_sub,Int.mul_add];lia
theorem kZ(b:Int){l l':QA (Int×Tl)}:bM b (l ++ l')=bM b l+b+bM b l':=by unfold bM;rw[I9,M7,G6,Int.natCast_add,Int.mul_sub,Int.mul_sub,Int.mul_sub,Int.mul_add];lia
theorem tm{l l':QA Int}(h:l.Perm l'):l.sum=l'.sum:=by
 induction h with
 | nil=>rfl
 | cons x _ ih=>rw[J6,J6,ih]
 | swap x y l=>rw[J6,J6,J6,J6];lia
 | trans _ _ h1 h2=>rw[h1,h2]
theorem oK(b:Int){l l':QA (Int×Tl)}(h:l.Perm l'):bM b l=bM b l':=by unfold bM;rw[tm (h.map _),h.length_eq]
theorem lb{b:Int}(b0:0<=b):∀{l:QA (Int×Tl)},l≠[]->(∀z∈l,1<=z.1)->1<=bM b l
 | [],h,_=>absurd rfl h
 | [z],_,h=>by rw[eB];exact h z B7
 | z :: y :: l,_,h=>by have:=lb b0 (l:=y :: l) (by simp) λ x hx=>h x (B4 _ hx);have:=h z B7;rw[kY];lia
mutual
def okL(b:Int)(ks:QA Kd):Tl->Int->Int->Prop
 | .rest,_,_=>True
 | .piece i c x y,w,h=>okU b ks w h (.piece i c x y)
 | .row dn r,w,h=>2<=(toL r).length/\bM b (toL r)=(if dn=true then w else h)/\(toL r).Pairwise (λ x y=>aX (cP y) (cP x)=false)/\iY b ks dn r w h
def iY(b:Int)(ks:QA Kd)(dn:Bool):Tls->Int->Int->Prop
 | .nil,_,_=>True
 | .cons n t r,w,h=>1<=n/\tlW dn t=false/\okL b ks t (if dn=true then n else w) (if dn=true then h else n)/\iY b ks dn r w h
end
def okI(b:Int)(ks:QA Kd)(dn:Bool)(w h:Int)(z:Int×Tl):Prop:=1<=z.1/\tlW dn z.2=false/\okL b ks z.2 (if dn=true then z.1 else w) (if dn=true then h else z.1)
theorem rA{b:Int}{ks:QA Kd}{dn:Bool}{w h:Int}:∀{l:QA (Int×Tl)},(∀z∈l,okI b ks dn w h z)->iY b ks dn (ofL l) w h
 | [],_=>by rw[ofL,iY];trivial
 | z :: l,hz=>by rw[ofL,iY];obtain⟨h1,h2,h3⟩:=hz z B7;exact%[h1,h2,h3|rA λ y hy=>hz y (B4 _ hy)]
theorem jq{b:Int}{ks:QA Kd}{dn:Bool}{w h:Int}:∀{r:Tls},iY b ks dn r w h->∀z∈toL r,okI b ks dn w h z
 | .nil,_,z,hz=>by rw[toL]at hz;cases hz
 | .cons n t r,ho,z,hz=>by
  rw[iY]at ho;rw[toL]at hz;obtain⟨h1,h2,h3,h4⟩:=ho;rcases G5.mp hz with e | hz
  ·rw[e];exact%[h1,h2|h3]
  ·exact jq h4 z hz
mutual
noncomputable def cj:Tl->Tr
 | .rest=>.rest
 | .piece i c x y=>.piece i c x y
 | .row dn r=>trs dn r
noncomputable def trs(dn:Bool):Tls->Tr
 | .nil=>.rest
 | .cons n t r=>match r with
  | .nil=>cj t
  | .cons ..=>.cut dn n (cj t) (trs dn r)
end
theorem rB(dn:Bool)(n:Int)(t:Tl):trs dn (.cons n t .nil)=cj t:=by rw[trs]
theorem hX(dn:Bool)(n m:Int)(t u:Tl)(r:Tls):trs dn (.cons n t (.cons m u r))=.cut dn n (cj t) (trs dn (.cons m u r)):=by rw[trs]
theorem jR(dn:Bool)(r:Tls):cj (.row dn r)=trs dn r:=by rw[cj]
theorem wc{b:Int}{ks:QA Kd}(e:Bool):∀{t:Tl}{w h:Int},okL b ks t w h->isW e (cj t)=tlW e t
 | .rest,_,_,_=>by rw[cj];rfl
 | .piece ..,_,_,_=>by rw[cj];rfl
 | .row dn .nil,_,_,h=>by rw[okL,toL]at h;exact absurd h.1 ∅
 | .row dn (.cons n t .nil),_,_,h=>by rw[okL,toL,toL]at h;exact absurd h.1 (by simp)
 | .row dn (.cons n t (.cons m u r)),_,_,h=>by rw[jR,hX];rfl
mutual
theorem rC{b:Int}{ks:QA Kd}(b0:0<=b):∀(t:Tl){w h:Int},okL b ks t w h->okU b ks w h (cj t)/\bz b (cj t) w h=t
 | .rest,_,_,_=>by rw[cj];exact%[trivial|Y]
 | .piece ..,_,_,ho=>by rw[okL]at ho;rw[cj];exact%[ho|Y]
 | .row dn .nil,_,_,h=>by rw[okL,toL]at h;exact absurd h.1 ∅
 | .row dn (.cons n t .nil),_,_,h=>by rw[okL,toL,toL]at h;exact absurd h.1 (by simp)
 | .row dn (.cons n t (.cons m u r)),w,h,ho=>by
  rw[okL]at ho;obtain⟨_,hs,hw,ho⟩:=ho;obtain⟨h1,h2⟩:=we b0 dn (.cons m u r) n t ho;rw[hs]at h1 h2;have ew:(if dn=true then(if dn=true then w else h)else w)=w:=by cases dn <;> rfl
  have eh:(if dn=true then h else(if dn=true then w else h))=h:=by cases dn <;> rfl
  rw[ew,eh]at h1 h2;rw[jR];refine%[h2|?_];rw[hX,cY,<- hX,h1,<- jQ (.refl _) hw,ge]
termination_by t=>sizeOf t
decreasing_by all_goals (simp;try lia)
theorem we{b:Int}{ks:QA Kd}(b0:0<=b)(dn:Bool):∀(r:Tls)(n:Int)(t:Tl){w h:Int},iY b ks dn (.cons n t r) w h ->
  bB b dn (trs dn (.cons n t r)) (if dn=true then bM b (toL (.cons n t r))else w) (if dn=true then h else bM b (toL (.cons n t r)))=toL (.cons n t r) /\
  okU b ks (if dn=true then bM b (toL (.cons n t r))else w) (if dn=true then h else bM b (toL (.cons n t r))) (trs dn (.cons n t r))
 | .nil,n,t,w,h,ho=>by rw[iY]at ho;obtain⟨h1,h2,h3,_⟩:=ho;obtain⟨g1,g2⟩:=rC b0 t h3;have e:=wc dn h3;rw[h2]at e;rw[rB,toL,toL,eB,cw e,g2];exact⟨by cases dn <;> rfl,g1⟩
 | .cons m u r,n,t,w,h,ho=>by
  rw[iY]at ho;obtain⟨h1,h2,h3,h4⟩:=ho;obtain⟨g1,g2⟩:=rC b0 t h3;have e:=wc dn h3;rw[h2]at e;obtain⟨k1,k2⟩:=we b0 dn r m u h4;have pos:=lb b0 (l:=toL (.cons m u r)) (by rw[toL];simp) λ z hz=>(jq h4 z hz).1;have es:bM b (toL (.cons n t (.cons m u r)))=n+b+bM b (toL (.cons m u r)):=by rw[toL,toL];exact kY b _ _ _
  rw[es,hX,dD,vZ n t (.cons m u r)];generalize bM b (toL (.cons m u r))=s at k1 k2 pos;cases dn with
  | true=>
   have k1:bB b true (trs true (.cons m u r)) s h=toL (.cons m u r):=k1;have k2:okU b ks s h (trs true (.cons m u r)):=k2;have g1:okU b ks n h (cj t):=g1;have g2:bz b (cj t) n h=t:=g2;refine%[?_|?_]
   ·show bB b true (cj t) n h ++ bB b true (trs true (.cons m u r)) (n+b+s - n - b) h=_;rw[show n+b+s - n - b=s by lia,k1,cw e,g2];rfl
   ·show 1<=n/\n+b < n+b+s/\okU b ks n h (cj t)/\okU b ks (n+b+s - n - b) h (trs true (.cons m u r));rw[show n+b+s - n - b=s by lia];exact%[h1,⋯,g1|k2]
  | false=>
   have k1:bB b false (trs false (.cons m u r)) w s=toL (.cons m u r):=k1;have k2:okU b ks w s (trs false (.cons m u r)):=k2;have g1:okU b ks w n (cj t):=g1;have g2:bz b (cj t) w n=t:=g2;refine%[?_|?_]
   ·show bB b false (cj t) w n ++ bB b false (trs false (.cons m u r)) w (n+b+s - n - b)=_;rw[show n+b+s - n - b=s by lia,k1,cw e,g2];rfl
   ·show 1<=n/\n+b < n+b+s/\okU b ks w n (cj t)/\okU b ks w (n+b+s - n - b) (trs false (.cons m u r));rw[show n+b+s - n - b=s by lia];exact%[h1,⋯,g1|k2]
termination_by r _ t=>sizeOf r+sizeOf t+1
decreasing_by all_goals (simp;try lia)
end
theorem AC{b:Int}{ks:QA Kd}{dn:Bool}{w h:Int}{l:QA (Int×Tl)}(h2:2<=l.length)(hs:bM b l=(if dn=true then w else h))(hz:∀z∈l,okI b ks dn w h z):okL b ks (.row dn (ofL (srt l))) w h:=by rw[okL,hW];exact%[by rw[(bX l).length_eq];exact h2,by rw[oK b (bX l)];exact hs,oF l|rA λ z hm=>hz z ((bX l).mem_iff.mp hm)]
theorem jS{b:Int}{ks:QA Kd}(b0:0<=b):∀(t:Tr){w h:Int},okU b ks w h t->1<=w->1<=h->okL b ks (bz b t w h) w h/\∀dn,(∀z∈bB b dn t w h,okI b ks dn w h z)/\bM b (bB b dn t w h)=(if dn=true then w else h)/\1<=(bB b dn t w h).length
 | .rest,w,h,ok,w1,h1=>by
  have k:okL b ks .rest w h:=by rw[okL];trivial
  refine%[k|λ dn=>?_];rw[cw (by rfl)];refine%[λ z hz=>?_,eB _ _|B3 _];rw[C9.mp hz];refine%[by show 1<=(if dn=true then w else h);split <;> lia,Y|?_];show okL b ks .rest _ _;rw[okL];trivial
 | .piece i c x y,w,h,ok,w1,h1=>by
  have k:okL b ks (.piece i c x y) w h:=by rw[okL];exact ok
  refine%[k|λ dn=>?_];rw[cw (by rfl)];refine%[λ z hz=>?_,eB _ _|B3 _];rw[C9.mp hz];refine%[by show 1<=(if dn=true then w else h);split <;> lia,Y|?_];show okL b ks (.piece i c x y) (if dn=true then(if dn=true then w else h)else w) (if dn=true then h else(if dn=true then w else h));cases dn <;> exact k
 | .cut d p l r,w,h,⟨p1,ok⟩,w1,h1=>by
  have own:(∀z∈bB b d (.cut d p l r) w h,okI b ks d w h z)/\bM b (bB b d (.cut d p l r) w h)=(if d=true then w else h)/\2<=(bB b d (.cut d p l r) w h).length:=by
   rw[dD];cases d with
   | true=>
    obtain⟨hp,hl,hr⟩:p+b < w/\okU b ks p h l/\okU b ks (w - p - b) h r:=ok;obtain⟨a1,a2,a3⟩:=(jS b0 l hl p1 h1).2 true;obtain⟨c1,c2,c3⟩:=(jS b0 r hr ⋯ h1).2 true;refine%[λ z hz=>?_,?_|by rw[G6];show 2<=(bB b true l p h).length+(bB b true r (w - p - b) h).length;lia]
    ·rcases C2.mp hz with hz | hz
     ·exact a1 z hz
     ·exact c1 z hz
    ·rw[kZ];show bM b (bB b true l p h)+b+bM b (bB b true r (w - p - b) h)=w;rw[a2,c2];show p+b+(w - p - b)=w;lia
   | false=>
    obtain⟨hp,hl,hr⟩:p+b < h/\okU b ks w p l/\okU b ks w (h - p - b) r:=ok;obtain⟨a1,a2,a3⟩:=(jS b0 l hl w1 p1).2 false;obtain⟨c1,c2,c3⟩:=(jS b0 r hr w1 ⋯).2 false;refine%[λ z hz=>?_,?_|by rw[G6];show 2<=(bB b false l w p).length+(bB b false r w (h - p - b)).length;lia]
    ·rcases C2.mp hz with hz | hz
     ·exact a1 z hz
     ·exact c1 z hz
    ·rw[kZ];show bM b (bB b false l w p)+b+bM b (bB b false r w (h - p - b))=h;rw[a2,c2];show p+b+(h - p - b)=h;lia
  obtain⟨o1,o2,o3⟩:=own;have k:okL b ks (bz b (.cut d p l r) w h) w h:=by rw[cY];exact AC o3 o2 o1
  refine%[k|λ dn=>?_]
  by_cases e:d=dn
  ·subst e;exact%[o1,o2|⋯]
  ·have ew:isW dn (.cut d p l r)=false:=by cases d <;> cases dn <;> first | rfl | exact absurd rfl e
   rw[cw ew];refine%[λ z hz=>?_,eB _ _|B3 _];rw[C9.mp hz];refine%[by show 1<=(if dn=true then w else h);split <;> lia,?_|?_]
   ·show tlW dn (bz b (.cut d p l r) w h)=false;rw[cY];exact ew
   ·show okL b ks (bz b (.cut d p l r) w h) (if dn=true then(if dn=true then w else h)else w) (if dn=true then h else(if dn=true then w else h));cases dn <;> exact k
mutual
noncomputable def lcT:Tl->Nat
 | .row _ r=>lcS r
 | _=>1
noncomputable def lcS:Tls->Nat
 | .nil=>0
 | .cons _ t r=>lcT t+lcS r
end
def lcL(l:QA (Int×Tl)):Nat:=(l.map λ z=>lcT z.2).sum
theorem oM:∀r:Tls,lcS r=lcL (toL r)
 | .nil=>by rw[lcS];rfl
 | .cons n t r=>by rw[lcS,toL,oM r];rfl
theorem wf(dn:Bool)(l:QA (Int×Tl)):lcT (.row dn (ofL (srt l)))=lcL l:=by rw[lcT,oM,hW];exact((bX l).map _).sum_nat
theorem wg(a b:QA (Int×Tl)):lcL (a ++ b)=lcL a+lcL b:=by unfold lcL;rw[I9,M7]
theorem iH(b:Int):∀(t:Tr)(w h:Int),lcT (tel b t w h).1=lvN t/\lcL (tel b t w h).2.1=lvN t/\lcL (tel b t w h).2.2=lvN t
 | .rest,_,_=>%[by show lcT .rest=1;rw[lcT];simp,by show lcT .rest+0=1;rw[lcT];simp|by show lcT .rest+0=1;rw[lcT];simp]
 | .piece i c x y,_,_=>%[by show lcT (.piece i c x y)=1;rw[lcT];simp,by show lcT (.piece i c x y)+0=1;rw[lcT];simp|by show lcT (.piece i c x y)+0=1;rw[lcT];simp]
 | .cut true p l r,w,h=>by
  have h1:=(iH b l p h).2.1;have h2:=(iH b r (w - p - b) h).2.1;have h3:=wf true ((tel b l p h).2.1 ++ (tel b r (w - p - b) h).2.1);have h4:=wg (tel b l p h).2.1 (tel b r (w - p - b) h).2.1;refine%[?_,?_|?_]
  ·show lcT (.row true _)=lvN l+lvN r;lia
  ·show lcL (_ ++ _)=lvN l+lvN r;lia
  ·show lcT (.row true _)+0=lvN l+lvN r;lia
 | .cut false p l r,w,h=>by
  have h1:=(iH b l w p).2.2;have h2:=(iH b r w (h - p - b)).2.2;have h3:=wf false ((tel b l w p).2.2 ++ (tel b r w (h - p - b)).2.2);have h4:=wg (tel b l w p).2.2 (tel b r w (h - p - b)).2.2;refine%[?_,?_|?_]
  ·show lcT (.row false _)=lvN l+lvN r;lia
  ·show lcT (.row false _)+0=lvN l+lvN r;lia
  ·show lcL (_ ++ _)=lvN l+lvN r;lia
theorem zS{b:Int}{ks:QA Kd}(b0:0<=b){t:Tl}{w h:Int}(ok:okL b ks t w h):lvN (cj t)=lcT t:=by have h1:=(iH b (cj t) w h).1;have h2:(tel b (cj t) w h).1=t:=(rC b0 t ok).2;rw[h2]at h1;exact h1.symm
theorem Lsds.two{d e:PyData}{es:QA PyData}(h:Lsds [d,e] es):∃d' e',es=[d',e']/\Lsd d d'/\Lsd e e':=by obtain⟨x1,es,rfl,h1,r⟩:=h.one;obtain⟨x2,es,rfl,h2,r⟩:=r.one;cases r.zero;exact%[x1,x2,Y,h1|h2]
theorem oN{n:Int}{t:Tl}{d:PyData}(h:Lsd (.tuple [.int n,tlD t]) d):∃e,aQ d=some [.int n,e]/\Lsd (tlD t) e:=by obtain⟨ds',e,r⟩:=h.row_of rfl;obtain⟨x1,x2,rfl,h1,h2⟩:=r.two;cases h1.int;exact%[x2,e|h2]
theorem wj{dn:Bool}{r:Tls}{d:PyData}(h:Lsd (tlD (.row dn r)) d):∃e,aQ d=some [.str (wyL dn),e]/\Lsd (.tuple (bH r)) e:=by obtain⟨ds',e,r⟩:=h.row_of (by rw[tlD]);obtain⟨x1,x2,rfl,h1,h2⟩:=r.two;cases h1.str;exact%[x2,e|h2]
theorem jT:∀{l:QA (Int×Tl)}{es:QA PyData},Lsds (bH (ofL l)) es->es.length=l.length/\∀(i:Nat)(e:PyData),es[i]?=some e->∃z:Int×Tl,l[i]?=some z/\Lsd (.tuple [.int z.1,tlD z.2]) e
 | [],es,h=>by rw[ofL,bH]at h;cases h.zero;exact%[Y|λ i e he=>by simp at he]
 | z :: l,es,h=>by
  rw[ofL,bH]at h;obtain⟨x,es,rfl,h1,h2⟩:=h.one;obtain⟨g1,g2⟩:=jT h2;refine%[by rw[G8,G8,g1]|λ i e he=>?_];cases i with
  | zero=>cases he;exact%[z,Y|h1]
  | succ i=>exact g2 i e (by simpa using he)
theorem zT(e:Bool){t:Tl}{d:PyData}(h:Lsd (tlD t) d):bw d (wyL e) 2=tlW e t:=by
 cases t with
 | rest=>
  have:aQ d=some (.str "rest" :: []):=Lsd.tree .rest h;rw[dC this];rfl
 | piece i c x y=>
  have:aQ d=some (.str "piece" :: [.int i,.bool c,.int x,.int y]):=Lsd.tree (.piece i c x y) h;rw[dC this];rfl
 | row dn r=>
  obtain⟨x,er,_⟩:=wj h;rw[dC er];show(decide ((1:Nat)+1=2) && decide (wyL dn=wyL e))=(dn == e)
  cases dn <;> cases e <;> decide +kernel
def wyO:Tl->V
 | .row dn _=>.str (wyL dn)
 | _=>.non
theorem AD{dn:Bool}{t:Tl}(h:tlW dn t=false):(!decide (wyO t=.str (wyL dn)))=true:=by
 cases t with
 | rest=>rfl
 | piece=>rfl
 | row d r=>cases d <;> cases dn <;> first | rfl | cases h | decide +kernel
theorem Dt.rowT{K:C4}{p:P6}{H:Hp}{v:V}{d:PyData}{ds:QA PyData}(h:Dt p H v d)(er:aQ d=some ds):∃a xs T,v=.ref a/\(H a=↥xs\/H a= ~~~xs)/\Dts p H xs ds/\Ty K H v T/\(T == "list" || T == "tuple")=true:=by
 rcases h.row (K:=K)with⟨e,_⟩ | ⟨a,xs,ds',T,e,e2,hx,dx,ty,hT⟩
 ·rw[e]at er;cases er
 ·rw[e]at er;cases er;exact%[a,xs,T,e2,hx,dx,ty|hT]
inductive spPartA(vs:QA V)(H:Hp)(Q:VK)(E_:XK):Prop
|mk(c:P6)(w h n:Int)(dn:Bool)(_:vs=[.ref c,.str (wyL dn),.int n])(_:H c= ~~~[.int w,.int h])(_:∀(r:P6)(H':Hp),H' r= ~~~[.int (if dn=true then n else w),.int (if dn=true then h else n)]->Same H H'->Q (.ref r) H')
inductive spWayOf(vs:QA V)(H:Hp)(Q:VK)(E_:XK):Prop
|mk(pp:P6)(v:V)(d:PyData)(t:Tl)(_:vs=[v])(_:Dt pp H v d)(_:Lsd (tlD t) d)(_:∀(H':Hp),Same H H'->Q (wyO t) H')
inductive spSized(vs:QA V)(H:Hp)(Q:VK)(E_:XK):Prop
|mk(pp:P6)(v:V)(d:PyData)(n:Int)(t:Tl)(dn:Bool)(_:vs=[.str (wyL dn),v])(_:Dt pp H v d)(_:Lsd (.tuple [.int n,tlD t]) d)(_:1<=n)(_:tlW dn t=false)(_:∀(H':Hp),Same H H'->Q (.bl true) H')
inductive spDivd(vs:QA V)(H:Hp)(Q:VK)(E_:XK):Prop
|mk(pp:P6)(v:V)(d:PyData)(b s:Int)(l:QA (Int×Tl))(dn:Bool)(_:vs=[.int b,.int s,.str (wyL dn),v])(_:Dt pp H v d)(_:Lsd (.tuple (bH (ofL l))) d)(_:2<=l.length)(_:l.length<=63)(_:(∀z∈l,1<=z.1/\tlW dn z.2=false))(_:bM b l=s)(_:∀(H':Hp),Same H H'->Q (.bl true) H')
theorem scparta:FnScope ["part","way","size"] ["part","way","size"] (defScope eK):=%[Y,Y,Y,∅,Y,∅|∅]
theorem wk{f wa:P6}{fd:F6}(F:Fun K "part_along" "part_along" eK f fd)(Z:TrC K mg wa):FnOk P w K mg base CX0 1 f fd ["part","way","size"] (spPartA):=by
 exists scparta
 ·obtain⟨c,w1,h1,n,dn,rfl,_⟩:=h
  rfl
 obtain⟨c,w1,h1,n,dn,rfl,hc,q⟩:=h;have nd:=scparta.nd;obtain⟨tdn,hdn⟩:=Z.dn;refine%[_,((gJ ((pv 1)<*>cf<*>(aN (v:=.str "down") Y hdn %[tdn|Y])) (@aD _ _ _ _ _ ((pv 2)^^^(((pv 0)&&&ix_tup&&&ae)^^^ab))) (@aD _ _ _ _ _ (((pv 0)&&&ix_tup&&&ae)^^^((pv 2)^^^ab))))⁻¹)|?_];dsimp only[bJ];refine%[_,Y,Y,_,Y|?_];cases dn with
 | true=>exact jP ∅ %[_,rfl,_,rfl,c,_,1,_,rfl,rfl,G0 hc,rfl,zS2|λ r hr=>q r _ af (F9 hr)]
 | false=>exact dO ∅ %[_,rfl,c,_,0,_,rfl,rfl,G0 hc,rfl,_,rfl,zS2|λ r hr=>q r _ af (F9 hr)]
theorem scwayof:FnScope ["thing","way"] ["thing"] (defScope lS):=%[Y,Y,Y,∅,Y,∅|∅]
theorem wm{f wa:P6}{fd:F6}(F:Fun K "way_of" "way_of" lS f fd)(Z:TrC K mg wa)(hc2:∃t,mg "THINGS_OF_A_CUT_TELLING" = some (.int 2 t))(DB:Dn P w K mg base "begins_with" ["thing","word","many"] 2 (spBegins)):FnOk P w K mg base CX0 3 f fd ["thing"] (spWayOf):=by
 exists scwayof
 ·obtain⟨pp,v,d,t,rfl,_⟩:=h
  rfl
 obtain⟨pp,v,d,t,rfl,hd,ld,q⟩:=h;have nd:=scwayof.nd;obtain⟨tt2,ht2⟩:=hc2;refine%[_,((@cG _ _ _ _ _ _ _ _ E2 Y (fj (aN (v:=.ref wa) Y Z.wy Y)) (ai (i:=1) nd Y (Or.inl Y)) (@ag _ _ _ ((@aT _ _ _ (DB∪((pv 0)^^^((pv 1)^^^((aN (v:=.int 2) Y ht2 %[tt2|Y])^^^ab)))) (by intro _;rfl))<|>((pv 1)⁻¹)<|>aF)) (by intro _;rfl))<<<(fg⁻¹))|?_];dsimp only[bJ];refine%[wa,Y,%[_|Z.wq H]|ja (xs:=[.str "down",.str "across"]) (λ i σ H'=>(∃v1,σ=[some v,v1])/\Same H H'/\(1<=i->tlW true t=false)/\(2<=i->tlW false t=false)) %[%[_|Y],Same.refl _,λ z=>absurd z ∅|λ z=>absurd z ∅] (λ i σ H' _ _=>Z.wq H') ?_ ?_]
 ·rintro i y σ H1 hi ⟨⟨v1,rfl⟩,s1,g1,g2⟩
  match i,hi with
  | 0,hi=>
   cases hi;refine%[_,Y,_,Y,pp,v,d,wyL true,2,Y,∅,hd.same s1|λ H2 s12=>%[_,Y|?_]];have s2:=s1.trans s12;rw[zT true ld];refine dv (λ hb=>%[_,Y|?_]) (λ hb=>%[%[_|Y],s2,λ _=>by simpa using hb|λ z=>absurd z ∅]);have q1:=q H2 s2;cases t with
   | row e r=>
    have:e=true:=by simpa[tlW]using hb
    subst this;exact q1
   | _=>cases hb
  | 1,hi=>
   cases hi;refine%[_,Y,_,Y,pp,v,d,wyL false,2,Y,∅,hd.same s1|λ H2 s12=>%[_,Y|?_]];have s2:=s1.trans s12;rw[zT false ld];refine dv (λ hb=>%[_,Y|?_]) (λ hb=>%[%[_|Y],s2,λ _=>g1 ∅|λ _=>by simpa using hb]);have q1:=q H2 s2;cases t with
   | row e r=>
    have:e=false:=by simpa[tlW]using hb
    subst this;exact q1
   | _=>cases hb
 ·rintro σ H1 ⟨⟨v1,rfl⟩,s1,g1,g2⟩;have q1:=q H1 s1;have a1:=g1 ∅;have a2:=g2 ∅;cases t with
  | row e r=>
   cases e with
   | true=>cases a1
   | false=>cases a2
  | _=>exact q1
theorem scsized:FnScope ["way","thing"] ["way","thing"] (defScope gY):=%[Y,Y,Y,∅,Y,∅|∅]
theorem wn{f:P6}{fd:F6}(F:Fun K "is_sized" "is_sized" gY f fd)(B:Blt mg)(DR:Dn P w K mg base "is_row" ["thing"] 1 (kN K))(DW:Dn P w K mg base "is_whole" ["thing","least"] 1 (cT K))(DWo:Dn P w K mg base "way_of" ["thing"] 3 (spWayOf)):FnOk P w K mg base CX0 4 f fd ["way","thing"] (spSized):=by
 exists scsized
 ·obtain⟨pp,v,d,n,t,dn,rfl,_⟩:=h
  rfl
 obtain⟨pp,v,d,n,t,dn,rfl,hd,ld,n1,ne,q⟩:=h;have nd:=scsized.nd;refine%[_,((dq (DR∩((pv 1)^^^ab)) (dq (@cq _ _ _ _ _ _ _ _ cf (@aI _ _ _ _ _ _ _ _ _ aY Y B.len QQ ((pv 1)^^^ab) ∅ ∅ Y Y) ae (aE _)) (dq (DW∩(((pv 1)&&&bc&&&ae)^^^(ae^^^ab))) (fi (@cq _ _ _ _ _ _ _ _ gM (DWo∪(((pv 1)&&&bc&&&ae)^^^ab)) (pv 0) (aE _))))))⁻¹)|?_];dsimp only[bJ];obtain⟨e2,er,l2⟩:=oN ld;obtain⟨a,xs,T0,rfl,hx,dx,t0,rT⟩:=hd.rowT (K:=K) er;cases dx with
 | @cons x0 _ xs0 _ g0 dx=>
 cases dx with
 | @cons x1 _ xs1 _ g1 dx=>
 cases dx;cases g0;refine%[_,Y,.ref a,T0,Y,t0|λ H1 s1=>%[_,Y|?_]];rw[rT];have sq:SqL K H1 a [.int n,x1]\/SqT K H1 a [.int n,x1]:=hx.imp (λ z=>G1 (s1 _ _ z)) λ z=>G0 (s1 _ _ z);refine aW %[_,rfl,a,_,rfl,sq,rfl,_,rfl|?_];refine jP rfl %[_,rfl|ixR s1 hx (aH (E3 _) rfl) %[.int n,"int",1,rfl,Ty.int,_,rfl|?_]];rw[show aV (.int n) 1=true from QG n1];refine aW %[_,rfl|ixR s1 hx (aH ∅ rfl) %[pp,x1,e2,t,rfl,g1.same s1,l2|λ H2 s2=>⟨_,rfl,by cases t <;> rfl,?_⟩]];rw[AD ne];exact q H2 (s1.trans s2)
theorem scdivd:FnScope ["blade","side","way","row"] ["blade","side","way","row"] (defScope cQ):=%[Y,Y,Y,∅,Y,∅|∅]
theorem yA{f:P6}{fd:F6}(F:Fun K "is_divided" "is_divided" cQ f fd)(B:Blt mg)(hc2:∃t,mg "LEAST_IN_A_ROW" = some (.int 2 t))(DR:Dn P w K mg base "is_row" ["thing"] 1 (kN K))(DSz:Dn P w K mg base "is_sized" ["way","thing"] 4 (spSized)):FnOk P w K mg base CX0 5 f fd ["blade","side","way","row"] (spDivd):=by
 exists scdivd
 ·obtain⟨pp,v,d,b,s,l,dn,rfl,_⟩:=h
  rfl
 obtain⟨pp,v,d,b,s,l,dn,rfl,hd,ld,l2,l63,al,hs,q⟩:=h;have nd:=scdivd.nd;obtain⟨tl2,hl2⟩:=hc2;refine%[_,(((PW.pt (bS (@bj _ _ _ _ (@aT _ _ _ (DR∩((pv 3)^^^ab)) (by intro _;rfl))) (bS ((@aI _ _ _ _ _ _ _ _ _ aY Y B.len QQ ((pv 3)^^^ab) ∅ ∅ Y Y)<*>mF<*>(aN (v:=.int 2) Y hl2 ⟨tl2,Y⟩)) (bR (@bj _ _ _ _ (@aT _ _ _ (@aI _ _ _ _ _ _ _ _ _ (sC Y) Y B.all PyProof.Rows.boot_all ((bO (own:=["thing"]) (cs:=["way"]) (cap:=[2]) Y (lL (pv 3)) (aL (sc:=defScope cQ) (N:=["blade","side","way","row"]) Y Y ∅) (λ _ _ _ _ _=>ai (i:=0) (by show List.Nodup (["thing","way"]:QA Str) ;decide +kernel) Y (Or.inl Y) (Or.inr Y)) (λ _ _ _ _ _=>bd) (λ _ _ _ _ _=>(DSz∪((pv 1)^^^((pv 0)^^^ab)))))^^^ab) ∅ ∅ Y Y) (by intro _;rfl)))))))<|>(cD⁻¹)<|>aF)<<<((@cq _ _ _ _ _ _ _ _ cf ((@aI _ _ _ _ _ _ _ _ _ (fV Y) Y B.sum Qe ((bO (own:=["thing"]) (cs:=[]) (cap:=[]) Y (lL (pv 3)) (aL (sc:=defScope cQ) (N:=["blade","side","way","row"]) Y Y ∅) (λ _ _ _ _ _=>ai (i:=0) (by show List.Nodup (["thing"]:QA Str) ;decide +kernel) Y (Or.inl Y) (Or.inr Y)) (λ _ _ _ _ _=>bd) (λ _ _ _ _ _=>(av (r:=rIx K) bc (pv 0) ae (λ _ _=>Y))))^^^ab) ∅ ∅ Y Y)|||aM|||((pv 0)|||dS|||((@aI _ _ _ _ _ _ _ _ _ aY Y B.len QQ ((pv 3)^^^ab) ∅ ∅ Y Y)|||br|||ae))) (pv 1) (aE _))⁻¹))|?_];dsimp only[bJ];have sz:(1000:Nat) < sizeLine:=∅
 obtain⟨es,er,le⟩:=ld.row_of rfl;obtain⟨el,eg⟩:=jT le;obtain⟨a,xs,T0,rfl,hx,dx,t0,rT⟩:=hd.rowT (K:=K) er;have xl:=dx.length;refine ao (λ R=>∀(H':Hp),Same H H'->R [⇑b,⇑s,some (.str (wyL dn)),↑a] H') (λ Dd hR=>?_) ?_
 ·refine%[_,Y,.ref a,T0,Y,t0|λ H1 s1=>%[_,Y|?_]];rw[rT];have hx1:=hx.imp (s1 _ _) (s1 _ _);have sq:SqL K H1 a xs\/SqT K H1 a xs:=hx1.imp (λ z=>G1 z) λ z=>G0 z;refine aP %[_,rfl,a,_,rfl,sq,_,_,rfl,rfl,_,rfl|?_];refine dO (B1 ⋯) %[_,rfl,a,rfl|iD (K:=K) hx1 (λ i us Hx=>Same H1 Hx/\us=(List.replicate i true).map V.bl) (λ i us Hx _ e o h=>e.1 _ _ h) %[Same.refl _|rfl] ?_ ?_]
  ·rintro i x us Hx hi ⟨sx,rfl⟩;have hin:i < xs.length:=(A6.mp hi).1;obtain⟨e,he,hxe⟩:=dx.get hi;obtain⟨z,hz,lz⟩:=eg i e he;obtain⟨z1,z2⟩:=al z (B5 hz);refine%[by rw[G4,J8];lia,leS.set rfl|bg %[_,Y,_,Y,pp,x,e,z.1,z.2,dn,Y,hxe.same (s1.trans sx),lz,z1,z2|λ H3 s3=>Nx.of hin %[sx.trans s3|?_]]];rw[List.replicate_succ',I9];rfl
  ·rintro us Hx ⟨sx,rfl⟩;refine%[by rw[G4,J8];lia|λ l' hl'=>%[l',_,Y,G1 af,_,Y|?_]];have:(List.replicate xs.length true).all id=true:=by rw[List.all_eq_true];intro y hy;rw[List.eq_of_mem_replicate hy];rfl
   rw[this];exact aP (hR _ (s1.trans (sx.trans (F9 hl'))))
 rintro H1 s1;have hx1:=hx.imp (s1 _ _) (s1 _ _);refine%[_,Y,a,Y|iD (K:=K) hx1 (λ i us Hx=>Same H1 Hx/\us=((l.take i).map (·.1)).map V.int) (λ i us Hx _ e o h=>e.1 _ _ h) %[Same.refl _|Y] ?_ ?_]
 ·rintro i x us Hx hi ⟨sx,rfl⟩;have hin:i < xs.length:=(A6.mp hi).1;obtain⟨e,he,hxe⟩:=dx.get hi;obtain⟨z,hz,lz⟩:=eg i e he;obtain⟨e2,er2,_⟩:=oN lz;obtain⟨a2,xs2,rfl,hx2,dx2⟩:=hxe.ref_row er2;cases dx2 with
  | cons g0 dx2=>
  cases g0;refine%[by rw[G4,G4,J3];lia,leS.set rfl|bg %[_,Y|ixR (s1.trans sx) hx2 (aH (E3 _) rfl) (Nx.of hin %[sx|?_])]];rw[J5,hz];simp only[M1,I9,J0,O4]
 ·rintro us Hx ⟨sx,rfl⟩;have hx3:=hx1.imp (sx _ _) (sx _ _);rw[show l.take xs.length=l by rw[show xs.length=l.length by lia,K2]];refine%[by rw[G4,G4];lia|λ l' hl'=>%[l',_,Y,G1 af|?_]];have s4:=F9 hl' (o:=.lst ((l.map (·.1)).map V.int));have sq:SqL K _ a xs\/SqT K _ a xs:=(hx3.imp (s4 _ _) (s4 _ _)).imp (λ z=>G1 z) λ z=>G0 z;refine%[_,Y,_,Y,a,_,Y,sq,_,_,Y,Y,_,_,Y,Y,.inr %[⋯|⋯],_,_,Y,Y,_,Y,Y|?_];have e9:(l.map (·.1)).sum+b * ((xs.length:Int) - 1)=s:=by rw[show(xs.length:Int)=(l.length:Int)by lia];exact hs
  rw[e9,QG (rfl:V.int s=V.int s)];exact q _ (s1.trans (sx.trans s4))
def lfT:Tl->P8 Tr
 | .rest=>some .rest
 | .piece i c x y=>some (.piece i c x y)
 | .row ..=>none
theorem wr{b:Int}{ks:QA Kd}{w h:Int}{t:Tl}{T:Tr}{d:PyData}(e:lfT t=some T)(ld:Lsd (tlD t) d)(ok:okL b ks t w h):isL ks w h d=true/\TrD T d/\tlD t=toD T/\wyO t=.non:=by
 cases t with
 | rest=>
  cases e;have td:TrD .rest d:=Lsd.tree .rest ld;have g:=TrD.good (b:=b) (ks:=ks) .rest d w h td trivial;have er:aQ d=some (.str "rest" :: []):=td;have hc:isC b w h d=false:=by unfold isC;rw[dC er,dC er];rfl
  rw[dB hc]at g;exact%[g,td,Y|Y]
 | piece i c x y=>
  cases e;rw[okL]at ok;have td:TrD (.piece i c x y) d:=Lsd.tree (.piece i c x y) ld;have g:=TrD.good (b:=b) (ks:=ks) (.piece i c x y) d w h td (ez _ ok);have er:aQ d=some (.str "piece" :: [.int i,.bool c,.int x,.int y]):=td;have hc:isC b w h d=false:=by unfold isC;rw[dC er,dC er];rfl
  rw[dB hc]at g;exact%[g,td,Y|Y]
 | row=>cases e
theorem wu{H:Hp}{pp:P6}{H0:Hp}{xs:QA V}{ds:QA PyData}{t:Tl}{T:Tr}{d:PyData}{a:P6}(e:lfT t=some T)(td:TrD T d)(er:aQ d=some ds)(dx:Dts pp H0 xs ds)(h:H a= ~~~xs):TlV H t (.ref a):=by
 cases t with
 | rest=>
  cases e;have td:aQ d=some [.str "rest"]:=td;rw[td]at er;cases er;cases dx with
  | cons g0 dx=>
  cases dx;cases g0;rw[TlV];exact%[a,Y|h]
 | piece i c x y=>
  cases e;have td:aQ d=some [.str "piece",.int i,.bool c,.int x,.int y]:=td;rw[td]at er;cases er;cases dx with
  | cons g0 dx=>
  cases dx with
  | cons g1 dx=>
  cases dx with
  | cons g2 dx=>
  cases dx with
  | cons g3 dx=>
  cases dx with
  | cons g4 dx=>
  cases dx;cases g0;cases g1;cases g2;cases g3;cases g4;rw[TlV];exact%[a,Y|h]
 | row=>cases e
theorem jU{n:Int}{t:Tl}{dn:Bool}{r:Tls}{z:Int×Tl}(h:z∈toL r):(tlD z.2).depth+3<=(tlD (.row dn r)).depth:=by
 have:∀r:Tls,z∈toL r->(tlD z.2).depth+1<=PyData.depthAll (bH r):=λ r=>by
  induction r using Tls.rec (motive_1:=λ _=>True)with
  | rest=>trivial
  | piece=>trivial
  | row=>trivial
  | nil=>intro h;rw[toL]at h;cases h
  | cons n t r _ ih=>
   intro h;rw[toL]at h;show _<=max (max 0 (max (tlD t).depth 0)+1) (PyData.depthAll (bH r));rcases G5.mp h with e | h
   ·rw[e];show(tlD t).depth+1<=_;lia
   ·have:=ih h;lia
 have:=this r h;show _<=max 0 (max (PyData.depthAll (bH r)+1) 0)+1;lia
theorem rD{n:Nat}:∀{l:QA Nat},n∈l->n<=l.sum
 | x :: l,h=>by
  rw[J6];rcases G5.mp h with h | h
  ·lia
  ·have:=rD h;lia
theorem ww{r:Tls}{z:Int×Tl}(h:z∈toL r):lcT z.2<=lcS r:=by rw[oM];unfold lcL;exact rD (K7.mpr %[z,h|Y])
theorem oO{b:Int}{ks:QA Kd}{dn:Bool}{w h:Int}:∀{r:Tls},iY b ks dn r w h->(∀z∈toL r,1<=lcT z.2)->(toL r).length<=lcS r
 | .nil,_,_=>by rw[toL];exact E6 _
 | .cons n t r,ho,hz=>by rw[iY]at ho;have:=oO ho.2.2.2 λ z hm=>hz z (by rw[toL];exact B4 _ hm);have:=hz (n,t) (by rw[toL];exact B7);rw[toL,lcS,G8];show _<=lcT t+lcS r;have:1<=lcT t:=this;lia
theorem wx{b:Int}{ks:QA Kd}(b0:0<=b){t:Tl}{w h:Int}(ok:okL b ks t w h):1<=lcT t:=by rw[<- zS b0 ok];exact(dU b (cj t) w h).2.2
theorem ma{K:C4}{H:Hp}:∀{vs:QA V}{zs:QA (Int×Tl)},Paired (ItV H) vs zs->DatVs K H vs (bH (ofL zs))
 | _,_,.nil=>by rw[ofL,bH];exact .nil
 | _,_,.cons ⟨a,u,e,h1,h2⟩ r=>by rw[ofL,bH];subst e;exact .cons (.tup (G0 h1) (.cons (.int _) (.cons (TlV.dat _ h2) .nil))) (ma r)
def TmV(H:Hp)(v:V)(z:Int×Tl):Prop:=∃a u,v=.ref a/\H a= ~~~[.int z.1,u]/\TrV H (cj z.2) u
theorem TmV.keep{H H':Hp}(k:∀a xs,H a= ~~~xs->H' a= ~~~xs){v:V}{z:Int×Tl}(h:TmV H v z):TmV H' v z:=by obtain⟨a,u,e,h1,h2⟩:=h;exact%[a,u,e,k _ _ h1|TrV.keep k _ h2]
theorem rE{H:Hp}:∀{r:Tls}{vs:QA V},TlsV H r vs->Paired (ItV H) vs (toL r)
 | .nil,vs,h=>by rw[TlsV]at h;subst h;rw[toL];exact .nil
 | .cons n t r,vs,h=>by rw[TlsV]at h;obtain⟨a,u,ys,e,h1,h2,h3⟩:=h;subst e;rw[toL];exact .cons %[a,u,Y,h1|h2] (rE h3)
inductive spAsT(C:P6)(n:Nat)(vs:QA V)(H:Hp)(Q:VK)(E_:XK):Prop
|mk(pp s c:P6)(b w h:Int)(ks:QA Kd)(v:V)(d:PyData)(t:Tl)(_:vs=[.ref s,.ref c,v])(_:ShopAt C H s b ks)(_:H c= ~~~[.int w,.int h])(_:Dt pp H v d)(_:Lsd (tlD t) d)(_:okL b ks t w h)(_:0<=b)(_:lcT t<=63)(_:(tlD t).depth < n)(_:(tlD t).depth<=200)(_:∀(u:V)(H':Hp),TlV H' t u->Same H H'->Q u H')
inductive spTbt(n:Nat)(vs:QA V)(H:Hp)(Q:VK)(E_:XK):Prop
|mk(b w h:Int)(ks:QA Kd)(v:V)(t:Tl)(_:vs=[v])(_:TlV H t v)(_:okL b ks t w h)(_:0<=b)(_:lcT t<=63)(_:(tlD t).depth < n)(_:∀(u:V)(H':Hp),TrV H' (cj t) u->Same H H'->Q u H')
inductive spTreeTo(C:P6)(vs:QA V)(H:Hp)(Q:VK)(E_:XK):Prop
|mk(pp s:P6)(b w h:Int)(ks:QA Kd)(v:V)(d:PyData)(t:Tl)(_:vs=[.ref s,.int w,.int h,v])(_:ShopAt C H s b ks)(_:1<=w)(_:1<=h)(_:Dt pp H v d)(_:Lsd (tlD t) d)(_:okL b ks t w h)(_:0<=b)(_:lcT t<=63)(_:(tlD t).depth<=150)(_:∀(u:V)(H':Hp),TrV H' (cj t) u->Same H H'->Q u H')
theorem scast:FnScope ["shop","part","thing","way","row"] ["shop","part","thing"] (defScope cr):=%[Y,Y,Y,∅,Y,∅|∅]
theorem AE{f C:P6}{fd:F6}(F:Fun K "as_telling" "as_telling" cr f fd)(B:Blt mg)(T:ShopTxt K C)(n:Nat)(MB:Mn P w K mg base C "blade" ["self"] 1 (eH C))(DF:Dn P w K mg base "is_leaf" ["shop","spot"] 5 (spLeaf C))(DWo:Dn P w K mg base "way_of" ["thing"] 3 (spWayOf))(DSA:Dn P w K mg base "side_along" ["part","way"] 1 (spSideA))(DPA:Dn P w K mg base "part_along" ["part","way","size"] 1 (spPartA))(DDv:Dn P w K mg base "is_divided" ["blade","side","way","row"] 5 (spDivd))(DT:Dn P w K mg base "as_telling" ["shop","part","thing"] (6+n) (spAsT C n)):FnOk P w K mg base CX0 (6+(n+1)) f fd ["shop","part","thing"] (spAsT C (n+1)):=by
 exists scast
 ·obtain⟨pp,s,c,b,w1,h1,ks,v,d,t,rfl,_⟩:=h
  rfl
 obtain⟨pp,s,c,b,w1,h1,ks,v,d,t,rfl,SH,hc,hd,ld,okt,b0,l63,dn0,d200,q⟩:=h;have nd:=scast.nd;have hu:=Room.units220 hr (show 2<=6+n by lia);refine%[_,((@aw _ _ 3 _ _ _ _ nd Y (Or.inr Y) (@aq _ _ _ _ _ _ _ _ _ _ DWo (hr.mono (show 3<=6+n by lia)) Y ((pv 2)^^^ab) ∅ Y Y) Y (Or.inl Y))<<<((((pv 3)<*>uE<*>fg)<|>(((@bj _ _ _ _ (@aT _ _ _ (@aq _ _ _ _ _ _ _ _ _ _ DF (hr.mono (show 5<=6+n by lia)) Y ((pv 0)^^^((@aD _ _ _ _ _ (ae^^^(ae^^^(((pv 1)&&&ix_tup&&&ae)^^^(((pv 1)&&&ix_tup&&&ae)^^^((pv 2)^^^ab))))))^^^ab)) ∅ Y Y) (by intro _;rfl)))<|>(@ag _ _ _ cF)<|>aF)<<<((@bo _ _ _ _ _ _ _ _ _ bh Y B.tuple QK ((pv 2)^^^ab) ∅ ∅ Y Y)⁻¹))<|>aF)<<<(((@bj _ _ _ _ (@aT _ _ _ (@aq _ _ _ _ _ _ _ _ _ _ DDv (hr.mono (show 5<=6+n by lia)) Y ((bW (pv 0) T.cl MB (hr.mono (show 1<=6+n by lia)))^^^((@aq _ _ _ _ _ _ _ _ _ _ DSA (hr.mono (show 1<=6+n by lia)) Y ((pv 1)^^^((pv 3)^^^ab)) ∅ Y Y)^^^((pv 3)^^^(((pv 2)&&&bc&&&ae)^^^ab)))) ∅ Y Y) (by intro _;rfl)))<|>(@ag _ _ _ cF)<|>aF)<<<((dH (i:=4) (own:=["size","inner"]) (cs:=["shop","part","way"]) (cap:=[0,1,3]) Y nd Y Y Y (lL ((pv 2)&&&bc&&&ae)) (aL (sc:=defScope cr) (N:=["shop","part","thing","way","row"]) Y Y ∅) (λ _ _ _ _ _=>yf K Y Y (by show List.Nodup (["size","inner","shop","part","way"]:QA Str) ;decide +kernel) Y Y Y Y) (λ _ _ _ _ _=>bd) (λ _ _ _ _ _=>(@aD _ _ _ _ _ ((pv 0)^^^((DT∪((pv 2)^^^((@aq _ _ _ _ _ _ _ _ _ _ DPA (hr.mono (show 1<=6+n by lia)) Y ((pv 3)^^^((pv 4)^^^((pv 0)^^^ab))) ∅ Y Y)^^^((pv 1)^^^ab))))^^^ab)))))<<<((((pv 4)<*>(gF hu)<*>(@aI _ _ _ _ _ _ _ _ _ (gX hu) Y B.sorted Qh ((pv 4)^^^ab) ∅ ∅ Y Y))<|>(@ag _ _ _ cF)<|>aF)<<<((@aD _ _ _ _ _ ((pv 3)^^^((@bo _ _ _ _ _ _ _ _ _ bh Y B.tuple QK ((pv 4)^^^ab) ∅ ∅ Y Y)^^^ab)))⁻¹))))))|?_];dsimp only[bJ];have sz:(1000:Nat) < sizeLine:=∅
 refine ao (λ R=>∀(H':Hp),Same H H'->R [↑s,↑c,some v,some (wyO t),none] H') (λ Dd hR=>?_) ?_
 ·exact%[_,Y,pp,v,d,t,Y,hd,ld|λ H1 s1=>hR _ s1]
 rintro H1 s1;refine eQ (λ R=>∀dn r (H':Hp),t=.row dn r->Same H H'->R [↑s,↑c,some v,some (.str (wyL dn)),none] H') (λ R hR=>?_) ?_
 ·cases e:lfT t with
  | some T=>
   obtain⟨g1,g2,g3,g4⟩:=wr e ld okt;rw[g4];refine%[_,Y,Y,_,Y|jP rfl ?_];refine%[_,Y,_,Y,c,_,0,_,Y,Y,G0 (s1 _ _ hc),Y,_,Y,c,_,1,_,Y,Y,G0 (s1 _ _ hc),Y,_,Y,zS5|λ sp hsp=>?_];refine bZ hsp λ H2 k2 s2=>?_;have s02:=s1.trans s2;refine%[pp,b,0,0,w1,h1,s,sp,ks,v,d,Y,bI s02 SH,k2,hd.same s02|λ H3 s3=>%[_,Y|?_]];rw[g1];have s03:=s02.trans s3;obtain⟨ys,er⟩:=TrD.head g2;obtain⟨a,xs,T0,rfl,hx,dx,_,_⟩:=hd.rowT (K:=K) er;refine aP ?_;rcases hx with hx | hx
   ·exact%[_,Y,a,_,Y|.inl %[G1 (s03 _ _ hx)|λ l hl=>q _ _ (wu e g2 er dx af) (s03.trans (F9 hl))]]
   ·exact%[_,Y,a,_,Y|.inr %[G0 (s03 _ _ hx)|q _ _ (wu e g2 er dx (s03 _ _ hx)) s03]]
  | none=>
   cases t with
   | row dn r=>exact%[_,Y,Y,_,Y|dO rfl (hR dn r _ rfl s1)]
   | rest=>cases e
   | piece=>cases e
 clear s1;clear H1;rintro dn r H1 rfl s1;obtain⟨e2,er,l2⟩:=wj ld;obtain⟨a,xs,T0,rfl,hx,dx,_,_⟩:=hd.rowT (K:=K) er;refine cV λ G9 k9=>?_;obtain⟨x0,xs0,rfl,g0,dx⟩:=dx.ci;obtain⟨x1,xs1,rfl,g1,dx⟩:=dx.ci;rw[g0.si,dx.ni]at hx;refine k9 ?_;clear k9;rw[okL]at okt;obtain⟨o1,o2,o3,o4⟩:=okt;rw[lcT]at l63;have items:=jq o4;have ll:=oO o4 λ z hz=>wx b0 (items z hz).2.2;rw[<- ge r]at l2;have hr0:ofL (toL r)=r:=ge r;refine ao (λ R=>∀(H':Hp),Same H H'->R [↑s,↑c,↑a,some (.str (wyL dn)),none] H') (λ Dd hR=>?_) ?_
 ·have SH1:=bI s1 SH;obtain⟨dx',r',rs',S1',S2',S3'⟩:=id SH1;refine%[_,Y,s,dx',_,Y,S1',(bT _ _ ∅ ∅),s,b,ks,Y,SH1,_,Y,_,Y,c,w1,h1,dn,Y,s1 _ _ hc,_,Y,_,Y|ixR s1 hx (aH ∅ rfl) %[pp,x1,e2,b,_,toL r,dn,Y,g1.same s1,l2,o1,⋯,λ z hz=>%[(items z hz).1|(items z hz).2.1],o2|λ H2 s2=>%[_,Y|aP (hR _ (s1.trans s2))]]]
 clear s1;clear H1;rintro H1 s1;obtain⟨es,er2,le⟩:=l2.row_of rfl;obtain⟨el,eg⟩:=jT le;obtain⟨a2,xs2,T2,rfl,hx2,dx2,_,_⟩:=g1.rowT (K:=K) er2;have xl:=dx2.length;refine ao (λ R=>∀(rl:P6)(us:QA V)(H':Hp),H' rl=↥us->Paired (ItV H') us (toL r)->Same H H'->R [↑s,↑c,↑a,some (.str (wyL dn)),↑rl] H') (λ Dd hR=>?_) ?_
 ·have hx3:=hx2.imp (s1 _ _) (s1 _ _);refine%[_,Y|ixR s1 hx (aH ∅ rfl) %[a2,Y|iD (K:=K) hx3 (λ i us Hx=>Same H1 Hx/\Paired (ItV Hx) us ((toL r).take i)) (λ i us Hx _ e o h=>e.1 _ _ h) %[Same.refl _|.nil] ?_ ?_]]
  ·rintro i x us Hx hi ⟨sx,pu⟩;have hin:i < xs2.length:=(A6.mp hi).1;obtain⟨e,he,hxe⟩:=dx2.get hi;obtain⟨z,hz,lz⟩:=eg i e he;obtain⟨e3,er3,l3⟩:=oN lz;obtain⟨a3,xs3,rfl,hx3',dx3⟩:=hxe.ref_row er3;obtain⟨y0,ys0,rfl,g0,dx3⟩:=dx3.ci;obtain⟨y1,ys1,rfl,g3,dx3⟩:=dx3.ci;rw[g0.ii,dx3.ni]at hx3';have ul:=E1 pu;rw[J3]at ul;have s0x:=s1.trans sx;have hm:=B5 hz;obtain⟨m1,m2,m3⟩:=items z hm;have sq:=(hx3'.imp (s0x _ _) (s0x _ _)).imp (λ z=>G1 (K:=K) z) λ z=>G0 (K:=K) z;have dpt:=jU (n:=0) (t:=.rest) (dn:=dn) hm;have lcm:=ww hm;refine%[⋯,a3,_,Y,sq,Y,_,_,Y,_,_,Y,Y,fb (leS.set rfl) (leS.set rfl)|bg ?_];refine%[_,Y,_,Y,_,Y,_,Y,_,Y,c,w1,h1,z.1,dn,Y,s0x _ _ hc|λ c' H3 hc' s3=>?_];refine%[_,Y,pp,s,c',b,_,_,ks,y1,e3,z.2,Y,bI (s0x.trans s3) SH,hc',g3.same (s0x.trans s3),l3,m3,b0,⋯,⋯,⋯|λ u H4 tv s4=>%[zS2|λ it hit=>?_]];refine bZ hit λ H5 k5 s5=>?_;have sx5:=s3.trans (s4.trans s5);refine Nx.of hin %[sx.trans sx5|?_];rw[J5,hz];exact eZ (G2 pu λ v t h=>h.keep λ a xs e=>sx5 _ _ e) (.cons %[it,u,Y,k5|TlV.keep (λ a xs e=>s5 _ _ e) _ tv] .nil)
  ·rintro us Hx ⟨sx,pu⟩;rw[show(toL r).take xs2.length=toL r by rw[show xs2.length=(toL r).length by lia,K2]]at pu;have ul:=E1 pu;refine%[⋯|λ rl hrl=>?_];refine bZ hrl λ H5 k5 s5=>?_;exact hR rl us _ k5 (G2 pu (λ v t h=>h.keep λ a xs e=>s5 _ _ e)) (s1.trans (sx.trans s5))
 clear s1;clear H1;rintro rl us H1 hrl pu s1;have ul:=E1 pu;have rd:(PyData.list (bH r)).canLay0=true/\(PyData.list (bH r)).depth<=210:=by refine%[by simp only[PyData.canLay0];exact gW r|?_];have:max 0 (max (PyData.depthAll (bH r)+1) 0)+1<=200:=d200;show PyData.depthAll (bH r)+1<=210;lia
 refine ao (λ R=>∀(H':Hp),Same H1 H'->R [↑s,↑c,↑a,some (.str (wyL dn)),↑rl] H') (λ Dd hR=>?_) ?_
 ·obtain⟨ps,rfl,eps,ips⟩:=oH pu;have pl:ps.length=(toL r).length:=by rw[eps,G4]
  refine%[_,Y,_,Y,rl,ps,Y,G1 hrl,⋯,λ z hz=>%[(ips z hz).dat|?_]|λ l ps' hl pm pw=>?_]
  ·have:=jU (n:=0) (t:=.rest) (dn:=dn) (show z.2∈toL r by rw[eps];exact K7.mpr %[z,hz|Y]);lia
  refine bZ hl λ H2 k2 s2=>?_;have e9:ps'.map (·.2)=toL r:=by rw[jQ (pm.map _) pw,<- eps,<- jQ (.refl _) o3]
  have p1:Paired (ItV H2) (ps.map λ z=>V.ref z.1) (toL r):=G2 pu λ v t h=>h.keep λ a xs e=>s2 _ _ e;have p2:Paired (ItV H2) (ps'.map λ z=>V.ref z.1) (toL r):=by rw[<- e9];exact oI λ z hz=>(ips z (pm.mem_iff.mp hz)).keep λ a xs e=>s2 _ _ e
  have d1:=ma (K:=K) p1;have d2:=ma (K:=K) p2;rw[hr0]at d1 d2;refine%[.list (bH r),.list (bH r),.lst (G1 (s2 _ _ hrl)) d1,.lst (G1 k2) d2,rd.1,rd.1,rd.2,_,Y|?_];rw[Qj _ rd.1];exact dO rfl (hR _ s2)
 rintro H2 s2;refine%[_,Y,_,Y,rl,_,Y|.inl %[G1 (s2 _ _ hrl)|λ tq htq=>?_]];refine bZ htq λ H3 k3 s3=>?_;refine%[zS2|λ fr hfr=>?_];refine bZ hfr λ H4 k4 s4=>?_;have s14:=s2.trans (s3.trans s4);refine q _ H4 ?_ (s1.trans s14);rw[TlV];refine%[fr,tq,_,Y,k4,s4 _ _ k3|?_];rw[<- hr0];exact lX (G2 pu λ v t h=>h.keep λ a xs e=>s14 _ _ e)
theorem yB{f C:P6}{fd:F6}(F:Fun K "as_telling" "as_telling" cr f fd):FnOk P w K mg base CX0 6 f fd ["shop","part","thing"] (spAsT C 0):=by
 exists scast
 ·obtain⟨pp,s,c,b,w1,h1,ks,v,d,t,rfl,_⟩:=h
  rfl
 ·obtain⟨pp,s,c,b,w1,h1,ks,v,d,t,rfl,_,_,_,_,_,_,_,z,_⟩:=h;exact absurd z (E7 _)
theorem rF{f C:P6}{fd:F6}(F:Fun K "as_telling" "as_telling" cr f fd)(B:Blt mg)(T:ShopTxt K C)(MB:Mn P w K mg base C "blade" ["self"] 1 (eH C))(DF:Dn P w K mg base "is_leaf" ["shop","spot"] 5 (spLeaf C))(DWo:Dn P w K mg base "way_of" ["thing"] 3 (spWayOf))(DSA:Dn P w K mg base "side_along" ["part","way"] 1 (spSideA))(DPA:Dn P w K mg base "part_along" ["part","way","size"] 1 (spPartA))(DDv:Dn P w K mg base "is_divided" ["blade","side","way","row"] 5 (spDivd))(mk:∀n,FnOk P w K mg base CX0 (6+n) f fd ["shop","part","thing"] (spAsT C n)->Dn P w K mg base "as_telling" ["shop","part","thing"] (6+n) (spAsT C n)):∀n,FnOk P w K mg base CX0 (6+n) f fd ["shop","part","thing"] (spAsT C n)
 | 0=>yB F
 | n+1=>AE F B T n MB DF DWo DSA DPA DDv (mk n (rF F B T MB DF DWo DSA DPA DDv mk n))
theorem sctbt:FnScope ["telling","way","trees","tree","size","ahead"] ["telling"] (defScope bv):=%[Y,Y,Y,∅,Y,∅|∅]
theorem AF{f wa:P6}{fd:F6}(F:Fun K "tree_by_telling" "tree_by_telling" bv f fd)(B:Blt mg)(Z:TrC K mg wa)(rv:mg "reversed" = none)(n:Nat)(DT:Dn P w K mg base "tree_by_telling" ["telling"] (1+n) (spTbt n)):FnOk P w K mg base CX0 (1+(n+1)) f fd ["telling"] (spTbt (n+1)):=by
 exists sctbt
 ·obtain⟨b,w1,h1,ks,v,t,rfl,_⟩:=h
  rfl
 obtain⟨b,w1,h1,ks,v,t,rfl,tv,okt,b0,l63,dn0,q⟩:=h;have nd:=sctbt.nd;refine%[_,((1∣((pv 0)&&&ix_tup&&&ae))<<<(((@aB _ _ _ _ _ _ _ _ gR (pv 1) (aN (v:=.ref wa) Y Z.wy Y) Y)<|>((pv 0)⁻¹)<|>aF)<<<((dH (i:=2) (own:=["size","inner"]) (cs:=[]) (cap:=[]) Y nd Y Y Y (fj ((pv 0)&&&ix_tup&&&ae)) (aL (sc:=defScope bv) (N:=["telling","way","trees","tree","size","ahead"]) Y Y ∅) (λ _ _ _ _ _=>lJ K Y Y (by show List.Nodup (["size","inner"]:QA Str) ;decide +kernel) Y Y Y Y) (λ _ _ _ _ _=>bd) (λ _ _ _ _ _=>(@aD _ _ _ _ _ ((pv 0)^^^((DT∪((pv 1)^^^ab))^^^ab)))))<<<((3∣(((pv 2)&&&ix_list&&&(@zI _ _ _ _ _ _ uB ae))&&&ix_tup&&&ae))<<<((@cG _ _ _ _ _ _ _ _ E2 Y (vk Y rv ((@mI _ _ _ _ _ _ _ _ _ _ xQ (pv 2) qA (qB (@zI _ _ _ _ _ _ uB ae)))^^^ab)) (aU Y (4•(5•aJ))) (@ag _ _ _ (3∣(@aD _ _ _ _ _ ((pv 1)^^^((pv 4)^^^((pv 5)^^^((pv 3)^^^ab))))))) (by intro _;rfl))<<<((pv 3)⁻¹))))))|?_];dsimp only[bJ];have sz:(1000:Nat) < sizeLine:=∅
 cases e:lfT t with
 | some T=>
  have hh:∃a xs y,v=.ref a/\H a= ~~~(.str y :: xs)/\inV (V.str y) [V.str "down",V.str "across"]=false/\TrV H (cj t) v:=by
   cases t with
   | rest=>
    rw[TlV]at tv;obtain⟨a,ea,ha⟩:=tv;rw[cj];exact%[a,_,_,ea,ha,∅,a,ea|ha]
   | piece i cc x y=>
    rw[TlV]at tv;obtain⟨a,ea,ha⟩:=tv;rw[cj];exact%[a,_,_,ea,ha,∅,a,ea|ha]
   | row=>cases e
  obtain⟨a,xs,y,rfl,ha,iv,tr⟩:=hh;refine%[_,Y,a,_,0,_,Y,Y,G0 ha,aH (E3 _) rfl,_,Y,wa,_,Y,.inr (Z.wq _),Y,Y,_,Y|?_];show(if (!inV (V.str y) [V.str "down",V.str "across"])=true then _ else _);rw[iv];exact aW %[_,rfl|q _ _ tr (Same.refl _)]
 | none=>
 cases t with
 | rest=>cases e
 | piece=>cases e
 | row dn r=>
 rw[TlV]at tv;obtain⟨a,qa,xs,rfl,ha,hq,tvs⟩:=tv;have its:=rE tvs;have xl:=E1 its;rw[okL]at okt;obtain⟨o1,o2,o3,o4⟩:=okt;rw[lcT]at l63;have items:=jq o4;have ll:=oO o4 λ z hz=>wx b0 (items z hz).2.2;refine ao (λ R=>R [↑a,some (.str (wyL dn)),none,none,none,none] H) (λ Dd hR=>?_) ?_
 ·exact%[_,Y,a,_,0,_,Y,Y,G0 ha,Y|hR]
 skip
 refine ao (λ R=>R [↑a,some (.str (wyL dn)),none,none,none,none] H) (λ Dd hR=>?_) ?_
 ·refine%[_,Y,wa,_,Y,.inr (Z.wq _),Y,Y,_,Y|?_];show(if (!inV (V.str (wyL dn)) [V.str "down",V.str "across"])=true then _ else _);rw[GG];exact aP (hR)
 skip
 refine ao (λ R=>∀(tl:P6)(us:QA V)(H':Hp),H' tl=↥us->Paired (TmV H') us (toL r)->Same H H'->R [↑a,some (.str (wyL dn)),↑tl,none,none,none] H') (λ Dd hR=>?_) ?_
 ·refine%[_,Y,a,_,1,_,Y,Y,G0 ha,Y,qa,Y,%[_|G0 hq]|(bE (K:=K) (.inr hq) (λ i us Hx=>Same H Hx/\Paired (TmV Hx) us ((toL r).take i)) (λ i us Hx _ e o h=>e.1 _ _ h) %[Same.refl _|.nil] ?_ ?_).2 hq]
  ·rintro i x us Hx hi ⟨sx,pu⟩;have hin:i < xs.length:=(A6.mp hi).1;obtain⟨z,hz,a3,u3,rfl,h3,tv3⟩:=G3 its hi;have ul:=E1 pu;rw[J3]at ul;have hm:=B5 hz;obtain⟨m1,m2,m3⟩:=items z hm;have dpt:=jU (n:=0) (t:=.rest) (dn:=dn) hm;have lcm:=ww hm;refine%[⋯,a3,_,Y,G0 (sx _ _ h3),Y,_,_,Y,_,_,Y,Y,fb (leS.set rfl) (leS.set rfl)|bg ?_];refine%[_,Y,_,Y,b,_,_,ks,u3,z.2,Y,TlV.keep (λ a xs e=>sx _ _ e) _ tv3,m3,b0,⋯,⋯|λ u H4 tv s4=>%[zS2|λ it hit=>?_]];refine bZ hit λ H5 k5 s5=>?_;have sx5:=s4.trans s5;refine Nx.of hin %[sx.trans sx5|?_];rw[J5,hz];exact eZ (G2 pu λ v t h=>h.keep λ a xs e=>sx5 _ _ e) (.cons %[it,u,Y,k5|TrV.keep (λ a xs e=>s5 _ _ e) _ tv] .nil)
  ·rintro us Hx ⟨sx,pu⟩;rw[show(toL r).take xs.length=toL r by rw[xl,K2]]at pu;have ul:=E1 pu;refine%[⋯|λ rl hrl=>?_];refine bZ hrl λ H5 k5 s5=>?_;exact hR rl us _ k5 (G2 pu (λ v t h=>h.keep λ a xs e=>s5 _ _ e)) (sx.trans s5)
 rintro tl us H1 htl pu s1;rcases List.eq_nil_or_concat us with rfl | ⟨us',u0,rfl⟩
 ·have:=E1 pu;rw[<- this]at o1;exact absurd o1 (by simp)
 rw[List.concat_eq_append]at pu htl;obtain⟨l',z0,el,pu',a0,t0,rfl,h0,tv0⟩:=rf pu;have pl':=E1 pu';have erow:r=ofL (l' ++ [z0]):=by rw[<- el,ge]
 have l1:(toL r).length=l'.length+1:=by rw[el,G6];rfl
 refine ao (λ R=>R [↑a,some (.str (wyL dn)),↑tl,some t0,none,none] H1) (λ Dd hR=>?_) ?_
 ·exact%[_,Y,1,Y,tl,_,_,_,Y,Y,G1 htl,uN _ _,a0,_,1,_,Y,Y,G0 h0,Y|hR]
 skip
 refine ao (λ R=>∀(v3:V)(v4 v5:P8 V)(H':Hp),TrV H' (trs dn r) v3->Same H H'->R [↑a,some (.str (wyL dn)),↑tl,some v3,v4,v5] H') (λ Dd hR=>?_) ?_
 ·refine%[_,Y,1,Y,_,Y,tl,_,Y,G1 htl|λ sl hsl=>?_];have ecut:lC (us' ++ [V.ref a0]) none (some (-1))=us':=by unfold lC;rw[show HT.sIx (us' ++ [V.ref a0]).length 0 none=0 from rfl,List.drop_zero,Nat.sub_zero];rw[show HT.sIx (us' ++ [V.ref a0]).length (us' ++ [V.ref a0]).length (some (-1))=us'.length by rw[G6];unfold HT.sIx;simp;try lia];rw[List.take_left]
  rw[ecut];refine bZ hsl λ H2 k2 s2=>?_;have k12:∀a xs,H1 a= ~~~xs->H2 a= ~~~xs:=λ a xs e=>s2 _ _ e;refine%[sl,_,Y,G1 k2|yg (xs:=us') (λ i σ' H'=>(∃(v3:V)(v4 v5:P8 V),σ'=[↑a,some (.str (wyL dn)),↑tl,some v3,v4,v5]/\TrV H' (trs dn (ofL ((toL r).drop (l'.length - i)))) v3)/\Same H2 H') %[%[_,_,_,Y|?_]|Same.refl _] (λ i σ H' _ h=>G1 (h.2 _ _ k2)) ?_ ?_]
  ·rw[el,Nat.sub_zero,List.drop_left,ofL,ofL,rB];exact TrV.keep k12 _ tv0
  ·rintro i x σ H3 hi hx ⟨⟨v3,v4,v5,rfl,tv3⟩,s3⟩;obtain⟨z,hz,a3,u3,rfl,h3,tvz⟩:=G3 pu' hx;have h3':=s3 _ _ (s2 _ _ h3);refine%[a3,_,Y,G0 h3',Y,_,_,Y,_,_,Y,Y|?_];refine%[_,Y,_,Y,_,Y,_,Y,zS4|λ nt hnt=>?_];refine bZ hnt λ H4 k4 s4=>?_;refine%[%[_,_,_,Y|?_]|s3.trans s4];have k34:∀a xs,H3 a= ~~~xs->H4 a= ~~~xs:=λ a xs e=>s4 _ _ e;have hzr:(toL r)[l'.length - (i+1)]?=some z:=by rw[el,N8 ⋯];rw[pl']at hz;rw[show l'.length - (i+1)=l'.length - 1 - i by lia];exact hz
   have hlt:l'.length - (i+1) < (toL r).length:=⋯
   have dd:(toL r).drop (l'.length - (i+1))=z :: (toL r).drop (l'.length - i):=by rw[M8 hlt,show l'.length - (i+1)+1=l'.length - i by lia];congr 1;rw[E9 hlt]at hzr;exact B8 hzr
   rw[dd];obtain⟨y,ys,ey⟩:∃y ys,(toL r).drop (l'.length - i)=y :: ys:=by
    cases hd:(toL r).drop (l'.length - i)with
    | nil=>
     have:=QV List.length hd;rw[List.length_drop]at this;have:(toL r).length - (l'.length - i)=0:=this;lia
    | cons y ys=>exact%[y,ys|Y]
   rw[ey]at tv3 ⊢;rw[ofL,ofL,hX];rw[ofL]at tv3;exact%[nt,u3,v3,Y,k4,TrV.keep (λ a xs e=>k34 _ _ (s3 _ _ (s2 _ _ e))) _ tvz|TrV.keep k34 _ tv3]
  ·rintro σ H3 ⟨⟨v3,v4,v5,rfl,tv3⟩,s3⟩;rw[pl',Nat.sub_self,List.drop_zero,ge]at tv3;exact hR v3 v4 v5 _ tv3 (s1.trans (s2.trans s3))
 rintro v3 v4 v5 H2 tv3 s2;exact%[_,Y|q _ _ (by rw[jR];exact tv3) s2]
theorem yC{f:P6}{fd:F6}(F:Fun K "tree_by_telling" "tree_by_telling" bv f fd):FnOk P w K mg base CX0 1 f fd ["telling"] (spTbt 0):=by
 exists sctbt
 ·obtain⟨b,w1,h1,ks,v,t,rfl,_⟩:=h
  rfl
 ·obtain⟨b,w1,h1,ks,v,t,rfl,_,_,_,_,z,_⟩:=h;exact absurd z (E7 _)
theorem rG{f wa:P6}{fd:F6}(F:Fun K "tree_by_telling" "tree_by_telling" bv f fd)(B:Blt mg)(Z:TrC K mg wa)(rv:mg "reversed" = none)(mk:∀n,FnOk P w K mg base CX0 (1+n) f fd ["telling"] (spTbt n)->Dn P w K mg base "tree_by_telling" ["telling"] (1+n) (spTbt n)):∀n,FnOk P w K mg base CX0 (1+n) f fd ["telling"] (spTbt n)
 | 0=>yC F
 | n+1=>AF F B Z rv n (mk n (rG F B Z rv mk n))
theorem sctreeto:FnScope ["shop","wide","high","telling"] ["shop","wide","high","telling"] (defScope ga):=%[Y,Y,Y,∅,Y,∅|∅]
theorem tw{f C:P6}{fd:F6}(F:Fun K "tree_told" "tree_told" ga f fd)(B:Blt mg)(DCP:Dn P w K mg base "check_plate" ["wide","high"] 2 (spCP))(DA:Dn P w K mg base "as_telling" ["shop","part","thing"] 157 (spAsT C 151))(DT:Dn P w K mg base "tree_by_telling" ["telling"] 152 (spTbt 151)):FnOk P w K mg base CX0 160 f fd ["shop","wide","high","telling"] (spTreeTo C):=by
 exists sctreeto
 ·obtain⟨pp,s,b,w1,h1,ks,v,d,t,rfl,_⟩:=h
  rfl
 obtain⟨pp,s,b,w1,h1,ks,v,d,t,rfl,SH,w0,h0,hd,ld,okt,b0,l63,d150,q⟩:=h;have nd:=sctreeto.nd;refine%[_,((@aO _ _ _ _ (DCP∩((pv 1)^^^((pv 2)^^^ab))) Y)<<<((DT∩((DA∩((pv 0)^^^((@aD _ _ _ _ _ ((pv 1)^^^((pv 2)^^^ab)))^^^((pv 3)^^^ab))))^^^ab))⁻¹))|?_];refine%[_,Y,_,Y,w1,h1,Y,w0,h0|?_];refine%[_,Y,_,Y,_,Y,zS2|λ c hc=>?_];refine bZ hc λ H2 k2 s2=>?_;exact%[_,Y,pp,s,c,b,w1,h1,ks,v,d,t,Y,bI s2 SH,k2,hd.same s2,ld,okt,b0,l63,⋯,⋯|λ u H3 tv s3=>%[b,w1,h1,ks,u,t,Y,tv,okt,b0,l63,⋯|λ u2 H4 tr s4=>q u2 H4 tr (s2.trans (s3.trans s4))]]
structure Lf where
 x:Int
 y:Int
 w:Int
 h:Int
 t:Tr
def lvs(b:Int):Tr->Int->Int->Int->Int->QA Lf
 | .cut true p l r,x,y,w,h=>lvs b r (x+(p+b)) y (w - p - b) h ++ lvs b l x y p h
 | .cut false p l r,x,y,w,h=>lvs b r x (y+(p+b)) w (h - p - b) ++ lvs b l x y w p
 | .rest,x,y,w,h=>[%[x,y,w,h|.rest]]
 | .piece i c u v,x,y,w,h=>[%[x,y,w,h|.piece i c u v]]
def LfAt(p:P6)(H0 H:Hp)(v:V)(t:Lf):Prop:=∃a u d,v=.ref a/\H a= ~~~[.int t.x,.int t.y,.int t.w,.int t.h,u]/\Dt p H0 u d/\TrD t.t d
theorem LfAt.keep{p:P6}{H0 H H':Hp}(k:∀a xs,H a= ~~~xs->H' a= ~~~xs){v:V}{t:Lf}(h:LfAt p H0 H v t):LfAt p H0 H' v t:=by obtain⟨a,u,d,e,h1,h2,h3⟩:=h;exact%[a,u,d,e,k _ _ h1,h2|h3]
def lsz(ts:QA Lf):Nat:=(ts.map λ t=>szT t.t).sum
theorem dh(a b:QA Lf):lsz (a ++ b)=lsz a+lsz b:=by unfold lsz;rw[I9,M7]
theorem me:∀ts:QA Lf,ts.length<=lsz ts
 | []=>B3 _
 | t :: r=>by have:=me r;have:=nq t.t;show r.length+1<=szT t.t+lsz r;lia
def tD(b:Int)(ts:QA Lf):QA Lf:=ts.reverse.flatMap λ t=>lvs b t.t t.x t.y t.w t.h
theorem eC(b:Int)(ts:QA Lf)(t:Lf):tD b (ts ++ [t])=lvs b t.t t.x t.y t.w t.h ++ tD b ts:=by
 unfold tD;rw[List.reverse_append]
 rfl
theorem AG{t:Tr}(h:nA t=false):szT t=1/\∀b x y w h,lvs b t x y w h=[%[x,y,w,h|t]]:=by
 cases t with
 | cut dn p l r=>cases h
 | rest=>exact%[Y|λ _ _ _ _ _=>rfl]
 | piece=>exact%[Y|λ _ _ _ _ _=>rfl]
inductive spLeaves(C:P6)(vs:QA V)(H:Hp)(Q:VK)(E_:XK):Prop
|mk(pp s:P6)(b w h:Int)(ks:QA Kd)(v:V)(d:PyData)(t:Tr)(_:vs=[.ref s,.int w,.int h,v])(_:ShopAt C H s b ks)(_:Dt pp H v d)(_:TrD t d)(_:szT t<=10000)(_:∀(l:P6)(us:QA V)(H':Hp),H l=none->H' l=↥us->Paired (LfAt pp H H') us (lvs b t 0 0 w h)->Same H H'->Q (.ref l) H')
inductive spLeavesQ(C:P6)(vs:QA V)(H:Hp)(Q:VK)(E_:XK):Prop
|mk(HB:Hp)(pp s:P6)(b w h:Int)(ks:QA Kd)(v:V)(d:PyData)(t:Tr)(_:vs=[.ref s,.int w,.int h,v])(_:ShopAt C H s b ks)(_:Same HB H)(_:Dt pp HB v d)(_:TrD t d)(_:szT t<=10000)(_:∀(l:P6)(us:QA V)(H':Hp),H l=none->H' l=↥us->Paired (LfAt pp HB H') us (lvs b t 0 0 w h)->Same H H'->Q (.ref l) H')
theorem Dn.imp{P:F5}{w:F7}{K:C4}{mg:Str->P8 F8}{base:Heap}{n:Str}{ps:QA Str}{k:Nat}{sp sp':Sp}(h:∀vs H Q E,sp vs H Q E->sp' vs H Q E):Dn P w K mg base n ps k sp'->Dn P w K mg base n ps k sp
 | ⟨f,fd,F,r⟩=>%[f,fd,%[λ vs H Q E z=>F.len vs H Q E (h _ _ _ _ z)|λ A outer s H args us vs Q E hr he hb hv hs=>F.run A outer s H args us vs Q E hr he hb hv (h _ _ _ _ hs)]|r]
theorem yD{C:P6}:∀vs H Q E,spLeaves C vs H Q E->spLeavesQ C vs H Q E:=by rintro vs H Q E ⟨pp,s,b,w,h,ks,v,d,t,e,a1,a2,a3,a4,a5⟩;exact%[H,pp,s,b,w,h,ks,v,d,t,e,a1,Same.refl _,a2,a3,a4|a5]
theorem scleaves:FnScope ["shop","wide","high","tree","leaves","waiting","spot"] ["shop","wide","high","tree"] (defScope fZ):=%[Y,Y,Y,∅,Y,∅|∅]
theorem oP{f C wa:P6}{fd:F6}(F:Fun K "leaves_of" "leaves_of" fZ f fd)(T:ShopTxt K C)(Z:TrC K mg wa)(MB:Mn P w K mg base C "blade" ["self"] 1 (eH C))(DS:Dn P w K mg base "spots_behind" ["blade","spot"] 2 (spBehind)):FnOk P w K mg base CX0 3 f fd ["shop","wide","high","tree"] (spLeavesQ C):=by
 exists scleaves
 ·obtain⟨HB,pp,s,b,w1,h1,ks,v,d,t,rfl,_⟩:=h
  rfl
 obtain⟨HB,pp,s,b,w1,h1,ks,v,d,t,rfl,SH,sB,hd,td,tz,q⟩:=h;have nd:=scleaves.nd;refine%[_,((4∣(@bu _ _ _ _ ab))<<<((5∣(@bu _ _ _ _ ((@aD _ _ _ _ _ (ae^^^(ae^^^((pv 1)^^^((pv 2)^^^((pv 3)^^^ab))))))^^^ab)))<<<((gK E2 (ft (pv 5) (λ _=>Y)) ((6∣(jy F3 Qc Qd jz (pv 5)))>>>((@aB _ _ _ _ _ _ _ _ fR (((pv 6)&&&ix_tup&&&ae)&&&bc&&&ae) (aN (v:=.ref wa) Y Z.wy Y) Y)<|>(@ag _ _ _ (@aO _ _ _ _ (@dG _ _ _ _ _ _ _ _ _ _ _ _ F3 PySem.F.slot_list_extend PySem.F.type_list_extend dX (pv 5) ((DS∪((bW (pv 0) T.cl MB (hr.mono ∅))^^^((pv 6)^^^ab)))^^^ab) Y Y Y Y Y) Y))<|>(@ag _ _ _ (@aO _ _ _ _ (@dG _ _ _ _ _ _ _ _ _ _ _ _ F3 PySem.F.slot_list_append PySem.F.type_list_append dj (pv 4) ((pv 6)^^^ab) Y Y Y Y Y) Y)))))<<<((pv 4)⁻¹))))|?_];dsimp only[bJ];have sz:(40000:Nat)<=sizeLine:=∅
 obtain⟨dx,r,rs,S1,S2,S3⟩:=id SH;refine%[∅|λ ll hll=>?_];have s0:Same H (upd H ll (.lst [])):=F9 hll;have k0:(upd H ll (.lst [])) ll=↥[]:=af;generalize upd H ll (.lst [])=H0 at s0 k0 ⊢;refine%[_,Y,_,Y,_,Y,zS5|λ t' ht=>?_];have sa:Same H0 (upd H0 t' (.tup [.int 0,.int 0,.int w1,.int h1,v])):=F9 ht;have ka:(upd H0 t' (.tup [.int 0,.int 0,.int w1,.int h1,v])) t'= ~~~[.int 0,.int 0,.int w1,.int h1,v]:=af;generalize upd H0 t' (.tup [.int 0,.int 0,.int w1,.int h1,v])=Ha at sa ka ⊢;refine%[zS1|λ wl hwl=>?_];have sb:Same Ha (upd Ha wl (.lst [.ref t'])):=F9 hwl;have kb:(upd Ha wl (.lst [.ref t'])) wl=↥[.ref t']:=af;generalize upd Ha wl (.lst [.ref t'])=Hb at sb kb ⊢;have fw:H wl=none:=(s0.trans sa).free hwl;have nlw:ll≠wl:=λ z=>by rw[<- z,sa _ _ k0]at hwl;cases hwl
 have sab:=(s0.trans sa).trans sb;refine%[λ m σ H'=>∃(vs us:QA V)(ts L:QA Lf)(v6:P8 V),σ=[↑s,⇑w1,⇑h1,some v,↑ll,↑wl,v6]/\m=lsz ts/\H' wl=↥vs/\H' ll=↥us/\Paired (LfAt pp HB H') vs ts/\Paired (LfAt pp HB H') us L/\lsz ts+L.length<=10000/\L ++ tD b ts=lvs b t 0 0 w1 h1/\Same H H',%[_,[.ref t'],[],[%[0,0,w1,h1|t]],[],none,Y,Y,kb,sb _ _ (sa _ _ k0),.cons %[t',v,d,Y,sb _ _ ka,hd|td] .nil,.nil,(by show szT t+0+0<=10000;lia),(by show[] ++ (lvs b t 0 0 w1 h1 ++ [])=_;rw[J7];rfl)|sab]|?_];intro m σ H1 hI9;refine cV λ G9 k9=>?_;obtain⟨vs,us,ts,L,v6,e8,e9,hw,hl,pr,pu,sz1,al,s1⟩:=hI9;rcases wlP pr with⟨rfl,rfl⟩ | ⟨vs',ts',v0,t0,rfl,rfl,prp,sp,u,du,rfl,hsp,hdu,tdu⟩
 ·subst e8 e9;refine k9 ?_;refine%[_,Y,_,.inl %[_,G1 hw|Y]|?_];rw[show tD b []=[]from rfl,J7]at al;rw[al]at pu;exact aP %[_,rfl|q ll us H1 hll hl pu s1]
 subst e8 e9;refine k9 ?_;refine%[_,Y,_,.inl %[_,G1 hw|Y]|?_];rw[show(!(vs' ++ [V.ref sp]).isEmpty)=true by cases vs' <;> rfl];have ssz:lsz (ts' ++ [t0])=lsz ts'+szT t0.t:=by rw[dh];show _+(szT t0.t+0)=_;lia
 rw[ssz]at sz1 ⊢;refine aW %[λ σ' H'=>∃(vs us:QA V)(ts L:QA Lf)(v6:P8 V),σ'=[↑s,⇑w1,⇑h1,some v,↑ll,↑wl,v6]/\lsz ts < lsz ts'+szT t0.t/\H' wl=↥vs/\H' ll=↥us/\Paired (LfAt pp HB H') vs ts/\Paired (LfAt pp HB H') us L/\lsz ts+L.length<=10000/\L ++ tD b ts=lvs b t 0 0 w1 h1/\Same H H',λ σ' H' ⟨vs,us,ts,L,v6,e,l,r⟩=>%[_,l,vs,us,ts,L,v6,e,rfl|r]|?_];rw[eC]at al;have ml:(vs' ++ [V.ref sp]).length=vs'.length+1:=by rw[G6];rfl
 have keep:∀{Hx:Hp}{o:HO},Same H Hx->Same H (upd Hx wl o):=λ {Hx o} sx c oo e=>by rw[ap (λ z=>by rw[z,fw]at e;cases e)];exact sx _ _ e
 have keepL:∀{Hx:Hp}{o:HO},Same H Hx->Same H (upd Hx ll o):=λ {Hx o} sx c oo e=>by rw[ap (λ z=>by rw[z,hll]at e;cases e)];exact sx _ _ e
 refine ao (λ R=>∀(H':Hp),H' wl=↥vs'->H' ll=↥us->Paired (LfAt pp HB H') vs' ts'->Paired (LfAt pp HB H') us L->H' sp= ~~~[.int t0.x,.int t0.y,.int t0.w,.int t0.h,u]->Same H H'->R [↑s,⇑w1,⇑h1,some v,↑ll,↑wl,↑sp] H') (λ Dd hR=>?_) ?_
 ·refine%[_,Y,.inl %[Y,_|G1 hw],wl,_,.ref sp,Y,Y,hw,(by rw[ml];simp)|?_];rw[O1];have kt:∀{c:P6}{xs:QA V},H1 c= ~~~xs->(upd H1 wl (.lst vs')) c= ~~~xs:=λ {c xs} e=>by rw[ap (λ z=>by rw[z,hw]at e;cases e)];exact e
  exact hR _ af (by rw[ap nlw];exact hl) (G2 prp λ v t h=>h.keep λ a xs e=>kt e) (G2 pu λ v t h=>h.keep λ a xs e=>kt e) (kt hsp) (keep s1)
 rintro H2 hw2 hl2 pr2 pu2 hsp2 s02;have a4:atI [.int t0.x,.int t0.y,.int t0.w,.int t0.h,u] 4=some u:=aH ∅ rfl;refine%[_,Y,sp,_,4,_,Y,Y,G0 hsp2,a4|?_];refine cV λ G9 k9=>?_;obtain⟨a,xs,rfl,hx,vw,_⟩:=hdu.view tdu;refine k9 ?_;show rIx K (.ref a) (.int 0) H2 _;refine ixR (sB.trans s02) hx (aH (E3 _) rfl) %[wa,_,rfl,.inr (Z.wq _),rfl,rfl,_,rfl|?_];show(if (inV (V.str (hdW t0.t)) [V.str "down",V.str "across"])=true then _ else _);rw[lZ];cases ec:nA t0.t with
 | true=>
  refine cV λ G9 k9=>?_;obtain⟨dn,p,l,r,et⟩:=oJ ec;obtain⟨dl,dr,lv,rv,rfl,tl,tr,hdl,hdr⟩:=vw _ _ _ _ et;rw[et]at hx;refine k9 ?_;have SH2:=bI s02 SH;obtain⟨dx',r',rs',S1',S2',S3'⟩:=id SH2;refine aW %[_,rfl,.inl %[rfl,_|G1 hw2],_,rfl,s,dx',_,rfl,S1',(bT _ _ ∅ ∅),s,b,ks,rfl,SH2,_,rfl|?_];refine%[b,t0.x,t0.y,t0.w,t0.h,p,sp,a,dn,lv,rv,Y,hsp2,hx.imp ((sB.trans s02) _ _) ((sB.trans s02) _ _)|λ lu t1 t2 H4 hlu ku k1 k2 s4=>?_];have hw4:=s4 _ _ hw2;have pl:=E1 pr2;have sl:=me ts';have sz0:szT t0.t=szT l+szT r+1:=by rw[et];rfl
  refine%[wl,lu,_,_,Y,Y,hw4,ku,by show _+2<=_;lia|?_];have kt:∀{c:P6}{xs:QA V},H4 c= ~~~xs->(upd H4 wl (.lst (vs' ++ [.ref t1,.ref t2]))) c= ~~~xs:=λ {c xs} e=>by rw[ap (λ z=>by rw[z,hw4]at e;cases e)];exact e
  have kl4:(upd H4 wl (.lst (vs' ++ [.ref t1,.ref t2]))) ll=↥us:=by rw[ap nlw];exact s4 _ _ hl2
  have pr4:Paired (LfAt pp HB (upd H4 wl (.lst (vs' ++ [.ref t1,.ref t2])))) vs' ts':=G2 pr2 λ v t h=>h.keep λ a xs e=>kt (s4 _ _ e);have pu4:Paired (LfAt pp HB (upd H4 wl (.lst (vs' ++ [.ref t1,.ref t2])))) us L:=G2 pu2 λ v t h=>h.keep λ a xs e=>kt (s4 _ _ e);cases dn with
  | true=>
   have k1:H4 t1= ~~~[.int t0.x,.int t0.y,.int p,.int t0.h,lv]:=k1;have k2:H4 t2= ~~~[.int (t0.x+(p+b)),.int t0.y,.int (t0.w - p - b),.int t0.h,rv]:=k2;refine%[vs' ++ [.ref t1,.ref t2],us,ts' ++ [%[t0.x,t0.y,p,t0.h|l]] ++ [%[t0.x+(p+b),t0.y,t0.w - p - b,t0.h|r]],L,_,Y,?_,af,kl4,?_,pu4,?_,?_|keep (s02.trans s4)]
   ·rw[dh,dh];show _+(szT l+0)+(szT r+0) < _;rw[sz0];lia
   ·rw[N1];exact eZ pr4 (.cons %[t1,lv,dl,Y,kt k1,hdl|tl] (.cons %[t2,rv,dr,Y,kt k2,hdr|tr] .nil))
   ·rw[dh,dh];show _+(szT l+0)+(szT r+0)+_<=_;rw[sz0]at sz1;lia
   ·rw[eC,eC,<- al,et,lvs,N1]
  | false=>
   have k1:H4 t1= ~~~[.int t0.x,.int t0.y,.int t0.w,.int p,lv]:=k1;have k2:H4 t2= ~~~[.int t0.x,.int (t0.y+(p+b)),.int t0.w,.int (t0.h - p - b),rv]:=k2;refine%[vs' ++ [.ref t1,.ref t2],us,ts' ++ [%[t0.x,t0.y,t0.w,p|l]] ++ [%[t0.x,t0.y+(p+b),t0.w,t0.h - p - b|r]],L,_,Y,?_,af,kl4,?_,pu4,?_,?_|keep (s02.trans s4)]
   ·rw[dh,dh];show _+(szT l+0)+(szT r+0) < _;rw[sz0];lia
   ·rw[N1];exact eZ pr4 (.cons %[t1,lv,dl,Y,kt k1,hdl|tl] (.cons %[t2,rv,dr,Y,kt k2,hdr|tr] .nil))
   ·rw[dh,dh];show _+(szT l+0)+(szT r+0)+_<=_;rw[sz0]at sz1;lia
   ·rw[eC,eC,<- al,et,lvs,N1]
 | false=>
  have sl:=me ts';have ul:=E1 pu2;obtain⟨SZ,LV⟩:=AG ec;refine aP %[_,rfl,.inl %[rfl,_|G1 hl2],_,rfl,ll,us,_,rfl,rfl,hl2,⋯|?_];have kt:∀{c:P6}{xs:QA V},H2 c= ~~~xs->(upd H2 ll (.lst (us ++ [.ref sp]))) c= ~~~xs:=λ {c xs} e=>by rw[ap (λ z=>by rw[z,hl2]at e;cases e)];exact e
  refine%[vs',us ++ [.ref sp],ts',L ++ [t0],_,Y,⋯,by rw[ap (Ne.symm nlw)];exact hw2,af,G2 pr2 λ v t h=>h.keep λ a xs e=>kt e,eZ (G2 pu2 λ v t h=>h.keep λ a xs e=>kt e) (.cons %[sp,.ref a,du,Y,kt hsp2,hdu|tdu] .nil),?_,?_|keepL s02]
  ·rw[G6];show _+(_+1)<=_;lia
  ·rw[<- al,N1];congr 2;rw[LV]
theorem TrD.many{b:Int}:∀(t:Tr)(d:PyData)(x y w h:Int),TrD t d->(lvs b t x y w h).length=lvN t/\szT t<=wt d
 | .rest,d,_,_,_,_,e=>by
  have:=hI (show aQ d=some [.str "rest"]from e);have w1:wts [.str "rest"]=5:=∅
  refine%[Y|?_];show 1<=wt d;lia
 | .piece i c u v,d,_,_,_,_,e=>by
  have:=hI (show aQ d=some [.str "piece",.int i,.bool c,.int u,.int v]from e);have w1:wts [.str "piece",.int i,.bool c,.int u,.int v]=10:=by
   show wt (.str "piece")+(1+(1+(1+(1+0))))=10
   decide +kernel
  refine%[Y|?_];show 1<=wt d;lia
 | .cut true p l r,d,x,y,w,h,⟨dl,dr,e,tl,tr⟩=>by
  have h0:=hI e;have w1:wts [.str (if true=true then "down" else "across"),.int p,dl,dr]=5+(1+(wt dl+(wt dr+0))):=by show wt (.str "down")+(1+(wt dl+(wt dr+0)))=_;rw[show wt (.str "down")=5 by decide +kernel]
  have h1:=TrD.many (b:=b) r dr (x+(p+b)) y (w - p - b) h tr;have h2:=TrD.many (b:=b) l dl x y p h tl;rw[lvs,G6,szT,lvN];lia
 | .cut false p l r,d,x,y,w,h,⟨dl,dr,e,tl,tr⟩=>by
  have h0:=hI e;have w1:wts [.str (if false=true then "down" else "across"),.int p,dl,dr]=7+(1+(wt dl+(wt dr+0))):=by show wt (.str "across")+(1+(wt dl+(wt dr+0)))=_;rw[show wt (.str "across")=7 by decide +kernel]
  have h1:=TrD.many (b:=b) r dr x (y+(p+b)) w (h - p - b) tr;have h2:=TrD.many (b:=b) l dl x y w p tl;rw[lvs,G6,szT,lvN];lia
theorem cJ(b:Int):∀(t:Tr)(x y w h:Int),∀f∈lvs b t x y w h,f.t=.rest\/∃i c u v,f.t=.piece i c u v
 | .rest,_,_,_,_,f,hf=>by cases C9.mp hf;exact .inl rfl
 | .piece i c u v,_,_,_,_,f,hf=>by cases C9.mp hf;exact .inr %[i,c,u,v|Y]
 | .cut true p l r,x,y,w,h,f,hf=>by rw[lvs]at hf;exact(C2.mp hf).elim (cJ b r _ _ _ _ f) (cJ b l _ _ _ _ f)
 | .cut false p l r,x,y,w,h,f,hf=>by rw[lvs]at hf;exact(C2.mp hf).elim (cJ b r _ _ _ _ f) (cJ b l _ _ _ _ f)
structure TrH(C pp s:P6)(b w h:Int)(ks:QA Kd)(v:V)(d:PyData)(t:Tr)(H:Hp):Prop where
 sh:ShopAt C H s b ks
 w1:1<=w
 h1:1<=h
 dt:Dt pp H v d
 td:TrD t d
 ok:okT b ks w h t
 wd:wt d<=2000
 ln:lvN t<=63
theorem TrH.same{C pp s:P6}{b w h:Int}{ks:QA Kd}{v:V}{d:PyData}{t:Tr}{H H':Hp}(x:TrH C pp s b w h ks v d t H)(k:Same H H'):TrH C pp s b w h ks v d t H':=%[bI k x.sh,x.w1,x.h1,x.dt.same k,x.td,x.ok,x.wd|x.ln]
structure Pce where
 k:Nat
 c:Bool
 x:Int
 y:Int
def Nk(p:Pce):QA V:=[.int p.k,.bl p.c,.int p.x,.int p.y]
def GJ(p:Pce):QA Int:=[(p.k:Int),if p.c=true then 1 else 0,p.x,p.y]
def lfP(f:Lf):P8 Pce:=match f.t with
 | .piece i c u v=>some %[i,c,f.x+u|f.y+v]
 | _=>none
def pcs(b:Int)(t:Tr)(w h:Int):QA Pce:=(lvs b t 0 0 w h).filterMap lfP
def PA(H:Hp)(a:P6)(p:Pce):Prop:=H a= ~~~(Nk p)
def iV(H:Hp)(a:P6):Pce:=match H a with
 | some (.tup [.int k,.bl c,.int x,.int y])=>%[k.toNat,c,x|y]
 | _=>%[0,false,0|0]
theorem PA.of{H:Hp}{a:P6}{p:Pce}(h:PA H a p):iV H a=p:=by unfold iV;rw[show H a= ~~~[.int p.k,.bl p.c,.int p.x,.int p.y]from h];show(%[(p.k:Int).toNat,p.c,p.x|p.y]:Pce)=p;rw[J4]
theorem PA.map{H:Hp}:∀{as:QA P6}{ps:QA Pce},Paired (PA H) as ps->as.map (iV H)=ps
 | _,_,.nil=>rfl
 | _,_,.cons h r=>by rw[J0,h.of,PA.map r]
theorem PA.mem{H:Hp}:∀{as:QA P6}{ps:QA Pce},Paired (PA H) as ps->∀a∈as,PA H a (iV H a)
 | _,_,.nil,a,h=>by cases h
 | _,_,.cons h r,a,hm=>by
  rcases G5.mp hm with e | e
  ·subst e;rw[h.of];exact h
  ·exact PA.mem r a e
theorem PA.back{H:Hp}:∀{as:QA P6},(∀a∈as,PA H a (iV H a))->Paired (PA H) as (as.map (iV H))
 | [],_=>.nil
 | a :: as,h=>.cons (h a B7) (PA.back λ b hb=>h b (B4 _ hb))
theorem PA.keep{H H':Hp}(k:∀a xs,H a= ~~~xs->H' a= ~~~xs){as:QA P6}{ps:QA Pce}(h:Paired (PA H) as ps):Paired (PA H') as ps:=G2 h λ a p e=>k _ _ e
inductive spPieces(C:P6)(vs:QA V)(H:Hp)(Q:VK)(E_:XK):Prop
|mk(pp s:P6)(b w h:Int)(ks:QA Kd)(v:V)(d:PyData)(t:Tr)(_:vs=[.ref s,.int w,.int h,v])(_:TrH C pp s b w h ks v d t H)(_:∀(l:P6)(as:QA P6)(ps:QA Pce)(H':Hp),H l=none->H' l=↥(as.map V.ref)->Paired (PA H') as ps->ps.Perm (pcs b t w h)->(ps.map GJ).Pairwise (λ x y=>aX y x=false)->Same H H'->Q (.ref l) H')
theorem scpieces:FnScope ["shop","wide","high","tree","pieces","x","y","part_wide","part_high","leaf","word","kind","turned","piece_x","piece_y"] ["shop","wide","high","tree"] (defScope gb):=%[Y,Y,Y,∅,Y,∅|∅]
theorem tE{f C wa:P6}{fd:F6}(F:Fun K "pieces_of" "pieces_of" gb f fd)(B:Blt mg)(Z:TrC K mg wa)(DC:Dn P w K mg base "check_tree" ["shop","wide","high","thing"] 7 (spCheckT C))(DL:Dn P w K mg base "leaves_of" ["shop","wide","high","tree"] 3 (spLeaves C)):FnOk P w K mg base CX0 8 f fd ["shop","wide","high","tree"] (spPieces C):=by
 exists scpieces
 ·obtain⟨pp,s,b,w1,h1,ks,v,d,t,rfl,_⟩:=h
  rfl
 obtain⟨pp,s,b,w1,h1,ks,v,d,t,rfl,th,q⟩:=h;have nd:=scpieces.nd;obtain⟨trs,hrs⟩:=Z.rs;refine%[_,((@aO _ _ _ _ (DC∪((pv 0)^^^((pv 1)^^^((pv 2)^^^((pv 3)^^^ab))))) Y)<<<((4∣(@bu _ _ _ _ ab))<<<((@cG _ _ _ _ _ _ _ _ E2 Y (cm (DL∩((pv 0)^^^((pv 1)^^^((pv 2)^^^((pv 3)^^^ab)))))) (aU Y (5•(6•(7•(8•(9•aJ)))))) (@ag _ _ _ ((((pv 9)&&&bc&&&ae)<*>gM<*>(aN (v:=.str "rest") Y hrs %[trs|Y]))<|>((@bq _ _ _ _ _ _ (pv 9) (jD Y (10•(11•(12•(13•(14•aJ)))))) Y Y Y)>>>(@aO _ _ _ _ (@dG _ _ _ _ _ _ _ _ _ _ _ _ F3 PySem.F.slot_list_append PySem.F.type_list_append dj (pv 4) ((@aD _ _ _ _ _ ((pv 11)^^^((pv 12)^^^(((pv 5)|||aM|||(pv 13))^^^(((pv 6)|||aM|||(pv 14))^^^ab)))))^^^ab) Y Y Y Y Y) Y))<|>aF)) (by intro _;rfl))<<<((@aI _ _ _ _ _ _ _ _ _ gU Y B.sorted PyProof.Rows.boot_sorted ((pv 4)^^^ab) ∅ ∅ Y Y)⁻¹))))|?_];dsimp only[bJ];have sz:(40000:Nat)<=sizeLine:=∅
 obtain⟨m1,m2⟩:=TrD.many (b:=b) t d 0 0 w1 h1 th.td;have wd:=th.wd;have ln:=th.ln;refine%[_,Y,_,Y,_,Y,_,Y,pp,s,b,w1,h1,ks,v,d,Y,th.sh,th.w1,th.h1,th.dt,⋯,TrD.good t d w1 h1 th.td th.ok|λ H1 s1=>?_];refine%[∅|λ pl hpl=>?_];have s2:Same H1 (upd H1 pl (.lst [])):=F9 hpl;have k2:(upd H1 pl (.lst [])) pl=↥[]:=af;generalize upd H1 pl (.lst [])=H2 at s2 k2 ⊢;have s02:=s1.trans s2;have th2:=th.same s02;have fp:H pl=none:=s1.free hpl;have dp:Dt pl H2 v d:=(th.dt.fresh fp).same s02;refine cg (λ σ' H'=>σ'=[↑s,⇑w1,⇑h1,some v,↑pl,none,none,none,none,none,none,none,none,none,none]/\H2=H') (λ R hR=>hR _ _ %[rfl|rfl]) ?_;rintro _ _ ⟨rfl,rfl⟩;refine ao (λ R=>∀v5 v6 v7 v8 v9 v10 v11 v12 v13 v14 (H':Hp),(∃as,H' pl=↥(as.map V.ref)/\Paired (PA H') as (pcs b t w1 h1)/\as.length<=63)->Same H H'->R [↑s,⇑w1,⇑h1,some v,↑pl,v5,v6,v7,v8,v9,v10,v11,v12,v13,v14] H') (λ Dd hR=>?_) ?_
 ·refine%[_,Y,_,Y,_,Y,_,Y,pl,s,b,w1,h1,ks,v,d,t,Y,th2.sh,dp,th2.td,⋯|λ ll us H3 hll l3 pu s23=>?_];have s03:=s02.trans s23;have ul:=E1 pu;have npl:ll≠pl:=λ z=>by rw[z,k2]at hll;cases hll
  refine%[ll,Y,%[_|G1 l3]|fk (xs:=us) (λ i σ' H'=>(∃v5 v6 v7 v8 v9 v10 v11 v12 v13 v14,σ'=[↑s,⇑w1,⇑h1,some v,↑pl,v5,v6,v7,v8,v9,v10,v11,v12,v13,v14])/\(∃as,H' pl=↥(as.map V.ref)/\Paired (PA H') as (((lvs b t 0 0 w1 h1).take i).filterMap lfP))/\H' ll=↥us/\Paired (LfAt pl H2 H') us (lvs b t 0 0 w1 h1)/\But pl H2 H'/\Same H H') %[%[_,_,_,_,_,_,_,_,_,_|Y],%[[],s23 _ _ k2|.nil],l3,pu,vE s23|s03] (λ i σ H' _ h=>G1 h.2.2.1) ?_ ?_]
  ·rintro i x σ H4 hi ⟨⟨v5,v6,v7,v8,v9,v10,v11,v12,v13,v14,rfl⟩,⟨as,hp4,pa4⟩,l4,pu4,b4,s4⟩;have hin:i < us.length:=(A6.mp hi).1;obtain⟨f,hf,a,u,du,rfl,ha,hdu,tdu⟩:=G3 pu4 hi;have pal:=E1 pa4;have fml:(((lvs b t 0 0 w1 h1).take i).filterMap lfP).length<=i:=C5 (K5 _ _) (by rw[J3];lia);have tk:(lvs b t 0 0 w1 h1).take (i+1)=(lvs b t 0 0 w1 h1).take i ++ [f]:=by rw[J5,hf];rfl
   refine%[a,_,Y,G0 ha,Y,_,_,Y,_,_,Y,_,_,Y,_,_,Y,_,_,Y,Y|?_];have hdu4:Dt pl H4 u du:=hdu.but %[_|k2] b4;rcases cJ b t 0 0 w1 h1 f (B5 hf)with et | ⟨ki,c,px,py,et⟩
   ·rw[et]at tdu;obtain⟨a',rfl,hx⟩:=hdu4.rest1 tdu;refine%[_,Y|ixR (Same.refl _) hx (aH (E3 _) rfl) %[Y,_,Y|?_]];refine aP %[%[_,_,_,_,_,_,_,_,_,_|rfl],%[as,hp4|?_],l4,pu4,b4|s4];rw[tk,O7,show[f].filterMap lfP=[]by rw[K9,show lfP f=none by unfold lfP;rw[et]];rfl,J7];exact pa4
   ·rw[et]at tdu;obtain⟨a',rfl,hx⟩:=hdu4.piece1 (show aQ du=some [.str "piece",.int ki,.bool c,.int px,.int py]from tdu);refine%[_,Y|ixR (Same.refl _) hx (aH (E3 _) rfl) %[Y,_,Y|?_]];refine aW ?_;refine%[_,Y,a',_,Y,hx.imp (λ z=>G1 z) (λ z=>G0 z),Y,_,_,Y,_,_,Y,_,_,Y,_,_,Y,_,_,Y,Y|?_];refine%[_,Y,.inl %[Y,_|G1 hp4],_,Y,_,Y,_,Y,_,Y,_,_,Y,Y,_,Y,_,Y,_,_,Y,Y,zS4|λ tp htp=>?_];have s5:=F9 htp (o:=.tup [.int ki,.bl c,.int (f.x+px),.int (f.y+py)]);have k5:(upd H4 tp (.tup [.int ki,.bl c,.int (f.x+px),.int (f.y+py)])) tp= ~~~[.int ki,.bl c,.int (f.x+px),.int (f.y+py)]:=af;rw[show upd H4 tp _=upd H4 tp (.tup [.int ki,.bl c,.int (f.x+px),.int (f.y+py)])from rfl];generalize upd H4 tp (.tup [.int ki,.bl c,.int (f.x+px),.int (f.y+py)])=H5 at s5 k5 ⊢;have hp5:=s5 _ _ hp4;refine%[pl,_,_,Y,Y,hp5,(by rw[G4];lia)|?_];have kt:∀(a:P6)(xs:QA V),H4 a= ~~~xs->(upd H5 pl (.lst (as.map V.ref ++ [.ref tp]))) a= ~~~xs:=λ a xs e=>by rw[ap (λ z=>by rw[z,hp4]at e;cases e)];exact s5 _ _ e
    refine%[%[_,_,_,_,_,_,_,_,_,_|Y],%[as ++ [tp],by rw[af,I9];rfl|?_],by rw[ap npl];exact s5 _ _ l4,G2 pu4 λ v f h=>h.keep kt,b4.trans (λ cc o n e=>by rw[ap n];exact s5 _ _ e)|λ cc o e=>by rw[ap (λ z=>by rw[z,fp]at e;cases e)];exact s5 _ _ (s4 _ _ e)];rw[tk,O7,show[f].filterMap lfP=[%[ki,c,f.x+px|f.y+py]]by rw[K9,show lfP f=some %[ki,c,f.x+px|f.y+py]by unfold lfP;rw[et]];rfl];exact eZ (PA.keep kt pa4) (.cons (show _=_ by rw[ap (λ z=>by rw[z,hp5]at k5;cases k5)];exact k5) .nil)
  ·rintro σ H4 ⟨⟨v5,v6,v7,v8,v9,v10,v11,v12,v13,v14,rfl⟩,⟨as,hp4,pa4⟩,l4,pu4,b4,s4⟩;rw[ul,K2]at pa4;have:=E1 pa4;have fml:((lvs b t 0 0 w1 h1).filterMap lfP).length<=(lvs b t 0 0 w1 h1).length:=K5 _ _;exact hR _ _ _ _ _ _ _ _ _ _ _ %[as,hp4,pa4|⋯] s4
 rintro v5 v6 v7 v8 v9 v10 v11 v12 v13 v14 H3 ⟨as,hp3,pa3,al⟩ s3;have mem:=PA.mem pa3;have mp:=PA.map pa3;refine%[_,Y,pl,as,[false,true,false,false],λ a=>GJ (iV H3 a),Y,G1 hp3,⋯,Y,λ a ha=>%[_,G0 (mem a ha)|Y]|λ l as' hl pa so=>?_];have s4:=F9 hl (o:=.lst (as'.map V.ref));refine q l as' (as'.map (iV H3)) _ (s3.free hl) af (PA.keep (λ a xs e=>s4 _ _ e) (PA.back λ a ha=>mem a (pa.mem_iff.mp ha))) ?_ ?_ (s3.trans s4)
 ·rw[<- mp];exact pa.map _
 ·rw[N0];exact so
theorem wz{X:Cx}:FX X (λ o i H Q=>∃p xs k x,o=.ref p/\i=.int k/\0<=k/\H p=↥xs/\atI xs k=some x/\Q x H):=by
 intro QC s σ H o i ov iv Q I ro ri h;obtain⟨p,xs,k,x,rfl,rfl,k0,hp,hx,q⟩:=h;cases ro;obtain⟨t,rfl⟩:=ri;obtain⟨its,r,pl,hz⟩:=I.list (G1 hp);obtain⟨j,h1,h2,h3,h4,h5⟩:=jb hx;obtain⟨w,ew,rw'⟩:=r.get h2;have hl:=r.length;have hn:=gy;have hj:k.toNat=j:=by rw[seqIndex_of k0 h5]at h1;exact B8 h1
 exact wpAny_getItem_list pl.isList k0 ⋯ (by rw[hj];simpa using ew) %[x,H,I,rw'|q]
def bK(ps:QA Pce)(n:Nat):QA Int:=(List.range n).map λ k=>((ps.filter λ p=>p.k == k).length:Int)
theorem cW(ps:QA Pce)(n:Nat):(bK ps n).length=n:=by unfold bK;rw[G4,M6]
theorem jr{ps:QA Pce}{n k:Nat}(h:k < n):(bK ps n)[k]?=some ((ps.filter λ p=>p.k == k).length:Int):=by unfold bK;rw[J2,List.getElem?_range h];rfl
theorem tF{ps qs:QA Pce}(h:ps.Perm qs)(n:Nat):bK ps n=bK qs n:=by unfold bK;apply N2;intro k _;rw[(h.filter _).length_eq]
theorem wA{ps:QA Pce}{p:Pce}{n:Nat}(h:p.k < n):((bK ps n).map V.int).set p.k (.int (((ps.filter λ q=>q.k == p.k).length:Int)+1))=(bK (ps ++ [p]) n).map V.int:=by
 apply List.ext_getElem?;intro j;rw[List.getElem?_set]
 by_cases hj:j < n
 ·rw[J2,J2,jr hj,jr hj,G4,cW]
  by_cases e:p.k=j
  ·subst e;rw[QI rfl,QI h,O5,G6];simp
  ·rw[QH e,O5,G6];have:([p].filter λ q=>q.k == j)=[]:=by simp[e]
   rw[this];rfl
 ·have h1:((bK ps n).map V.int)[j]?=none:=C7 (by rw[G4,cW];lia);have h2:((bK (ps ++ [p]) n).map V.int)[j]?=none:=C7 (by rw[G4,cW];lia);rw[h1,h2,QH ⋯]
theorem jV{b:Int}{ks:QA Kd}:∀(t:Tr)(x y w h:Int),okT b ks w h t->∀f∈lvs b t x y w h,∀i c u v,f.t=.piece i c u v->i < ks.length
 | .rest,_,_,_,_,_,f,hf,i,c,u,v,e=>by cases C9.mp hf;cases e
 | .piece ..,_,_,_,_,⟨k,hk,_⟩,f,hf,i,c,u,v,e=>by cases C9.mp hf;cases e;exact(A6.mp hk).1
 | .cut true p l r,x,y,w,h,⟨_,_,hl,hr⟩,f,hf,i,c,u,v,e=>by rw[lvs]at hf;exact(C2.mp hf).elim (λ z=>jV r _ _ _ _ hr f z i c u v e) (λ z=>jV l _ _ _ _ hl f z i c u v e)
 | .cut false p l r,x,y,w,h,⟨_,_,hl,hr⟩,f,hf,i,c,u,v,e=>by rw[lvs]at hf;exact(C2.mp hf).elim (λ z=>jV r _ _ _ _ hr f z i c u v e) (λ z=>jV l _ _ _ _ hl f z i c u v e)
theorem AH{b:Int}{ks:QA Kd}{t:Tr}{w h:Int}(ok:okT b ks w h t){p:Pce}(hp:p∈pcs b t w h):p.k < ks.length:=by
 obtain⟨f,hf,e⟩:=List.mem_filterMap.mp hp;rcases cJ b t 0 0 w h f hf with et | ⟨i,c,u,v,et⟩
 ·unfold lfP at e;rw[et]at e;cases e
 ·have:=jV t 0 0 w h ok f hf i c u v et;unfold lfP at e;rw[et]at e;cases e;exact this
inductive spCountsO(C:P6)(vs:QA V)(H:Hp)(Q:VK)(E_:XK):Prop
|mk(pp s:P6)(b w h:Int)(ks:QA Kd)(v:V)(d:PyData)(t:Tr)(_:vs=[.ref s,.int w,.int h,v])(_:TrH C pp s b w h ks v d t H)(_:ks.length<=8)(_:∀(l:P6)(H':Hp),H l=none->H' l=↥((bK (pcs b t w h) ks.length).map V.int)->Same H H'->Q (.ref l) H')
inductive spWorthO(C:P6)(vs:QA V)(H:Hp)(Q:VK)(E_:XK):Prop
|mk(pp s:P6)(b w h:Int)(ks:QA Kd)(v:V)(d:PyData)(t:Tr)(_:vs=[.ref s,.int w,.int h,v])(_:TrH C pp s b w h ks v d t H)(_:ks.length<=8)(_:(∀k∈ks,Good k))(_:∀(H':Hp),Same H H'->Q (.int (((bK (pcs b t w h) ks.length).zip ks).map λ z=>z.1 * z.2.wo).sum) H')
theorem sccountso:FnScope ["shop","wide","high","tree","pieces","counts","kind","turned","x","y"] ["shop","wide","high","tree"] (defScope dZ):=%[Y,Y,Y,∅,Y,∅|∅]
theorem oQ{f C:P6}{fd:F6}(F:Fun K "counts_of" "counts_of" dZ f fd)(B:Blt mg)(T:ShopTxt K C)(MK:Mn P w K mg base C "kinds" ["self"] 1 (fT C))(DP:Dn P w K mg base "pieces_of" ["shop","wide","high","tree"] 8 (spPieces C)):FnOk P w K mg base CX0 9 f fd ["shop","wide","high","tree"] (spCountsO C):=by
 exists sccountso
 ·obtain⟨pp,s,b,w1,h1,ks,v,d,t,rfl,_⟩:=h
  rfl
 obtain⟨pp,s,b,w1,h1,ks,v,d,t,rfl,th,k8,q⟩:=h;have nd:=sccountso.nd;refine%[_,((4∣(DP∪((pv 0)^^^((pv 1)^^^((pv 2)^^^((pv 3)^^^ab))))))<<<((dH (i:=5) (own:=["kind"]) (cs:=[]) (cap:=[]) Y nd Y Y Y (cm (bW (pv 0) T.cl MK (hr.mono ∅))) (aL (sc:=defScope dZ) (N:=["shop","wide","high","tree","pieces","counts","kind","turned","x","y"]) Y Y ∅) (λ _ _ _ _ _=>ai (i:=0) (by show List.Nodup (["kind"]:QA Str) ;decide +kernel) Y (Or.inl Y) (Or.inr Y)) (λ _ _ _ _ _=>bd) (λ _ _ _ _ _=>ae))<<<((@cG _ _ _ _ _ _ _ _ E2 Y (cm (pv 4)) (aU Y (6•(7•(8•(9•aJ))))) (@ag _ _ _ (xD (pv 5) (pv 6) wz ae js fz)) (by intro _;rfl))<<<((pv 5)⁻¹))))|?_];dsimp only[bJ];have sz:(40000:Nat)<=sizeLine:=∅
 refine ao (λ R=>∀pl as ps (H':Hp),H' pl=↥(as.map V.ref)->Paired (PA H') as ps->ps.Perm (pcs b t w1 h1)->Same H H'->R [↑s,⇑w1,⇑h1,some v,↑pl,none,none,none,none,none] H') (λ Dd hR=>?_) ?_
 ·exact%[_,Y,_,Y,_,Y,_,Y,pp,s,b,w1,h1,ks,v,d,t,Y,th|λ l as ps H1 hl l1 pa pe so s1=>hR l as ps _ l1 pa pe s1]
 rintro pl as ps H1 hp1 pa1 pe s1;have th1:=th.same s1;refine ao (λ R=>∀cl (H':Hp),H1 cl=none->H' cl=↥((bK [] ks.length).map V.int)->Same H1 H'->R [↑s,⇑w1,⇑h1,some v,↑pl,↑cl,none,none,none,none] H') (λ Dd hR=>?_) ?_
 ·obtain⟨dx,r,rs,S1,S2,S3⟩:=id th1.sh;refine%[_,Y,s,dx,_,Y,S1,(bT _ _ ∅ ∅),s,b,ks,Y,th1.sh|λ l rs' hl tp=>?_];have s2:=F9 hl (o:=.lst rs');have k2:(upd H1 l (.lst rs')) l=↥rs':=af;generalize upd H1 l (.lst rs')=H2 at s2 k2 ⊢;have tl:=E1 tp;refine%[l,Y,%[_|G1 k2]|(bE (K:=K) (.inl k2) (λ i ys Hx=>Same H2 Hx/\ys=List.replicate i (.int 0)) (λ i ys Hx _ ⟨sx,_⟩ o e=>sx _ _ e) %[Same.refl _|Y] ?_ ?_).1 k2]
  ·rintro i x ys Hx hi ⟨sx,rfl⟩;have hin:i < rs'.length:=(A6.mp hi).1;refine%[by rw[J8];lia,leS.set rfl|bg ?_];show Nx rs'.length (λ i ys Hx=>Same H2 Hx/\ys=List.replicate i (V.int 0)) i (List.replicate i (V.int 0) ++ [.int 0]) Hx;refine Nx.of hin ?_;exact%[sx|(List.replicate_succ' ..).symm]
  ·rintro ys Hx ⟨sx,rfl⟩;refine%[by rw[J8];lia|λ cl hcl=>hR cl _ ((s2.trans sx).free hcl) ?_ ((s2.trans sx).trans (F9 hcl))];rw[af];congr 2;rw[tl];unfold bK;apply List.ext_getElem
   ·simp
   ·intro j h1 h2;simp
 rintro cl H2 hcl hc2 s2;have fc:H cl=none:=s1.free hcl;have npc:pl≠cl:=λ z=>by rw[<- z,hp1]at hcl;cases hcl
 have pal:=E1 pa1;have pa2:Paired (PA H2) as ps:=PA.keep (λ a xs e=>s2 _ _ e) pa1;have hp2:=s2 _ _ hp1;refine ao (λ R=>∀v6 v7 v8 v9 (H':Hp),H' cl=↥((bK ps ks.length).map V.int)->Same H H'->R [↑s,⇑w1,⇑h1,some v,↑pl,↑cl,v6,v7,v8,v9] H') (λ Dd hR=>?_) ?_
 ·refine%[_,Y,pl,Y,%[_|G1 hp2]|fk (xs:=as.map V.ref) (λ i σ' H'=>(∃v6 v7 v8 v9,σ'=[↑s,⇑w1,⇑h1,some v,↑pl,↑cl,v6,v7,v8,v9])/\H' cl=↥((bK (ps.take i) ks.length).map V.int)/\H' pl=↥(as.map V.ref)/\Paired (PA H') as ps/\Same H H') %[%[_,_,_,_|Y],hc2,hp2,pa2|s1.trans s2] (λ i σ H' _ h=>G1 h.2.2.1) ?_ ?_]
  ·rintro i x σ H3 hi ⟨⟨v6,v7,v8,v9,rfl⟩,hc3,hp3,pa3,s3⟩;rw[J2]at hi;obtain⟨a,ha,rfl⟩:=M2.mp hi;obtain⟨p,hpi,pA⟩:=G3 pa3 ha;have hk:=AH th.ok (pe.mem_iff.mp (B5 hpi));have pA:H3 a= ~~~[.int p.k,.bl p.c,.int p.x,.int p.y]:=pA;refine%[a,_,Y,G0 pA,Y,_,_,Y,_,_,Y,_,_,Y,_,_,Y,Y|?_];have hat:atI ((bK (ps.take i) ks.length).map V.int) (p.k:Int)=⇑(((ps.take i).filter λ q=>q.k == p.k).length:Int):=aH ⋯ (by rw[J4,J2,jr hk];rfl);have hix:ixN ((bK (ps.take i) ks.length).map V.int).length (p.k:Int)=some p.k:=by unfold ixN;rw[QI ⋯,G4,cW,QI ⋯,J4]
   refine%[_,Y,_,Y,cl,_,_,_,Y,Y,⋯,hc3,hat,_,_,Y,Y,cl,_,_,p.k,Y,Y,hc3,hix|?_];have kt:∀(o:HO)(a:P6)(xs:QA V),H3 a= ~~~xs->(upd H3 cl o) a= ~~~xs:=λ o a xs e=>by rw[ap (λ z=>by rw[z,hc3]at e;cases e)];exact e
   refine%[%[_,_,_,_|Y],?_,by rw[ap npc];exact hp3,PA.keep (kt _) pa3|λ c o e=>by rw[ap (λ z=>by rw[z,fc]at e;cases e)];exact s3 _ _ e];rw[af,wA hk,J5,hpi];rfl
  ·rintro σ H3 ⟨⟨v6,v7,v8,v9,rfl⟩,hc3,hp3,pa3,s3⟩;rw[G4,pal,K2]at hc3;exact hR _ _ _ _ _ hc3 s3
 rintro v6 v7 v8 v9 H3 hc3 s3;rw[tF pe]at hc3;exact%[_,Y|q cl H3 fc hc3 s3]
theorem scwortho:FnScope ["shop","wide","high","tree","counts"] ["shop","wide","high","tree"] (defScope fG):=%[Y,Y,Y,∅,Y,∅|∅]
theorem tG{f C:P6}{fd:F6}(F:Fun K "worth_of" "worth_of" fG f fd)(B:Blt mg)(T:ShopTxt K C)(MK:Mn P w K mg base C "kinds" ["self"] 1 (fT C))(DCo:Dn P w K mg base "counts_of" ["shop","wide","high","tree"] 9 (spCountsO C)):FnOk P w K mg base CX0 10 f fd ["shop","wide","high","tree"] (spWorthO C):=by
 exists scwortho
 ·obtain⟨pp,s,b,w1,h1,ks,v,d,t,rfl,_⟩:=h
  rfl
 obtain⟨pp,s,b,w1,h1,ks,v,d,t,rfl,th,k8,gk,q⟩:=h;have nd:=scwortho.nd;refine%[_,((4∣(DCo∪((pv 0)^^^((pv 1)^^^((pv 2)^^^((pv 3)^^^ab))))))<<<((@aI _ _ _ _ _ _ _ _ _ (fV Y) Y B.sum Qe ((bO (own:=["count","kind"]) (cs:=[]) (cap:=[]) Y (xX Y B.zip ((pv 4)^^^((bW (pv 0) T.cl MK (hr.mono ∅))^^^ab))) (aL (sc:=defScope fG) (N:=["shop","wide","high","tree","counts"]) Y Y ∅) (λ _ _ _ _ _=>lJ K Y Y (by show List.Nodup (["count","kind"]:QA Str) ;decide +kernel) Y Y Y Y) (λ _ _ _ _ _=>bd) (λ _ _ _ _ _=>((pv 0)|||dS|||(av (r:=rIxT K) ix_tup (pv 1) ae (λ _ _=>Y)))))^^^ab) ∅ ∅ Y Y)⁻¹))|?_];dsimp only[bJ];have sz:(40000:Nat)<=sizeLine:=∅
 refine ao (λ R=>∀cl (H':Hp),H' cl=↥((bK (pcs b t w1 h1) ks.length).map V.int)->Same H H'->R [↑s,⇑w1,⇑h1,some v,↑cl] H') (λ Dd hR=>?_) ?_
 ·exact%[_,Y,_,Y,_,Y,_,Y,pp,s,b,w1,h1,ks,v,d,t,Y,th,k8|λ l H1 hl l1 s1=>hR l _ l1 s1]
 rintro cl H1 hc1 s1;have th1:=th.same s1;obtain⟨dx,r,rs,S1,S2,S3⟩:=id th1.sh;obtain⟨m1,m2⟩:=TrD.many (b:=b) t d 0 0 w1 h1 th.td;have wd:=th.wd;have ln:=th.ln;have pl54:(pcs b t w1 h1).length<=63:=C5 (K5 _ _) ⋯;refine%[_,Y,_,Y,s,dx,_,Y,S1,(bT _ _ ∅ ∅),s,b,ks,Y,th1.sh|λ l rs' hl tp=>?_];have s2:=F9 hl (o:=.lst rs');have k2:(upd H1 l (.lst rs')) l=↥rs':=af;have tp2:Tups (upd H1 l (.lst rs')) rs' ks:=Tups.keep (λ c xs e=>s2 _ _ e) tp;generalize upd H1 l (.lst rs')=H2 at s2 k2 tp2 ⊢;have tl:=E1 tp;have hc2:=s2 _ _ hc1;have e60:(100:Int) < 10 ^ 60:=∅
 generalize hcn:bK (pcs b t w1 h1) ks.length=cn at *;have cl0:cn.length=ks.length:=by rw[<- hcn,cW]
 have cb:∀(i:Nat)(c:Int),cn[i]?=some c->0<=c/\c<=63:=λ i c hi=>by
  have hlt:i < ks.length:=by rw[<- cl0];exact(A6.mp hi).1
  rw[<- hcn,jr hlt]at hi;cases hi;have:=K0 (λ p:Pce=>p.k == i) (pcs b t w1 h1);lia
 refine%[cl,l,_,_,Y,hc2,k2|vg (xs:=cn.map V.int) (ys:=rs') (λ i zs H4=>Same H2 H4/\zs=(((cn.zip ks).take i).map λ z=>z.1 * z.2.wo).map V.int) (by rw[G4,cl0];exact tl.symm) (λ i zs H4 ⟨s4,_⟩=>%[s4 _ _ hc2|s4 _ _ k2]) %[Same.refl _|Y] (λ i zs H4 hi ⟨_,e⟩=>by rw[e,G4,G4,J3];rw[G4]at hi;lia) ?_ ?_]
 ·rintro i x y tz zs H4 hx hy htz ⟨s4,rfl⟩;rw[J2]at hx;obtain⟨c,hc,rfl⟩:=M2.mp hx;obtain⟨k,hk,ak,rfl,hak⟩:=G3 tp2 hy;have g:=gk k (B5 hk);have hcb:=cb i c hc;have s5:=F9 htz (o:=.tup [.int c,.ref ak]);have k5:(upd H4 tz (.tup [.int c,.ref ak])) tz= ~~~[.int c,.ref ak]:=af;generalize upd H4 tz (.tup [.int c,.ref ak])=H5 at s5 k5 ⊢;have ak5:H5 ak= ~~~[.int k.w,.int k.h,.int k.wo,.int k.wa,.bl k.tu]:=s5 _ _ (s4 _ _ hak);refine%[tz,_,Y,G0 k5,Y,_,_,Y,_,_,Y,Y,fb (leS.set rfl) (leS.set rfl)|bg ?_];refine%[_,Y,_,Y,ak,_,2,_,Y,Y,G0 ak5,Y,_,_,Y,Y,?_|Nx.of (by rw[G4,cl0];exact(A6.mp hk).1) %[s4.trans s5|?_]]
  ·exact .inl %[⋯|⋯]
  ·have hzz:(cn.zip ks)[i]?=some (c,k):=by rw[List.getElem?_zip_eq_some];exact%[hc|hk]
   rw[J5,hzz];simp only[M1,I9,J0,O4]
 ·rintro zs H4 ⟨s4,rfl⟩;refine%[by rw[G4,G4,J3,List.length_zip];lia|λ p hp=>?_];rw[G4,K1 (by rw[List.length_zip];lia)];exact%[p,_,Y,G1 af|q _ (((s1.trans s2).trans s4).trans (F9 hp))]
theorem yE{X:Cx}(K:C4){x y z u t:Str}{px py pz pu pt pos:Pos}{k:Nat}(hK:X.K=K)(hc:X.calm=true)(hN:X.N.Nodup)(h0:X.N[0]?=some x)(h1:X.N[1]?=some y)(h2:X.N[2]?=some z)(h3:X.N[3]?=some u)(h4:X.N[4]?=some t)(l0:X.env.scope.names.lookup x=some .local)(l1:X.env.scope.names.lookup y=some .local)(l2:X.env.scope.names.lookup z=some .local)(l3:X.env.scope.names.lookup u=some .local)(l4:X.env.scope.names.lookup t=some .local) :
  PG X (.Tuple [.Name x px,.Name y py,.Name z pz,.Name u pu,.Name t pt] k pos) (gTup K 5 (gCons (bU 0) (gCons (bU 1) (gCons (bU 2) (gCons (bU 3) (gCons (bU 4) mC)))))) :=
 hK ▸ aU hc (ah (ai hN h0 (.inl l0) (.inr l0)) (ah (ai hN h1 (.inl l1) (.inr l1)) (ah (ai hN h2 (.inl l2) (.inr l2)) (ah (ai hN h3 (.inl l3) (.inr l3)) (ah (ai hN h4 (.inl l4) (.inr l4)) aJ)))))
structure Rst where
 x:Int
 y:Int
 w:Int
 h:Int
def Nl(p:Rst):QA V:=[.int p.x,.int p.y,.int p.w,.int p.h]
def yF(p:Rst):QA Int:=[p.x,p.y,p.w,p.h]
def lfR(f:Lf):P8 Rst:=match f.t with
 | .rest=>some %[f.x,f.y,f.w|f.h]
 | _=>none
def nD(b:Int)(t:Tr)(w h:Int):QA Rst:=(lvs b t 0 0 w h).filterMap lfR
def RA(H:Hp)(a:P6)(p:Rst):Prop:=H a= ~~~(Nl p)
def hZ(H:Hp)(a:P6):Rst:=match H a with
 | some (.tup [.int k,.int c,.int x,.int y])=>%[k,c,x|y]
 | _=>%[0,0,0|0]
theorem RA.of{H:Hp}{a:P6}{p:Rst}(h:RA H a p):hZ H a=p:=by unfold hZ;rw[show H a= ~~~[.int p.x,.int p.y,.int p.w,.int p.h]from h]
theorem RA.map{H:Hp}:∀{as:QA P6}{ps:QA Rst},Paired (RA H) as ps->as.map (hZ H)=ps
 | _,_,.nil=>rfl
 | _,_,.cons h r=>by rw[J0,h.of,RA.map r]
theorem RA.mem{H:Hp}:∀{as:QA P6}{ps:QA Rst},Paired (RA H) as ps->∀a∈as,RA H a (hZ H a)
 | _,_,.nil,a,h=>by cases h
 | _,_,.cons h r,a,hm=>by
  rcases G5.mp hm with e | e
  ·subst e;rw[h.of];exact h
  ·exact RA.mem r a e
theorem RA.back{H:Hp}:∀{as:QA P6},(∀a∈as,RA H a (hZ H a))->Paired (RA H) as (as.map (hZ H))
 | [],_=>.nil
 | a :: as,h=>.cons (h a B7) (RA.back λ b hb=>h b (B4 _ hb))
theorem RA.keep{H H':Hp}(k:∀a xs,H a= ~~~xs->H' a= ~~~xs){as:QA P6}{ps:QA Rst}(h:Paired (RA H) as ps):Paired (RA H') as ps:=G2 h λ a p e=>k _ _ e
inductive spRests(C:P6)(vs:QA V)(H:Hp)(Q:VK)(E_:XK):Prop
|mk(pp s:P6)(b w h:Int)(ks:QA Kd)(v:V)(d:PyData)(t:Tr)(_:vs=[.ref s,.int w,.int h,v])(_:TrH C pp s b w h ks v d t H)(_:∀(l:P6)(as:QA P6)(ps:QA Rst)(H':Hp),H l=none->H' l=↥(as.map V.ref)->Paired (RA H') as ps->ps.Perm (nD b t w h)->(ps.map yF).Pairwise (λ x y=>aX y x=false)->Same H H'->Q (.ref l) H')
theorem scrests:FnScope ["shop","wide","high","tree","leaves"] ["shop","wide","high","tree"] (defScope fF):=%[Y,Y,Y,∅,Y,∅|∅]
theorem wB{f C wa:P6}{fd:F6}(F:Fun K "rests_of" "rests_of" fF f fd)(B:Blt mg)(Z:TrC K mg wa)(DC:Dn P w K mg base "check_tree" ["shop","wide","high","thing"] 7 (spCheckT C))(DL:Dn P w K mg base "leaves_of" ["shop","wide","high","tree"] 3 (spLeaves C)):FnOk P w K mg base CX0 8 f fd ["shop","wide","high","tree"] (spRests C):=by
 exists scrests
 ·obtain⟨pp,s,b,w1,h1,ks,v,d,t,rfl,_⟩:=h
  rfl
 obtain⟨pp,s,b,w1,h1,ks,v,d,t,rfl,th,q⟩:=h;have nd:=scrests.nd;obtain⟨trs,hrs⟩:=Z.rs;refine%[_,((@aO _ _ _ _ (DC∪((pv 0)^^^((pv 1)^^^((pv 2)^^^((pv 3)^^^ab))))) Y)<<<((4∣(DL∩((pv 0)^^^((pv 1)^^^((pv 2)^^^((pv 3)^^^ab))))))<<<((@aI _ _ _ _ _ _ _ _ _ gU Y B.sorted Qh ((bO (own:=["x","y","part_wide","part_high","leaf"]) (cs:=[]) (cap:=[]) Y (cm (pv 4)) (aL (sc:=defScope fF) (N:=["shop","wide","high","tree","leaves"]) Y Y ∅) (λ _ _ _ _ _=>yE K Y Y (by show List.Nodup (["x","y","part_wide","part_high","leaf"]:QA Str) ;decide +kernel) Y Y Y Y Y Y Y Y Y Y) (λ _ _ _ _ _=>(fB ((av (r:=rIx K) bc (pv 4) ae (λ _ _=>Y))<*>cf<*>(aN (v:=.str "rest") Y hrs %[trs|Y])))) (λ _ _ _ _ _=>(@aD _ _ _ _ _ ((pv 0)^^^((pv 1)^^^((pv 2)^^^((pv 3)^^^ab)))))))^^^ab) ∅ ∅ Y Y)⁻¹)))|?_];dsimp only[bJ];have sz:(40000:Nat)<=sizeLine:=∅
 obtain⟨m1,m2⟩:=TrD.many (b:=b) t d 0 0 w1 h1 th.td;have wd:=th.wd;have ln:=th.ln;refine%[_,Y,_,Y,_,Y,_,Y,pp,s,b,w1,h1,ks,v,d,Y,th.sh,th.w1,th.h1,th.dt,⋯,TrD.good t d w1 h1 th.td th.ok|λ H1 s1=>?_];have th1:=th.same s1;refine cg (λ σ' H'=>σ'=[↑s,⇑w1,⇑h1,some v,none]/\H1=H') (λ R hR=>hR _ _ %[rfl|rfl]) ?_;rintro _ _ ⟨rfl,rfl⟩;refine ao (λ R=>∀ll us (H':Hp),H' ll=↥us->Paired (LfAt pp H1 H') us (lvs b t 0 0 w1 h1)->Same H1 H'->R [↑s,⇑w1,⇑h1,some v,↑ll] H') (λ Dd hR=>?_) ?_
 ·exact%[_,Y,_,Y,_,Y,_,Y,pp,s,b,w1,h1,ks,v,d,t,Y,th1.sh,th1.dt,th1.td,⋯|λ ll us H3 hll l3 pu s23=>hR ll us _ l3 pu s23]
 rintro ll us H2 l2 pu s2;have ul:=E1 pu;have s02:=s1.trans s2;refine%[_,Y,ll,Y,%[_|G1 l2]|(bE (K:=K) (.inl l2) (λ i ys Hx=>Same H2 Hx/\∃as,ys=as.map V.ref/\Paired (RA Hx) as (((lvs b t 0 0 w1 h1).take i).filterMap lfR)) (λ i ys Hx _ ⟨sx,_⟩ o e=>sx _ _ e) %[Same.refl _,[],Y|.nil] ?_ ?_).1 l2]
 ·rintro i x ys Hx hi ⟨sx,as,rfl,px⟩;have hin:i < us.length:=(A6.mp hi).1;obtain⟨f,hf,a,u,du,rfl,ha,hdu,tdu⟩:=G3 pu hi;have yl:=E1 px;have fml:(((lvs b t 0 0 w1 h1).take i).filterMap lfR).length<=i:=C5 (K5 _ _) (by rw[J3];lia);have tk:(lvs b t 0 0 w1 h1).take (i+1)=(lvs b t 0 0 w1 h1).take i ++ [f]:=by rw[J5,hf];rfl
  have hdx:Dt pp Hx u du:=hdu.same (s2.trans sx);refine%[by rw[G4];lia,a,_,Y,G0 (sx _ _ ha),Y,_,_,Y,_,_,Y,_,_,Y,_,_,Y,_,_,Y,Y,fb (fb (fb (fb (leS.set rfl) (leS.set rfl)) (leS.set rfl)) (leS.set rfl)) (leS.set rfl)|?_];rcases cJ b t 0 0 w1 h1 f (B5 hf)with et | ⟨ki,c,px',py',et⟩
  ·rw[et]at tdu;obtain⟨a',rfl,hx⟩:=hdx.rest1 tdu;refine%[_,Y|ixR (Same.refl _) hx (aH (E3 _) rfl) %[Y,_,Y|?_]];refine aW %[_,rfl,_,rfl,_,rfl,_,rfl,zS4|λ tp htp=>Nx.of hin %[sx.trans (F9 htp),as ++ [tp],by rw[I9];rfl|?_]];rw[tk,O7,show[f].filterMap lfR=[%[f.x,f.y,f.w|f.h]]by rw[K9,show lfR f=some %[f.x,f.y,f.w|f.h]by unfold lfR;rw[et]];rfl];exact eZ (RA.keep (λ a xs e=>F9 htp _ _ e) px) (.cons af .nil)
  ·rw[et]at tdu;obtain⟨a',rfl,hx⟩:=hdx.piece1 (show aQ du=some [.str "piece",.int ki,.bool c,.int px',.int py']from tdu);refine%[_,Y|ixR (Same.refl _) hx (aH (E3 _) rfl) %[Y,_,Y|?_]];refine aP (Nx.of hin %[sx,as,rfl|?_]);rw[tk,O7,show[f].filterMap lfR=[]by rw[K9,show lfR f=none by unfold lfR;rw[et]];rfl,J7];exact px
 ·rintro ys Hx ⟨sx,as,rfl,px⟩;have yl:=E1 px;rw[ul,K2]at px yl;have fml:((lvs b t 0 0 w1 h1).filterMap lfR).length<=(lvs b t 0 0 w1 h1).length:=K5 _ _;refine%[by rw[G4];lia|λ cl hcl=>?_];have s4:=F9 hcl (o:=.lst (as.map V.ref));have k4:(upd Hx cl (.lst (as.map V.ref))) cl=↥(as.map V.ref):=af;generalize upd Hx cl (.lst (as.map V.ref))=H4 at s4 k4 ⊢;have pa4:Paired (RA H4) as ((lvs b t 0 0 w1 h1).filterMap lfR):=RA.keep (λ a xs e=>s4 _ _ e) px;have mem:=RA.mem pa4;have mp:=RA.map pa4;refine%[cl,as,[false,false,false,false],λ a=>yF (hZ H4 a),Y,G1 k4,⋯,Y,λ a ha=>%[_,G0 (mem a ha)|Y]|λ l as' hl pa so=>?_];have s5:=F9 hl (o:=.lst (as'.map V.ref));have s05:=(s02.trans sx).trans s4;refine q l as' (as'.map (hZ H4)) _ (s05.free hl) af (RA.keep (λ a xs e=>s5 _ _ e) (RA.back λ a ha=>mem a (pa.mem_iff.mp ha))) ?_ ?_ (s05.trans s5)
  ·rw[show nD b t w1 h1=as.map (hZ H4)from mp.symm];exact pa.map _
  ·rw[N0];exact so
def pcA(ks:QA Kd)(f:Lf):Int:=match f.t with
 | .piece i c _ _=>(match ks[i]? with
  | some k=>sd1 k c * sd2 k c
  | none=>0)
 | _=>0
def rsA(f:Lf):Int:=match f.t with
 | .rest=>f.w * f.h
 | _=>0
def mgA(ks:QA Kd)(f:Lf):Int:=match f.t with
 | .piece _ _ _ _=>f.w * f.h - pcA ks f
 | _=>0
def bt(g:Lf->Int)(fs:QA Lf):Int:=(fs.map g).sum
theorem dm(g:Lf->Int)(fs:QA Lf)(f:Lf):bt g (fs ++ [f])=bt g fs+g f:=by unfold bt;rw[I9,M7];simp
theorem ia(g:Lf->Int)(fs gs:QA Lf):bt g (fs ++ gs)=bt g fs+bt g gs:=by unfold bt;rw[I9,M7]
theorem ib{b:Int}{ks:QA Kd}(b0:0<=b):∀(t:Tr)(x y w h:Int),1<=w->1<=h->okT b ks w h t->∀f∈lvs b t x y w h,1<=f.w/\f.w<=w/\1<=f.h/\f.h<=h/\okT b ks f.w f.h f.t
 | .rest,x,y,w,h,w0,h0,ok,f,hf=>by cases C9.mp hf;exact%[w0,E3 _,h0,E3 _|ok]
 | .piece ..,x,y,w,h,w0,h0,ok,f,hf=>by cases C9.mp hf;exact%[w0,E3 _,h0,E3 _|ok]
 | .cut true p l r,x,y,w,h,w0,h0,⟨p1,hp,hl,hr⟩,f,hf=>by
  rw[lvs]at hf;rcases C2.mp hf with z | z
  ·have:=ib b0 r _ _ _ _ ⋯ h0 hr f z;exact%[this.1,⋯,this.2.2.1,this.2.2.2.1|this.2.2.2.2]
  ·have:=ib b0 l _ _ _ _ p1 h0 hl f z;exact%[this.1,⋯,this.2.2.1,this.2.2.2.1|this.2.2.2.2]
 | .cut false p l r,x,y,w,h,w0,h0,⟨p1,hp,hl,hr⟩,f,hf=>by
  rw[lvs]at hf;rcases C2.mp hf with z | z
  ·have:=ib b0 r _ _ _ _ w0 ⋯ hr f z;exact%[this.1,this.2.1,this.2.2.1,⋯|this.2.2.2.2]
  ·have:=ib b0 l _ _ _ _ w0 p1 hl f z;exact%[this.1,this.2.1,this.2.2.1,⋯|this.2.2.2.2]
inductive spAreas(C:P6)(vs:QA V)(H:Hp)(Q:VK)(E_:XK):Prop
|mk(pp s:P6)(b w h:Int)(ks:QA Kd)(v:V)(d:PyData)(t:Tr)(_:vs=[.ref s,.int w,.int h,v])(_:TrH C pp s b w h ks v d t H)(_:0<=b)(_:w<=10 ^ 60)(_:h<=10 ^ 60)(_:(∀k∈ks,Good k))(_:∀(l:P6)(A R M:Int)(H':Hp),A=bt (pcA ks) (lvs b t 0 0 w h)->R=bt rsA (lvs b t 0 0 w h)->M=bt (mgA ks) (lvs b t 0 0 w h)->H l=none->H' l= ~~~[.int A,.int R,.int M,.int (w * h - A - R - M)]->Same H H'->Q (.ref l) H')
theorem scareas:FnScope ["shop","wide","high","tree","pieces","rests","margins","x","y","part_wide","part_high","leaf","cells","piece_wide","piece_high"] ["shop","wide","high","tree"] (defScope gZ):=%[Y,Y,Y,∅,Y,∅|∅]
theorem wC{f C wa:P6}{fd:F6}(F:Fun K "areas_of" "areas_of" gZ f fd)(B:Blt mg)(T:ShopTxt K C)(Z:TrC K mg wa)(MS:Mn P w K mg base C "sides" ["self","kind","turned"] 3 (spSides K C))(DC:Dn P w K mg base "check_tree" ["shop","wide","high","thing"] 7 (spCheckT C))(DL:Dn P w K mg base "leaves_of" ["shop","wide","high","tree"] 3 (spLeaves C)):FnOk P w K mg base CX0 8 f fd ["shop","wide","high","tree"] (spAreas C):=by
 exists scareas
 ·obtain⟨pp,s,b,w1,h1,ks,v,d,t,rfl,_⟩:=h
  rfl
 obtain⟨pp,s,b,w1,h1,ks,v,d,t,rfl,th,b0,w60,h60,gk,q⟩:=h;have nd:=scareas.nd;obtain⟨trs,hrs⟩:=Z.rs;refine%[_,((@aO _ _ _ _ (DC∪((pv 0)^^^((pv 1)^^^((pv 2)^^^((pv 3)^^^ab))))) Y)<<<((xZ (i:=4) (j:=5) (k:=6) nd Y Y Y Y Y Y ae)<<<((@cG _ _ _ _ _ _ _ _ E2 Y (cm (DL∩((pv 0)^^^((pv 1)^^^((pv 2)^^^((pv 3)^^^ab)))))) (aU Y (7•(8•(9•(10•(11•aJ)))))) ((12∣((pv 9)|||dJ|||(pv 10)))>>>((((pv 11)&&&bc&&&ae)<*>cf<*>(aN (v:=.str "rest") Y hrs %[trs|Y]))<|>(@ag _ _ _ (lw (i:=5) nd Y (Or.inl Y) (pv 12) js))<|>((@bq _ _ _ _ _ _ (fC (pv 0) T.cl MS (hr.mono ∅) (((pv 11)&&&bc&&&ae)^^^(((pv 11)&&&bc&&&ae)^^^ab))) (aU Y (13•(14•aJ))) Y Y Y)<<<((lw (i:=4) nd Y (Or.inl Y) ((pv 13)|||dJ|||(pv 14)) js)>>>(lw (i:=6) nd Y (Or.inl Y) ((pv 12)|||br|||((pv 13)|||dJ|||(pv 14))) js))))) (by intro _;rfl))<<<((@aD _ _ _ _ _ ((pv 4)^^^((pv 5)^^^((pv 6)^^^((((((pv 1)|||dJ|||(pv 2))|||br|||(pv 4))|||br|||(pv 5))|||br|||(pv 6))^^^ab)))))⁻¹))))|?_];dsimp only[bJ];have sz:(40000:Nat)<=sizeLine:=∅
 obtain⟨m1,m2⟩:=TrD.many (b:=b) t d 0 0 w1 h1 th.td;have wd:=th.wd;have ln:=th.ln;refine%[_,Y,_,Y,_,Y,_,Y,pp,s,b,w1,h1,ks,v,d,Y,th.sh,th.w1,th.h1,th.dt,⋯,TrD.good t d w1 h1 th.td th.ok|λ H1 s1=>?_];have th1:=th.same s1;refine cg (λ σ' H'=>σ'=[↑s,⇑w1,⇑h1,some v,none,none,none,none,none,none,none,none,none,none,none]/\H1=H') (λ R hR=>hR _ _ %[rfl|rfl]) ?_;rintro _ _ ⟨rfl,rfl⟩;refine cg (λ σ' H'=>σ'=[↑s,⇑w1,⇑h1,some v,⇑0,⇑0,⇑0,none,none,none,none,none,none,none,none]/\H1=H') (λ R hR=>hR _ _ %[rfl|rfl]) ?_;rintro _ _ ⟨rfl,rfl⟩;refine ao (λ R=>∀v7 v8 v9 v10 v11 v12 v13 v14 (H':Hp),Same H H'->R [↑s,⇑w1,⇑h1,some v,⇑(bt (pcA ks) (lvs b t 0 0 w1 h1)),⇑(bt rsA (lvs b t 0 0 w1 h1)),⇑(bt (mgA ks) (lvs b t 0 0 w1 h1)),v7,v8,v9,v10,v11,v12,v13,v14] H') (λ Dd hR=>?_) ?_
 ·refine%[_,Y,_,Y,_,Y,_,Y,pp,s,b,w1,h1,ks,v,d,t,Y,th1.sh,th1.dt,th1.td,⋯|λ ll us H3 hll l3 pu s13=>?_];have s03:=s1.trans s13;have ul:=E1 pu;refine%[ll,Y,%[_|G1 l3]|fk (xs:=us) (λ i σ' H'=>(∃v7 v8 v9 v10 v11 v12 v13 v14,σ'=[↑s,⇑w1,⇑h1,some v,⇑(bt (pcA ks) ((lvs b t 0 0 w1 h1).take i)),⇑(bt rsA ((lvs b t 0 0 w1 h1).take i)),⇑(bt (mgA ks) ((lvs b t 0 0 w1 h1).take i)),v7,v8,v9,v10,v11,v12,v13,v14])/\Same H3 H') %[%[_,_,_,_,_,_,_,_|Y]|Same.refl _] (λ i σ H' _ h=>G1 (h.2 _ _ l3)) ?_ ?_]
  ·rintro i x σ H4 hi ⟨⟨v7,v8,v9,v10,v11,v12,v13,v14,rfl⟩,s34⟩;obtain⟨f,hf,a,u,du,rfl,ha,hdu,tdu⟩:=G3 pu hi;have tk:(lvs b t 0 0 w1 h1).take (i+1)=(lvs b t 0 0 w1 h1).take i ++ [f]:=by rw[J5,hf];rfl
   obtain⟨fw0,fw1,fh0,fh1,okf⟩:=ib b0 t 0 0 w1 h1 th.w1 th.h1 th.ok f (B5 hf);refine%[a,_,Y,G0 (s34 _ _ ha),Y,_,_,Y,_,_,Y,_,_,Y,_,_,Y,_,_,Y,Y|?_];refine%[_,Y,_,Y,_,_,Y,Y,%[b60 ⋯ ⋯|b60 ⋯ ⋯]|?_];have s04:=s03.trans s34;have hdu4:Dt pp H4 u du:=hdu.same (s13.trans s34);rcases cJ b t 0 0 w1 h1 f (B5 hf)with et | ⟨ki,c,px,py,et⟩
   ·rw[et]at tdu;obtain⟨a',rfl,hx⟩:=hdu4.rest1 tdu;have e1:pcA ks f=0:=by unfold pcA;rw[et]
    have e2:rsA f=f.w * f.h:=by unfold rsA;rw[et]
    have e3:mgA ks f=0:=by unfold mgA;rw[et]
    refine%[_,Y|ixR (Same.refl _) hx (aH (E3 _) rfl) %[Y,_,Y|?_]];refine aW %[_,rfl,_,rfl,_,_,rfl,rfl|?_];refine%[?_|s34];rw[tk,dm,dm,dm,e1,e2,e3,P4,P4];exact%[_,_,_,_,_,_,_,_|Y]
   ·rw[et]at tdu okf;obtain⟨k,hk,hc,x0,y0,hxw,hyh⟩:=okf;have gk1:=gk k (B5 hk);have sw:=gk1.w;have sh:=gk1.h;have sb:1<=sd1 k c/\1<=sd2 k c:=by cases c <;> exact%[by assumption|by assumption]
    obtain⟨a',rfl,hx⟩:=hdu4.piece1 (show aQ du=some [.str "piece",.int ki,.bool c,.int px,.int py]from tdu);have e1:pcA ks f=sd1 k c * sd2 k c:=by unfold pcA;rw[et];dsimp only;rw[hk]
    have e2:rsA f=0:=by unfold rsA;rw[et]
    have e3:mgA ks f=f.w * f.h - sd1 k c * sd2 k c:=by unfold mgA;rw[et];dsimp only;rw[e1]
    refine%[_,Y|ixR (Same.refl _) hx (aH (E3 _) rfl) %[Y,_,Y|?_]];refine aP ?_;have SH4:=bI s04 th.sh;obtain⟨dx,r,rs,S1,S2,S3⟩:=id SH4;refine%[_,Y,s,dx,_,Y,S1,(bT _ _ ∅ ∅),_,Y|ixR (Same.refl _) hx (aH ∅ rfl) %[_,Y|ixR (Same.refl _) hx (aH ∅ rfl) ?_]];refine%[s,b,ks,.int ki,.bl c,_,_,Y,SH4,Ty.int,Ty.bl,jo hk hc|λ i' c' k' p e1' e2' hk' _ hp=>?_];cases e1';cases e2';rw[J4,hk]at hk';cases hk';rw[jM];have s5:=F9 hp (o:=.tup [.int (sd1 k c),.int (sd2 k c)]);have k5:(upd H4 p (.tup [.int (sd1 k c),.int (sd2 k c)])) p= ~~~[.int (sd1 k c),.int (sd2 k c)]:=af;generalize upd H4 p (.tup [.int (sd1 k c),.int (sd2 k c)])=H5 at s5 k5 ⊢;refine%[p,_,Y,G0 k5,Y,_,_,Y,_,_,Y,Y|?_];have q1:=b60 (show 0<=sd1 k c by lia) ⋯;have q2:=b60 (show 0<=sd2 k c by lia) ⋯;refine%[_,Y,_,Y,_,Y,_,_,Y,Y,%[q1|q2],_,_,Y,Y|?_];refine%[_,Y,_,Y,_,Y,_,Y,_,_,Y,Y,%[q1|q2],_,_,Y,Y,_,_,Y,Y|?_];refine%[?_|s34.trans s5];rw[tk,dm,dm,dm,e1,e2,e3,P4];exact%[_,_,_,_,_,_,_,_|Y]
  ·rintro σ H4 ⟨⟨v7,v8,v9,v10,v11,v12,v13,v14,rfl⟩,s34⟩;rw[ul,K2];exact hR _ _ _ _ _ _ _ _ _ (s03.trans s34)
 rintro v7 v8 v9 v10 v11 v12 v13 v14 H3 s3;obtain⟨A,hA⟩:∃A,A=bt (pcA ks) (lvs b t 0 0 w1 h1):=%[_|Y]
 obtain⟨R,hR⟩:∃R,R=bt rsA (lvs b t 0 0 w1 h1):=%[_|Y]
 obtain⟨M,hM⟩:∃M,M=bt (mgA ks) (lvs b t 0 0 w1 h1):=%[_|Y]
 rw[<- hA,<- hR,<- hM];have w0:=th.w1;have h0:=th.h1;refine%[_,Y,_,Y,_,Y,_,Y,_,Y,_,_,Y,Y,%[b60 ⋯ ⋯|b60 ⋯ ⋯],_,Y,_,_,Y,Y,_,Y,_,_,Y,Y,_,Y,_,_,Y,Y,zS4|λ l hl=>?_];exact q l A R M _ hA hR hM (s3.free hl) af (s3.trans (F9 hl))
abbrev wv(d:Bool):V:=.str (if d=true then "down" else "across")
def rH(la:P8 Bool)(dn:Bool):Nat:=match la with
 | none=>0
 | some d=>if d=dn then 0 else 1
def tn:Tr->P8 Bool->Nat->Nat
 | .cut dn _ l r,la,n=>max (tn l (some dn) (n+rH la dn)) (tn r (some dn) (n+rH la dn))
 | .rest,_,n=>n
 | .piece _ _ _ _,_,n=>n
theorem zU:∀(t:Tr)(la:P8 Bool)(n:Nat),n<=tn t la n
 | .rest,_,_=>B3 _
 | .piece ..,_,_=>B3 _
 | .cut dn _ l r,la,n=>by have:=zU l (some dn) (n+rH la dn);show n<=max _ _;lia
structure Sk where
 t:Tr
 la:P8 Bool
 n:Nat
def laV:P8 Bool->V
 | none=>.non
 | some d=>wv d
def SkAt(p:P6)(H0 H:Hp)(v:V)(k:Sk):Prop:=∃a u d,v=.ref a/\H a= ~~~[u,laV k.la,.int (k.n:Nat)]/\Dt p H0 u d/\TrD k.t d
theorem SkAt.keep{p:P6}{H0 H H':Hp}(k:∀a xs,H a= ~~~xs->H' a= ~~~xs){v:V}{t:Sk}(h:SkAt p H0 H v t):SkAt p H0 H' v t:=by obtain⟨a,u,d,e,h1,h2,h3⟩:=h;exact%[a,u,d,e,k _ _ h1,h2|h3]
def ksz(ts:QA Sk):Nat:=(ts.map λ k=>szT k.t).sum
theorem rJ(a b:QA Sk):ksz (a ++ b)=ksz a+ksz b:=by unfold ksz;rw[I9,M7]
theorem rK:∀ts:QA Sk,ts.length<=ksz ts
 | []=>B3 _
 | t :: r=>by have:=rK r;have:=nq t.t;show r.length+1<=szT t.t+ksz r;lia
def iI:QA Sk->Nat
 | []=>0
 | k :: r=>max (tn k.t k.la k.n) (iI r)
theorem jW:∀a b:QA Sk,iI (a ++ b)=max (iI a) (iI b)
 | [],b=>(Nat.zero_max (iI b)).symm
 | k :: r,b=>by show max _ (iI (r ++ b))=max (max _ (iI r)) (iI b);rw[jW r b,Nat.max_assoc]
theorem AI{a n S M:Nat}(h:n<=M):max (max a n) (max S M)=max a (max S M) :=
 Nat.le_antisymm (O6.2 %[O6.2 %[Nat.le_max_left _ _|C5 h (C5 (Nat.le_max_right _ _) (Nat.le_max_right _ _))]|Nat.le_max_right _ _]) (O6.2 %[C5 (Nat.le_max_left _ _) (Nat.le_max_left _ _)|Nat.le_max_right _ _])
theorem yG{t:Tr}(h:nA t=false)(la:P8 Bool)(n:Nat):tn t la n=n:=by
 cases t with
 | cut dn p l r=>cases h
 | rest=>rfl
 | piece=>rfl
inductive spTurns(C:P6)(vs:QA V)(H:Hp)(Q:VK)(E_:XK):Prop
|mk(pp s:P6)(b w h:Int)(ks:QA Kd)(v:V)(d:PyData)(t:Tr)(_:vs=[.ref s,.int w,.int h,v])(_:ShopAt C H s b ks)(_:1<=w)(_:1<=h)(_:Dt pp H v d)(_:wt d<=30000)(_:TrD t d)(_:okT b ks w h t)(_:szT t<=10000)(_:∀H',Same H H'->Q (.int (tn t none 0:Nat)) H')
theorem scturns:FnScope ["shop","wide","high","tree","most","waiting","part_tree","way_ahead","turns","way"] ["shop","wide","high","tree"] (defScope hG):=%[Y,Y,Y,∅,Y,∅|∅]
theorem wD{f C wa:P6}{fd:F6}(F:Fun K "turns_of" "turns_of" hG f fd)(B:Blt mg)(Z:TrC K mg wa)(DC:Dn P w K mg base "check_tree" ["shop","wide","high","thing"] 7 (spCheckT C)):FnOk P w K mg base CX0 8 f fd ["shop","wide","high","tree"] (spTurns C):=by
 exists scturns
 ·obtain⟨pp,s,b,w1,h1,ks,v,d,t,rfl,_⟩:=h
  rfl
 obtain⟨pp,s,b,w1,h1,ks,v,d,t,rfl,SH,w0,h0,hd,dz,td,hok,tz,q⟩:=h;have nd:=scturns.nd;refine%[_,((@aO _ _ _ _ (DC∪((pv 0)^^^((pv 1)^^^((pv 2)^^^((pv 3)^^^ab))))) Y)<<<((4∣ae)<<<((5∣(@bu _ _ _ _ ((@aD _ _ _ _ _ ((pv 3)^^^(fg^^^(ae^^^ab))))^^^ab)))<<<((gK E2 (ft (pv 5) (λ _=>Y)) ((@bq _ _ _ _ _ _ (jy F3 Qc Qd jz (pv 5)) (aU Y (6•(7•(8•aJ)))) Y Y Y)<<<((4∣(@aI _ _ _ _ _ _ _ _ _ (kD Y) Y B.max PyProof.Rows.boot_max ((pv 4)^^^((pv 8)^^^ab)) ∅ ∅ Y Y))<<<((9∣((pv 6)&&&bc&&&ae))>>>((@aB _ _ _ _ _ _ _ _ fR (pv 9) (aN (v:=.ref wa) Y Z.wy Y) Y)<|>(((PW.pt (nO ((pv 7)<*>xG<*>fg) (lq ((pv 7)<*>gM<*>(pv 9)))))<|>(@ag _ _ _ (lw (i:=8) nd Y (Or.inl Y) ae js))<|>aF)>>>(@aO _ _ _ _ (@dG _ _ _ _ _ _ _ _ _ _ _ _ F3 PySem.F.slot_list_extend PySem.F.type_list_extend dX (pv 5) ((@bu _ _ _ _ ((@aD _ _ _ _ _ (((pv 6)&&&bc&&&ae)^^^((pv 9)^^^((pv 8)^^^ab))))^^^((@aD _ _ _ _ _ (((pv 6)&&&bc&&&ae)^^^((pv 9)^^^((pv 8)^^^ab))))^^^ab)))^^^ab) Y Y Y Y Y) Y))<|>aF)))))<<<((pv 4)⁻¹)))))|?_];dsimp only[bJ];refine ao (λ R=>∀(H':Hp),Same H H'->R [↑s,⇑w1,⇑h1,some v,none,none,none,none,none,none] H') (λ Dd hR=>?_) ?_
 ·exact%[_,Y,_,Y,_,Y,_,Y,pp,s,b,w1,h1,ks,v,d,Y,SH,w0,h0,hd,dz,TrD.good t d w1 h1 td hok|λ H1 s1=>hR _ s1]
 rintro H0 s0;refine cg (λ σ' H'=>σ'=[↑s,⇑w1,⇑h1,some v,⇑0,none,none,none,none,none]/\H0=H') (λ R hR=>hR _ _ %[rfl|rfl]) ?_;rintro _ _ ⟨rfl,rfl⟩;refine ao (λ R=>∀(t' wl:P6)(H':Hp),H' t'= ~~~[v,.non,.int 0]->H' wl=↥[.ref t']->H wl=none->Same H H'->R [↑s,⇑w1,⇑h1,some v,⇑0,↑wl,none,none,none,none] H') (λ Dd hR=>?_) ?_
 ·refine%[_,Y,zS3|λ t' ht'=>?_];refine bZ ht' λ Ha k1 s1=>?_;refine%[zS1|λ wl hwl=>?_];have fw:H wl=none:=(s0.trans s1).free hwl;refine bZ hwl λ Hb k2 s2=>?_;exact hR t' wl _ (s2 _ _ k1) k2 fw ((s0.trans s1).trans s2)
 rintro t' wl Hb kt' kb fw sab;refine cg (λ σ' H'=>∃v6 v7 v8 v9:P8 V,σ'=[↑s,⇑w1,⇑h1,some v,⇑(tn t none 0:Nat),↑wl,v6,v7,v8,v9]/\Same H H') (λ R hR=>?_) ?_
 ·refine%[λ m σ' H'=>∃(vs:QA V)(ts:QA Sk)(m0:Nat)(v6 v7 v8 v9:P8 V),σ'=[↑s,⇑w1,⇑h1,some v,⇑(m0:Nat),↑wl,v6,v7,v8,v9]/\m=ksz ts/\H' wl=↥vs/\Paired (SkAt pp H H') vs ts/\ksz ts<=10000/\max m0 (iI ts)=tn t none 0/\Same H H',%[_,[.ref t'],[%[t,none|0]],0,none,none,none,none,Y,Y,kb,.cons %[t',v,d,Y,kt',hd|td] .nil,(by show szT t+0<=10000;lia),(by show max 0 (max (tn t none 0) 0)=_;lia)|sab]|?_];intro m σ H1 hI9;refine cV λ G9 k9=>?_;obtain⟨vs,ts,m0,v6,v7,v8,v9,e8,e9,hw,pr,sz1,al,s1⟩:=hI9;rcases wlP pr with⟨rfl,rfl⟩ | ⟨vs',ts',v0,t0,rfl,rfl,prp,sp,u,du,rfl,hsp,hdu,tdu⟩
  ·subst e8 e9;refine k9 ?_;refine%[_,Y,_,.inl %[_,G1 hw|Y]|?_];have al:max m0 0=tn t none 0:=al;have em:m0=tn t none 0:=⋯
   subst em;exact aP (hR _ _ %[v6,v7,v8,v9,rfl|s1])
  subst e8 e9;refine k9 ?_;refine%[_,Y,_,.inl %[_,G1 hw|Y]|?_];rw[show(!(vs' ++ [V.ref sp]).isEmpty)=true by cases vs' <;> rfl];have ssz:ksz (ts' ++ [t0])=ksz ts'+szT t0.t:=by rw[rJ];show _+(szT t0.t+0)=_;lia
  rw[ssz]at sz1 ⊢;have al2:max m0 (max (iI ts') (tn t0.t t0.la t0.n))=tn t none 0:=by rw[<- al,jW];show _=max m0 (max (iI ts') (max (tn t0.t t0.la t0.n) 0));rw[Nat.max_zero]
  refine aW %[λ σ' H'=>∃(vs:QA V)(ts:QA Sk)(m0:Nat)(v6 v7 v8 v9:P8 V),σ'=[↑s,⇑w1,⇑h1,some v,⇑(m0:Nat),↑wl,v6,v7,v8,v9]/\ksz ts < ksz ts'+szT t0.t/\H' wl=↥vs/\Paired (SkAt pp H H') vs ts/\ksz ts<=10000/\max m0 (iI ts)=tn t none 0/\Same H H',λ σ' H' ⟨vs,ts,m0,v6,v7,v8,v9,e,l,r⟩=>%[_,l,vs,ts,m0,v6,v7,v8,v9,e,rfl|r]|?_];have ml:(vs' ++ [V.ref sp]).length=vs'.length+1:=by rw[G6];rfl
  have keep:∀{Hx:Hp}{o:HO},Same H Hx->Same H (upd Hx wl o):=λ {Hx o} sx c oo e=>by rw[ap (λ z=>by rw[z,fw]at e;cases e)];exact sx _ _ e
  refine ao (λ R=>∀(H':Hp),H' wl=↥vs'->Paired (SkAt pp H H') vs' ts'->Same H H'->R [↑s,⇑w1,⇑h1,some v,⇑(m0:Nat),↑wl,some u,some (laV t0.la),⇑(t0.n:Nat),v9] H') (λ Dd hR=>?_) ?_
  ·refine%[_,Y,.inl %[Y,_|G1 hw],wl,_,.ref sp,Y,Y,hw,(by rw[ml];simp)|?_];rw[O1];have kt:∀{c:P6}{xs:QA V},H1 c= ~~~xs->(upd H1 wl (.lst vs')) c= ~~~xs:=λ {c xs} e=>by rw[ap (λ z=>by rw[z,hw]at e;cases e)];exact e
   exact%[sp,_,Y,G0 (kt hsp),Y,_,_,Y,_,_,Y,_,_,Y,Y|hR _ af (G2 prp λ v t h=>h.keep λ a xs e=>kt e) (keep s1)]
  rintro H2 hw2 pr2 s02;clear prp hsp hw pr;obtain⟨m1,hm1⟩:∃m1:Nat,m1=max m0 t0.n:=%[_|Y]
  refine cg (λ σ' H'=>σ'=[↑s,⇑w1,⇑h1,some v,⇑(m1:Nat),↑wl,some u,some (laV t0.la),⇑(t0.n:Nat),v9]/\H2=H') (λ R hR=>?_) ?_
  ·refine%[_,Y,_,Y,_,_,Y|hR _ _ %[?_|Y]];have em:(m1:Int)=(if (t0.n:Int) > (m0:Int)then(t0.n:Int)else m0):=by split <;> lia
   rw[em]
   rfl
  rintro _ _ ⟨rfl,rfl⟩;have pl:=E1 pr2;have sl:=rK ts';have big:30000<=sizeLine:=∅
  have tg:=zU t0.t t0.la t0.n;have zpos:=nq t0.t;refine cV λ G9 k9=>?_;obtain⟨a,xs,rfl,hx,vw,_⟩:=hdu.view tdu;refine k9 ?_;refine ao (λ R=>R [↑s,⇑w1,⇑h1,some v,⇑(m1:Nat),↑wl,↑a,some (laV t0.la),⇑(t0.n:Nat),some (.str (hdW t0.t))] H2) (λ Dd hR=>?_) ?_
  ·refine%[_,Y|?_];show rIx K (.ref a) (.int 0) H2 _;exact ixR s02 hx (aH (E3 _) rfl) (hR)
  skip
  refine%[_,Y,wa,_,Y,.inr (Z.wq _),Y,Y,_,Y|?_];show(if (inV (V.str (hdW t0.t)) [V.str "down",V.str "across"])=true then _ else _);rw[lZ];cases ec:nA t0.t with
  | true=>
   refine cV λ G9 k9=>?_;obtain⟨dn,p,l,r,et⟩:=oJ ec;obtain⟨dl,dr,lv,rv,rfl,tl,tr,hdl,hdr⟩:=vw _ _ _ _ et;rw[et]at hx;refine k9 ?_;rw[show V.str (hdW t0.t)=wv dn by rw[et];rfl];refine aW ?_;obtain⟨n1,hn1⟩:∃n1:Nat,n1=t0.n+rH t0.la dn:=%[_|Y]
   refine cg (λ σ' H'=>σ'=[↑s,⇑w1,⇑h1,some v,⇑(m1:Nat),↑wl,↑a,some (laV t0.la),⇑(n1:Nat),some (wv dn)]/\H2=H') (λ R hR=>?_) ?_
   ·obtain⟨la,ela⟩:∃la,t0.la=la:=%[_|Y]
    rw[ela]at hn1 ⊢;refine%[_,Y,Y,_,Y|?_];cases la with
    | none=>
     have:n1=t0.n:=hn1;subst this;exact aP (aP (hR _ _ %[by rw[ela]|rfl]))
    | some d0=>
     refine aW %[_,rfl,_,rfl,rfl,_,rfl|?_];have ek:(!decide (wv d0=wv dn))=!decide (d0=dn):=by cases d0 <;> cases dn <;> decide +kernel
     show(if (!decide (wv d0=wv dn))=true then _ else _);rw[ek];have hn1:n1=t0.n+(if d0=dn then 0 else 1):=hn1
     by_cases e:d0=dn
     ·rw[QI e]at hn1;have:n1=t0.n:=hn1;subst this;rw[QG e];exact aP (hR _ _ %[by rw[ela]|rfl])
     ·rw[QH e]at hn1;rw[QJ e];exact aW %[_,rfl,_,_,rfl,rfl|hR _ _ %[by rw[ela,hn1];rfl|rfl]]
   rintro _ _ ⟨rfl,rfl⟩;refine%[_,Y,.inl %[Y,_|G1 hw2],_,Y|?_];refine ixR s02 hx (aH (i:=2) ∅ rfl) ?_;refine%[_,Y,_,Y,zS3|λ t1 ht1=>?_];refine bZ ht1 λ H3 k3 s3=>?_;have s03:=s02.trans s3;refine%[_,Y|?_];refine ixR s03 hx (aH (i:=3) ∅ rfl) ?_;refine%[_,Y,_,Y,zS3|λ t2 ht2=>?_];refine bZ ht2 λ H4 k4 s4=>?_;refine%[zS2|λ lu hlu=>?_];refine bZ hlu λ H5 k5 s5=>?_;have s25:=s3.trans (s4.trans s5);have hw5:=s25 _ _ hw2;refine%[wl,lu,_,_,Y,Y,hw5,k5,(by show _+2<=_;lia)|?_];have kt:∀{c:P6}{xs:QA V},H5 c= ~~~xs->(upd H5 wl (.lst (vs' ++ [.ref t1,.ref t2]))) c= ~~~xs:=λ {c xs} e=>by rw[ap (λ z=>by rw[z,hw5]at e;cases e)];exact e
   have e2:ksz (ts' ++ [%[l,some dn|n1],%[r,some dn|n1]])=ksz ts'+(szT l+szT r):=by rw[rJ];show _+(szT l+(szT r+0))=_;lia
   have sz0:szT t0.t=szT l+szT r+1:=by rw[et];rfl
   refine%[_,ts' ++ [%[l,some dn|n1],%[r,some dn|n1]],m1,_,_,_,_,Y,by rw[e2];lia,af,eZ (G2 pr2 λ v t h=>h.keep λ a xs e=>kt (s25 _ _ e)) (.cons (show SkAt pp H _ (.ref t1) %[l,some dn|n1]from%[t1,lv,dl,Y,kt (s5 _ _ (s4 _ _ k3)),hdl|tl]) (.cons (show SkAt pp H _ (.ref t2) %[r,some dn|n1]from%[t2,rv,dr,Y,kt (s5 _ _ k4),hdr|tr]) .nil)),by rw[e2];lia,?_|keep (s02.trans s25)];rw[jW];show max m1 (max (iI ts') (max (tn l (some dn) n1) (max (tn r (some dn) n1) 0)))=_;have etn:tn t0.t t0.la t0.n=max (tn l (some dn) n1) (tn r (some dn) n1):=by rw[et,hn1];rfl
   rw[etn]at al2 tg;rw[Nat.max_zero,show m1=max m0 t0.n from hm1,AI tg,al2]
  | false=>
   have etn:=yG ec t0.la t0.n;exact aP %[vs',ts',m1,_,_,_,_,rfl,⋯,hw2,pr2,⋯,⋯|s02]
 rintro _ H1 ⟨v6,v7,v8,v9,rfl,s1⟩;exact%[_,Y|q H1 s1]
mutual
noncomputable def lfM:Tl->Int->Int->QA (Int×Int×Tr)
 | .rest,w,h=>[(w,h,.rest)]
 | .piece i c x y,w,h=>[(w,h,.piece i c x y)]
 | .row dn r,w,h=>lfS dn r w h
noncomputable def lfS(dn:Bool):Tls->Int->Int->QA (Int×Int×Tr)
 | .nil,_,_=>[]
 | .cons n t r,w,h=>lfM t (if dn=true then n else w) (if dn=true then h else n) ++ lfS dn r w h
end
def lfL(dn:Bool)(l:QA (Int×Tl))(w h:Int):QA (Int×Int×Tr):=l.flatMap λ z=>lfM z.2 (if dn=true then z.1 else w) (if dn=true then h else z.1)
theorem wE(dn:Bool)(w h:Int):∀l:QA (Int×Tl),lfS dn (ofL l) w h=lfL dn l w h
 | []=>by rw[ofL,lfS];rfl
 | z :: l=>by rw[ofL,lfS,wE dn w h l];rfl
theorem yH(dn:Bool)(l:QA (Int×Tl))(w h:Int):(lfM (.row dn (ofL (srt l))) w h).Perm (lfL dn l w h):=by rw[lfM,wE];exact(bX l).flatMap_right _
def mLf(f:Lf):Int×Int×Tr:=(f.w,f.h,f.t)
theorem yI(dn:Bool)(a c:QA (Int×Tl))(w h:Int):lfL dn (a ++ c) w h=lfL dn a w h ++ lfL dn c w h:=List.flatMap_append
theorem mf(dn:Bool)(z:Int×Tl)(w h:Int):lfL dn [z] w h=lfM z.2 (if dn=true then z.1 else w) (if dn=true then h else z.1):=by show lfM z.2 _ _ ++ []=_;rw[J7]
theorem iJ(b:Int):∀(t:Tr)(x y w h:Int),((lvs b t x y w h).map mLf).Perm (lfM (bz b t w h) w h)/\∀dn,((lvs b t x y w h).map mLf).Perm (lfL dn (bB b dn t w h) w h)
 | .rest,x,y,w,h=>by
  have k:((lvs b .rest x y w h).map mLf).Perm (lfM (bz b .rest w h) w h):=by show List.Perm [(w,h,Tr.rest)] (lfM .rest w h);rw[lfM]
  refine%[k|λ dn=>?_];rw[cw (by rfl),mf];cases dn <;> exact k
 | .piece i c px py,x,y,w,h=>by
  have k:((lvs b (.piece i c px py) x y w h).map mLf).Perm (lfM (bz b (.piece i c px py) w h) w h):=by show List.Perm [(w,h,Tr.piece i c px py)] (lfM (.piece i c px py) w h);rw[lfM]
  refine%[k|λ dn=>?_];rw[cw (by rfl),mf];cases dn <;> exact k
 | .cut d p l r,x,y,w,h=>by
  have own:((lvs b (.cut d p l r) x y w h).map mLf).Perm (lfL d (bB b d (.cut d p l r) w h) w h):=by
   rw[dD,yI];cases d with
   | true=>
    rw[lvs,I9];have h1:=(iJ b l x y p h).2 true;have h2:=(iJ b r (x+(p+b)) y (w - p - b) h).2 true;exact(h2.append h1).trans N7
   | false=>
    rw[lvs,I9];have h1:=(iJ b l x y w p).2 false;have h2:=(iJ b r x (y+(p+b)) w (h - p - b)).2 false;exact(h2.append h1).trans N7
  have k:((lvs b (.cut d p l r) x y w h).map mLf).Perm (lfM (bz b (.cut d p l r) w h) w h):=by rw[cY];exact own.trans (yH d _ w h).symm
  refine%[k|λ dn=>?_]
  by_cases e:d=dn
  ·subst e;exact own
  ·have ew:isW dn (.cut d p l r)=false:=by cases d <;> cases dn <;> first | rfl | exact absurd rfl e
   rw[cw ew,mf];cases dn <;> exact k
theorem gf{b:Int}{t u:Tr}{w h:Int}(e:bz b t w h=bz b u w h):((lvs b t 0 0 w h).map mLf).Perm ((lvs b u 0 0 w h).map mLf):=by have h1:=(iJ b t 0 0 w h).1;have h2:=(iJ b u 0 0 w h).1;rw[e]at h1;exact h1.trans h2.symm
theorem lg{l l':QA Int}(h:l.Perm l'):l.sum=l'.sum:=by
 induction h with
 | nil=>rfl
 | cons x _ ih=>rw[J6,J6,ih]
 | swap x y l=>rw[J6,J6,J6,J6];lia
 | trans _ _ h1 h2=>rw[h1,h2]
theorem cS{g:Lf->Int}{g':Int×Int×Tr->Int}(hg:∀f,g f=g' (mLf f)){fs gs:QA Lf}(h:(fs.map mLf).Perm (gs.map mLf)):bt g fs=bt g gs:=by
 have e:∀l:QA Lf,bt g l=((l.map mLf).map g').sum:=λ l=>by unfold bt;rw[N0];congr 1;exact N2 λ f _=>hg f
 rw[e,e];exact lg (h.map g')
def kdL(k:Nat):Int×Int×Tr->Bool
 | (_,_,.piece i _ _ _)=>i == k
 | _=>false
theorem jX{b:Int}{t u:Tr}{w h:Int}(n:Nat)(p:((lvs b t 0 0 w h).map mLf).Perm ((lvs b u 0 0 w h).map mLf)):bK (pcs b t w h) n=bK (pcs b u w h) n:=by
 have e:∀(l:QA Lf)(k:Nat),((l.filterMap lfP).filter λ p=>p.k == k).length=((l.map mLf).filter (kdL k)).length:=λ l k=>by
  induction l with
  | nil=>rfl
  | cons f l ih=>
   obtain⟨x,y,w,h,t⟩:=f;cases t with
   | rest=>exact ih
   | cut=>exact ih
   | piece i c px py=>
    rw[K9];show(List.filter _ (%[i,c,x+px|y+py] :: l.filterMap lfP)).length=(List.filter (kdL k) ((w,h,.piece i c px py) :: l.map mLf)).length;rw[M9,M9];cases z:(i == k)with
    | true=>
     have e2:kdL k (w,h,.piece i c px py)=true:=z;rw[QI rfl,QI e2,G8,G8,ih]
    | false=>
     have e2:kdL k (w,h,.piece i c px py)=false:=z;rw[QH ∅,QH (by rw[e2];decide),ih]
 unfold bK;refine N2 λ k _=>?_;unfold pcs;rw[e,e,(p.filter _).length_eq]
mutual
noncomputable def rdT:Tl->Nat
 | .row _ r=>rdS r+1
 | .rest=>0
 | .piece ..=>0
noncomputable def rdS:Tls->Nat
 | .nil=>0
 | .cons _ t r=>max (rdT t) (rdS r)
end
def rdL(l:QA (Int×Tl)):Nat:=(l.map λ z=>rdT z.2).foldr max 0
theorem wF:∀l:QA (Int×Tl),rdS (ofL l)=rdL l
 | []=>by rw[ofL,rdS];rfl
 | z :: l=>by rw[ofL,rdS,wF l];rfl
theorem tH{l l':QA Nat}(h:l.Perm l'):l.foldr max 0=l'.foldr max 0:=by
 induction h with
 | nil=>rfl
 | cons x _ ih=>rw[List.foldr_cons,List.foldr_cons,ih]
 | swap x y l=>exact Nat.max_left_comm _ _ _
 | trans _ _ h1 h2=>rw[h1,h2]
theorem wG(a c:QA Nat):(a ++ c).foldr max 0=max (a.foldr max 0) (c.foldr max 0):=by
 induction a with
 | nil=>exact(Nat.zero_max _).symm
 | cons x a ih=>rw[K6,List.foldr_cons,List.foldr_cons,ih,Nat.max_assoc]
theorem rL(dn:Bool)(l:QA (Int×Tl)):rdT (.row dn (ofL (srt l)))=rdL l+1:=by rw[rdT,wF];unfold rdL;rw[tH ((bX l).map _)]
theorem yJ(a c:QA (Int×Tl)):rdL (a ++ c)=max (rdL a) (rdL c):=by unfold rdL;rw[I9,wG]
theorem mh(z:Int×Tl):rdL [z]=rdT z.2:=by show max (rdT z.2) 0=_;lia
theorem mj(b:Int):∀(t:Tr)(dn:Bool)(n:Nat)(w h:Int),tn t (some dn) n=n+rdL (bB b dn t w h)
 | .rest,dn,n,w,h=>by rw[cw (by rfl),mh];show n=n+rdT .rest;rw[rdT];lia
 | .piece i c x y,dn,n,w,h=>by rw[cw (by rfl),mh];show n=n+rdT (.piece i c x y);rw[rdT];lia
 | .cut d p l r,dn,n,w,h=>by
  have own:∀m,max (tn l (some d) m) (tn r (some d) m)=m+rdL (bB b d (.cut d p l r) w h):=λ m=>by rw[dD,yJ,<- tn_max m,<- mj b l d m,<- mj b r d m]
  by_cases e:d=dn
  ·subst e;show max (tn l (some d) (n+(if d=d then 0 else 1))) (tn r (some d) (n+(if d=d then 0 else 1)))=_;rw[QI rfl,Nat.add_zero];exact own n
  ·have ew:isW dn (.cut d p l r)=false:=by cases d <;> cases dn <;> first | rfl | exact absurd rfl e
   show max (tn l (some d) (n+(if dn=d then 0 else 1))) (tn r (some d) (n+(if dn=d then 0 else 1)))=_;rw[QH (Ne.symm e),own,cw ew,mh,cY,rL];lia
where
 tn_max (m:Nat) {a c:Nat}:max (m+a) (m+c)=m+max a c:=⋯
theorem rM(b:Int)(t:Tr)(w h:Int):tn t none 0=rdT (bz b t w h) - 1:=by
 cases t with
 | rest=>rfl
 | piece=>rfl
 | cut d p l r=>
  show max (tn l (some d) (0+0)) (tn r (some d) (0+0))=_;have h1:=mj b (.cut d p l r) d 0 w h;have h2:tn (.cut d p l r) (some d) 0=max (tn l (some d) (0+(if d=d then 0 else 1))) (tn r (some d) (0+(if d=d then 0 else 1))):=rfl;rw[QI rfl]at h2;rw[cY,rL,<- h2,h1];lia
theorem ic{b:Int}{t u:Tr}{w h:Int}(e:bz b t w h=bz b u w h)(dn:Bool):(bB b dn t w h).Perm (bB b dn u w h):=by
 have w1:∀t:Tr,isW dn t=tlW dn (bz b t w h):=λ t=>by
  cases t with
  | rest=>rfl
  | piece=>rfl
  | cut d=>rw[cY];rfl
 have ew:isW dn t=isW dn u:=by rw[w1,w1,e]
 cases z:isW dn t with
 | false=>rw[cw z,cw (by rw[<- ew];exact z),e]
 | true=>
  have cu:∀t:Tr,isW dn t=true->∃p l r,t=.cut dn p l r:=λ t ht=>by
   cases t with
   | rest=>cases ht
   | piece=>cases ht
   | cut d p l r=>
    have:d=dn:=by simpa[isW]using ht
    rw[this];exact%[_,_,_|Y]
  obtain⟨p,l,r,rfl⟩:=cu t z;obtain⟨p',l',r',rfl⟩:=cu u (by rw[<- ew];exact z);rw[cY,cY]at e;have e1:=QV toL (Tl.row.inj e).2;rw[hW,hW]at e1;exact(bX _).symm.trans (e1 ▸ bX _)
theorem nE{b:Int}{dn:Bool}{p p':Int}{l r l' r':Tr}{w h:Int}(e:(bB b dn (.cut dn p l r) w h).Perm (bB b dn (.cut dn p' l' r') w h)):bz b (.cut dn p l r) w h=bz b (.cut dn p' l' r') w h:=by rw[cY,cY,vT e]
abbrev dE:Stmt:=inClass (top 72) 0
abbrev bA:Stmt:=inClass (top 72) 1
abbrev gh:Stmt:=inClass (top 72) 2
abbrev cU:Stmt:=inClass (top 72) 3
abbrev ce:Stmt:=inClass (top 72) 4
abbrev di:Stmt:=inClass (top 72) 5
abbrev eS:Stmt:=inClass (top 72) 6
abbrev cB:Stmt:=inClass (top 72) 7
abbrev eU:Stmt:=inClass (top 72) 8
structure Stn where
 pl:QA (Int×Int×Int)
 nu:Int
 md:QA Int
 pu:Int
def PlA(H:Hp)(v:V)(q:Int×Int×Int):Prop:=∃a,v=.ref a/\H a= ~~~[.int q.1,.int q.2.1,.int q.2.2]
theorem PlA.keep{H H':Hp}(k:∀a xs,H a= ~~~xs->H' a= ~~~xs){v:V}{q:Int×Int×Int}(h:PlA H v q):PlA H' v q:=h.imp λ _ %[e|h]=>%[e|k _ _ h]
inductive StnA(H:Hp):V->Stn->Prop
|mk{a b c:P6}{rs:QA V}{g:Stn}(h:H a= ~~~[.ref b,.int g.nu,.ref c,.int g.pu])(hb:H b= ~~~rs)(pr:Paired (PlA H) rs g.pl)(hc:H c= ~~~(g.md.map V.int)):StnA H (.ref a) g
theorem StnA.keep{H H':Hp}(k:∀a xs,H a= ~~~xs->H' a= ~~~xs){v:V}{g:Stn}(h:StnA H v g):StnA H' v g:=by
 cases h with
 | mk h hb pr hc=>exact .mk (k _ _ h) (k _ _ hb) (G2 pr λ v q h=>h.keep k) (k _ _ hc)
theorem wH:¬ (("past" : Str) = "standing")/\¬ (("past" : Str) = "least")/\¬ (("past" : Str) = "shop")/\¬ (("standing" : Str) = "past")/\¬ (("standing" : Str) = "least")/\¬ (("standing" : Str) = "shop")/\¬ (("least" : Str) = "past")/\¬ (("least" : Str) = "standing")/\¬ (("least" : Str) = "shop")/\¬ (("shop" : Str) = "past")/\¬ (("shop" : Str) = "standing")/\¬ (("shop" : Str) = "least"):=∅
def sfl(sh:P6)(le:Int)(sg:V)(pa:P6):QA (Str×V):=[("shop",.ref sh),("least",.int le),("standing",sg),("past",.ref pa)]
theorem iK(sh:P6)(le:Int)(sg:V)(pa:P6):bG "past" (.ref pa) (bG "standing" sg (bG "least" (.int le) (bG "shop" (.ref sh) [])))=sfl sh le sg pa:=by obtain⟨h1,h2,h3,h4,h5,h6,h7,h8,h9,h10,h11,h12⟩:=wH;simp only[bG,h9,h10,h11,h12,h7,h8,h4,h5,h6,QN,sfl]
theorem rN(sh:P6)(le:Int)(sg v:V)(pa:P6):bG "standing" v (sfl sh le sg pa)=sfl sh le v pa:=by obtain⟨h1,h2,h3,h4,h5,h6,h7,h8,h9,h10,h11,h12⟩:=wH;simp only[bG,sfl,h11,h8,QN,Qa]
section
variable(sh:P6)(le:Int)(sg:V)(pa:P6)
theorem ie:(sfl sh le sg pa).lookup ("shop" : Str)=↑sh:=by rw[<- iK];obtain⟨h1,h2,h3,h4,h5,h6,h7,h8,h9,h10,h11,h12⟩:=wH;simp only[aZ,h10,h11,h12,QN,Qa]
theorem tI:(sfl sh le sg pa).lookup ("least" : Str)=⇑le:=by rw[<- iK];obtain⟨h1,h2,h3,h4,h5,h6,h7,h8,h9,h10,h11,h12⟩:=wH;simp only[aZ,h7,h8,QN,Qa]
theorem bP:(sfl sh le sg pa).lookup ("standing" : Str)=some sg:=by rw[<- iK];obtain⟨h1,h2,h3,h4,h5,h6,h7,h8,h9,h10,h11,h12⟩:=wH;simp only[aZ,h4,QN,Qa]
theorem jY:(sfl sh le sg pa).lookup ("past" : Str)=↑pa:=by rw[<- iK];simp only[aZ,Qa]
theorem cZ{m:Str}(h1:¬ m = "past")(h2:¬ m = "standing")(h3:¬ m = "least")(h4:¬ m = "shop"):(sfl sh le sg pa).lookup m=none:=by rw[<- iK];simp only[aZ,h1,h2,h3,h4,QN];rfl
end
inductive StoreAt(CS C:P6)(H:Hp)(s sh:P6)(b:Int)(ks:QA Kd)(le:Int)(g:Stn)(gs:QA Stn)(pa:P6):Prop
|mk{dx:P6}{sg:V}{ps:QA V}(h:H s=some (.ins CS dx (sfl sh le sg pa)))(sp:ShopAt C H sh b ks)(st:StnA H sg g)(hp:H pa=↥ps)(pr:Paired (StnA H) ps gs)
def FrS(s pa:P6)(H H':Hp):Prop:=∀c o,c≠s->c≠pa->H c=some o->H' c=some o
theorem FrS.trans{s pa:P6}{H H' H'':Hp}(a:FrS s pa H H')(b:FrS s pa H' H''):FrS s pa H H'':=λ c o n1 n2 e=>b c o n1 n2 (a c o n1 n2 e)
theorem Same.frS{s pa:P6}{H H':Hp}(x:Same H H'):FrS s pa H H':=λ _ _ _ _ e=>x _ _ e
theorem yK{CS C s sh dx pa:P6}{H:Hp}{b le:Int}{ks:QA Kd}{sg:V}(h:H s=some (.ins CS dx (sfl sh le sg pa)))(x:ShopAt C H sh b ks):sh≠s:=λ z=>by obtain⟨dx',r,rs,h1,_⟩:=x;rw[z,h]at h1;have e:=HO.ins.inj (B8 h1);have:=QV (List.lookup ("shop" : Str)) e.2.2;rw[ie,bT _ _ ∅ ∅]at this;cases this
theorem FrS.tup{CS C s sh pa:P6}{H H':Hp}{b le:Int}{ks:QA Kd}{g:Stn}{gs:QA Stn}(x:StoreAt CS C H s sh b ks le g gs pa)(f:FrS s pa H H'):∀a xs,H a= ~~~xs->H' a= ~~~xs:=λ a xs e=>by
 cases x with
 | mk h sp st hp pr=>exact f _ _ (λ z=>by rw[z,h]at e;cases e) (λ z=>by rw[z,hp]at e;cases e) e
theorem FrS.shop{CS C s sh pa:P6}{H H':Hp}{b le:Int}{ks:QA Kd}{g:Stn}{gs:QA Stn}(x:StoreAt CS C H s sh b ks le g gs pa)(f:FrS s pa H H'):ShopAt C H' sh b ks:=by
 have t:=FrS.tup x f;cases x with
 | mk h sp st hp pr=>
  have ne:=yK h sp;obtain⟨dx',r,rs,h1,h2,h3⟩:=sp;exact⟨dx',r,rs,f _ _ ne (λ z=>by rw[z,hp]at h1;cases h1) h1,t _ _ h2,Tups.keep t h3⟩
theorem StoreAt.same{CS C s sh pa:P6}{H H':Hp}{b le:Int}{ks:QA Kd}{g:Stn}{gs:QA Stn}(x:StoreAt CS C H s sh b ks le g gs pa)(k:Same H H'):StoreAt CS C H' s sh b ks le g gs pa:=by
 cases x with
 | mk h sp st hp pr=>exact .mk (k _ _ h) (bI k sp) (st.keep λ _ _ e=>k _ _ e) (k _ _ hp) (G2 pr λ v q h=>h.keep λ _ _ e=>k _ _ e)
theorem StoreAt.look{CS C s sh pa:P6}{H:Hp}{b le:Int}{ks:QA Kd}{g:Stn}{gs:QA Stn}(x:StoreAt CS C H s sh b ks le g gs pa):∃dx sg ps,H s=some (.ins CS dx (sfl sh le sg pa))/\ShopAt C H sh b ks/\StnA H sg g/\H pa=↥ps/\Paired (StnA H) ps gs:=by
 cases x with
 | mk h sp st hp pr=>exact%[_,_,_,h,sp,st,hp|pr]
structure StoreTxt(K:C4)(CS:P6):Prop where
 cl:Cls K CS
 n1:NoAttr K CS "shop"
 n2:NoAttr K CS "least"
 n3:NoAttr K CS "standing"
 n4:NoAttr K CS "past"
theorem Paired.snoc{α β:Type}{R:α->β->Prop}{xs:QA α}{ys:QA β}{x:α}{y:β}(h:Paired R xs ys)(r:R x y):Paired R (xs ++ [x]) (ys ++ [y]):=eZ h (.cons r .nil)
inductive spSInit(CS C:P6)(vs:QA V)(H:Hp)(Q:VK)(E_:XK):Prop
|mk(s dx sh:P6)(b le:Int)(ks:QA Kd)(_:vs=[.ref s,.ref sh,.int le])(_:H s=some (.ins CS dx []))(_:ShopAt C H sh b ks)(_:ks.length<=8)(_:1<=le)(_:∀(pa:P6)(H':Hp),H pa=none->StoreAt CS C H' s sh b ks le ⟨[],0,List.replicate ks.length 0,0⟩ [] pa->(∀c o,c≠s->H c=some o->H' c=some o)->Q .non H')
inductive spRepl(CS C:P6)(vs:QA V)(H:Hp)(Q:VK)(E_:XK):Prop
|mk(s sh pa:P6)(b le:Int)(ks:QA Kd)(g g':Stn)(gs:QA Stn)(v:V)(_:vs=[.ref s,v])(_:StoreAt CS C H s sh b ks le g gs pa)(_:gs.length<=1000)(_:StnA H v g')(_:∀H',StoreAt CS C H' s sh b ks le g' (gs ++ [g]) pa->FrS s pa H H'->Q .non H')
inductive spPut(CS C:P6)(vs:QA V)(H:Hp)(Q:VK)(E_:XK):Prop
|mk(s sh pa:P6)(b le w h:Int)(ks:QA Kd)(g:Stn)(gs:QA Stn)(_:vs=[.ref s,.int w,.int h])(_:StoreAt CS C H s sh b ks le g gs pa)(_:gs.length<=1000)(_:g.pl.length<=10000)(_:1<=w)(_:w<=10 ^ 60)(_:1<=h)(_:h<=10 ^ 60)(_:∀H',StoreAt CS C H' s sh b ks le ⟨g.pl ++ [(g.nu,w,h)],g.nu+1,g.md,g.pu+w * h⟩ (gs ++ [g]) pa->FrS s pa H H'->Q (.int g.nu) H')
inductive spPlates(CS C:P6)(vs:QA V)(H:Hp)(Q:VK)(E_:XK):Prop
|mk(s sh pa:P6)(b le:Int)(ks:QA Kd)(g:Stn)(gs:QA Stn)(_:vs=[.ref s])(_:StoreAt CS C H s sh b ks le g gs pa)(_:∀(l:P6)(rs:QA V)(H':Hp),H l=none->H' l=↥rs->Paired (PlA H') rs g.pl->Same H H'->Q (.ref l) H')
inductive spMade(CS C:P6)(vs:QA V)(H:Hp)(Q:VK)(E_:XK):Prop
|mk(s sh pa:P6)(b le:Int)(ks:QA Kd)(g:Stn)(gs:QA Stn)(_:vs=[.ref s])(_:StoreAt CS C H s sh b ks le g gs pa)(_:∀(l:P6)(H':Hp),H l=none->H' l=↥(g.md.map V.int)->Same H H'->Q (.ref l) H')
inductive spUndo(CS C:P6)(vs:QA V)(H:Hp)(Q:VK)(E_:XK):Prop
|mk(s sh pa:P6)(b le:Int)(ks:QA Kd)(g:Stn)(gs:QA Stn)(_:vs=[.ref s])(_:StoreAt CS C H s sh b ks le g gs pa)(_:gs.length<=1001)(_:(gs=[]->Q (.bl false) H))(_:∀gs' g' H',gs=gs' ++ [g']->StoreAt CS C H' s sh b ks le g' gs' pa->FrS s pa H H'->Q (.bl true) H')
inductive spPlOf(CS C:P6)(vs:QA V)(H:Hp)(Q:VK)(E_:XK):Prop
|mk(s sh pa:P6)(b le:Int)(ks:QA Kd)(g:Stn)(gs:QA Stn)(i:Nat)(q:Int×Int×Int)(_:vs=[.ref s,.int q.1])(_:StoreAt CS C H s sh b ks le g gs pa)(_:0<=q.1)(_:g.pl[i]?=some q)(_:(∀j q',j < i->g.pl[j]?=some q'->q'.1≠q.1))(_:∀a,H a= ~~~[.int q.1,.int q.2.1,.int q.2.2]->Q (.ref a) H)
theorem screpl:FnScope ["self","standing"] ["self","standing"] (defScope bA):=%[Y,Y,Y,∅,Y,∅|∅]
theorem yL{f C CS:P6}{fd:F6}(F:Fun K "replace_standing" "Store.replace_standing" bA f fd)(TS:StoreTxt K CS):FnOk P w K mg base CX0 1 f fd ["self","standing"] (spRepl CS C):=by
 refine F.ok screpl (λ vs H Q E h=>?_) (λ cdv A outer s0 H vs Q E hr h=>?_)
 ·obtain⟨s,sh,pa,b,le,ks,g,g',gs,v,rfl,_⟩:=h
  rfl
 obtain⟨s,sh,pa,b,le,ks,g,g',gs,v,rfl,x,g1000,st',q⟩:=h;have nd:=screpl.nd;refine%[_,((@aO _ _ _ _ (@dG _ _ _ _ _ _ _ _ _ _ _ _ F3 PySem.F.slot_list_append PySem.F.type_list_append dj (bN (pv 0) Y) ((bN (pv 0) Y)^^^ab) Y Y Y Y Y) Y)>>>(fv (pv 0) (pv 1) Y))|?_];dsimp only[bJ];obtain⟨dx,sg,ps,hs,sp,st,hp,pr⟩:=x.look;have nps:pa≠s:=λ z=>by rw[z,hs]at hp;cases hp
 have pl:=E1 pr;have z2:(2000:Nat) < sizeLine:=∅
 refine ao (λ R=>∀(H':Hp),H' pa=↥(ps ++ [sg])->(∀c o,c≠pa->H c=some o->H' c=some o)->R [↑s,some v] H') (λ Dd hR=>?_) ?_
 ·refine%[_,Y,s,CS,dx,_,_,Y,hs,TS.cl,TS.n4,jY _ _ _ _,.inl %[Y,_|G1 hp],_,Y,s,CS,dx,_,_,Y,hs,TS.cl,TS.n3,bP _ _ _ _,pa,_,_,Y,Y,hp,(by rw[pl];lia)|?_];exact hR _ af (λ c o n e=>by rw[ap n];exact e)
 rintro H1 hp1 k1;have hs1:=k1 _ _ (Ne.symm nps) hs;have kt:∀a xs,H a= ~~~xs->H1 a= ~~~xs:=λ a xs e=>k1 _ _ (λ z=>by rw[z,hp]at e;cases e) e;refine%[_,Y,_,Y,s,CS,dx,_,Y,hs1,TS.cl,TS.n3,(by show 4 < 1000;decide)|?_];rw[rN];have kt2:∀a xs,H a= ~~~xs->(upd H1 s (.ins CS dx (sfl sh le v pa))) a= ~~~xs:=λ a xs e=>by have e1:=kt _ _ e;rw[ap (λ z=>by rw[z,hs1]at e1;cases e1)];exact e1
 have fr:FrS s pa H (upd H1 s (.ins CS dx (sfl sh le v pa))):=λ c o n1 n2 e=>by rw[ap n1];exact k1 _ _ n2 e
 exact q _ (.mk af (FrS.shop x fr) (st'.keep kt2) (by rw[ap nps];exact hp1) (Paired.snoc (G2 pr λ v q h=>h.keep kt2) (st.keep kt2))) fr
theorem scplates:FnScope ["self"] ["self"] (defScope di):=%[Y,Y,Y,∅,Y,∅|∅]
theorem tJ{f C CS:P6}{fd:F6}(F:Fun K "plates" "Store.plates" di f fd)(B:Blt mg)(TS:StoreTxt K CS):FnOk P w K mg base CX0 1 f fd ["self"] (spPlates CS C):=by
 refine F.ok scplates (λ vs H Q E h=>?_) (λ cdv A outer s0 H vs Q E hr h=>?_)
 ·obtain⟨s,sh,pa,b,le,ks,g,gs,rfl,_⟩:=h
  rfl
 obtain⟨s,sh,pa,b,le,ks,g,gs,rfl,x,q⟩:=h;have nd:=scplates.nd;refine%[_,((@bo _ _ _ _ _ _ _ _ _ eD Y B.list PyProof.Rows.boot_list (((bN (pv 0) Y)&&&ix_tup&&&ae)^^^ab) ∅ ∅ Y Y)⁻¹)|?_];dsimp only[bJ];obtain⟨dx,sg,ps,hs,sp,st,hp,pr⟩:=x.look;cases st with
 | mk ha hb pr' hc=>
  refine%[_,Y,s,CS,dx,_,_,Y,hs,TS.cl,TS.n3,bP _ _ _ _,_,_,0,_,Y,Y,G0 ha,Y,_,_,Y,.inr (G0 hb)|λ l hl=>?_];exact q l _ _ hl af (G2 pr' λ v q h=>h.keep λ _ _ e=>F9 hl _ _ e) (F9 hl)
theorem scmade:FnScope ["self"] ["self"] (defScope eS):=%[Y,Y,Y,∅,Y,∅|∅]
theorem yM{f C CS:P6}{fd:F6}(F:Fun K "made" "Store.made" eS f fd)(B:Blt mg)(TS:StoreTxt K CS):FnOk P w K mg base CX0 1 f fd ["self"] (spMade CS C):=by
 refine F.ok scmade (λ vs H Q E h=>?_) (λ cdv A outer s0 H vs Q E hr h=>?_)
 ·obtain⟨s,sh,pa,b,le,ks,g,gs,rfl,_⟩:=h
  rfl
 obtain⟨s,sh,pa,b,le,ks,g,gs,rfl,x,q⟩:=h;have nd:=scmade.nd;refine%[_,((@bo _ _ _ _ _ _ _ _ _ eD Y B.list PyProof.Rows.boot_list (((bN (pv 0) Y)&&&ix_tup&&&ae)^^^ab) ∅ ∅ Y Y)⁻¹)|?_];dsimp only[bJ];obtain⟨dx,sg,ps,hs,sp,st,hp,pr⟩:=x.look;cases st with
 | mk ha hb pr' hc=>
  refine%[_,Y,s,CS,dx,_,_,Y,hs,TS.cl,TS.n3,bP _ _ _ _,_,_,2,_,Y,Y,G0 ha,Y,_,_,Y,.inr (G0 hc)|λ l hl=>?_];exact q l _ hl af (F9 hl)
theorem scundo:FnScope ["self"] ["self"] (defScope eU):=%[Y,Y,Y,∅,Y,∅|∅]
theorem yN{f C CS:P6}{fd:F6}(F:Fun K "undo" "Store.undo" eU f fd)(TS:StoreTxt K CS):FnOk P w K mg base CX0 1 f fd ["self"] (spUndo CS C):=by
 refine F.ok scundo (λ vs H Q E h=>?_) (λ cdv A outer s0 H vs Q E hr h=>?_)
 ·obtain⟨s,sh,pa,b,le,ks,g,gs,rfl,_⟩:=h
  rfl
 obtain⟨s,sh,pa,b,le,ks,g,gs,rfl,x,g1,q1,q2⟩:=h;have nd:=scundo.nd;refine%[_,(((@bj _ _ _ _ (ft (bN (pv 0) Y) (λ _=>Y)))<|>(cD⁻¹)<|>aF)<<<((fv (pv 0) (jy F3 Qc Qd jz (bN (pv 0) Y)) Y)<<<(cD⁻¹)))|?_];dsimp only[bJ];obtain⟨dx,sg,ps,hs,sp,st,hp,pr⟩:=x.look;have nps:pa≠s:=λ z=>by rw[z,hs]at hp;cases hp
 refine eQ (λ R=>ps≠[]->R [↑s] H) (λ R hR=>?_) ?_
 ·refine%[_,Y,s,CS,dx,_,_,Y,hs,TS.cl,TS.n4,jY _ _ _ _,_,.inl %[ps,G1 hp|Y]|?_];cases ps with
  | nil=>
   cases pr;exact aW (q1 rfl)
  | cons p0 ps=>exact aP (hR (List.cons_ne_nil _ _))
 rintro ne;obtain⟨ps',p0,rfl⟩:∃ps' p0,ps=ps' ++ [p0]:=by
  rcases List.eq_nil_or_concat ps with e | ⟨ps',p0,e⟩
  ·exact absurd e ne
  ·exact%[ps',p0|by rw[e,List.concat_eq_append]]
 obtain⟨gs',g',rfl,pr',st'⟩:=rf pr;refine ao (λ R=>∀(H':Hp),StoreAt CS C H' s sh b ks le g' gs' pa->FrS s pa H H'->R [↑s] H') (λ Dd hR=>?_) ?_
 ·refine%[_,Y,s,CS,dx,_,_,Y,hs,TS.cl,TS.n4,jY _ _ _ _,.inl %[Y,_|G1 hp],pa,_,p0,Y,Y,hp,(by simp)|?_];rw[O1];have k1:∀c o,c≠pa->H c=some o->(upd H pa (.lst ps')) c=some o:=λ c o n e=>by rw[ap n];exact e
  have hp1:(upd H pa (.lst ps')) pa=↥ps':=af;generalize upd H pa (.lst ps')=H1 at k1 hp1 ⊢;have hs1:=k1 _ _ (Ne.symm nps) hs;refine%[_,Y,s,CS,dx,_,Y,hs1,TS.cl,TS.n3,(by show 4 < 1000;decide)|?_];rw[rN];have kt2:∀a xs,H a= ~~~xs->(upd H1 s (.ins CS dx (sfl sh le p0 pa))) a= ~~~xs:=λ a xs e=>by have e1:=k1 _ _ (λ z=>by rw[z,hp]at e;cases e) e;rw[ap (λ z=>by rw[z,hs1]at e1;cases e1)];exact e1
  have fr:FrS s pa H (upd H1 s (.ins CS dx (sfl sh le p0 pa))):=λ c o n1 n2 e=>by rw[ap n1];exact k1 _ _ n2 e
  exact hR _ (.mk af (FrS.shop x fr) (st'.keep kt2) (by rw[ap nps];exact hp1) (G2 pr' λ v q h=>h.keep kt2)) fr
 rintro H1 x1 fr;exact q2 gs' g' H1 rfl x1 fr
theorem scput:FnScope ["self","wide","high","plates","number","made","cells_put"] ["self","wide","high"] (defScope gh):=%[Y,Y,Y,∅,Y,∅|∅]
theorem AJ{f C CS:P6}{fd:F6}(F:Fun K "put" "Store.put" gh f fd)(TS:StoreTxt K CS)(DCP:Dn P w K mg base "check_plate" ["wide","high"] 2 (spCP))(MR:Mn P w K mg base CS "replace_standing" ["self","standing"] 1 (spRepl CS C)):FnOk P w K mg base CX0 3 f fd ["self","wide","high"] (spPut CS C):=by
 refine F.ok scput (λ vs H Q E h=>?_) (λ cdv A outer s0 H vs Q E hr h=>?_)
 ·obtain⟨s,sh,pa,b,le,w1,h1,ks,g,gs,rfl,_⟩:=h
  rfl
 obtain⟨s,sh,pa,b,le,w1,h1,ks,g,gs,rfl,x,g1,p1,w0,w60,h0,h60,q⟩:=h;have nd:=scput.nd;refine%[_,((@aO _ _ _ _ (DCP∪((pv 1)^^^((pv 2)^^^ab))) Y)<<<((@bq _ _ _ _ _ _ (bN (pv 0) Y) (aU Y (3•(4•(5•(6•aJ))))) Y Y Y)<<<((@aO _ _ _ _ (fC (pv 0) TS.cl MR (hr.mono ∅) ((@aD _ _ _ _ _ (((pv 3)|||xU|||(@aD _ _ _ _ _ ((@aD _ _ _ _ _ ((pv 4)^^^((pv 1)^^^((pv 2)^^^ab))))^^^ab)))^^^(((pv 4)|||aM|||ae)^^^((pv 5)^^^(((pv 6)|||aM|||((pv 1)|||dJ|||(pv 2)))^^^ab)))))^^^ab)) Y)<<<((pv 4)⁻¹))))|?_];dsimp only[bJ];have z2:(20000:Nat) < sizeLine:=∅
 obtain⟨dx,sg,ps,hs,sp,st,hp,pr⟩:=x.look;refine ao (λ R=>R [↑s,⇑w1,⇑h1,none,none,none,none] H) (λ Dd hR=>?_) ?_
 ·exact%[_,Y,_,Y,w1,h1,Y,w0,h0|hR]
 skip
 cases st with
 | @mk a b' c rs _ ha hb pr' hc=>
  refine ao (λ R=>R [↑s,⇑w1,⇑h1,↑b',⇑g.nu,↑c,⇑g.pu] H) (λ Dd hR=>?_) ?_
  ·exact%[_,Y,s,CS,dx,_,_,Y,hs,TS.cl,TS.n3,bP _ _ _ _,a,_,Y,G0 ha,Y,_,_,Y,_,_,Y,_,_,Y,_,_,Y,Y|hR]
  skip
  have rl:=E1 pr';refine ao (λ R=>∀(H':Hp),StoreAt CS C H' s sh b ks le %[g.pl ++ [(g.nu,w1,h1)],g.nu+1,g.md|g.pu+w1 * h1] (gs ++ [g]) pa->FrS s pa H H'->R [↑s,⇑w1,⇑h1,↑b',⇑g.nu,↑c,⇑g.pu] H') (λ Dd hR=>?_) ?_
  ·refine%[_,Y,s,dx,_,Y,hs,cZ _ _ _ _ ∅ ∅ ∅ ∅|?_];refine%[_,Y,_,Y,_,Y,_,Y,zS3|λ t1 ht1=>?_];obtain⟨H1,e1,k1,s1⟩:∃H',upd H t1 (.tup [.int g.nu,.int w1,.int h1])=H'/\H' t1= ~~~[.int g.nu,.int w1,.int h1]/\Same H H':=%[_,Y,af|F9 ht1]
   rw[show upd H t1 _=H1 from e1];clear e1;refine%[zS1|λ t2 ht2=>?_];obtain⟨H2,e2,k2,s2⟩:∃H',upd H1 t2 (.tup [.ref t1])=H'/\H' t2= ~~~[.ref t1]/\Same H1 H':=%[_,Y,af|F9 ht2]
   rw[show upd H1 t2 _=H2 from e2];clear e2;refine%[b',t2,_,_,Y,Y,(s1.trans s2) _ _ hb,k2,(by rw[rl];show _+1<=sizeLine;lia)|λ t3 H3 c3 k3=>?_];have s3:Same H2 H3:=by
    rcases c3 with⟨rfl,_⟩ | ⟨hm,rfl⟩
    ·exact Same.refl _
    ·exact F9 hm
   have s03:=(s1.trans s2).trans s3;refine%[_,Y,_,_,Y,Y,_,Y,_,Y,_,Y,_,Y,_,_,Y,Y,%[b60 ⋯ ⋯|b60 ⋯ ⋯],_,_,Y,Y,zS4|λ t4 ht4=>?_];obtain⟨H4,e4,k4,s4⟩:∃H',upd H3 t4 (.tup [.ref t3,.int (g.nu+1),.ref c,.int (g.pu+w1 * h1)])=H'/\H' t4= ~~~[.ref t3,.int (g.nu+1),.ref c,.int (g.pu+w1 * h1)]/\Same H3 H':=%[_,Y,af|F9 ht4]
   rw[show upd H3 t4 _=H4 from e4];clear e4;have s04:=s03.trans s4;refine%[s,sh,pa,b,le,ks,g,%[g.pl ++ [(g.nu,w1,h1)],g.nu+1,g.md|g.pu+w1 * h1],gs,_,Y,x.same s04,g1,.mk k4 (s4 _ _ k3) ?_ (s04 _ _ hc)|λ H5 x5 f5=>hR _ x5 ((Same.frS s04).trans f5)];exact Paired.snoc (G2 pr' λ v q h=>h.keep λ _ _ e=>s04 _ _ e) %[t1,rfl|s4 _ _ (s3 _ _ (s2 _ _ k1))]
  rintro H5 x5 f5;exact%[_,Y|q _ x5 f5]
theorem scplof:FnScope ["self","number","plate"] ["self","number"] (defScope cU):=%[Y,Y,Y,∅,Y,∅|∅]
theorem yO{f C CS:P6}{fd:F6}(F:Fun K "plate_of" "Store.plate_of" cU f fd)(TS:StoreTxt K CS)(DW:Dn P w K mg base "is_whole" ["thing","least"] 1 (cT K)):FnOk P w K mg base CX0 2 f fd ["self","number"] (spPlOf CS C):=by
 refine F.ok scplof (λ vs H Q E h=>?_) (λ cdv A outer s0 H vs Q E hr h=>?_)
 ·obtain⟨s,sh,pa,b,le,ks,g,gs,i,q0,rfl,_⟩:=h
  rfl
 obtain⟨s,sh,pa,b,le,ks,g,gs,i,q0,rfl,x,n0,hi,first,q⟩:=h;have nd:=scplof.nd;refine%[_,(((@aT _ _ _ (DW∪((pv 1)^^^(ae^^^ab))) (by intro _;rfl))<|>(@ag _ _ _ (@cG _ _ _ _ _ _ _ _ E2 Y (fj ((bN (pv 0) Y)&&&ix_tup&&&ae)) (ai (i:=2) nd Y (Or.inl Y)) (@ag _ _ _ ((((pv 2)&&&ix_tup&&&ae)<*>cf<*>(pv 1))<|>((pv 2)⁻¹)<|>aF)) (by intro _;rfl)))<|>aF)>>>cF)|?_];dsimp only[bJ];obtain⟨dx,sg,ps,hs,sp,st,hp,pr⟩:=x.look;refine cg (λ σ' H'=>False) (λ R hR=>?_) (λ _ _ z=>z.elim);refine%[_,Y,.int q0.1,_,0,Y,Ty.int,_,Y|?_];rw[show aV (.int q0.1) 0=true from QG n0];refine aW ?_;cases st with
 | @mk a b' c rs _ ha hb pr' hc=>
  refine%[_,Y,s,CS,dx,_,_,Y,hs,TS.cl,TS.n3,bP _ _ _ _,a,_,0,_,Y,Y,G0 ha,Y,b',Y,%[_|G0 hb]|ja (xs:=rs) (λ j σ' H'=>(∃v2,σ'=[↑s,⇑q0.1,v2])/\H=H'/\j<=i) %[%[_|Y],Y|E6 _] (λ j σ H' _ h=>by rw[<- h.2.1];exact G0 hb) ?_ ?_]
  ·rintro j v σ _ hj ⟨⟨v2,rfl⟩,rfl,ji⟩;obtain⟨q',hq',a',rfl,ha'⟩:=G3 pr' hj;refine%[_,Y,a',_,0,_,Y,Y,G0 ha',Y,_,Y,Y,_,Y|?_]
   by_cases e:j=i
   ·subst e;rw[hi]at hq';cases hq';rw[show decide (V.int q0.1=V.int q0.1)=true from QG rfl];exact aW %[_,rfl|q a' ha']
   ·have:=first j q' ⋯ hq'
    rw[show decide (V.int q'.1=V.int q0.1)=false from QJ (λ z=>this (V.int.inj z))];exact aP %[%[_|rfl],rfl|⋯]
  ·rintro σ _ ⟨⟨v2,rfl⟩,rfl,ji⟩;have:=(A6.mp hi).1;have:=E1 pr';lia
theorem scsinit:FnScope ["self","shop","least"] ["self","shop","least"] (defScope dE):=%[Y,Y,Y,∅,Y,∅|∅]
theorem wI{f C CS:P6}{fd:F6}(F:Fun K "__init__" "Store.__init__" dE f fd)(B:Blt mg)(TS:StoreTxt K CS)(T:ShopTxt K C)(DW:Dn P w K mg base "is_whole" ["thing","least"] 1 (cT K))(MK:Mn P w K mg base C "kinds" ["self"] 1 (fT C)):FnOk P w K mg base CX0 2 f fd ["self","shop","least"] (spSInit CS C):=by
 refine F.ok scsinit (λ vs H Q E h=>?_) (λ cdv A outer s0 H vs Q E hr h=>?_)
 ·obtain⟨s,dx,sh,b,le,ks,rfl,_⟩:=h
  rfl
 obtain⟨s,dx,sh,b,le,ks,rfl,hs,sp,k8,l1,q⟩:=h;have nd:=scsinit.nd;refine%[_,(((@bj _ _ _ _ (@aT _ _ _ (DW∪((pv 2)^^^(ae^^^ab))) (by intro _;rfl)))<|>(@ag _ _ _ cF)<|>aF)<<<((fv (pv 0) (pv 1) Y)<<<((fv (pv 0) (pv 2) Y)<<<((fv (pv 0) (@aD _ _ _ _ _ ((@aD _ _ _ _ _ ab)^^^(ae^^^((@bo _ _ _ _ _ _ _ _ _ bh Y B.tuple QK ((bO (own:=["kind"]) (cs:=[]) (cap:=[]) Y (cm (bW (pv 1) T.cl MK (hr.mono ∅))) (aL (sc:=defScope dE) (N:=["self","shop","least"]) Y Y ∅) (λ _ _ _ _ _=>ai (i:=0) (by show List.Nodup (["kind"]:QA Str) ;decide +kernel) Y (Or.inl Y) (Or.inr Y)) (λ _ _ _ _ _=>bd) (λ _ _ _ _ _=>ae))^^^ab) ∅ ∅ Y Y)^^^(ae^^^ab))))) Y)>>>(fv (pv 0) (@bu _ _ _ _ ab) Y)))))|?_];dsimp only[bJ];have z2:(2000:Nat) < sizeLine:=∅
 have ns:sh≠s:=λ z=>by obtain⟨dx',r,rs,h1,_⟩:=sp;rw[z,hs]at h1;have e:=HO.ins.inj (B8 h1);have:=QV (List.lookup ("blade_width" : Str)) e.2.2;rw[jG]at this;cases this
 have set:∀{Hx Hy:Hp}{fs fs':QA (Str×V)},Hx s=some (.ins CS dx fs)->(∀c o,c≠s->H c=some o->Hx c=some o)->upd Hx s (.ins CS dx fs')=Hy->Hy s=some (.ins CS dx fs')/\(∀c o,c≠s->H c=some o->Hy c=some o)/\∀c o,c≠s->Hx c=some o->Hy c=some o:=λ {Hx Hy fs fs'} _ k e=>by subst e;exact%[af,λ c o n e=>by rw[ap n];exact k c o n e|λ c o n e=>by rw[ap n];exact e]
 have shK:∀{Hx:Hp},(∀c o,c≠s->H c=some o->Hx c=some o)->ShopAt C Hx sh b ks:=λ {Hx} k=>by obtain⟨dx',r,rs,h1,h2,h3⟩:=sp;have kt:∀a xs,H a= ~~~xs->Hx a= ~~~xs:=λ a xs e=>k _ _ (λ z=>by rw[z,hs]at e;cases e) e;exact%[dx',r,rs,k _ _ ns h1,kt _ _ h2|Tups.keep kt h3]
 refine ao (λ R=>R [↑s,↑sh,⇑le] H) (λ Dd hR=>?_) ?_
 ·refine%[_,Y,.int le,_,1,Y,Ty.int,_,Y|?_];rw[show aV (.int le) 1=true from QG l1];exact aP (hR)
 skip
 refine ao (λ R=>∀(H':Hp),H' s=some (.ins CS dx (bG "shop" (.ref sh) []))->((∀c o,c≠s->H c=some o->H' c=some o))->R [↑s,↑sh,⇑le] H') (λ Dd hR=>?_) ?_
 ·refine%[_,Y,_,Y,s,CS,dx,_,Y,hs,TS.cl,TS.n1,(by show 0 < 1000;decide)|?_];obtain⟨g1,g2,_⟩:=set (fs':=bG "shop" (.ref sh) []) hs (λ _ _ _ e=>e) rfl;exact hR _ g1 g2
 rintro H1 hs1 k1;refine ao (λ R=>∀(H':Hp),H' s=some (.ins CS dx (bG "least" (.int le) (bG "shop" (.ref sh) [])))->((∀c o,c≠s->H c=some o->H' c=some o))->R [↑s,↑sh,⇑le] H') (λ Dd hR=>?_) ?_
 ·refine%[_,Y,_,Y,s,CS,dx,_,Y,hs1,TS.cl,TS.n2,(by have:=bV ("shop" : Str) (.ref sh) [];exact C6 this (by show 1 < 1000;decide))|?_];obtain⟨g1,g2,_⟩:=set (fs':=bG "least" (.int le) (bG "shop" (.ref sh) [])) hs1 k1 rfl;exact hR _ g1 g2
 rintro H2 hs2 k2;have lp:(bG ("least" : Str) (.int le) (bG ("shop" : Str) (.ref sh) [])).length<=2:=C5 (bV _ _ _) (Nat.succ_le_succ (bV _ _ _));refine ao (λ R=>∀(H':Hp),(∃sg,StnA H' sg %[[],0,List.replicate ks.length 0|0]/\H' s=some (.ins CS dx (bG "standing" sg (bG "least" (.int le) (bG "shop" (.ref sh) []))))/\(∀c o,c≠s->H c=some o->H' c=some o))->R [↑s,↑sh,⇑le] H') (λ Dd hR=>?_) ?_
 ·refine%[zS0|λ t1 ht1=>?_];obtain⟨H3,e3,k3,s3⟩:∃H',upd H2 t1 (.tup [])=H'/\H' t1= ~~~[]/\Same H2 H':=%[_,Y,af|F9 ht1]
  rw[show upd H2 t1 _=H3 from e3];clear e3;have k3':∀c o,c≠s->H c=some o->H3 c=some o:=λ c o n e=>s3 _ _ (k2 _ _ n e);have sp3:=shK k3';obtain⟨dx',r,rs,S1,S2,S3⟩:=id sp3;refine%[_,Y,sh,dx',_,Y,S1,(bT _ _ ∅ ∅),sh,b,ks,Y,sp3|λ l rs' hl tp=>?_];obtain⟨H4,e4,k4,s4⟩:∃H',upd H3 l (.lst rs')=H'/\H' l=↥rs'/\Same H3 H':=%[_,Y,af|F9 hl]
  rw[show upd H3 l _=H4 from e4];clear e4;have tl:=E1 tp;refine%[l,Y,%[_|G1 k4]|(bE (K:=K) (.inl k4) (λ i ys Hx=>Same H4 Hx/\ys=List.replicate i (.int 0)) (λ i ys Hx _ ⟨sx,_⟩ o e=>sx _ _ e) %[Same.refl _|Y] ?_ ?_).1 k4]
  ·rintro i x ys Hx hi ⟨sx,rfl⟩;have hin:i < rs'.length:=(A6.mp hi).1;refine%[by rw[J8];lia,leS.set rfl|bg ?_];show Nx rs'.length (λ i ys Hx=>Same H4 Hx/\ys=List.replicate i (V.int 0)) i (List.replicate i (V.int 0) ++ [.int 0]) Hx;refine Nx.of hin %[sx|?_];rw[List.replicate_succ']
  ·rintro ys Hx ⟨sx,rfl⟩;refine%[by rw[J8];lia|λ lc hlc=>?_];obtain⟨H5,e5,k5,s5⟩:∃H',upd Hx lc (.lst (List.replicate rs'.length (V.int 0)))=H'/\H' lc=↥(List.replicate rs'.length (V.int 0))/\Same Hx H':=%[_,Y,af|F9 hlc]
   rw[show upd Hx lc _=H5 from e5];clear e5;refine%[lc,_,Y|.inl %[G1 k5|λ t2 ht2=>?_]];obtain⟨H6,e6,k6,s6⟩:∃H',upd H5 t2 (.tup (List.replicate rs'.length (V.int 0)))=H'/\H' t2= ~~~(List.replicate rs'.length (V.int 0))/\Same H5 H':=%[_,Y,af|F9 ht2]
   rw[show upd H5 t2 _=H6 from e6];clear e6;refine%[zS4|λ t3 ht3=>?_];obtain⟨H7,e7,k7,s7⟩:∃H',upd H6 t3 (.tup [.ref t1,.int 0,.ref t2,.int 0])=H'/\H' t3= ~~~[.ref t1,.int 0,.ref t2,.int 0]/\Same H6 H':=%[_,Y,af|F9 ht3]
   rw[show upd H6 t3 _=H7 from e7];clear e7;have s37:=s4.trans (sx.trans (s5.trans (s6.trans s7)));have hs7:=s37 _ _ (s3 _ _ hs2);have k7':∀c o,c≠s->H c=some o->H7 c=some o:=λ c o n e=>s37 _ _ (k3' _ _ n e);refine%[_,Y,s,CS,dx,_,Y,hs7,TS.cl,TS.n3,C6 lp ∅|?_];obtain⟨H8,e8⟩:∃H8,upd H7 s (.ins CS dx (bG "standing" (.ref t3) (bG "least" (.int le) (bG "shop" (.ref sh) []))))=H8:=%[_|Y]
   obtain⟨g1,g2,g3⟩:=set hs7 k7' e8;rw[show upd H7 s _=H8 from e8];have kt:∀a xs,H7 a= ~~~xs->H8 a= ~~~xs:=λ a xs e=>g3 _ _ (λ z=>by rw[z,hs7]at e;cases e) e;refine hR _ %[.ref t3,?_,g1|g2];refine .mk (kt _ _ k7) (kt _ _ (s37 _ _ k3)) .nil (kt _ _ (s7 _ _ ?_));rw[k6,List.map_replicate,tl]
 rintro H3 ⟨sg,st3,hs3,k3⟩;refine%[∅|λ pa hpa=>?_];obtain⟨H4,e4,k4,s4⟩:∃H',upd H3 pa (.lst [])=H'/\H' pa=↥[]/\Same H3 H':=%[_,Y,af|F9 hpa]
 rw[show upd H3 pa _=H4 from e4];clear e4;have hs4:=s4 _ _ hs3;have nps:pa≠s:=λ z=>by rw[z,hs3]at hpa;cases hpa
 refine%[_,Y,s,CS,dx,_,Y,hs4,TS.cl,TS.n4,C6 (C5 (bV _ _ _) (Nat.succ_le_succ lp)) ∅|?_];have k4':∀c o,c≠s->H c=some o->H4 c=some o:=λ c o n e=>s4 _ _ (k3 _ _ n e);rw[iK];obtain⟨g1,g2,g3⟩:=set (fs':=sfl sh le sg pa) hs4 k4' rfl;have hH:H pa=none:=by
  cases e:H pa with
  | none=>rfl
  | some o=>rw[k3 _ _ nps e]at hpa;cases hpa
 exact q pa _ hH (.mk g1 (shK g2) (st3.keep λ a xs e=>g3 _ _ (λ z=>by rw[z,hs3]at e;cases e) (s4 _ _ e)) (g3 _ _ nps k4) .nil) g2
theorem b70{x:Int}(h0:0<=x)(h1:x<=10 ^ 70):x.natAbs < 2 ^ 4096:=by
 have e:(10:Nat) ^ 70 < 2 ^ 4096:=∅
 have e2:((10 ^ 70:Nat):Int)=10 ^ 70:=∅
 generalize(10:Nat) ^ 70=a at e e2;generalize(2:Nat) ^ 4096=b at e;generalize(10:Int) ^ 70=c at e2 h1;lia
theorem GK{m w:Int}(m0:0<=m)(m1:m<=10 ^ 6)(w0:0<=w)(w1:w<=10 ^ 60):0<=m * w/\m * w<=10 ^ 70:=by
 have h1:=Int.mul_nonneg m0 w0;have h2:=Int.mul_le_mul (a:=m) (b:=w) (c:=10 ^ 6) (d:=10 ^ 60) m1 w1 w0 ∅;have h3:(10:Int) ^ 6 * 10 ^ 60<=10 ^ 70:=∅
 exact%[h1|P5 h2 h3]
def thr(g:Stn):Int:=(g.pl.map λ q=>q.2.1 * q.2.2).sum
def mdc(ks:QA Kd)(g:Stn):Int:=((g.md.zip ks).map λ z=>z.1 * z.2.w * z.2.h).sum
def AK(g:Stn):Prop:=g.pl.length<=10000/\∀q∈g.pl,1<=q.2.1/\q.2.1<=10 ^ 60/\1<=q.2.2/\q.2.2<=10 ^ 60
def AL(ks:QA Kd)(g:Stn):Prop:=g.md.length=ks.length/\∀m∈g.md,0<=m/\m<=10 ^ 6
inductive spCells(CS C:P6)(vs:QA V)(H:Hp)(Q:VK)(E_:XK):Prop
|mk(s sh pa:P6)(b le:Int)(ks:QA Kd)(g:Stn)(gs:QA Stn)(_:vs=[.ref s])(_:StoreAt CS C H s sh b ks le g gs pa)(_:ks.length<=8)(_:(∀k∈ks,Good k))(_:AK g)(_:AL ks g)(_:∀(t:P6)(H':Hp),H' t= ~~~[.int g.pu,.int (thr g),.int (mdc ks g),.int (g.pu - thr g - mdc ks g)]->Same H H'->Q (.ref t) H')
theorem sccells:FnScope ["self","plates","upcoming","made","cells_put","there","cells_made"] ["self"] (defScope cB):=%[Y,Y,Y,∅,Y,∅|∅]
theorem wJ{f C CS:P6}{fd:F6}(F:Fun K "cells" "Store.cells" cB f fd)(B:Blt mg)(TS:StoreTxt K CS)(T:ShopTxt K C)(MK:Mn P w K mg base C "kinds" ["self"] 1 (fT C)):FnOk P w K mg base CX0 2 f fd ["self"] (spCells CS C):=by
 refine F.ok sccells (λ vs H Q E h=>?_) (λ cdv A outer s0 H vs Q E hr h=>?_)
 ·obtain⟨s,sh,pa,b,le,ks,g,gs,rfl,_⟩:=h
  rfl
 obtain⟨s,sh,pa,b,le,ks,g,gs,rfl,x,k8,gk,plo,mdo,q⟩:=h;have nd:=sccells.nd;refine%[_,((@bq _ _ _ _ _ _ (bN (pv 0) Y) (aU Y (1•(2•(3•(4•aJ))))) Y Y Y)<<<((5∣(@aI _ _ _ _ _ _ _ _ _ (fV Y) Y B.sum Qe ((bO (own:=["number","wide","high"]) (cs:=[]) (cap:=[]) Y (fj (pv 1)) (aL (sc:=defScope cB) (N:=["self","plates","upcoming","made","cells_put","there","cells_made"]) Y Y ∅) (λ _ _ _ _ _=>mP K Y Y (by show List.Nodup (["number","wide","high"]:QA Str) ;decide +kernel) Y Y Y Y Y Y) (λ _ _ _ _ _=>bd) (λ _ _ _ _ _=>((pv 1)|||dJ|||(pv 2))))^^^ab) ∅ ∅ Y Y))<<<((6∣(@aI _ _ _ _ _ _ _ _ _ (fV Y) Y B.sum Qe ((bO (own:=["many","kind"]) (cs:=[]) (cap:=[]) Y (qO Y B.zip ((pv 3)^^^((bW (bN (pv 0) Y) T.cl MK (hr.mono ∅))^^^ab))) (aL (sc:=defScope cB) (N:=["self","plates","upcoming","made","cells_put","there","cells_made"]) Y Y ∅) (λ _ _ _ _ _=>lJ K Y Y (by show List.Nodup (["many","kind"]:QA Str) ;decide +kernel) Y Y Y Y) (λ _ _ _ _ _=>bd) (λ _ _ _ _ _=>(((pv 0)|||dJ|||(av (r:=rIxT K) ix_tup (pv 1) ae (λ _ _=>Y)))|||dJ|||(av (r:=rIxT K) ix_tup (pv 1) ae (λ _ _=>Y)))))^^^ab) ∅ ∅ Y Y))<<<((@aD _ _ _ _ _ ((pv 4)^^^((pv 5)^^^((pv 6)^^^((((pv 4)|||br|||(pv 5))|||br|||(pv 6))^^^ab)))))⁻¹))))|?_];dsimp only[bJ];have sz:(20000:Nat) < sizeLine:=∅
 obtain⟨pl1,pl2⟩:=plo;obtain⟨ml,mb⟩:=mdo;obtain⟨dx,sg,ps,hs,sp,st,hp,pr⟩:=x.look;cases st with
 | @mk a b' c rs _ ha hb pr' hc=>
  refine ao (λ R=>R [↑s,↑b',⇑g.nu,↑c,⇑g.pu,none,none] H) (λ Dd hR=>?_) ?_
  ·exact%[_,Y,s,CS,dx,_,_,Y,hs,TS.cl,TS.n3,bP _ _ _ _,a,_,Y,G0 ha,Y,_,_,Y,_,_,Y,_,_,Y,_,_,Y,Y|hR]
  skip
  have rl:=E1 pr';refine ao (λ R=>∀(H':Hp),Same H H'->R [↑s,↑b',⇑g.nu,↑c,⇑g.pu,⇑(thr g),none] H') (λ Dd hR=>?_) ?_
  ·refine%[_,Y,b',Y,%[_|G0 hb]|(bE (K:=K) (.inr hb) (λ i ys Hx=>Same H Hx/\ys=((g.pl.take i).map λ q=>q.2.1 * q.2.2).map V.int) (λ i ys Hx _ ⟨sx,_⟩ o e=>sx _ _ e) %[Same.refl _|Y] ?_ ?_).2 hb]
   ·rintro i v ys Hx hi ⟨sx,rfl⟩;have hin:i < rs.length:=(A6.mp hi).1;obtain⟨q',hq',a',rfl,ha'⟩:=G3 pr' hi;obtain⟨q1,q2,q3,q4⟩:=pl2 q' (B5 hq');refine%[by rw[G4,G4,J3];lia|?_];refine%[a',_,Y,G0 (sx _ _ ha'),Y,_,_,Y,_,_,Y,_,_,Y,Y,fb (leS.set rfl) (fb (leS.set rfl) (leS.set rfl))|bg ?_];refine%[_,Y,_,Y,_,_,Y,Y,%[b60 ⋯ ⋯|b60 ⋯ ⋯]|Nx.of hin %[sx|?_]];rw[J5,hq'];simp only[M1,I9,J0,O4]
   ·rintro ys Hx ⟨sx,rfl⟩;rw[rl,K2];refine%[by rw[G4,G4];lia|λ p hp=>?_];exact%[p,_,Y,G1 af|hR _ (sx.trans (F9 hp))]
  rintro H1 s1;refine ao (λ R=>∀(H':Hp),Same H H'->R [↑s,↑b',⇑g.nu,↑c,⇑g.pu,⇑(thr g),⇑(mdc ks g)] H') (λ Dd hR=>?_) ?_
  ·have sp1:=bI s1 sp;obtain⟨dx',r,rs0,S1,S2,S3⟩:=id sp1;refine%[_,Y,_,Y,s,CS,dx,_,_,Y,s1 _ _ hs,TS.cl,TS.n1,ie _ _ _ _,sh,dx',_,Y,S1,(bT _ _ ∅ ∅),sh,b,ks,Y,sp1|λ l rs' hl tp=>?_];obtain⟨H2,e2,k2,s2⟩:∃H',upd H1 l (.lst rs')=H'/\H' l=↥rs'/\Same H1 H':=%[_,Y,af|F9 hl]
   rw[show upd H1 l _=H2 from e2];clear e2;have tp2:Tups H2 rs' ks:=Tups.keep (λ c xs e=>s2 _ _ e) tp;have tl:=E1 tp;have hc2:=s2 _ _ (s1 _ _ hc);refine%[c,l,_,_,Y,hc2,k2|kQ (xs:=g.md.map V.int) (ys:=rs') (λ i zs H4=>Same H2 H4/\zs=(((g.md.zip ks).take i).map λ z=>z.1 * z.2.w * z.2.h).map V.int) (by rw[G4,ml];exact tl.symm) (λ i zs H4 ⟨s4,_⟩=>%[s4 _ _ hc2|s4 _ _ k2]) %[Same.refl _|Y] (λ i zs H4 hi ⟨_,e⟩=>by rw[e,G4,G4,J3];rw[G4]at hi;lia) ?_ ?_]
   ·rintro i x y tz zs H4 hx hy htz ⟨s4,rfl⟩;rw[J2]at hx;obtain⟨cc,hcc,rfl⟩:=M2.mp hx;obtain⟨k,hk,ak,rfl,hak⟩:=G3 tp2 hy;have gg:=gk k (B5 hk);have g1:=gg.w;have g2:=gg.h;have g3:=gg.w';have g4:=gg.h';have hcb:=mb cc (B5 hcc);obtain⟨H5,e5,k5,s5⟩:∃H',upd H4 tz (.tup [.int cc,.ref ak])=H'/\H' tz= ~~~[.int cc,.ref ak]/\Same H4 H':=%[_,Y,af|F9 htz]
    rw[show upd H4 tz _=H5 from e5];clear e5;have ak5:H5 ak= ~~~[.int k.w,.int k.h,.int k.wo,.int k.wa,.bl k.tu]:=s5 _ _ (s4 _ _ hak);have mw:=GK hcb.1 hcb.2 (show 0<=k.w by lia) ⋯;have c6:cc<=10 ^ 70:=P5 hcb.2 ∅;have w7:k.w<=10 ^ 70:=P5 (Int.le_of_lt g3) ∅;have h7:k.h<=10 ^ 70:=P5 (Int.le_of_lt g4) ∅;refine%[tz,_,Y,G0 k5,Y,_,_,Y,_,_,Y,Y,fb (leS.set rfl) (leS.set rfl)|bg ?_];refine%[_,Y,_,Y,ak,_,0,_,Y,Y,G0 ak5,Y,_,_,Y,Y,%[b70 hcb.1 c6|b70 ⋯ w7],_,Y,ak,_,1,_,Y,Y,G0 ak5,Y,_,_,Y,Y,%[b70 mw.1 mw.2|b70 ⋯ h7]|Nx.of (by rw[G4,ml];exact(A6.mp hk).1) %[s4.trans s5|?_]];have hzz:(g.md.zip ks)[i]?=some (cc,k):=by rw[List.getElem?_zip_eq_some];exact%[hcc|hk]
    rw[J5,hzz];simp only[M1,I9,J0,O4]
   ·rintro zs H4 ⟨s4,rfl⟩;refine%[by rw[G4,G4,J3,List.length_zip];lia|λ p hp=>?_];rw[G4,K1 (by rw[List.length_zip];lia)];exact%[p,_,Y,G1 af|hR _ (((s1.trans s2).trans s4).trans (F9 hp))]
  rintro H2 s2;refine%[_,Y,_,Y,_,Y,_,Y,_,Y,_,_,Y,Y,_,Y,_,_,Y,Y,zS4|λ t ht=>?_];exact q t _ af (s2.trans (F9 ht))
theorem yP{X:Cx}(K:C4){x y z u:Str}{px py pz pu pos:Pos}{k:Nat}(hK:X.K=K)(hc:X.calm=true)(hN:X.N.Nodup)(h0:X.N[0]?=some x)(h1:X.N[1]?=some y)(h2:X.N[2]?=some z)(h3:X.N[3]?=some u)(l0:X.env.scope.names.lookup x=some .local)(l1:X.env.scope.names.lookup y=some .local)(l2:X.env.scope.names.lookup z=some .local)(l3:X.env.scope.names.lookup u=some .local) :
  PG X (.Tuple [.Name x px,.Name y py,.Name z pz,.Name u pu] k pos) (gTup K 4 (gCons (bU 0) (gCons (bU 1) (gCons (bU 2) (gCons (bU 3) mC))))) :=
 hK ▸ aU hc (ah (ai hN h0 (.inl l0) (.inr l0)) (ah (ai hN h1 (.inl l1) (.inr l1)) (ah (ai hN h2 (.inl l2) (.inr l2)) (ah (ai hN h3 (.inl l3) (.inr l3)) aJ))))
theorem yQ{X:Cx}{e:Expr}{f:Str}{pos:Pos}{ta:TE}(K:C4)(hK:X.K=K)(he:PE X e ta)(hb:attributeBase e f X.env (eval e X.env)=eval e X.env):PE X (.Attribute e f pos) (Gh K ta f):=hK ▸ bN he hb
abbrev Nm(K:C4):R2:=rz_op_neD K
theorem yR{X:Cx}(K:C4)(hK:X.K=K)(hu:X.A.units+64 < cLine):OpR X (compareOp .NotEq) (Nm K):=hK ▸ lG hu
abbrev OT(K:C4):R2:=rz_op_inD K
def kpB(le:Int)(r:Rst):Bool:=decide (le<=if r.h < r.w then r.h else r.w)
def bn(le:Int)(rs:QA Rst):QA (Int×Int):=(rs.filter (kpB le)).map λ r=>(r.w,r.h)
def ck(nu:Int):QA (Int×Int)->QA (Int×Int×Int)
 | []=>[]
 | z :: r=>(nu,z.1,z.2) :: ck (nu+1) r
theorem jZ:∀(nu:Int)(l:QA (Int×Int))(z:Int×Int),ck nu (l ++ [z])=ck nu l ++ [(nu+l.length,z.1,z.2)]
 | nu,[],z=>by show[(nu,z.1,z.2)]=[(nu+((0:Nat):Int),z.1,z.2)];rw[show nu+((0:Nat):Int)=nu by lia]
 | nu,y :: l,z=>by rw[K6,ck,ck,jZ (nu+1) l z,K6,G8];rw[show nu+1+(l.length:Int)=nu+((l.length+1:Nat):Int)by lia]
theorem cC:∀(nu:Int)(l:QA (Int×Int)),(ck nu l).length=l.length
 | _,[]=>rfl
 | nu,_ :: l=>by rw[ck,G8,G8,cC (nu+1) l]
def tK(le:Int)(g:Stn)(q0:Int×Int×Int)(rs:QA Rst)(cs:QA Int):Stn:=%[(g.pl.filter λ q=>decide (q≠q0)) ++ ck g.nu (bn le rs),g.nu+(bn le rs).length,List.zipWith (· + ·) g.md cs|g.pu]
def WhA(H:Hp)(v:V)(z:Int×Int):Prop:=∃a,v=.ref a/\H a= ~~~[.int z.1,.int z.2]
theorem WhA.same{H H':Hp}(s:Same H H'){v:V}{z:Int×Int}(h:WhA H v z):WhA H' v z:=h.imp λ _ %[e|h]=>%[e|s _ _ h]
theorem PlA.same{H H':Hp}(s:Same H H'){v:V}{z:Int×Int×Int}(h:PlA H v z):PlA H' v z:=h.keep λ _ _ e=>s _ _ e
theorem Nn(a b c d e f:Int):PyData.eqv (.tuple [.int a,.int b,.int c]) (.tuple [.int d,.int e,.int f])=decide ((a,b,c)=(d,e,f)):=by by_cases h1:a=d <;> by_cases h2:b=e <;> by_cases h3:c=f <;> simp[PyData.eqv,PyData.eqvAll,h1,h2,h3]
inductive spCutS(CS C:P6)(vs:QA V)(H:Hp)(Q:VK)(E_:XK):Prop
|mk(pp s sh pa:P6)(b le:Int)(ks:QA Kd)(g:Stn)(gs:QA Stn)(v:V)(d:PyData)(t:Tr)(i:Nat)(q0:Int×Int×Int)(_:vs=[.ref s,.int q0.1,v])(_:StoreAt CS C H s sh b ks le g gs pa)(_:gs.length<=1000)(_:g.pl.length<=10000)(_:0<=q0.1)(_:g.pl[i]?=some q0)(_:(∀j q',j < i->g.pl[j]?=some q'->q'.1≠q0.1))(_:TrH C pp sh b q0.2.1 q0.2.2 ks v d t H)(_:ks.length<=8)(_:g.md.length=ks.length)(_:∀(rs:QA Rst)(l:P6)(H':Hp),rs.Perm (nD b t q0.2.1 q0.2.2)->(rs.map yF).Pairwise (λ x y=>aX y x=false)->StoreAt CS C H' s sh b ks le (tK le g q0 rs (bK (pcs b t q0.2.1 q0.2.2) ks.length)) (gs ++ [g]) pa->FrS s pa H H'->H l=none->H' l=↥((ck g.nu (bn le rs)).map λ z=>V.int z.1)->Q (.ref l) H')
theorem sccuts:FnScope ["self","number","tree","gone","rests","counts","plates","upcoming","made","cells_put","kept","came","others","all_made"] ["self","number","tree"] (defScope ce):=%[Y,Y,Y,∅,Y,∅|∅]
theorem yS{f C CS:P6}{fd:F6}(F:Fun K "cut" "Store.cut" ce f fd)(B:Blt mg)(TS:StoreTxt K CS)(MP:Mn P w K mg base CS "plate_of" ["self","number"] 2 (spPlOf CS C))(MR:Mn P w K mg base CS "replace_standing" ["self","standing"] 1 (spRepl CS C))(DR:Dn P w K mg base "rests_of" ["shop","wide","high","tree"] 8 (spRests C))(DC:Dn P w K mg base "counts_of" ["shop","wide","high","tree"] 9 (spCountsO C)):FnOk P w K mg base CX0 10 f fd ["self","number","tree"] (spCutS CS C):=by
 refine F.ok sccuts (λ vs H Q E h=>?_) (λ cdv A outer s0 H vs Q E hr h=>?_)
 ·obtain⟨pp,s,sh,pa,b,le,ks,g,gs,v,d,t,i,q0,rfl,_⟩:=h
  rfl
 obtain⟨pp,s,sh,pa,b,le,ks,g,gs,v,d,t,i,q0,rfl,x,g1,p1,n0,hi,first,th,k8,ml,q⟩:=h;have nd:=sccuts.nd;have hu:=hr.units;refine%[_,((@aw _ _ 3 _ _ _ _ nd Y (Or.inr Y) (fC (pv 0) TS.cl MP (hr.mono ∅) ((pv 1)^^^ab)) Y (Or.inl Y))<<<((4∣(DR∩((bN (pv 0) Y)^^^(((pv 3)&&&ix_tup&&&ae)^^^(((pv 3)&&&ix_tup&&&ae)^^^((pv 2)^^^ab))))))<<<((5∣(DC∪((bN (pv 0) Y)^^^(((pv 3)&&&ix_tup&&&ae)^^^(((pv 3)&&&ix_tup&&&ae)^^^((pv 2)^^^ab))))))<<<((@bq _ _ _ _ _ _ (bN (pv 0) Y) (aU Y (6•(ah (ai (i:=7) nd Y (Or.inr Y)) (8•(9•aJ))))) Y Y Y)<<<((dH (i:=10) (own:=["x","y","wide","high"]) (cs:=["self"]) (cap:=[0]) Y nd Y Y Y (cm (pv 4)) (aL (sc:=defScope ce) (N:=["self","number","tree","gone","rests","counts","plates","upcoming","made","cells_put","kept","came","others","all_made"]) Y Y ∅) (λ _ _ _ _ _=>yP K Y Y (by show List.Nodup (["x","y","wide","high","self"]:QA Str) ;decide +kernel) Y Y Y Y Y Y Y Y) (λ _ _ _ _ _=>(fB ((@aI _ _ _ _ _ _ _ _ _ (kF Y) Y B.min PyProof.Rows.boot_min ((pv 2)^^^((pv 3)^^^ab)) ∅ ∅ Y Y)<*>qx<*>(yQ K Y (pv 4) Y)))) (λ _ _ _ _ _=>(@aD _ _ _ _ _ ((pv 2)^^^((pv 3)^^^ab)))))<<<((dH (i:=11) (own:=["at","wide","high"]) (cs:=["upcoming"]) (cap:=[7]) Y nd Y Y Y (qJ Y B.enumerate ((pv 10)^^^ab)) (aL (sc:=defScope ce) (N:=["self","number","tree","gone","rests","counts","plates","upcoming","made","cells_put","kept","came","others","all_made"]) Y Y ∅) (λ _ _ _ _ _=>sM K Y Y (by show List.Nodup (["at","wide","high","upcoming"]:QA Str) ;decide +kernel) Y Y Y Y Y Y) (λ _ _ _ _ _=>bd) (λ _ _ _ _ _=>(@aD _ _ _ _ _ (((pv 3)|||aM|||(pv 0))^^^((pv 1)^^^((pv 2)^^^ab))))))<<<((dH (i:=12) (own:=["plate"]) (cs:=["gone"]) (cap:=[3]) Y nd Y Y Y (fj (pv 6)) (aL (sc:=defScope ce) (N:=["self","number","tree","gone","rests","counts","plates","upcoming","made","cells_put","kept","came","others","all_made"]) Y Y ∅) (λ _ _ _ _ _=>ai (i:=0) (by show List.Nodup (["plate","gone"]:QA Str) ;decide +kernel) Y (Or.inl Y) (Or.inr Y)) (λ _ _ _ _ _=>(fB ((pv 0)<*>(yR K Y hu)<*>(pv 1)))) (λ _ _ _ _ _=>(pv 0)))<<<((13∣(@bo _ _ _ _ _ _ _ _ _ bh Y B.tuple QK ((bO (own:=["before","more"]) (cs:=[]) (cap:=[]) Y (qO Y B.zip ((pv 8)^^^((pv 5)^^^ab))) (aL (sc:=defScope ce) (N:=["self","number","tree","gone","rests","counts","plates","upcoming","made","cells_put","kept","came","others","all_made"]) Y Y ∅) (λ _ _ _ _ _=>lJ K Y Y (by show List.Nodup (["before","more"]:QA Str) ;decide +kernel) Y Y Y Y) (λ _ _ _ _ _=>bd) (λ _ _ _ _ _=>((pv 0)|||aM|||(pv 1))))^^^ab) ∅ ∅ Y Y))<<<((@aO _ _ _ _ (fC (pv 0) TS.cl MR (hr.mono ∅) ((@aD _ _ _ _ _ ((@bo _ _ _ _ _ _ _ _ _ bh Y B.tuple QK (((pv 12)|||uS|||(pv 11))^^^ab) ∅ ∅ Y Y)^^^(((pv 7)|||aM|||(@aI _ _ _ _ _ _ _ _ _ aY Y B.len QQ ((pv 11)^^^ab) ∅ ∅ Y Y))^^^((pv 13)^^^((pv 9)^^^ab)))))^^^ab)) Y)<<<((bO (own:=["plate"]) (cs:=[]) (cap:=[]) Y (cm (pv 11)) (aL (sc:=defScope ce) (N:=["self","number","tree","gone","rests","counts","plates","upcoming","made","cells_put","kept","came","others","all_made"]) Y Y ∅) (λ _ _ _ _ _=>ai (i:=0) (by show List.Nodup (["plate"]:QA Str) ;decide +kernel) Y (Or.inl Y) (Or.inr Y)) (λ _ _ _ _ _=>bd) (λ _ _ _ _ _=>(av (r:=rIxT K) ix_tup (pv 0) ae (λ _ _=>Y))))⁻¹))))))))))|?_]
 dsimp only[bJ];have sz:(40000:Nat) < sizeLine:=∅
 obtain⟨dx,sg,ps,hs,sp,st,hp,pr⟩:=x.look;have nps:pa≠s:=λ z=>by rw[z,hs]at hp;cases hp
 refine ao (λ R=>∀go,H go= ~~~[.int q0.1,.int q0.2.1,.int q0.2.2]->R [↑s,⇑q0.1,some v,↑go,none,none,none,none,none,none,none,none,none,none] H) (λ Dd hR=>?_) ?_
 ·exact⟨_,Y,s,dx,_,Y,hs,cZ _ _ _ _ ∅ ∅ ∅ ∅,_,Y,s,sh,pa,b,le,ks,g,gs,i,q0,Y,x,n0,hi,first,λ a ha=>hR a ha⟩
 rintro go hgo;refine ao (λ R=>∀re as rs (H':Hp),H' re=↥(as.map V.ref)->Paired (RA H') as rs->rs.Perm (nD b t q0.2.1 q0.2.2)->(rs.map yF).Pairwise (λ x y=>aX y x=false)->Same H H'->R [↑s,⇑q0.1,some v,↑go,↑re,none,none,none,none,none,none,none,none,none] H') (λ Dd hR=>?_) ?_
 ·exact%[_,Y,s,CS,dx,_,_,Y,hs,TS.cl,TS.n1,ie _ _ _ _,_,Y,go,_,1,_,Y,Y,G0 (id hgo),Y,_,Y,go,_,2,_,Y,Y,G0 (id hgo),Y,_,Y,pp,sh,b,q0.2.1,q0.2.2,ks,v,d,t,Y,th|λ l as rs H1 hl kl pa' pe so s1=>hR l as rs _ kl pa' pe so s1]
 rintro re as rs H1 hre pra pe so s1;obtain⟨m1,m2⟩:=TrD.many (b:=b) t d 0 0 q0.2.1 q0.2.2 th.td;have ln:=th.ln;have rl63:rs.length<=63:=by rw[pe.length_eq];exact C5 (K5 _ _) ⋯
 refine ao (λ R=>∀co (H':Hp),H' co=↥((bK (pcs b t q0.2.1 q0.2.2) ks.length).map V.int)->Same H1 H'->R [↑s,⇑q0.1,some v,↑go,↑re,↑co,none,none,none,none,none,none,none,none] H') (λ Dd hR=>?_) ?_
 ·exact%[_,Y,s,CS,dx,_,_,Y,(s1 _ _ hs),TS.cl,TS.n1,ie _ _ _ _,_,Y,go,_,1,_,Y,Y,G0 (s1 _ _ hgo),Y,_,Y,go,_,2,_,Y,Y,G0 (s1 _ _ hgo),Y,_,Y,pp,sh,b,q0.2.1,q0.2.2,ks,v,d,t,Y,th.same s1,k8|λ l H2 hl kl s2=>hR l _ kl s2]
 rintro co H2 hco s2;generalize hcn:bK (pcs b t q0.2.1 q0.2.2) ks.length=cn at *;have cl0:cn.length=ks.length:=by rw[<- hcn,cW]
 have s02:=s1.trans s2;cases st with
 | @mk a b' c rp _ ha hb pr' hc=>
  have rpl:=E1 pr';refine ao (λ R=>R [↑s,⇑q0.1,some v,↑go,↑re,↑co,↑b',⇑g.nu,↑c,⇑g.pu,none,none,none,none] H2) (λ Dd hR=>?_) ?_
  ·exact%[_,Y,s,CS,dx,_,_,Y,s02 _ _ hs,TS.cl,TS.n3,bP _ _ _ _,a,_,Y,G0 (s02 _ _ ha),Y,_,_,Y,_,_,Y,_,_,Y,_,_,Y,Y|hR]
  skip
  refine ao (λ R=>∀ke zs (H':Hp),H' ke=↥zs->Paired (WhA H') zs (bn le rs)->Same H2 H'->R [↑s,⇑q0.1,some v,↑go,↑re,↑co,↑b',⇑g.nu,↑c,⇑g.pu,↑ke,none,none,none] H') (λ Dd hR=>?_) ?_
  ·have hre2:=s2 _ _ hre;have al:(as.map V.ref).length=rs.length:=by rw[G4];exact E1 pra
   refine%[_,Y,re,Y,%[_|G1 hre2]|(bE (K:=K) (.inl hre2) (λ i ys Hx=>Same H2 Hx/\Paired (WhA Hx) ys (bn le (rs.take i))) (λ i ys Hx _ ⟨sx,_⟩ o e=>sx _ _ e) %[Same.refl _|.nil] ?_ ?_).1 hre2]
   ·rintro j y ys Hx hj ⟨sx,py⟩;have hjn:j < (as.map V.ref).length:=(A6.mp hj).1;rw[J2]at hj;obtain⟨aj,haj,rfl⟩:=M2.mp hj;obtain⟨r,hr',har⟩:=G3 pra haj;have har:H1 aj= ~~~[.int r.x,.int r.y,.int r.w,.int r.h]:=har;have yl:=E1 py;have kl:(bn le (rs.take j)).length<=63:=by unfold bn;rw[G4];exact C5 (K0 _ _) (by rw[J3];lia)
    have tk:bn le (rs.take (j+1))=bn le (rs.take j) ++ (if kpB le r=true then[(r.w,r.h)]else[]):=by
     rw[J5,hr'];unfold bn;rw[O5,I9];congr 1;simp only[M1,M9,P0]
     split <;> rfl
    refine%[⋯,aj,_,Y,G0 (sx _ _ (s2 _ _ har)),Y,_,_,Y,_,_,Y,_,_,Y,_,_,Y,Y,fb (leS.set rfl) (fb (leS.set rfl) (fb (leS.set rfl) (leS.set rfl)))|?_];refine%[_,Y,_,Y,_,_,Y,_,Y,s,CS,dx,_,_,Y,sx _ _ (s02 _ _ hs),TS.cl,TS.n2,tI _ _ _ _,_,_,Y,Y,_,Y|?_];show(if kpB le r=true then _ else _);rw[<- al]at *;cases kb:kpB le r with
    | true=>
     refine aW %[_,rfl,_,rfl,zS2|λ tq htq=>Nx.of hjn %[sx.trans (F9 htq)|?_]];rw[tk,kb];exact Paired.snoc (G2 py λ v z h=>h.same (F9 htq)) %[tq,rfl|af]
    | false=>
     refine aP (Nx.of hjn %[sx|?_]);rw[tk,kb,QH ∅,J7];exact py
   ·rintro ys Hx ⟨sx,py⟩;rw[al,K2]at py;have yl:=E1 py;have kl:(bn le rs).length<=63:=by unfold bn;rw[G4];exact C5 (K0 _ _) rl63
    refine%[⋯|λ ke hke=>hR ke ys _ af (G2 py λ v z h=>h.same (F9 hke)) (sx.trans (F9 hke))]
  rintro ke zs H3 hke pk s3;have zl:=E1 pk;have kl63:(bn le rs).length<=63:=by unfold bn;rw[G4];exact C5 (K0 _ _) rl63
  have s03:=s02.trans s3;refine ao (λ R=>∀ca cs (H':Hp),H ca=none->H' ca=↥cs->Paired (PlA H') cs (ck g.nu (bn le rs))->Same H3 H'->R [↑s,⇑q0.1,some v,↑go,↑re,↑co,↑b',⇑g.nu,↑c,⇑g.pu,↑ke,↑ca,none,none] H') (λ Dd hR=>?_) ?_
  ·refine%[_,Y,ke,zs,Y|.inl %[hke|sK (f:=HO.lst) (xs:=zs) (λ _ _ e=>HO.lst.inj e) (λ n ws Hx=>Same H3 Hx/\Paired (PlA Hx) ws (ck g.nu ((bn le rs).take n))) (λ n ws Hx e=>e.1 _ _ hke) %[Same.refl _|.nil] (λ n ws Hx hn e=>by have:=E1 e.2;rw[cC,J3]at this;lia) ?_ ?_]]
   ·rintro n y tz ws Hx hy htz ⟨sx,pw⟩;have hn:n < zs.length:=(A6.mp hy).1;obtain⟨z,hz,az,rfl,haz⟩:=G3 pk hy;obtain⟨H5,e5,k5,s5⟩:∃H',upd Hx tz (.tup [.int (n:Int),.ref az])=H'/\H' tz= ~~~[.int (n:Int),.ref az]/\Same Hx H':=%[_,Y,af|F9 htz]
    rw[show upd Hx tz _=H5 from e5];clear e5;refine%[tz,_,Y,G0 k5,Y,_,_,Y,_,_,Y,az,_,Y,G0 (s5 _ _ (sx _ _ haz)),Y,_,_,Y,_,_,Y,Y,Y,fb (leS.set rfl) (fb (leS.set rfl) (leS.set rfl))|bg ?_];refine%[_,Y,_,Y,_,_,Y,Y,_,Y,_,Y,zS3|λ tq htq=>Nx.of hn %[sx.trans (s5.trans (F9 htq))|?_]];have tk:(bn le rs).take (n+1)=(bn le rs).take n ++ [z]:=by rw[J5,hz];rfl
    have ln':((bn le rs).take n).length=n:=by rw[J3];lia
    rw[tk,jZ,ln'];exact Paired.snoc (G2 pw λ v z h=>h.same (s5.trans (F9 htq))) %[tq,rfl|af]
   ·rintro ws Hx ⟨sx,pw⟩;rw[zl,K2]at pw;have wl:=E1 pw;rw[cC]at wl;refine%[⋯|λ ca hca=>hR ca ws _ ((s03.trans sx).free hca) af (G2 pw λ v z h=>h.same (F9 hca)) (sx.trans (F9 hca))]
  rintro ca cs H4 fca hca pc s4;have cl:=E1 pc;rw[cC]at cl;have s04:=s03.trans s4;refine ao (λ R=>∀ot os (H':Hp),H' ot=↥os->Paired (PlA H') os (g.pl.filter λ q=>decide (q≠q0))->Same H4 H'->R [↑s,⇑q0.1,some v,↑go,↑re,↑co,↑b',⇑g.nu,↑c,⇑g.pu,↑ke,↑ca,↑ot,none] H') (λ Dd hR=>?_) ?_
  ·have hb4:=s04 _ _ hb;refine%[_,Y,b',Y,%[_|G0 hb4]|(bE (K:=K) (.inr hb4) (λ i ys Hx=>Same H4 Hx/\Paired (PlA Hx) ys ((g.pl.take i).filter λ q=>decide (q≠q0))) (λ i ys Hx _ ⟨sx,_⟩ o e=>sx _ _ e) %[Same.refl _|.nil] ?_ ?_).2 hb4]
   ·rintro j y ys Hx hj ⟨sx,py⟩;have hjn:j < rp.length:=(A6.mp hj).1;obtain⟨q',hq',a',rfl,ha'⟩:=G3 pr' hj;have yl:=E1 py;have fl:=K0 (λ q=>decide (q≠q0)) (g.pl.take j);rw[J3]at fl;have tk:(g.pl.take (j+1)).filter (λ q=>decide (q≠q0))=(g.pl.take j).filter (λ q=>decide (q≠q0)) ++ (if decide (q'≠q0)=true then[q']else[]):=by rw[J5,hq',O5];congr 1;simp only[M1,M9,P0]
    refine%[⋯,leS.set rfl|?_];refine%[_,Y,_,Y,.tuple [.int q'.1,.int q'.2.1,.int q'.2.2],.tuple [.int q0.1,.int q0.2.1,.int q0.2.2],.tup (G0 (sx _ _ (s04 _ _ ha'))) (.cons (.int _) (.cons (.int _) (.cons (.int _) .nil))),.tup (G0 (sx _ _ (s04 _ _ hgo))) (.cons (.int _) (.cons (.int _) (.cons (.int _) .nil))),Y,Y,_,Y|?_];rw[Nn]
    by_cases e:q'=q0
    ·rw[show(!decide ((q'.1,q'.2.1,q'.2.2)=(q0.1,q0.2.1,q0.2.2)))=false by rw[e,QG rfl];rfl];refine aP (Nx.of hjn %[sx|?_]);rw[tk,QH (by simp[e]),J7];exact py
    ·rw[show(!decide ((q'.1,q'.2.1,q'.2.2)=(q0.1,q0.2.1,q0.2.2)))=true by rw[QJ (λ z=>e z)];rfl];refine aW %[_,rfl|Nx.of hjn %[sx|?_]];rw[tk,QI (by simp[e])];exact Paired.snoc py %[a',rfl|sx _ _ (s04 _ _ ha')]
   ·rintro ys Hx ⟨sx,py⟩;rw[rpl,K2]at py;have yl:=E1 py;have fl:=K0 (λ q=>decide (q≠q0)) g.pl;refine%[⋯|λ ot hot=>hR ot ys _ af (G2 py λ v z h=>h.same (F9 hot)) (sx.trans (F9 hot))]
  rintro ot os H5 hot po s5;have ol:=E1 po;have fl:=K0 (λ q=>decide (q≠q0)) g.pl;have s05:=s04.trans s5;refine ao (λ R=>∀am (H':Hp),H' am= ~~~((List.zipWith (· + ·) g.md cn).map V.int)->Same H5 H'->R [↑s,⇑q0.1,some v,↑go,↑re,↑co,↑b',⇑g.nu,↑c,⇑g.pu,↑ke,↑ca,↑ot,↑am] H') (λ Dd hR=>?_) ?_
  ·have hc5:=s05 _ _ hc;have hco5:=(s3.trans (s4.trans s5)) _ _ hco;refine%[_,Y,_,Y,c,co,_,_,Y,hc5,hco5|kQ (xs:=g.md.map V.int) (ys:=cn.map V.int) (λ i zs H4=>Same H5 H4/\zs=((List.zipWith (· + ·) g.md cn).take i).map V.int) (by rw[G4,G4,cl0,ml]) (λ i zs H4 ⟨s4,_⟩=>%[s4 _ _ hc5|s4 _ _ hco5]) %[Same.refl _|Y] (λ i zs H4 hi ⟨_,e⟩=>by rw[e,G4,J3];rw[G4]at hi;lia) ?_ ?_]
   ·rintro n x' y' tz zs' Hx hx hy htz ⟨sx,rfl⟩;rw[J2]at hx hy;obtain⟨m',hm,rfl⟩:=M2.mp hx;obtain⟨c',hc',rfl⟩:=M2.mp hy;obtain⟨H6,e6,k6,s6⟩:∃H',upd Hx tz (.tup [.int m',.int c'])=H'/\H' tz= ~~~[.int m',.int c']/\Same Hx H':=%[_,Y,af|F9 htz]
    rw[show upd Hx tz _=H6 from e6];clear e6;refine%[tz,_,Y,G0 k6,Y,_,_,Y,_,_,Y,Y,fb (leS.set rfl) (leS.set rfl)|bg ?_];refine%[_,Y,_,Y,_,_,Y,Y|Nx.of (by rw[G4];exact(A6.mp hm).1) %[sx.trans s6|?_]];have hzz:(List.zipWith (· + ·) g.md cn)[n]?=some (m'+c'):=by rw[List.getElem?_zipWith,hm,hc']
    rw[J5,hzz];simp only[M1,I9,J0,O4]
   ·rintro zs' Hx ⟨sx,rfl⟩;have wl:(List.zipWith (· + ·) g.md cn).length=ks.length:=by rw[List.length_zipWith,cl0,ml];lia
    refine%[by rw[G4,J3];lia|λ lc hlc=>?_];rw[G4,K1 ⋯];obtain⟨H6,e6,k6,s6⟩:∃H',upd Hx lc (.lst ((List.zipWith (· + ·) g.md cn).map V.int))=H'/\H' lc=↥((List.zipWith (· + ·) g.md cn).map V.int)/\Same Hx H':=%[_,Y,af|F9 hlc]
    rw[show upd Hx lc _=H6 from e6];clear e6;exact%[lc,_,Y|.inl %[G1 k6|λ am ham=>hR am _ af ((sx.trans s6).trans (F9 ham))]]
  rintro am H6 ham s6;have s06:=s05.trans s6;refine ao (λ R=>∀(H':Hp),StoreAt CS C H' s sh b ks le (tK le g q0 rs cn) (gs ++ [g]) pa->H' ca=↥cs->Paired (PlA H') cs (ck g.nu (bn le rs))->FrS s pa H H'->R [↑s,⇑q0.1,some v,↑go,↑re,↑co,↑b',⇑g.nu,↑c,⇑g.pu,↑ke,↑ca,↑ot,↑am] H') (λ Dd hR=>?_) ?_
  ·refine%[_,Y,s,dx,_,Y,s06 _ _ hs,cZ _ _ _ _ ∅ ∅ ∅ ∅|?_];have hca6:=(s5.trans s6) _ _ hca;refine%[_,Y,_,Y,ot,ca,os,cs,Y,Y,s6 _ _ hot,hca6,⋯|λ l1 hl1=>?_];obtain⟨H7,e7,k7,s7⟩:∃H',upd H6 l1 (.lst (os ++ cs))=H'/\H' l1=↥(os ++ cs)/\Same H6 H':=%[_,Y,af|F9 hl1]
   rw[show upd H6 l1 _=H7 from e7];clear e7;refine%[l1,_,Y|.inl %[G1 k7|λ t1 ht1=>?_]];obtain⟨H8,e8,k8,s8⟩:∃H',upd H7 t1 (.tup (os ++ cs))=H'/\H' t1= ~~~(os ++ cs)/\Same H7 H':=%[_,Y,af|F9 ht1]
   rw[show upd H7 t1 _=H8 from e8];clear e8;have s68:=s7.trans s8;refine%[_,Y,_,Y,ca,cs,Y,.inl (G1 (s68 _ _ hca6)),_,_,Y,Y,_,Y,_,Y,zS4|λ t2 ht2=>?_];obtain⟨H9,e9,k9,s9⟩:∃H',upd H8 t2 (.tup [.ref t1,.int (g.nu+(cs.length:Int)),.ref am,.int g.pu])=H'/\H' t2= ~~~[.ref t1,.int (g.nu+(cs.length:Int)),.ref am,.int g.pu]/\Same H8 H':=%[_,Y,af|F9 ht2]
   rw[show upd H8 t2 _=H9 from e9];clear e9;have s69:=s68.trans s9;have s09:=s06.trans s69;have pc9:Paired (PlA H9) cs (ck g.nu (bn le rs)):=G2 pc λ v z h=>h.same ((s5.trans s6).trans s69);have po9:Paired (PlA H9) os (g.pl.filter λ q=>decide (q≠q0)):=G2 po λ v z h=>h.same (s6.trans s69);refine%[s,sh,pa,b,le,ks,g,tK le g q0 rs cn,gs,_,Y,x.same s09,g1,?_|λ H10 x10 f10=>?_]
   ·refine .mk (b:=t1) (c:=am) ?_ (s9 _ _ k8) (eZ po9 pc9) (s69 _ _ ham);rw[k9,cl];rfl
   ·have nca:ca≠s:=λ z=>by rw[z,hs]at fca;cases fca
    have nca2:ca≠pa:=λ z=>by rw[z,hp]at fca;cases fca
    exact hR _ x10 (f10 _ _ nca nca2 (s69 _ _ hca6)) (G2 pc9 λ v z h=>h.keep (FrS.tup (x.same s09) f10)) ((Same.frS s09).trans f10)
  rintro H7 x7 hca7 pc7 f7;refine%[_,Y,ca,Y,%[_|G1 hca7]|(bE (K:=K) (.inl hca7) (λ i ys Hx=>Same H7 Hx/\ys=((ck g.nu (bn le rs)).take i).map λ z=>V.int z.1) (λ i ys Hx _ ⟨sx,_⟩ o e=>sx _ _ e) %[Same.refl _|Y] ?_ ?_).1 hca7]
  ·rintro j y ys Hx hj ⟨sx,rfl⟩;have hjn:j < cs.length:=(A6.mp hj).1;obtain⟨z,hz,az,rfl,haz⟩:=G3 pc7 hj;refine%[by rw[G4,J3,cC];lia,leS.set rfl|bg ?_];refine%[_,Y,az,_,0,_,Y,Y,G0 (sx _ _ haz),Y|Nx.of hjn %[sx|?_]];rw[J5,hz];simp only[M1,I9,J0,O4]
  ·rintro ys Hx ⟨sx,rfl⟩;rw[K1 (by rw[cC];lia)];refine%[by rw[G4,cC];lia|λ l hl=>?_];have fl':H l=none:=by
    cases e:H l with
    | none=>rfl
    | some o=>
     exfalso;have h7:H7 l=none:=sx.free hl
     by_cases e1:l=s
     ·obtain⟨_,_,_,hs7,_⟩:=x7.look;rw[e1,hs7]at h7;cases h7
     ·by_cases e2:l=pa
      ·obtain⟨_,_,_,_,_,_,hp7,_⟩:=x7.look;rw[e2,hp7]at h7;cases h7
      ·rw[f7 _ _ e1 e2 e]at h7;cases h7
   exact q rs l _ pe so (x7.same (sx.trans (F9 hl))) (f7.trans (Same.frS (sx.trans (F9 hl)))) fl' af
inductive spCS(vs:QA V)(H:Hp)(Q:VK)(E_:XK):Prop
|mk(w h m:Int)(_:vs=[.int w,.int h,.int m])(_:w<=m)(_:h<=m)(_:Q .non H)
theorem sccsides:FnScope ["wide","high","most"] ["wide","high","most"] (defScope dM):=%[Y,Y,Y,∅,Y,∅|∅]
theorem tL{f:P6}{fd:F6}(F:Fun K "check_sides" "check_sides" dM f fd) : FnOk P w K mg base CX0 1 f fd ["wide","high","most"] (spCS):=by
 exists sccsides
 ·obtain⟨w1,h1,m,rfl,_⟩:=h
  rfl
 obtain⟨w1,h1,m,rfl,hw,hh,q⟩:=h;have nd:=sccsides.nd;refine%[_,(@ag _ _ _ ((PW.pt (bS ((pv 0)<*>uD<*>(pv 2)) (bR ((pv 1)<*>uD<*>(pv 2)))))<|>(@ag _ _ _ cF)<|>aF))|?_];refine%[_,Y,_,Y,_,_,Y,Y,_,Y|?_];rw[QJ (show¬ m < w1 by lia)];refine aP %[_,rfl,_,rfl,_,_,rfl,rfl,_,rfl|?_];rw[QJ (show¬ m < h1 by lia)];exact aP q
def oR(i:Nat):Str:=%[|#[(Str.ofString "abcdefgh").cps.toList.getD i (Str.ofString "a").cps.toList.head!]]
abbrev inB(x y w h c r:Int):Prop:=x<=c/\c < x+w/\y<=r/\r < y+h
abbrev Fn:=Nat->Nat->Str
def dQ(f:Fn)(x y w h:Int)(z:Str):Fn:=λ u r=>if inB x y w h r u then z else f u r
def oS(f:Fn)(U R:Nat)(z:Str):Fn:=λ u r=>if u=U/\r=R then z else f u r
def pF(f:Fn)(x y a:Int)(i j:Nat)(z:Str):Fn:=λ u r=>if (y<=(u:Int)/\(u:Int) < y+i/\x<=(r:Int)/\(r:Int) < x+a)\/((u:Int)=y+i/\x<=(r:Int)/\(r:Int) < x+j)then z else f u r
theorem No(f:Fn)(x y a:Int)(z:Str):pF f x y a 0 0 z=f:=by
 funext u r
 unfold pF;rw[QH ⋯]
theorem AM(f:Fn)(x y a:Int)(i:Nat)(z:Str)(a0:0<=a):pF f x y a i a.toNat z=pF f x y a (i+1) 0 z:=by
 funext u r
 unfold pF;rw[show((a.toNat:Nat):Int)=a from Int.toNat_of_nonneg a0];have nz:∀{A:Prop},¬ (A/\x<=(r:Int)/\(r:Int) < x+((0:Nat):Int)):=λ {A} h=>by have:=h.2;lia
 by_cases hr:x<=(r:Int)/\(r:Int) < x+a
 ·by_cases h1:y<=(u:Int)/\(u:Int) < y+((i+1:Nat):Int)
  ·rw[QI (c:=_\/(_/\x<=(r:Int)/\(r:Int) < x+((0:Nat):Int))) (.inl %[h1.1,h1.2|hr])]
   by_cases hu:(u:Int)=y+i
   ·rw[QI (.inr %[hu|hr])]
   ·rw[QI (.inl %[h1.1,by have:=h1.2;lia|hr])]
  ·rw[QH (c:=_\/(_/\x<=(r:Int)/\(r:Int) < x+((0:Nat):Int))) (λ h=>h.elim (λ h=>h1 %[h.1|h.2.1]) nz),QH (λ h=>h1 (h.elim (λ h=>%[h.1|by have:=h.2.1;lia]) λ h=>%[⋯|by have:=h.1;lia]))]
 ·rw[QH (λ h=>hr (h.elim (λ h=>h.2.2) λ h=>h.2)),QH (λ h=>h.elim (λ h=>hr h.2.2) nz)]
theorem AN(f:Fn)(x y a b:Int)(z:Str)(b0:0<=b):pF f x y a b.toNat 0 z=dQ f x y a b z:=by
 funext u r
 unfold pF dQ inB;have e:(((b.toNat:Nat):Int))=b:=Int.toNat_of_nonneg b0;rw[e]
 by_cases h:x<=(r:Int)/\(r:Int) < x+a/\y<=(u:Int)/\(u:Int) < y+b
 ·rw[QI h,QI ⋯]
 ·rw[QH h,QH ⋯]
theorem yT(f:Fn)(x y a:Int)(i j:Nat)(z:Str)(x0:0<=x)(y0:0<=y):oS (pF f x y a i j z) (y+i).toNat (x+j).toNat z=pF f x y a i (j+1) z:=by
 funext u r
 unfold oS pF
 by_cases hu:(u:Int)=y+i
 ·have n1:∀{A:Prop},¬ (y<=(u:Int)/\(u:Int) < y+i/\A):=λ {A} h=>by have:=h.2.1;lia
  have eu:u=(y+i).toNat:=⋯
  by_cases hr:r=(x+j).toNat
  ·rw[QI %[eu|hr],QI (.inr %[hu,⋯|⋯])]
  ·rw[QH λ h=>hr h.2]
   by_cases h2:x<=(r:Int)/\(r:Int) < x+j
   ·rw[QI (.inr %[hu|h2]),QI (.inr %[hu,h2.1|by have:=h2.2;lia])]
   ·rw[QH (λ h=>h.elim n1 λ h=>h2 h.2),QH (λ h=>h.elim n1 λ h=>h2 %[h.2.1|by have:=h.2.2;lia])]
 ·rw[QH (λ h=>hu (by have:=h.1;lia))]
  by_cases h1:y<=(u:Int)/\(u:Int) < y+i/\x<=(r:Int)/\(r:Int) < x+a
  ·rw[QI (.inl h1),QI (.inl h1)]
  ·rw[QH (λ h=>h.elim h1 λ h=>hu h.1),QH (λ h=>h.elim h1 λ h=>hu h.1)]
def gq(f:Fn)(W u:Nat):QA V:=(List.range W).map λ r=>V.str (f u r)
theorem wK(f:Fn)(W U R:Nat)(z:Str)(h:R < W):(gq f W U).set R (.str z)=gq (oS f U R z) W U:=by
 unfold gq oS;apply List.ext_getElem?;intro j;rw[List.getElem?_set,J2,J2,G4,M6]
 by_cases e:R=j
 ·subst e;rw[QI rfl,QI h,List.getElem?_range h];show some (V.str z)=some (V.str (if U=U/\R=R then z else f U R));rw[QI %[rfl|rfl]]
 ·rw[QH e];cases he:(List.range W)[j]? with
  | none=>rfl
  | some k=>
   have hk:k=j:=by have:=A6.mp he;obtain⟨h1,h2⟩:=this;rw[List.getElem_range]at h2;exact h2.symm
   show some (V.str (f U k))=some (V.str (if U=U/\k=R then z else f U k));rw[QH ⋯]
theorem oT(f:Fn)(W U R u:Nat)(z:Str)(h:u≠U):gq (oS f U R z) W u=gq f W u:=by unfold gq oS;apply N2;intro r _;rw[QH (λ q=>h q.1)]
structure Grid(H:Hp)(rl:P6)(ras:QA P6)(W h:Nat)(f:Fn):Prop where
 l:H rl=↥(ras.map V.ref)
 n:ras.length=h
 nd:ras.Nodup
 nr:rl∉ras
 r:∀(u:Nat)(a:P6),ras[u]?=some a->H a=↥(gq f W u)
theorem Grid.nin{H:Hp}{rl:P6}{ras:QA P6}{W h:Nat}{f:Fn}(g:Grid H rl ras W h f){a:P6}{xs:QA V}(e:H a= ~~~xs):a∉ras:=λ z=>by obtain⟨i,hi,rfl⟩:=O2 z;rw[g.r i _ (E9 hi)]at e;cases e
def ButR(ras:QA P6)(H H':Hp):Prop:=∀c o,c∉ras->H c=some o->H' c=some o
theorem ButR.trans{ras:QA P6}{H H' H'':Hp}(a:ButR ras H H')(b:ButR ras H' H''):ButR ras H H'':=λ c o n e=>b c o n (a c o n e)
theorem ButR.same{ras:QA P6}{H H' H0:Hp}(s:Same H0 H)(b:ButR ras H H')(f:∀a∈ras,H0 a=none):Same H0 H':=λ c o e=>b c o (λ z=>by rw[f c z]at e;cases e) (s _ _ e)
theorem Grid.same{H H':Hp}{rl:P6}{ras:QA P6}{W h:Nat}{f:Fn}(g:Grid H rl ras W h f)(s:Same H H'):Grid H' rl ras W h f:=%[s _ _ g.l,g.n,g.nd,g.nr|λ u a e=>s _ _ (g.r u a e)]
theorem Grid.set{H:Hp}{rl:P6}{ras:QA P6}{W h:Nat}{f:Fn}(g:Grid H rl ras W h f){U R:Nat}{ra:P6}{z:Str}(hU:ras[U]?=some ra)(hR:R < W) :
  Grid (upd H ra (.lst ((gq f W U).set R (.str z)))) rl ras W h (oS f U R z)/\ButR ras H (upd H ra (.lst ((gq f W U).set R (.str z)))):=by
 have hm:=B5 hU;have ne1:rl≠ra:=λ q=>g.nr (by rw[q];exact hm);refine⟨%[by rw[ap ne1];exact g.l,g.n,g.nd,g.nr|λ u a e=>?_],λ c o n e=>by
  have ne2:c≠ra:=λ q=>n (by rw[q];exact hm);rw[ap ne2];exact e⟩
 by_cases hu:u=U
 ·subst hu;rw[hU]at e;cases e;rw[af,wK f W u R z hR]
 ·have na:a≠ra:=λ q=>by
   subst q;obtain⟨h1,e1⟩:=A6.mp e;obtain⟨h2,e2⟩:=A6.mp hU;have pw:=List.pairwise_iff_getElem.mp g.nd;rcases Nat.lt_or_gt_of_ne hu with z | z
   ·exact pw u U h1 h2 z (e1.trans e2.symm)
   ·exact pw U u h2 h1 z (e2.trans e1.symm)
  rw[ap na,oT f W U R u z hu];exact g.r u a e
def bQ(b:Int)(ks:QA Kd):Tr->Int->Int->Int->Int->Int->Int->Str
 | .rest,_,_,_,_,_,_=>"."
 | .piece i c u v,x,y,w,h,cc,rr=>(match ks[i]? with
  | some k=>if inB (x+u) (y+v) (sd1 k c) (sd2 k c) cc rr then oR i else ","
  | none=>"+")
 | .cut true p l r,x,y,w,h,cc,rr=>if cc < x+p then bQ b ks l x y p h cc rr else if x+(p+b)<=cc then bQ b ks r (x+(p+b)) y (w - (p+b)) h cc rr else "+"
 | .cut false p l r,x,y,w,h,cc,rr=>if rr < y+p then bQ b ks l x y w p cc rr else if y+(p+b)<=rr then bQ b ks r x (y+(p+b)) w (h - (p+b)) cc rr else "+"
def cX(ks:QA Kd)(f:Fn)(l:Lf):Fn:=match l.t with
 | .rest=>dQ f l.x l.y l.w l.h "."
 | .piece i c u v=>(match ks[i]? with
  | some k=>dQ (dQ f l.x l.y l.w l.h ",") (l.x+u) (l.y+v) (sd1 k c) (sd2 k c) (oR i)
  | none=>f)
 | _=>f
theorem yU:∀i:Nat,i < 8->oR i≠("+" : Str):=∅
theorem yV(i:Nat)(hi:i < 8):atI (Str.ofString "abcdefgh").cps.toList (i:Int)=some ((Str.ofString "abcdefgh").cps.toList.getD i (Str.ofString "a").cps.toList.head!):=by
 have hl:(Str.ofString "abcdefgh").cps.toList.length=8:=∅
 refine aH ⋯ ?_;rw[J4,N5,E9 ⋯]
 rfl
theorem GL{P P1 P2 c1 c2:Prop}[Decidable P][Decidable P1][Decidable P2][Decidable c1][Decidable c2]{A B F z:Str}(h1:P1↔P/\c1)(h2:P2↔P/\c2)(hx:¬ (c1/\c2)) :
  (if P1/\A≠z then A else if P2/\B≠z then B else F)=if P/\(if c1 then A else if c2 then B else z)≠z then(if c1 then A else if c2 then B else z)else F:=by
 by_cases hP:P <;> by_cases a1:c1 <;> by_cases a2:c2 <;> simp_all
theorem fK{b:Int}{ks:QA Kd}(b0:0<=b)(k8:ks.length<=8):∀(t:Tr)(x y w h:Int),1<=w->1<=h->okT b ks w h t->∀(f:Fn)(u r:Nat),
  ((lvs b t x y w h).foldl (cX ks) f) u r=if inB x y w h r u/\bQ b ks t x y w h r u ≠ "+" then bQ b ks t x y w h r u else f u r
 | .rest,x,y,w,h,w0,h0,_,f,u,r=>by
  show dQ f x y w h "." u r=_;unfold dQ bQ
  by_cases c:inB x y w h r u
  ·rw[QI c,QI %[c|∅]]
  ·rw[QH c,QH (λ q=>c q.1)]
 | .piece i c a e,x,y,w,h,w0,h0,⟨k,hk,hc,u0,v0,hx,hy⟩,f,u,r=>by
  have hi:i < 8:=C1 (A6.mp hk).1 k8;have e1:cX ks f %[x,y,w,h|.piece i c a e]=dQ (dQ f x y w h ",") (x+a) (y+e) (sd1 k c) (sd2 k c) (oR i):=by unfold cX;dsimp only;rw[hk]
  have e2:bQ b ks (.piece i c a e) x y w h r u=if inB (x+a) (y+e) (sd1 k c) (sd2 k c) r u then oR i else "," := by unfold bQ;rw[hk]
  show cX ks f %[x,y,w,h|.piece i c a e] u r=_;rw[e1,e2];unfold dQ
  by_cases c1:inB (x+a) (y+e) (sd1 k c) (sd2 k c) r u
  ·have c2:inB x y w h r u:=by unfold inB at c1 ⊢;lia
   rw[QI c1,QI c1,QI %[c2|yU i hi]]
  ·rw[QH c1,QH c1]
   by_cases c2:inB x y w h r u
   ·rw[QI c2,QI %[c2|∅]]
   ·rw[QH c2,QH (λ q=>c2 q.1)]
 | .cut true p l r',x,y,w,h,w0,h0,⟨p1,hp,hl,hr⟩,f,u,r=>by have hp:p+b < w:=hp;have i1:=fK b0 k8 r' (x+(p+b)) y (w - p - b) h ⋯ h0 hr f u r;have i2:=fK b0 k8 l x y p h p1 h0 hl ((lvs b r' (x+(p+b)) y (w - p - b) h).foldl (cX ks) f) u r;rw[lvs,List.foldl_append,i2,i1,bQ,show w - (p+b)=w - p - b by lia];exact GL (by constructor <;> intro q <;> lia) (by constructor <;> intro q <;> lia) ⋯
 | .cut false p l r',x,y,w,h,w0,h0,⟨p1,hp,hl,hr⟩,f,u,r=>by have hp:p+b < h:=hp;have i1:=fK b0 k8 r' x (y+(p+b)) w (h - p - b) w0 ⋯ hr f u r;have i2:=fK b0 k8 l x y w p w0 p1 hl ((lvs b r' x (y+(p+b)) w (h - p - b)).foldl (cX ks) f) u r;rw[lvs,List.foldl_append,i2,i1,bQ,show h - (p+b)=h - p - b by lia];exact GL (by constructor <;> intro q <;> lia) (by constructor <;> intro q <;> lia) ⋯
def fL(b:Int)(ks:QA Kd)(t:Tr)(w h:Nat):QA Str:=(List.range h).map λ k=>Txt.join "" ((List.range w).map λ (c:Nat)=>bQ b ks t 0 0 w h (c:Int) ((h - 1 - k:Nat):Int))
theorem wL{b:Int}{ks:QA Kd}(b0:0<=b)(k8:ks.length<=8){t:Tr}{w h:Nat}(w0:1<=w)(h0:1<=h)(ok:okT b ks w h t){u r:Nat}(hu:u < h)(hr:r < w) :
  ((lvs b t 0 0 w h).foldl (cX ks) λ _ _=>"+") u r=bQ b ks t 0 0 w h r u:=by
 rw[fK b0 k8 t 0 0 w h ⋯ ⋯ ok];have c:inB 0 0 w h r u:=by unfold inB;lia
 by_cases z:bQ b ks t 0 0 w h r u ≠ "+"
 ·rw[QI %[c|z]]
 ·rw[QH (λ q=>z q.2)];exact(Classical.not_not.mp z).symm
structure PiC(mg:Str->P8 Value):Prop where
 lt:∃t,mg "LETTERS" = some (.str "abcdefgh" t)
 rs:∃t,mg "REST_SIGN" = some (.str "." t)
 ms:∃t,mg "MARGIN_SIGN" = some (.str "," t)
 bs:∃t,mg "BLADE_SIGN" = some (.str "+" t)
 mo:∃t,mg "MOST_SIDE" = some (.int 60 t)
 rv:mg "reversed" = none
inductive spFill(vs:QA V)(H:Hp)(Q:VK)(E_:XK):Prop
|mk(rl ct sd:P6)(ras:QA P6)(W h:Nat)(f:Fn)(x y a b:Int)(z:Str)(_:vs=[.ref rl,.ref ct,.ref sd,.str z])(_:Grid H rl ras W h f)(_:H ct= ~~~[.int x,.int y])(_:H sd= ~~~[.int a,.int b])(_:0<=x)(_:0<=y)(_:0<=a)(_:0<=b)(_:x+a<=W)(_:y+b<=h)(_:W<=60)(_:h<=60)(_:∀H',Grid H' rl ras W h (dQ f x y a b z)->ButR ras H H'->Q .non H')
inductive spFillLeaf(C:P6)(vs:QA V)(H:Hp)(Q:VK)(E_:XK):Prop
|mk(H0:Hp)(pp s rl:P6)(ras:QA P6)(W h:Nat)(f:Fn)(b:Int)(ks:QA Kd)(v:V)(l:Lf)(_:vs=[.ref s,.ref rl,v])(_:ShopAt C H0 s b ks)(_:Same H0 H)(_:(∀a∈ras,H0 a=none))(_:Grid H rl ras W h f)(_:LfAt pp H0 H v l)(_:(l.t=.rest\/∃i c u v,l.t=.piece i c u v))(_:okT b ks l.w l.h l.t)(_:(∀k∈ks,Good k))(_:ks.length<=8)(_:0<=l.x)(_:0<=l.y)(_:1<=l.w)(_:1<=l.h)(_:l.x+l.w<=W)(_:l.y+l.h<=h)(_:W<=60)(_:h<=60)(_:∀H',Grid H' rl ras W h (cX ks f l)->ButR ras H H'->Q .non H')
inductive spPicture(C:P6)(vs:QA V)(H:Hp)(Q:VK)(E_:XK):Prop
|mk(pp s:P6)(b:Int)(w h:Nat)(ks:QA Kd)(v:V)(d:PyData)(t:Tr)(_:vs=[.ref s,.int w,.int h,v])(_:TrH C pp s b w h ks v d t H)(_:0<=b)(_:w<=60)(_:h<=60)(_:(∀k∈ks,Good k))(_:ks.length<=8)(_:∀(l:P6)(H':Hp),H l=none->H' l=↥((fL b ks t w h).map V.str)->Same H H'->Q (.ref l) H')
theorem scfill:FnScope ["rows","corner","sides","sign","x","y","wide","high","up","right"] ["rows","corner","sides","sign"] (defScope qY):=%[Y,Y,Y,∅,Y,∅|∅]
theorem yW{f:P6}{fd:F6}(F:Fun K "fill" "fill" qY f fd)(B:Blt mg):FnOk P w K mg base CX0 1 f fd ["rows","corner","sides","sign"] (spFill):=by
 exists scfill
 ·obtain⟨rl,ct,sd,ras,W,h,f,x,y,a,b,z,rfl,_⟩:=h
  rfl
 obtain⟨rl,ct,sd,ras,W,h,f,x,y,a,b,z,rfl,g,hct,hsd,x0,y0,a0,b0,xa,yb,W60,h60,q⟩:=h;have nd:=scfill.nd;refine%[_,((@bq _ _ _ _ _ _ (pv 1) (aU Y (4•(5•aJ))) Y Y Y)<<<((@bq _ _ _ _ _ _ (pv 2) (aU Y (6•(7•aJ))) Y Y Y)>>>(@cG _ _ _ _ _ _ _ _ E2 Y (iq Y B.range ((pv 5)^^^(((pv 5)|||aM|||(pv 7))^^^ab))) (ai (i:=8) nd Y (Or.inl Y)) (@ag _ _ _ (@cG _ _ _ _ _ _ _ _ E2 Y (iq Y B.range ((pv 4)^^^(((pv 4)|||aM|||(pv 6))^^^ab))) (ai (i:=9) nd Y (Or.inl Y)) (@ag _ _ _ (@bq _ _ _ _ _ _ (pv 3) (lr ((pv 0)&&&ix_list&&&(pv 8)) (pv 9) fz) Y Y Y)) (by intro _;rfl))) (by intro _;rfl))))|?_];dsimp only[bJ];have sz:(40000:Nat)<=sizeLine:=∅
 refine ao (λ R=>R [↑rl,↑ct,↑sd,some (.str z),⇑x,⇑y,none,none,none,none] H) (λ Dd hR=>?_) ?_
 ·exact%[_,Y,ct,_,Y,G0 hct,Y,_,_,Y,_,_,Y,Y|hR]
 skip
 refine ao (λ R=>R [↑rl,↑ct,↑sd,some (.str z),⇑x,⇑y,⇑a,⇑b,none,none] H) (λ Dd hR=>?_) ?_
 ·exact%[_,Y,sd,_,Y,G0 hsd,Y,_,_,Y,_,_,Y,Y|hR]
 skip
 have e1:(y+b - y).toNat=b.toNat:=by congr 1;lia
 have e2:(x+a - x).toNat=a.toNat:=by congr 1;lia
 refine%[_,Y,_,Y,_,Y,_,_,Y,Y,_,_,Y,%[⋯,⋯,⋯|⋯]|?_];rw[e1];refine fQ (lo:=y) (n:=b.toNat) (λ i σ' H'=>(∃v8 v9,σ'=[↑rl,↑ct,↑sd,some (.str z),⇑x,⇑y,⇑a,⇑b,v8,v9])/\Grid H' rl ras W h (pF f x y a i 0 z)/\ButR ras H H') %[%[_,_|rfl],by rw[No];exact g|λ _ _ _ e=>e] ?_ ?_
 ·rintro i σ H1 hi ⟨⟨v8,v9,rfl⟩,g1,b1⟩;refine%[_,Y,_,Y,_,Y,_,_,Y,Y,_,_,Y,%[⋯,⋯,⋯|⋯]|?_];rw[e2];have hU:(y+(i:Int)).toNat < ras.length:=by rw[g.n];lia
  refine fQ (lo:=x) (n:=a.toNat) (λ j σ' H'=>(∃v9,σ'=[↑rl,↑ct,↑sd,some (.str z),⇑x,⇑y,⇑a,⇑b,⇑(y+i),v9])/\Grid H' rl ras W h (pF f x y a i j z)/\ButR ras H H') %[%[_|rfl],g1|b1] ?_ ?_
  ·rintro j σ H2 hj ⟨⟨v9,rfl⟩,g2,b2⟩;have hat:atI (ras.map V.ref) (y+(i:Int))=some (.ref ras[(y+(i:Int)).toNat]):=aH ⋯ (by rw[J2,E9 hU];rfl);have hrow:=g2.r _ _ (E9 hU);have hR:(x+(j:Int)).toNat < W:=⋯
   have hix:ixN (gq (pF f x y a i j z) W (y+(i:Int)).toNat).length (x+(j:Int))=some (x+(j:Int)).toNat:=by unfold ixN gq;rw[QI ⋯,G4,M6,QI ⋯]
   refine%[_,Y,_,Y,_,Y,rl,_,_,_,Y,Y,G1 g2.l,hat,_,Y,_,_,_,_,Y,Y,hrow,hix|?_];obtain⟨g3,b3⟩:=g2.set (z:=z) (E9 hU) hR;rw[yT f x y a i j z x0 y0]at g3;exact%[%[_|Y],g3|b2.trans b3]
  ·rintro σ H2 ⟨⟨v9,rfl⟩,g2,b2⟩;rw[AM f x y a i z a0]at g2;exact%[%[_,_|Y],g2|b2]
 ·rintro σ H1 ⟨⟨v8,v9,rfl⟩,g1,b1⟩;rw[AN f x y a b z b0]at g1;exact q H1 g1 b1
theorem scfillleaf:FnScope ["shop","rows","spot","x","y","wide","high","leaf","word","kind","turned","piece_x","piece_y"] ["shop","rows","spot"] (defScope gc):=%[Y,Y,Y,∅,Y,∅|∅]
theorem nF{f C wa:P6}{fd:F6}(F:Fun K "fill_leaf" "fill_leaf" gc f fd)(B:Blt mg)(T:ShopTxt K C)(Z:TrC K mg wa)(PC:PiC mg)(DF:Dn P w K mg base "fill" ["rows","corner","sides","sign"] 1 (spFill))(MS:Mn P w K mg base C "sides" ["self","kind","turned"] 3 (spSides K C)):FnOk P w K mg base CX0 4 f fd ["shop","rows","spot"] (spFillLeaf C):=by
 exists scfillleaf
 ·obtain⟨H0,pp,s,rl,ras,W,h,f,b,ks,v,l,rfl,_⟩:=h
  rfl
 obtain⟨H0,pp,s,rl,ras,W,h,f,b,ks,v,l,rfl,SH,s0,fr,g,la,lf,okl,gk,k8,x0,y0,lw0,lh0,xw,yh,W60,h60,q⟩:=h;have nd:=scfillleaf.nd;obtain⟨trs,hrs⟩:=Z.rs;obtain⟨tlt,hlt⟩:=PC.lt;obtain⟨tsr,hsr⟩:=PC.rs;obtain⟨tsm,hsm⟩:=PC.ms;refine%[_,((@bq _ _ _ _ _ _ (pv 2) (aU Y (3•(4•(5•(6•(7•aJ)))))) Y Y Y)>>>((((pv 7)&&&bc&&&ae)<*>cf<*>(aN (v:=.str "rest") Y hrs %[trs|Y]))<|>(@ag _ _ _ (@aO _ _ _ _ (DF∩((pv 1)^^^((@aD _ _ _ _ _ ((pv 3)^^^((pv 4)^^^ab)))^^^((@aD _ _ _ _ _ ((pv 5)^^^((pv 6)^^^ab)))^^^((aN (v:=.str ".") Y hsr %[tsr|Y])^^^ab))))) Y))<|>((@bq _ _ _ _ _ _ (pv 7) (jD Y (8•(9•(10•(11•(12•aJ)))))) Y Y Y)<<<((@aO _ _ _ _ (DF∩((pv 1)^^^((@aD _ _ _ _ _ ((pv 3)^^^((pv 4)^^^ab)))^^^((@aD _ _ _ _ _ ((pv 5)^^^((pv 6)^^^ab)))^^^((aN (v:=.str ",") Y hsm %[tsm|Y])^^^ab))))) Y)>>>(@aO _ _ _ _ (DF∩((pv 1)^^^((@aD _ _ _ _ _ (((pv 3)|||aM|||(pv 11))^^^(((pv 4)|||aM|||(pv 12))^^^ab)))^^^((fC (pv 0) T.cl MS hr ((pv 9)^^^((pv 10)^^^ab)))^^^(((aN (v:=.str "abcdefgh") Y hlt %[tlt|Y])&&&uO&&&(pv 9))^^^ab))))) Y)))))|?_];dsimp only[bJ];have sz:(40000:Nat)<=sizeLine:=∅
 obtain⟨a,u,du,rfl,ha,hdu,tdu⟩:=la;have nsame:∀{H1:Hp},ButR ras H H1->Same H0 H1:=λ bb=>ButR.same s0 bb fr;have tstay:∀{H1:Hp}{c:P6}{xs:QA V},ButR ras H H1->H c= ~~~xs->H1 c= ~~~xs:=λ bb e=>bb _ _ (g.nin e) e;refine ao (λ R=>R [↑s,↑rl,↑a,⇑l.x,⇑l.y,⇑l.w,⇑l.h,some u,none,none,none,none,none] H) (λ Dd hR=>?_) ?_
 ·exact%[_,Y,a,_,Y,G0 ha,Y,_,_,Y,_,_,Y,_,_,Y,_,_,Y,_,_,Y,Y|hR]
 skip
 rcases lf with et | ⟨i,c,px,py,et⟩
 ·rw[et]at tdu;obtain⟨a',rfl,hx⟩:=hdu.rest1 tdu;have el:cX ks f l=dQ f l.x l.y l.w l.h "." := by unfold cX;rw[et]
  refine%[_,Y|ixR s0 hx (aH (E3 _) rfl) %[Y,_,Y|aW ?_]];refine%[_,Y,_,Y,_,Y,zS2|λ t1 ht1=>?_];generalize hH1:upd H t1 _=H1;have s1:Same H H1:=by subst hH1;exact F9 ht1
  have k1:H1 t1= ~~~[.int l.x,.int l.y]:=by subst hH1;exact af
  refine%[_,Y,_,Y,zS2|λ t2 ht2=>?_];generalize hH2:upd H1 t2 _=H2;have s2:Same H1 H2:=by subst hH2;exact F9 ht2
  have k2:H2 t2= ~~~[.int l.w,.int l.h]:=by subst hH2;exact af
  have s12:=s1.trans s2;refine%[rl,t1,t2,ras,W,h,f,l.x,l.y,l.w,l.h,".",Y,g.same s12,s2 _ _ k1,k2,x0,y0,⋯,⋯,xw,yh,W60,h60|λ H3 g3 b3=>?_];rw[<- el]at g3;exact q H3 g3 (λ cc o n e=>b3 _ _ n (s12 _ _ e))
 ·rw[et]at tdu okl;obtain⟨k,hk,hc,u0,v0,hxw,hyh⟩:=okl;have gk1:=gk k (B5 hk);have sw:=gk1.w;have sh:=gk1.h;have sb:1<=sd1 k c/\1<=sd2 k c:=by cases c <;> exact%[by assumption|by assumption]
  have i8:i < 8:=C1 (A6.mp hk).1 k8;obtain⟨a',rfl,hx⟩:=hdu.piece1 (show aQ du=some [.str "piece",.int i,.bool c,.int px,.int py]from tdu);have el:cX ks f l=dQ (dQ f l.x l.y l.w l.h ",") (l.x+px) (l.y+py) (sd1 k c) (sd2 k c) (oR i):=by unfold cX;rw[et];dsimp only;rw[hk]
  refine%[_,Y|ixR s0 hx (aH (E3 _) rfl) %[Y,_,Y|aP ?_]];refine%[_,Y,a',_,Y,(hx.imp (s0 _ _) (s0 _ _)).imp (λ z=>G1 z) (λ z=>G0 z),Y,_,_,Y,_,_,Y,_,_,Y,_,_,Y,_,_,Y,Y|?_];refine%[_,Y,_,Y,_,Y,zS2|λ t1 ht1=>?_];generalize hH1:upd H t1 _=H1;have s1:Same H H1:=by subst hH1;exact F9 ht1
  have k1:H1 t1= ~~~[.int l.x,.int l.y]:=by subst hH1;exact af
  refine%[_,Y,_,Y,zS2|λ t2 ht2=>?_];generalize hH2:upd H1 t2 _=H2;have s2:Same H1 H2:=by subst hH2;exact F9 ht2
  have k2:H2 t2= ~~~[.int l.w,.int l.h]:=by subst hH2;exact af
  have s12:=s1.trans s2;refine%[rl,t1,t2,ras,W,h,f,l.x,l.y,l.w,l.h,",",Y,g.same s12,s2 _ _ k1,k2,x0,y0,⋯,⋯,xw,yh,W60,h60|λ H3 g3 b3=>?_];have bb3:ButR ras H H3:=λ cc o n e=>b3 _ _ n (s12 _ _ e);have SH3:=bI (nsame bb3) SH;obtain⟨dx,r,rs,S1,S2,S3⟩:=id SH3;refine%[_,Y,_,Y,_,Y,_,_,Y,Y,_,Y,_,Y,_,_,Y,Y,zS2|λ t4 ht4=>?_];generalize hH4:upd H3 t4 _=H4;have s4:Same H3 H4:=by subst hH4;exact F9 ht4
  have k4:H4 t4= ~~~[.int (l.x+px),.int (l.y+py)]:=by subst hH4;exact af
  have SH4:=bI s4 SH3;obtain⟨dx,r,rs,S1,S2,S3⟩:=id SH4;refine%[_,Y,s,dx,_,Y,S1,(bT _ _ ∅ ∅),_,Y,_,Y,s,b,ks,.int i,.bl c,_,_,Y,SH4,Ty.int,Ty.bl,jo hk hc|λ i' c' k' p e1' e2' hk' _ hp=>?_];cases e1';cases e2';rw[J4,hk]at hk';cases hk';rw[jM];have s5:=F9 hp (o:=.tup [.int (sd1 k c),.int (sd2 k c)]);have k5:(upd H4 p (.tup [.int (sd1 k c),.int (sd2 k c)])) p= ~~~[.int (sd1 k c),.int (sd2 k c)]:=af;generalize upd H4 p (.tup [.int (sd1 k c),.int (sd2 k c)])=H5 at s5 k5 ⊢;have s45:=s4.trans s5;refine%[_,Y,_,_,_,Y,Y,∅,yV i i8|?_];refine%[rl,t4,p,ras,W,h,_,l.x+px,l.y+py,sd1 k c,sd2 k c,oR i,Y,g3.same s45,s5 _ _ k4,k5,⋯,⋯,⋯,⋯,⋯,⋯,W60,h60|λ H6 g6 b6=>?_];rw[<- el]at g6;exact q H6 g6 (λ cc o n e=>b6 _ _ n (s45 _ _ (bb3 _ _ n e)))
theorem gj{b:Int}{ks:QA Kd}(b0:0<=b):∀(t:Tr)(x y w h:Int),1<=w->1<=h->okT b ks w h t->∀f∈lvs b t x y w h,x<=f.x/\y<=f.y/\1<=f.w/\1<=f.h/\f.x+f.w<=x+w/\f.y+f.h<=y+h/\okT b ks f.w f.h f.t
 | .rest,x,y,w,h,w0,h0,ok,f,hf=>by cases C9.mp hf;exact%[E3 _,E3 _,w0,h0,E3 _,E3 _|ok]
 | .piece ..,x,y,w,h,w0,h0,ok,f,hf=>by cases C9.mp hf;exact%[E3 _,E3 _,w0,h0,E3 _,E3 _|ok]
 | .cut true p l r,x,y,w,h,w0,h0,⟨p1,hp,hl,hr⟩,f,hf=>by
  have hp:p+b < w:=hp;rw[lvs]at hf;rcases C2.mp hf with z | z
  ·obtain⟨a1,a2,a3,a4,a5,a6,a7⟩:=gj b0 r _ _ _ _ ⋯ h0 hr f z;exact%[⋯,⋯,a3,a4,⋯,⋯|a7]
  ·obtain⟨a1,a2,a3,a4,a5,a6,a7⟩:=gj b0 l _ _ _ _ p1 h0 hl f z;exact%[⋯,⋯,a3,a4,⋯,⋯|a7]
 | .cut false p l r,x,y,w,h,w0,h0,⟨p1,hp,hl,hr⟩,f,hf=>by
  have hp:p+b < h:=hp;rw[lvs]at hf;rcases C2.mp hf with z | z
  ·obtain⟨a1,a2,a3,a4,a5,a6,a7⟩:=gj b0 r _ _ _ _ w0 ⋯ hr f z;exact%[⋯,⋯,a3,a4,⋯,⋯|a7]
  ·obtain⟨a1,a2,a3,a4,a5,a6,a7⟩:=gj b0 l _ _ _ _ w0 p1 hl f z;exact%[⋯,⋯,a3,a4,⋯,⋯|a7]
theorem gm(b:Int)(ks:QA Kd):∀(t:Tr)(x y w h c r:Int),(bQ b ks t x y w h c r).length=1
 | .rest,_,_,_,_,_,_=>by unfold bQ;decide +kernel
 | .piece i c u v,x,y,w,h,cc,rr=>by
  unfold bQ;cases ks[i]? with
  | none=>
   show(Str.ofString "+").length=1
   decide +kernel
  | some k=>
   dsimp only
   split
   ·rfl
   ·decide +kernel
 | .cut true p l r,x,y,w,h,cc,rr=>by
  rw[bQ]
  split
  ·exact gm b ks l _ _ _ _ _ _
  ·split
   ·exact gm b ks r _ _ _ _ _ _
   ·decide +kernel
 | .cut false p l r,x,y,w,h,cc,rr=>by
  rw[bQ]
  split
  ·exact gm b ks l _ _ _ _ _ _
  ·split
   ·exact gm b ks r _ _ _ _ _ _
   ·decide +kernel
theorem kh{α:Type}(f:α->Nat):∀l:QA α,(∀x∈l,f x=1)->(l.map f).sum=l.length
 | [],_=>rfl
 | a :: r,h=>by rw[J0,J6,h a B7,kh f r λ x hx=>h x (B4 _ hx),G8,Nat.add_comm]
abbrev oU:Fn:=λ _ _=>"+"
theorem scpicture:FnScope ["shop","wide","high","tree","rows","spot"] ["shop","wide","high","tree"] (defScope ef):=%[Y,Y,Y,∅,Y,∅|∅]
theorem oV{f C:P6}{fd:F6}(F:Fun K "picture" "picture" ef f fd)(B:Blt mg)(PC:PiC mg)(DCP:Dn P w K mg base "check_plate" ["wide","high"] 2 (spCP))(DCS:Dn P w K mg base "check_sides" ["wide","high","most"] 1 (spCS))(DC:Dn P w K mg base "check_tree" ["shop","wide","high","thing"] 7 (spCheckT C))(DL:Dn P w K mg base "leaves_of" ["shop","wide","high","tree"] 3 (spLeavesQ C))(DFL:Dn P w K mg base "fill_leaf" ["shop","rows","spot"] 4 (spFillLeaf C)):FnOk P w K mg base CX0 8 f fd ["shop","wide","high","tree"] (spPicture C):=by
 exists scpicture
 ·obtain⟨pp,s,b,W,h,ks,v,d,t,rfl,_⟩:=h
  rfl
 obtain⟨pp,s,b,W,h,ks,v,d,t,rfl,th,b0,W60,h60,gk,k8,q⟩:=h;have nd:=scpicture.nd;obtain⟨tmo,hmo⟩:=PC.mo;obtain⟨tbs,hbs⟩:=PC.bs;have rv:=PC.rv;refine%[_,((@aO _ _ _ _ (DCP∩((pv 1)^^^((pv 2)^^^ab))) Y)<<<((@aO _ _ _ _ (DCS∩((pv 1)^^^((pv 2)^^^((aN (v:=.int 60) Y hmo %[tmo|Y])^^^ab)))) Y)<<<((@aO _ _ _ _ (DC∪((pv 0)^^^((pv 1)^^^((pv 2)^^^((pv 3)^^^ab))))) Y)<<<((dH (i:=4) (own:=["up"]) (cs:=["wide"]) (cap:=[1]) Y nd Y Y Y (ip Y B.range ((pv 2)^^^ab)) (aL (sc:=defScope ef) (N:=["shop","wide","high","tree","rows","spot"]) Y Y ∅) (λ _ _ _ _ _=>ai (i:=0) (by show List.Nodup (["up","wide"]:QA Str) ;decide +kernel) Y (Or.inl Y) (Or.inr Y)) (λ _ _ _ _ _=>bd) (λ _ _ _ _ _=>(bO (own:=["right"]) (cs:=[]) (cap:=[]) Y (ip Y B.range ((pv 1)^^^ab)) (aL (N:=["up","wide"]) Y Y (by rfl)) (λ _ _ _ _ _=>ai (i:=0) (by show List.Nodup (["right"]:QA Str) ;decide +kernel) Y (Or.inl Y) (Or.inr Y)) (λ _ _ _ _ _=>bd) (λ _ _ _ _ _=>(aN (v:=.str "+") Y hbs %[tbs|Y])))))<<<((@cG _ _ _ _ _ _ _ _ E2 Y (cm (DL∩((pv 0)^^^((pv 1)^^^((pv 2)^^^((pv 3)^^^ab)))))) (ai (i:=5) nd Y (Or.inl Y)) (@ag _ _ _ (@aO _ _ _ _ (DFL∩((pv 0)^^^((pv 4)^^^((pv 5)^^^ab)))) Y)) (by intro _;rfl))<<<((bO (own:=["row"]) (cs:=[]) (cap:=[]) Y (vk Y rv ((pv 4)^^^ab)) (aL (sc:=defScope ef) (N:=["shop","wide","high","tree","rows","spot"]) Y Y ∅) (λ _ _ _ _ _=>ai (i:=0) (by show List.Nodup (["row"]:QA Str) ;decide +kernel) Y (Or.inl Y) (Or.inr Y)) (λ _ _ _ _ _=>bd) (λ _ _ _ _ _=>(vn K Y dR ((pv 0)^^^ab))))⁻¹))))))|?_];dsimp only[bJ];have sz:(40000:Nat)<=sizeLine:=∅
 obtain⟨m1,m2⟩:=TrD.many (b:=b) t d 0 0 (W:Int) (h:Int) th.td;have wd:=th.wd;have w0:=th.w1;have h0:=th.h1;refine%[_,Y,_,Y,W,h,Y,w0,h0|?_];refine cg (λ σ' H'=>σ'=[↑s,⇑W,⇑h,some v,none,none]/\H=H') (λ R hR=>hR _ _ %[rfl|rfl]) ?_;rintro _ _ ⟨rfl,rfl⟩;refine ao (λ R=>R [↑s,⇑W,⇑h,some v,none,none] H) (λ Dd hR=>?_) ?_
 ·exact%[_,Y,_,Y,W,h,60,Y,⋯,⋯|hR]
 skip
 refine ao (λ R=>∀(H':Hp),Same H H'->R [↑s,⇑W,⇑h,some v,none,none] H') (λ Dd hR=>?_) ?_
 ·exact%[_,Y,_,Y,_,Y,_,Y,pp,s,b,W,h,ks,v,d,Y,th.sh,w0,h0,th.dt,⋯,TrD.good t d W h th.td th.ok|λ H1 s1=>hR _ s1]
 rintro H1 s1;refine ao (λ R=>∀(rl:P6)(ras:QA P6)(H':Hp),Grid H' rl ras W h oU->(∀a∈ras,H1 a=none)->H1 rl=none->Same H1 H'->R [↑s,⇑W,⇑h,some v,↑rl,none] H') (λ Dd hR=>?_) ?_
 ·refine%[_,Y,_,Y,⋯,⋯|mV (lo:=0) (n:=Int.toNat (h:Int)) (λ i ys Hx=>∃ras:QA P6,ys=ras.map V.ref/\ras.length=i/\ras.Nodup/\(∀a∈ras,H1 a=none)/\(∀(u:Nat)(a:P6),ras[u]?=some a->Hx a=↥(gq oU W u))/\Same H1 Hx) %[[],Y,Y,List.Pairwise.nil,λ a ha=>by simp at ha,λ u a e=>by simp at e|Same.refl _] ?_ ?_]
  ·rintro i ys Hx hi ⟨ras,rfl,rn,nd1,fr,rr,sx⟩;refine%[by rw[G4];lia,leS.set rfl|bg ?_];refine%[_,Y,_,Y,⋯,⋯|mV (lo:=0) (n:=Int.toNat (W:Int)) (λ j zs Hy=>Hx=Hy/\zs=List.replicate j (.str "+")) %[Y|Y] ?_ ?_]
   ·rintro j zs Hy hj ⟨rfl,rfl⟩;refine%[by rw[J8];lia,leS.set rfl|bg ?_];show Nx (Int.toNat (W:Int)) (λ j zs Hy=>Hx=Hy/\zs=List.replicate j (.str "+")) j (List.replicate j (.str "+") ++ [.str "+"]) Hx;exact Nx.of hj %[rfl|(List.replicate_succ' ..).symm]
   ·rintro zs Hy ⟨rfl,rfl⟩;refine%[by rw[J8];lia|λ ra hra=>?_];have nin:ra∉ras:=λ z=>by obtain⟨k,hk,rfl⟩:=O2 z;rw[rr k _ (E9 hk)]at hra;cases hra
    have s2:=F9 hra (o:=.lst (List.replicate (Int.toNat (W:Int)) (.str "+")));have er:List.replicate (Int.toNat (W:Int)) (V.str "+")=gq oU W i:=by unfold gq;rw[J4,show(λ r=>V.str (oU i r))=λ _:Nat=>V.str "+" from rfl,List.map_const',M6]
    refine Nx.of hi %[ras ++ [ra],by rw[I9];rfl,by rw[G6,rn];rfl,?_,λ a ha=>?_,λ u a e=>?_|sx.trans s2]
    ·exact List.pairwise_append.mpr %[nd1,List.pairwise_singleton _ _|λ x hx y hy e=>nin (by rw[<- C9.mp hy,<- e];exact hx)]
    ·rcases C2.mp ha with ha | ha
     ·exact fr a ha
     ·rw[C9.mp ha];exact sx.free hra
    ·by_cases hu:u < ras.length
     ·rw[N8 hu]at e;exact s2 _ _ (rr u a e)
     ·rw[N4 ⋯]at e;have hu2:u - ras.length=0:=by have:=(A6.mp e).1;simp at this;lia
      rw[hu2]at e;have ea:ra=a:=by simpa using e
      have eu:u=i:=⋯
      subst ea eu;rw[af,er]
  ·rintro ys Hx ⟨ras,rfl,rn,nd1,fr,rr,sx⟩;rw[J4]at rn;refine%[by rw[G4];lia|λ rl hrl=>?_];have s2:=F9 hrl (o:=.lst (ras.map V.ref));refine hR rl ras _ %[af,rn,nd1,λ z=>?_|λ u a e=>s2 _ _ (rr u a e)] fr (sx.free hrl) (sx.trans s2);obtain⟨k,hk,rfl⟩:=O2 z;rw[rr k _ (E9 hk)]at hrl;cases hrl
 rintro rl ras H2 g2 fr frl s12;have s02:=s1.trans s12;refine ao (λ R=>∀v5 (H':Hp),Grid H' rl ras W h ((lvs b t 0 0 W h).foldl (cX ks) oU)->Same H1 H'->R [↑s,⇑W,⇑h,some v,↑rl,v5] H') (λ Dd hR=>?_) ?_
 ·refine%[_,Y,_,Y,_,Y,_,Y,H1,pp,s,b,W,h,ks,v,d,t,Y,bI s02 th.sh,s12,th.dt.same s1,th.td,⋯|λ ll us H3 hll l3 pu s23=>?_];have ul:=E1 pu;have nll:ll∉ras:=λ z=>by obtain⟨k,hk,rfl⟩:=O2 z;rw[g2.r k _ (E9 hk)]at hll;cases hll
  refine%[ll,Y,%[_|G1 l3]|fk (xs:=us) (λ i σ' H'=>(∃v5,σ'=[↑s,⇑W,⇑h,some v,↑rl,v5])/\Grid H' rl ras W h (((lvs b t 0 0 W h).take i).foldl (cX ks) oU)/\H' ll=↥us/\Paired (LfAt pp H1 H') us (lvs b t 0 0 W h)/\Same H1 H') %[%[_|Y],g2.same s23,l3,pu|s12.trans s23] (λ i σ H' _ h=>G1 h.2.2.1) ?_ ?_]
  ·rintro i x σ H4 hi ⟨⟨v5,rfl⟩,g4,l4,pu4,s4⟩;obtain⟨f,hf,lat⟩:=G3 pu4 hi;have fm:=B5 hf;obtain⟨a1,a2,a3,a4,a5,a6,a7⟩:=gj b0 t 0 0 W h w0 h0 th.ok f fm;refine%[_,Y,_,Y,_,Y,H1,pp,s,rl,ras,W,h,_,b,ks,x,f,Y,bI s1 th.sh,s4,fr,g4,lat,cJ b t 0 0 W h f fm,a7,gk,k8,a1,a2,a3,a4,⋯,⋯,W60,h60|λ H5 g5 b5=>?_];refine%[%[_|Y],?_,b5 _ _ nll l4,G2 pu4 λ v' f' h'=>h'.keep λ a xs e=>b5 _ _ (g4.nin e) e|ButR.same s4 b5 fr];rw[J5,hf,List.foldl_append];exact g5
  ·rintro σ H4 ⟨⟨v5,rfl⟩,g4,l4,pu4,s4⟩;rw[ul,K2]at g4;exact hR _ _ g4 s4
 rintro v5 H3 g3 s13;have rln:(ras.map V.ref).length=h:=by rw[G4];exact g3.n
 refine%[_,Y,rl,_,Y,G1 g3.l|vm (xs:=ras.map V.ref) (λ i ys Hx=>H3=Hx/\ys=((fL b ks t W h).take i).map V.str) (λ i ys Hx _ e=>e.1 ▸ g3.l) %[Y|Y] ?_ ?_]
 ·rintro i x ys Hx hi hx ⟨rfl,rfl⟩;rw[rln]at hi hx;have hu:h - 1 - i < ras.length:=by rw[g3.n];lia
  rw[J2,E9 hu]at hx;cases hx;have hrow:=g3.r _ _ (E9 hu);have er:gq ((lvs b t 0 0 W h).foldl (cX ks) oU) W (h - 1 - i)=((List.range W).map λ (c:Nat)=>bQ b ks t 0 0 W h (c:Int) ((h - 1 - i:Nat):Int)).map V.str:=by unfold gq;rw[N0];apply N2;intro c hc;show V.str _=V.str _;rw[wL b0 k8 ⋯ ⋯ th.ok ⋯ (List.mem_range.mp hc)]
  rw[er]at hrow;refine%[by rw[G4];exact C6 (List.length_take_le _ _) ⋯,leS.set rfl|bg ?_];refine%[Y,_,Y,"",_,_,Y,Y,hrow,∅,?_|?_]
  ·rw[kh _ _ (λ x hx=>by obtain⟨c,_,rfl⟩:=K7.mp hx;exact gm b ks t _ _ _ _ _ _),G4,M6];lia
  ·rw[rln];refine Nx.of hi %[rfl|?_];have hp:(fL b ks t W h)[i]?=some (Txt.join "" ((List.range W).map λ (c:Nat)=>bQ b ks t 0 0 W h (c:Int) ((h - 1 - i:Nat):Int))):=by
    unfold fL;rw[J2,List.getElem?_range hi]
    rfl
   rw[J5,hp];simp only[M1,I9,J0,O4]
 ·rintro ys Hx ⟨rfl,rfl⟩;have pl:(fL b ks t W h).length=h:=by unfold fL;rw[G4,M6]
  refine%[by rw[G4];exact C5 (List.length_take_le _ _) ⋯|λ l hl=>?_];have s03:=s1.trans s13;refine q l _ (s03.free hl) ?_ (s03.trans (F9 hl));rw[af,rln,K1 ⋯]
theorem nG{b:Int}{ks:QA Kd}:∀(t:Tr){w h:Int},okT b ks w h t->okU b ks w h t
 | .rest,_,_,_=>trivial
 | .piece i c x y,w,h,⟨k,hk,hm,r⟩=>by
  have hc:c=false\/bm k=true:=by
   unfold cL at hm;cases e:bm k with
   | true=>exact .inr rfl
   | false=>rw[e]at hm;exact .inl (by simpa using hm)
  have:=rh hc (ks:=ks) (j:=0) hk;rw[Nat.zero_add]at this;exact%[k,hk,this|r]
 | .cut true p l r,w,h,⟨p1,hp,hl,hr⟩=>%[p1,hp,nG l hl|nG r hr]
 | .cut false p l r,w,h,⟨p1,hp,hl,hr⟩=>%[p1,hp,nG l hl|nG r hr]
def SuN:Nat->(Nat->Int)->Int
 | 0,_=>0
 | n+1,f=>SuN n f+f n
theorem bF{f g:Nat->Int}:∀{n:Nat},(∀i,i < n->f i=g i)->SuN n f=SuN n g
 | 0,_=>rfl
 | n+1,h=>by rw[SuN,SuN,bF λ i hi=>h i ⋯,h n ⋯]
theorem mn(f:Nat->Int)(a:Nat):∀b:Nat,SuN (a+b) f=SuN a f+SuN b λ i=>f (a+i)
 | 0=>by rw[SuN];exact(P4 _).symm
 | b+1=>by rw[<- Nat.add_assoc,SuN,SuN,mn f a b];lia
theorem wM(f g:Nat->Int):∀n:Nat,SuN n (λ i=>f i+g i)=SuN n f+SuN n g
 | 0=>rfl
 | n+1=>by rw[SuN,SuN,SuN,wM f g n];lia
theorem kj(z:Int):∀n:Nat,SuN n (λ _=>z)=n * z
 | 0=>by rw[SuN];lia
 | n+1=>by rw[SuN,kj z n,show((n+1:Nat):Int)=(n:Int)+1 by lia,P3];lia
theorem wN(f:Nat->Int):∀n:Nat,SuN n (λ k=>f (n - 1 - k))=SuN n f
 | 0=>rfl
 | n+1=>by
  have e:SuN (n+1) (λ k=>f (n+1 - 1 - k))=SuN 1 (λ k=>f (n - k))+SuN n λ i=>f (n - (1+i)):=by rw[Nat.add_comm n 1];exact(bF λ i _=>by rw[show 1+n - 1 - i=n - i by lia]).trans (mn (λ k=>f (n - k)) 1 n)
  rw[e,SuN,SuN,SuN,bF (g:=λ k=>f (n - 1 - k)) λ i hi=>by rw[show n - (1+i)=n - 1 - i by lia],wN f n];show 0+f (n - 0)+SuN n f=SuN n f+f n;rw[Nat.sub_zero];lia
theorem mq{α:Type}(f:α->Int)(g:Nat->α):∀n:Nat,(((List.range n).map g).map f).sum=SuN n λ i=>f (g i)
 | 0=>rfl
 | n+1=>by rw[List.range_succ,I9,I9,M7,mq f g n,SuN];simp
def cn(c:Nat)(x:Str):Int:=(((Lp x).count c:Nat):Int)
theorem mr(c:Nat):∀L:QA Str,cn c (Txt.join "" L)=(L.map (cn c)).sum
 | []=>rfl
 | [x]=>by show cn c x=_;simp
 | x :: y :: r=>by
  have e:Txt.join "" (x :: y :: r)=x ++ "" ++ Txt.join "" (y :: r):=by
   show Builtin.Str.glued _ _=_ ++ Builtin.Str.glued _ _;rw[StrLaws.glued_eq_join,StrLaws.glued_eq_join]
   rfl
  have e2:Lp ("" : Str)=[]:=∅
  rw[J0,J6,<- mr c (y :: r),e];unfold cn;rw[ve,ve,e2,J7,List.count_append];lia
def cA(c:Nat)(g:Int->Int->Str)(x y:Int)(w h:Nat):Int:=SuN h λ j=>SuN w λ i=>cn c (g (x+i) (y+j))
theorem fM{c:Nat}{g g':Int->Int->Str}{x y x' y':Int}{w h:Nat}(e:∀i j:Nat,i < w->j < h->g (x+i) (y+j)=g' (x'+i) (y'+j)):cA c g x y w h=cA c g' x' y' w h :=
 bF λ j hj=>bF λ i hi=>by rw[e i j hi hj]
theorem nH{c:Nat}{g:Int->Int->Str}{x y:Int}{w h:Nat}{z:Str}(e:∀i j:Nat,i < w->j < h->g (x+i) (y+j)=z):cA c g x y w h=h * (w * cn c z):=by unfold cA;rw[bF (g:=λ _=>(w:Int) * cn c z) λ j hj=>(bF (g:=λ _=>cn c z) λ i hi=>by rw[e i j hi hj]).trans (kj _ _),kj]
theorem rO(c:Nat)(g:Int->Int->Str)(x y:Int)(a b h:Nat):cA c g x y (a+b) h=cA c g x y a h+cA c g (x+a) y b h:=by unfold cA;rw[<- wM];exact bF λ j _=>(mn _ a b).trans (by congr 1;exact bF λ i _=>by rw[show x+((a+i:Nat):Int)=x+a+i by lia])
theorem rP(c:Nat)(g:Int->Int->Str)(x y:Int)(w a b:Nat):cA c g x y w (a+b)=cA c g x y w a+cA c g x (y+a) w b:=by unfold cA;exact(mn _ a b).trans (by congr 1;exact bF λ j _=>bF λ i _=>by rw[show y+((a+j:Nat):Int)=y+a+j by lia])
theorem mt{n:Int}(h:0<=n):∃m:Nat,n=m:=%[n.toNat|⋯]
def gA(c:Nat)(ks:QA Kd)(z:Int×Int×Tr):Int:=cA c (bQ 0 ks z.2.2 0 0 z.1 z.2.1) 0 0 z.1.toNat z.2.1.toNat
def aA(z:Int×Int×Tr):Int:=z.1 * z.2.1
theorem zV(c:Nat){b:Int}{ks:QA Kd}{t:Tr}(lf:t=.rest\/∃i c u v,t=.piece i c u v)(x y:Int)(w h:Nat):cA c (bQ b ks t x y w h) x y w h=gA c ks (w,h,t):=by
 unfold gA;simp only[J4];refine fM λ i j _ _=>?_;rcases lf with rfl | ⟨i',c',u,v,rfl⟩
 ·rfl
 ·unfold bQ;cases ks[i']? with
  | none=>rfl
  | some k=>
   have e:inB (x+u) (y+v) (sd1 k c') (sd2 k c') (x+i) (y+j)↔inB (0+u) (0+v) (sd1 k c') (sd2 k c') (0+i) (0+j):=by unfold inB;lia
   dsimp only
   by_cases z:inB (x+u) (y+v) (sd1 k c') (sd2 k c') (x+i) (y+j)
   ·rw[QI z,QI (e.mp z)]
   ·rw[QH z,QH λ q=>z (e.mpr q)]
theorem ig(g:Lf->Int)(f:Lf):bt g [f]=g f:=by unfold bt;simp
theorem nI(c:Nat){b:Int}{ks:QA Kd}(b0:0<=b):∀(t:Tr)(x y w h:Int),1<=w->1<=h->okT b ks w h t ->
  cA c (bQ b ks t x y w h) x y w.toNat h.toNat=bt (λ f=>gA c ks (mLf f)) (lvs b t x y w h)+(w * h - bt (λ f=>aA (mLf f)) (lvs b t x y w h)) * cn c "+"
 | .rest,x,y,w,h,w0,h0,_=>by obtain⟨w,rfl⟩:=mt (n:=w) ⋯;obtain⟨h,rfl⟩:=mt (n:=h) ⋯;rw[J4,J4,zV c (.inl rfl)];show _=bt _ [_]+(_ - bt _ [_]) * _;rw[ig,ig];show _=gA c ks ((w:Int),(h:Int),Tr.rest)+((w:Int) * h - (w:Int) * h) * _;rw[Int.sub_self,Int.zero_mul,P4]
 | .piece i c' u v,x,y,w,h,w0,h0,_=>by obtain⟨w,rfl⟩:=mt (n:=w) ⋯;obtain⟨h,rfl⟩:=mt (n:=h) ⋯;rw[J4,J4,zV c (.inr %[i,c',u,v|Y])];show _=bt _ [_]+(_ - bt _ [_]) * _;rw[ig,ig];show _=gA c ks ((w:Int),(h:Int),Tr.piece i c' u v)+((w:Int) * h - (w:Int) * h) * _;rw[Int.sub_self,Int.zero_mul,P4]
 | .cut true p l r,x,y,w,h,w0,h0,⟨p1,hp,hl,hr⟩=>by
  have hp:p+b < w:=hp;have h1:=nI c b0 l x y p h p1 h0 hl;have h2:=nI c b0 r (x+(p+b)) y (w - p - b) h ⋯ h0 hr;have ew:w.toNat=p.toNat+b.toNat+(w - p - b).toNat:=⋯
  rw[ew,rO,rO,fM (g':=bQ b ks l x y p h) (x':=x) (y':=y) (λ i j hi _=>by rw[bQ,QI ⋯]),h1,nH (z := "+") (λ i j hi _=>by rw[bQ,QH ⋯,QH ⋯]),fM (g':=bQ b ks r (x+(p+b)) y (w - p - b) h) (x':=x+(p+b)) (y':=y) (λ i j hi _=>by
   have e:x+((p.toNat+b.toNat:Nat):Int)+i=x+(p+b)+i:=⋯
   rw[e,bQ,QH ⋯,QI ⋯,show w - (p+b)=w - p - b by lia]),h2,lvs,ia,ia]
  have e:(h.toNat:Int) * ((b.toNat:Int) * cn c "+")=h * b * cn c "+" := by rw[<- Int.mul_assoc];congr 1;rw[show(h.toNat:Int)=h by lia,show(b.toNat:Int)=b by lia]
  rw[e];have:w * h=p * h+(w - p - b) * h+h * b:=by rw[<- P3,Int.mul_comm h b,<- P3];congr 1;lia
  rw[this];simp only[Int.sub_mul,P3];lia
 | .cut false p l r,x,y,w,h,w0,h0,⟨p1,hp,hl,hr⟩=>by
  have hp:p+b < h:=hp;have h1:=nI c b0 l x y w p w0 p1 hl;have h2:=nI c b0 r x (y+(p+b)) w (h - p - b) w0 ⋯ hr;have eh:h.toNat=p.toNat+b.toNat+(h - p - b).toNat:=⋯
  rw[eh,rP,rP,fM (g':=bQ b ks l x y w p) (x':=x) (y':=y) (λ i j _ hj=>by rw[bQ,QI ⋯]),h1,nH (z := "+") (λ i j _ hj=>by rw[bQ,QH ⋯,QH ⋯]),fM (g':=bQ b ks r x (y+(p+b)) w (h - p - b)) (x':=x) (y':=y+(p+b)) (λ i j _ hj=>by
   have e:y+((p.toNat+b.toNat:Nat):Int)+j=y+(p+b)+j:=⋯
   rw[e,bQ,QH ⋯,QI ⋯,show h - (p+b)=h - p - b by lia]),h2,lvs,ia,ia]
  have e:(b.toNat:Int) * ((w.toNat:Int) * cn c "+")=w * b * cn c "+" := by rw[<- Int.mul_assoc];congr 1;rw[show(w.toNat:Int)=w by lia,show(b.toNat:Int)=b by lia,Int.mul_comm]
  rw[e];have:w * h=w * p+w * (h - p - b)+w * b:=by rw[<- Int.mul_add,<- Int.mul_add];congr 1;lia
  rw[this];simp only[Int.sub_mul,P3];lia
theorem Np(c:Nat){b:Int}{ks:QA Kd}{t:Tr}{w h:Nat}:cn c (Txt.join "" (fL b ks t w h))=cA c (bQ b ks t 0 0 w h) 0 0 w h:=by
 rw[mr];unfold fL;rw[mq];have e:∀k:Nat,cn c (Txt.join "" ((List.range w).map λ (cc:Nat)=>bQ b ks t 0 0 w h (cc:Int) ((h - 1 - k:Nat):Int)))=SuN w λ i=>cn c (bQ b ks t 0 0 w h (i:Int) ((h - 1 - k:Nat):Int)):=λ k=>by rw[mr,mq]
 rw[bF λ k _=>e k,wN (λ j=>SuN w λ i=>cn c (bQ b ks t 0 0 w h (i:Int) (j:Int)))];unfold cA;exact bF λ j _=>bF λ i _=>by rw[O8,O8]
theorem AO(c:Nat){b:Int}{ks:QA Kd}(b0:0<=b){t u:Tr}{w h:Nat}(w0:1<=w)(h0:1<=h)(o1:okT b ks w h t)(o2:okT b ks w h u)(e:bz b t w h=bz b u w h) :
  Txt.count (Txt.join "" (fL b ks t w h)) %[|#[c]]=Txt.count (Txt.join "" (fL b ks u w h)) %[|#[c]]:=by
 have key:∀v:Tr,okT b ks w h v->Txt.count (Txt.join "" (fL b ks v w h)) %[|#[c]]=bt (λ f=>gA c ks (mLf f)) (lvs b v 0 0 w h)+((w:Int) * h - bt (λ f=>aA (mLf f)) (lvs b v 0 0 w h)) * cn c "+" := λ v ov=>by rw[yi];show cn c _=_;have:=nI c b0 v 0 0 w h ⋯ ⋯ ov;rw[J4,J4]at this;rw[Np,this]
 rw[key t o1,key u o2,cS (λ f=>rfl) (gf e),cS (λ f=>rfl) (gf e)]
theorem gt{p:P6}{H H':Hp}(b:But p H H')(pt:PotAt H p){c:P6}{xs:QA V}(e:H c= ~~~xs):H' c= ~~~xs:=by obtain⟨_,hp⟩:=jO pt;exact b _ _ (λ z=>by rw[z,hp]at e;cases e) e
theorem But.refl'{p:P6}{H:Hp}:But p H H:=λ _ _ _ e=>e
theorem Nq{b:Int}{ks:QA Kd}{w h p:Int}{dn:Bool}{l r:Tr}(b0:0<=b)(ok:okU b ks w h (.cut dn p l r)):okU b ks w h (.cut dn ((if dn=true then w else h) - (p+b)) r l)/\(bB b dn (.cut dn ((if dn=true then w else h) - (p+b)) r l) w h).Perm (bB b dn (.cut dn p l r) w h):=by
 rw[dD,dD];cases dn with
 | true=>
  obtain⟨h1,h2,h3,h4⟩:=ok;simp only[Qa];rw[show w - (w - (p+b)) - b=p by lia,show w - (p+b)=w - p - b by lia];refine%[%[⋯,⋯,h4|?_]|N7];rw[show w - (w - p - b) - b=p by lia];exact h3
 | false=>
  obtain⟨h1,h2,h3,h4⟩:=ok;simp only[J9,QN];rw[show h - (h - (p+b)) - b=p by lia,show h - (p+b)=h - p - b by lia];refine%[%[⋯,⋯,h4|?_]|N7];rw[show h - (h - p - b) - b=p by lia];exact h3
inductive spExch(n:Nat)(vs:QA V)(H:Hp)(Q:VK)(E_:XK):Prop
|mk(p:P6)(b W h:Int)(ks:QA Kd)(v:V)(T:Tr)(_:vs=[.ref p,.int b,.int W,.int h,v])(_:PotAt H p)(_:TrV H T v)(_:okU b ks W h T)(_:0<=b)(_:lvN T < n)(_:∀(v':V)(T':Tr)(H':Hp),TrV H' T' v'->okU b ks W h T'->bz b T' W h=bz b T W h->lvN T'=lvN T->PotAt H' p->But p H H'->Q v' H')
theorem scexch:FnScope ["_law_pot_here","_law_blade","_law_wide","_law_high","_law_tree_here","_law_behind","_law_left","_law_first","_law_second"] ["_law_pot_here","_law_blade","_law_wide","_law_high","_law_tree_here"] (defScope cR):=%[Y,Y,Y,∅,Y,∅|∅]
theorem yX{f:P6}{fd:F6}(F:Fun K "_law_exchanged" "_law_exchanged" cR f fd)(B:Blt mg)(n:Nat)(DD:Dn P w K mg base "_law_draw" ["_law_pot_here","_law_many"] 1 (eG))(DX:Dn P w K mg base "_law_exchanged" ["_law_pot_here","_law_blade","_law_wide","_law_high","_law_tree_here"] (2+n) (spExch n)):FnOk P w K mg base CX0 (2+(n+1)) f fd ["_law_pot_here","_law_blade","_law_wide","_law_high","_law_tree_here"] (spExch (n+1)):=by
 exists scexch
 ·obtain⟨p,b,W,h1,ks,v,T,rfl,_⟩:=h
  rfl
 obtain⟨p,b,W,h1,ks,v,T,rfl,pt,tv,okT,b0,ln,q⟩:=h;have nd:=scexch.nd;refine%[_,(((@aB _ _ _ _ _ _ _ _ fR ((pv 4)&&&ix_tup&&&ae) (@aD _ _ _ _ _ (dR^^^(dR^^^ab))) Y)<|>((pv 4)⁻¹)<|>aF)<<<((5∣(((pv 4)&&&ix_tup&&&ae)|||aM|||(pv 1)))<<<(((((pv 4)&&&ix_tup&&&ae)<*>cf<*>dR)<|>((6∣((pv 2)|||br|||(pv 5)))<<<((7∣(DX∪((pv 0)^^^((pv 1)^^^(((pv 4)&&&ix_tup&&&ae)^^^((pv 3)^^^(((pv 4)&&&ix_tup&&&ae)^^^ab)))))))>>>(8∣(DX∪((pv 0)^^^((pv 1)^^^((pv 6)^^^((pv 3)^^^(((pv 4)&&&ix_tup&&&ae)^^^ab)))))))))<|>((6∣((pv 3)|||br|||(pv 5)))<<<((7∣(DX∪((pv 0)^^^((pv 1)^^^((pv 2)^^^(((pv 4)&&&ix_tup&&&ae)^^^(((pv 4)&&&ix_tup&&&ae)^^^ab)))))))>>>(8∣(DX∪((pv 0)^^^((pv 1)^^^((pv 2)^^^((pv 6)^^^(((pv 4)&&&ix_tup&&&ae)^^^ab))))))))))<<<((((@aq _ _ _ _ _ _ _ _ _ _ DD (hr.mono (show 1<=2+n by lia)) Y ((pv 0)^^^(ae^^^ab)) ∅ Y Y)<*>cf<*>ae)<|>((@aD _ _ _ _ _ (((pv 4)&&&ix_tup&&&ae)^^^(((pv 4)&&&ix_tup&&&ae)^^^((pv 7)^^^((pv 8)^^^ab)))))⁻¹)<|>aF)<<<((@aD _ _ _ _ _ (((pv 4)&&&ix_tup&&&ae)^^^((pv 6)^^^((pv 8)^^^((pv 7)^^^ab)))))⁻¹)))))|?_];dsimp only[bJ];obtain⟨a,xs,rfl,hx⟩:=TrV.head T tv;refine eQ (λ R=>∀(dn:Bool)(p0:Int)(l0 r0:Tr)(H':Hp),T=.cut dn p0 l0 r0->Same H H'->R [↑p,⇑b,⇑W,⇑h1,↑a,none,none,none,none] H') (λ R hR=>?_) ?_
 ·refine%[_,Y,a,_,0,_,Y,Y,G0 hx,aH (E3 _) rfl,zS2|λ q0 hq0=>?_];obtain⟨H0,e0,k0,n0,s0,b0',pt0⟩:=lV (o:=.tup [.str "rest",.str "piece"]) But.refl' pt hq0;rw[show upd H q0 _=H0 from e0];refine%[q0,_,Y,.inr (G0 k0),Y,Y,_,Y|?_];show(if (inV (V.str (hdW T)) [V.str "rest",V.str "piece"])=true then _ else _);have leaf:=q (.ref a) T H0 (TrV.keep (λ a xs e=>s0 _ _ e) _ tv) okT rfl rfl pt0 b0';cases eT:T with
  | rest=>
   rw[show inV (V.str (hdW .rest)) [V.str "rest",V.str "piece"]=true by show inV (V.str "rest") [V.str "rest",V.str "piece"]=true;decide +kernel];exact aW %[_,rfl|leaf]
  | piece i cc x y=>
   rw[show inV (V.str (hdW (.piece i cc x y))) [V.str "rest",V.str "piece"]=true by show inV (V.str "piece") [V.str "rest",V.str "piece"]=true;decide +kernel];exact aW %[_,rfl|leaf]
  | cut dn p0 l0 r0=>
   rw[show inV (V.str (hdW (.cut dn p0 l0 r0))) [V.str "rest",V.str "piece"]=false by show inV (V.str (wyL dn)) [V.str "rest",V.str "piece"]=false;cases dn <;> decide +kernel];exact aP (hR dn p0 l0 r0 _ eT s0)
 rintro dn p0 l0 r0 H1 rfl s0;obtain⟨a',x,y,ea,hx1,tl1,tr1⟩:=TrV.keep (λ a xs e=>s0 _ _ e) _ tv;cases ea;have hx1:H1 a= ~~~[.str (wyL dn),.int p0,x,y]:=hx1;have pt1:=pt.same s0;have lp1:=(dU b l0 0 0).2.2;have lp2:=(dU b r0 0 0).2.2;have ln:lvN l0+lvN r0 < n+1:=ln;refine ao (λ R=>R [↑p,⇑b,⇑W,⇑h1,↑a,⇑(p0+b),none,none,none] H1) (λ Dd hR=>?_) ?_
 ·exact%[_,Y,a,_,1,_,Y,Y,G0 hx1,Y,_,Y,_,_,Y,Y|hR]
 skip
 refine ao (λ R=>∀(v3 v4:V)(l3 r4:Tr)(H':Hp),TrV H' l3 v3->TrV H' r4 v4->okU b ks W h1 (.cut dn p0 l3 r4)->(bB b dn (.cut dn p0 l3 r4) W h1).Perm (bB b dn (.cut dn p0 l0 r0) W h1)->lvN (.cut dn p0 l3 r4)=lvN (.cut dn p0 l0 r0)->PotAt H' p->But p H1 H'->R [↑p,⇑b,⇑W,⇑h1,↑a,⇑(p0+b),⇑((if dn=true then W else h1) - (p0+b)),some v3,some v4] H') (λ Dd hR=>?_) ?_
 ·have ok1:=okT;refine%[_,Y,a,_,0,_,Y,Y,G0 hx1,Y,Y,_,Y|?_];cases dn with
  | true=>
   obtain⟨g1,g2,g3,g4⟩:=ok1;rw[show(decide (V.str (wyL true)=V.str "down"))=true by decide +kernel];refine aW %[_,rfl,_,rfl,_,_,rfl,rfl,_,rfl,_,rfl,_,rfl,a,_,1,_,rfl,rfl,G0 hx1,rfl,_,rfl,_,rfl,a,_,2,_,rfl,rfl,G0 hx1,rfl,p,b,p0,h1,ks,x,l0,rfl,pt1,tl1,g3,b0,⋯|λ v3 l3 H3 tv3 ok3 et3 ln3 pt3 b3=>?_];refine%[_,Y,_,Y,_,Y,_,Y,_,Y,a,_,3,_,Y,Y,G0 (gt b3 pt1 hx1),Y,p,b,(W - (p0+b)),h1,ks,y,r0,Y,pt3,TrV.keep (λ a xs e=>gt b3 pt1 e) _ tr1,(by rw[show W - (p0+b)=W - p0 - b by lia];exact g4),b0,⋯|λ v4 r4 H4 tv4 ok4 et4 ln4 pt4 b4=>?_];refine hR v3 v4 l3 r4 _ (TrV.keep (λ a xs e=>gt b4 pt3 e) _ tv3) tv4 %[g1,g2,ok3|(by rw[show W - (p0+b)=W - p0 - b by lia]at ok4;exact ok4)] ?_ (by show lvN l3+lvN r4=lvN l0+lvN r0;lia) pt4 (b3.trans b4);rw[dD,dD];rw[show W - (p0+b)=W - p0 - b by lia]at et4;exact(ic et3 true).append (ic et4 true)
  | false=>
   obtain⟨g1,g2,g3,g4⟩:=ok1;rw[show(decide (V.str (wyL false)=V.str "down"))=false by decide +kernel];refine aP %[_,rfl,_,rfl,_,_,rfl,rfl,_,rfl,_,rfl,_,rfl,_,rfl,a,_,1,_,rfl,rfl,G0 hx1,rfl,_,rfl,a,_,2,_,rfl,rfl,G0 hx1,rfl,p,b,W,p0,ks,x,l0,rfl,pt1,tl1,g3,b0,⋯|λ v3 l3 H3 tv3 ok3 et3 ln3 pt3 b3=>?_];refine%[_,Y,_,Y,_,Y,_,Y,_,Y,a,_,3,_,Y,Y,G0 (gt b3 pt1 hx1),Y,p,b,W,(h1 - (p0+b)),ks,y,r0,Y,pt3,TrV.keep (λ a xs e=>gt b3 pt1 e) _ tr1,(by rw[show h1 - (p0+b)=h1 - p0 - b by lia];exact g4),b0,⋯|λ v4 r4 H4 tv4 ok4 et4 ln4 pt4 b4=>?_];refine hR v3 v4 l3 r4 _ (TrV.keep (λ a xs e=>gt b4 pt3 e) _ tv3) tv4 %[g1,g2,ok3|(by rw[show h1 - (p0+b)=h1 - p0 - b by lia]at ok4;exact ok4)] ?_ (by show lvN l3+lvN r4=lvN l0+lvN r0;lia) pt4 (b3.trans b4);rw[dD,dD];rw[show h1 - (p0+b)=h1 - p0 - b by lia]at et4;exact(ic et3 false).append (ic et4 false)
 rintro v3 v4 l3 r4 H4 tl4 tr4 ok4 pm4 ln4 pt4 b4;have hx4:=gt b4 pt1 hx1;have bH4:But p H H4:=λ c o n e=>b4 _ _ n (s0 _ _ e);refine eQ (λ R=>∀(H':Hp),PotAt H' p->But p H4 H'->R [↑p,⇑b,⇑W,⇑h1,↑a,⇑(p0+b),⇑((if dn=true then W else h1) - (p0+b)),some v3,some v4] H') (λ R hR=>?_) ?_
 ·refine%[_,Y,p,2,Y,pt4,∅,∅|λ z H5 z0 z1 pt5 b5=>%[Y,_,Y|?_]];refine dv (λ c=>?_) (λ c=>hR _ pt5 b5);refine%[_,Y,a,_,0,_,Y,Y,G0 (gt b5 pt4 hx4),Y,_,Y,a,_,1,_,Y,Y,G0 (gt b5 pt4 hx4),Y,_,Y,_,Y,zS4|λ it hit=>?_];obtain⟨H6,e6,k6,n6,s6,b6,pt6⟩:=lV (o:=.tup [.str (wyL dn),.int p0,v3,v4]) (bH4.trans b5) pt5 hit;rw[show upd H5 it _=H6 from e6];have k:∀a xs,H4 a= ~~~xs->H6 a= ~~~xs:=λ a xs e=>s6 _ _ (gt b5 pt4 e);exact q _ (.cut dn p0 l3 r4) H6 %[it,v3,v4,rfl,k6,TrV.keep k _ tl4|TrV.keep k _ tr4] ok4 (nE pm4) ln4 pt6 b6
 rintro H5 pt5 b5;obtain⟨ok',pm'⟩:=Nq b0 ok4;refine%[_,Y,a,_,0,_,Y,Y,G0 (gt b5 pt4 hx4),Y,_,Y,_,Y,_,Y,zS4|λ it hit=>?_];obtain⟨H6,e6,k6,n6,s6,b6,pt6⟩:=lV (o:=.tup [.str (wyL dn),.int ((if dn=true then W else h1) - (p0+b)),v4,v3]) (bH4.trans b5) pt5 hit;rw[show upd H5 it _=H6 from e6];have k:∀a xs,H4 a= ~~~xs->H6 a= ~~~xs:=λ a xs e=>s6 _ _ (gt b5 pt4 e);exact q _ (.cut dn ((if dn=true then W else h1) - (p0+b)) r4 l3) H6 %[it,v4,v3,rfl,k6,TrV.keep k _ tr4|TrV.keep k _ tl4] ok' (nE (pm'.trans pm4)) (by rw[<- ln4];show lvN r4+lvN l3=lvN l3+lvN r4;lia) pt6 b6
theorem wO{f:P6}{fd:F6}(F:Fun K "_law_exchanged" "_law_exchanged" cR f fd):FnOk P w K mg base CX0 2 f fd ["_law_pot_here","_law_blade","_law_wide","_law_high","_law_tree_here"] (spExch 0):=by
 exists scexch
 ·obtain⟨p,b,W,h1,ks,v,T,rfl,_⟩:=h
  rfl
 ·obtain⟨p,b,W,h1,ks,v,T,rfl,_,_,_,_,z,_⟩:=h;exact absurd z (E7 _)
theorem nJ{f:P6}{fd:F6}(F:Fun K "_law_exchanged" "_law_exchanged" cR f fd)(B:Blt mg)(DD:Dn P w K mg base "_law_draw" ["_law_pot_here","_law_many"] 1 (eG))(mk:∀n,FnOk P w K mg base CX0 (2+n) f fd ["_law_pot_here","_law_blade","_law_wide","_law_high","_law_tree_here"] (spExch n)->Dn P w K mg base "_law_exchanged" ["_law_pot_here","_law_blade","_law_wide","_law_high","_law_tree_here"] (2+n) (spExch n)):∀n,FnOk P w K mg base CX0 (2+n) f fd ["_law_pot_here","_law_blade","_law_wide","_law_high","_law_tree_here"] (spExch n)
 | 0=>wO F
 | n+1=>yX F B n DD (mk n (nJ F B DD mk n))
def sgL(b:Int)(ks:QA Kd)(t:Tr)(w h:Nat):QA Int:=(Lp "abcdefgh.,+").map λ c=>Txt.count (Txt.join "" (fL b ks t w h)) %[|#[c]]
theorem AQ{b:Int}{ks:QA Kd}(b0:0<=b){t u:Tr}{w h:Nat}(w0:1<=w)(h0:1<=h)(o1:okT b ks w h t)(o2:okT b ks w h u)(e:bz b t w h=bz b u w h):sgL b ks t w h=sgL b ks u w h :=
 N2 λ c _=>AO c b0 w0 h0 o1 o2 e
theorem wP(L:QA Str):(Txt.join "" L).length=(L.map (·.length)).sum:=by show(Builtin.Str.glued "" L).length=_;rw[PySem.size_glued,show(Str.ofString "").length=0 by decide +kernel,Nat.mul_zero,Nat.add_zero]
theorem wQ(b:Int)(ks:QA Kd)(t:Tr)(w h:Nat):(fL b ks t w h).length=h/\∀x∈fL b ks t w h,x.length=w:=by unfold fL;refine%[by rw[G4,M6]|λ x hx=>?_];obtain⟨k,_,rfl⟩:=K7.mp hx;rw[wP,N0];exact(kh _ _ λ c _=>gm b ks t _ _ _ _ _ _).trans M6
theorem wR{α:Type}{f:α->Nat}{m:Nat}:∀{l:QA α},(∀x∈l,f x=m)->(l.map f).sum=l.length * m
 | [],_=>(Nat.zero_mul _).symm
 | x :: l,h=>by rw[J0,J6,h x B7,wR λ y hy=>h y (B4 _ hy),G8,Nat.add_mul,Nat.one_mul,Nat.add_comm]
theorem wS:(Lp "abcdefgh.,+").length=11:=∅
structure Lot where
 cs:QA Int
 wo:Int
 ar:QA Int
 tu:Int
 sg:QA Int
def gI(b:Int)(ks:QA Kd)(t:Tr)(w h:Nat):Lot:=%[bK (pcs b t w h) ks.length,(((bK (pcs b t w h) ks.length).zip ks).map λ z=>z.1 * z.2.wo).sum,[bt (pcA ks) (lvs b t 0 0 w h),bt rsA (lvs b t 0 0 w h),bt (mgA ks) (lvs b t 0 0 w h),w * h - bt (pcA ks) (lvs b t 0 0 w h) - bt rsA (lvs b t 0 0 w h) - bt (mgA ks) (lvs b t 0 0 w h)],(tn t none 0:Nat)|sgL b ks t w h]
theorem AR{b:Int}{ks:QA Kd}(b0:0<=b){t u:Tr}{w h:Nat}(w0:1<=w)(h0:1<=h)(o1:okT b ks w h t)(o2:okT b ks w h u)(e:bz b t w h=bz b u w h):gI b ks t w h=gI b ks u w h:=by
 have p:=gf e;have e1:=jX ks.length p;have e2:bt (pcA ks) (lvs b t 0 0 w h)=bt (pcA ks) (lvs b u 0 0 w h):=cS (g':=λ z=>pcA ks %[0,0,z.1,z.2.1|z.2.2]) (λ f=>rfl) p;have e3:bt rsA (lvs b t 0 0 w h)=bt rsA (lvs b u 0 0 w h):=cS (g':=λ z=>rsA %[0,0,z.1,z.2.1|z.2.2]) (λ f=>rfl) p;have e4:bt (mgA ks) (lvs b t 0 0 w h)=bt (mgA ks) (lvs b u 0 0 w h):=cS (g':=λ z=>mgA ks %[0,0,z.1,z.2.1|z.2.2]) (λ f=>rfl) p;have e5:tn t none 0=tn u none 0:=by rw[rM b t w h,rM b u w h,e]
 unfold gI;rw[e1,e2,e3,e4,e5,AQ b0 w0 h0 o1 o2 e]
inductive LotAt(H:Hp):V->Lot->Prop
|mk{r c a s:P6}{x:Lot}(h:H r=↥[.ref c,.int x.wo,.ref a,.int x.tu,.ref s])(hc:H c=↥(x.cs.map V.int))(ha:H a= ~~~(x.ar.map V.int))(hs:H s=↥(x.sg.map V.int)):LotAt H (.ref r) x
theorem LotAt.same{H H':Hp}(s:Same H H'){v:V}{x:Lot}(h:LotAt H v x):LotAt H' v x:=by
 cases h with
 | mk h hc ha hs=>exact .mk (s _ _ h) (s _ _ hc) (s _ _ ha) (s _ _ hs)
theorem yY{K:C4}{H:Hp}:∀ns:QA Int,DatVs K H (ns.map V.int) (ns.map PyData.int)
 | []=>.nil
 | _ :: r=>.cons (.int _) (yY r)
theorem dF:∀ns:QA Int,PyData.canLayAll0 (ns.map PyData.int)=true/\PyData.depthAll (ns.map PyData.int)=0
 | []=>%[Y|Y]
 | n :: ns=>by obtain⟨h1,h2⟩:=dF ns;refine%[by simp only[J0,PyData.canLayAll0,PyData.canLay0,M4];exact h1|?_];show max 0 (PyData.depthAll (ns.map PyData.int))=0;lia
def yZ(x:Lot):PyData:=.list [.list (x.cs.map PyData.int),.int x.wo,.tuple (x.ar.map PyData.int),.int x.tu,.list (x.sg.map PyData.int)]
theorem LotAt.dat{K:C4}{H:Hp}{v:V}{x:Lot}(h:LotAt H v x):DatV K H v (yZ x):=by
 cases h with
 | mk h hc ha hs=>exact .lst (G1 h) (.cons (.lst (G1 hc) (yY _)) (.cons (.int _) (.cons (.tup (G0 ha) (yY _)) (.cons (.int _) (.cons (.lst (G1 hs) (yY _)) .nil)))))
theorem za(x:Lot):(yZ x).canLay0=true/\(yZ x).depth<=210:=by obtain⟨h1,h2⟩:=dF x.cs;obtain⟨h3,h4⟩:=dF x.ar;obtain⟨h5,h6⟩:=dF x.sg;unfold yZ;refine%[by simp only[PyData.canLay0,PyData.canLayAll0,h1,h3,h5,K8]|?_];show max (PyData.depthAll (x.cs.map PyData.int)+1) (max 0 (max (PyData.depthAll (x.ar.map PyData.int)+1) (max 0 (max (PyData.depthAll (x.sg.map PyData.int)+1) 0))))+1<=210;exact Nat.succ_le_succ (O6.mpr %[⋯|O6.mpr %[∅|O6.mpr %[⋯|O6.mpr %[∅|O6.mpr %[⋯|∅]]]]])
inductive spSigns(C:P6)(vs:QA V)(H:Hp)(Q:VK)(E_:XK):Prop
|mk(pp s:P6)(b:Int)(w h:Nat)(ks:QA Kd)(v:V)(d:PyData)(t:Tr)(_:vs=[.ref s,.int w,.int h,v])(_:TrH C pp s b w h ks v d t H)(_:0<=b)(_:w<=60)(_:h<=60)(_:(∀k∈ks,Good k))(_:ks.length<=8)(_:∀(l:P6)(H':Hp),H' l=↥((sgL b ks t w h).map V.int)->Same H H'->Q (.ref l) H')
inductive spLot(C:P6)(vs:QA V)(H:Hp)(Q:VK)(E_:XK):Prop
|mk(pp s:P6)(b:Int)(w h:Nat)(ks:QA Kd)(v:V)(d:PyData)(t:Tr)(_:vs=[.ref s,.int w,.int h,v])(_:TrH C pp s b w h ks v d t H)(_:0<=b)(_:w<=60)(_:h<=60)(_:(∀k∈ks,Good k))(_:ks.length<=8)(_:∀(r:V)(H':Hp),LotAt H' r (gI b ks t w h)->Same H H'->Q r H')
theorem scsigns:FnScope ["_law_shop","_law_wide","_law_high","_law_tree_here","_law_text"] ["_law_shop","_law_wide","_law_high","_law_tree_here"] (defScope jL):=%[Y,Y,Y,∅,Y,∅|∅]
theorem wT{f C:P6}{fd:F6}(F:Fun K "_law_signs" "_law_signs" jL f fd)(DPi:Dn P w K mg base "picture" ["shop","wide","high","tree"] 8 (spPicture C)):FnOk P w K mg base CX0 9 f fd ["_law_shop","_law_wide","_law_high","_law_tree_here"] (spSigns C):=by
 exists scsigns
 ·obtain⟨pp,s,b,W,h,ks,v,d,t,rfl,_⟩:=h
  rfl
 obtain⟨pp,s,b,W,h,ks,v,d,t,rfl,th,b0,w60,h60,gk,k8,q⟩:=h;have nd:=scsigns.nd;refine%[_,((@aw _ _ 4 _ _ _ _ nd Y (Or.inr Y) (@dG _ _ _ _ _ _ _ _ _ _ _ _ PySem.F.plainAttrs_str PySem.F.slot_str_join PySem.F.type_str_join qK dR ((DPi∩((pv 0)^^^((pv 1)^^^((pv 2)^^^((pv 3)^^^ab)))))^^^ab) Y Y Y Y Y) Y (Or.inl Y))<<<((bO (own:=["_law_sign"]) (cs:=["_law_text"]) (cap:=[4]) Y (Au dR) (aL (sc:=defScope jL) (N:=["_law_shop","_law_wide","_law_high","_law_tree_here","_law_text"]) Y Y ∅) (λ _ _ _ _ _=>ai (i:=0) (by show List.Nodup (["_law_sign","_law_text"]:QA Str) ;decide +kernel) Y (Or.inl Y) (Or.inr Y)) (λ _ _ _ _ _=>bd) (λ _ _ _ _ _=>(sO K Y (pv 1) ((pv 0)^^^ab))))⁻¹))|?_];dsimp only[bJ];obtain⟨l1,l2⟩:=wQ b ks t W h;refine ao (λ R=>∀(H':Hp),Same H H'->R [↑s,⇑W,⇑h,some v,some (.str (Txt.join "" (fL b ks t W h)))] H') (λ Dd hR=>?_) ?_
 ·refine%[Y,_,Y,_,Y,_,Y,_,Y,pp,s,b,W,h,ks,v,d,t,Y,th,b0,w60,h60,gk,k8|λ l H1 hl kl s1=>%["",l,_,Y,Y,kl,∅,?_|hR _ s1]];rw[wR l2,l1];have:=Nat.mul_le_mul h60 w60;lia
 rintro H1 s1;refine%[_,Y,∅|vD (λ i ys H'=>H1=H'/\ys=((sgL b ks t W h).take i).map V.int) %[Y|Y] ?_ ?_]
 ·rintro i c ys _ hi ⟨rfl,rfl⟩;have hin:i < (Lp "abcdefgh.,+").length:=(A6.mp hi).1;have i11:i < 11:=by rw[<- wS];exact hin
  have sz:(100:Nat) < sizeLine:=∅
  have tk:(sgL b ks t W h).take (i+1)=(sgL b ks t W h).take i ++ [Txt.count (Txt.join "" (fL b ks t W h)) %[|#[c]]]:=by rw[J5];unfold sgL;rw[J2,hi];rfl
  refine%[by rw[G4,J3];lia,leS.set rfl|bg %[_,Y,Y,_,Y,_,_,Y,Y|Nx.of hin %[Y|?_]]];rw[tk,I9];rfl
 ·rintro ys _ ⟨rfl,rfl⟩;have sz:(100:Nat) < sizeLine:=∅
  rw[K1 (by unfold sgL;rw[G4];exact B3 _)];refine%[by rw[G4];unfold sgL;rw[G4,wS];lia|λ l hl=>q l _ af (s1.trans (F9 hl))]
theorem sclot:FnScope ["_law_shop","_law_wide","_law_high","_law_tree_here","_law_found"] ["_law_shop","_law_wide","_law_high","_law_tree_here"] (defScope ym):=%[Y,Y,Y,∅,Y,∅|∅]
theorem AS{f C:P6}{fd:F6}(F:Fun K "_law_lot" "_law_lot" ym f fd)(B:Blt mg)(DCo:Dn P w K mg base "counts_of" ["shop","wide","high","tree"] 9 (spCountsO C))(DWo:Dn P w K mg base "worth_of" ["shop","wide","high","tree"] 10 (spWorthO C))(DAr:Dn P w K mg base "areas_of" ["shop","wide","high","tree"] 8 (spAreas C))(DTn:Dn P w K mg base "turns_of" ["shop","wide","high","tree"] 8 (spTurns C))(DSg:Dn P w K mg base "_law_signs" ["_law_shop","_law_wide","_law_high","_law_tree_here"] 9 (spSigns C)):FnOk P w K mg base CX0 11 f fd ["_law_shop","_law_wide","_law_high","_law_tree_here"] (spLot C):=by
 exists sclot
 ·obtain⟨pp,s,b,W,h,ks,v,d,t,rfl,_⟩:=h
  rfl
 obtain⟨pp,s,b,W,h,ks,v,d,t,rfl,th,b0,w60,h60,gk,k8,q⟩:=h;have nd:=sclot.nd;refine%[_,((4∣(@bu _ _ _ _ ((DCo∩((pv 0)^^^((pv 1)^^^((pv 2)^^^((pv 3)^^^ab)))))^^^((DWo∩((pv 0)^^^((pv 1)^^^((pv 2)^^^((pv 3)^^^ab)))))^^^((DAr∩((pv 0)^^^((pv 1)^^^((pv 2)^^^((pv 3)^^^ab)))))^^^ab)))))<<<(((pv 4)|||uS|||(@bu _ _ _ _ ((DTn∩((pv 0)^^^((pv 1)^^^((pv 2)^^^((pv 3)^^^ab)))))^^^((DSg∩((pv 0)^^^((pv 1)^^^((pv 2)^^^((pv 3)^^^ab)))))^^^ab))))⁻¹))|?_];have szt:=dP t;have l63:=th.ln;have w61:(W:Int)<=10 ^ 60:=P5 ⋯ (show(60:Int)<=10 ^ 60 by decide);have h61:(h:Int)<=10 ^ 60:=P5 ⋯ (show(60:Int)<=10 ^ 60 by decide);refine ao (λ R=>∀(fo c ar:P6)(H':Hp),H' fo=↥[.ref c,.int (gI b ks t W h).wo,.ref ar]->H' c=↥((gI b ks t W h).cs.map V.int)->H' ar= ~~~((gI b ks t W h).ar.map V.int)->Same H H'->R [↑s,⇑W,⇑h,some v,↑fo] H') (λ Dd hR=>?_) ?_
 ·refine%[_,Y,_,Y,_,Y,_,Y,pp,s,b,W,h,ks,v,d,t,Y,th,k8|λ c H1 hc k1 s1=>?_];refine%[_,Y,_,Y,_,Y,_,Y,pp,s,b,W,h,ks,v,d,t,Y,th.same s1,k8,gk|λ H2 s2=>?_];have s02:=s1.trans s2;refine%[_,Y,_,Y,_,Y,_,Y,pp,s,b,W,h,ks,v,d,t,Y,th.same s02,b0,w61,h61,gk|λ ar A R' M H3 eA eR eM har k3 s3=>%[zS3|λ fo hfo=>?_]];generalize hH4:upd H3 fo _=H4;have k4:H4 fo=↥[.ref c,.int (gI b ks t W h).wo,.ref ar]:=by subst hH4;exact af
  have s4:Same H3 H4:=by subst hH4;exact F9 hfo
  subst eA eR eM;exact hR fo c ar _ k4 (s4 _ _ (s3 _ _ (s2 _ _ k1))) (s4 _ _ k3) (s02.trans (s3.trans s4))
 rintro fo c ar H1 hfo hc har s1;have th1:=th.same s1;refine%[_,Y,_,Y,_,Y,_,Y,_,Y,pp,s,b,W,h,ks,v,d,t,Y,th1.sh,th1.w1,th1.h1,th1.dt,(by have:=th1.wd;lia),th1.td,th1.ok,⋯|λ H2 s2=>?_];refine%[_,Y,_,Y,_,Y,_,Y,pp,s,b,W,h,ks,v,d,t,Y,th1.same s2,b0,w60,h60,gk,k8|λ sg H3 k3 s3=>%[zS2|λ t1 ht1=>?_]];generalize hH4:upd H3 t1 _=H4;have k4:H4 t1=↥[.int (gI b ks t W h).tu,.ref sg]:=by subst hH4;exact af
 have s4:Same H3 H4:=by subst hH4;exact F9 ht1
 have s14:=s2.trans (s3.trans s4);refine%[fo,t1,_,_,Y,Y,s14 _ _ hfo,k4,zS5|λ r hr=>?_];generalize hH5:upd H4 r _=H5;have k5:H5 r=↥([.ref c,.int (gI b ks t W h).wo,.ref ar] ++ [.int (gI b ks t W h).tu,.ref sg]):=by subst hH5;exact af
 have s5:Same H4 H5:=by subst hH5;exact F9 hr
 have s15:=s14.trans s5;exact q (.ref r) H5 (.mk k5 (s15 _ _ hc) (s15 _ _ har) (s5 _ _ (s4 _ _ k3))) (s1.trans s15)
def rsC(ks:QA Kd)(g:Stn):Int:=g.pu - thr g - mdc ks g
theorem wU(b:Int)(t:Tr)(x y w h:Int):(lvs b t x y w h).length=lvN t:=(TrD.many (b:=b) t _ x y w h (TrD.to t)).1
theorem iL:∀{nu:Int}{l:QA (Int×Int)}{z:Int×Int×Int},z∈ck nu l->nu<=z.1/\z.1 < nu+l.length/\z.2∈l
 | _,[],_,h=>(J1 h).elim
 | nu,y :: l,z,h=>by
  rw[ck]at h;rw[G8];rcases G5.mp h with e | h
  ·rw[e];exact%[E3 _,by show nu < nu+((l.length+1:Nat):Int);lia|B7]
  ·obtain⟨h1,h2,h3⟩:=iL h;exact%[⋯,⋯|B4 _ h3]
theorem wV{le:Int}{rs:QA Rst}{z:Int×Int}(h:z∈bn le rs):∃r∈rs,z=(r.w,r.h):=by unfold bn at h;obtain⟨r,hr,e⟩:=K7.mp h;exact%[r,(List.mem_filter.mp hr).1|e.symm]
theorem wW(le:Int)(rs:QA Rst):(bn le rs).length<=rs.length:=by unfold bn;rw[G4];exact K0 _ _
theorem wX{b:Int}{t:Tr}{w h:Int}{r:Rst}(hr:r∈nD b t w h):∃f∈lvs b t 0 0 w h,r.w=f.w/\r.h=f.h:=by
 obtain⟨f,hf,e⟩:=List.mem_filterMap.mp hr;refine%[f,hf|?_];unfold lfR at e
 split at e
 ·cases e;exact%[Y|Y]
 ·cases e
inductive AskA(ks:QA Kd)(H0 H:Hp):V->Stn->Prop
|mk{l l1 l2 t:P6}{rs:QA V}{g:Stn}(_:H0 l=none)(_:H0 l1=none)(_:H0 l2=none)(e:H l=↥[.ref l1,.ref l2,.ref t])(_:H l1=↥rs)(pr:Paired (PlA H) rs g.pl)(_:H l2=↥(g.md.map V.int))(_:H t= ~~~[.int g.pu,.int (thr g),.int (mdc ks g),.int (rsC ks g)]):AskA ks H0 H (.ref l) g
def plD(q:Int×Int×Int):PyData:=.tuple [.int q.1,.int q.2.1,.int q.2.2]
def oW(ks:QA Kd)(g:Stn):PyData:=.list [.list (g.pl.map plD),.list (g.md.map PyData.int),.tuple [.int g.pu,.int (thr g),.int (mdc ks g),.int (rsC ks g)]]
theorem PlA.dat{K:C4}{H:Hp}:∀{rs:QA V}{qs:QA (Int×Int×Int)},Paired (PlA H) rs qs->DatVs K H rs (qs.map plD)
 | _,_,.nil=>.nil
 | _,_,.cons ⟨a,e,h⟩ r=>by subst e;exact .cons (.tup (G0 h) (.cons (.int _) (.cons (.int _) (.cons (.int _) .nil)))) (PlA.dat r)
theorem rQ:∀qs:QA (Int×Int×Int),PyData.canLayAll0 (qs.map plD)=true/\PyData.depthAll (qs.map plD)<=1
 | []=>%[Y|E6 _]
 | q :: r=>by obtain⟨h1,h2⟩:=rQ r;refine%[by simp[plD,PyData.canLayAll0,PyData.canLay0,h1]|?_];simp only[J0,plD,PyData.depthAll,PyData.depth];lia
theorem AT{X:Cx}(K:C4)(hK:X.K=K):OpR X (compareOp .In) (rIn K false):=hK ▸ fR
def FrL(M:QA P6)(H H':Hp):Prop:=∀c o,c∉M->H c=some o->H' c=some o
theorem FrL.trans{M:QA P6}{H H' H'':Hp}(a:FrL M H H')(b:FrL M H' H''):FrL M H H'':=λ c o n e=>b c o n (a c o n e)
theorem Same.frL{M:QA P6}{H H':Hp}(s:Same H H'):FrL M H H':=λ _ _ _ e=>s _ _ e
theorem FrS.frL{M:QA P6}{s p:P6}{H H':Hp}(x:FrS s p H H')(h:s∈M)(h':p∈M):FrL M H H':=λ _ _ n e=>x _ _ (λ z=>n (z ▸ h)) (λ z=>n (z ▸ h')) e
def AskM(K:C4)(M:QA P6)(ks:QA Kd)(H:Hp)(v:V)(g:Stn):Prop:=∀H',FrL M H H'->∃a,v=.ref a/\DatV K H' (.ref a) (oW ks g)
theorem AskM.fr{K:C4}{M:QA P6}{ks:QA Kd}{H H':Hp}{v:V}{g:Stn}(h:AskM K M ks H v g)(f:FrL M H H'):AskM K M ks H' v g:=λ H'' f'=>h H'' (f.trans f')
theorem AskA.m{K:C4}{M:QA P6}{ks:QA Kd}{H0 H:Hp}{v:V}{g:Stn}(h:AskA ks H0 H v g)(oc:∀m∈M,H0 m≠none)(nt:∀m∈M,∀xs,H m≠some (.tup xs)):AskM K M ks H v g:=λ H' f=>by
 cases h with
 | @mk l l1 l2 t rs _ h0 h1 h2 e e1 pr e2 e3=>
  have kt:∀a xs,H a= ~~~xs->H' a= ~~~xs:=λ a xs ea=>f _ _ (λ z=>nt _ z _ ea) ea;have kf:∀a o,H0 a=none->H a=some o->H' a=some o:=λ a o n ea=>f _ _ (λ z=>oc _ z n) ea;exact%[l,Y|.lst (G1 (kf _ _ h0 e)) (.cons (.lst (G1 (kf _ _ h1 e1)) (PlA.dat (G2 pr λ v q h=>h.keep kt))) (.cons (.lst (G1 (kf _ _ h2 e2)) (vf _)) (.cons (.tup (G0 (kt _ _ e3)) (.cons (.int _) (.cons (.int _) (.cons (.int _) (.cons (.int _) .nil))))) .nil)))]
theorem StoreAt.nt{CS C s sh pa:P6}{H:Hp}{b le:Int}{ks:QA Kd}{g:Stn}{gs:QA Stn}(x:StoreAt CS C H s sh b ks le g gs pa):(H s≠none/\∀xs,H s≠some (.tup xs))/\H pa≠none/\∀xs,H pa≠some (.tup xs):=by obtain⟨dx,sg,ps,hs,sp,st,hp,_⟩:=x.look;rw[hs,hp];exact%[%[by simp|by simp],by simp|by simp]
theorem ij{s pa:P6}{H H1 H2:Hp}(f:FrS s pa H1 H2)(sm:Same H H1)(a:H s=none)(b:H pa=none):Same H H2:=λ c o e=>f _ _ (λ z=>by rw[z,a]at e;cases e) (λ z=>by rw[z,b]at e;cases e) (sm _ _ e)
theorem wY(ks:QA Kd)(g:Stn):(oW ks g).canLay0=true/\SeqAt.shaped (oW ks g)=true:=by
 obtain⟨h1,h2⟩:=rQ g.pl;obtain⟨h3,h4⟩:=dF g.md;have c:(oW ks g).canLay0=true:=by unfold oW;simp only[PyData.canLay0,PyData.canLayAll0,h1,h3,K8]
 have d:(oW ks g).depth<=64:=by show max (PyData.depthAll (g.pl.map plD)+1) (max (PyData.depthAll (g.md.map PyData.int)+1) (max (max 0 (max 0 (max 0 (max 0 0)))+1) 0))+1<=64;exact Nat.succ_le_succ (O6.mpr %[⋯|O6.mpr %[⋯|∅]])
 refine%[c|?_];unfold SeqAt.shaped;rw[c,QG d];rfl
def GM(g:Stn)(w h:Int):Stn:=%[g.pl ++ [(g.nu,w,h)],g.nu+1,g.md|g.pu+w * h]
def gP(n:Nat)(W h:Int):Stn:=GM %[[],0,List.replicate n 0|0] (W+1) h
def gQ(n:Nat)(W h:Int):Stn:=GM (gP n W h) W h
def kpA(le:Int)(z:Int×Int×Tr):Int:=match z.2.2 with
 | .rest=>if kpB le %[0,0,z.1|z.2.1]=true then z.1 * z.2.1 else 0
 | _=>0
theorem gn(le:Int):∀fs:QA Lf,((bn le (fs.filterMap lfR)).map λ z=>z.1 * z.2).sum=bt (λ f=>kpA le (mLf f)) fs
 | []=>rfl
 | ⟨x,y,w,h,.rest⟩ :: fs=>by
  have ih:=gn le fs;unfold bt at ih ⊢;rw[J0,J6,<- ih];unfold bn;show List.sum (List.map _ (List.map _ (List.filter _ ((%[x,y,w|h]:Rst) :: fs.filterMap lfR))))=kpA le (w,h,.rest)+_;rw[M9];show _=(if kpB le %[0,0,w|h]=true then w * h else 0)+_;have e:kpB le %[x,y,w|h]=kpB le %[0,0,w|h]:=rfl
  by_cases c:kpB le %[0,0,w|h]=true
  ·rw[QI c,QI (e.trans c)];simp
  ·rw[QH c,QH (λ z=>c (e.symm.trans z)),O8]
 | ⟨x,y,w,h,.piece ..⟩ :: fs=>by have ih:=gn le fs;unfold bt at ih ⊢;rw[J0,J6,<- ih];exact(O8 _).symm
 | ⟨x,y,w,h,.cut ..⟩ :: fs=>by have ih:=gn le fs;unfold bt at ih ⊢;rw[J0,J6,<- ih];exact(O8 _).symm
def cLs(p t m:Int):QA Int:=[p,t,m,p - t - m]
def gu(le b:Int)(ks:QA Kd)(T:Tr)(W h:Int):QA Int:=cLs ((W+1) * h+W * h) ((W+1) * h+bt (λ f=>kpA le (mLf f)) (lvs b T 0 0 W h)) (((bK (pcs b T W h) ks.length).zip ks).map λ z=>z.1 * z.2.w * z.2.h).sum
theorem AU{le b:Int}{ks:QA Kd}{t u:Tr}{w h:Int}(e:bz b t w h=bz b u w h):gu le b ks t w h=gu le b ks u w h:=by have p:=gf e;unfold gu;rw[jX ks.length p,cS (λ f=>rfl) p]
theorem nL:∀cs:QA Int,List.zipWith (· + ·) (List.replicate cs.length 0) cs=cs
 | []=>rfl
 | c :: cs=>by show(0+c) :: List.zipWith _ (List.replicate cs.length 0) cs=_;rw[nL cs,O8]
theorem lh:∀(nu:Int)(l:QA (Int×Int)),((ck nu l).map λ q=>q.2.1 * q.2.2).sum=(l.map λ z=>z.1 * z.2).sum
 | _,[]=>rfl
 | nu,z :: l=>by rw[ck,J0,J6,lh (nu+1) l,J0,J6]
theorem tM{l l':QA (Int×Int)}(h:l.Perm l'):(l.map λ z=>z.1 * z.2).sum=(l'.map λ z=>z.1 * z.2).sum:=lg (h.map _)
theorem zb{le b:Int}{ks:QA Kd}{T:Tr}{W h:Int}{rs:QA Rst}(pm:rs.Perm (nD b T W h)) :
  let g:=tK le (gQ ks.length W h) (0+1,W,h) rs (bK (pcs b T W h) ks.length)
  g.pl=(0,W+1,h) :: ck (0+1+1) (bn le rs)/\g.md=bK (pcs b T W h) ks.length/\g.pu=(W+1) * h+W * h/\cLs g.pu (thr g) (mdc ks g)=gu le b ks T W h:=by
 intro g;have e1:g.pl=(0,W+1,h) :: ck (0+1+1) (bn le rs):=by show List.filter _ [(0,W+1,h),(0+1,W,h)] ++ _=_;rw[List.filter_cons_of_pos (by simp),List.filter_cons_of_neg (by simp)];rfl
 have e2:g.md=bK (pcs b T W h) ks.length:=by show List.zipWith (· + ·) (List.replicate ks.length 0) _=_;have:=nL (bK (pcs b T W h) ks.length);rw[cW]at this;exact this
 have e3:g.pu=(W+1) * h+W * h:=by show 0+(W+1) * h+W * h=_;rw[O8]
 refine%[e1,e2,e3|?_];have e4:thr g=(W+1) * h+bt (λ f=>kpA le (mLf f)) (lvs b T 0 0 W h):=by unfold thr;rw[e1,J0,J6,lh];have:(bn le rs).Perm (bn le (nD b T W h)):=(pm.filter _).map _;rw[tM this];show _+List.sum (List.map _ (bn le ((lvs b T 0 0 W h).filterMap lfR)))=_;rw[gn]
 unfold mdc gu;rw[e2,e3,e4]
theorem zc{ps:QA Pce}{n:Nat}{z:Int}(h:z∈bK ps n):0<=z/\z<=ps.length:=by unfold bK at h;obtain⟨k,_,rfl⟩:=K7.mp h;have:=K0 (λ p:Pce=>p.k == k) ps;lia
inductive spInSt(C:P6)(vs:QA V)(H:Hp)(Q:VK)(E_:XK):Prop
|mk(pp s:P6)(le b w h:Int)(ks:QA Kd)(v:V)(d:PyData)(t:Tr)(_:vs=[.ref s,.int le,.int w,.int h,v])(_:TrH C pp s b w h ks v d t H)(_:1<=le)(_:0<=b)(_:w<=60)(_:h<=60)(_:(∀k∈ks,Good k))(_:ks.length<=8)(_:∀(a:P6)(H':Hp),H' a= ~~~((gu le b ks t w h).map V.int)->Same H H'->Q (.ref a) H')
theorem scinst:FnScope ["_law_shop","_law_least","_law_wide","_law_high","_law_tree_here","_law_store","_law_first","_law_number_here","_law_before","_law_came","_law_cells"] ["_law_shop","_law_least","_law_wide","_law_high","_law_tree_here"] (defScope fI):=%[Y,Y,Y,∅,Y,∅|∅]
theorem zd{f C CS:P6}{fd:F6}(F:Fun K "_law_in_store" "_law_in_store" fI f fd)(B:Blt mg)(TS:StoreTxt K CS)(MPu:Mn P w K mg base CS "put" ["self","wide","high"] 3 (spPut CS C))(MCu:Mn P w K mg base CS "cut" ["self","number","tree"] 10 (spCutS CS C))(MPl:Mn P w K mg base CS "plates" ["self"] 1 (spPlates CS C))(MMd:Mn P w K mg base CS "made" ["self"] 1 (spMade CS C))(MCe:Mn P w K mg base CS "cells" ["self"] 2 (spCells CS C))(MU:Mn P w K mg base CS "undo" ["self"] 1 (spUndo CS C))(DCo:Dn P w K mg base "counts_of" ["shop","wide","high","tree"] 9 (spCountsO C))(DSt:Kn P w K mg base "Store" CS ["self","shop","least"] 2 (spSInit CS C)):FnOk P w K mg base CX0 12 f fd ["_law_shop","_law_least","_law_wide","_law_high","_law_tree_here"] (spInSt C):=by
 exists scinst
 ·obtain⟨pp,sh,le,b,W,h,ks,v,d,T,rfl,_⟩:=h
  rfl
 obtain⟨pp,sh,le,b,W,h,ks,v,d,T,rfl,th,le1,b0,w60,h60,gk,k8,q⟩:=h;have nd:=scinst.nd;have hu:=hr.units;refine%[_,((5∣(zO DSt (hr.mono ∅) Y ((pv 0)^^^((pv 1)^^^ab))))<<<((@aw _ _ 6 _ _ _ _ nd Y (Or.inr Y) (fC (pv 5) TS.cl MPu (hr.mono ∅) (((pv 2)|||aM|||ae)^^^((pv 3)^^^ab))) Y (Or.inl Y))<<<((@aw _ _ 7 _ _ _ _ nd Y (Or.inr Y) (fC (pv 5) TS.cl MPu (hr.mono ∅) ((pv 2)^^^((pv 3)^^^ab))) Y (Or.inl Y))<<<((8∣(@bu _ _ _ _ ((bW (pv 5) TS.cl MPl (hr.mono ∅))^^^((bW (pv 5) TS.cl MMd (hr.mono ∅))^^^((bW (pv 5) TS.cl MCe (hr.mono ∅))^^^ab)))))<<<((9∣(fC (pv 5) TS.cl MCu (hr.mono ∅) ((pv 7)^^^((pv 4)^^^ab))))<<<(((PW.pt (bS ((bO (own:=["_law_one"]) (cs:=["_law_first","_law_number_here"]) (cap:=[6,7]) Y (cm (pv 9)) (aL (sc:=defScope fI) (N:=["_law_shop","_law_least","_law_wide","_law_high","_law_tree_here","_law_store","_law_first","_law_number_here","_law_before","_law_came","_law_cells"]) Y Y ∅) (λ _ _ _ _ _=>ai (i:=0) (by show List.Nodup (["_law_one","_law_first","_law_number_here"]:QA Str) ;decide +kernel) Y (Or.inl Y) (Or.inr Y)) (λ _ _ _ _ _=>(fB (@aB _ _ _ _ _ _ _ _ (AT K Y) (pv 0) (@aD _ _ _ _ _ ((pv 1)^^^((pv 2)^^^ab))) Y))) (λ _ _ _ _ _=>(pv 0)))<*>(lG hu)<*>(@bu _ _ _ _ ab)) (bR ((bW (pv 5) TS.cl MMd (hr.mono ∅))<*>(lG hu)<*>(DCo∩((pv 0)^^^((pv 2)^^^((pv 3)^^^((pv 4)^^^ab)))))))))<|>(fg⁻¹)<|>aF)<<<((10∣(bW (pv 5) TS.cl MCe (hr.mono ∅)))<<<(((PW.pt (bS (((pv 10)&&&ix_tup&&&ae)<*>gM<*>(((ae|||dS|||(pv 2))|||aM|||ae)|||dS|||(pv 3))) (bR (((pv 10)&&&ix_tup&&&ae)<*>gM<*>(@aI _ _ _ _ _ _ _ _ _ (sJ Y) Y B.sum Qe ((@mI _ _ _ _ _ _ _ _ _ _ Ak (pv 10) (qB ae) qA)^^^ab) ∅ ∅ Y Y)))))<|>(fg⁻¹)<|>aF)<<<(((PW.pt (bS ((bW (pv 5) TS.cl MU (hr.mono ∅))<*>vo<*>cD) (bR ((@bu _ _ _ _ ((bW (pv 5) TS.cl MPl (hr.mono ∅))^^^((bW (pv 5) TS.cl MMd (hr.mono ∅))^^^((bW (pv 5) TS.cl MCe (hr.mono ∅))^^^ab))))<*>(lG hu)<*>(pv 8)))))<|>(fg⁻¹)<|>aF)<<<((pv 10)⁻¹))))))))))|?_];dsimp only[bJ];have e60:(1000:Int)<=10 ^ 60:=∅
 have w1:=th.w1;have h1:=th.h1;have l63:=th.ln;refine ao (λ R=>∀s pa (H':Hp),H s=none->H pa=none->StoreAt CS C H' s sh b ks le %[[],0,List.replicate ks.length 0|0] [] pa->Same H H'->R [↑sh,⇑le,⇑W,⇑h,some v,↑s,none,none,none,none,none] H') (λ Dd hR=>?_) ?_
 ·refine%[_,Y,_,Y|λ x dx hx hdx ne=>?_];have sm:Same H (upd (upd H dx (.own x)) x (.ins CS dx [])):=kU hx hdx;have xm:(upd (upd H dx (.own x)) x (.ins CS dx [])) x=some (.ins CS dx []):=af;generalize upd (upd H dx (.own x)) x (.ins CS dx [])=H1 at sm xm ⊢;exact%[x,dx,sh,b,le,ks,Y,xm,bI sm th.sh,k8,le1|λ pa H2 hpa x2 kp=>%[Y|hR x pa _ hx (sm.free hpa) x2 (λ c o e=>kp _ _ (λ z=>by rw[z,hx]at e;cases e) (sm _ _ e))]]
 rintro s pa H1 hs0 hpa0 x1 s1;refine ao (λ R=>∀(H':Hp),StoreAt CS C H' s sh b ks le (gP ks.length W h) [%[[],0,List.replicate ks.length 0|0]] pa->Same H H'->R [↑sh,⇑le,⇑W,⇑h,some v,↑s,⇑0,none,none,none,none] H') (λ Dd hR=>?_) ?_
 ·obtain⟨dx,sg,ps,hs,_⟩:=x1.look;exact%[_,Y,s,dx,_,Y,hs,cZ _ _ _ _ ∅ ∅ ∅ ∅,_,Y,_,_,Y,Y,_,Y,s,sh,pa,b,le,W+1,h,ks,_,[],Y,x1,E6 _,E6 _,⋯,⋯,⋯,⋯|λ H2 x2 f2=>hR _ x2 (ij f2 s1 hs0 hpa0)]
 clear x1 s1;rintro H2 x2 s2;refine ao (λ R=>∀(H':Hp),StoreAt CS C H' s sh b ks le (gQ ks.length W h) [%[[],0,List.replicate ks.length 0|0],gP ks.length W h] pa->Same H H'->R [↑sh,⇑le,⇑W,⇑h,some v,↑s,⇑0,⇑(0+1),none,none,none] H') (λ Dd hR=>?_) ?_
 ·obtain⟨dx,sg,ps,hs,_⟩:=x2.look;exact%[_,Y,s,dx,_,Y,hs,cZ _ _ _ _ ∅ ∅ ∅ ∅,_,Y,_,Y,s,sh,pa,b,le,W,h,ks,_,_,Y,x2,(by decide:1<=1000),(by decide:1<=10000),⋯,⋯,⋯,⋯|λ H3 x3 f3=>hR _ x3 (ij f3 s2 hs0 hpa0)]
 clear x2 s2;rintro H3 x3 s3;have plB:AK (gQ ks.length W h):=⟨(by decide:2<=10000),λ q hq=>by
  have hq:q∈[(0,W+1,h),(0+1,W,h)]:=hq;simp only[G5,J1,QO]at hq;rcases hq with rfl | rfl
  ·exact%[by show 1<=W+1;lia,by show W+1<=_;lia,h1|by show h<=_;lia]
  ·exact%[w1,by show W<=_;lia,h1|by show h<=_;lia]⟩
 have mdB:AL ks (gQ ks.length W h):=%[J8|λ z hz=>by rw[(List.mem_replicate.mp hz).2];exact%[E3 _|∅]]
 have asks:∀{Hx:Hp}{gs:QA Stn}{σ:St}{k:VK},StoreAt CS C Hx s sh b ks le (gQ ks.length W h) gs pa->σ[5]?=some (↑s)->(∀r H',AskA ks Hx H' r (gQ ks.length W h)->Same Hx H'->k r H')->Gk (gv (jw CS "plates" (spPlates CS C) [] E0 (tVar 5) ko) (gv (jw CS "made" (spMade CS C) [] E0 (tVar 5) ko) (gv (jw CS "cells" (spCells CS C) [] E0 (tVar 5) ko) ko))) σ Hx k:=λ {Hx gs σ k} x1 e5 q=>by obtain⟨dx,sg,ps,hs,_⟩:=x1.look;refine%[_,e5,s,dx,_,Y,hs,cZ _ _ _ _ ∅ ∅ ∅ ∅,s,sh,pa,b,le,ks,_,gs,Y,x1|λ l1 rs H1 hl1 k1 pr1 s1=>?_];have x2:=x1.same s1;obtain⟨dx,sg,ps,hs,_⟩:=x2.look;refine%[_,e5,s,dx,_,Y,hs,cZ _ _ _ _ ∅ ∅ ∅ ∅,s,sh,pa,b,le,ks,_,gs,Y,x2|λ l2 H2 hl2 k2 s2=>?_];have x3:=x2.same s2;obtain⟨dx,sg,ps,hs,_⟩:=x3.look;refine%[_,e5,s,dx,_,Y,hs,cZ _ _ _ _ ∅ ∅ ∅ ∅,s,sh,pa,b,le,ks,_,gs,Y,x3,k8,gk,plB,mdB|λ t H3 k3 s3=>%[zS3|λ l hl=>?_]];refine bZ hl λ H4 k4 s4=>?_;have s24:=s3.trans s4;have s14:=s2.trans s24;exact q _ H4 (.mk ((s1.trans (s2.trans s3)).free hl) hl1 (s1.free hl2) k4 (s14 _ _ k1) (G2 pr1 λ v q h=>h.keep λ _ _ e=>s14 _ _ e) (s24 _ _ k2) (s4 _ _ k3)) (s1.trans s14)
 refine ao (λ R=>∀be (H':Hp),AskM K [s,pa] ks H' be (gQ ks.length W h)->StoreAt CS C H' s sh b ks le (gQ ks.length W h) [%[[],0,List.replicate ks.length 0|0],gP ks.length W h] pa->Same H H'->R [↑sh,⇑le,⇑W,⇑h,some v,↑s,⇑0,⇑(0+1),some be,none,none] H') (λ Dd hR=>?_) ?_
 ·refine asks x3 rfl λ r H4 ak s4=>?_;have x4:=x3.same s4;obtain⟨⟨a1,a2⟩,a3,a4⟩:=x4.nt;obtain⟨⟨a1',a2'⟩,a3',a4'⟩:=x3.nt;refine hR r _ (ak.m (λ m hm=>?_) (λ m hm=>?_)) x4 (s3.trans s4)
  ·simp only[G5,J1,QO]at hm;rcases hm with rfl | rfl
   ·exact a1'
   ·exact a3'
  ·simp only[G5,J1,QO]at hm;rcases hm with rfl | rfl
   ·exact a2
   ·exact a4
 clear x3 s3;rintro be H4 am4 x4 s4;refine ao (λ R=>∀(rs:QA Rst)(l:P6)(H':Hp),rs.Perm (nD b T W h)->H' l=↥((ck (0+1+1) (bn le rs)).map λ z=>V.int z.1)->AskM K [s,pa] ks H' be (gQ ks.length W h)->StoreAt CS C H' s sh b ks le (tK le (gQ ks.length W h) (0+1,W,h) rs (bK (pcs b T W h) ks.length)) [%[[],0,List.replicate ks.length 0|0],gP ks.length W h,gQ ks.length W h] pa->Same H H'->R [↑sh,⇑le,⇑W,⇑h,some v,↑s,⇑0,⇑(0+1),some be,↑l,none] H') (λ Dd hR=>?_) ?_
 ·obtain⟨dx,sg,ps,hs,_⟩:=x4.look;refine%[_,Y,s,dx,_,Y,hs,cZ _ _ _ _ ∅ ∅ ∅ ∅,_,Y,_,Y,pp,s,sh,pa,b,le,ks,_,_,v,d,T,1,(0+1,W,h),Y,x4,(by decide:2<=1000),(by decide:2<=10000),(by show(0:Int)<=0+1;lia),Y,λ j q' hj e=>?_,th.same s4,k8,J8|λ rs l H5 pm pw x5 f5 hl kl=>hR rs l _ pm kl (am4.fr (f5.frL (by simp) (by simp))) x5 (ij f5 s4 hs0 hpa0)];cases j with
  | zero=>cases e;show(0:Int)≠0+1;lia
  | succ j=>lia
 clear x4 s4 am4;rintro rs l H5 pm kl am5 x5 s5;obtain⟨c1,c2,c3,c4⟩:=zb (le:=le) (ks:=ks) pm;generalize tK le (gQ ks.length W h) (0+1,W,h) rs (bK (pcs b T W h) ks.length)=gC at c1 c2 c3 c4 x5;have lvl:(lvs b T 0 0 W h).length<=63:=by rw[wU];exact l63
 have rl:rs.length<=63:=by rw[pm.length_eq];exact C5 (K5 _ _) lvl
 have plC:AK gC:=by
  have kl:=wW le rs;have cl:=cC (0+1+1) (bn le rs);refine%[by rw[c1,G8];lia|λ q hq=>?_];rw[c1]at hq;rcases G5.mp hq with rfl | hq
  ·exact%[by show 1<=W+1;lia,by show W+1<=_;lia,h1|by show h<=_;lia]
  ·obtain⟨r,hr,e⟩:=wV (iL hq).2.2;obtain⟨f,hf,ew,eh⟩:=wX (pm.mem_iff.mp hr);obtain⟨b1,b2,b3,b4,b5,b6,_⟩:=gj b0 T 0 0 W h w1 h1 th.ok f hf;rw[e];exact%[by show 1<=r.w;lia,by show r.w<=_;lia,by show 1<=r.h;lia|by show r.h<=_;lia]
 have mdC:AL ks gC:=by
  refine%[by rw[c2,cW]|λ z hz=>?_];rw[c2]at hz;obtain⟨z0,z1⟩:=zc hz;have:(pcs b T W h).length<=63:=C5 (K5 _ _) lvl;have:(63:Int)<=10 ^ 6:=∅
  exact%[z0|⋯]
 refine ao (λ R=>∀(H':Hp),AskM K [s,pa] ks H' be (gQ ks.length W h)->StoreAt CS C H' s sh b ks le gC [%[[],0,List.replicate ks.length 0|0],gP ks.length W h,gQ ks.length W h] pa->Same H H'->R [↑sh,⇑le,⇑W,⇑h,some v,↑s,⇑0,⇑(0+1),some be,↑l,none] H') (λ Dd hR=>?_) ?_
 ·refine%[_,Y,l,Y,%[_|G1 kl]|?_];refine And.left (bE (K:=K) (.inl kl) (λ i us Hx=>Same H5 Hx/\us=[]) (λ i us Hx _ e o h=>e.1 _ _ h) %[Same.refl _|rfl] (λ i x ys Hx hi z=>?_) (λ ys Hx z=>?_)) kl
  ·obtain⟨sx,rfl⟩:=z;have hin:=(A6.mp hi).1;rw[J2]at hi;obtain⟨z,hz,rfl⟩:=M2.mp hi;have z2:=(iL (B5 hz)).1;refine%[∅,leS.set rfl|?_];refine%[_,Y,_,Y,_,Y,zS2|λ q0 hq0=>?_];refine bZ hq0 λ Hy k1 s1=>?_;refine%[q0,_,Y,.inr (G0 k1),Y,Y,_,Y|?_];rw[show inV (V.int z.1) [V.int 0,V.int (0+1)]=false by
    have n0:¬ (z.1=0):=⋯
    have n1:¬ (z.1=0+1):=⋯
    show(eqV (V.int 0) (V.int z.1) || (eqV (V.int (0+1)) (V.int z.1) || false))=false;have m0:¬ ((0:Int)=z.1):=⋯
    have m1:¬ ((0+1:Int)=z.1):=⋯
    simp[eqV,m0,m1];lia]
   exact aP (Nx.of hin %[sx.trans s1|rfl])
  ·obtain⟨sx,rfl⟩:=z;refine%[∅|λ y1 hy1=>?_];refine bZ hy1 λ Hy k1 s1=>?_;refine%[∅|λ y2 hy2=>?_];refine bZ hy2 λ Hz k2 s2=>?_;refine%[.list [],.list [],.lst (G1 (s2 _ _ k1)) .nil,.lst (G1 k2) .nil,Y,Y,_,Y|?_];rw[PySem.SeqAt.eqv_refl _ (show PyData.canLay0 (.list [])=true from rfl)];have s5z:=sx.trans (s1.trans s2);have xz:=x5.same s5z;obtain⟨dx,sg,ps,hs,_⟩:=xz.look;refine%[_,Y,s,dx,_,Y,hs,cZ _ _ _ _ ∅ ∅ ∅ ∅,s,sh,pa,b,le,ks,gC,_,Y,xz|λ l1 Ha hl1 ka sa=>?_];have s5a:=s5z.trans sa;refine%[_,Y,_,Y,_,Y,_,Y,pp,sh,b,W,h,ks,v,d,T,Y,th.same (s5.trans s5a),k8|λ l2 Hb hl2 kb sb=>?_];rw[c2]at ka;obtain⟨g1,g2⟩:=dF (bK (pcs b T W h) ks.length);have y3:(PyData.list ((bK (pcs b T W h) ks.length).map .int)).canLay0=true:=by simp only[PyData.canLay0,g1]
   have y4:SeqAt.shaped (PyData.list ((bK (pcs b T W h) ks.length).map .int))=true:=by unfold SeqAt.shaped;rw[y3,QG (show(PyData.list ((bK (pcs b T W h) ks.length).map .int)).depth<=64 by show PyData.depthAll _+1<=64;lia)];rfl
   refine%[_,_,.lst (G1 (sb _ _ ka)) (vf _),.lst (G1 kb) (vf _),y4,y4,_,Y|?_];rw[PySem.SeqAt.eqv_refl _ y3];exact hR _ (am5.fr (Same.frL (s5a.trans sb))) (x5.same (s5a.trans sb)) (s5.trans (s5a.trans sb))
 clear x5 s5 am5;rintro H6 am6 x6 s6;refine ao (λ R=>∀t (H':Hp),H' t= ~~~((gu le b ks T W h).map V.int)->AskM K [s,pa] ks H' be (gQ ks.length W h)->StoreAt CS C H' s sh b ks le gC [%[[],0,List.replicate ks.length 0|0],gP ks.length W h,gQ ks.length W h] pa->Same H H'->R [↑sh,⇑le,⇑W,⇑h,some v,↑s,⇑0,⇑(0+1),some be,↑l,↑t] H') (λ Dd hR=>?_) ?_
 ·obtain⟨dx,sg,ps,hs,_⟩:=x6.look;exact%[_,Y,s,dx,_,Y,hs,cZ _ _ _ _ ∅ ∅ ∅ ∅,s,sh,pa,b,le,ks,_,_,Y,x6,k8,gk,plC,mdC|λ t H7 k7 s7=>hR t _ (by rw[<- c4];exact k7) (am6.fr (Same.frL s7)) (x6.same s7) (s6.trans s7)]
 clear x6 s6 am6;rintro t H7 kt am7 x7 s7;refine ao (λ R=>∀(H':Hp),Same H7 H'->R [↑sh,⇑le,⇑W,⇑h,some v,↑s,⇑0,⇑(0+1),some be,↑l,↑t] H') (λ Dd hR=>?_) ?_
 ·obtain⟨A,Bb,M,eA,hc⟩:∃A Bb M,A=(W+1) * h+W * h/\gu le b ks T W h=cLs A Bb M:=%[_,_,_,Y|Y]
  have kt2:H7 t= ~~~[.int A,.int Bb,.int M,.int (A - Bb - M)]:=by rw[kt,hc];rfl
  have e1:A=(2 * W+1) * h:=by rw[eA,P3,P3,Int.mul_assoc,Int.one_mul];lia
  refine%[_,Y,t,_,0,_,Y,Y,G0 kt2,Y,_,Y,_,_,Y,Y,.inl %[∅|∅],_,_,Y,Y,_,Y,_,_,Y,Y,.inl %[⋯|⋯],Y,_,Y|?_];rw[QG (show V.int A=V.int ((2 * W+1) * h)by rw[e1])];refine%[_,Y,t,_,0,_,Y,Y,G0 kt2,Y,_,Y,_,Y,t,_,Y,G0 kt2,(by show¬ (HT.sIx 4 0 (some 1)=0/\HT.sIx 4 4 none=4);decide)|λ c hc'=>?_];rw[show lC [V.int A,V.int Bb,V.int M,V.int (A - Bb - M)] (some 1) none=[V.int Bb,V.int M,V.int (A - Bb - M)]from rfl];refine bZ hc' λ H8 k1 s1=>?_;refine%[c,[Bb,M,A - Bb - M],Y,G0 k1,Y,_,Y|?_];rw[QG (show V.int A=V.int [Bb,M,A - Bb - M].sum by congr 1;simp only[J6,List.sum_nil];lia)];exact hR _ s1
 rintro H8 s78;have x8:=x7.same s78;have am8:=am7.fr (Same.frL s78);have kt8:=s78 _ _ kt;have s8:=s7.trans s78;refine ao (λ R=>∀(H':Hp),Same H H'->H' t= ~~~((gu le b ks T W h).map V.int)->R [↑sh,⇑le,⇑W,⇑h,some v,↑s,⇑0,⇑(0+1),some be,↑l,↑t] H') (λ Dd hR=>?_) ?_
 ·obtain⟨dx,sg,ps,hs,_⟩:=x8.look;obtain⟨⟨a1,a2⟩,a3,a4⟩:=x8.nt;refine⟨_,Y,s,dx,_,Y,hs,cZ _ _ _ _ ∅ ∅ ∅ ∅,s,sh,pa,b,le,ks,gC,_,Y,x8,(by decide:3<=1001),(λ z=>by cases z),λ gs' g' H9 eg x9 f9=>?_⟩;have eg2:gs'=[%[[],0,List.replicate ks.length 0|0],gP ks.length W h]/\g'=gQ ks.length W h:=by have:=List.append_inj' (show[%[[],0,List.replicate ks.length 0|0],gP ks.length W h] ++ [gQ ks.length W h]=gs' ++ [g']from eg) rfl;exact%[this.1.symm|(List.cons.inj this.2).1.symm]
  obtain⟨rfl,rfl⟩:=eg2;have s9:=ij f9 s8 hs0 hpa0;have kt9:=f9 t _ (λ z=>a2 _ (z ▸ kt8)) (λ z=>a4 _ (z ▸ kt8)) kt8;refine%[Y,_,Y,_,Y|?_];have am9:=am8.fr (f9.frL (M:=[s,pa]) (by simp) (by simp));refine aP ?_;unfold uF tOp;refine asks x9 rfl λ r Hx ak sx=>?_;obtain⟨r2,rfl,d2⟩:=am9 Hx (Same.frL sx);have d1:DatV K Hx r (oW ks (gQ ks.length W h)):=by
   have x10:=x9.same sx;obtain⟨⟨b1,b2⟩,b3,b4⟩:=x9.nt;obtain⟨⟨b1',b2'⟩,b3',b4'⟩:=x10.nt;obtain⟨r',rfl,dd⟩:=ak.m (K:=K) (M:=[s,pa]) (λ m hm=>by
    simp only[G5,J1,QO]at hm;rcases hm with rfl | rfl
    ·exact b1
    ·exact b3) (λ m hm=>by
    simp only[G5,J1,QO]at hm;rcases hm with rfl | rfl
    ·exact b2'
    ·exact b4') Hx (λ c o _ e=>e)
   exact dd
  obtain⟨l1,l2⟩:=wY ks (gQ ks.length W h);refine%[_,Y,_,_,d1,d2,l2,l2,_,Y|?_];rw[PySem.SeqAt.eqv_refl _ l1];exact hR _ (s9.trans sx) (sx _ _ kt9)
 rintro H9 s9 kt9;exact%[_,Y|q t H9 kt9 s9]
structure ShL(H:Hp)(st l:P6)(b:Int)(rs:QA V)(ks:QA Kd):Prop where
 t:H st= ~~~[.int b,.ref l]
 l:H l=↥rs
 k:Tups H rs ks
 n:rs.length<=8
 g:∀k∈ks,Good k
theorem ShL.same{H H':Hp}{st l:P6}{b:Int}{rs:QA V}{ks:QA Kd}(h:ShL H st l b rs ks)(s:Same H H'):ShL H' st l b rs ks:=%[s _ _ h.t,s _ _ h.l,Tups.keep (λ c xs e=>s _ _ e) h.k,h.n|h.g]
inductive spSmallM(vs:QA V)(H:Hp)(Q:VK)(E_:XK):Prop
|mk(p:P6)(m:Int)(_:vs=[.ref p,.int m])(_:1<=m)(_:m<=24)(_:PotAt H p)(_:∀(t l:P6)(b:Int)(rs:QA V)(ks:QA Kd)(H':Hp),H' t= ~~~[.int b,.ref l]->H' l=↥rs->l≠p->Tups H' rs ks->(∀k∈ks,Good k)->1<=rs.length->rs.length<=8->0<=b->PotAt H' p->But p H H'->Q (.ref t) H')
theorem scsmallm:FnScope ["_law_pot_here","_law_most","_law_kinds","_law_k","_law_wide","_law_high"] ["_law_pot_here","_law_most"] (defScope lT):=%[Y,Y,Y,∅,Y,∅|∅]
theorem tN{f:P6}{fd:F6}(F:Fun K "_law_small" "_law_small" lT f fd)(B:Blt mg)(DD:Dn P w K mg base "_law_draw" ["_law_pot_here","_law_many"] 1 (eG))(DN:Dn P w K mg base "_law_number" ["_law_pot_here","_law_least"] 2 (mL)):FnOk P w K mg base CX0 3 f fd ["_law_pot_here","_law_most"] (spSmallM):=by
 exists scsmallm
 ·obtain⟨p,m,rfl,_⟩:=h
  rfl
 obtain⟨p,m,rfl,m0',m24,pt,q⟩:=h;have nd:=scsmallm.nd;have hr1:=hr.mono (show 1<=2 by decide);refine%[_,((2∣(@bu _ _ _ _ ab))<<<((@cG _ _ _ _ _ _ _ _ E2 Y (ip Y B.range ((ae|||aM|||(@aq _ _ _ _ _ _ _ _ _ _ DD hr1 Y ((pv 0)^^^(ae^^^ab)) ∅ Y Y))^^^ab)) (ai (i:=3) nd Y (Or.inl Y)) ((4∣(ae|||aM|||(@aq _ _ _ _ _ _ _ _ _ _ DD hr1 Y ((pv 0)^^^((pv 1)^^^ab)) ∅ Y Y)))<<<((5∣(ae|||aM|||(@aq _ _ _ _ _ _ _ _ _ _ DD hr1 Y ((pv 0)^^^((pv 1)^^^ab)) ∅ Y Y)))>>>(@aO _ _ _ _ (@dG _ _ _ _ _ _ _ _ _ _ _ _ F3 PySem.F.slot_list_append PySem.F.type_list_append dj (pv 2) ((@aD _ _ _ _ _ ((pv 4)^^^((pv 5)^^^((DN∪((pv 0)^^^(ae^^^ab)))^^^((@aq _ _ _ _ _ _ _ _ _ _ DD hr1 Y ((pv 0)^^^(ae^^^ab)) ∅ Y Y)^^^((@cq _ _ _ _ _ _ _ _ cf (@aq _ _ _ _ _ _ _ _ _ _ DD hr1 Y ((pv 0)^^^(ae^^^ab)) ∅ Y Y) ae (aE _))^^^ab))))))^^^ab) Y Y Y Y Y) Y))) (by intro _;rfl))<<<((@aD _ _ _ _ _ ((@aq _ _ _ _ _ _ _ _ _ _ DD hr1 Y ((pv 0)^^^(ae^^^ab)) ∅ Y Y)^^^((pv 2)^^^ab)))⁻¹)))|?_];dsimp only[bJ];have e60:(100:Int) < 10 ^ 60:=∅
 have sz:(100:Nat) < sizeLine:=∅
 refine%[∅|λ l hl=>?_];obtain⟨H2,e2,k2,n2,s2,bt2,pt2⟩:=lV (o:=.lst []) (λ _ _ _ e=>e:But p H H) pt hl;rw[e2];clear e2;refine cg (λ σ' H'=>σ'=[↑p,⇑m,↑l,none,none,none]/\H2=H') (λ R hR=>hR _ _ %[rfl|rfl]) ?_;rintro _ _ ⟨rfl,rfl⟩;refine ao (λ R=>∀(v3 v4 v5:P8 V)(rs:QA V)(ks:QA Kd)(H':Hp),H' l=↥rs->Tups H' rs ks->(∀k∈ks,Good k)->1<=rs.length->rs.length<=8->PotAt H' p->But p H H'->R [↑p,⇑m,↑l,v3,v4,v5] H') (λ Dd hR=>?_) ?_
 ·refine%[_,Y,p,8,Y,pt2,∅,∅|λ mm H3 m0 m1 pt3 bt3=>%[_,_,Y,Y,_,Y,⋯,⋯|?_]];refine fQ (n:=(1+mm).toNat) (λ i σ' H'=>∃(v3 v4 v5:P8 V)(rs:QA V)(ks:QA Kd),σ'=[↑p,⇑m,↑l,v3,v4,v5]/\H' l=↥rs/\Tups H' rs ks/\(∀k∈ks,Good k)/\rs.length=i/\PotAt H' p/\But p H H') %[_,_,_,[],[],rfl,bt3 _ _ n2 k2,.nil,λ k hk=>by simp at hk,rfl,pt3|bt2.trans bt3] ?_ ?_
  ·intro i _ H4 hi hI9;refine cV λ G9 k9=>?_;obtain⟨v3,v4,v5,rs,ks,rfl,hl4,tp4,gk4,rl4,pt4,bt4⟩:=hI9;refine k9 ?_;refine%[_,Y,_,Y,p,m,Y,pt4,⋯,⋯|λ w1 H5 w0 w1' pt5 b5=>%[_,_,Y,Y|?_]];refine%[_,Y,_,Y,p,m,Y,pt5,⋯,⋯|λ h1 H6 h0 h1' pt6 b6=>%[_,_,Y,Y|?_]];have hl6:=b6 _ _ n2 (b5 _ _ n2 hl4);refine%[_,Y,.inl %[Y,_|G1 hl6],_,Y,_,Y,_,Y,p,0,Y,pt6,∅,∅|λ wo H7 wo0 wo1 pt7 b7=>?_];refine%[_,Y,p,3,Y,pt7,∅,∅|λ wa H8 wa0 wa1' pt8 b8=>?_];have wa1:wa < 10 ^ 60:=⋯
   refine%[_,Y,p,2,Y,pt8,∅,∅|λ tu H9 tu0 tu1 pt9 b9=>%[Y,zS5|λ t ht=>?_]];have b49:=(((b5.trans b6).trans b7).trans b8).trans b9;obtain⟨Ha,ea,ka,na,sa,ba,pta⟩:=lV (o:=.tup [.int (1+w1),.int (1+h1),.int wo,.int wa,.bl (decide (V.int tu=V.int 1))]) (bt4.trans b49) pt9 ht;rw[show upd H9 t _=Ha from ea];clear ea;have ka:Ha t= ~~~(kdV %[1+w1,1+h1,wo,wa|decide (V.int tu=V.int 1)]):=ka;have hla:=sa _ _ (b49 _ _ n2 hl4);refine%[l,_,_,Y,Y,hla,(by have:i < (1+mm).toNat:=hi;lia)|?_];have kt:∀{c:P6}{xs:QA V},Ha c= ~~~xs->(upd Ha l (.lst (rs ++ [.ref t]))) c= ~~~xs:=λ {c xs} e=>by rw[ap (λ z=>by rw[z,hla]at e;cases e)];exact e
   refine%[_,_,_,rs ++ [.ref t],ks ++ [%[1+w1,1+h1,wo,wa|decide (V.int tu=V.int 1)]],Y,af,?_,λ k hk=>?_,by rw[G6,rl4];rfl,?_|λ c o n e=>?_]
   ·refine eZ (Tups.keep (λ c xs e=>kt (sa _ _ e)) (hJ b49 pt4 tp4)) (.cons %[t,Y|kt ka] .nil)
   ·rcases C2.mp hk with hk | hk
    ·exact gk4 k hk
    ·rw[C9.mp hk];exact%[by show(1:Int)<=1+w1;lia,by show(1:Int)<=1+h1;lia,wo0,wa0,by show 1+w1 < _;lia,by show 1+h1 < _;lia,wo1|wa1]
   ·obtain⟨x,y,hxy,e⟩:=pta;exact%[x,y,hxy|by rw[ap (Ne.symm n2)];exact e]
   ·rw[ap (λ z=>by rw[z,hl]at e;cases e)];exact ba _ _ n e
  ·intro _ H4 hI9;refine cV λ G9 k9=>?_;obtain⟨v3,v4,v5,rs,ks,rfl,hl4,tp4,gk4,rl4,pt4,bt4⟩:=hI9;refine k9 ?_;exact hR _ _ _ rs ks _ hl4 tp4 gk4 ⋯ ⋯ pt4 bt4
 rintro v3 v4 v5 rs ks H3 hl3 tp3 gk3 r1 r8 pt3 bt3;refine%[_,Y,p,4,Y,pt3,∅,∅|λ b H5 b0 b1 pt5 b35=>%[_,Y,zS2|λ t ht=>?_]];obtain⟨H6,e6,k6,n6,s6,b6,pt6⟩:=lV (o:=.tup [.int b,.ref l]) (bt3.trans b35) pt5 ht;rw[e6];exact q t l b rs ks H6 k6 (s6 _ _ (b35 _ _ n2 hl3)) n2 (Tups.keep (λ c xs e=>s6 _ _ e) (hJ b35 pt3 tp3)) gk3 r1 r8 b0 pt6 b6
theorem TlV.ref{H:Hp}:∀(t:Tl){v:V},TlV H t v->∃a,v=.ref a
 | .rest,_,h=>by rw[TlV]at h;exact%[_|h.choose_spec.1]
 | .piece ..,_,h=>by rw[TlV]at h;exact%[_|h.choose_spec.1]
 | .row ..,_,h=>by rw[TlV]at h;obtain⟨a,q,xs,e,_⟩:=h;exact%[a|e]
mutual
theorem TlV.dt{p:P6}{H:Hp}:∀(t:Tl){v:V},TlV H t v->Dt p H v (tlD t)
 | .rest,_,h=>by rw[TlV]at h;obtain⟨a,e,h⟩:=h;subst e;exact .tup h (.cons (.str _) .nil)
 | .piece ..,_,h=>by rw[TlV]at h;obtain⟨a,e,h⟩:=h;subst e;exact .tup h (.cons (.str _) (.cons (.int _) (.cons (.bl _) (.cons (.int _) (.cons (.int _) .nil)))))
 | .row dn r,_,h=>by rw[TlV]at h;obtain⟨a,q,xs,e,h1,h2,h3⟩:=h;subst e;exact .tup h1 (.cons (.str _) (.cons (.tup h2 (TlsV.dt r h3)) .nil))
theorem TlsV.dt{p:P6}{H:Hp}:∀(t:Tls){v:QA V},TlsV H t v->Dts p H v (bH t)
 | .nil,_,h=>by rw[TlsV]at h;subst h;exact .nil
 | .cons n t r,_,h=>by rw[TlsV]at h;obtain⟨a,u,ys,e,h1,h2,h3⟩:=h;subst e;exact .cons (.tup h1 (.cons (.int _) (.cons (TlV.dt t h2) .nil))) (TlsV.dt r h3)
end
structure TrO(b:Int)(ks:QA Kd)(W h:Int)(T U:Tr):Prop where
 ok:okU b ks W h U
 tl:bz b U W h=bz b T W h
 ln:lvN U=lvN T
theorem mv{C p s:P6}{b w h:Int}{ks:QA Kd}{v:V}{t:Tr}{H:Hp}(sh:ShopAt C H s b ks)(w1:1<=w)(h1:1<=h)(tv:TrV H t v)(ok:okU b ks w h t)(ln:lvN t<=45):TrH C p s b w h ks v (toD t) t H:=by have:=iG t;have:=dP t;exact%[sh,w1,h1,TrV.dt t tv,TrD.to t,ez t ok,⋯|⋯]
inductive spLaw(K:C4)(vs:QA V)(H:Hp)(Q:VK)(E_:XK):Prop
|mk(a:P6)(ns:QA Int)(_:vs=[.ref a])(_:SqL K H a (ns.map V.int))(_:ns.length<=63)(_:∀H',Q (.bl true) H')
theorem sclaw:FnScope ["_law_script","_law_told","_law_shop","_law_place","_law_pot_here","_law_wide","_law_high","_law_tree_here","_law_other","_law_telling","_law_last","_law_lot_here","_law_least","_law_cells"] ["_law_script"] (defScope lU):=%[Y,Y,Y,∅,Y,∅|∅]
theorem AV{f C:P6}{fd:F6}(F:Fun K "law" "law" lU f fd)(B:Blt mg)(DP:Dn P w K mg base "_law_pot" ["_law_script","_law_place"] 1 (zN K))(DD:Dn P w K mg base "_law_draw" ["_law_pot_here","_law_many"] 1 (eG))(DSm:Dn P w K mg base "_law_small" ["_law_pot_here","_law_most"] 3 (spSmallM))(DTr:Dn P w K mg base "_law_tree" ["_law_pot_here","_law_shop","_law_wide","_law_high","_law_left","_law_deep"] 14 (spTreeL 11))(DX:Dn P w K mg base "_law_exchanged" ["_law_pot_here","_law_blade","_law_wide","_law_high","_law_tree_here"] 42 (spExch 40))(DTe:Dn P w K mg base "telling_of" ["shop","wide","high","tree"] 54 (spTellO C))(DIT:Dn P w K mg base "is_tree" ["shop","wide","high","thing"] 6 (spIsTree C))(DTt:Dn P w K mg base "tree_told" ["shop","wide","high","telling"] 160 (spTreeTo C))(DLo:Dn P w K mg base "_law_lot" ["_law_shop","_law_wide","_law_high","_law_tree_here"] 11 (spLot C))(DIn:Dn P w K mg base "_law_in_store" ["_law_shop","_law_least","_law_wide","_law_high","_law_tree_here"] 12 (spInSt C))(DSh:Kn P w K mg base "Shop" C ["self","blade","kinds"] 3 (oj C)):FnOk P w K mg base CX0 161 f fd ["_law_script"] (spLaw K):=by
 exists sclaw
 ·obtain⟨a,ns,rfl,_⟩:=h
  rfl
 obtain⟨a,ns,rfl,hS,h63,q⟩:=h;have nd:=sclaw.nd;have hu2:=Room.units220 hr ∅;refine%[_,((1∣(DSm∩((DP∩((pv 0)^^^(ae^^^ab)))^^^(ae^^^ab))))<<<((@aw _ _ 2 _ _ _ _ nd Y (Or.inr Y) (zO DSh (hr.mono ∅) Y (((pv 1)&&&ix_tup&&&ae)^^^(((pv 1)&&&ix_tup&&&ae)^^^ab))) Y (Or.inl Y))<<<((@cG _ _ _ _ _ _ _ _ E2 Y (iq Y B.range (ae^^^((@aI _ _ _ _ _ _ _ _ _ (kD Y) Y B.max PyProof.Rows.boot_max (ae^^^((@aI _ _ _ _ _ _ _ _ _ (kF Y) Y B.min PyProof.Rows.boot_min (ae^^^((@aI _ _ _ _ _ _ _ _ _ aY Y B.len QQ ((pv 0)^^^ab) ∅ ∅ Y Y)^^^ab)) ∅ ∅ Y Y)^^^ab)) ∅ ∅ Y Y)^^^ab))) (ai (i:=3) nd Y (Or.inl Y)) ((4∣(DP∩((pv 0)^^^((pv 3)^^^ab))))<<<((@aw _ _ 5 _ _ _ _ nd Y (Or.inr Y) (ae|||aM|||(DD∩((pv 4)^^^(ae^^^ab)))) Y (Or.inl Y))<<<((@aw _ _ 6 _ _ _ _ nd Y (Or.inr Y) (ae|||aM|||(DD∩((pv 4)^^^(ae^^^ab)))) Y (Or.inl Y))<<<((7∣(DTr∩((pv 4)^^^((pv 1)^^^((pv 5)^^^((pv 6)^^^((@bu _ _ _ _ (ae^^^ab))^^^(ae^^^ab))))))))<<<((8∣(DX∩((pv 4)^^^(((pv 1)&&&ix_tup&&&ae)^^^((pv 5)^^^((pv 6)^^^((pv 7)^^^ab)))))))<<<((9∣(DTe∩((pv 2)^^^((pv 5)^^^((pv 6)^^^((pv 7)^^^ab))))))<<<(((PW.pt (bS (@bj _ _ _ _ (@aT _ _ _ (DIT∩((pv 2)^^^((pv 5)^^^((pv 6)^^^((pv 8)^^^ab))))) (by intro _;rfl))) (bR ((DTe∩((pv 2)^^^((pv 5)^^^((pv 6)^^^((pv 8)^^^ab)))))<*>(gF hu2)<*>(pv 9)))))<|>(cD⁻¹)<|>aF)<<<((10∣(DTt∪((pv 2)^^^((pv 5)^^^((pv 6)^^^((pv 9)^^^ab))))))<<<(((PW.pt (bS (@bj _ _ _ _ (@aT _ _ _ (DIT∩((pv 2)^^^((pv 5)^^^((pv 6)^^^((pv 10)^^^ab))))) (by intro _;rfl))) (bR ((DTe∩((pv 2)^^^((pv 5)^^^((pv 6)^^^((pv 10)^^^ab)))))<*>(gF hu2)<*>(pv 9)))))<|>(cD⁻¹)<|>aF)<<<((11∣(DLo∩((pv 2)^^^((pv 5)^^^((pv 6)^^^((pv 7)^^^ab))))))<<<(((PW.pt (bS ((DLo∩((pv 2)^^^((pv 5)^^^((pv 6)^^^((pv 8)^^^ab)))))<*>(gF hu2)<*>(pv 11)) (bR ((DLo∩((pv 2)^^^((pv 5)^^^((pv 6)^^^((pv 10)^^^ab)))))<*>(gF hu2)<*>(pv 11)))))<|>(cD⁻¹)<|>aF)<<<((@aw _ _ 12 _ _ _ _ nd Y (Or.inr Y) (ae|||aM|||(DD∩((pv 4)^^^(ae^^^ab)))) Y (Or.inl Y))<<<((dH (i:=13) (own:=["_law_one"]) (cs:=["_law_shop","_law_wide","_law_high","_law_least"]) (cap:=[2,5,6,12]) Y nd Y Y Y (fj (@aD _ _ _ _ _ ((pv 7)^^^((pv 8)^^^((pv 10)^^^ab))))) (aL (sc:=defScope lU) (N:=["_law_script","_law_told","_law_shop","_law_place","_law_pot_here","_law_wide","_law_high","_law_tree_here","_law_other","_law_telling","_law_last","_law_lot_here","_law_least","_law_cells"]) Y Y ∅) (λ _ _ _ _ _=>ai (i:=0) (by show List.Nodup (["_law_one","_law_shop","_law_wide","_law_high","_law_least"]:QA Str) ;decide +kernel) Y (Or.inl Y) (Or.inr Y)) (λ _ _ _ _ _=>bd) (λ _ _ _ _ _=>(DIn∩((pv 1)^^^((pv 4)^^^((pv 2)^^^((pv 3)^^^((pv 0)^^^ab))))))))>>>((PW.pt (bS (((pv 13)&&&ix_list&&&ae)<*>uE<*>fg) (bS (((pv 13)&&&ix_list&&&ae)<*>(gF hu2)<*>((pv 13)&&&ix_list&&&ae)) (bR (((pv 13)&&&ix_list&&&ae)<*>(gF hu2)<*>((pv 13)&&&ix_list&&&ae))))))<|>(cD⁻¹)<|>aF)))))))))))))) (by intro _;rfl))<<<(cD⁻¹))))|?_]
 dsimp only[bJ];have e60:(100:Int) < 10 ^ 60:=∅
 refine ao (λ R=>∀st l b rs ks (H':Hp),ShL H' st l b rs ks->1<=rs.length->0<=b->Same H H'->R [↑a,↑st,none,none,none,none,none,none,none,none,none,none,none,none] H') (λ Dd hR=>?_) ?_
 ·refine%[_,Y,a,ns,0,Y,hS,∅,∅,h63|λ p H1 hp pt1 s1=>%[p,6,Y,∅,∅,pt1|λ t l b rs ks H3 ht hl nlp tp gk q1 q8 b0 pt3 b3=>?_]];exact hR t l b rs ks _ %[ht,hl,tp,q8|gk] q1 b0 (But.same ((Pc.Same.but s1).trans b3) hp)
 rintro st l b rs ks H1 sh r1 b0 s01;refine ao (λ R=>∀sa (H':Hp),ShopAt C H' sa b ks->Same H1 H'->R [↑a,↑st,↑sa,none,none,none,none,none,none,none,none,none,none,none] H') (λ Dd hR=>?_) ?_
 ·refine%[_,Y,st,_,0,_,Y,Y,G0 sh.t,Y,_,Y,st,_,1,_,Y,Y,G0 sh.t,Y|λ x dx hx hdx ne0=>?_];have sm:Same H1 (upd (upd H1 dx (.own x)) x (.ins C dx [])):=kU hx hdx;refine%[x,dx,l,b,rs,ks,Y,af,b0,.inl (sm _ _ sh.l),G2 (Tups.keep (λ c xs e=>sm _ _ e) sh.k) (λ v k h=>.inl h),sh.g,r1,sh.n|λ Hb Sb kb=>%[Y|hR x _ Sb (λ c o e=>kb c o (ax e hx) (sm _ _ e))]]
 rintro sa H2 sA s12;have sh:=sh.same s12;have s02:=s01.trans s12;clear s01 s12;have k8:ks.length<=8:=by have:=E1 sh.k;have:=sh.n;lia
 have ln:(ns.map V.int).length=ns.length:=G4 _;refine cg (λ σ' H'=>True) (λ R hR=>?_) (λ σ' H' _=>q _);refine%[_,Y,a,_,Y,.inl (s02.seq hS),_,_,Y,_,_,Y,_,_,Y,%[∅,∅,?_|?_]|?_]
 ·rw[ln];split <;> split <;> lia
 ·rw[ln];split <;> split <;> lia
 generalize hm:(Int.toNat _)=mm;have m13:mm<=20:=by rw[<- hm,ln];split <;> split <;> lia
 refine fQ (n:=mm) (λ i σ' H'=>(∃z3 z4 z5 z6 z7 z8 z9 z10 z11 z12 z13,σ'=[↑a,↑st,↑sa,z3,z4,z5,z6,z7,z8,z9,z10,z11,z12,z13])/\Same H2 H') %[%[_,_,_,_,_,_,_,_,_,_,_|rfl]|Same.refl _] ?_ (λ σ' H' _=>hR _ _ trivial);rintro i _ H4 hi ⟨⟨z3,z4,z5,z6,z7,z8,z9,z10,z11,z12,z13,rfl⟩,s24⟩;have sA4:=bI s24 sA;have sh4:=sh.same s24;refine ao (λ R=>∀p z5 z6 z7 z8 z9 z10 z11 z12 z13 (H':Hp),H4 p=none->PotAt H' p->Same H4 H'->R [↑a,↑st,↑sa,⇑(1+i),↑p,z5,z6,z7,z8,z9,z10,z11,z12,z13] H') (λ Dd hR=>?_) ?_
 ·exact%[_,Y,_,Y,a,ns,_,Y,s24.seq (s02.seq hS),⋯,⋯,h63|λ p H5 hp pt5 s5=>hR p _ _ _ _ _ _ _ _ _ _ hp pt5 s5]
 rintro p z5 z6 z7 z8 z9 z10 z11 z12 z13 H5 hp pt5 s45;refine ao (λ R=>∀ (w1:Int) z6 z7 z8 z9 z10 z11 z12 z13 (H':Hp),1<=w1->w1<=24->PotAt H' p->Same H4 H'->R [↑a,↑st,↑sa,⇑(1+i),↑p,⇑w1,z6,z7,z8,z9,z10,z11,z12,z13] H') (λ Dd hR=>?_) ?_
 ·refine%[_,Y,p,24,Y,pt5,∅,∅|λ r Ha r0 r1' pta ba=>%[_,_,Y,Y|hR (1+r) _ _ _ _ _ _ _ _ _ ⋯ ⋯ pta (But.same ((Pc.Same.but s45).trans ba) hp)]]
 rintro w1 z6 z7 z8 z9 z10 z11 z12 z13 H5 w0 w24 pt5 s45;refine ao (λ R=>∀ (h1:Int) z7 z8 z9 z10 z11 z12 z13 (H':Hp),1<=h1->h1<=24->PotAt H' p->Same H4 H'->R [↑a,↑st,↑sa,⇑(1+i),↑p,⇑w1,⇑h1,z7,z8,z9,z10,z11,z12,z13] H') (λ Dd hR=>?_) ?_
 ·refine%[_,Y,p,24,Y,pt5,∅,∅|λ r Ha r0 r1' pta ba=>%[_,_,Y,Y|hR (1+r) _ _ _ _ _ _ _ _ ⋯ ⋯ pta (But.same ((Pc.Same.but s45).trans ba) hp)]]
 rintro h1 z7 z8 z9 z10 z11 z12 z13 H6 h0 h24 pt6 s46;obtain⟨W,rfl⟩:∃W:Nat,w1=W:=%[w1.toNat|⋯]
 obtain⟨hh,rfl⟩:∃hh:Nat,h1=hh:=%[h1.toNat|⋯]
 refine ao (λ R=>∀ (v1:V) (t1:Tr) z8 z9 z10 z11 z12 z13 (H':Hp),TrV H' t1 v1->okU b ks W hh t1->lvN t1<=31->PotAt H' p->Same H4 H'->R [↑a,↑st,↑sa,⇑(1+i),↑p,⇑W,⇑hh,some v1,z8,z9,z10,z11,z12,z13] H') (λ Dd hR=>?_) ?_
 ·refine%[_,Y,_,Y,_,Y,_,Y,zS1|λ lf hlf=>?_];have s7:Same H6 (upd H6 lf (.lst [.int 30])):=F9 hlf;have k7:(upd H6 lf (.lst [.int 30])) lf=↥[.int 30]:=af;rw[show upd H6 lf _=upd H6 lf (.lst [.int 30])from rfl];generalize upd H6 lf (.lst [.int 30])=HH at s7 k7 ⊢;have s47:=s46.trans s7;have sh7:=sh4.same s47;refine%[p,st,l,lf,b,rs,ks,W,hh,30,10,Y,sh7.t,sh7.l,ax sh4.l hp,ax (s46 _ _ sh4.l) hlf,Ne.symm (pt6.ne hlf),sh7.k,sh7.n,sh7.g,b0,⋯,⋯,⋯,⋯,k7,∅,∅,pt6.same s7|λ v t lt' H8 tv okt l0 l1 wtt dpt lnn lf8 pt8 b78=>?_];refine hR v t _ _ _ _ _ _ _ tv (nG t okt) ⋯ pt8 (λ c o e=>b78 _ _ (ax e hp) (ax (s46 _ _ e) hlf) (s47 _ _ e))
 clear pt5 pt6 s45 s46;rintro v1 t1 z8 z9 z10 z11 z12 z13 H7 tv1 ok1 ln1 pt7 s47;have wd1:=iG t1;have sz1:=dP t1;have dl1:=gH t1;have okl:=(jS b0 t1 ok1 w0 h0).1;have dpl:(tlD (bz b t1 W hh)).depth<=150:=by have:(tlD (bz b t1 W hh)).depth<=3 * dT t1+1:=(dk b t1 W hh).1;lia
 have lcl:lcT (bz b t1 W hh)=lvN t1:=(iH b t1 W hh).1;refine ao (λ R=>∀ (v2:V) (t2:Tr) z9 z10 z11 z12 z13 (H':Hp),TrV H' t2 v2->TrO b ks W hh t1 t2->TrV H' t1 v1->PotAt H' p->Same H4 H'->R [↑a,↑st,↑sa,⇑(1+i),↑p,⇑W,⇑hh,some v1,some v2,z9,z10,z11,z12,z13] H') (λ Dd hR=>?_) ?_
 ·have sh7:=sh4.same s47;exact%[_,Y,_,Y,st,_,0,_,Y,Y,G0 sh7.t,Y,_,Y,_,Y,_,Y,p,b,W,hh,ks,v1,t1,Y,pt7,tv1,ok1,b0,⋯|λ v' T' H8 tv8 ok8 et8 ln8 pt8 b78=>hR v' T' _ _ _ _ _ _ tv8 %[ok8,et8|ln8] (TrV.keep (λ a xs e=>gt b78 pt7 e) _ tv1) pt8 (But.same ((Pc.Same.but s47).trans b78) hp)]
 clear tv1 pt7 s47;rintro v2 t2 z9 z10 z11 z12 z13 H8 tv2 o2 tv1 pt8 s48;refine ao (λ R=>∀uv z10 z11 z12 z13 (H':Hp),TlV H' (bz b t1 W hh) (.ref uv)->Same H8 H'->R [↑a,↑st,↑sa,⇑(1+i),↑p,⇑W,⇑hh,some v1,some v2,↑uv,z10,z11,z12,z13] H') (λ Dd hR=>?_) ?_
 ·refine%[_,Y,_,Y,_,Y,_,Y,p,sa,b,W,hh,ks,v1,toD t1,t1,Y,(bI s48 sA4),w0,h0,TrV.dt t1 tv1,⋯,TrD.to t1,ez t1 ok1,⋯,⋯|λ uu H9 tl s9=>?_];obtain⟨uv,rfl⟩:=TlV.ref _ tl;exact hR uv _ _ _ _ _ tl s9
 rintro uv z10 z11 z12 z13 H9 ul9 s89;have s49:=s48.trans s89;have tv1:=TrV.keep (λ a xs e=>s89 _ _ e) _ tv1;have tv2:=TrV.keep (λ a xs e=>s89 _ _ e) _ tv2;refine ao (λ R=>∀z10 z11 z12 z13 (H':Hp),Same H9 H'->R [↑a,↑st,↑sa,⇑(1+i),↑p,⇑W,⇑hh,some v1,some v2,↑uv,z10,z11,z12,z13] H') (λ Dd hR=>?_) ?_
 ·have wd:=iG t2;have sz:=dP t2;have dl:=gH t2;have ln:=o2.ln;refine%[_,Y,_,Y,_,Y,_,Y,p,sa,b,W,hh,ks,v2,toD t2,Y,(bI s49 sA4),w0,h0,TrV.dt t2 tv2,⋯|λ Hx sx=>?_];rw[iF t2 _ _ (ez t2 o2.ok)];refine%[_,Y|?_];refine%[_,Y,_,Y,_,Y,_,Y,p,sa,b,W,hh,ks,v2,toD t2,t2,Y,(bI (s49.trans sx) sA4),w0,h0,TrV.dt t2 (TrV.keep (λ a xs e=>sx _ _ e) _ tv2),⋯,TrD.to t2,ez t2 o2.ok,⋯,⋯|λ uu Hy tl sy=>?_];rw[o2.tl]at tl;have sxy:=sx.trans sy;refine%[_,Y,tlD (bz b t1 W hh),tlD (bz b t1 W hh),TlV.dat _ tl,TlV.dat _ (TlV.keep (λ a xs e=>sxy _ _ e) _ ul9),cO _,cO _,⋯,_,Y|?_];rw[Qj _ (cO _)];exact dO rfl (hR _ _ _ _ _ sxy)
 rintro z10 z11 z12 z13 Ha s9a;have s4a:=s49.trans s9a;have tva:=TrV.keep (λ a xs e=>s9a _ _ e) _ tv1;have tva2:=TrV.keep (λ a xs e=>s9a _ _ e) _ tv2;have ula:=TlV.keep (λ a xs e=>s9a _ _ e) _ ul9;refine ao (λ R=>∀v3 t3 z11 z12 z13 (H':Hp),TrV H' t3 v3->TrO b ks W hh t1 t3->Same Ha H'->R [↑a,↑st,↑sa,⇑(1+i),↑p,⇑W,⇑hh,some v1,some v2,↑uv,some v3,z11,z12,z13] H') (λ Dd hR=>?_) ?_
 ·have o3:TrO b ks W hh t1 (cj (bz b t1 W hh)):=by obtain⟨g1,g2⟩:=rC b0 _ okl;exact%[g1,g2|by rw[zS b0 okl];exact lcl]
  exact%[_,Y,_,Y,_,Y,_,Y,p,sa,b,W,hh,ks,.ref uv,_,bz b t1 W hh,Y,bI s4a sA4,w0,h0,TlV.dt _ ula,.same _,okl,b0,⋯,dpl|λ v3 Hb tvb sb=>hR v3 _ _ _ _ _ tvb o3 sb]
 rintro v3 t3 z11 z12 z13 Hb tvb3 o3 sab;have s4b:=s4a.trans sab;have ulb:=TlV.keep (λ a xs e=>sab _ _ e) _ ula;refine ao (λ R=>∀z11 z12 z13 (H':Hp),Same Hb H'->R [↑a,↑st,↑sa,⇑(1+i),↑p,⇑W,⇑hh,some v1,some v2,↑uv,some v3,z11,z12,z13] H') (λ Dd hR=>?_) ?_
 ·have wd:=iG t3;have sz:=dP t3;have dl:=gH t3;have ln:=o3.ln;refine%[_,Y,_,Y,_,Y,_,Y,p,sa,b,W,hh,ks,v3,toD t3,Y,(bI s4b sA4),w0,h0,TrV.dt t3 tvb3,⋯|λ Hx sx=>?_];rw[iF t3 _ _ (ez t3 o3.ok)];refine%[_,Y|?_];refine%[_,Y,_,Y,_,Y,_,Y,p,sa,b,W,hh,ks,v3,toD t3,t3,Y,(bI (s4b.trans sx) sA4),w0,h0,TrV.dt t3 (TrV.keep (λ a xs e=>sx _ _ e) _ tvb3),⋯,TrD.to t3,ez t3 o3.ok,⋯,⋯|λ uu Hy tl sy=>?_];rw[o3.tl]at tl;have sxy:=sx.trans sy;refine%[_,Y,tlD (bz b t1 W hh),tlD (bz b t1 W hh),TlV.dat _ tl,TlV.dat _ (TlV.keep (λ a xs e=>sxy _ _ e) _ ulb),cO _,cO _,⋯,_,Y|?_];rw[Qj _ (cO _)];exact dO rfl (hR _ _ _ _ sxy)
 rintro z11 z12 z13 Hc sbc;have sac:=sab.trans sbc;have s4c:=s4a.trans sac;have tvc1:=TrV.keep (λ a xs e=>sac _ _ e) _ tva;have tvc2:=TrV.keep (λ a xs e=>sac _ _ e) _ tva2;have tvc3:=TrV.keep (λ a xs e=>sbc _ _ e) _ tvb3;have ptc:=pt8.same (s89.trans (s9a.trans sac));clear tva tva2 tv1 tv2 tvb3 ul9 ula ulb sbc sab sac s9a s89 pt8 s48 s49 s4a s4b;have all3:∀{t:Tr},TrO b ks W hh t1 t->gI b ks t W hh=gI b ks t1 W hh/\lvN t<=45:=λ {t} o=>%[AR b0 ⋯ ⋯ (ez t o.ok) (ez t1 ok1) o.tl|by have:=o.ln;lia]
 obtain⟨q2,n2⟩:=all3 o2;obtain⟨q3,n3⟩:=all3 o3;have n1:lvN t1<=45:=⋯
 refine ao (λ R=>∀lv z12 z13 (H':Hp),LotAt H' lv (gI b ks t1 W hh)->Same Hc H'->R [↑a,↑st,↑sa,⇑(1+i),↑p,⇑W,⇑hh,some v1,some v2,↑uv,some v3,some lv,z12,z13] H') (λ Dd hR=>?_) ?_
 ·exact%[_,Y,_,Y,_,Y,_,Y,p,sa,b,W,hh,ks,v1,toD t1,t1,Y,mv (bI s4c sA4) w0 h0 tvc1 ok1 n1,b0,⋯,⋯,sh.g,k8|λ r Hd la sd=>hR r _ _ _ la sd]
 rintro lv z12 z13 Hd la scd;have s4d:=s4c.trans scd;refine ao (λ R=>∀z12 z13 (H':Hp),Same Hd H'->R [↑a,↑st,↑sa,⇑(1+i),↑p,⇑W,⇑hh,some v1,some v2,↑uv,some v3,some lv,z12,z13] H') (λ Dd hR=>?_) ?_
 ·refine%[_,Y,_,Y,_,Y,_,Y,p,sa,b,W,hh,ks,v2,toD t2,t2,Y,mv (bI s4d sA4) w0 h0 (TrV.keep (λ a xs e=>scd _ _ e) _ tvc2) o2.ok n2,b0,⋯,⋯,sh.g,k8|λ r Hx lx sx=>?_];rw[q2]at lx;obtain⟨c1,c2⟩:=za (gI b ks t1 W hh);refine%[_,Y,_,_,lx.dat,(la.same sx).dat,c1,c1,c2,_,Y|?_];rw[Qj _ c1];refine dO rfl %[_,rfl,_,rfl,_,rfl,_,rfl,p,sa,b,W,hh,ks,v3,toD t3,t3,rfl,mv (bI (s4d.trans sx) sA4) w0 h0 (TrV.keep (λ a xs e=>sx _ _ (scd _ _ e)) _ tvc3) o3.ok n3,b0,⋯,⋯,sh.g,k8|λ r2 Hy ly sy=>?_];rw[q3]at ly;refine%[_,Y,_,_,ly.dat,(la.same (sx.trans sy)).dat,c1,c1,c2,_,Y|?_];rw[Qj _ c1];exact dO rfl (hR _ _ _ (sx.trans sy))
 rintro z12 z13 He sde;have sce:=scd.trans sde;have pte:=ptc.same sce;have s4e:=s4c.trans sce;refine ao (λ R=>∀ (le:Int) z13 (H':Hp),1<=le->TrV H' t1 v1->TrV H' t2 v2->TrV H' t3 v3->Same H4 H'->R [↑a,↑st,↑sa,⇑(1+i),↑p,⇑W,⇑hh,some v1,some v2,↑uv,some v3,some lv,⇑le,z13] H') (λ Dd hR=>?_) ?_
 ·exact%[_,Y,p,6,Y,pte,∅,∅|λ r Hf r0 r1' ptf bf=>%[_,_,Y,Y|hR (1+r) _ _ ⋯ (TrV.keep (λ a xs e=>gt bf pte (sce _ _ e)) _ tvc1) (TrV.keep (λ a xs e=>gt bf pte (sce _ _ e)) _ tvc2) (TrV.keep (λ a xs e=>gt bf pte (sce _ _ e)) _ tvc3) (But.same ((Pc.Same.but s4e).trans bf) hp)]]
 clear tvc1 tvc2 tvc3 la scd sde sce pte ptc s4d s4e s4c;rintro le z13 Hf le1 tvf1 tvf2 tvf3 s4f;refine cg (λ σ' H'=>∃(cl a1 a2 a3:P6),(σ'=[↑a,↑st,↑sa,⇑(1+i),↑p,⇑W,⇑hh,some v1,some v2,↑uv,some v3,some lv,⇑le,↑cl])/\H' cl=↥[.ref a1,.ref a2,.ref a3]/\(∀x∈[a1,a2,a3],H' x= ~~~((gu le b ks t1 W hh).map V.int))/\Same Hf H') (λ R hR=>?_) ?_
 ·refine%[_,Y,_,Y,_,Y,zS3|λ tq htq=>?_];refine bZ htq λ Hg k7 s7=>?_;have o1:TrO b ks W hh t1 t1:=%[ok1,Y|Y]
  have all:∀y∈[v1,v2,v3],∃T',TrV Hg T' y/\TrO b ks W hh t1 T':=λ y hy=>by
   simp only[G5,J1,QO]at hy;rcases hy with rfl | rfl | rfl
   ·exact%[t1,TrV.keep (λ a xs e=>s7 _ _ e) _ tvf1|o1]
   ·exact%[t2,TrV.keep (λ a xs e=>s7 _ _ e) _ tvf2|o2]
   ·exact%[t3,TrV.keep (λ a xs e=>s7 _ _ e) _ tvf3|o3]
  have s4g:=s4f.trans s7;refine%[tq,Y,%[_|G0 k7]|?_];refine And.right (bE (K:=K) (.inr k7) (λ i us Hx=>Same Hg Hx/\∃as:QA P6,us=as.map V.ref/\as.length=i/\∀x∈as,Hx x= ~~~((gu le b ks t1 W hh).map V.int)) (λ i us Hx _ e o h=>e.1 _ _ h) %[Same.refl _,[],rfl,rfl|λ x hx=>absurd hx (by simp)] (λ i x ys Hx hi z=>?_) (λ ys Hx z=>?_)) k7
  ·obtain⟨sx,as,rfl,al,ha⟩:=z;have hin:=(A6.mp hi).1;have h3:i < 3:=hin;have sz:(100:Nat) < sizeLine:=∅
   obtain⟨T',tvy,oy⟩:=all x (B5 hi);have n':lvN T'<=45:=by have:=oy.ln;lia
   refine%[by rw[G4];lia,leS.set rfl|bg %[_,Y,_,Y,_,Y,_,Y,_,Y,p,sa,le,b,W,hh,ks,x,toD T',T',Y,mv (bI (s4g.trans sx) sA4) w0 h0 (TrV.keep (λ a xs e=>sx _ _ e) _ tvy) oy.ok n',le1,b0,⋯,⋯,sh.g,k8|λ c Hy hc sy=>Nx.of hin %[sx.trans sy,as ++ [c],by rw[I9];rfl,by rw[G6,al];rfl|λ y hy=>?_]]];rcases C2.mp hy with hy | hy
   ·exact sy _ _ (ha y hy)
   ·rw[C9.mp hy,hc,AU oy.tl]
  ·obtain⟨sx,as,rfl,al,ha⟩:=z;have al:as.length=3:=al;obtain⟨a1,a2,a3,rfl⟩:=ls3 al;refine%[zS3|λ cl hcl=>?_];show bU _ _ _ (upd Hx cl (.lst [.ref a1,.ref a2,.ref a3])) _;refine bZ hcl λ Hy k9 s9=>?_;exact hR _ _ %[cl,a1,a2,a3,rfl,k9,λ x hx=>s9 _ _ (ha x hx)|s7.trans (sx.trans s9)]
 intro _ Hg hI9;refine cV λ G9 k9=>?_;obtain⟨cl,a1,a2,a3,rfl,kc,ka,sfg⟩:=hI9;refine k9 ?_;have b1:=ka a1 (by simp);have b2:=ka a2 (by simp);have b3:=ka a3 (by simp);obtain⟨y1,y2⟩:=dF (gu le b ks t1 W hh);have y3:(PyData.tuple ((gu le b ks t1 W hh).map .int)).canLay0=true:=by simp only[PyData.canLay0,y1]
 have y4:(PyData.tuple ((gu le b ks t1 W hh).map .int)).depth<=210:=by show PyData.depthAll _+1<=210;lia
 have dd:∀{x:P6},Hg x= ~~~((gu le b ks t1 W hh).map V.int)->DatV K Hg (.ref x) (.tuple ((gu le b ks t1 W hh).map .int)):=λ e=>.tup (G0 e) (vf _);refine%[_,Y,cl,_,_,_,Y,Y,G1 kc,(show atI [V.ref a1,.ref a2,.ref a3] 0=_ from rfl),Y,_,Y|?_];refine dO rfl %[_,rfl,cl,_,_,_,rfl,rfl,G1 kc,(show atI [V.ref a1,.ref a2,.ref a3] 1=_ from rfl),_,rfl,cl,_,_,_,rfl,rfl,G1 kc,(show atI [V.ref a1,.ref a2,.ref a3] 0=_ from rfl),_,_,dd b2,dd b1,y3,y3,y4,_,rfl|?_];rw[Qj _ y3];refine dO rfl %[_,rfl,cl,_,_,_,rfl,rfl,G1 kc,(show atI [V.ref a1,.ref a2,.ref a3] 2=_ from rfl),_,rfl,cl,_,_,_,rfl,rfl,G1 kc,(show atI [V.ref a1,.ref a2,.ref a3] 0=_ from rfl),_,_,dd b3,dd b1,y3,y3,y4,_,rfl|?_];rw[Qj _ y3];exact dO rfl %[%[_,_,_,_,_,_,_,_,_,_,_|rfl]|s24.trans (s4f.trans sfg)]
end
theorem Nr{α:Type}{us:QA α}(h:us.length=1):∃a,us=[a]:=by
 match us,h with
 | [a],_=>exact%[a|Y]
theorem AW{α:Type}{us:QA α}(h:us.length=2):∃a b,us=[a,b]:=by
 match us,h with
 | [a,b],_=>exact%[a,b|Y]
theorem GN{α:Type}{us:QA α}(h:us.length=3):∃a b c,us=[a,b,c]:=by
 match us,h with
 | [a,b,c],_=>exact%[a,b,c|Y]
theorem Nt{α:Type}{us:QA α}(h:us.length=4):∃a b c d,us=[a,b,c,d]:=by
 match us,h with
 | [a,b,c,d],_=>exact%[a,b,c,d|Y]
theorem Nu{α:Type}{us:QA α}(h:us.length=5):∃a b c d e,us=[a,b,c,d,e]:=by
 match us,h with
 | [a,b,c,d,e],_=>exact%[a,b,c,d,e|Y]
abbrev DI(K:C4)(n:Str)(st:Stmt)(f:P6):Prop:=∃(od an:P8 P6)(sl:P9 (P8 F8))(oc kV dc pm cd ct:F8),PySem.W.nsIn K QB n=some (↑f)/\K.lookup f=some %[oc,od,.func (E4 n n (defArgs st) (defBody st) (defScope st) .none kV dc pm an cd ct)|sl]/\PySem.W.codeIn K cd n=true/\PySem.W.keepIn K (.ref f)=true
abbrev MI(K:C4)(C:P6)(n q:Str)(st:Stmt)(f:P6):Prop:=∃(od an:P8 P6)(sl:P9 (P8 F8))(oc kV dc pm cd ct:F8),PySem.W.findIn K (.ref C) n=some (↑f)/\PySem.W.isFn K (.ref f)=true/\K.lookup f=some %[oc,od,.func (E4 n q (defArgs st) (defBody st) (defScope st) .none kV dc pm an cd ct)|sl]/\PySem.W.codeIn K cd q=true/\PySem.W.keepIn K (.ref f)=true
theorem diM{K:C4}{n:Str}{st:Stmt}{f:P6}{od an:P8 P6}{sl:P9 (P8 F8)}{oc kV dc pm cd ct:F8}(a:PySem.W.nsIn K QB n=some (↑f))(l:K.lookup f=some %[oc,od,.func (E4 n n (defArgs st) (defBody st) (defScope st) .none kV dc pm an cd ct)|sl])(c:PySem.W.codeIn K cd n=true)(k:PySem.W.keepIn K (.ref f)=true):DI K n st f:=%[_,_,_,_,_,_,_,_,_,a,l,c|k]
theorem miM{K:C4}{C:P6}{n q:Str}{st:Stmt}{f:P6}{od an:P8 P6}{sl:P9 (P8 F8)}{oc kV dc pm cd ct:F8}(a:PySem.W.findIn K (.ref C) n=some (↑f))(i:PySem.W.isFn K (.ref f)=true)(l:K.lookup f=some %[oc,od,.func (E4 n q (defArgs st) (defBody st) (defScope st) .none kV dc pm an cd ct)|sl])(c:PySem.W.codeIn K cd q=true)(k:PySem.W.keepIn K (.ref f)=true):MI K C n q st f:=%[_,_,_,_,_,_,_,_,_,a,i,l,c|k]
abbrev fnS(n q:Str)(st:Stmt)(kV dc pm:F8)(an:P8 P6)(cd ct:F8):F6:=E4 n q (defArgs st) (defBody st) (defScope st) .none kV dc pm an cd ct
abbrev HBd(n q:Str)(st:Stmt)(ps:QA Str):Prop:=∀(kV dc pm:F8)(an:P8 P6)(cd ct:F8)(us:QA F8),us.length=ps.length->bindArgs (fnS n q st kV dc pm an cd ct) %[us|[]]=pure (ps.zip us)
inductive DE(K:C4)(mg:Str->P8 Value)(n:Str)(st:Stmt)(f:P6)(ps:QA Str):Prop
|mk(fd:F6)(F:Fun K n n st f fd)(b:Binds K fd ps [])(k:PySem.W.keepIn K (.ref f)=true)(q:mg n=↑f)
theorem diE{K:C4}{h:Heap}{mg:Str->P8 F8}{n:Str}{st:Stmt}{f:P6}(X:K.In h)(G:h.Ns QB mg)(d:DI K n st f)(ps:QA Str)(hb:HBd n n st ps):DE K mg n st f ps:=by obtain⟨_,_,_,_,_,_,_,_,_,a,l,c,k⟩:=d;have F:=oh (st:=st) l c k;exact%[_,F,F.binds hb,k|PySem.W.mg_of X G a]
inductive ME(K:C4)(C:P6)(n q:Str)(st:Stmt)(f:P6)(ps:QA Str):Prop
|mk(fd:F6)(F:Fun K n q st f fd)(b:Binds K fd ps [])(k:PySem.W.keepIn K (.ref f)=true)(a:PySem.W.findIn K (.ref C) n=some (↑f))(i:PySem.W.isFn K (.ref f)=true)
theorem miE{K:C4}{C:P6}{n q:Str}{st:Stmt}{f:P6}(d:MI K C n q st f)(ps:QA Str)(hb:HBd n q st ps):ME K C n q st f ps:=by obtain⟨_,_,_,_,_,_,_,_,_,a,i,l,c,k⟩:=d;have F:=oh (st:=st) l c k;exact%[_,F,F.binds hb,k,a|i]
theorem dnA{P:F5}{w:F7}{K:C4}{h:Heap}{mg:Str->P8 F8}{base:Heap}(X:K.In h)(G:h.Ns QB mg){n:Str}{st:Stmt}{f:P6}(d:DI K n st f)(ps:QA Str)(hb:HBd n n st ps){k:Nat}{sp:Sp}(ok:∀fd:F6,Fun K n n st f fd->(∀ {k:Nat} {sp:Sp},FnOk P w K mg base CX0 k f fd ps sp->Dn P w K mg base n ps k sp)->FnOk P w K mg base CX0 k f fd ps sp):Dn P w K mg base n ps k sp:=by obtain⟨_,F,b,k,q⟩:=diE X G d ps hb;exact%[_,_,ok _ F λ h=>%[_,_,h,b,k|q],b,k|q]
theorem bd1{n q:Str}{st:Stmt}{a:Str}(h:∀ (kV dc pm:F8) (an:P8 P6) (cd ct ua:F8),bindArgs (fnS n q st kV dc pm an cd ct) %[[ua]|[]]=pure [(a,ua)]:=by intros;rfl):HBd n q st [a]:=by intro _ _ _ _ _ _ us hl;obtain⟨_,rfl⟩:=Nr hl;exact h _ _ _ _ _ _ _
theorem bd2{n q:Str}{st:Stmt}{a b:Str}(h:∀ (kV dc pm:F8) (an:P8 P6) (cd ct ua ub:F8),bindArgs (fnS n q st kV dc pm an cd ct) %[[ua,ub]|[]]=pure [(a,ua),(b,ub)]:=by intros;rfl):HBd n q st [a,b]:=by intro _ _ _ _ _ _ us hl;obtain⟨_,_,rfl⟩:=AW hl;exact h _ _ _ _ _ _ _ _
theorem bd3{n q:Str}{st:Stmt}{a b c:Str}(h:∀ (kV dc pm:F8) (an:P8 P6) (cd ct ua ub uc:F8),bindArgs (fnS n q st kV dc pm an cd ct) %[[ua,ub,uc]|[]]=pure [(a,ua),(b,ub),(c,uc)]:=by intros;rfl):HBd n q st [a,b,c]:=by intro _ _ _ _ _ _ us hl;obtain⟨_,_,_,rfl⟩:=GN hl;exact h _ _ _ _ _ _ _ _ _
theorem bd4{n q:Str}{st:Stmt}{a b c d:Str}(h:∀ (kV dc pm:F8) (an:P8 P6) (cd ct ua ub uc ud:F8),bindArgs (fnS n q st kV dc pm an cd ct) %[[ua,ub,uc,ud]|[]]=pure [(a,ua),(b,ub),(c,uc),(d,ud)]:=by intros;rfl):HBd n q st [a,b,c,d]:=by intro _ _ _ _ _ _ us hl;obtain⟨_,_,_,_,rfl⟩:=Nt hl;exact h _ _ _ _ _ _ _ _ _ _
theorem bd5{n q:Str}{st:Stmt}{a b c d e:Str}(h:∀ (kV dc pm:F8) (an:P8 P6) (cd ct ua ub uc ud ue:F8),bindArgs (fnS n q st kV dc pm an cd ct) %[[ua,ub,uc,ud,ue]|[]]=pure [(a,ua),(b,ub),(c,uc),(d,ud),(e,ue)]:=by intros;rfl):HBd n q st [a,b,c,d,e]:=by intro _ _ _ _ _ _ us hl;obtain⟨_,_,_,_,_,rfl⟩:=Nu hl;exact h _ _ _ _ _ _ _ _ _ _ _
theorem lx6{α:Type}{us:QA α}(h:us.length=6):∃a b c d e f,us=[a,b,c,d,e,f]:=by
 match us,h with
 | [a,b,c,d,e,f],_=>exact%[a,b,c,d,e,f|Y]
theorem bd6{n q:Str}{st:Stmt}{a b c d e f:Str}(h:∀ (kV dc pm:F8) (an:P8 P6) (cd ct ua ub uc ud ue uf:F8),bindArgs (fnS n q st kV dc pm an cd ct) %[[ua,ub,uc,ud,ue,uf]|[]]=pure [(a,ua),(b,ub),(c,uc),(d,ud),(e,ue),(f,uf)]:=by intros;rfl):HBd n q st [a,b,c,d,e,f]:=by intro _ _ _ _ _ _ us hl;obtain⟨_,_,_,_,_,_,rfl⟩:=lx6 hl;exact h _ _ _ _ _ _ _ _ _ _ _ _
theorem lx7{α:Type}{us:QA α}(h:us.length=7):∃a b c d e f g,us=[a,b,c,d,e,f,g]:=by
 match us,h with
 | [a,b,c,d,e,f,g],_=>exact%[a,b,c,d,e,f,g|Y]
theorem bd7{n q:Str}{st:Stmt}{a b c d e f g:Str}(h:∀ (kV dc pm:F8) (an:P8 P6) (cd ct ua ub uc ud ue uf ug:F8),bindArgs (fnS n q st kV dc pm an cd ct) %[[ua,ub,uc,ud,ue,uf,ug]|[]]=pure [(a,ua),(b,ub),(c,uc),(d,ud),(e,ue),(f,uf),(g,ug)]:=by intros;rfl):HBd n q st [a,b,c,d,e,f,g]:=by intro _ _ _ _ _ _ us hl;obtain⟨_,_,_,_,_,_,_,rfl⟩:=lx7 hl;exact h _ _ _ _ _ _ _ _ _ _ _ _ _
open PySem.W in
theorem all_mk{l:OpenLaw}{w:F7}{K:Frag}{h:Heap}{mg:Str->P8 F8}{fa f0 f1 f2 f3 f4 f5 f6 f7 f8 f9 f10 f11 f12 f13 f14 f15 f16 f17 f18 f19 f20 f21 f22 f23 f24 f25 f26 f27 f28 f29 f30 f31 f32 f33 f34 f35 f36 f37 f38 f39 f40 f41 f42 f43 f44 f45 f46 C fm0 fm1 fm2 fm3 fm4 CS fo0 fo1 fo2 fo3 fo4 fo5 fo6 fo7 fo8 xWAYS:P6}(X:K.In h)(G:h.Ns QB mg)(hfa:mg "law" = ↑fa)
  {tc0:Tok} {tc1:Tok} {tc2:Tok} {tc3:Tok} {tc4:Tok} {tc5:Tok} {tc6:Tok} {tc7:Tok} {tc8:Tok} {tc9:Tok} {tc10:Tok} {tc11:Tok} {tc12:Tok} {tc13:Tok} {tc14:Tok}
  (d0:DI K "is_whole" lP f0)
  (d1:DI K "is_truth" lQ f1)
  (d2:DI K "is_row" yj f2)
  (d3:DI K "is_kind" jk f3)
  (d4:DI K "can_lie_turned" jl f4)
  (d5:DI K "check_plate" dL f5)
  (d6:DI K "lies_in" jg f6)
  (d7:DI K "cut_parts" fY f7)
  (d8:DI K "begins_with" dN f8)
  (d9:DI K "is_cut" lR f9)
  (d10:DI K "is_leaf" jh f10)
  (d11:DI K "spots_behind" df f11)
  (d12:DI K "is_tree" jj f12)
  (d13:DI K "check_tree" eI f13)
  (d14:DI K "side_along" eJ f14)
  (d15:DI K "telling_of_part" bL f15)
  (d16:DI K "telling_of" eL f16)
  (d17:DI K "part_along" eK f17)
  (d18:DI K "way_of" lS f18)
  (d19:DI K "is_sized" gY f19)
  (d20:DI K "is_divided" cQ f20)
  (d21:DI K "as_telling" cr f21)
  (d22:DI K "tree_by_telling" bv f22)
  (d23:DI K "tree_told" ga f23)
  (d24:DI K "leaves_of" fZ f24)
  (d25:DI K "pieces_of" gb f25)
  (d26:DI K "counts_of" dZ f26)
  (d27:DI K "worth_of" fG f27)
  (d28:DI K "rests_of" fF f28)
  (d29:DI K "areas_of" gZ f29)
  (d30:DI K "turns_of" hG f30)
  (d31:DI K "check_sides" dM f31)
  (d32:DI K "fill" qY f32)
  (d33:DI K "fill_leaf" gc f33)
  (d34:DI K "picture" ef f34)
  (d35:DI K "_law_pot" yk f35)
  (d36:DI K "_law_draw" qZ f36)
  (d37:DI K "_law_number" jm f37)
  (d38:DI K "_law_fitting" fH f38)
  (d39:DI K "_law_leaf" rc f39)
  (d40:DI K "_law_tree" kR f40)
  (d41:DI K "_law_small" lT f41)
  (d42:DI K "_law_exchanged" cR f42)
  (d43:DI K "_law_signs" jL f43)
  (d44:DI K "_law_lot" ym f44)
  (d45:DI K "_law_in_store" fI f45)
  (d46:DI K "law" lU f46)
  (aC:nsIn K QB "Shop" = some (↑C))
  (dm0:MI K C "__init__" "Shop.__init__" ej fm0)
  (dm1:MI K C "blade" "Shop.blade" eN fm1)
  (dm2:MI K C "kinds" "Shop.kinds" eO fm2)
  (dm3:MI K C "is_lying" "Shop.is_lying" dg fm3)
  (dm4:MI K C "sides" "Shop.sides" eP fm4)
  (pg:plainGet K C Str.empty=true)
  (hd:hasDictIn K C=true)
  (po:plainOver K C=true)
  (sa:findIn K (.ref C) "__setattr__" = some (some (.builtin "object.__setattr__")))
  (mk:makesIn K C=true)
  (kc:keepIn K (.ref C)=true)
  (n0:findIn K (.ref C) "blade_width" = some none)
  (n1:findIn K (.ref C) "kind_rows" = some none)
  (aCS:nsIn K QB "Store" = some (↑CS))
  (do0:MI K CS "__init__" "Store.__init__" dE fo0)
  (do1:MI K CS "replace_standing" "Store.replace_standing" bA fo1)
  (do2:MI K CS "put" "Store.put" gh fo2)
  (do3:MI K CS "plate_of" "Store.plate_of" cU fo3)
  (do4:MI K CS "cut" "Store.cut" ce fo4)
  (do5:MI K CS "plates" "Store.plates" di fo5)
  (do6:MI K CS "made" "Store.made" eS fo6)
  (do7:MI K CS "cells" "Store.cells" cB fo7)
  (do8:MI K CS "undo" "Store.undo" eU fo8)
  (pgS:plainGet K CS Str.empty=true)
  (hdS:hasDictIn K CS=true)
  (poS:plainOver K CS=true)
  (saS:findIn K (.ref CS) "__setattr__" = some (some (.builtin "object.__setattr__")))
  (mkS:makesIn K CS=true)
  (kcS:keepIn K (.ref CS)=true)
  (nS0:findIn K (.ref CS) "shop" = some none)
  (nS1:findIn K (.ref CS) "least" = some none)
  (nS2:findIn K (.ref CS) "standing" = some none)
  (nS3:findIn K (.ref CS) "past" = some none)
  (eWAYS:nsIn K QB "WAYS" = some (↑xWAYS))
  (lWAYS:∃(o:Obj)(its:P9 F8)(n:Nat),K.lookup xWAYS=some o/\o.cls=.type "tuple" /\ o.data=.seq its n/\its.size<=sizeLine/\Vals [.str "down",.str "across"] its.toList)
  (z0:nsIn K QB "isinstance" = some none)
  (z1:nsIn K QB "int" = some none)
  (z2:nsIn K QB "bool" = some none)
  (z3:nsIn K QB "list" = some none)
  (z4:nsIn K QB "tuple" = some none)
  (z5:nsIn K QB "len" = some none)
  (z6:nsIn K QB "range" = some none)
  (z7:nsIn K QB "max" = some none)
  (z8:nsIn K QB "min" = some none)
  (z9:nsIn K QB "abs" = some none)
  (z10:nsIn K QB "divmod" = some none)
  (z11:nsIn K QB "sum" = some none)
  (z12:nsIn K QB "sorted" = some none)
  (z13:nsIn K QB "all" = some none)
  (z14:nsIn K QB "repr" = some none)
  (z15:nsIn K QB "zip" = some none)
  (z16:nsIn K QB "enumerate" = some none)
  (z17:nsIn K QB "str" = some none)
  (z18:nsIn K QB "reversed" = some none)
  (uc0:nsIn K QB "MOST_KINDS" = some (some (.int 8 tc0)))
  (uc1:nsIn K QB "THINGS_OF_A_KIND" = some (some (.int 5 tc1)))
  (uc2:nsIn K QB "DOWN" = some (some (.str "down" tc2)))
  (uc3:nsIn K QB "REST" = some (some (.str "rest" tc3)))
  (uc4:nsIn K QB "PIECE" = some (some (.str "piece" tc4)))
  (uc5:nsIn K QB "THINGS_OF_A_REST" = some (some (.int 1 tc5)))
  (uc6:nsIn K QB "THINGS_OF_A_PIECE" = some (some (.int 5 tc6)))
  (uc7:nsIn K QB "THINGS_OF_A_CUT" = some (some (.int 4 tc7)))
  (uc8:nsIn K QB "THINGS_OF_A_CUT_TELLING" = some (some (.int 2 tc8)))
  (uc9:nsIn K QB "LEAST_IN_A_ROW" = some (some (.int 2 tc9)))
  (uc10:nsIn K QB "LETTERS" = some (some (.str "abcdefgh" tc10)))
  (uc11:nsIn K QB "REST_SIGN" = some (some (.str "." tc11)))
  (uc12:nsIn K QB "MARGIN_SIGN" = some (some (.str "," tc12)))
  (uc13:nsIn K QB "BLADE_SIGN" = some (some (.str "+" tc13)))
  (uc14:nsIn K QB "MOST_SIDE" = some (some (.int 60 tc14))) :
  ∃fd:F6,(∀(s:F4)(v:F8),BindsTo s fd %[[v]|[]] [("_law_script",v)])/\∀base:Heap,K.In base->base.Ns QB mg->FnOk l.prog w K mg base CX0 161 fa fd ["_law_script"] (spLaw K):=by
 obtain⟨_,an,_,_,kV,dc,pm,cd,ct,a46,l46,c46,k46⟩:=d46;have F46:=oh (st:=lU) l46 c46 k46;obtain⟨_,Fm0,bm0,km0,am0,im0⟩:=miE dm0 ["self","blade","kinds"] (bd3 λ _ _ _ _ _ _ _ _ _=>rfl);obtain⟨_,Fm1,bm1,km1,am1,im1⟩:=miE dm1 ["self"] (bd1 λ _ _ _ _ _ _ _=>rfl);obtain⟨_,Fm2,bm2,km2,am2,im2⟩:=miE dm2 ["self"] (bd1 λ _ _ _ _ _ _ _=>rfl);obtain⟨_,Fm3,bm3,km3,am3,im3⟩:=miE dm3 ["self","kind","turned"] (bd3 λ _ _ _ _ _ _ _ _ _=>rfl);obtain⟨_,Fm4,bm4,km4,am4,im4⟩:=miE dm4 ["self","kind","turned"] (bd3 λ _ _ _ _ _ _ _ _ _=>rfl);obtain⟨_,Fo0,bo0,ko0,ao0,io0⟩:=miE do0 ["self","shop","least"] (bd3 λ _ _ _ _ _ _ _ _ _=>rfl);obtain⟨_,Fo1,bo1,ko1,ao1,io1⟩:=miE do1 ["self","standing"] (bd2 λ _ _ _ _ _ _ _ _=>rfl);obtain⟨_,Fo2,bo2,ko2,ao2,io2⟩:=miE do2 ["self","wide","high"] (bd3 λ _ _ _ _ _ _ _ _ _=>rfl);obtain⟨_,Fo3,bo3,ko3,ao3,io3⟩:=miE do3 ["self","number"] (bd2 λ _ _ _ _ _ _ _ _=>rfl);obtain⟨_,Fo4,bo4,ko4,ao4,io4⟩:=miE do4 ["self","number","tree"] (bd3 λ _ _ _ _ _ _ _ _ _=>rfl);obtain⟨_,Fo5,bo5,ko5,ao5,io5⟩:=miE do5 ["self"] (bd1 λ _ _ _ _ _ _ _=>rfl);obtain⟨_,Fo6,bo6,ko6,ao6,io6⟩:=miE do6 ["self"] (bd1 λ _ _ _ _ _ _ _=>rfl);obtain⟨_,Fo7,bo7,ko7,ao7,io7⟩:=miE do7 ["self"] (bd1 λ _ _ _ _ _ _ _=>rfl);obtain⟨_,Fo8,bo8,ko8,ao8,io8⟩:=miE do8 ["self"] (bd1 λ _ _ _ _ _ _ _=>rfl);have e:=hfa.symm.trans (mg_of X G a46);cases e;have y0:=mg_none_of X G z0;have y1:=mg_none_of X G z1;have y2:=mg_none_of X G z2;have y3:=mg_none_of X G z3;have y4:=mg_none_of X G z4;have y5:=mg_none_of X G z5;have y6:=mg_none_of X G z6;have y7:=mg_none_of X G z7;have y8:=mg_none_of X G z8;have y9:=mg_none_of X G z9;have y10:=mg_none_of X G z10;have y11:=mg_none_of X G z11;have y12:=mg_none_of X G z12;have y13:=mg_none_of X G z13;have y14:=mg_none_of X G z14;have y15:=mg_none_of X G z15;have y16:=mg_none_of X G z16;have y17:=mg_none_of X G z17;have y18:=mg_none_of X G z18;have gWAYS:=mg_of X G eWAYS;have u0:=mg_of X G uc0;have u1:=mg_of X G uc1;have u2:=mg_of X G uc2;have u3:=mg_of X G uc3;have u4:=mg_of X G uc4;have u5:=mg_of X G uc5;have u6:=mg_of X G uc6;have u7:=mg_of X G uc7;have u8:=mg_of X G uc8;have u9:=mg_of X G uc9;have u10:=mg_of X G uc10;have u11:=mg_of X G uc11;have u12:=mg_of X G uc12;have u13:=mg_of X G uc13;have u14:=mg_of X G uc14;have qC:=mg_of X G aC;have qCS:=mg_of X G aCS;refine%[fnOf "law" "law" (defArgs lU) (defBody lU) (defScope lU) .none kV dc pm an cd ct,λ s v=>.of_eq rfl|λ base _ _=>?_];have dA:=@dnA l.prog w K h mg base X G;have B:Blt mg:=%[y0,y1,y2,y3,y4,y5,y6,y7,y8,y9,y10,y11,y12,y13,y14,y15,y16,%[_|u0]|%[_|u1]]
 have T:ShopTxt K C:=%[%[pg,hd,po|sa],n0|n1]
 have Z:TrC K mg xWAYS:=%[%[_|u2],%[_|u3],%[_|u4],%[_|u5],%[_|u6],%[_|u7],gWAYS|λ H=>.inr lWAYS]
 have D0:=dA d0 ["thing","least"] bd2 λ _ F _=>vF F B;have D1:=dA d1 ["thing"] bd1 λ _ F _=>vG F B;have D2:=dA d2 ["thing"] bd1 λ _ F _=>Aw F B;have D3:=dA d3 ["thing"] bd1 λ _ F _=>sP F B D0 D1 D2;have D4:=dA d4 ["kind"] bd1 λ _ F _=>sQ F;have MB:Mn l.prog w K mg base C "blade" ["self"] 1 (eH C):=%[_,_,vH Fm1 T,bm1|%[am1,im1|km1]]
 have MK:Mn l.prog w K mg base C "kinds" ["self"] 1 (fT C):=%[_,_,vI Fm2 T y3,bm2|%[am2,im2|km2]]
 have MI:Mn l.prog w K mg base C "is_lying" ["self","kind","turned"] 2 (fU K C):=%[_,_,oC Fm3 B T D0 D1 D4,bm3|%[am3,im3|km3]]
 have MS:Mn l.prog w K mg base C "sides" ["self","kind","turned"] 3 (spSides K C):=%[_,_,vL Fm4 T MI,bm4|%[am4,im4|km4]]
 have DS:Kn l.prog w K mg base "Shop" C ["self","blade","kinds"] 3 (oj C):=%[_,_,%[mk,am0,im0|kc],yp Fm0 B T D0 D2 D3,bm0|qC]
 have D5:=dA d5 ["wide","high"] bd2 λ _ F _=>sW F D0;have D6:=dA d6 ["shop","wide","high","kind","turned","x","y"] bd7 λ _ F _=>vN F T D0 MI MS;have D7:=dA d7 ["blade","part","way","p"] bd4 λ _ F _=>sT F Z;have D8:=dA d8 ["thing","word","many"] bd3 λ _ F _=>sS F B y17 D2;have D9:=dA d9 ["blade","spot"] bd2 λ _ F _=>Ay F Z D8 D0;have D10:=dA d10 ["shop","spot"] bd2 λ _ F _=>yu F Z D8 D6;have D11:=dA d11 ["blade","spot"] bd2 λ _ F _=>sU F Z D7;have D12:=dA d12 ["shop","wide","high","thing"] bd4 λ _ F _=>sX F T MB D5 D9 D10 D11;have D13:=dA d13 ["shop","wide","high","thing"] bd4 λ _ F _=>tj F D12;have D14:=dA d14 ["part","way"] bd2 λ _ F _=>vV F Z;have D15:=dA d15 ["blade","part","tree"] bd3 λ _ F m=>nC F B Z D7 D14 (λ n h=>m h) 50 ∅;have D16:=dA d16 ["shop","wide","high","tree"] bd4 λ _ F _=>vX F T MB D13 D15;have D17:=dA d17 ["part","way","size"] bd3 λ _ F _=>wk F Z;have D18:=dA d18 ["thing"] bd1 λ _ F _=>wm F Z %[_|u8] D8;have D19:=dA d19 ["way","thing"] bd2 λ _ F _=>wn F B D2 D0 D18;have D20:=dA d20 ["blade","side","way","row"] bd4 λ _ F _=>yA F B %[_|u9] D2 D19;have D21:=dA d21 ["shop","part","thing"] bd3 λ _ F m=>rF F B T MB D10 D18 D14 D17 D20 (λ n h=>m h) 151;have D22:=dA d22 ["telling"] bd1 λ _ F m=>rG F B Z y18 (λ n h=>m h) 151;have D23:=dA d23 ["shop","wide","high","telling"] bd4 λ _ F _=>tw F B D5 D21 D22;have D24:=dA d24 ["shop","wide","high","tree"] bd4 λ _ F _=>oP F T Z MB D11;have DLf:Dn l.prog w K mg base "leaves_of" ["shop","wide","high","tree"] 3 (spLeaves C):=Dn.imp yD D24;have D25:=dA d25 ["shop","wide","high","tree"] bd4 λ _ F _=>tE F B Z D13 DLf;have D26:=dA d26 ["shop","wide","high","tree"] bd4 λ _ F _=>oQ F B T MK D25;have D27:=dA d27 ["shop","wide","high","tree"] bd4 λ _ F _=>tG F B T MK D26;have D28:=dA d28 ["shop","wide","high","tree"] bd4 λ _ F _=>wB F B Z D13 DLf;have D29:=dA d29 ["shop","wide","high","tree"] bd4 λ _ F _=>wC F B T Z MS D13 DLf;have D30:=dA d30 ["shop","wide","high","tree"] bd4 λ _ F _=>wD F B Z D13;have PC:PiC mg:=%[%[_|u10],%[_|u11],%[_|u12],%[_|u13],%[_|u14]|y18]
 have D31:=dA d31 ["wide","high","most"] bd3 λ _ F _=>tL F;have D32:=dA d32 ["rows","corner","sides","sign"] bd4 λ _ F _=>yW F B;have D33:=dA d33 ["shop","rows","spot"] bd3 λ _ F _=>nF F B T Z PC D32 MS;have D34:=dA d34 ["shop","wide","high","tree"] bd4 λ _ F _=>oV F B PC D5 D31 D13 D24 D33;have TS:StoreTxt K CS:=%[%[pgS,hdS,poS|saS],nS0,nS1,nS2|nS3]
 have MR:Mn l.prog w K mg base CS "replace_standing" ["self","standing"] 1 (spRepl CS C):=%[_,_,yL Fo1 TS,bo1|%[ao1,io1|ko1]]
 have MPu:Mn l.prog w K mg base CS "put" ["self","wide","high"] 3 (spPut CS C):=%[_,_,AJ Fo2 TS D5 MR,bo2|%[ao2,io2|ko2]]
 have MPo:Mn l.prog w K mg base CS "plate_of" ["self","number"] 2 (spPlOf CS C):=%[_,_,yO Fo3 TS D0,bo3|%[ao3,io3|ko3]]
 have MCu:Mn l.prog w K mg base CS "cut" ["self","number","tree"] 10 (spCutS CS C):=%[_,_,yS Fo4 B TS MPo MR D28 D26,bo4|%[ao4,io4|ko4]]
 have MPl:Mn l.prog w K mg base CS "plates" ["self"] 1 (spPlates CS C):=%[_,_,tJ Fo5 B TS,bo5|%[ao5,io5|ko5]]
 have MMd:Mn l.prog w K mg base CS "made" ["self"] 1 (spMade CS C):=%[_,_,yM Fo6 B TS,bo6|%[ao6,io6|ko6]]
 have MCe:Mn l.prog w K mg base CS "cells" ["self"] 2 (spCells CS C):=%[_,_,wJ Fo7 B TS T MK,bo7|%[ao7,io7|ko7]]
 have MU:Mn l.prog w K mg base CS "undo" ["self"] 1 (spUndo CS C):=%[_,_,yN Fo8 TS,bo8|%[ao8,io8|ko8]]
 have DSt:Kn l.prog w K mg base "Store" CS ["self","shop","least"] 2 (spSInit CS C):=%[_,_,%[mkS,ao0,io0|kcS],wI Fo0 B TS T D0 MK,bo0|qCS]
 have D35:=dA d35 ["_law_script","_law_place"] bd2 λ _ F _=>Az F B.len B.int;have D36:=dA d36 ["_law_pot_here","_law_many"] bd2 λ _ F _=>yx F;have D37:=dA d37 ["_law_pot_here","_law_least"] bd2 λ _ F _=>sY F D36;have D38:=dA d38 ["_law_kinds","_law_wide","_law_high"] bd3 λ _ F _=>yy F B;have D39:=dA d39 ["_law_pot_here","_law_kinds","_law_wide","_law_high"] bd4 λ _ F _=>vQ F B D36 D38;have D40:=dA d40 ["_law_pot_here","_law_shop","_law_wide","_law_high","_law_left","_law_deep"] bd6 λ _ F m=>nv F B D36 D39 (λ n h=>m h) 11;have D41:=dA d41 ["_law_pot_here","_law_most"] bd2 λ _ F _=>tN F B D36 D37;have D42:=dA d42 ["_law_pot_here","_law_blade","_law_wide","_law_high","_law_tree_here"] bd5 λ _ F m=>nJ F B D36 (λ n h=>m h) 40;have D43:=dA d43 ["_law_shop","_law_wide","_law_high","_law_tree_here"] bd4 λ _ F _=>wT F D34;have D44:=dA d44 ["_law_shop","_law_wide","_law_high","_law_tree_here"] bd4 λ _ F _=>AS F B D26 D27 D29 D30 D43;have D45:=dA d45 ["_law_shop","_law_least","_law_wide","_law_high","_law_tree_here"] bd5 λ _ F _=>zd F B TS MPu MCu MPl MMd MCe MU D26 DSt;exact AV F46 B D35 D36 D41 D40 D42 D16 D12 D23 D44 D45 DS
theorem walk{l:PySem.W.OpenLaw}{q:F5}{loose:QA Str}{XP:(Str->P8 F8)->Heap->Prop}{YP:F7->Heap->Prop}{d:DefRec}{K:Params->C4}(hn:l.most=some 63)(hdf:d.params.defaults=[])
  (hY:∀(w:F7)(h:Heap),YP w h->(K w.params).In h)
  (F:∀(w:F7)(mg:Str->P8 F8)(fa:P6)(h:Heap),(K w.params).In h->h.Ns QB mg->mg d.name=↑fa ->
   ∃fd:F6,(∀(s:F4)(u:F8),BindsTo s fd %[[u]|[]] [("_law_script",u)])/\∀base:Heap,(K w.params).In base->base.Ns QB mg->FnOk l.prog w (K w.params) mg base CX0 161 fa fd ["_law_script"] (spLaw (K w.params))) :
  PySem.W.WalkO q loose XP YP l.row.toRowW d [] (λ f vs=>PySem.call f vs) :=
 L2.walk_of (n:=63) (k:=161) (x := "_law_script") (CX:=λ _=>CX0) (sp:=λ w=>spLaw (K w.params)) hn ∅ hdf %[rfl,∅,∅|rfl] hY F (λ _ _ a ns hl _ hS=>%[a,ns,Y,hS,hl|λ _=>rfl]) λ _ _ _ _ _ z=>z
end Pc
namespace Pc
open PySem L2
section
open PySem.W
def kE(P:Params)(n:Str)(t:Nat)(v:F8):DictEntry:=%[PyData.keyHash P n,.str n t|v]
def kO3(P:Params):Obj:=%[(.type "dict"),none,(.dict #[kE P "__name__" 165 (.str "law_platecuts_k96_whole_one_telling_one_lot" 958),kE P "__doc__" 166 .none,kE P "__package__" 167 .none,kE P "__loader__" 168 (.builtin "__main__.__loader__#opaque"),kE P "__spec__" 169 .none,kE P "__annotations__" 170 (.ref 6),kE P "__builtins__" 171 (.ref 4),kE P "__file__" 173 (.str "/claim/cut.py" 172),kE P "__cached__" 174 .none,kE P "_wall" 193 (.ref 21),kE P "PlateError" 213 (.ref 31),kE P "NoBlade" 229 (.ref 44),kE P "NoKinds" 245 (.ref 56),kE P "NoKind" 261 (.ref 68),kE P "NoLying" 277 (.ref 80),kE P "NoPlate" 293 (.ref 92),kE P "NoTree" 309 (.ref 104),kE P "TooLarge" 325 (.ref 116),kE P "NoNumber" 341 (.ref 128),kE P "NoTelling" 357 (.ref 140),kE P "is_whole" 367 (.ref 149),kE P "is_truth" 374 (.ref 156),kE P "is_row" 381 (.ref 163),kE P "check_plate" 389 (.ref 170),kE P "check_sides" 398 (.ref 177),kE P "DOWN" 402 (.str "down" 401),kE P "ACROSS" 404 (.str "across" 403),kE P "WAYS" 405 (.ref 178),kE P "lies_in" 420 (.ref 185),kE P "cut_parts" 432 (.ref 192),kE P "REST" 436 (.str "rest" 435),kE P "PIECE" 438 (.str "piece" 437),kE P "THINGS_OF_A_REST" 440 (.int 1 439),kE P "THINGS_OF_A_PIECE" 442 (.int 5 441),kE P "THINGS_OF_A_CUT" 444 (.int 4 443),kE P "begins_with" 453 (.ref 199),kE P "is_cut" 464 (.ref 206),kE P "is_leaf" 477 (.ref 213),kE P "spots_behind" 501 (.ref 220),kE P "is_tree" 514 (.ref 227),kE P "check_tree" 524 (.ref 234),kE P "leaves_of" 537 (.ref 241),kE P "THINGS_OF_A_CUT_TELLING" 541 (.int 2 540),kE P "LEAST_IN_A_ROW" 543 (.int 2 542),kE P "side_along" 551 (.ref 248),kE P "part_along" 560 (.ref 255),kE P "telling_of_part" 576 (.ref 262),kE P "telling_of" 586 (.ref 269),kE P "way_of" 594 (.ref 276),kE P "is_sized" 602 (.ref 283),kE P "is_divided" 608 (.ref 288),kE P "as_telling" 614 (.ref 293),kE P "tree_by_telling" 620 (.ref 298),kE P "tree_told" 630 (.ref 305),kE P "pieces_of" 653 (.ref 312),kE P "rests_of" 659 (.ref 317),kE P "counts_of" 665 (.ref 322),kE P "worth_of" 671 (.ref 327),kE P "areas_of" 692 (.ref 334),kE P "MOST_SIDE" 696 (.int 60 695),kE P "LETTERS" 698 (.str "abcdefgh" 697),kE P "REST_SIGN" 700 (.str "." 699),kE P "MARGIN_SIGN" 702 (.str "," 701),kE P "BLADE_SIGN" 704 (.str "+" 703),kE P "fill" 720 (.ref 341),kE P "fill_leaf" 739 (.ref 348),kE P "picture" 745 (.ref 353),kE P "MOST_KINDS" 749 (.int 8 748),kE P "THINGS_OF_A_KIND" 751 (.int 5 750),kE P "is_kind" 763 (.ref 360),kE P "can_lie_turned" 770 (.ref 367),kE P "Shop" 844 (.ref 422),kE P "Store" 939 (.ref 493),kE P "turns_of" 957 (.ref 504),kE P "_law_pot" 968 (.ref 511),kE P "_law_draw" 977 (.ref 518),kE P "_law_number" 986 (.ref 525),kE P "_law_fitting" 992 (.ref 530),kE P "_law_leaf" 1007 (.ref 537),kE P "_law_tree" 1024 (.ref 544),kE P "_law_small" 1036 (.ref 551),kE P "_law_exchanged" 1051 (.ref 558),kE P "_law_signs" 1057 (.ref 563),kE P "_law_lot" 1068 (.ref 570),kE P "_law_in_store" 1074 (.ref 575),kE P "law" 1080 (.ref 580)] 86)|#[]]
def gk0(x0:Str)(x1:Nat)(x2:Str)(x3 x4 x5 x6 x7 x8 x9 x10 x11 x12 x13:Nat)(P:Params):Obj:=%[(.type "code"),none,(.fields #[.str x0 x1,.str x2 x3,.str "/claim/cut.py" x4,.int x5 0,.int x6 0,.int 0 0,.int 0 0,.int 3 0,.ref x7,.bool true,.int 181 0,.ref x8,.none,.ref x9,.ref x10,.ref x11,.int x12 0,.int x5 0,.str "/claim/cut.py" x13])|#[]]
def Nv:=gk0 "_wall" 187 "_wall" 188 189 1 1 15 16 17 18 19 191 192
def gk1(x0 x1:Str)(x2:Stmt)(x3:Str)(x4 x5:Nat)(P:Params):Obj:=%[(.type "function"),none,(.func (fnOf x0 x1 (defArgs x2) (defBody x2) (defScope x2) .none .none .none (.str x3 x4) none (.ref x5) .none))|#[]]
def Nw:=gk1 "_wall" "_wall" GD "__main__" 164 20
def Ny(P:Params):Obj:=%[(.type "dict"),none,(.dict #[kE P "__module__" 203 (.str "platecuts.errors" 194),kE P "__firstlineno__" 207 (.int 5 206),kE P "__static_attributes__" 208 (.ref 29),kE P "__weakref__" 210 (.ref 32),kE P "__doc__" 211 .none] 3)|#[]]
def Nz(P:Params):Obj:=%[(.type "type"),none,(.cls %["PlateError",[.type "ValueError"],[.ref 31,.type "ValueError",.type "Exception",.type "BaseException",.type "object"],30,"PlateError",true,[],[.ref 44,.ref 56,.ref 68,.ref 80,.ref 92,.ref 104,.ref 116,.ref 128,.ref 140],false,none|false])|#[↑22,none,some (.str "PlateError" 196),some (.str "PlateError" 204),some (.builtin "ValueError.__new__"),some (.bool true)]]
def gk2(x0 x1 x2 x3 x4 x5 x6:Nat)(P:Params):Obj:=%[(.type "dict"),none,(.dict #[kE P "__module__" x0 (.str "platecuts.errors" 194),kE P "__firstlineno__" x1 (.int x2 x3),kE P "__static_attributes__" x4 (.ref x5),kE P "__doc__" x6 .none] 2)|#[]]
def NA:=gk2 221 225 7 224 226 42 227
def gk3(x0:Str)(x1 x2 x3 x4 x5:Nat)(P:Params):Obj:=%[(.type "type"),none,(.cls %[x0,[.ref 31],[.ref x1,.ref 31,.type "ValueError",.type "Exception",.type "BaseException",.type "object"],x2,x0,true,[],[],false,none|false])|#[↑x3,none,some (.str x0 x4),some (.str x0 x5),some (.builtin "ValueError.__new__"),some (.bool true)]]
def NB:=gk3 "NoBlade" 44 43 35 214 222
def NC:=gk2 237 241 9 240 242 54 243
def ND:=gk3 "NoKinds" 56 55 47 230 238
def NE:=gk2 253 257 11 256 258 66 259
def NF:=gk3 "NoKind" 68 67 59 246 254
def NG:=gk2 269 273 13 272 274 78 275
def NH:=gk3 "NoLying" 80 79 71 262 270
def NI:=gk2 285 289 15 288 290 90 291
def NJ:=gk3 "NoPlate" 92 91 83 278 286
def GO:=gk2 301 305 17 304 306 102 307
def GP:=gk3 "NoTree" 104 103 95 294 302
def GQ:=gk2 317 321 19 320 322 114 323
def GR:=gk3 "TooLarge" 116 115 107 310 318
def GS:=gk2 333 337 21 336 338 126 339
def GT:=gk3 "NoNumber" 128 127 119 326 334
def GU:=gk2 349 353 23 352 354 138 355
def GV:=gk3 "NoTelling" 140 139 131 342 350
def GW:=gk0 "is_whole" 360 "is_whole" 361 362 26 2 143 144 145 146 147 365 366
def GX:=gk1 "is_whole" "is_whole" lP "platecuts.checks" 358 148
def GY:=gk0 "is_truth" 368 "is_truth" 369 370 28 1 150 151 152 153 154 372 373
def GZ:=gk1 "is_truth" "is_truth" lQ "platecuts.checks" 358 155
def Hh:=gk0 "is_row" 375 "is_row" 376 377 30 1 157 158 159 160 161 379 380
def Hi:=gk1 "is_row" "is_row" yj "platecuts.checks" 358 162
def Hj:=gk0 "check_plate" 382 "check_plate" 383 384 32 2 164 165 166 167 168 387 388
def Hk:=gk1 "check_plate" "check_plate" dL "platecuts.checks" 358 169
def Hl:=gk0 "check_sides" 390 "check_sides" 391 392 35 3 171 172 173 174 175 396 397
def Hm:=gk1 "check_sides" "check_sides" dM "platecuts.checks" 358 176
def Hn(P:Params):Obj:=%[(.type "tuple"),none,(.seq #[.str "down" 401,.str "across" 403] 0)|#[]]
def Ho:=gk0 "lies_in" 406 "lies_in" 407 408 42 7 179 180 181 182 183 418 419
def Hq:=gk1 "lies_in" "lies_in" jg "platecuts.parts" 399 184
def Hr:=gk0 "cut_parts" 421 "cut_parts" 422 423 47 4 186 187 188 189 190 430 431
def Hs:=gk1 "cut_parts" "cut_parts" fY "platecuts.parts" 399 191
def Ht:=gk0 "begins_with" 445 "begins_with" 446 447 58 3 193 194 195 196 197 451 452
def Hu:=gk1 "begins_with" "begins_with" dN "platecuts.trees" 433 198
def Hv:=gk0 "is_cut" 454 "is_cut" 455 456 62 2 200 201 202 203 204 462 463
def Hw:=gk1 "is_cut" "is_cut" lR "platecuts.trees" 433 205
def HA:=gk0 "is_leaf" 465 "is_leaf" 466 467 69 2 207 208 209 210 211 475 476
def HC:=gk1 "is_leaf" "is_leaf" jh "platecuts.trees" 433 212
def HD:=gk0 "spots_behind" 478 "spots_behind" 479 480 74 2 214 215 216 217 218 499 500
def HE:=gk1 "spots_behind" "spots_behind" df "platecuts.trees" 433 219
def HF:=gk0 "is_tree" 502 "is_tree" 503 504 81 4 221 222 223 224 225 512 513
def HG:=gk1 "is_tree" "is_tree" jj "platecuts.trees" 433 226
def HI:=gk0 "check_tree" 515 "check_tree" 516 517 92 4 228 229 230 231 232 522 523
def HJ:=gk1 "check_tree" "check_tree" eI "platecuts.trees" 433 233
def HL:=gk0 "leaves_of" 525 "leaves_of" 526 527 95 4 235 236 237 238 239 535 536
def HM:=gk1 "leaves_of" "leaves_of" fZ "platecuts.trees" 433 240
def HN:=gk0 "side_along" 544 "side_along" 545 546 108 2 242 243 244 245 246 549 550
def HP:=gk1 "side_along" "side_along" eJ "platecuts.tellings" 538 247
def HQ:=gk0 "part_along" 552 "part_along" 553 554 110 3 249 250 251 252 253 558 559
def HR:=gk1 "part_along" "part_along" eK "platecuts.tellings" 538 254
def HS:=gk0 "telling_of_part" 561 "telling_of_part" 562 563 112 3 256 257 258 259 260 574 575
def HU:=gk1 "telling_of_part" "telling_of_part" bL "platecuts.tellings" 538 261
def HV:=gk0 "telling_of" 577 "telling_of" 578 579 126 4 263 264 265 266 267 584 585
def HW:=gk1 "telling_of" "telling_of" eL "platecuts.tellings" 538 268
def HX:=gk0 "way_of" 587 "way_of" 588 589 129 1 270 271 272 273 274 592 593
def HY:=gk1 "way_of" "way_of" lS "platecuts.tellings" 538 275
def HZ:=gk0 "is_sized" 595 "is_sized" 596 597 134 2 277 278 279 280 281 600 601
def Ia:=gk1 "is_sized" "is_sized" gY "platecuts.tellings" 538 282
def gk4(x0:Str)(x1:Nat)(x2:Str)(x3 x4 x5 x6 x7 x8 x9 x10 x11:Nat)(P:Params):Obj:=%[(.type "code"),none,(.fields #[.str x0 x1,.str x2 x3,.str "/claim/cut.py" x4,.int x5 0,.int x6 0,.int 0 0,.int 0 0,.int 3 0,.ref x7,.bool true,.int 181 0,.ref x8,.none,.none,.none,.ref x9,.int x10 0,.int x5 0,.str "/claim/cut.py" x11])|#[]]
def Ib:=gk4 "is_divided" 603 "is_divided" 604 605 136 4 284 285 286 606 607
def Ic:=gk1 "is_divided" "is_divided" cQ "platecuts.tellings" 538 287
def Ie:=gk4 "as_telling" 609 "as_telling" 610 611 140 3 289 290 291 612 613
def Ig:=gk1 "as_telling" "as_telling" cr "platecuts.tellings" 538 292
def Ih:=gk4 "tree_by_telling" 615 "tree_by_telling" 616 617 152 1 294 295 296 618 619
def Ii:=gk1 "tree_by_telling" "tree_by_telling" bv "platecuts.tellings" 538 297
def Ij:=gk0 "tree_told" 621 "tree_told" 622 623 161 4 299 300 301 302 303 628 629
def Ik:=gk1 "tree_told" "tree_told" ga "platecuts.tellings" 538 304
def Il:=gk0 "pieces_of" 633 "pieces_of" 634 635 165 4 306 307 308 309 310 651 652
def Im:=gk1 "pieces_of" "pieces_of" gb "platecuts.measures" 631 311
def Io:=gk4 "rests_of" 654 "rests_of" 655 656 173 4 313 314 315 657 658
def Ip:=gk1 "rests_of" "rests_of" fF "platecuts.measures" 631 316
def Iq:=gk4 "counts_of" 660 "counts_of" 661 662 177 4 318 319 320 663 664
def Ir:=gk1 "counts_of" "counts_of" dZ "platecuts.measures" 631 321
def Iu:=gk4 "worth_of" 666 "worth_of" 667 668 183 4 323 324 325 669 670
def Iv:=gk1 "worth_of" "worth_of" fG "platecuts.measures" 631 326
def Iw:=gk0 "areas_of" 672 "areas_of" 673 674 186 4 328 329 330 331 332 690 691
def Ix:=gk1 "areas_of" "areas_of" gZ "platecuts.measures" 631 333
def Iy:=gk0 "fill" 705 "fill" 706 707 204 4 335 336 337 338 339 718 719
def Iz:=gk1 "fill" "fill" qY "platecuts.pictures" 693 340
def IA:=gk0 "fill_leaf" 721 "fill_leaf" 722 723 210 3 342 343 344 345 346 737 738
def IB:=gk1 "fill_leaf" "fill_leaf" gc "platecuts.pictures" 693 347
def IC:=gk4 "picture" 740 "picture" 741 742 218 4 349 350 351 743 744
def ID:=gk1 "picture" "picture" ef "platecuts.pictures" 693 352
def IE:=gk0 "is_kind" 752 "is_kind" 753 754 229 1 354 355 356 357 358 761 762
def IF:=gk1 "is_kind" "is_kind" jk "platecuts.shops" 746 359
def IG:=gk0 "can_lie_turned" 764 "can_lie_turned" 765 766 236 1 361 362 363 364 365 768 769
def IH:=gk1 "can_lie_turned" "can_lie_turned" jl "platecuts.shops" 746 366
def II:=gk4 "__init__" 783 "Shop.__init__" 784 785 240 3 375 376 377 786 787
def IJ:=gk1 "__init__" "Shop.__init__" ej "platecuts.shops" 746 378
def IK:=gk0 "blade" 789 "Shop.blade" 790 791 251 1 380 381 382 383 384 793 794
def IL:=gk1 "blade" "Shop.blade" eN "platecuts.shops" 746 385
def IM:=gk0 "kinds" 796 "Shop.kinds" 797 798 254 1 387 388 389 390 391 800 801
def IN:=gk1 "kinds" "Shop.kinds" eO "platecuts.shops" 746 392
def IO:=gk4 "wanted" 803 "Shop.wanted" 804 805 257 1 394 395 396 806 807
def IP:=gk1 "wanted" "Shop.wanted" mZ "platecuts.shops" 746 397
def IQ:=gk0 "lyings" 809 "Shop.lyings" 810 811 260 1 399 400 401 402 403 813 814
def IR:=gk1 "lyings" "Shop.lyings" ng "platecuts.shops" 746 404
def IS:=gk0 "is_lying" 816 "Shop.is_lying" 817 818 263 3 406 407 408 409 410 822 823
def IT:=gk1 "is_lying" "Shop.is_lying" dg "platecuts.shops" 746 411
def IU:=gk0 "sides" 825 "Shop.sides" 826 827 268 3 413 414 415 416 417 832 833
def IV:=gk1 "sides" "Shop.sides" eP "platecuts.shops" 746 418
def IW(P:Params):Obj:=%[(.type "dict"),none,(.dict #[kE P "__module__" 778 (.str "platecuts.shops" 746),kE P "__firstlineno__" 782 (.int 238 781),kE P "__init__" 788 (.ref 379),kE P "blade" 795 (.ref 386),kE P "kinds" 802 (.ref 393),kE P "wanted" 808 (.ref 398),kE P "lyings" 815 (.ref 405),kE P "is_lying" 824 (.ref 412),kE P "sides" 834 (.ref 419),kE P "__static_attributes__" 837 (.ref 420),kE P "__dict__" 839 (.ref 423),kE P "__weakref__" 841 (.ref 424),kE P "__doc__" 842 .none] 4)|#[]]
def gk5(x0:Str)(x1 x2 x3 x4:Nat)(P:Params):Obj:=%[(.type "type"),none,(.cls %[x0,[.type "object"],[.ref x1,.type "object"],x2,x0,true,[],[],false,none|false])|#[none,none,some (.str x0 x3),some (.str x0 x4),some (.builtin "object.__new__"),some (.bool true)]]
def IX:=gk5 "Shop" 422 421 771 779
def IY:=gk4 "__init__" 859 "Store.__init__" 860 861 278 3 434 435 436 862 863
def IZ:=gk1 "__init__" "Store.__init__" dE "platecuts.stores" 845 437
def Ja:=gk0 "replace_standing" 865 "Store.replace_standing" 866 867 286 2 439 440 441 442 443 870 871
def Jb:=gk1 "replace_standing" "Store.replace_standing" bA "platecuts.stores" 845 444
def Jc:=gk0 "put" 873 "Store.put" 874 875 290 3 446 447 448 449 450 883 884
def Jd:=gk1 "put" "Store.put" gh "platecuts.stores" 845 451
def Je:=gk0 "plate_of" 886 "Store.plate_of" 887 888 296 2 453 454 455 456 457 892 893
def Jf:=gk1 "plate_of" "Store.plate_of" cU "platecuts.stores" 845 458
def Jg:=gk4 "cut" 895 "Store.cut" 896 897 303 3 460 461 462 898 899
def Jh:=gk1 "cut" "Store.cut" ce "platecuts.stores" 845 463
def Ji:=gk0 "plates" 901 "Store.plates" 902 903 315 1 465 466 467 468 469 905 906
def Jj:=gk1 "plates" "Store.plates" di "platecuts.stores" 845 470
def Jk:=gk0 "made" 908 "Store.made" 909 910 318 1 472 473 474 475 476 912 913
def Jl:=gk1 "made" "Store.made" eS "platecuts.stores" 845 477
def Jm:=gk4 "cells" 915 "Store.cells" 916 917 321 1 479 480 481 918 919
def Jn:=gk1 "cells" "Store.cells" cB "platecuts.stores" 845 482
def Jo:=gk0 "undo" 921 "Store.undo" 922 923 327 1 484 485 486 487 488 925 926
def Jp:=gk1 "undo" "Store.undo" eU "platecuts.stores" 845 489
def Jq(P:Params):Obj:=%[(.type "dict"),none,(.dict #[kE P "__module__" 854 (.str "platecuts.stores" 845),kE P "__firstlineno__" 858 (.int 276 857),kE P "__init__" 864 (.ref 438),kE P "replace_standing" 872 (.ref 445),kE P "put" 885 (.ref 452),kE P "plate_of" 894 (.ref 459),kE P "cut" 900 (.ref 464),kE P "plates" 907 (.ref 471),kE P "made" 914 (.ref 478),kE P "cells" 920 (.ref 483),kE P "undo" 927 (.ref 490),kE P "__static_attributes__" 932 (.ref 491),kE P "__dict__" 934 (.ref 494),kE P "__weakref__" 936 (.ref 495),kE P "__doc__" 937 .none] 4)|#[]]
def Jr:=gk5 "Store" 493 492 847 855
def Js:=gk0 "turns_of" 942 "turns_of" 943 944 333 4 498 499 500 501 502 955 956
def Jt:=gk1 "turns_of" "turns_of" hG "platecuts.turning" 940 503
def Ju:=gk0 "_law_pot" 960 "_law_pot" 961 962 347 2 505 506 507 508 509 966 967
def Jv:=gk1 "_law_pot" "_law_pot" yk "law_platecuts_k96_whole_one_telling_one_lot" 958 510
def Jw:=gk0 "_law_draw" 969 "_law_draw" 970 971 352 2 512 513 514 515 516 975 976
def Jx:=gk1 "_law_draw" "_law_draw" qZ "law_platecuts_k96_whole_one_telling_one_lot" 958 517
def Jy:=gk0 "_law_number" 978 "_law_number" 979 980 359 2 519 520 521 522 523 984 985
def Jz:=gk1 "_law_number" "_law_number" jm "law_platecuts_k96_whole_one_telling_one_lot" 958 524
def JA:=gk4 "_law_fitting" 987 "_law_fitting" 988 989 366 3 526 527 528 990 991
def JB:=gk1 "_law_fitting" "_law_fitting" fH "law_platecuts_k96_whole_one_telling_one_lot" 958 529
def JC:=gk0 "_law_leaf" 993 "_law_leaf" 994 995 374 4 531 532 533 534 535 1005 1006
def JD:=gk1 "_law_leaf" "_law_leaf" rc "law_platecuts_k96_whole_one_telling_one_lot" 958 536
def JE:=gk0 "_law_tree" 1008 "_law_tree" 1009 1010 380 6 538 539 540 541 542 1022 1023
def JF:=gk1 "_law_tree" "_law_tree" kR "law_platecuts_k96_whole_one_telling_one_lot" 958 543
def JG:=gk0 "_law_small" 1025 "_law_small" 1026 1027 393 2 545 546 547 548 549 1034 1035
def JH:=gk1 "_law_small" "_law_small" lT "law_platecuts_k96_whole_one_telling_one_lot" 958 550
def JI:=gk0 "_law_exchanged" 1037 "_law_exchanged" 1038 1039 400 5 552 553 554 555 556 1049 1050
def JJ:=gk1 "_law_exchanged" "_law_exchanged" cR "law_platecuts_k96_whole_one_telling_one_lot" 958 557
def JK:=gk4 "_law_signs" 1052 "_law_signs" 1053 1054 415 4 559 560 561 1055 1056
def JL:=gk1 "_law_signs" "_law_signs" jL "law_platecuts_k96_whole_one_telling_one_lot" 958 562
def JM:=gk0 "_law_lot" 1058 "_law_lot" 1059 1060 418 4 564 565 566 567 568 1066 1067
def JN:=gk1 "_law_lot" "_law_lot" ym "law_platecuts_k96_whole_one_telling_one_lot" 958 569
def JO:=gk4 "_law_in_store" 1069 "_law_in_store" 1070 1071 421 5 571 572 573 1072 1073
def JP:=gk1 "_law_in_store" "_law_in_store" fI "law_platecuts_k96_whole_one_telling_one_lot" 958 574
def JQ:=gk4 "law" 1075 "law" 1076 1077 435 1 576 577 578 1078 1079
def JR:=gk1 "law" "law" lU "law_platecuts_k96_whole_one_telling_one_lot" 958 579
def kK:Params->Frag:=λ P=>(nat_lit 3,kO3 P) :: (nat_lit 20,Nv P) :: (nat_lit 21,Nw P) :: (nat_lit 30,Ny P) :: (nat_lit 31,Nz P) :: (nat_lit 43,NA P) :: (nat_lit 44,NB P) :: (nat_lit 55,NC P) :: (nat_lit 56,ND P) :: (nat_lit 67,NE P) :: (nat_lit 68,NF P) :: (nat_lit 79,NG P) :: (nat_lit 80,NH P) :: (nat_lit 91,NI P) :: (nat_lit 92,NJ P) :: (nat_lit 103,GO P) :: (nat_lit 104,GP P) :: (nat_lit 115,GQ P) :: (nat_lit 116,GR P) :: (nat_lit 127,GS P) :: (nat_lit 128,GT P) :: (nat_lit 139,GU P) :: (nat_lit 140,GV P) :: (nat_lit 148,GW P) :: (nat_lit 149,GX P) :: (nat_lit 155,GY P) :: (nat_lit 156,GZ P) :: (nat_lit 162,Hh P) :: (nat_lit 163,Hi P) :: (nat_lit 169,Hj P) :: (nat_lit 170,Hk P) :: (nat_lit 176,Hl P) :: (nat_lit 177,Hm P) :: (nat_lit 178,Hn P) :: (nat_lit 184,Ho P) :: (nat_lit 185,Hq P) :: (nat_lit 191,Hr P) :: (nat_lit 192,Hs P) :: (nat_lit 198,Ht P) :: (nat_lit 199,Hu P) :: (nat_lit 205,Hv P) :: (nat_lit 206,Hw P) :: (nat_lit 212,HA P) :: (nat_lit 213,HC P) :: (nat_lit 219,HD P) :: (nat_lit 220,HE P) :: (nat_lit 226,HF P) :: (nat_lit 227,HG P) :: (nat_lit 233,HI P) :: (nat_lit 234,HJ P) :: (nat_lit 240,HL P) :: (nat_lit 241,HM P) :: (nat_lit 247,HN P) :: (nat_lit 248,HP P) :: (nat_lit 254,HQ P) :: (nat_lit 255,HR P) :: (nat_lit 261,HS P) :: (nat_lit 262,HU P) :: (nat_lit 268,HV P) :: (nat_lit 269,HW P) :: (nat_lit 275,HX P) :: (nat_lit 276,HY P) :: (nat_lit 282,HZ P) :: (nat_lit 283,Ia P) :: (nat_lit 287,Ib P) :: (nat_lit 288,Ic P) :: (nat_lit 292,Ie P) :: (nat_lit 293,Ig P) :: (nat_lit 297,Ih P) :: (nat_lit 298,Ii P) :: (nat_lit 304,Ij P) :: (nat_lit 305,Ik P) :: (nat_lit 311,Il P) :: (nat_lit 312,Im P) :: (nat_lit 316,Io P) :: (nat_lit 317,Ip P) :: (nat_lit 321,Iq P) :: (nat_lit 322,Ir P) :: (nat_lit 326,Iu P) :: (nat_lit 327,Iv P) :: (nat_lit 333,Iw P) :: (nat_lit 334,Ix P) :: (nat_lit 340,Iy P) :: (nat_lit 341,Iz P) :: (nat_lit 347,IA P) :: (nat_lit 348,IB P) :: (nat_lit 352,IC P) :: (nat_lit 353,ID P) :: (nat_lit 359,IE P) :: (nat_lit 360,IF P) :: (nat_lit 366,IG P) :: (nat_lit 367,IH P) :: (nat_lit 378,II P) :: (nat_lit 379,IJ P) :: (nat_lit 385,IK P) :: (nat_lit 386,IL P) :: (nat_lit 392,IM P) :: (nat_lit 393,IN P) :: (nat_lit 397,IO P) :: (nat_lit 398,IP P) :: (nat_lit 404,IQ P) :: (nat_lit 405,IR P) :: (nat_lit 411,IS P) :: (nat_lit 412,IT P) :: (nat_lit 418,IU P) :: (nat_lit 419,IV P) :: (nat_lit 421,IW P) :: (nat_lit 422,IX P) :: (nat_lit 437,IY P) :: (nat_lit 438,IZ P) :: (nat_lit 444,Ja P) :: (nat_lit 445,Jb P) :: (nat_lit 451,Jc P) :: (nat_lit 452,Jd P) :: (nat_lit 458,Je P) :: (nat_lit 459,Jf P) :: (nat_lit 463,Jg P) :: (nat_lit 464,Jh P) :: (nat_lit 470,Ji P) :: (nat_lit 471,Jj P) :: (nat_lit 477,Jk P) :: (nat_lit 478,Jl P) :: (nat_lit 482,Jm P) :: (nat_lit 483,Jn P) :: (nat_lit 489,Jo P) :: (nat_lit 490,Jp P) :: (nat_lit 492,Jq P) :: (nat_lit 493,Jr P) :: (nat_lit 503,Js P) :: (nat_lit 504,Jt P) :: (nat_lit 510,Ju P) :: (nat_lit 511,Jv P) :: (nat_lit 517,Jw P) :: (nat_lit 518,Jx P) :: (nat_lit 524,Jy P) :: (nat_lit 525,Jz P) :: (nat_lit 529,JA P) :: (nat_lit 530,JB P) :: (nat_lit 536,JC P) :: (nat_lit 537,JD P) :: (nat_lit 543,JE P) :: (nat_lit 544,JF P) :: (nat_lit 550,JG P) :: (nat_lit 551,JH P) :: (nat_lit 557,JI P) :: (nat_lit 558,JJ P) :: (nat_lit 562,JK P) :: (nat_lit 563,JL P) :: (nat_lit 569,JM P) :: (nat_lit 570,JN P) :: (nat_lit 574,JO P) :: (nat_lit 575,JP P) :: (nat_lit 579,JQ P) :: (nat_lit 580,JR P) :: []
end
end Pc
abbrev PySem.W.Fast.tw17408012804436279080:PySem.Program:=PySem.Challenge.pw_platecuts_k96_whole_one_telling_one_lot
theorem PySem.W.Fast.te17408012804436279080:PySem.Challenge.pw_platecuts_k96_whole_one_telling_one_lot=PySem.W.Fast.tw17408012804436279080:=rfl
namespace Hd
open PySem PySem.W
def S0:Str:="__name__"
def S2:Str:="__doc__"
def S3:Str:="__package__"
def S4:Str:="__loader__"
def S5:Str:="__spec__"
def JS:Str:="__main__"
def AX:Str:="__annotations__"
def AY:Str:="__builtins__"
def AZ:Str:="__file__"
def mx:Str:=%[|%[|[47,99,108,97,105,109,47,99,117,116,46,112,121]]]
def Ba:Str:="__cached__"
def NK:Str:="<module>"
def ik:Str:="platecuts.errors"
def nM:Str:="_wall"
def im:Str:="PlateError"
def oX:Str:="NoBlade"
def oY:Str:="NoKinds"
def oZ:Str:="NoKind"
def pb:Str:="NoLying"
def pd:Str:="NoPlate"
def pf:Str:="NoTree"
def pi:Str:="TooLarge"
def pj:Str:="NoNumber"
def NL:Str:="k"
def pq:Str:="__module__"
def Bc:Str:="__qualname__"
def pC:Str:="__firstlineno__"
def pE:Str:="__static_attributes__"
def ze:Str:="__weakref__"
def iM:Str:="platecuts.stores"
def tO:Str:="NoTelling"
def pG:Str:="is_whole"
def pH:Str:="is_truth"
def pI:Str:="is_row"
def pJ:Str:="check_plate"
def pK:Str:="check_sides"
def Bd:Str:="DOWN"
def Be:Str:="down"
def Bf:Str:="ACROSS"
def Bg:Str:="across"
def Bh:Str:="WAYS"
def pL:Str:="lies_in"
def pM:Str:="cut_parts"
def Bi:Str:="REST"
def JT:Str:="rest"
def Bj:Str:="PIECE"
def JU:Str:="piece"
def Bk:Str:="THINGS_OF_A_REST"
def Bl:Str:="THINGS_OF_A_PIECE"
def Bm:Str:="THINGS_OF_A_CUT"
def pN:Str:="begins_with"
def pO:Str:="is_cut"
def pP:Str:="is_leaf"
def pQ:Str:="spots_behind"
def pR:Str:="is_tree"
def pS:Str:="check_tree"
def pT:Str:="leaves_of"
def Bn:Str:="THINGS_OF_A_CUT_TELLING"
def Bo:Str:="LEAST_IN_A_ROW"
def pU:Str:="side_along"
def pV:Str:="part_along"
def pW:Str:="telling_of_part"
def pX:Str:="telling_of"
def pY:Str:="way_of"
def pZ:Str:="is_sized"
def qb:Str:="is_divided"
def qc:Str:="as_telling"
def qd:Str:="tree_by_telling"
def qe:Str:="tree_told"
def qg:Str:="pieces_of"
def qh:Str:="rests_of"
def qi:Str:="counts_of"
def qj:Str:="worth_of"
def qk:Str:="areas_of"
def Bp:Str:="MOST_SIDE"
def Bq:Str:="LETTERS"
def JV:Str:="abcdefgh"
def Br:Str:="REST_SIGN"
def JW:Str:="."
def Bs:Str:="MARGIN_SIGN"
def JX:Str:=%[|%[|[44]]]
def Bt:Str:="BLADE_SIGN"
def JY:Str:=%[|%[|[43]]]
def ql:Str:="fill"
def qm:Str:="fill_leaf"
def qo:Str:="picture"
def Bu:Str:="MOST_KINDS"
def Bv:Str:="THINGS_OF_A_KIND"
def qp:Str:="is_kind"
def qq:Str:="can_lie_turned"
def tP:Str:="Shop"
def my:Str:="thing"
def JZ:Str:="least"
def wZ:Str:="platecuts.checks"
def fN:Str:="wide"
def fO:Str:="high"
def Ka:Str:="most"
def km:Str:="shop"
def tQ:Str:="kind"
def xb:Str:="turned"
def qr:Str:="x"
def qt:Str:="y"
def Kb:Str:="piece_wide"
def Kc:Str:="piece_high"
def Ke:Str:="platecuts.parts"
def kr:Str:="blade"
def zf:Str:="part"
def mz:Str:="way"
def Kf:Str:="p"
def Bw:Str:="word"
def NM:Str:="many"
def qu:Str:="platecuts.trees"
def tR:Str:="spot"
def nN:Str:="tree"
def NO:Str:="side"
def Kg:Str:="first"
def Kh:Str:="second"
def NP:Str:="wide_ahead"
def NQ:Str:="high_ahead"
def NR:Str:="wide_behind"
def NS:Str:="high_behind"
def NT:Str:="step"
def NU:Str:="far_x"
def NV:Str:="far_y"
def zg:Str:="waiting"
def NW:Str:="leaves"
def kx:Str:="platecuts.tellings"
def NX:Str:="size"
def Ki:Str:="row"
def NY:Str:="inner_part"
def NZ:Str:="inner_tree"
def Oa:Str:="telling"
def Ob:Str:="pieces"
def Kj:Str:="part_wide"
def Kk:Str:="part_high"
def Bx:Str:="leaf"
def Kl:Str:="piece_x"
def Km:Str:="piece_y"
def xc:Str:="platecuts.measures"
def Oc:Str:="rests"
def Od:Str:="margins"
def tS:Str:="cells"
def Ko:Str:="rows"
def Oe:Str:="corner"
def tT:Str:="sides"
def Of:Str:="sign"
def Og:Str:="up"
def Oh:Str:="right"
def By:Str:="platecuts.pictures"
def Oi:Str:="worth"
def tU:Str:="wanted"
def Kp:Str:="turns"
def iZ:Str:="platecuts.shops"
def kz:Str:="__init__"
def xf:Str:="kinds"
def xg:Str:="lyings"
def xh:Str:="is_lying"
def Bz:Str:="Shop.__init__"
def kn:Str:="self"
def BA:Str:="Shop.blade"
def BB:Str:="Shop.kinds"
def BC:Str:="Shop.wanted"
def BD:Str:="Shop.lyings"
def BE:Str:="Shop.is_lying"
def BF:Str:="Shop.sides"
def Oj:Str:="blade_width"
def Ol:Str:="kind_rows"
def BG:Str:="__dict__"
def iN:Str:="law_platecuts_k96_whole_one_telling_one_lot"
def xi:Str:="Store"
def tV:Str:="turns_of"
def tW:Str:="_law_pot"
def tX:Str:="_law_draw"
def tY:Str:="_law_number"
def tZ:Str:="_law_fitting"
def uh:Str:="_law_leaf"
def ui:Str:="_law_tree"
def uj:Str:="_law_small"
def uk:Str:="_law_exchanged"
def um:Str:="_law_signs"
def uo:Str:="_law_lot"
def uq:Str:="_law_in_store"
def xj:Str:="law"
def xk:Str:="replace_standing"
def xn:Str:="put"
def xo:Str:="plate_of"
def xq:Str:="cut"
def ur:Str:="plates"
def ut:Str:="made"
def xt:Str:="undo"
def BH:Str:="Store.__init__"
def Kq:Str:="standing"
def BI:Str:="Store.replace_standing"
def Kr:Str:="number"
def Om:Str:="cells_put"
def BJ:Str:="Store.put"
def On:Str:="plate"
def BK:Str:="Store.plate_of"
def BL:Str:="Store.cut"
def BM:Str:="Store.plates"
def BN:Str:="Store.made"
def BO:Str:="Store.cells"
def BP:Str:="Store.undo"
def Oo:Str:="past"
def Op:Str:="part_tree"
def Oq:Str:="way_ahead"
def Os:Str:="platecuts.turning"
def Ot:Str:="_law_script"
def Ks:Str:="_law_place"
def Ou:Str:="_law_cell"
def uw:Str:="_law_pot_here"
def Ov:Str:="_law_many"
def Kt:Str:="_law_found"
def Ow:Str:="_law_least"
def Ox:Str:="_law_way"
def Ku:Str:="_law_kinds"
def xu:Str:="_law_wide"
def xx:Str:="_law_high"
def Oy:Str:="_law_some"
def Oz:Str:="_law_number_here"
def OA:Str:="_law_turned"
def OB:Str:="_law_a"
def OC:Str:="_law_b"
def Kv:Str:="_law_shop"
def Kw:Str:="_law_left"
def OD:Str:="_law_deep"
def OE:Str:="_law_down"
def OF:Str:="_law_room"
def Kx:Str:="_law_behind"
def Ky:Str:="_law_first"
def OG:Str:="_law_most"
def OH:Str:="_law_k"
def OI:Str:="_law_blade"
def Kz:Str:="_law_tree_here"
def OJ:Str:="_law_second"
abbrev HK:Hook:=kHook Pc.kK [nat_lit 3,nat_lit 20,nat_lit 21,nat_lit 30,nat_lit 31,nat_lit 43,nat_lit 44,nat_lit 55,nat_lit 56,nat_lit 67,nat_lit 68,nat_lit 79,nat_lit 80,nat_lit 91,nat_lit 92,nat_lit 103,nat_lit 104,nat_lit 115,nat_lit 116,nat_lit 127,nat_lit 128,nat_lit 139,nat_lit 140,nat_lit 148,nat_lit 149,nat_lit 155,nat_lit 156,nat_lit 162,nat_lit 163,nat_lit 169,nat_lit 170,nat_lit 176,nat_lit 177,nat_lit 178,nat_lit 184,nat_lit 185,nat_lit 191,nat_lit 192,nat_lit 198,nat_lit 199,nat_lit 205,nat_lit 206,nat_lit 212,nat_lit 213,nat_lit 219,nat_lit 220,nat_lit 226,nat_lit 227,nat_lit 233,nat_lit 234,nat_lit 240,nat_lit 241,nat_lit 247,nat_lit 248,nat_lit 254,nat_lit 255,nat_lit 261,nat_lit 262,nat_lit 268,nat_lit 269,nat_lit 275,nat_lit 276,nat_lit 282,nat_lit 283,nat_lit 287,nat_lit 288,nat_lit 292,nat_lit 293,nat_lit 297,nat_lit 298,nat_lit 304,nat_lit 305,nat_lit 311,nat_lit 312,nat_lit 316,nat_lit 317,nat_lit 321,nat_lit 322,nat_lit 326,nat_lit 327,nat_lit 333,nat_lit 334,nat_lit 340,nat_lit 341,nat_lit 347,nat_lit 348,nat_lit 352,nat_lit 353,nat_lit 359,nat_lit 360,nat_lit 366,nat_lit 367,nat_lit 378,nat_lit 379,nat_lit 385,nat_lit 386,nat_lit 392,nat_lit 393,nat_lit 397,nat_lit 398,nat_lit 404,nat_lit 405,nat_lit 411,nat_lit 412,nat_lit 418,nat_lit 419,nat_lit 421,nat_lit 422,nat_lit 437,nat_lit 438,nat_lit 444,nat_lit 445,nat_lit 451,nat_lit 452,nat_lit 458,nat_lit 459,nat_lit 463,nat_lit 464,nat_lit 470,nat_lit 471,nat_lit 477,nat_lit 478,nat_lit 482,nat_lit 483,nat_lit 489,nat_lit 490,nat_lit 492,nat_lit 493,nat_lit 503,nat_lit 504,nat_lit 510,nat_lit 511,nat_lit 517,nat_lit 518,nat_lit 524,nat_lit 525,nat_lit 529,nat_lit 530,nat_lit 536,nat_lit 537,nat_lit 543,nat_lit 544,nat_lit 550,nat_lit 551,nat_lit 557,nat_lit 558,nat_lit 562,nat_lit 563,nat_lit 569,nat_lit 570,nat_lit 574,nat_lit 575,nat_lit 579,nat_lit 580] (λ _=>by kernel_rfl)
abbrev pt:F5:=PySem.W.Fast.tw17408012804436279080
theorem pt_eq:PySem.Challenge.pw_platecuts_k96_whole_one_telling_one_lot=pt:=PySem.W.Fast.te17408012804436279080
def tp(i:Nat):Stmt:=pt.main.body.getD i (.Pass %[0,0,0|0])
abbrev f(o:Params->Obj)(l r:Params->BT):Params->BT:=λ P=>.node (o P) (l P) (r P)
abbrev z:Params->BT:=λ _=>.nil
abbrev e(P:Params)(n:Str)(t:Nat)(v:F8):DictEntry:=%[PyData.keyHash P n,.str n t|v]
abbrev m0:Nat:=nat_lit 11
abbrev an:P8 F8:=(↑6)
abbrev en:Env:={ scope:=pt.main.scope,locals:=mainNs,globals:=mainNs,cells:=[],code:=(.ref 13),frame:=some 14 }
abbrev cE:Code:=.body (behindTheImports pt) en
abbrev qP:Pos:=%[0,0,0|0]
abbrev B:QA Frame:=[topFrame qP]
abbrev L0:=SL.s14018661285674007319x4
abbrev L1:=SL.s11665532747177232413x24
abbrev L2:=SL.s15183661809925369436x15
abbrev L3:=SL.s13915890719876406383x10
abbrev L4:=SL.s13459172003223722735x3
abbrev L5:=SL.s10557405761357834076x3
abbrev L6:=SL.s4233737765568776869x3
abbrev L7:=SL.s2508922471967985374x5
abbrev L8:=SL.s15574269061696679450x3
abbrev L9:=SL.s6016482663378992977x10
abbrev L10:=SL.s5596568736180474577x8
abbrev L11:=SL.s2839554839881490554x3
abbrev L12:=SL.s725004073602090463x7
abbrev L13:=SL.s9436932552931045734x7
abbrev L14:=SL.s2754603736356183583x3
abbrev L15:=SL.s15185746759980889043x6
abbrev L16:=SL.s8192189862530294059x4
abbrev L17:=SL.s7038307821325472102x4
abbrev L18:=SL.s5662562618415449548x6
abbrev L19:=SL.s15281542589158584767x7
abbrev L20:=SL.s17651547275483570877x7
abbrev L21:=SL.s4036449017235975746x7
abbrev L22:=SL.s8879979712987360175x4
abbrev L23:=SL.s1801250619170735830x3
abbrev L24:=SL.s17659931425627118568x2
abbrev L25:=SL.s6063217899685152688x5
abbrev L26:=SL.s8008927332132565319x10
abbrev L27:=SL.s3544116645089599534x10
abbrev L28:=SL.s13761710972054866084x4
abbrev L29:=SL.s12896375587409280029x5
abbrev L30:=SL.s13014049009108672802x3
abbrev L31:=SL.s13935586738268321596x6
abbrev L32:=SL.s8200498257699607233x3
abbrev L33:=SL.s14114244577727609259x3
abbrev L34:=SL.s1499430450269397089x4
abbrev L35:=SL.s8755793994789770505x5
abbrev L36:=SL.s15725212667919936108x3
abbrev L37:=SL.s15791221867095933363x3
abbrev L38:=SL.s81309575031448614x3
abbrev L39:=SL.s8069831620301644142x5
abbrev L40:=SL.s10061844253413749634x4
abbrev L41:=SL.s9496514870978017513x5
abbrev L42:=SL.s8899691144933366716x7
abbrev L43:=SL.s15201008993051130160x6
abbrev L44:=SL.s741896355592496720x3
abbrev L45:=SL.s17925004256654032244x4
abbrev L46:=SL.s11695548795398191787x4
abbrev L47:=SL.s4156966113859768872x10
abbrev L48:=SL.s9501651726347032510x9
abbrev L49:=SL.s15722918466584999320x5
abbrev L50:=SL.s591115383303110208x11
abbrev L51:=SL.s15721156781594690315x7
abbrev L52:=SL.s14340494229221121180x9
abbrev L53:=SL.s13429844117177748173x6
abbrev L54:=SL.s16463266125957815391x5
abbrev L55:=SL.s4922535414793169389x9
abbrev L56:=SL.s8101838861749082086x8
abbrev L57:=SL.s7066276694103001551x3
abbrev L58:=SL.s9222952809800978799x4
abbrev L59:=SL.s462964344163437139x3
abbrev L60:=SL.s2742458400755230247x6
abbrev L61:=SL.s1438033511350832697x5
abbrev L62:=SL.s14365286008749172514x8
abbrev L63:=SL.s3642769012341782148x3
abbrev L64:=SL.s4674234679698826739x5
abbrev L65:=SL.s16656946322747308186x12
abbrev L66:=SL.s10796804682411823810x3
abbrev L67:=SL.s4290257624100764138x5
abbrev L68:=SL.s2766695959194262286x5
abbrev L69:=SL.s17162191345867700912x4
abbrev L70:=SL.s14339709457334898076x3
abbrev L71:=SL.s4278001404047624695x13
abbrev L72:=SL.s6585700554429387442x18
abbrev L73:=SL.s5946037652744460706x9
abbrev L74:=SL.s7410770068591931388x13
abbrev L75:=SL.s11817881795495490833x17
abbrev L76:=SL.s15679963881808890155x10
abbrev L77:=SL.s3871700062485845797x15
abbrev L78:=SL.s7689518266570723881x14
abbrev L79:=SL.s9001593270443806431x14
abbrev L80:=SL.s6882542574934516792x11
abbrev L81:=SL.s14403400214490484960x8
abbrev L82:=SL.s14457978657717015782x11
abbrev L83:=SL.s1753610191782819921x11
abbrev L84:=SL.s14119380538032626715x11
abbrev L85:=SL.s11437920000406562045x9
abbrev L86:=SL.s10852414792293593619x7
abbrev L87:=SL.s14816307405966870543x14
abbrev L88:=SL.s8682627914449686677x12
abbrev L89:=SL.s4428170145600203450x18
abbrev L90:=SL.s5991306692159431302x13
abbrev L91:=SL.s16067994140765818257x11
abbrev L92:=SL.s2327743974964600596x11
abbrev L93:=SL.s2804747833354056582x9
abbrev L94:=SL.s6070975301684473832x10
abbrev L95:=SL.s14270485950484850486x7
abbrev L96:=SL.s12041534306414923332x18
abbrev L97:=SL.s2531307568338490285x13
abbrev L98:=SL.s631175304937289666x17
abbrev L99:=SL.s5144983644357021410x12
abbrev OU:=SL.s18039099521571816885x18
abbrev OV:=SL.s6011586214260557989x15
abbrev OW:=SL.s5430567037509283100x13
abbrev OX:=SL.s8117915138073963741x13
abbrev OY:=SL.s3423317712779056401x25
abbrev OZ:=SL.s2007317383269046180x15
abbrev Pa:=SL.s17481586968713580700x14
abbrev Pb:=SL.s2450899226349176912x13
abbrev Pd:=SL.s16626165730633575011x14
abbrev Pe:=SL.s14288496050688921416x11
abbrev Pf:=SL.s5735081916595925998x15
abbrev Pg:=SL.s3865607918536308442x17
abbrev Ph:=SL.s13337502604062700212x15
abbrev Pi:=SL.s13114017843053701147x15
abbrev Pj:=SL.s17467278006356818441x17
abbrev Pk:=SL.s17722149559621369488x16
abbrev Pl:=SL.s7855274175708717672x17
abbrev Pm:=SL.s13351283678309829046x18
abbrev Pn:=SL.s6668348653404991179x15
abbrev Po:=SL.s12913350958174193794x18
abbrev Pp:=SL.s16115879512475548326x12
abbrev Pq:=SL.s15920661018069861047x16
abbrev Pr:=SL.s10779130036587390575x21
abbrev Ps:=SL.s7801419657504700863x10
abbrev Pt:=SL.s1688129525768580628x8
abbrev Pu:=SL.s1031832959479892071x19
abbrev Pw:=SL.s8991790508128307865x19
abbrev Px:=SL.s14539662485746970245x23
abbrev Py:=SL.s11643622729373238714x14
abbrev Pz:=SL.s3386828779285465597x17
abbrev PB:=SL.s13042696260734638735x12
abbrev PD:=SL.s18239426817015966623x15
abbrev PF:=SL.s1270395311379034370x22
abbrev PH:=SL.s10696252587037064777x22
abbrev PJ:=SL.s7852717498200857586x20
abbrev PK:=SL.s6377248116197321094x8
abbrev PL:=SL.s3834378056692298002x18
abbrev PM:=SL.s17586630440231065808x18
abbrev PN:=SL.s15234114252648025395x21
abbrev PP:=SL.s8496462677383758984x14
abbrev PQ:=SL.s16789243406116112673x4
abbrev PR:=SL.s14400166428656793546x20
abbrev PU:=SL.s5857708277339239366x20
abbrev PV:=SL.s7804999707787243718x20
abbrev BQ:=SL.s7097527257260152453x26
abbrev PX:=SL.s6658869562736209489x6
abbrev BR:=SL.s5856160107412720595x4
abbrev OK:=SL.s658472552662922059x5
abbrev sZ(w:F7)(os:OsState):F4:=%[boot_heap w.params,Array.mk [],boot_drawn,boot_toks|os]
def o11(P:Params):Obj:=%[(.type L68),none,(.seq #[] 0)|#[]]
def o12(P:Params):Obj:=%[.none,none,(.fields #[])|#[]]
def g0(x0:Str)(x1 x2 x3:Nat)(P:Params):Obj:=%[(.type BR),none,(.fields #[.str x0 x1,.str x0 (x1+1),.str mx (x1+2),.int x2 0,.int 0 0,.int 0 0,.int 0 0,.int 0 0,.ref x3,.bool false,.int 181 0,.ref (x3+1),.none,.none,.none,.none,.int (x1+3) 0,.int x2 0,.str mx (x1+4)])|#[]]
def o13:=g0 NK 182 1 11
def g1(x0 x1:Nat)(x2:Str)(x3:Nat)(P:Params):Obj:=%[(.type OK),none,.plain|#[↑x0,↑3,↑x1,none,some (.str x2 x3),none,↑0]]
def o14:=g1 13 3 JS 164
def hA(P:Params):Heap:=%[%[|[boot_o_0 P,boot_o_1 P,boot_o_2 P,boot_o_3 P,boot_o_4 P,boot_o_5 P,boot_o_6 P,boot_o_7 P,boot_o_8 P,boot_o_9 P,boot_o_10 P,o11 P,o12 P,o13 P,o14 P]]|{ }]
abbrev sA(w:F7)(os:OsState):F4:=%[hA w.params,(Array.mk []),%[0,0,0|0],187|os]
abbrev pA:Pos:=%[0,0,0|0]
theorem pre(w:F7):(λ os=>topGo treeTable pt w m0 an 12 (sZ w os) (topStub pt))=λ os=>some (sA w os,(%[denote treeTable cE,cE,pA|B]:Thread)):=by rw[PySem.W.Fast.te15667345088766844465,PySem.W.Fast.te14364793385576792824,PySem.W.Fast.te11892475500146522536];kernel_rfl
def tB:Params->BT:=(f boot_o_0 (f boot_o_1 (f boot_o_3 (f boot_o_7 z z) (f o11 z z)) (f boot_o_5 (f boot_o_9 z z) (f o13 z z))) (f boot_o_2 (f boot_o_4 (f boot_o_8 z z) (f o12 z z)) (f boot_o_6 (f boot_o_10 z z) (f o14 z z))))
abbrev sB(w:F7)(os:OsState):SharedT:=%[tB w.params,15,{ },(Array.mk []),%[0,0,0|0],187|os]
abbrev pB:Pos:=%[0,0,0|0]
theorem blk(w:F7):(λ os=>segRun treeTable pt w m0 an 1 1 (sA w os) ⟨(blockStart (behindTheImports pt) en).wrap (λ _=>doneF .next) deadEnd id id,cE,pA,B⟩)=λ os=>some (.next,(sB w os).abs,cE,pB):=by rw[PySem.W.Fast.te14374325043358763698,PySem.W.Fast.te14364793385576792824,PySem.W.Fast.te1066825118222455980];kernel_rfl
def OL(P:Params):Obj:=%[(.type L0),none,(.dict #[e P S0 165 (.str ik 194),e P S2 166 .none,e P S3 167 .none,e P S4 168 (.builtin BQ),e P S5 169 .none,e P AX 170 (.ref 6),e P AY 171 (.ref 4),e P AZ 173 (.str mx 172),e P Ba 174 .none,e P nM 193 (.ref 21),e P im 213 (.ref 31),e P oX 229 (.ref 44),e P oY 245 (.ref 56),e P oZ 261 (.ref 68),e P pb 277 (.ref 80),e P pd 293 (.ref 92),e P pf 309 (.ref 104),e P pi 325 (.ref 116),e P pj 341 (.ref 128)] 19)|#[]]
def KA(P:Params):Obj:=%[.none,none,(.fields #[.int 1 0,.int 0 0,.ref 20,.int 5 0,.int 0 0,.ref 27,.int 7 0,.int 0 0,.ref 40,.int 9 0,.int 0 0,.ref 52,.int 11 0,.int 0 0,.ref 64,.int 13 0,.int 0 0,.ref 76,.int 15 0,.int 0 0,.ref 88,.int 17 0,.int 0 0,.ref 100,.int 19 0,.int 0 0,.ref 112,.int 21 0,.int 0 0,.ref 124])|#[]]
def g2(x0:Str)(x1:Nat)(P:Params):Obj:=%[(.type L68),none,(.seq #[.str x0 x1] 0)|#[]]
def o17:=g2 NL 190
def g3(x0:Str)(x1:Nat)(P:Params):Obj:=%[.none,none,(.func %[x0,x0,L2.defArgs (tp x1),(.stmts (L2.defBody (tp x1))),L2.defScope (tp x1),0,[],.none,.none,.none,.none,none,.none,.none|0])|#[]]
def o19:=g3 nM 0
def g4(x0:Str)(x1:Nat)(x2:Str)(x3 x4 x5 x6:Nat)(P:Params):Obj:=%[(.type BR),none,(.fields #[.str x0 x1,.str x2 (x1+1),.str mx (x1+2),.int x3 0,.int x4 0,.int 0 0,.int 0 0,.int 3 0,.ref x5,.bool true,.int 181 0,.ref (x5+1),.none,.ref (x5+2),.ref (x5+3),.ref (x5+4),.int x6 0,.int x3 0,.str mx (x6+1)])|#[]]
def o20:=g4 nM 187 nM 1 1 15 191
abbrev KB:=SL.s7174869446012820540x8
def g5(x0:Str)(x1:Nat)(x2:Str)(x3 x4:Nat)(P:Params):Obj:=%[(.type KB),none,(.func %[x0,x0,L2.defArgs (tp x1),(.stmts (L2.defBody (tp x1))),L2.defScope (tp x1),3,[],.none,.none,.none,.str x2 x3,none,.ref x4,.none|0])|#[]]
def o21:=g5 nM 0 JS 164 20
def o22(P:Params):Obj:=%[(.type L68),none,(.seq #[.type L94] 0)|#[]]
abbrev KC:=SL.s11030030927630378310x26
abbrev OM:=SL.s10062305145149207511x16
def o23(P:Params):Obj:=%[(.type KC),none,(.fields #[.builtin OM,.type L69])|#[]]
def g6(x0:Nat)(x1:Str)(x2 x3:Nat)(P:Params):Obj:=%[(.type L0),none,(.dict #[e P pq x0 (.str ik 194),e P Bc (x0+2) (.str x1 (x0+1)),e P pC (x0+4) (.int x2 (x0+3)),e P pE (x0+5) (.ref x3)] 4)|#[]]
def o24:=g6 203 im 5 29
def o27:=g0 im 198 5 25
def o28:=g1 27 24 ik 194
def o30(P:Params):Obj:=%[(.type L0),none,(.dict #[e P pq 203 (.str ik 194),e P pC 207 (.int 5 206),e P pE 208 (.ref 29),e P ze 210 (.ref 32),e P S2 211 .none] 3)|#[]]
abbrev BS:=SL.s4209523147560561109x18
def o31(P:Params):Obj:=%[(.type L69),none,(.cls %[im,[.type L94],[.ref 31,.type L94,.type L73,.type L71,.type L60],30,im,true,[],[.ref 44,.ref 56,.ref 68,.ref 80,.ref 92,.ref 104,.ref 116,.ref 128],false,none|false])|#[↑22,none,some (.str im 196),some (.str im 204),some (.builtin BS),some (.bool true)]]
abbrev KD:=SL.s14755015743595814543x17
abbrev ON:=SL.s10220274742760427390x26
def g7(x0 x1:Nat)(P:Params):Obj:=%[(.type KD),none,(.fields #[.str ze x0,.ref x1,.builtin ON,.none])|#[]]
def o32:=g7 209 31
def g8(x0:Nat)(P:Params):Obj:=%[(.type L67),none,(.fields #[.ref x0,.ref x0,.ref x0])|#[]]
def o33:=g8 31
abbrev OO:=SL.s4860613602091757760x24
def g9(x0:Nat)(P:Params):Obj:=%[(.type KC),none,(.fields #[.builtin OO,.ref x0])|#[]]
def o34:=g9 31
def o35(P:Params):Obj:=%[(.type L68),none,(.seq #[.ref 31] 0)|#[]]
def o37:=g6 221 oX 7 42
def o40:=g0 oX 216 7 38
def o41:=g1 40 37 ik 194
def g10(x0 x1 x2:Nat)(P:Params):Obj:=%[(.type L0),none,(.dict #[e P pq x0 (.str ik 194),e P pC (x0+4) (.int x1 (x0+3)),e P pE (x0+5) (.ref x2),e P S2 (x0+6) .none] 2)|#[]]
def o43:=g10 221 7 42
def g11(x0:Str)(x1 x2 x3 x4:Nat)(P:Params):Obj:=%[(.type L69),none,(.cls %[x0,[.ref 31],[.ref x1,.ref 31,.type L94,.type L73,.type L71,.type L60],x2,x0,true,[],[],false,none|false])|#[↑x3,none,some (.str x0 x4),some (.str x0 (x4+8)),some (.builtin BS),some (.bool true)]]
def o44:=g11 oX 44 43 35 214
def o45:=g8 44
def o46:=g9 44
def o49:=g6 237 oY 9 54
def o52:=g0 oY 232 9 50
def o53:=g1 52 49 ik 194
def o55:=g10 237 9 54
def o56:=g11 oY 56 55 47 230
def o57:=g8 56
def o58:=g9 56
def o61:=g6 253 oZ 11 66
def o64:=g0 oZ 248 11 62
def o65:=g1 64 61 ik 194
def o67:=g10 253 11 66
def o68:=g11 oZ 68 67 59 246
def o69:=g8 68
def o70:=g9 68
def o73:=g6 269 pb 13 78
def o76:=g0 pb 264 13 74
def o77:=g1 76 73 ik 194
def o79:=g10 269 13 78
def o80:=g11 pb 80 79 71 262
def o81:=g8 80
def o82:=g9 80
def o85:=g6 285 pd 15 90
def o88:=g0 pd 280 15 86
def o89:=g1 88 85 ik 194
def o91:=g10 285 15 90
def o92:=g11 pd 92 91 83 278
def o93:=g8 92
def o94:=g9 92
def o97:=g6 301 pf 17 102
def zh:=g0 pf 296 17 98
def zi:=g1 100 97 ik 194
def zj:=g10 301 17 102
def zk:=g11 pf 104 103 95 294
def zm:=g8 104
def zn:=g9 104
def zo:=g6 317 pi 19 114
def zp:=g0 pi 312 19 110
def zq:=g1 112 109 ik 194
def zr:=g10 317 19 114
def zt:=g11 pi 116 115 107 310
def zu:=g8 116
def zw:=g9 116
def zx:=g6 333 pj 21 126
def zy:=g0 pj 328 21 122
def zA:=g1 124 121 ik 194
def zB:=g10 333 21 126
def zC:=g11 pj 128 127 119 326
def zD:=g8 128
def zE:=g9 128
def t0:Params->BT:=(f boot_o_0 (f boot_o_1 (f OL (f boot_o_7 (f o11 (f o31 (f o12 (f zB z z) z) (f o35 z z)) (f o35 (f o79 z z) (f o12 z z))) (f o23 (f o12 (f o35 z z) (f zj z z)) (f o55 (f o12 z z) (f o35 z z)))) (f o11 (f o19 (f o35 (f o67 z z) (f o12 z z)) (f o12 (f o35 z z) (f zr z z))) (f o27 (f o43 (f o12 z z) (f o35 z z)) (f o35 (f o91 z z) (f o12 z z))))) (f boot_o_5 (f boot_o_9 (f o17 (f o33 (f o65 (f zD z z) z) (f o97 z z)) (f o49 (f o81 z z) (f zq z z))) (f o11 (f o41 (f o73 z z) (f zm z z)) (f o57 (f o89 z z) (f zx z z)))) (f o13 (f o21 (f o37 (f o69 z z) (f zi z z)) (f o53 (f o85 z z) (f zu z z))) (f o11 (f o45 (f o77 z z) (f zo z z)) (f o61 (f o93 z z) (f zA z z)))))) (f boot_o_2 (f boot_o_4 (f boot_o_8 (f o12 (f o32 (f o64 (f zC z z) z) (f o23 z z)) (f o23 (f o80 z z) (f zp z z))) (f o24 (f o40 (f o23 z z) (f zk z z)) (f o56 (f o88 z z) (f o23 z z)))) (f KA (f o20 (f o23 (f o68 z z) (f zh z z)) (f o52 (f o23 z z) (f zt z z))) (f o28 (f o44 (f o76 z z) (f o23 z z)) (f o23 (f o92 z z) (f zy z z))))) (f boot_o_6 (f boot_o_10 (f o11 (f o34 (f o11 (f zE z z) z) (f o11 z z)) (f o11 (f o82 z z) (f o11 z z))) (f o12 (f o11 (f o11 z z) (f zn z z)) (f o58 (f o11 z z) (f o11 z z)))) (f o14 (f o22 (f o11 (f o70 z z) (f o11 z z)) (f o11 (f o11 z z) (f zw z z))) (f o30 (f o46 (f o11 z z) (f o11 z z)) (f o11 (f o94 z z) (f o11 z z)))))))
abbrev s0(w:F7)(os:OsState):SharedT:=%[t0 w.params,131,{ },(Array.mk []),%[0,0,0|0],342|os]
abbrev p0:Pos:=%[21,0,22|8]
abbrev st0:QA Stmt:=(pt.main.body.drop 0).take 11
theorem q0(w:F7):(λ os=>segRunT treeTable pt w m0 an 1 1929 (sB w os) %[(execs st0 en).wrap doneF deadEnd id id,cE,pB|B])=λ os=>some (.next,s0 w os,cE,p0):=by rw[PySem.W.Fast.te10110043849684766642,PySem.W.Fast.te14364793385576792824,PySem.W.Fast.te12563942051412417395];kernel_rfl
def OP(P:Params):Obj:=%[(.type L0),none,(.dict #[e P S0 165 (.str iM 845),e P S2 166 .none,e P S3 167 .none,e P S4 168 (.builtin BQ),e P S5 169 .none,e P AX 170 (.ref 6),e P AY 171 (.ref 4),e P AZ 173 (.str mx 172),e P Ba 174 .none,e P nM 193 (.ref 21),e P im 213 (.ref 31),e P oX 229 (.ref 44),e P oY 245 (.ref 56),e P oZ 261 (.ref 68),e P pb 277 (.ref 80),e P pd 293 (.ref 92),e P pf 309 (.ref 104),e P pi 325 (.ref 116),e P pj 341 (.ref 128),e P tO 357 (.ref 140),e P pG 367 (.ref 149),e P pH 374 (.ref 156),e P pI 381 (.ref 163),e P pJ 389 (.ref 170),e P pK 398 (.ref 177),e P Bd 402 (.str Be 401),e P Bf 404 (.str Bg 403),e P Bh 405 (.ref 178),e P pL 420 (.ref 185),e P pM 432 (.ref 192),e P Bi 436 (.str JT 435),e P Bj 438 (.str JU 437),e P Bk 440 (.int 1 439),e P Bl 442 (.int 5 441),e P Bm 444 (.int 4 443),e P pN 453 (.ref 199),e P pO 464 (.ref 206),e P pP 477 (.ref 213),e P pQ 501 (.ref 220),e P pR 514 (.ref 227),e P pS 524 (.ref 234),e P pT 537 (.ref 241),e P Bn 541 (.int 2 540),e P Bo 543 (.int 2 542),e P pU 551 (.ref 248),e P pV 560 (.ref 255),e P pW 576 (.ref 262),e P pX 586 (.ref 269),e P pY 594 (.ref 276),e P pZ 602 (.ref 283),e P qb 608 (.ref 288),e P qc 614 (.ref 293),e P qd 620 (.ref 298),e P qe 630 (.ref 305),e P qg 653 (.ref 312),e P qh 659 (.ref 317),e P qi 665 (.ref 322),e P qj 671 (.ref 327),e P qk 692 (.ref 334),e P Bp 696 (.int 60 695),e P Bq 698 (.str JV 697),e P Br 700 (.str JW 699),e P Bs 702 (.str JX 701),e P Bt 704 (.str JY 703),e P ql 720 (.ref 341),e P qm 739 (.ref 348),e P qo 745 (.ref 353),e P Bu 749 (.int 8 748),e P Bv 751 (.int 5 750),e P qp 763 (.ref 360),e P qq 770 (.ref 367),e P tP 844 (.ref 422)] 72)|#[]]
def KF(P:Params):Obj:=%[.none,none,(.fields #[.int 1 0,.int 0 0,.ref 20,.int 5 0,.int 0 0,.ref 27,.int 7 0,.int 0 0,.ref 40,.int 9 0,.int 0 0,.ref 52,.int 11 0,.int 0 0,.ref 64,.int 13 0,.int 0 0,.ref 76,.int 15 0,.int 0 0,.ref 88,.int 17 0,.int 0 0,.ref 100,.int 19 0,.int 0 0,.ref 112,.int 21 0,.int 0 0,.ref 124,.int 23 0,.int 0 0,.ref 136,.int 26 0,.int 0 0,.ref 148,.int 28 0,.int 0 0,.ref 155,.int 30 0,.int 0 0,.ref 162,.int 32 0,.int 0 0,.ref 169,.int 35 0,.int 0 0,.ref 176,.int 42 0,.int 0 0,.ref 184,.int 47 0,.int 0 0,.ref 191,.int 58 0,.int 0 0,.ref 198,.int 62 0,.int 0 0,.ref 205,.int 69 0,.int 0 0,.ref 212,.int 74 0,.int 0 0,.ref 219,.int 81 0,.int 0 0,.ref 226,.int 92 0,.int 0 0,.ref 233,.int 95 0,.int 0 0,.ref 240,.int 108 0,.int 0 0,.ref 247,.int 110 0,.int 0 0,.ref 254,.int 112 0,.int 0 0,.ref 261,.int 126 0,.int 0 0,.ref 268,.int 129 0,.int 0 0,.ref 275,.int 134 0,.int 0 0,.ref 282,.int 136 0,.int 0 0,.ref 287,.int 140 0,.int 0 0,.ref 292,.int 152 0,.int 0 0,.ref 297,.int 161 0,.int 0 0,.ref 304,.int 165 0,.int 0 0,.ref 311,.int 173 0,.int 0 0,.ref 316,.int 177 0,.int 0 0,.ref 321,.int 183 0,.int 0 0,.ref 326,.int 186 0,.int 0 0,.ref 333,.int 204 0,.int 0 0,.ref 340,.int 210 0,.int 0 0,.ref 347,.int 218 0,.int 0 0,.ref 352,.int 229 0,.int 0 0,.ref 359,.int 236 0,.int 0 0,.ref 366,.int 238 0,.int 0 0,.ref 373])|#[]]
def xy(P:Params):Obj:=%[(.type L69),none,(.cls %[im,[.type L94],[.ref 31,.type L94,.type L73,.type L71,.type L60],30,im,true,[],[.ref 44,.ref 56,.ref 68,.ref 80,.ref 92,.ref 104,.ref 116,.ref 128,.ref 140],false,none|false])|#[↑22,none,some (.str im 196),some (.str im 204),some (.builtin BS),some (.bool true)]]
def BU:=g6 349 tO 23 138
def BV:=g0 tO 344 23 134
def BW:=g1 136 133 ik 194
def BX:=g10 349 23 138
def BY:=g11 tO 140 139 131 342
def BZ:=g8 140
def Ca:=g9 140
def g12(x0:Str)(x1:Nat)(x2:Str)(x3:Nat)(P:Params):Obj:=%[(.type L68),none,(.seq #[.str x0 x1,.str x2 x3] 0)|#[]]
def Cb:=g12 my 363 JZ 364
def Cc:=g3 pG 13
def Cd:=g4 pG 360 pG 26 2 143 365
def Ce:=g5 pG 13 wZ 358 148
def Cf:=g2 my 371
def Cg:=g3 pH 14
def Ch:=g4 pH 368 pH 28 1 150 372
def Ci:=g5 pH 14 wZ 358 155
def Cj:=g2 my 378
def Ck:=g3 pI 15
def Cl:=g4 pI 375 pI 30 1 157 379
def Cm:=g5 pI 15 wZ 358 162
def Cn:=g12 fN 385 fO 386
def Co:=g3 pJ 16
def Cp:=g4 pJ 382 pJ 32 2 164 387
def Cq:=g5 pJ 16 wZ 358 169
def g13(x0:Str)(x1:Nat)(x2 x3:Str)(P:Params):Obj:=%[(.type L68),none,(.seq #[.str x0 x1,.str x2 (x1+1),.str x3 (x1+2)] 0)|#[]]
def Cr:=g13 fN 393 fO Ka
def Cs:=g3 pK 17
def Ct:=g4 pK 390 pK 35 3 171 396
def Cu:=g5 pK 17 wZ 358 176
def Cv:=g12 Be 401 Bg 403
def g14(x0:Str)(x1:Nat)(x2 x3 x4 x5 x6 x7 x8 x9:Str)(P:Params):Obj:=%[(.type L68),none,(.seq #[.str x0 x1,.str x2 (x1+1),.str x3 (x1+2),.str x4 (x1+3),.str x5 (x1+4),.str x6 (x1+5),.str x7 (x1+6),.str x8 (x1+7),.str x9 (x1+8)] 0)|#[]]
def Cw:=g14 km 409 fN fO tQ xb qr qt Kb Kc
def Cy:=g3 pL 22
def Cz:=g4 pL 406 pL 42 7 179 418
def CA:=g5 pL 22 Ke 399 184
def g15(x0:Str)(x1:Nat)(x2 x3 x4 x5 x6:Str)(P:Params):Obj:=%[(.type L68),none,(.seq #[.str x0 x1,.str x2 (x1+1),.str x3 (x1+2),.str x4 (x1+3),.str x5 (x1+4),.str x6 (x1+5)] 0)|#[]]
def CB:=g15 kr 424 zf mz Kf fN fO
def CC:=g3 pM 23
def CD:=g4 pM 421 pM 47 4 186 430
def CF:=g5 pM 23 Ke 399 191
def CG:=g13 my 448 Bw NM
def CI:=g3 pN 30
def CJ:=g4 pN 445 pN 58 3 193 451
def CK:=g5 pN 30 qu 433 198
def g16(x0:Str)(x1:Nat)(x2 x3 x4 x5:Str)(P:Params):Obj:=%[(.type L68),none,(.seq #[.str x0 x1,.str x2 (x1+1),.str x3 (x1+2),.str x4 (x1+3),.str x5 (x1+4)] 0)|#[]]
def CL:=g16 kr 457 tR nN mz NO
def CM:=g3 pO 31
def CN:=g4 pO 454 pO 62 2 200 462
def CO:=g5 pO 31 qu 433 205
def g17(x0:Str)(x1:Nat)(x2 x3 x4 x5 x6 x7:Str)(P:Params):Obj:=%[(.type L68),none,(.seq #[.str x0 x1,.str x2 (x1+1),.str x3 (x1+2),.str x4 (x1+3),.str x5 (x1+4),.str x6 (x1+5),.str x7 (x1+6)] 0)|#[]]
def CP:=g17 km 468 tR qr qt fN fO nN
def CQ:=g3 pP 32
def CT:=g4 pP 465 pP 69 2 207 475
def CU:=g5 pP 32 qu 433 212
def CV(P:Params):Obj:=%[(.type L68),none,(.seq #[.str kr 481,.str tR 482,.str qr 483,.str qt 484,.str fN 485,.str fO 486,.str nN 487,.str mz 488,.str Kf 489,.str Kg 490,.str Kh 491,.str NP 492,.str NQ 493,.str NR 494,.str NS 495,.str NT 496,.str NU 497,.str NV 498] 0)|#[]]
def CW:=g3 pQ 33
def CY:=g4 pQ 478 pQ 74 2 214 499
def CZ:=g5 pQ 33 qu 433 219
def Da:=g17 km 505 fN fO my kr zg tR
def Db:=g3 pR 34
def Dc:=g4 pR 502 pR 81 4 221 512
def De:=g5 pR 34 qu 433 226
def g18(x0:Str)(x1:Nat)(x2 x3 x4:Str)(P:Params):Obj:=%[(.type L68),none,(.seq #[.str x0 x1,.str x2 (x1+1),.str x3 (x1+2),.str x4 (x1+3)] 0)|#[]]
def Df:=g18 km 518 fN fO my
def Dg:=g3 pS 35
def Dh:=g4 pS 515 pS 92 4 228 522
def Di:=g5 pS 35 qu 433 233
def Dj:=g17 km 528 fN fO nN NW zg tR
def Dk:=g3 pT 36
def Dl:=g4 pT 525 pT 95 4 235 535
def Dm:=g5 pT 36 qu 433 240
def Do:=g12 zf 547 mz 548
def Dp:=g3 pU 40
def Dq:=g4 pU 544 pU 108 2 242 549
def Dr:=g5 pU 40 kx 538 247
def Ds:=g13 zf 555 mz NX
def Du:=g3 pV 41
def Dv:=g4 pV 552 pV 110 3 249 558
def Dw:=g5 pV 41 kx 538 254
def g19(x0:Str)(x1:Nat)(x2 x3 x4 x5 x6 x7 x8 x9 x10:Str)(P:Params):Obj:=%[(.type L68),none,(.seq #[.str x0 x1,.str x2 (x1+1),.str x3 (x1+2),.str x4 (x1+3),.str x5 (x1+4),.str x6 (x1+5),.str x7 (x1+6),.str x8 (x1+7),.str x9 (x1+8),.str x10 (x1+9)] 0)|#[]]
def Dx:=g19 kr 564 zf nN mz Ki zg NY NZ Kg Kh
def Dy:=g3 pW 42
def Dz:=g4 pW 561 pW 112 3 256 574
def DG:=g5 pW 42 kx 538 261
def DH:=g18 km 580 fN fO nN
def DJ:=g3 pX 43
def DM:=g4 pX 577 pX 126 4 263 584
def DO:=g5 pX 43 kx 538 268
def DQ:=g12 my 590 mz 591
def DV:=g3 pY 44
def DY:=g4 pY 587 pY 129 1 270 592
def DZ:=g5 pY 44 kx 538 275
def Ea:=g12 mz 598 my 599
def Eb:=g3 pZ 45
def Ec:=g4 pZ 595 pZ 134 2 277 600
def Ed:=g5 pZ 45 kx 538 282
def Ee:=g3 qb 46
def g20(x0:Str)(x1:Nat)(x2:Str)(x3 x4 x5:Nat)(P:Params):Obj:=%[(.type BR),none,(.fields #[.str x0 x1,.str x2 (x1+1),.str mx (x1+2),.int x3 0,.int x4 0,.int 0 0,.int 0 0,.int 3 0,.ref x5,.bool true,.int 181 0,.ref (x5+1),.none,.none,.none,.ref (x5+2),.int (x1+3) 0,.int x3 0,.str mx (x1+4)])|#[]]
def Ef:=g20 qb 603 qb 136 4 284
def Eg:=g5 qb 46 kx 538 287
def Eh:=g3 qc 47
def Ei:=g20 qc 609 qc 140 3 289
def Ej:=g5 qc 47 kx 538 292
def Ek:=g3 qd 48
def El:=g20 qd 615 qd 152 1 294
def Em:=g5 qd 48 kx 538 297
def En:=g18 km 624 fN fO Oa
def Eo:=g3 qe 49
def Ep:=g4 qe 621 qe 161 4 299 628
def Er:=g5 qe 49 kx 538 304
def g21(x0:Nat)(x1 x2 x3 x4 x5 x6 x7 x8 x9 x10:Str)(P:Params):Obj:=%[(.type L68),none,(.seq #[.str km x0,.str fN (x0+1),.str fO (x0+2),.str nN (x0+3),.str Ob (x0+4),.str x1 (x0+5),.str x2 (x0+6),.str x3 (x0+7),.str x4 (x0+8),.str x5 (x0+9),.str x6 (x0+10),.str x7 (x0+11),.str x8 (x0+12),.str x9 (x0+13),.str x10 (x0+14)] 0)|#[]]
def Es:=g21 636 qr qt Kj Kk Bx Bw tQ xb Kl Km
def Et:=g3 qg 51
def Eu:=g4 qg 633 qg 165 4 306 651
def Ev:=g5 qg 51 xc 631 311
def Ew:=g3 qh 52
def Ex:=g20 qh 654 qh 173 4 313
def Ey:=g5 qh 52 xc 631 316
def Ez:=g3 qi 53
def EA:=g20 qi 660 qi 177 4 318
def EB:=g5 qi 53 xc 631 321
def EC:=g3 qj 54
def ED:=g20 qj 666 qj 183 4 323
def EE:=g5 qj 54 xc 631 326
def EF:=g21 675 Oc Od qr qt Kj Kk Bx tS Kb Kc
def EG:=g3 qk 55
def EH:=g4 qk 672 qk 186 4 328 690
def EI:=g5 qk 55 xc 631 333
def EJ:=g19 Ko 708 Oe tT Of qr qt fN fO Og Oh
def EK:=g3 ql 62
def EL:=g4 ql 705 ql 204 4 335 718
def EM:=g5 ql 62 By 693 340
def EN(P:Params):Obj:=%[(.type L68),none,(.seq #[.str km 724,.str Ko 725,.str tR 726,.str qr 727,.str qt 728,.str fN 729,.str fO 730,.str Bx 731,.str Bw 732,.str tQ 733,.str xb 734,.str Kl 735,.str Km 736] 0)|#[]]
def EO:=g3 qm 63
def EQ:=g4 qm 721 qm 210 3 342 737
def ER:=g5 qm 63 By 693 347
def ES:=g3 qo 64
def ET:=g20 qo 740 qo 218 4 349
def EU:=g5 qo 64 By 693 352
def EV:=g15 my 755 fN fO Oi tU Kp
def EW:=g3 qp 68
def EX:=g4 qp 752 qp 229 1 354 761
def EY:=g5 qp 68 iZ 746 359
def EZ:=g2 tQ 767
def Fa:=g3 qq 69
def Fb:=g4 qq 764 qq 236 1 361 768
def Fc:=g5 qq 69 iZ 746 366
def Fd(P:Params):Obj:=%[(.type L0),none,(.dict #[e P pq 778 (.str iZ 746),e P Bc 780 (.str tP 779),e P pC 782 (.int 238 781),e P kz 788 (.ref 379),e P kr 795 (.ref 386),e P xf 802 (.ref 393),e P tU 808 (.ref 398),e P xg 815 (.ref 405),e P xh 824 (.ref 412),e P tT 834 (.ref 419),e P pE 837 (.ref 420)] 11)|#[]]
def Fe(P:Params):Obj:=%[.none,none,(.fields #[.int 240 0,.int 4 0,.ref 378,.int 251 0,.int 4 0,.ref 385,.int 254 0,.int 4 0,.ref 392,.int 257 0,.int 4 0,.ref 397,.int 260 0,.int 4 0,.ref 404,.int 263 0,.int 4 0,.ref 411,.int 268 0,.int 4 0,.ref 418])|#[]]
def Ff:=g0 tP 773 238 371
def Fg:=g1 373 370 iZ 746
def g22(x0 x1:Str)(x2 x3:Nat)(P:Params):Obj:=%[.none,none,(.func %[x0,x1,L2.defArgs (L2.inClass (tp x2) x3),(.stmts (L2.defBody (L2.inClass (tp x2) x3))),L2.defScope (L2.inClass (tp x2) x3),0,[],.none,.none,.none,.none,none,.none,.none|0])|#[]]
def Fh:=g22 kz Bz 70 0
def Fi:=g20 kz 783 Bz 240 3 375
def g23(x0 x1:Str)(x2 x3:Nat)(x4:Str)(x5 x6:Nat)(P:Params):Obj:=%[(.type KB),none,(.func %[x0,x1,L2.defArgs (L2.inClass (tp x2) x3),(.stmts (L2.defBody (L2.inClass (tp x2) x3))),L2.defScope (L2.inClass (tp x2) x3),3,[],.none,.none,.none,.str x4 x5,none,.ref x6,.none|0])|#[]]
def Fj:=g23 kz Bz 70 0 iZ 746 378
def Fk:=g2 kn 792
def Fl:=g22 kr BA 70 1
def Fm:=g4 kr 789 BA 251 1 380 793
def Fo:=g23 kr BA 70 1 iZ 746 385
def Fp:=g2 kn 799
def Fq:=g22 xf BB 70 2
def Fs:=g4 xf 796 BB 254 1 387 800
def Ft:=g23 xf BB 70 2 iZ 746 392
def Fu:=g22 tU BC 70 3
def Fv:=g20 tU 803 BC 257 1 394
def Fw:=g23 tU BC 70 3 iZ 746 397
def Fx:=g2 kn 812
def Fy:=g22 xg BD 70 4
def Fz:=g4 xg 809 BD 260 1 399 813
def FA:=g23 xg BD 70 4 iZ 746 404
def FB:=g13 kn 819 tQ xb
def FC:=g22 xh BE 70 5
def FD:=g4 xh 816 BE 263 3 406 822
def FE:=g23 xh BE 70 5 iZ 746 411
def FF:=g18 kn 828 tQ xb Ki
def FG:=g22 tT BF 70 6
def FH:=g4 tT 825 BF 268 3 413 832
def FI:=g23 tT BF 70 6 iZ 746 418
def FJ:=g12 Oj 835 Ol 836
def FK(P:Params):Obj:=%[(.type L0),none,(.dict #[e P pq 778 (.str iZ 746),e P pC 782 (.int 238 781),e P kz 788 (.ref 379),e P kr 795 (.ref 386),e P xf 802 (.ref 393),e P tU 808 (.ref 398),e P xg 815 (.ref 405),e P xh 824 (.ref 412),e P tT 834 (.ref 419),e P pE 837 (.ref 420),e P BG 839 (.ref 423),e P ze 841 (.ref 424),e P S2 842 .none] 4)|#[]]
abbrev OQ:=SL.s11443829558043349243x14
def g24(x0:Str)(x1 x2 x3:Nat)(P:Params):Obj:=%[(.type L69),none,(.cls %[x0,[.type L60],[.ref x1,.type L60],x2,x0,true,[],[],false,none|false])|#[none,none,some (.str x0 x3),some (.str x0 (x3+8)),some (.builtin OQ),some (.bool true)]]
def FL:=g24 tP 422 421 771
abbrev OR:=SL.s6511155373996960695x17
abbrev OS:=SL.s12411053484034534018x21
def g25(x0 x1:Nat)(P:Params):Obj:=%[(.type KD),none,(.fields #[.str BG x0,.ref x1,.builtin OR,.builtin OS])|#[]]
def FM:=g25 838 422
def FN:=g7 840 422
def FO:=g8 422
def FP:=g9 422
def t1:Params->BT:=(f boot_o_0 (f boot_o_1 (f OP (f boot_o_7 (f o11 (f xy (f o12 (f zB (f Dw z z) (f o11 z z)) (f CD (f o12 z z) z)) (f o35 (f Cj (f Ef z z) (f FF z z)) (f Da (f ES z z) z))) (f o35 (f o79 (f o11 (f o12 z z) (f o11 z z)) (f o11 (f o11 z z) z)) (f o12 (f Cs (f Eo z z) z) (f Dk (f Fc z z) z)))) (f o23 (f o12 (f o35 (f o12 (f o11 z z) (f Fq z z)) (f CK (f EE z z) z)) (f zj (f o11 (f o12 z z) (f FM z z)) (f o11 (f EX z z) z))) (f o55 (f o12 (f o12 (f Ea z z) (f o12 z z)) (f o12 (f o12 z z) z)) (f o35 (f Cy (f Eu z z) z) (f Dq (f o11 z z) z))))) (f o11 (f o19 (f o35 (f o67 (f o35 (f o11 z z) (f o11 z z)) (f CG (f o11 z z) z)) (f o12 (f Cm (f Eh z z) (f FI z z)) (f De (f o12 z z) z))) (f o12 (f o35 (f Cc (f DY z z) (f Fy z z)) (f CQ (f EK z z) z)) (f zr (f o11 (f o12 z z) z) (f o12 (f o11 z z) z)))) (f o27 (f o43 (f o12 (f BX (f DJ z z) (f o12 z z)) (f o11 (f o11 z z) z)) (f o35 (f o11 (f o11 z z) z) (f o11 (f EZ z z) z))) (f o35 (f o91 (f Ch (f Ed z z) (f FD z z)) (f CY (f EQ z z) z)) (f o12 (f o12 (f Ew z z) z) (f Ds (f Fj z z) z)))))) (f boot_o_5 (f boot_o_9 (f o17 (f o33 (f o65 (f zD (f o12 z z) (f Fm z z)) (f o11 (f EA z z) z)) (f o97 (f Ck (f o11 z z) (f FG z z)) (f Db (f EU z z) z))) (f o49 (f o81 (f Cb (f o11 z z) (f Fx z z)) (f CP (f EJ z z) z)) (f zq (f Cu (f Er z z) z) (f Dm (f o23 z z) z)))) (f o11 (f o41 (f o73 (f BW (f DH z z) (f Ft z z)) (f o12 (f o12 z z) z)) (f zm (f Cp (f El z z) (f FO z z)) (f Dh (f o11 z z) z))) (f o57 (f o89 (f o11 (f Eb z z) (f o11 z z)) (f o11 (f o11 z z) z)) (f zx (f CA (f o11 z z) z) (f o11 (f Fh z z) z))))) (f o13 (f o21 (f o37 (f o69 (f BU (f Dz z z) (f Fp z z)) (f CI (f EC z z) z)) (f zi (f o12 (f Ej z z) (f FK z z)) (f o12 (f o11 z z) z))) (f o53 (f o85 (f Ce (f o11 z z) (f FA z z)) (f CU (f EM z z) z)) (f zu (f Cw (f o11 z z) z) (f o11 (f Ff z z) z)))) (f o11 (f o45 (f o77 (f BZ (f DO z z) (f Fv z z)) (f CN (f EH z z) z)) (f zo (f Cr (f En z z) z) (f Dj (f Fa z z) z))) (f o61 (f o93 (f o11 (f o12 z z) (f o11 z z)) (f o11 (f o11 z z) z)) (f zA (f o11 (f Ey z z) z) (f Du (f o12 z z) z))))))) (f boot_o_2 (f boot_o_4 (f boot_o_8 (f o12 (f o32 (f o64 (f zC (f o11 z z) (f Fl z z)) (f CF (f Ez z z) z)) (f o23 (f o11 (f Eg z z) (f o11 z z)) (f o11 (f ET z z) z))) (f o23 (f o80 (f o12 (f DQ z z) (f o12 z z)) (f o12 (f o12 z z) z)) (f zp (f Ct (f Ep z z) z) (f Dl (f o11 z z) z)))) (f o24 (f o40 (f o23 (f BV (f o12 z z) (f Fs z z)) (f o11 (f o11 z z) z)) (f zk (f Co (f Ek z z) (f FN z z)) (f Dg (f EY z z) z))) (f o56 (f o88 (f Cf (f o11 z z) (f FB z z)) (f CV (f EN z z) z)) (f o23 (f Cz (f Ev z z) z) (f Dr (f o12 z z) z))))) (f KF (f o20 (f o23 (f o68 (f o23 (f Dy z z) (f o12 z z)) (f o11 (f o12 z z) z)) (f zh (f o11 (f Ei z z) (f FJ z z)) (f o11 (f EV z z) z))) (f o52 (f o23 (f Cd (f DZ z z) (f Fz z z)) (f CT (f EL z z) z)) (f zt (f o12 (f Es z z) z) (f Do (f Fe z z) z)))) (f o28 (f o44 (f o76 (f BY (f DM z z) (f Fu z z)) (f CM (f EG z z) z)) (f o23 (f o12 (f o12 z z) z) (f o12 (f o11 z z) z))) (f o23 (f o92 (f Ci (f o11 z z) (f FE z z)) (f CZ (f ER z z) z)) (f zy (f CB (f Ex z z) z) (f o11 (f o11 z z) z)))))) (f boot_o_6 (f boot_o_10 (f o11 (f o34 (f o11 (f zE (f Dx z z) (f Fo z z)) (f o12 (f EB z z) z)) (f o11 (f Cl (f o12 z z) (f FH z z)) (f Dc (f o11 z z) z))) (f o11 (f o82 (f o11 (f DV z z) (f o11 z z)) (f o11 (f o11 z z) z)) (f o11 (f Cv (f o11 z z) z) (f o11 (f Fd z z) z)))) (f o12 (f o11 (f o11 (f o11 (f o11 z z) (f o11 z z)) (f CL (f EF z z) z)) (f zn (f Cq (f Em z z) (f FP z z)) (f Di (f o12 z z) z))) (f o58 (f o11 (f Cg (f Ec z z) (f FC z z)) (f CW (f EO z z) z)) (f o11 (f o11 (f o12 z z) z) (f o12 (f Fi z z) z))))) (f o14 (f o22 (f o11 (f o70 (f o11 (f DG z z) (f o11 z z)) (f CJ (f ED z z) z)) (f o11 (f Cn (f o11 z z) (f FL z z)) (f Df (f EW z z) z))) (f o11 (f o11 (f o11 (f o12 z z) (f o11 z z)) (f o11 (f o11 z z) z)) (f zw (f o11 (f Et z z) z) (f Dp (f Fg z z) z)))) (f o30 (f o46 (f o11 (f Ca (f o11 z z) (f Fw z z)) (f CO (f EI z z) z)) (f o11 (f o11 (f o11 z z) z) (f o11 (f Fb z z) z))) (f o11 (f o94 (f o12 (f Ee z z) (f o12 z z)) (f o12 (f o12 z z) z)) (f o11 (f CC (f o11 z z) z) (f Dv (f Fk z z) z))))))))
abbrev s1(w:F7)(os:OsState):SharedT:=%[t1 w.params,427,{ },(Array.mk []),%[0,0,0|0],847|os]
abbrev p1:Pos:=%[275,0,275|8]
abbrev st1:QA Stmt:=(pt.main.body.drop 11).take 61
theorem q1(w:F7):(λ os=>segRunT treeTable pt w m0 an 1 1951 (s0 w os) %[(execs st1 en).wrap doneF deadEnd id id,cE,p0|B])=λ os=>some (.next,s1 w os,cE,p1):=by rw[PySem.W.Fast.te10110043849684766642,PySem.W.Fast.te14364793385576792824,PySem.W.Fast.te12563942051412417395];kernel_rfl
def KG(P:Params):Obj:=%[(.type L0),none,(.dict #[e P S0 165 (.str iN 958),e P S2 166 .none,e P S3 167 .none,e P S4 168 (.builtin BQ),e P S5 169 .none,e P AX 170 (.ref 6),e P AY 171 (.ref 4),e P AZ 173 (.str mx 172),e P Ba 174 .none,e P nM 193 (.ref 21),e P im 213 (.ref 31),e P oX 229 (.ref 44),e P oY 245 (.ref 56),e P oZ 261 (.ref 68),e P pb 277 (.ref 80),e P pd 293 (.ref 92),e P pf 309 (.ref 104),e P pi 325 (.ref 116),e P pj 341 (.ref 128),e P tO 357 (.ref 140),e P pG 367 (.ref 149),e P pH 374 (.ref 156),e P pI 381 (.ref 163),e P pJ 389 (.ref 170),e P pK 398 (.ref 177),e P Bd 402 (.str Be 401),e P Bf 404 (.str Bg 403),e P Bh 405 (.ref 178),e P pL 420 (.ref 185),e P pM 432 (.ref 192),e P Bi 436 (.str JT 435),e P Bj 438 (.str JU 437),e P Bk 440 (.int 1 439),e P Bl 442 (.int 5 441),e P Bm 444 (.int 4 443),e P pN 453 (.ref 199),e P pO 464 (.ref 206),e P pP 477 (.ref 213),e P pQ 501 (.ref 220),e P pR 514 (.ref 227),e P pS 524 (.ref 234),e P pT 537 (.ref 241),e P Bn 541 (.int 2 540),e P Bo 543 (.int 2 542),e P pU 551 (.ref 248),e P pV 560 (.ref 255),e P pW 576 (.ref 262),e P pX 586 (.ref 269),e P pY 594 (.ref 276),e P pZ 602 (.ref 283),e P qb 608 (.ref 288),e P qc 614 (.ref 293),e P qd 620 (.ref 298),e P qe 630 (.ref 305),e P qg 653 (.ref 312),e P qh 659 (.ref 317),e P qi 665 (.ref 322),e P qj 671 (.ref 327),e P qk 692 (.ref 334),e P Bp 696 (.int 60 695),e P Bq 698 (.str JV 697),e P Br 700 (.str JW 699),e P Bs 702 (.str JX 701),e P Bt 704 (.str JY 703),e P ql 720 (.ref 341),e P qm 739 (.ref 348),e P qo 745 (.ref 353),e P Bu 749 (.int 8 748),e P Bv 751 (.int 5 750),e P qp 763 (.ref 360),e P qq 770 (.ref 367),e P tP 844 (.ref 422),e P xi 939 (.ref 493),e P tV 957 (.ref 504),e P tW 968 (.ref 511),e P tX 977 (.ref 518),e P tY 986 (.ref 525),e P tZ 992 (.ref 530),e P uh 1007 (.ref 537),e P ui 1024 (.ref 544),e P uj 1036 (.ref 551),e P uk 1051 (.ref 558),e P um 1057 (.ref 563),e P uo 1068 (.ref 570),e P uq 1074 (.ref 575),e P xj 1080 (.ref 580)] 86)|#[]]
def zW(P:Params):Obj:=%[.none,none,(.fields #[.int 1 0,.int 0 0,.ref 20,.int 5 0,.int 0 0,.ref 27,.int 7 0,.int 0 0,.ref 40,.int 9 0,.int 0 0,.ref 52,.int 11 0,.int 0 0,.ref 64,.int 13 0,.int 0 0,.ref 76,.int 15 0,.int 0 0,.ref 88,.int 17 0,.int 0 0,.ref 100,.int 19 0,.int 0 0,.ref 112,.int 21 0,.int 0 0,.ref 124,.int 23 0,.int 0 0,.ref 136,.int 26 0,.int 0 0,.ref 148,.int 28 0,.int 0 0,.ref 155,.int 30 0,.int 0 0,.ref 162,.int 32 0,.int 0 0,.ref 169,.int 35 0,.int 0 0,.ref 176,.int 42 0,.int 0 0,.ref 184,.int 47 0,.int 0 0,.ref 191,.int 58 0,.int 0 0,.ref 198,.int 62 0,.int 0 0,.ref 205,.int 69 0,.int 0 0,.ref 212,.int 74 0,.int 0 0,.ref 219,.int 81 0,.int 0 0,.ref 226,.int 92 0,.int 0 0,.ref 233,.int 95 0,.int 0 0,.ref 240,.int 108 0,.int 0 0,.ref 247,.int 110 0,.int 0 0,.ref 254,.int 112 0,.int 0 0,.ref 261,.int 126 0,.int 0 0,.ref 268,.int 129 0,.int 0 0,.ref 275,.int 134 0,.int 0 0,.ref 282,.int 136 0,.int 0 0,.ref 287,.int 140 0,.int 0 0,.ref 292,.int 152 0,.int 0 0,.ref 297,.int 161 0,.int 0 0,.ref 304,.int 165 0,.int 0 0,.ref 311,.int 173 0,.int 0 0,.ref 316,.int 177 0,.int 0 0,.ref 321,.int 183 0,.int 0 0,.ref 326,.int 186 0,.int 0 0,.ref 333,.int 204 0,.int 0 0,.ref 340,.int 210 0,.int 0 0,.ref 347,.int 218 0,.int 0 0,.ref 352,.int 229 0,.int 0 0,.ref 359,.int 236 0,.int 0 0,.ref 366,.int 238 0,.int 0 0,.ref 373,.int 276 0,.int 0 0,.ref 432,.int 333 0,.int 0 0,.ref 503,.int 347 0,.int 0 0,.ref 510,.int 352 0,.int 0 0,.ref 517,.int 359 0,.int 0 0,.ref 524,.int 366 0,.int 0 0,.ref 529,.int 374 0,.int 0 0,.ref 536,.int 380 0,.int 0 0,.ref 543,.int 393 0,.int 0 0,.ref 550,.int 400 0,.int 0 0,.ref 557,.int 415 0,.int 0 0,.ref 562,.int 418 0,.int 0 0,.ref 569,.int 421 0,.int 0 0,.ref 574,.int 435 0,.int 0 0,.ref 579])|#[]]
def KH(P:Params):Obj:=%[(.type L0),none,(.dict #[e P pq 854 (.str iM 845),e P Bc 856 (.str xi 855),e P pC 858 (.int 276 857),e P kz 864 (.ref 438),e P xk 872 (.ref 445),e P xn 885 (.ref 452),e P xo 894 (.ref 459),e P xq 900 (.ref 464),e P ur 907 (.ref 471),e P ut 914 (.ref 478),e P tS 920 (.ref 483),e P xt 927 (.ref 490),e P pE 932 (.ref 491)] 13)|#[]]
def KI(P:Params):Obj:=%[.none,none,(.fields #[.int 278 0,.int 4 0,.ref 437,.int 286 0,.int 4 0,.ref 444,.int 290 0,.int 4 0,.ref 451,.int 296 0,.int 4 0,.ref 458,.int 303 0,.int 4 0,.ref 463,.int 315 0,.int 4 0,.ref 470,.int 318 0,.int 4 0,.ref 477,.int 321 0,.int 4 0,.ref 482,.int 327 0,.int 4 0,.ref 489])|#[]]
def KJ:=g0 xi 849 276 430
def KL:=g1 432 429 iM 845
def KM:=g22 kz BH 72 0
def KN:=g20 kz 859 BH 278 3 434
def KO:=g23 kz BH 72 0 iM 845 437
def KP:=g12 kn 868 Kq 869
def KQ:=g22 xk BI 72 1
def KR:=g4 xk 865 BI 286 2 439 870
def KS:=g23 xk BI 72 1 iM 845 444
def KT:=g17 kn 876 fN fO ur Kr ut Om
def KU:=g22 xn BJ 72 2
def KW:=g4 xn 873 BJ 290 3 446 883
def KY:=g23 xn BJ 72 2 iM 845 451
def KZ:=g13 kn 889 Kr On
def La:=g22 xo BK 72 3
def Lb:=g4 xo 886 BK 296 2 453 892
def Lc:=g23 xo BK 72 3 iM 845 458
def Ld:=g22 xq BL 72 4
def Le:=g20 xq 895 BL 303 3 460
def Lg:=g23 xq BL 72 4 iM 845 463
def Lh:=g2 kn 904
def Li:=g22 ur BM 72 5
def Lj:=g4 ur 901 BM 315 1 465 905
def Lk:=g23 ur BM 72 5 iM 845 470
def Ll:=g2 kn 911
def Lm:=g22 ut BN 72 6
def Ln:=g4 ut 908 BN 318 1 472 912
def Lo:=g23 ut BN 72 6 iM 845 477
def Lq:=g22 tS BO 72 7
def Lr:=g20 tS 915 BO 321 1 479
def Ls:=g23 tS BO 72 7 iM 845 482
def Lu:=g2 kn 924
def Lv:=g22 xt BP 72 8
def Lw:=g4 xt 921 BP 327 1 484 925
def Lx:=g23 xt BP 72 8 iM 845 489
def Ly:=g18 JZ 928 Oo km Kq
def Lz(P:Params):Obj:=%[(.type L0),none,(.dict #[e P pq 854 (.str iM 845),e P pC 858 (.int 276 857),e P kz 864 (.ref 438),e P xk 872 (.ref 445),e P xn 885 (.ref 452),e P xo 894 (.ref 459),e P xq 900 (.ref 464),e P ur 907 (.ref 471),e P ut 914 (.ref 478),e P tS 920 (.ref 483),e P xt 927 (.ref 490),e P pE 932 (.ref 491),e P BG 934 (.ref 494),e P ze 936 (.ref 495),e P S2 937 .none] 4)|#[]]
def LA:=g24 xi 493 492 847
def LB:=g25 933 493
def LC:=g7 935 493
def LD:=g8 493
def LE:=g9 493
def LF:=g19 km 945 fN fO nN Ka zg Op Oq Kp mz
def LG:=g3 tV 74
def LH:=g4 tV 942 tV 333 4 498 955
def LI:=g5 tV 74 Os 940 503
def LJ:=g13 Ot 963 Ks Ou
def LK:=g3 tW 76
def LL:=g4 tW 960 tW 347 2 505 966
def LM:=g5 tW 76 iN 958 510
def LN:=g13 uw 972 Ov Kt
def LO:=g3 tX 77
def LP:=g4 tX 969 tX 352 2 512 975
def LQ:=g5 tX 77 iN 958 517
def LR:=g13 uw 981 Ow Ox
def LS:=g3 tY 78
def LT:=g4 tY 978 tY 359 2 519 984
def LU:=g5 tY 78 iN 958 524
def LW:=g3 tZ 79
def LX:=g20 tZ 987 tZ 366 3 526
def LY:=g5 tZ 79 iN 958 529
def LZ:=g14 uw 996 Ku xu xx Oy Oz OA OB OC
def Ma:=g3 uh 80
def Mb:=g4 uh 993 uh 374 4 531 1005
def Mc:=g5 uh 80 iN 958 536
def Md(P:Params):Obj:=%[(.type L68),none,(.seq #[.str uw 1011,.str Kv 1012,.str xu 1013,.str xx 1014,.str Kw 1015,.str OD 1016,.str OE 1017,.str OF 1018,.str Ks 1019,.str Kx 1020,.str Ky 1021] 0)|#[]]
def Me:=g3 ui 81
def Mf:=g4 ui 1008 ui 380 6 538 1022
def Mg:=g5 ui 81 iN 958 543
def Mh:=g15 uw 1028 OG Ku OH xu xx
def Mi:=g3 uj 82
def Mj:=g4 uj 1025 uj 393 2 545 1034
def Ml:=g5 uj 82 iN 958 550
def Mm:=g14 uw 1040 OI xu xx Kz Kx Kw Ky OJ
def Mo:=g3 uk 83
def Mp:=g4 uk 1037 uk 400 5 552 1049
def Mq:=g5 uk 83 iN 958 557
def Mr:=g3 um 84
def Ms:=g20 um 1052 um 415 4 559
def Mt:=g5 um 84 iN 958 562
def Mu:=g16 Kv 1061 xu xx Kz Kt
def Mv:=g3 uo 85
def Mw:=g4 uo 1058 uo 418 4 564 1066
def Mx:=g5 uo 85 iN 958 569
def My:=g3 uq 86
def Mz:=g20 uq 1069 uq 421 5 571
def MA:=g5 uq 86 iN 958 574
def MC:=g3 xj 87
def MD:=g20 xj 1075 xj 435 1 576
def MF:=g5 xj 87 iN 958 579
def t2:Params->BT:=(f boot_o_0 (f boot_o_1 (f KG (f boot_o_7 (f o11 (f xy (f o12 (f zB (f Dw (f LM z z) z) (f o11 z z)) (f CD (f o12 (f MA z z) z) (f o12 z z))) (f o35 (f Cj (f Ef (f Mf z z) z) (f FF z z)) (f Da (f ES z z) (f o11 z z)))) (f o35 (f o79 (f o11 (f o12 (f o12 z z) z) (f o11 z z)) (f o11 (f o11 z z) (f Le z z))) (f o12 (f Cs (f Eo (f o11 z z) z) (f KI z z)) (f Dk (f Fc z z) (f LC z z))))) (f o23 (f o12 (f o35 (f o12 (f o11 (f o11 z z) z) (f Fq z z)) (f CK (f EE z z) (f KZ z z))) (f zj (f o11 (f o12 (f Ml z z) z) (f FM z z)) (f o11 (f EX z z) (f o11 z z)))) (f o55 (f o12 (f o12 (f Ea (f Ma z z) z) (f o12 z z)) (f o12 (f o12 z z) (f Lk z z))) (f o35 (f Cy (f Eu (f o11 z z) z) (f o11 z z)) (f Dq (f o11 z z) (f LH z z)))))) (f o11 (f o19 (f o35 (f o67 (f o35 (f o11 (f o11 z z) z) (f o11 z z)) (f CG (f o11 (f MD z z) z) (f KW z z))) (f o12 (f Cm (f Eh (f Mh z z) z) (f FI z z)) (f De (f o12 z z) (f Ls z z)))) (f o12 (f o35 (f Cc (f DY (f o11 z z) z) (f Fy z z)) (f CQ (f EK z z) (f Lh z z))) (f zr (f o11 (f o12 (f Mt z z) z) (f o12 z z)) (f o12 (f o11 z z) (f o12 z z))))) (f o27 (f o43 (f o12 (f BX (f DJ (f LS z z) z) (f o12 z z)) (f o11 (f o11 z z) (f Lc z z))) (f o35 (f o11 (f o11 (f o11 z z) z) (f o11 z z)) (f o11 (f EZ z z) (f Ly z z)))) (f o35 (f o91 (f Ch (f Ed (f o12 z z) z) (f FD z z)) (f CY (f EQ z z) (f o11 z z))) (f o12 (f o12 (f Ew (f o11 z z) z) (f KQ z z)) (f Ds (f Fj z z) (f LJ z z))))))) (f boot_o_5 (f boot_o_9 (f o17 (f o33 (f o65 (f zD (f o12 (f o12 z z) z) (f Fm z z)) (f o11 (f EA (f o12 z z) z) (f o11 z z))) (f o97 (f Ck (f o11 (f o11 z z) z) (f FG z z)) (f Db (f EU z z) (f Lq z z)))) (f o49 (f o81 (f Cb (f o11 (f LX z z) z) (f Fx z z)) (f CP (f EJ z z) (f o11 z z))) (f zq (f Cu (f Er (f Mr z z) z) (f KL z z)) (f Dm (f o23 z z) (f LE z z))))) (f o11 (f o41 (f o73 (f BW (f DH (f LR z z) z) (f Ft z z)) (f o12 (f o12 z z) (f La z z))) (f zm (f Cp (f El (f o12 z z) z) (f FO z z)) (f Dh (f o11 z z) (f Lw z z)))) (f o57 (f o89 (f o11 (f Eb (f Mc z z) z) (f o11 z z)) (f o11 (f o11 z z) (f o12 z z))) (f zx (f CA (f o11 (f Mw z z) z) (f KP z z)) (f o11 (f Fh z z) (f o11 z z)))))) (f o13 (f o21 (f o37 (f o69 (f BU (f Dz (f LP z z) z) (f Fp z z)) (f CI (f EC z z) (f o11 z z))) (f zi (f o12 (f Ej (f Mi z z) z) (f FK z z)) (f o12 (f o11 z z) (f o12 z z)))) (f o53 (f o85 (f Ce (f o11 (f LZ z z) z) (f FA z z)) (f CU (f EM z z) (f Li z z))) (f zu (f Cw (f o11 (f o12 z z) z) (f KN z z)) (f o11 (f Ff z z) (f o11 z z))))) (f o11 (f o45 (f o77 (f BZ (f DO (f LU z z) z) (f Fv z z)) (f CN (f EH z z) (f o12 z z))) (f zo (f Cr (f En (f Mp z z) z) (f KH z z)) (f Dj (f Fa z z) (f LA z z)))) (f o61 (f o93 (f o11 (f o12 (f o11 z z) z) (f o11 z z)) (f o11 (f o11 z z) (f Ln z z))) (f zA (f o11 (f Ey (f My z z) z) (f KS z z)) (f Du (f o12 z z) (f LK z z)))))))) (f boot_o_2 (f boot_o_4 (f boot_o_8 (f o12 (f o32 (f o64 (f zC (f o11 (f o11 z z) z) (f Fl z z)) (f CF (f Ez (f o11 z z) z) (f KT z z))) (f o23 (f o11 (f Eg (f Mg z z) z) (f o11 z z)) (f o11 (f ET z z) (f o12 z z)))) (f o23 (f o80 (f o12 (f DQ (f LW z z) z) (f o12 z z)) (f o12 (f o12 z z) (f Lg z z))) (f zp (f Ct (f Ep (f o12 z z) z) (f KJ z z)) (f Dl (f o11 z z) (f LD z z))))) (f o24 (f o40 (f o23 (f BV (f o12 (f o12 z z) z) (f Fs z z)) (f o11 (f o11 z z) (f o11 z z))) (f zk (f Co (f Ek (f o11 z z) z) (f FN z z)) (f Dg (f EY z z) (f Lv z z)))) (f o56 (f o88 (f Cf (f o11 (f Mb z z) z) (f FB z z)) (f CV (f EN z z) (f o11 z z))) (f o23 (f Cz (f Ev (f Mv z z) z) (f o12 z z)) (f Dr (f o12 z z) (f LI z z)))))) (f zW (f o20 (f o23 (f o68 (f o23 (f Dy (f LO z z) z) (f o12 z z)) (f o11 (f o12 (f MF z z) z) (f KY z z))) (f zh (f o11 (f Ei (f o11 z z) z) (f FJ z z)) (f o11 (f EV z z) (f o11 z z)))) (f o52 (f o23 (f Cd (f DZ (f o12 z z) z) (f Fz z z)) (f CT (f EL z z) (f o11 z z))) (f zt (f o12 (f Es (f o11 z z) z) (f KM z z)) (f Do (f Fe z z) (f LF z z))))) (f o28 (f o44 (f o76 (f BY (f DM (f LT z z) z) (f Fu z z)) (f CM (f EG z z) (f o11 z z))) (f o23 (f o12 (f o12 (f Mo z z) z) (f o23 z z)) (f o12 (f o11 z z) (f Lz z z)))) (f o23 (f o92 (f Ci (f o11 (f Md z z) z) (f FE z z)) (f CZ (f ER z z) (f Lm z z))) (f zy (f CB (f Ex (f o12 z z) z) (f KR z z)) (f o11 (f o11 z z) (f o11 z z))))))) (f boot_o_6 (f boot_o_10 (f o11 (f o34 (f o11 (f zE (f Dx (f LN z z) z) (f Fo z z)) (f o12 (f EB (f MC z z) z) (f KU z z))) (f o11 (f Cl (f o12 (f o12 z z) z) (f FH z z)) (f Dc (f o11 z z) (f Lr z z)))) (f o11 (f o82 (f o11 (f DV (f LY z z) z) (f o11 z z)) (f o11 (f o11 z z) (f o12 z z))) (f o11 (f Cv (f o11 (f Ms z z) z) (f o11 z z)) (f o11 (f Fd z z) (f o11 z z))))) (f o12 (f o11 (f o11 (f o11 (f o11 (f o11 z z) z) (f o11 z z)) (f CL (f EF z z) (f Lb z z))) (f zn (f Cq (f Em (f Mm z z) z) (f FP z z)) (f Di (f o12 z z) (f Lx z z)))) (f o58 (f o11 (f Cg (f Ec (f o11 z z) z) (f FC z z)) (f CW (f EO z z) (f Ll z z))) (f o11 (f o11 (f o12 (f Mx z z) z) (f o11 z z)) (f o12 (f Fi z z) (f o12 z z)))))) (f o14 (f o22 (f o11 (f o70 (f o11 (f DG (f LQ z z) z) (f o11 z z)) (f CJ (f ED z z) (f o12 z z))) (f o11 (f Cn (f o11 (f Mj z z) z) (f FL z z)) (f Df (f EW z z) (f Lu z z)))) (f o11 (f o11 (f o11 (f o12 (f o11 z z) z) (f o11 z z)) (f o11 (f o11 z z) (f Lj z z))) (f zw (f o11 (f Et (f Mu z z) z) (f KO z z)) (f Dp (f Fg z z) (f LG z z))))) (f o30 (f o46 (f o11 (f Ca (f o11 (f o11 z z) z) (f Fw z z)) (f CO (f EI z z) (f Ld z z))) (f o11 (f o11 (f o11 (f Mq z z) z) (f o11 z z)) (f o11 (f Fb z z) (f LB z z)))) (f o11 (f o94 (f o12 (f Ee (f Me z z) z) (f o12 z z)) (f o12 (f o12 z z) (f Lo z z))) (f o11 (f CC (f o11 (f Mz z z) z) (f o11 z z)) (f Dv (f Fk z z) (f LL z z)))))))))
abbrev s2(w:F7)(os:OsState):SharedT:=%[t2 w.params,581,{ },(Array.mk []),%[0,0,0|0],1081|os]
abbrev p2:Pos:=%[435,0,457|15]
abbrev st2:QA Stmt:=(pt.main.body.drop 72).take 16
theorem q2(w:F7):(λ os=>segRunT treeTable pt w m0 an 1 906 (s1 w os) %[(execs st2 en).wrap doneF deadEnd id id,cE,p1|B])=λ os=>some (.next,s2 w os,cE,p2):=by rw[PySem.W.Fast.te10110043849684766642,PySem.W.Fast.te14364793385576792824,PySem.W.Fast.te12563942051412417395];kernel_rfl
def hF(P:Params):Heap:=%[%[|[boot_o_0 P,boot_o_1 P,boot_o_2 P,KG P,boot_o_4 P,boot_o_5 P,boot_o_6 P,boot_o_7 P,boot_o_8 P,boot_o_9 P,boot_o_10 P,o11 P,zW P,o13 P,o14 P,o11 P,o12 P,o17 P,o11 P,o19 P,o20 P,o21 P,o22 P,o23 P,o24 P,o11 P,o12 P,o27 P,o28 P,o11 P,o30 P,xy P,o32 P,o33 P,o34 P,o35 P,o23 P,o37 P,o11 P,o12 P,o40 P,o41 P,o11 P,o43 P,o44 P,o45 P,o46 P,o35 P,o23 P,o49 P,o11 P,o12 P,o52 P,o53 P,o11 P,o55 P,o56 P,o57 P,o58 P,o35 P,o23 P,o61 P,o11 P,o12 P,o64 P,o65 P,o11 P,o67 P,o68 P,o69 P,o70 P,o35 P,o23 P,o73 P,o11 P,o12 P,o76 P,o77 P,o11 P,o79 P,o80 P,o81 P,o82 P,o35 P,o23 P,o85 P,o11 P,o12 P,o88 P,o89 P,o11 P,o91 P,o92 P,o93 P,o94 P,o35 P,o23 P,o97 P,o11 P,o12 P,zh P,zi P,o11 P,zj P,zk P,zm P,zn P,o35 P,o23 P,zo P,o11 P,o12 P,zp P,zq P,o11 P,zr P,zt P,zu P,zw P,o35 P,o23 P,zx P,o11 P,o12 P,zy P,zA P,o11 P,zB P,zC P,zD P,zE P,o35 P,o23 P,BU P,o11 P,o12 P,BV P,BW P,o11 P,BX P,BY P,BZ P,Ca P,o11 P,o12 P,Cb P,o11 P,Cc P,Cd P,Ce P,o11 P,o12 P,Cf P,o11 P,Cg P,Ch P,Ci P,o11 P,o12 P,Cj P,o11 P,Ck P,Cl P,Cm P,o11 P,o12 P,Cn P,o11 P,Co P,Cp P,Cq P,o11 P,o12 P,Cr P,o11 P,Cs P,Ct P,Cu P,Cv P,o11 P,o12 P,Cw P,o11 P,Cy P,Cz P,CA P,o11 P,o12 P,CB P,o11 P,CC P,CD P,CF P,o11 P,o12 P,CG P,o11 P,CI P,CJ P,CK P,o11 P,o12 P,CL P,o11 P,CM P,CN P,CO P,o11 P,o12 P,CP P,o11 P,CQ P,CT P,CU P,o11 P,o12 P,CV P,o11 P,CW P,CY P,CZ P,o11 P,o12 P,Da P,o11 P,Db P,Dc P,De P,o11 P,o12 P,Df P,o11 P,Dg P,Dh P,Di P,o11 P,o12 P,Dj P,o11 P,Dk P,Dl P,Dm P,o11 P,o12 P,Do P,o11 P,Dp P,Dq P,Dr P,o11 P,o12 P,Ds P,o11 P,Du P,Dv P,Dw P,o11 P,o12 P,Dx P,o11 P,Dy P,Dz P,DG P,o11 P,o12 P,DH P,o11 P,DJ P,DM P,DO P,o11 P,o12 P,DQ P,o11 P,DV P,DY P,DZ P,o11 P,o12 P,Ea P,o11 P,Eb P,Ec P,Ed P,o11 P,o12 P,Ee P,Ef P,Eg P,o11 P,o12 P,Eh P,Ei P,Ej P,o11 P,o12 P,Ek P,El P,Em P,o11 P,o12 P,En P,o11 P,Eo P,Ep P,Er P,o11 P,o12 P,Es P,o11 P,Et P,Eu P,Ev P,o11 P,o12 P,Ew P,Ex P,Ey P,o11 P,o12 P,Ez P,EA P,EB P,o11 P,o12 P,EC P,ED P,EE P,o11 P,o12 P,EF P,o11 P,EG P,EH P,EI P,o11 P,o12 P,EJ P,o11 P,EK P,EL P,EM P,o11 P,o12 P,EN P,o11 P,EO P,EQ P,ER P,o11 P,o12 P,ES P,ET P,EU P,o11 P,o12 P,EV P,o11 P,EW P,EX P,EY P,o11 P,o12 P,EZ P,o11 P,Fa P,Fb P,Fc P,o11 P,o23 P,Fd P,o11 P,Fe P,Ff P,Fg P,o11 P,o12 P,Fh P,Fi P,Fj P,o11 P,o12 P,Fk P,o11 P,Fl P,Fm P,Fo P,o11 P,o12 P,Fp P,o11 P,Fq P,Fs P,Ft P,o11 P,o12 P,Fu P,Fv P,Fw P,o11 P,o12 P,Fx P,o11 P,Fy P,Fz P,FA P,o11 P,o12 P,FB P,o11 P,FC P,FD P,FE P,o11 P,o12 P,FF P,o11 P,FG P,FH P,FI P,FJ P,FK P,FL P,FM P,FN P,FO P,FP P,o11 P,o23 P,KH P,o11 P,KI P,KJ P,KL P,o11 P,o12 P,KM P,KN P,KO P,o11 P,o12 P,KP P,o11 P,KQ P,KR P,KS P,o11 P,o12 P,KT P,o11 P,KU P,KW P,KY P,o11 P,o12 P,KZ P,o11 P,La P,Lb P,Lc P,o11 P,o12 P,Ld P,Le P,Lg P,o11 P,o12 P,Lh P,o11 P,Li P,Lj P,Lk P,o11 P,o12 P,Ll P,o11 P,Lm P,Ln P,Lo P,o11 P,o12 P,Lq P,Lr P,Ls P,o11 P,o12 P,Lu P,o11 P,Lv P,Lw P,Lx P,Ly P,Lz P,LA P,LB P,LC P,LD P,LE P,o11 P,o12 P,LF P,o11 P,LG P,LH P,LI P,o11 P,o12 P,LJ P,o11 P,LK P,LL P,LM P,o11 P,o12 P,LN P,o11 P,LO P,LP P,LQ P,o11 P,o12 P,LR P,o11 P,LS P,LT P,LU P,o11 P,o12 P,LW P,LX P,LY P,o11 P,o12 P,LZ P,o11 P,Ma P,Mb P,Mc P,o11 P,o12 P,Md P,o11 P,Me P,Mf P,Mg P,o11 P,o12 P,Mh P,o11 P,Mi P,Mj P,Ml P,o11 P,o12 P,Mm P,o11 P,Mo P,Mp P,Mq P,o11 P,o12 P,Mr P,Ms P,Mt P,o11 P,o12 P,Mu P,o11 P,Mv P,Mw P,Mx P,o11 P,o12 P,My P,Mz P,MA P,o11 P,o12 P,MC P,MD P,MF P]]|{ }]
abbrev sF(w:F7)(os:OsState):F4:=%[hF w.params,(Array.mk []),%[0,0,0|0],1081|os]
theorem fin(w:F7):(λ os=>topRun treeTable pt w m0 an 2 (s2 w os).abs ⟨doneF .next,cE,p2,B⟩)=λ os=>some (sF w os):=by rw[PySem.W.Fast.te14082659384304107361,PySem.W.Fast.te14364793385576792824];kernel_rfl
theorem zF:behindTheImports pt=st0 ++ (st1 ++ (st2 ++ ([]))):=by kernel_rfl
abbrev MM:Nat:=12+(1+(1929+(1951+(906+2))))
theorem FQ(w:F7)(os:OsState):topRun treeTable pt w m0 an MM (sZ w os) (topStub pt)=some (sF w os) :=
 go_top (congrFun (pre w) os) (piece_block (congrFun (blk w) os) (zF ▸ (piece_app (l:=st0) (segRun_of (congrFun (q0 w) os)) (piece_app (l:=st1) (segRun_of (congrFun (q1 w) os)) (piece_app (l:=st2) (segRun_of (congrFun (q2 w) os)) (piece_nil (congrFun (fin w) os)))))))
def loose:QA Str:=[nM,im,oX,oY,oZ,pb,pd,pf,pi,pj,tO,pG,pH,pI,pJ,pK,Bd,Bf,Bh,pL,pM,Bi,Bj,Bk,Bl,Bm,pN,pO,pP,pQ,pR,pS,pT,Bn,Bo,pU,pV,pW,pX,pY,pZ,qb,qc,qd,qe,qg,qh,qi,qj,qk,Bp,Bq,Br,Bs,Bt,ql,qm,qo,Bu,Bv,qp,qq,tP,xi,tV,tW,tX,tY,tZ,uh,ui,uj,uk,um,uo,uq]
abbrev NN:Nat:=9692
abbrev q:F5:=view pt [87]
abbrev Xt:F4->Bool:=λ s=>xlAt q [] s && recOk [] s
theorem size(w:F7):((boot_heap w.params).isNs QB && (Array.mk []:P9 GenState).size == 0,(boot_heap w.params).objs.size,(boot_heap w.params).nsMap QB "__annotations__")=(true,m0,an):=by rw[PySem.W.Fast.te8920871248978507458];kernel_rfl
theorem MG(w:F7):(λ os=>((staticsOk (importedModules pt.main.body) (boot_heap w.params) (hF w.params) && namesBound pt (hF w.params) && gensDone (sF w os) && laidKept (boot_heap w.params) (hF w.params)),openSeen q loose (importedModules pt.main.body) Xt true (sF w os),HK.obs (sF w os)))=λ _=>(true,openGood q loose,HK.val w):=by rw[PySem.W.Fast.te4187177175401517315,PySem.W.Fast.te5923862056798008813];kernel_rfl
theorem left:LeftO pt q loose Xt HK.obs HK.val NN true:=LeftO.of_pieces (boot_open (by kernel_rfl) ∅ (λ s=>rfl)) size FQ ∅ MG
end Hd
open PySem PySem.W PyProof.Rows
set_option maxRecDepth 100000 in
set_option maxHeartbeats 0 in
theorem PySem.Challenge.cw_platecuts_k96_whole_one_telling_one_lot_holds : PySem.Challenge.rw_platecuts_k96_whole_one_telling_one_lot.Holds := by
 w_on;o_law
 refine holds_open (q:=view PySem.Challenge.pw_platecuts_k96_whole_one_telling_one_lot [87]) (loose:=Hd.loose) (Xt:=λ s=>xlAt (view PySem.Challenge.pw_platecuts_k96_whole_one_telling_one_lot [87]) [] s && recOk [] s) (XP:=XL (view PySem.Challenge.pw_platecuts_k96_whole_one_telling_one_lot [87]) []) (Yf:=Hook.obs Hd.HK) (Ya:=Hook.val Hd.HK) (YP:=InK Pc.kK) (N:=Hd.NN) ?hl (Hook.of Hd.HK) (Hook.keeps Hd.HK) (λ s e=>xl_of s (Bool.and_eq_true_iff.mp e).1) XL.keeps (by rfl) (by rfl) (by rfl) (λ s e=>recFacts_of (Bool.and_eq_true_iff.mp e).2) (by rfl) (by first | assumption | decide +kernel) (by decide +kernel) ⟨rfl,rfl,rfl,rfl,rfl,by decide +kernel⟩ ?hw ?hc
 case hl=>exact Hd.pt_eq ▸ Hd.left
 case hw=>w_witness2
 k_fill
 refine Pc.walk (l:=PySem.Challenge.rw_platecuts_k96_whole_one_telling_one_lot) rfl rfl (λ w h YY0=>YY0) ?F
 case F=>
  intro w mg fa h KX G hmg;refine' Pc.all_mk KX G hmg ?d0 ?d1 ?d2 ?d3 ?d4 ?d5 ?d6 ?d7 ?d8 ?d9 ?d10 ?d11 ?d12 ?d13 ?d14 ?d15 ?d16 ?d17 ?d18 ?d19 ?d20 ?d21 ?d22 ?d23 ?d24 ?d25 ?d26 ?d27 ?d28 ?d29 ?d30 ?d31 ?d32 ?d33 ?d34 ?d35 ?d36 ?d37 ?d38 ?d39 ?d40 ?d41 ?d42 ?d43 ?d44 ?d45 ?d46 ?aC ?dm0 ?dm1 ?dm2 ?dm3 ?dm4 ?pg ?hd ?po ?sa ?mk ?kc ?n0 ?n1 ?aCS ?do0 ?do1 ?do2 ?do3 ?do4 ?do5 ?do6 ?do7 ?do8 ?pgS ?hdS ?poS ?saS ?mkS ?kcS ?nS0 ?nS1 ?nS2 ?nS3 ?eWAYS ?lWAYS ?z0 ?z1 ?z2 ?z3 ?z4 ?z5 ?z6 ?z7 ?z8 ?z9 ?z10 ?z11 ?z12 ?z13 ?z14 ?z15 ?z16 ?z17 ?z18 ?uc0 ?uc1 ?uc2 ?uc3 ?uc4 ?uc5 ?uc6 ?uc7 ?uc8 ?uc9 ?uc10 ?uc11 ?uc12 ?uc13 ?uc14
  (case d0 | d1 | d2 | d3 | d4 | d5 | d6 | d7 | d8 | d9 | d10 | d11 | d12 | d13 | d14 | d15 | d16 | d17 | d18 | d19 | d20 | d21 | d22 | d23 | d24 | d25 | d26 | d27 | d28 | d29 | d30 | d31 | d32 | d33 | d34 | d35 | d36 | d37 | d38 | d39 | d40 | d41 | d42 | d43 | d44 | d45 | d46=>refine' Pc.diM ?a ?l ?c ?k;(case a=>k_is);(case l=>k_is);(case c=>k_is);(case k=>k_is))
  (case aC | aCS=>k_is)
  (case dm0 | dm1 | dm2 | dm3 | dm4 | do0 | do1 | do2 | do3 | do4 | do5 | do6 | do7 | do8=>refine' Pc.miM ?a ?i ?l ?c ?k;(case a=>k_is);(case i=>k_is);(case l=>k_is);(case c=>k_is);(case k=>k_is))
  (case pg | hd | po | sa | mk | kc | n0 | n1 | pgS | hdS | poS | saS | mkS | kcS | nS0 | nS1 | nS2 | nS3 | eWAYS=>k_is)
  (case lWAYS=>exact⟨_,_,_,Y,Y,Y,by decide,.cons ⟨_,Y⟩ (.cons ⟨_,Y⟩ .nil)⟩)
  (case z0 | z1 | z2 | z3 | z4 | z5 | z6 | z7 | z8 | z9 | z10 | z11 | z12 | z13 | z14 | z15 | z16 | z17 | z18 | uc0 | uc1 | uc2 | uc3 | uc4 | uc5 | uc6 | uc7 | uc8 | uc9 | uc10 | uc11 | uc12 | uc13 | uc14=>k_is)