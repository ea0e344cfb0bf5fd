import PyProof.Rows.All
import Wide.All
import OpenK.AllK
import Wide.FinOn
import Lean
import PyProof.EqAt
import PyProof.EqKinds
import PyProof.TupleCall
import PyProof.IsiBase
import PyProof.ExcArgsOwn
import PyProof.ExcAttrAll.ValueError
import PyProof.Draws
import PyProof.WalksMore
import PyProof.EnumMake
import PyProof.ReprRoads
import PyProof.Rows.SortWalk
import PyProof.Rows.SumAny
import PyProof.FitsBits
import KE.KSortTup
import KE.KRevIter
import PyProof.FactsAll.dict_1
import PyProof.FactsAll.subtypes_4
import PyProof.FactsAll.subtypes_1
import PyProof.FactsAll.subtypes_2
import PyProof.NeData
import PySem.Challenge.RW_platecuts_k84_tellings_refused
set_option maxRecDepth 100000
set_option maxHeartbeats 0
local macro_rules|`(def $i $s:optDeclSig $v:declVal)=>`(noncomputable def $i $s:optDeclSig $v:declVal)
local macro_rules|`(abbrev $i $s:optDeclSig $v:declVal)=>`(noncomputable abbrev $i $s:optDeclSig $v:declVal)
local macro_rules|`(∅)=>`(by decide +kernel)
local macro_rules|`(⋯)=>`(by lia)
local macro_rules|`(↑$x)=>`(some (.ref $x))
local macro_rules|`(⇑$x)=>`(some (.int $x))
local macro_rules|`(↥$x)=>`(some (.lst $x))
local macro_rules|`(~~~$x)=>`(some (.tup $x))
local macro_rules|`(%[$xs,*|$y])=>if y.raw.getId.hasMacroScopes then Lean.Macro.throwUnsupported else `(⟨$(xs.getElems.push y),*⟩)
section
open PySem PySem.W PySem.Spec PyProof PyProof.Rows
abbrev F5:=@Shared
abbrev F6:=@Program
abbrev F7:=@FuncData
abbrev F8:=@World
abbrev F9:=@Value
abbrev A0:=@wpAny_bind
abbrev A1:=@wpAny_pure
abbrev A2:=@wpS_bind
abbrev A3:=@wpS_pure
abbrev A4:=@List.mem_append_right
abbrev A5:=@List.getElem?_eq_some_iff
abbrev A6:=@Heap.get?_push_of_some
abbrev A7:=@Heap.get?_push_size
abbrev A8:=@Heap.lt_size
abbrev A9:=@decide_eq_true
abbrev B0:=@decide_eq_false
theorem B1:type_of% @Bool.false_ne_true:=@Bool.false_ne_true
theorem B2:type_of% @Nat.le_refl:=@Nat.le_refl
theorem B3:type_of% @List.mem_cons_of_mem:=@List.mem_cons_of_mem
abbrev B5:=@List.mem_of_getElem?
abbrev B6:=@List.mem_append_left
theorem B7:type_of% @List.mem_cons_self:=@List.mem_cons_self
abbrev B8:=@Option.some.inj
theorem B9:type_of% @Nat.ne_of_lt:=@Nat.ne_of_lt
abbrev C0:=@of_decide_eq_true
theorem C1:type_of% @Nat.lt_of_lt_of_le:=@Nat.lt_of_lt_of_le
abbrev C2:=@List.mem_append
abbrev C3:=@beq_iff_eq
abbrev C4:=@PySem.W.Frag
abbrev C5:=@Nat.le_trans
abbrev C6:=@Nat.lt_of_le_of_lt
abbrev C7:=@Bool.and_eq_true_iff
abbrev C8:=@Nat.lt_irrefl
theorem C9:type_of% @List.mem_singleton:=@List.mem_singleton
abbrev E1:=@Paired.length
abbrev E2:=@PassesOwn.never
abbrev E3:=@Int.le_refl
abbrev E4:=@PySem.W.fnOf
abbrev E5:=@False.elim
abbrev E6:=@Nat.zero_le
abbrev E7:=@Nat.not_lt_zero
abbrev E8:=@Nat.lt_succ_self
theorem E9:type_of% @List.getElem?_eq_getElem:=@List.getElem?_eq_getElem
abbrev F1:=@wpAny_truthy_bool
abbrev F2:=@wpAny_call_entry
abbrev F3:=@wpAny_newObj_type
abbrev F4:=@PySem.F.plainAttrs_list
theorem G5:type_of% @List.length_append:=@List.length_append
theorem G6:type_of% @List.mem_cons:=@List.mem_cons
theorem G7:type_of% @List.size_toArray:=@List.size_toArray
theorem G8:type_of% @Bool.and_eq_true:=@Bool.and_eq_true
theorem I9:type_of% @List.length_cons:=@List.length_cons
theorem J0:type_of% @List.not_mem_nil:=@List.not_mem_nil
theorem J1:type_of% @List.length_map:=@List.length_map
theorem J2:type_of% @List.length_take:=@List.length_take
theorem J3:type_of% @Bool.and_false:=@Bool.and_false
theorem J4:type_of% @List.map_cons:=@List.map_cons
theorem J5:type_of% @Bool.false_eq_true:=@Bool.false_eq_true
theorem J6:type_of% @Bool.true_and:=@Bool.true_and
theorem J7:type_of% @List.append_nil:=@List.append_nil
theorem J8:type_of% @Bool.false_and:=@Bool.false_and
theorem K0:type_of% @List.length_drop:=@List.length_drop
theorem K1:type_of% @Bool.and_true:=@Bool.and_true
theorem K2:type_of% @List.take_add_one:=@List.take_add_one
theorem K3:type_of% @Int.eq_ofNat_of_zero_le:=@Int.eq_ofNat_of_zero_le
theorem K4:type_of% @List.take_length:=@List.take_length
theorem K5:type_of% @List.filterMap_cons:=@List.filterMap_cons
theorem K6:type_of% @List.length_singleton:=@List.length_singleton
theorem K7:type_of% @List.lookup_cons:=@List.lookup_cons
theorem K8:type_of% @List.cons_append:=@List.cons_append
theorem K9:type_of% @Nat.succ_le_succ:=@Nat.succ_le_succ
theorem M0:type_of% @List.mem_of_mem_take:=@List.mem_of_mem_take
theorem M1:type_of% @Int.toNat_natCast:=@Int.toNat_natCast
theorem M2:type_of% @List.take_of_length_le:=@List.take_of_length_le
theorem M3:type_of% @Option.map_eq_some_iff:=@Option.map_eq_some_iff
theorem M4:type_of% @List.mem_map:=@List.mem_map
theorem M5:type_of% @List.mem_of_mem_drop:=@List.mem_of_mem_drop
theorem M6:type_of% @Nat.zero_max:=@Nat.zero_max
theorem M7:type_of% @List.forall_mem_cons:=@List.forall_mem_cons
theorem M8:type_of% @Int.toNat_of_nonneg:=@Int.toNat_of_nonneg
theorem M9:type_of% @List.all_eq_true:=@List.all_eq_true
theorem N0:type_of% @Nat.le_max_right:=@Nat.le_max_right
theorem N1:type_of% @Nat.max_zero:=@Nat.max_zero
theorem N2:type_of% @Bool.eq_iff_iff:=@Bool.eq_iff_iff
theorem N3:type_of% @List.map_append:=@List.map_append
theorem N4:type_of% @List.eq_nil_or_concat:=@List.eq_nil_or_concat
theorem N5:type_of% @List.concat_eq_append:=@List.concat_eq_append
theorem N6:type_of% @List.getElem?_map:=@List.getElem?_map
theorem N7:type_of% @List.append_assoc:=@List.append_assoc
theorem N8:type_of% @List.drop_zero:=@List.drop_zero
theorem N9:type_of% @List.all_cons:=@List.all_cons
theorem OA:type_of% @List.of_mem_zip:=@List.of_mem_zip
theorem OB:type_of% @Nat.min_eq_left:=@Nat.min_eq_left
theorem OC:type_of% @Nat.sub_zero:=@Nat.sub_zero
theorem OD:type_of% @Nat.lt_trans:=@Nat.lt_trans
abbrev OE:=@Addr
abbrev OF:=@Keyed
abbrev OG:=@Option
abbrev OH:=@Array
abbrev OI:=@List
abbrev OJ:=@mainGlobals
theorem OO:type_of% @decide_eq_true:=@decide_eq_true
theorem OP:type_of% @PyProof.Rows.boot_isinstance:=@PyProof.Rows.boot_isinstance
theorem OQ:type_of% @if_neg:=@if_neg
theorem OR:type_of% @if_pos:=@if_pos
theorem OS:type_of% @decide_eq_false:=@decide_eq_false
theorem OT:type_of% @PyProof.Rows.boot_tuple:=@PyProof.Rows.boot_tuple
theorem OU:type_of% @PySem.wpAny_mono:=@PySem.wpAny_mono
theorem OV:type_of% @PySem.wpAny_holding:=@PySem.wpAny_holding
theorem OW:type_of% @PySem.boot_len:=@PySem.boot_len
theorem OX:type_of% @PyProof.Rows.boot_int:=@PyProof.Rows.boot_int
theorem OY:type_of% @PySem.wpAny_loadPart':=@PySem.wpAny_loadPart'
theorem OZ:type_of% @or_false:=@or_false
theorem Oi:type_of% @PySem.F.slot_list_append:=@PySem.F.slot_list_append
theorem Oj:type_of% @PySem.F.type_list_append:=@PySem.F.type_list_append
theorem Ol:type_of% @PyProof.Rows.KeyOrd.kle_refl:=@PyProof.Rows.KeyOrd.kle_refl
theorem Om:type_of% @PyProof.Rows.slot_tuple_getitem:=@PyProof.Rows.slot_tuple_getitem
theorem On:type_of% @congrArg:=@congrArg
theorem Oo:type_of% @PySem.wpAny_Call_Name_kw:=@PySem.wpAny_Call_Name_kw
theorem Op:type_of% @PySem.wpAny_execs_nil:=@PySem.wpAny_execs_nil
theorem Oq:type_of% @if_false:=@if_false
theorem Os:type_of% @PyProof.Rows.callWith_type1:=@PyProof.Rows.callWith_type1
theorem Ot:type_of% @PySem.wpAny_passesOwn:=@PySem.wpAny_passesOwn
theorem Ou:type_of% @PySem.wpAny_field:=@PySem.wpAny_field
theorem Ov:type_of% @decide_eq_true_eq:=@decide_eq_true_eq
theorem Ow:type_of% @PyProof.Rows.boot_sorted:=@PyProof.Rows.boot_sorted
theorem Ox:type_of% @beq_eq_false_iff_ne:=@beq_eq_false_iff_ne
theorem Oy:type_of% @PySem.mem_of_lookup:=@PySem.mem_of_lookup
theorem Oz:type_of% @PySem.codeAny_mono:=@PySem.codeAny_mono
theorem O0:type_of% @PySem.wpAny_standAt:=@PySem.wpAny_standAt
theorem O1:type_of% @if_true:=@if_true
theorem O2:type_of% @PySem.wpAny_rule:=@PySem.wpAny_rule
theorem O3:type_of% @PySem.call_meets:=@PySem.call_meets
end
theorem zS2:2<=PySem.sizeLine:=∅
theorem zS5:5<=PySem.sizeLine:=∅
theorem zS1:1<=PySem.sizeLine:=∅
theorem zS4:4<=PySem.sizeLine:=∅
theorem zS3:3<=PySem.sizeLine:=∅
theorem zS0:0<=PySem.sizeLine:=∅
theorem zS14:14<=PySem.sizeLine:=∅
theorem zS8:8<=PySem.sizeLine:=∅
theorem zS10:10<=PySem.sizeLine:=∅
theorem zS7:7<=PySem.sizeLine:=∅
theorem O{α:Sort _}{a:α}:a=a:=rfl
set_option Elab.async false
set_option linter.all false
namespace L2
open PySem PySem.Spec PyProof.Rows
abbrev Key:=Sum Int Str
def yp:Key->F9->Bool
 | .inl k,v=>Value.isInt k v
 | .inr x,v=>Value.isStrOf x v
def KW(w:F8):Key->Int
 | .inl k=>hashInt k
 | .inr x=>hashStr w x
theorem bI:∀{k:Key}{v:F9},yp k v=true->(∃i t,k=Sum.inl i/\v=Value.int i t)\/(∃x t,k=Sum.inr x/\v=Value.str x t)
 | .inl i,v,h=>by obtain⟨t,e⟩:=Value.isInt_shape (k:=i) (v:=v) h;exact .inl %[i,t,O|e]
 | .inr x,v,h=>by obtain⟨t,e⟩:=Value.isStrOf_shape (x:=x) (v:=v) h;exact .inr %[x,t,O|e]
theorem yM(a b:Int):decide ((Sum.inl a:Key)=Sum.inl b)=(a == b):=by
 by_cases e:a=b
 ·subst e;simp
 ·have h:¬ (Sum.inl a:Key)=Sum.inl b:=λ q=>e (Sum.inl.inj q);rw[OS h];exact(Ox.mpr e).symm
theorem yN(a b:Str):decide ((Sum.inr a:Key)=Sum.inr b)=decide (a=b):=by
 by_cases e:a=b
 ·subst e;simp
 ·have h:¬ (Sum.inr a:Key)=Sum.inr b:=λ q=>e (Sum.inr.inj q);rw[OS h,OS e]
theorem yO(a:Int)(b:Str):decide ((Sum.inl a:Key)=Sum.inr b)=false:=B0 (λ q=>nomatch q)
theorem yP(a:Str)(b:Int):decide ((Sum.inr a:Key)=Sum.inl b)=false:=B0 (λ q=>nomatch q)
def hZ(prog:F6)(w:F8):PySem.KeyKind prog w Key where
 is:=yp
 hash:=KW w
 inj:=λ v a b ha hb=>by
  rcases bI ha with⟨i,t,rfl,rfl⟩ | ⟨x,t,rfl,rfl⟩
  ·rcases bI hb with⟨j,u,rfl,e⟩ | ⟨y,u,rfl,e⟩
   ·injection e with e1 _;rw[e1]
   ·exact nomatch e
  ·rcases bI hb with⟨j,u,rfl,e⟩ | ⟨y,u,rfl,e⟩
   ·exact nomatch e
   ·injection e with e1 _;rw[e1]
 byValue:=λ k v h=>by rcases bI h with⟨i,t,rfl,rfl⟩ | ⟨x,t,rfl,rfl⟩ <;> rfl
 pyHash:=λ hv h=>by
  rcases bI hv with⟨i,t,rfl,rfl⟩ | ⟨x,t,rfl,rfl⟩
  ·exact wpAny_pyHash_int h
  ·exact wpAny_pyHash_str h
 eqBool:=λ hu hv h=>by
  rcases bI hu with⟨i,t,rfl,rfl⟩ | ⟨x,t,rfl,rfl⟩
  ·rcases bI hv with⟨j,u,rfl,rfl⟩ | ⟨y,u,rfl,rfl⟩
   ·rw[yM]at h;exact wpAny_eqBool_int h
   ·rw[yO]at h;exact SeqAt.EqAt.int_str i t y u _ _ _ _ h
  ·rcases bI hv with⟨j,u,rfl,rfl⟩ | ⟨y,u,rfl,rfl⟩
   ·rw[yP]at h;exact SeqAt.EqAt.str_int x t j u _ _ _ _ h
   ·rw[yN]at h;exact wpAny_eqBool_str h
 «strs» := λ k x t v h=>by
  rcases bI h with⟨i,u,rfl,e⟩ | ⟨y,u,rfl,e⟩
  ·exact nomatch e
  ·injection e with e1 _
   subst e1;cases v <;> rfl
inductive V where
 | non | bl (b:Bool) | int (i:Int) | str (x:Str) | byt (b:OH UInt8) | flt (b:UInt64) | ref (a:OE) | ty (n:String)
 deriving DecidableEq
def RelV:V->F9->Prop
 | .non,u=>u=Value.none
 | .bl b,u=>u=Value.bool b
 | .int i,u=>∃t,u=Value.int i t
 | .str x,u=>∃t,u=Value.str x t
 | .byt b,u=>∃t,u=Value.bytes b t
 | .flt b,u=>∃t,u=Value.float b t
 | .ref a,u=>u=Value.ref a
 | .ty n,u=>u=Value.type n
abbrev Vals:OI V->OI F9->Prop:=Paired RelV
theorem Vals.length{xs:OI V}{us:OI F9}(r:Vals xs us):xs.length=us.length:=E1 r
theorem Vals.get:∀{xs:OI V}{us:OI F9}{i:Nat}{x:V},Vals xs us->xs[i]?=some x->∃u,us[i]?=some u/\RelV x u
 | _,_,_,_,.nil,e=>by simp at e
 | _,_,0,_,.cons r _,e=>by simp at e;subst e;exact%[_,O|r]
 | _,_,i+1,x,.cons _ t,e=>by obtain⟨u,h1,h2⟩:=Vals.get (i:=i) (x:=x) t (by simpa using e);exact%[u,by simpa using h1|h2]
theorem Vals.set{x:V}{u:F9}(r:RelV x u):∀{xs:OI V}{us:OI F9}(i:Nat),Vals xs us->Vals (xs.set i x) (us.set i u)
 | _,_,_,.nil=>.nil
 | _,_,0,.cons _ t=>.cons r t
 | _,_,i+1,.cons q t=>.cons q (Vals.set r i t)
theorem Vals.append:∀{xs ys:OI V}{us ws:OI F9},Vals xs us->Vals ys ws->Vals (xs ++ ys) (us ++ ws)
 | _,_,_,_,.nil,s=>s
 | _,_,_,_,.cons r t,s=>.cons r (Vals.append t s)
theorem Vals.take:∀{xs:OI V}{us:OI F9}(n:Nat),Vals xs us->Vals (xs.take n) (us.take n)
 | _,_,0,_=>.nil
 | _,_,_+1,.nil=>.nil
 | _,_,n+1,.cons r t=>.cons r (Vals.take n t)
theorem Vals.drop:∀{xs:OI V}{us:OI F9}(n:Nat),Vals xs us->Vals (xs.drop n) (us.drop n)
 | _,_,0,r=>r
 | _,_,_+1,.nil=>.nil
 | _,_,n+1,.cons _ t=>Vals.drop n t
def RelO:OG V->OG F9->Prop
 | some v,some u=>RelV v u
 | none,none=>True
 | _,_=>False
def KV{κ:Type}:OI (κ×V)->OI (κ×F9)->Prop:=Paired λ (p:κ×V)(q:κ×F9)=>p.1=q.1/\RelV p.2 q.2
def kV:Key->V
 | .inl i=>.int i
 | .inr x=>.str x
inductive HO where
 | lst (xs:OI V)
 | tup (xs:OI V)
 | dK (kvs:OI (Key×V)) | dT (kvs:OI (OI Key×V))
 | set (S:Int->Bool) (n:Nat)
 | ins (C dx:OE) (fs:OI (Str×V))
 | own (x:OE)
 | xd (fs:OI (Str×V))
 | met (f x:OE)
 | rng (lo hi:Int)
 | frz (o:Obj) (u:HO)
 | tbl (ps:OH F9)
 | ext (φ:Heap->Prop)
abbrev Hp:=OE->OG HO
def upd(H:Hp)(a:OE)(o:HO):Hp:=λ b=>if b=a then some o else H b
theorem aj{H:Hp}{a:OE}{o:HO}:upd H a o a=some o:=by unfold upd;rw[OR rfl]
theorem au{H:Hp}{a b:OE}{o:HO}(h:b≠a):upd H a o b=H b:=by unfold upd;rw[OQ h]
theorem av{H:Hp}{a b:OE}{o:HO}(h:H a=some o)(h':H b=none):a≠b:=by intro e;subst e;rw[h]at h';cases h'
section
variable(P:F6)(w:F8)
def ObjOk(H:Hp)(h:Heap)(a:OE):HO->Prop
 | .lst xs=>xs.length<=sizeLine/\∃(its:OI F9)(n:Nat),Vals xs its/\h.get? a=some { cls:=.type "list",data:=.seq its.toArray n }
 | .tup xs=>xs.length<=sizeLine/\∃its:OI F9,Vals xs its/\IsTup h a its.toArray
 | .dK kvs=>kvs.length<=sizeLine/\(a == sysModules)=false/\∃vs,KV kvs vs/\h.DictOf (hZ P w) a vs
 | .dT kvs=>kvs.length<=sizeLine/\(a == sysModules)=false/\∃xs:OI (OI Key×OE×F9),
   Paired (λ (p:OI Key×V)(q:OI Key×OE×F9)=>p.1=q.1/\H q.2.1= ~~~(p.1.map kV)/\RelV p.2 q.2.2) kvs xs /\
   ∃o es ep,h.get? a=some o/\o.ExactDict/\o.data=.dict es ep/\es.toList=xs.map (entryOfKey (tupleKind (hZ P w)))/\(xs.map (·.1)).Nodup
 | .set S n=>h.SetOf (intKind P w) a S n
 | .ins C dx fs=>H dx=some (.own a)/\fs.length<=1000/\dx≠a/\h.get? a=some (PySem.W.instObj C dx) /\
   ∃mA,h.Ns1 dx mA/\(∀f,RelO (fs.lookup f) (mA f))/\PySem.Within mA (fs.map (·.1))
 | .own _=>∃o,h.get? a=some o
 | .xd fs=>∃mA,h.Ns1 a mA/\∀f,RelO (fs.lookup f) (mA f)
 | .rng lo hi=>∃t u v,h.get? a=some { cls:=.type "range",data:=.fields #[.int lo t,.int hi u,.int 1 v] }
 | .frz o u=>h.get? a=some o/\ObjOk H h a u
 | .tbl ps=>h.get? a=some { cls:=.none,data:=.fields ps }
 | .met f x=>h.get? a=some (PySem.W.methodObj (.ref f) (.ref x))
 | .ext φ=>φ h/\(∃o,h.get? a=some o)/\∀h1 h2:Heap,φ h1->(∀o,h1.get? a=some o->h2.get? a=some o)->φ h2
def HOk(H:Hp)(h:Heap):Prop:=∀a o,H a=some o->ObjOk P w H h a o
end
section
variable{P:F6}{w:F8}{H H':Hp}{h h':Heap}{a:OE}{o:HO}
theorem ObjOk.lt(x:ObjOk P w H h a o):a < h.objs.size:=by
 cases o with
 | lst xs=>obtain⟨_,_,_,_,e⟩:=x;exact A8 e
 | tup xs=>obtain⟨_,_,_,p⟩:=x;exact p.lt
 | dK kvs=>obtain⟨_,_,_,_,o,_,_,e,_⟩:=x;exact A8 e
 | dT kvs=>obtain⟨_,_,_,_,o,_,_,e,_⟩:=x;exact A8 e
 | set S n=>obtain⟨o,_,_,_,e,_⟩:=x;exact A8 e
 | ins C dx fs=>obtain⟨_,_,_,e,_⟩:=x;exact A8 e
 | own y=>obtain⟨_,e⟩:=x;exact A8 e
 | xd fs=>obtain⟨_,⟨_,_,_,e,_⟩,_⟩:=x;exact A8 e
 | rng lo hi=>obtain⟨_,_,_,e⟩:=x;exact A8 e
 | frz ob u=>obtain⟨e,_⟩:=x;exact A8 e
 | tbl ps=>exact A8 (show h.get? a=some _ from x)
 | met f y=>exact A8 (show h.get? a=some _ from x)
 | ext φ=>obtain⟨_,⟨_,e⟩,_⟩:=x;exact A8 e
theorem Paired.mapP{α β:Type}{F G:α->β->Prop}:∀{l₁:OI α}{l₂:OI β},Paired F l₁ l₂->(∀a b,F a b->G a b)->Paired G l₁ l₂
 | _,_,.nil,_=>.nil
 | _,_,.cons r t,f=>.cons (f _ _ r) (Paired.mapP t f)
abbrev G3:=@Paired.mapP
theorem ObjOk.stay(x:ObjOk P w H h a o)(k:∀b u,(b=a\/H b=some (.own a))->h.get? b=some u->h'.get? b=some u)
  (ho:∀b,H b=some (.own a)->H' b=some (.own a)) (ht:∀b xs,H b= ~~~xs->H' b= ~~~xs):ObjOk P w H' h' a o:=by
 induction o with
 | lst xs=>obtain⟨z,its,n,r,e⟩:=x;exact%[z,its,n,r|k _ _ (.inl rfl) e]
 | tup xs=>obtain⟨z,its,r,ob,e,c⟩:=x;exact%[z,its,r,ob,k _ _ (.inl rfl) e|c]
 | dK kvs=>obtain⟨z,y,vs,r,ob,es,ep,e,c⟩:=x;exact%[z,y,vs,r,ob,es,ep,k _ _ (.inl rfl) e|c]
 | dT kvs=>
  obtain⟨z,y,xs,r,ob,es,ep,e,c⟩:=x;exact%[z,y,xs,G3 r λ p q z=>%[z.1,ht _ _ z.2.1|z.2.2],ob,es,ep,k _ _ (.inl rfl) e|c]
 | set S n=>obtain⟨ob,es,ep,t,e,c⟩:=x;exact%[ob,es,ep,t,k _ _ (.inl rfl) e|c]
 | ins C dx fs=>
  obtain⟨d,z,ne,e,mA,⟨od,es,ep,e2,c⟩,r⟩:=x;exact%[ho _ d,z,ne,k _ _ (.inl rfl) e,mA,%[od,es,ep,k _ _ (.inr d) e2|c]|r]
 | own y=>obtain⟨ob,e⟩:=x;exact%[ob|k _ _ (.inl rfl) e]
 | xd fs=>obtain⟨mA,⟨od,es,ep,e,c⟩,r⟩:=x;exact%[mA,%[od,es,ep,k _ _ (.inl rfl) e|c]|r]
 | rng lo hi=>obtain⟨t,u,v,e⟩:=x;exact%[t,u,v|k _ _ (.inl rfl) e]
 | frz ob u ih=>obtain⟨e,q⟩:=x;exact%[k _ _ (.inl rfl) e|ih q]
 | tbl ps=>
  have e:h.get? a=some { cls:=.none,data:=.fields ps }:=x;show h'.get? a=some { cls:=.none,data:=.fields ps };exact k a _ (.inl rfl) e
 | met f y=>
  have e:h.get? a=some (PySem.W.methodObj (.ref f) (.ref y)):=x;show h'.get? a=some (PySem.W.methodObj (.ref f) (.ref y));exact k a _ (.inl rfl) e
 | ext φ=>obtain⟨p,⟨o,e⟩,st⟩:=x;exact%[st _ _ p λ o q=>k _ _ (.inl rfl) q,%[o|k _ _ (.inl rfl) e]|st]
theorem HOk.lt(x:HOk P w H h)(e:H a=some o):a < h.objs.size:=(x a o e).lt
theorem HOk.fresh(x:HOk P w H h)(e:h.objs.size<=a):H a=none:=by
 cases q:H a with
 | none=>rfl
 | some u=>exact absurd (C1 (x.lt q) e) (C8 _)
theorem HOk.kept(x:HOk P w H h)(k:∀b u,h.get? b=some u->h'.get? b=some u):HOk P w H h':=λ a o e=>
 (x a o e).stay (λ b u _ q=>k b u q) (λ _ q=>q) λ _ _ q=>q
theorem HOk.laid(x:HOk P w H h)(k:∀b u,h.get? b=some u->h'.get? b=some u)(hp:h.objs.size<=a)(new:ObjOk P w (upd H a o) h' a o):HOk P w (upd H a o) h':=λ b u e=>by
 have hn:=x.fresh hp
 by_cases hb:b=a
 ·subst hb;rw[aj]at e;cases e;exact new
 ·rw[au hb]at e;exact(x b u e).stay (λ c v _ q=>k c v q) (λ c q=>by rw[au (av q hn)];exact q) λ c xs q=>by rw[au (av q hn)];exact q
end
def Rd(H:Hp)(a:OE)(u:HO):Prop:=H a=some u\/∃o,H a=some (.frz o u)
theorem Rd.ok{P:F6}{w:F8}{H:Hp}{h:Heap}{a:OE}{u:HO}(r:Rd H a u)(x:HOk P w H h):ObjOk P w H h a u:=by
 rcases r with r | ⟨o,r⟩
 ·exact x a u r
 ·obtain⟨_,q⟩:=x a _ r;exact q
def Mut:OG HO->Prop
 | ↥_=>True
 | some (.dK _)=>True
 | some (.dT _)=>True
 | some (.set _ _)=>True
 | some (.ins _ _ _)=>True
 | some (.ext _)=>True
 | _=>False
section
variable{P:F6}{w:F8}{H:Hp}{h h':Heap}{x e:OE}{o':HO}
theorem HOk.write(ok:HOk P w H h)(mu:Mut (H x))(he:e=x\/H e=some (.own x))(k:∀b u,b≠e->h.get? b=some u->h'.get? b=some u)(heo:∃u,h'.get? e=some u)
  (new:ObjOk P w (upd H x o') h' x o'):HOk P w (upd H x o') h':=λ b u q=>by
 have nown:∀c y,H c=some (.own y)->c≠x:=λ c y r z=>by subst z;rw[r]at mu;exact mu
 have ntup:∀c xs,H c= ~~~xs->c≠x:=λ c xs r z=>by subst z;rw[r]at mu;exact mu
 by_cases hb:b=x
 ·subst hb;rw[aj]at q;cases q;exact new
 ·rw[au hb]at q
  by_cases hbe:b=e
  ·have q':H b=some (.own x):=by
    rcases he with z | z
    ·exact absurd (hbe.trans z) hb
    ·rw[hbe];exact z
   rw[q]at q';cases q';obtain⟨v,hv⟩:=heo;exact%[v|by rw[hbe];exact hv]
  ·refine(ok b u q).stay (λ c v hc r=>k c v ?_ r) (λ c r=>by rw[au (nown c b r)];exact r) λ c xs r=>by rw[au (ntup c xs r)];exact r
   rcases hc with rfl | hc
   ·exact hbe
   ·rintro rfl;rcases he with z | z
    ·exact nown c b hc z
    ·rw[hc]at z;cases z;exact hb rfl
end
structure Un(fs ex:OI OE)(H H':Hp)(h h':Heap):Prop where
 keep:∀b o,h.get? b=some o->H b=none->b∉fs->b∉ex->h'.get? b=some o
 slot:∀b o,h.get? b=some o->H b=none->b∈fs->b∉ex->∃sl,h'.get? b=some { o with slots:=sl }
 free:∀b o,h.get? b=some o->H b=none->b∉ex->H' b=none
 there:∀b o,h.get? b=some o->b∉ex->∃o',h'.get? b=some o'
 tups:∀b xs,H b= ~~~xs->H' b= ~~~xs
 frzs:∀b o u,H b=some (.frz o u)->H' b=some (.frz o u)
 tbls:∀b ps,H b=some (.tbl ps)->∃more,H' b=some (.tbl (ps ++ more))
section
variable{fs fs' ex ex':OI OE}{H H1 H2:Hp}{h h1 h2 h':Heap}{a x e:OE}{o:HO}
theorem Un.any(u:Un fs ex H H1 h h1){b:OE}{ob:Obj}(q:h.get? b=some ob)(n:H b=none)(hx:b∉ex):∃sl,h1.get? b=some { ob with slots:=sl }:=by
 by_cases hb:b∈fs
 ·exact u.slot b ob q n hb hx
 ·exact%[ob.slots|u.keep b ob q n hb hx]
theorem Un.kept(k:∀b u,h.get? b=some u->h'.get? b=some u):Un fs ex H H h h' :=
 %[λ b ob q _ _ _=>k b ob q,λ b ob q _ _ _=>%[ob.slots|k b ob q],λ _ _ _ n _=>n,λ b ob q _=>%[ob|k b ob q],λ _ _ q=>q,λ _ _ _ q=>q|λ _ ps q=>%[#[]|by rw[q];simp]]
theorem Un.refl:Un fs ex H H h h:=Un.kept λ _ _ q=>q
theorem Un.laid(k:∀b u,h.get? b=some u->h'.get? b=some u)(hp:h.objs.size<=a)(hn:H a=none):Un fs ex H (upd H a o) h h' where
 keep:=λ b u q _ _ _=>k b u q
 slot:=λ b u q _ _ _=>%[u.slots|k b u q]
 free:=λ b u q n _=>by rw[au (B9 (C1 (Heap.lt_size q) hp))];exact n
 there:=λ b u q _=>%[u|k b u q]
 tups:=λ b xs q=>by rw[au (av q hn)];exact q
 frzs:=λ b u xs q=>by rw[au (av q hn)];exact q
 tbls:=λ b ps q=>%[#[]|by rw[au (av q hn),q];simp]
theorem Un.write(mu:Mut (H x))(he:e=x\/H e=some (.own x))(k:∀b u,b≠e->h.get? b=some u->h'.get? b=some u)(heo:∃u,h'.get? e=some u):Un fs ex H (upd H x o) h h':=by
 have hx:∀b,H b=none->b≠x:=λ b n z=>by subst z;rw[n]at mu;exact mu
 have hb:∀b,H b=none->b≠e:=λ b n z=>by
  subst z;rcases he with r | r
  ·exact hx b n r
  ·rw[n]at r;cases r
 have hm:∀b u,H b=some u->¬ Mut (some u)->b≠x:=λ b u q nm z=>by subst z;rw[q]at mu;exact nm mu
 refine⟨λ b u q n _ _=>k b u (hb b n) q,λ b u q n _ _=>%[u.slots|k b u (hb b n) q],λ b u q n _=>by rw[au (hx b n)];exact n,λ b u q _=>?_,
  λ b xs q=>by rw[au (hm b _ q λ z=>z)];exact q,λ b u xs q=>by rw[au (hm b _ q λ z=>z)];exact q,λ b ps q=>%[#[]|by rw[au (hm b _ q λ z=>z),q];simp]⟩
 by_cases hbe:b=e
 ·subst hbe;exact heo
 ·exact%[u|k b u hbe q]
end
def trk(h:Heap)(H:Hp):OI OE:=(List.range h.objs.size).filter λ a=>(H a).isSome
def jW(h:Heap)(H:Hp):Heap:=PySem.W.hideAll h (trk h H)
theorem qo(h:Heap)(H:Hp):(jW h H).objs.size=h.objs.size:=PySem.W.hideAll_size _ _
theorem sH{h:Heap}{H:Hp}{b:OE}{o:Obj}(e:h.get? b=some o)(n:H b=none):(jW h H).get? b=some o :=
 PySem.W.hideAll_get _ e λ hm=>by have q:(H b).isSome=true:=(List.mem_filter.mp hm).2;rw[n]at q;simp at q
theorem vO{h:Heap}{H:Hp}{b:OE}{o:Obj}(e:(jW h H).get? b=some o):h.get? b=some o/\H b=none:=by
 have e':h.get? b=some o:=PySem.W.of_hideAll (trk h H) e;refine%[e'|?_];cases q:H b with
 | none=>rfl
 | some x=>
  have hm:b∈trk h H:=List.mem_filter.mpr %[List.mem_range.mpr (A8 e')|by simp[q]];have z:(jW h H).get? b=none:=PySem.W.hideAll_none (trk h H) hm;rw[z]at e;cases e
def vP(g h:Heap)(L:OE):OI (OE×Obj):=(List.range h.objs.size).filterMap λ a=>if a=L\/(g.get? a).isSome=true then none else(h.get? a).map λ o=>(a,o)
def rest(g h:Heap)(L d:OE):OI (OE×Obj):=(vP g h L).filter λ p=>decide (p.1≠d)
structure Mod(K:C4)(mg:Str->OG Value)(base:Heap):Prop where
 kin:K.In base
 glob:base.Ns OJ mg
 blt:∃mb,base.Ns builtinsNs mb/\∀x:Str,x ≠ "__name__" -> mb x=bootBuiltins x
 nolimit:base.NoLimit
/-- the context: a def's body (or a comprehension's block) running. base: fixed through the aR law;s₀,H₀: the entry;outer: the frames whose slots others may change (a def's callers);stack: all frames that run;
   ex: iterators that were made ahead of the entry and are walked here (a comprehension's);fn: the names whose cells were made at the entry (a def: all;a comprehension's block: its own);calm: not within an except suite;pn: OK that every state bears;xe: what is wanted of an exception that leaves the code -/
structure Cx where
 prog:Program
 w:World
 K:C4
 mg:Str->OG Value
 base:Heap
 A:Around
 N:OI Str
 s₀:Shared
 H₀:Hp
 env:Env
 outer:OI Env
 stack:OI Env
 ex:OI OE
 fn:Str->Bool
 calm:Bool
 pn:OI (OE×Obj)
 xe:F9->F5->Prop
def frs(l:OI Env):OI OE:=l.filterMap (·.frame)
abbrev Cx.fs(X:Cx):OI OE:=frs X.outer
def Vis(sc:Scope)(x:Str):Prop:=sc.names.lookup x=some .local\/sc.names.lookup x=some .cell\/sc.names.lookup x=some .free
def Loc(sc:Scope)(x:Str):Prop:=sc.names.lookup x=some .local\/sc.names.lookup x=some .cell
def KY(env:Env)(h:Heap)(m:Str->OG F9)(x:Str)(u:F9):Prop :=
 (env.kindOf x=some .local/\m x=some u)\/((env.kindOf x=some .cell\/env.kindOf x=some .free)/\∃c,env.cells.lookup x=some c/\h.IsCell c (some u))
structure Cx.Ok(X:Cx):Prop where
 mod:Mod X.K X.mg X.base
 kind:X.env.scope.kind=.function
 glob:X.env.globals=OJ
 blt:X.env.builtins=builtinsNs
 above:X.s₀.heap.objs.size<=X.env.locals
 inj:∀x y c,X.env.cells.lookup x=some c->X.env.cells.lookup y=some c->x=y
 has:∀x,(X.env.kindOf x=some .cell\/X.env.kindOf x=some .free)->∃c,X.env.cells.lookup x=some c
 cab:∀x c,X.fn x=true->X.env.cells.lookup x=some c->X.s₀.heap.objs.size<=c
 hd:X.calm=true->X.A.handled=none
 frames:X.A.frames=some X.stack
 stk:X.stack=X.outer\/(X.stack=X.env :: X.outer/\X.env.frame=some X.env.locals)
 exf:∀b∈X.ex,b≠X.env.locals/\∀x c,X.env.cells.lookup x=some c->c≠b
 bs:∀b o,X.base.get? b=some o->X.s₀.heap.get? b=some o/\X.H₀ b=none
 bsz:X.base.objs.size<=X.s₀.heap.objs.size
 noex:∀b o,X.base.get? b=some o->b∉X.ex
 exfs:∀b∈X.ex,b∉X.fs
 funs:X.s₀.heap.FunFrames X.base X.outer
 frf:∀b∈X.fs,X.H₀ b=none
structure Inv(X:Cx)(OK:OI (OE×Obj))(σ:OI (OG V))(H:Hp)(s:Shared):Prop where
 ok:X.Ok
 os:s.os=X.s₀.os
 bare:AllBare s.gens
 base:Un X.fs X.ex X.H₀ H X.s₀.heap s.heap
 loc:∃m,s.heap.Ns X.env.locals m/\∀(i:Nat)(x:Str)(v:V),X.N[i]?=some x->σ[i]?=some (some v)->Vis X.env.scope x->∃u,RelV v u/\KY X.env s.heap m x u
 cell:∀x c,X.env.cells.lookup x=some c->∃v,s.heap.IsCell c v
 free:H X.env.locals=none
 freeC:∀x c,X.env.cells.lookup x=some c->H c=none
 pin:∀p∈X.pn ++ OK,s.heap.get? p.1=some p.2/\H p.1=none/\p.1≠X.env.locals/\p.1∉X.fs/\∀v,p.2.data≠.cell v
 hok:HOk X.prog X.w H s.heap
 len:σ.length=X.N.length
section
variable{X:Cx}{OK:OI (OE×Obj)}{σ:OI (OG V)}{H H':Hp}{s:F5}{h':Heap}
theorem Cx.Ok.nofr(ok:X.Ok){b:OE}{o:Obj}(e:X.base.get? b=some o):b∉X.fs:=λ hb=>by have:=(ok.funs.mem hb).1;rw[e]at this;cases this
theorem Inv.bs(I:Inv X OK σ H s):∀b o,X.base.get? b=some o->s.heap.get? b=some o/\H b=none:=λ b o e=>
 %[I.base.keep b o (I.ok.bs b o e).1 (I.ok.bs b o e).2 (I.ok.nofr e) (I.ok.noex b o e)|I.base.free b o (I.ok.bs b o e).1 (I.ok.bs b o e).2 (I.ok.noex b o e)]
theorem Inv.bk(I:Inv X OK σ H s):∀b o,X.base.get? b=some o->s.heap.get? b=some o:=λ b o e=>(I.bs b o e).1
theorem Inv.mod(I:Inv X OK σ H s):Mod X.K X.mg X.base:=I.ok.mod
theorem Inv.kIn(I:Inv X OK σ H s):X.K.In s.heap:=I.ok.mod.kin.keeps I.bk
theorem Inv.fr(I:Inv X OK σ H s):∃m,Fr X.base X.env.locals s.heap m :=
 let ⟨m,hn,_⟩:=I.loc
 %[m,hn,I.bk|C5 I.ok.bsz I.ok.above]
theorem Inv.lt(I:Inv X OK σ H s):X.env.locals < s.heap.objs.size:=let ⟨_,hn,_⟩:=I.loc;hn.lt
theorem Inv.sz(I:Inv X OK σ H s):X.s₀.heap.objs.size<=s.heap.objs.size:=C5 I.ok.above (Nat.le_of_lt I.lt)
theorem Inv.nofs(I:Inv X OK σ H s){a:OE}(h:s.heap.objs.size<=a):a∉X.fs:=λ hb=>by obtain⟨_,o,ho,_⟩:=I.ok.funs.mem hb;exact absurd (C1 (A8 ho) (C5 I.sz h)) (C8 _)
theorem Inv.cne(I:Inv X OK σ H s):∀x c,X.env.cells.lookup x=some c->c≠X.env.locals:=λ x c e z=>by obtain⟨v,o,ho,hd⟩:=I.cell x c e;obtain⟨m,⟨o',es,ep,ho',hd',_⟩,_⟩:=I.loc;rw[z,ho']at ho;cases ho;rw[hd']at hd;cases hd
theorem Inv.funs(I:Inv X OK σ H s):s.heap.FunFrames X.base X.outer:=by
 have all:∀(l:OI Env),(∀b∈frs l,b∈X.fs)->X.s₀.heap.FunFrames X.base l->s.heap.FunFrames X.base l:=by
  intro l
  induction l with
  | nil=>intro _ _;trivial
  | cons env r ih=>
   intro hs hl;obtain⟨hk,⟨L,o,hf,hn,ho,hd⟩,hr⟩:=hl;have hL:L∈X.fs:=hs L (by unfold frs;rw[K5,hf];exact B7);obtain⟨sl,e⟩:=I.base.slot L o ho (I.ok.frf L hL) hL λ z=>I.ok.exfs L z hL;exact%[hk,%[L,_,hf,hn,e|hd]|ih (λ b hb=>hs b (by unfold frs;rw[K5,hf];exact B3 _ hb)) hr]
 exact all X.outer (λ _ hb=>hb) I.ok.funs
theorem Inv.stack(I:Inv X OK σ H s):s.heap.FunFrames X.base X.stack:=by
 rcases I.ok.stk with e | ⟨e,hf⟩
 ·rw[e];exact I.funs
 ·rw[e];obtain⟨m,hn,_⟩:=I.loc;refine .cons (by rw[I.ok.kind];decide) hf hn ?_ I.funs;exact Heap.get?_none_of_le (C5 I.ok.bsz I.ok.above)
theorem Inv.stkSub(I:Inv X OK σ H s):∀b∈frs X.stack,b∈X.env.locals :: X.fs:=λ b hb=>by
 rcases I.ok.stk with e | ⟨e,hf⟩
 ·rw[e]at hb;exact B3 _ hb
 ·rw[e]at hb;unfold frs at hb;rw[K5,hf]at hb;exact hb
theorem Inv.stkFree(I:Inv X OK σ H s):∀b∈frs X.stack,H b=none:=λ b hb=>by
 rcases G6.mp (I.stkSub b hb)with e | hb
 ·rw[e];exact I.free
 ·obtain⟨_,o,ho,_⟩:=I.ok.funs.mem hb;exact I.base.free b o ho (I.ok.frf b hb) λ z=>I.ok.exfs b z hb
theorem Inv.step{g':OH GenState}{t':Nat}{d':Drawn}{ch:OI OE}(I:Inv X OK σ H s)
  (hch:∀b∈ch,(b∈X.ex\/X.s₀.heap.objs.size<=b)/\b≠X.env.locals/\(∀x c,X.env.cells.lookup x=some c->c≠b)/\∀p∈X.pn ++ OK,p.1≠b)
  (keep:∀b o,b≠X.env.locals->b∉X.fs->b∉ch->s.heap.get? b=some o->H b=none->h'.get? b=some o)
  (slot:∀b o,b≠X.env.locals->b∈X.fs->b∉ch->s.heap.get? b=some o->H b=none->∃sl,h'.get? b=some { o with slots:=sl }) (free:∀b o,b∉ch->s.heap.get? b=some o->H b=none->H' b=none)
  (there:∀b o,b∉ch->s.heap.get? b=some o->∃o',h'.get? b=some o')
  (tups:∀b xs,H b= ~~~xs->H' b= ~~~xs) (frzs:∀b o u,H b=some (.frz o u)->H' b=some (.frz o u)) (tbls:∀b ps,H b=some (.tbl ps)->∃more,H' b=some (.tbl (ps ++ more)))
  (ns:∀m,s.heap.Ns X.env.locals m->h'.Ns X.env.locals m) (hok:HOk X.prog X.w H' h') (hg:AllBare g') :
  Inv X OK σ H' { s with heap:=h',gens:=g',drawn:=d',toks:=t' }:=by
 have neL:∀b o,X.s₀.heap.get? b=some o->b≠X.env.locals:=λ b o e=>B9 (C1 (A8 e) I.ok.above);have neC:∀b o,X.s₀.heap.get? b=some o->b∉X.ex->b∉ch:=λ b o e hx hb=>by
  rcases(hch b hb).1 with z | z
  ·exact hx z
  ·exact absurd (C1 (A8 e) z) (C8 _)
 have cellK:∀x c,X.env.cells.lookup x=some c->∀v,s.heap.IsCell c v->h'.IsCell c v:=λ x c e v ⟨o,ho,hd⟩=>by
  have nch:c∉ch:=λ z=>(hch c z).2.2.1 x c e rfl
  by_cases hc:c∈X.fs
  ·obtain⟨sl,q⟩:=slot c o (I.cne x c e) hc nch ho (I.freeC x c e);exact%[_,q|hd]
  ·exact%[o,keep c o (I.cne x c e) hc nch ho (I.freeC x c e)|hd]
 refine%[I.ok,I.os,hg,%[λ b o e n hb hx=>?_,λ b o e n hb hx=>?_,λ b o e n hx=>?_,λ b o e hx=>?_,λ b xs e=>tups b xs (I.base.tups b xs e),λ b o xs e=>frzs b o xs (I.base.frzs b o xs e)|λ b ps e=>?_],?_,λ x c e=>?_,?_,λ x c e=>?_,λ p hp=>?_,hok|I.len]
 ·exact keep b o (neL b o e) hb (neC b o e hx) (I.base.keep b o e n hb hx) (I.base.free b o e n hx)
 ·obtain⟨sl,e1⟩:=I.base.slot b o e n hb hx;obtain⟨sl',e2⟩:=slot b _ (neL b o e) hb (neC b o e hx) e1 (I.base.free b o e n hx);exact%[sl'|e2]
 ·obtain⟨o',e1⟩:=I.base.there b o e hx;exact free b o' (neC b o e hx) e1 (I.base.free b o e n hx)
 ·obtain⟨o',e1⟩:=I.base.there b o e hx;exact there b o' (neC b o e hx) e1
 ·obtain⟨m1,e1⟩:=I.base.tbls b ps e;obtain⟨m2,e2⟩:=tbls b _ e1;exact%[m1 ++ m2|by rw[e2,Array.append_assoc]]
 ·obtain⟨m,hn,hl⟩:=I.loc;refine%[m,ns m hn|λ i x v e1 e2 e3=>?_];obtain⟨u,r,l⟩:=hl i x v e1 e2 e3;refine%[u,r|?_];rcases l with l | ⟨k,c,e,z⟩
  ·exact .inl l
  ·exact .inr %[k,c,e|cellK x c e _ z]
 ·obtain⟨v,z⟩:=I.cell x c e;exact%[v|cellK x c e v z]
 ·obtain⟨m,⟨o,_,_,ho,_⟩,_⟩:=I.loc;exact free _ o (λ z=>(hch _ z).2.1 rfl) ho I.free
 ·obtain⟨v,o,ho,hd⟩:=I.cell x c e;exact free c o (λ z=>(hch c z).2.2.1 x c e rfl) ho (I.freeC x c e)
 ·obtain⟨e,n,ne,nf,d⟩:=I.pin p hp;have nch:p.1∉ch:=λ z=>(hch p.1 z).2.2.2 p hp rfl;exact%[keep p.1 p.2 ne nf nch e n,free p.1 p.2 nch e n,ne,nf|d]
theorem Inv.un{t':Nat}(I:Inv X OK σ H s)(u:Un X.fs [] H H' s.heap h')(hok:HOk X.prog X.w H' h'):Inv X OK σ H' { s with heap:=h',toks:=t' }:=by
 obtain⟨m,⟨o,es,ep,ho,r⟩,_⟩:=id I.loc;obtain⟨sl,hL⟩:=u.any ho I.free (by simp);exact I.step (g':=s.gens) (d':=s.drawn) (ch:=[]) (λ _ z=>nomatch z) (λ b o _ hb _ e n=>u.keep b o e n hb (by simp)) (λ b o _ hb _ e n=>u.slot b o e n hb (by simp)) (λ b o _ e n=>u.free b o e n (by simp)) (λ b o _ e=>u.there b o e (by simp)) u.tups u.frzs u.tbls (λ m' hm=>by
  obtain⟨o',es',ep',ho',r'⟩:=hm;rw[ho]at ho';cases ho';exact%[_,es',ep',hL|r']) hok I.bare
theorem Inv.call{g':OH GenState}{t':Nat}{d':Drawn}{ch:OI OE}(I:Inv X OK σ H s)(u:Un (frs X.stack) ch H H' s.heap h')(hok:HOk X.prog X.w H' h')(hg:AllBare g')
  (hch:∀b∈ch,(b∈X.ex\/X.s₀.heap.objs.size<=b)/\b≠X.env.locals/\(∀x c,X.env.cells.lookup x=some c->c≠b)/\∀p∈X.pn ++ OK,p.1≠b) :
  Inv X OK σ H' { s with heap:=h',gens:=g',drawn:=d',toks:=t' }:=by
 obtain⟨m,⟨o,es,ep,ho,r⟩,_⟩:=id I.loc;obtain⟨sl,hL⟩:=u.any ho I.free λ z=>(hch _ z).2.1 rfl;exact I.step (ch:=ch) hch (λ b o hL hb hc e n=>u.keep b o e n (λ z=>(G6.mp (I.stkSub b z)).elim hL hb) hc) (λ b o _ _ hc e n=>u.any e n hc) (λ b o hc e n=>u.free b o e n hc) (λ b o hc e=>u.there b o e hc) u.tups u.frzs u.tbls (λ m' hm=>by
  obtain⟨o',es',ep',ho',r'⟩:=hm;rw[ho]at ho';cases ho';exact%[_,es',ep',hL|r']) hok hg
theorem Inv.turned{t':Nat}{it:OE}(I:Inv X OK σ H s)(k:∀b o,b≠it->s.heap.get? b=some o->h'.get? b=some o)(hn:H it=none)(hL:it≠X.env.locals)
  (h1:it∈X.ex\/X.s₀.heap.objs.size<=it) (h2:∀x c,X.env.cells.lookup x=some c->c≠it) (h3:∀p∈X.pn ++ OK,p.1≠it):Inv X OK σ H { s with heap:=h',toks:=t' }:=by
 have nit:∀b u,H b=some u->b≠it:=λ b u e z=>by rw[z,hn]at e;cases e
 refine I.step (g':=s.gens) (d':=s.drawn) (ch:=[it]) (λ b hb=>?_) (λ b o _ _ hc e _=>k b o (λ z=>hc (by simp[z])) e) (λ b o _ _ hc e _=>%[o.slots|k b o (λ z=>hc (by simp[z])) e]) (λ _ _ _ _ n=>n)
  (λ b o hc e=>%[o|k b o (λ z=>hc (by simp[z])) e]) (λ _ _ e=>e) (λ _ _ _ e=>e) (λ b ps e=>%[#[]|by rw[e];simp]) (λ m hm=>?_) (λ b u e=>?_) I.bare
 ·have e:b=it:=by simpa using hb
  subst e;exact%[h1,hL,h2|h3]
 ·obtain⟨o,es,ep,ho,r⟩:=hm;exact%[o,es,ep,k _ o (Ne.symm hL) ho|r]
 ·refine(I.hok b u e).stay (λ c v hc q=>k c v ?_ q) (λ _ q=>q) λ _ _ q=>q;rcases hc with z | z
  ·rw[z];exact nit b u e
  ·exact nit c _ z
theorem Inv.tok(I:Inv X OK σ H s)(t:Nat):Inv X OK σ H { s with toks:=t }:=I.un (h':=s.heap) (t':=t) Un.refl I.hok
theorem Inv.kept{t':Nat}(I:Inv X OK σ H s)(k:∀b u,s.heap.get? b=some u->h'.get? b=some u):Inv X OK σ H { s with heap:=h',toks:=t' }:=I.un (Un.kept k) (I.hok.kept k)
theorem Inv.laid{a:OE}{o:HO}{t':Nat}(I:Inv X OK σ H s)(k:∀b u,s.heap.get? b=some u->h'.get? b=some u)(hp:s.heap.objs.size<=a)(new:ObjOk X.prog X.w (upd H a o) h' a o) :
  Inv X OK σ (upd H a o) { s with heap:=h',toks:=t' }:=I.un (Un.laid k hp (I.hok.fresh hp)) (I.hok.laid k hp new)
theorem Inv.write{x e:OE}{o:HO}{t':Nat}(I:Inv X OK σ H s)(mu:Mut (H x))(he:e=x\/H e=some (.own x))(k:∀b u,b≠e->s.heap.get? b=some u->h'.get? b=some u)(heo:∃u,h'.get? e=some u)
  (new:ObjOk X.prog X.w (upd H x o) h' x o):Inv X OK σ (upd H x o) { s with heap:=h',toks:=t' }:=I.un (Un.write mu he k heo) (I.hok.write mu he k heo new)
theorem Inv.weak{σ':OI (OG V)}(I:Inv X OK σ H s)(hl:σ'.length=σ.length)(w:∀ (i:Nat) v,σ'[i]?=some (some v)->σ[i]?=some (some v)):Inv X OK σ' H s :=
 %[I.ok,I.os,I.bare,I.base,let ⟨m,hn,hl'⟩:=I.loc;%[m,hn|λ i x v e1 e2 e3=>hl' i x v e1 (w i v e2) e3],I.cell,I.free,I.freeC,I.pin,I.hok|hl.trans I.len]
theorem Inv.pins_of{pins':OI (OE×Obj)}(I:Inv X OK σ H s)(h:∀p∈pins',s.heap.get? p.1=some p.2/\H p.1=none/\p.1≠X.env.locals/\p.1∉X.fs/\∀v,p.2.data≠.cell v):Inv X pins' σ H s :=
 %[I.ok,I.os,I.bare,I.base,I.loc,I.cell,I.free,I.freeC,λ p hp=>(C2.mp hp).elim (λ z=>I.pin p (B6 _ z)) (h p),I.hok|I.len]
theorem ix{N:OI Str}(hN:N.Nodup){i j:Nat}{x:Str}(a:N[i]?=some x)(b:N[j]?=some x):i=j:=by obtain⟨h1,e1⟩:=A5.mp a;obtain⟨h2,e2⟩:=A5.mp b;exact(List.getElem_inj hN).mp (e1.trans e2.symm)
theorem gv{M:Model}{A:Around}{E:F9->F5->Prop}{i:Nat}{x:Str}{v:V}{u:F9}{Q:Unit->F5->Prop}(I:Inv X OK σ H s)(hN:X.N.Nodup)(hi:X.N[i]?=some x)(hx:Loc X.env.scope x)(r:RelV v u)
  (h:∀s',Inv X OK (σ.set i (some v)) H s'->(∃a,Heap.SameBut a s.heap s'.heap/\(a=X.env.locals\/X.env.cells.lookup x=some a))->Q () s') (hf:X.fn x=true\/X.env.scope.names.lookup x=some .local:=by first | exact .inl rfl | exact .inr rfl | assumption):wpAny M A (storeName X.env x u) Q E s:=by
 obtain⟨m,hn,hl⟩:=id I.loc;have hcls:(X.env.scope.kind == .class || (X.env.scope.kind == .module && X.env.locals != X.env.globals))=false:=by rw[I.ok.kind];rfl
 have hiσ:i < σ.length:=by rw[I.len];exact(A5.mp hi).1
 have cne:=I.cne;have tracked:∀{a:OE}{h':Heap},(∃o,s.heap.get? a=some o/\H a=none)->Heap.SameBut a s.heap h'->HOk X.prog X.w H h':=λ {a h'} ha hs b ob e=>by
  obtain⟨_,_,hfree⟩:=ha;refine(I.hok b ob e).stay (λ c w' hc q=>(hs.2 c ?_).trans q) (λ _ q=>q) λ _ _ q=>q;rintro rfl;rcases hc with rfl | hc
  ·rw[hfree]at e;cases e
  ·rw[hfree]at hc;cases hc
 rcases hx with hk | hk
 ·refine wpAny_storeName_local hk hn (λ h' hn' hs=>?_) hcls;obtain⟨oL,_,_,hoL,_⟩:=id hn;refine h _ %[I.ok,I.os,I.bare,%[λ b o e n hb hx=>?_,λ b o e n hb hx=>?_,I.base.free,λ b o e hx=>?_,I.base.tups,I.base.frzs|I.base.tbls],%[_,hn'|λ j y v' e1 e2 e3=>?_],λ y c e=>?_,I.free,I.freeC,λ p hp=>?_,tracked %[oL,hoL|I.free] hs|by simpa using I.len] %[_,hs|.inl rfl]
  ·exact(hs.2 b (B9 (C1 (A8 e) I.ok.above))).trans (I.base.keep b o e n hb hx)
  ·obtain⟨sl,e1⟩:=I.base.slot b o e n hb hx;exact%[sl|(hs.2 b (B9 (C1 (A8 e) I.ok.above))).trans e1]
  ·obtain⟨o',e1⟩:=I.base.there b o e hx;exact%[o'|(hs.2 b (B9 (C1 (A8 e) I.ok.above))).trans e1]
  ·by_cases hj:j=i
   ·subst hj;rw[hi]at e1;cases e1;rw[List.getElem?_set_self hiσ]at e2;cases e2;exact%[u,r|.inl %[hk|by simp]]
   ·rw[List.getElem?_set_ne (Ne.symm hj)]at e2;obtain⟨u',r',q⟩:=hl j y v' e1 e2 e3;refine%[u',r'|?_];rcases q with⟨k,e⟩ | ⟨k,c,e,z⟩
    ·refine .inl %[k|?_];have:y≠x:=λ e=>hj (ix hN e1 (e ▸ hi));simp[this,e]
    ·exact .inr %[k,c,e|z.sameBut hs (cne y c e)]
  ·obtain⟨w',z⟩:=I.cell y c e;exact%[w'|z.sameBut hs (cne y c e)]
  ·obtain⟨e,n,ne,nf,d⟩:=I.pin p hp;exact%[(hs.2 p.1 ne).trans e,n,ne,nf|d]
 ·have hfn:X.fn x=true:=by
   rcases hf with z | z
   ·exact z
   ·rw[z]at hk;cases hk
  obtain⟨c,hc⟩:=I.ok.has x (.inl hk);obtain⟨w',z⟩:=I.cell x c hc;refine wpAny_storeName_cell I.ok.kind hk hc z (λ h' hc' hs=>?_);obtain⟨oc,hoc,hocd⟩:=id z;refine h { s with heap:=h' } %[I.ok,I.os,I.bare,%[λ b o e n hb hx=>?_,λ b o e n hb hx=>?_,I.base.free,λ b o e hx=>?_,I.base.tups,I.base.frzs|I.base.tbls],%[m,hn.sameBut hs (Ne.symm (cne x c hc))|λ j y v' e1 e2 e3=>?_],λ y c' e=>?_,I.free,I.freeC,λ p hp=>?_,tracked %[oc,hoc|I.freeC x c hc] hs|by simpa using I.len] %[c,hs|.inr hc]
  ·exact(hs.2 b (B9 (C1 (A8 e) (I.ok.cab x c hfn hc)))).trans (I.base.keep b o e n hb hx)
  ·obtain⟨sl,e1⟩:=I.base.slot b o e n hb hx;exact%[sl|(hs.2 b (B9 (C1 (A8 e) (I.ok.cab x c hfn hc)))).trans e1]
  ·obtain⟨o',e1⟩:=I.base.there b o e hx;exact%[o'|(hs.2 b (B9 (C1 (A8 e) (I.ok.cab x c hfn hc)))).trans e1]
  ·by_cases hj:j=i
   ·subst hj;rw[hi]at e1;cases e1;rw[List.getElem?_set_self hiσ]at e2;cases e2;exact%[u,r|.inr %[.inl hk,c,hc|hc']]
   ·rw[List.getElem?_set_ne (Ne.symm hj)]at e2;obtain⟨u',r',q⟩:=hl j y v' e1 e2 e3;refine%[u',r'|?_];rcases q with q | ⟨k,c',e,z'⟩
    ·exact .inl q
    ·refine .inr %[k,c',e|z'.sameBut hs ?_];rintro rfl;exact hj (ix hN e1 (I.ok.inj _ _ _ e hc ▸ hi))
  ·by_cases hcc:c'=c
   ·subst hcc;exact%[_|hc']
   ·obtain⟨w2,z2⟩:=I.cell y c' e;exact%[w2|z2.sameBut hs hcc]
  ·obtain⟨e,n,ne,nf,d⟩:=I.pin p hp;refine%[(hs.2 p.1 ?_).trans e,n,ne,nf|d];intro q;rw[q,hoc]at e;have q':oc=p.2:=B8 e;exact d w' (by rw[<- q'];exact hocd)
theorem eJ{M:Model}{A:Around}{E:F9->F5->Prop}{i:Nat}{x:Str}{v:V}{u:F9}{Q:Unit->F5->Prop}(I:Inv X OK σ H s)(hN:X.N.Nodup)(hi:X.N[i]?=some x)(hx:Loc X.env.scope x)(r:RelV v u)
  (h:∀s',Inv X OK (σ.set i (some v)) H s'->Q () s') (hf:X.fn x=true\/X.env.scope.names.lookup x=some .local:=by first | exact .inl rfl | exact .inr rfl | assumption):wpAny M A (storeName X.env x u) Q E s :=
 gv I hN hi hx r (λ s' I' _=>h s' I') hf
theorem Inv.call'{s':F5}{ch:OI OE}(I:Inv X OK σ H s)(ho:s'.os=s.os)(u:Un (frs X.stack) ch H H' s.heap s'.heap)(hok:HOk X.prog X.w H' s'.heap)(hg:AllBare s'.gens)
  (hch:∀b∈ch,(b∈X.ex\/X.s₀.heap.objs.size<=b)/\b≠X.env.locals/\(∀x c,X.env.cells.lookup x=some c->c≠b)/\∀p∈X.pn ++ OK,p.1≠b):Inv X OK σ H' s':=by
 obtain⟨h',g',d',t',o'⟩:=s';have e:o'=s.os:=ho;subst e;exact I.call (g':=g') (t':=t') (d':=d') u hok hg hch
end
abbrev XK:=Value->OG OE->Hp->Prop
abbrev St:=OI (OG V)
abbrev VK:=V->Hp->Prop
abbrev TE:=St->Hp->VK->Prop
abbrev TT:=St->Hp->(Bool->Hp->Prop)->Prop
abbrev TA:=St->Hp->(OI V->Hp->Prop)->Prop
structure Ends where
 nx:St->Hp->Prop
 rt:VK
 bk:St->Hp->Prop:=λ _ _=>False
 ct:St->Hp->Prop:=λ _ _=>False
abbrev TS:=Ends->St->Hp->Prop
def EP(X:Cx)(OK:OI (OE×Obj))(σ:St)(Q:VK)(u:F9)(s':F5):Prop:=∃v H',Inv X OK σ H' s'/\RelV v u/\Q v H'
def TP(X:Cx)(OK:OI (OE×Obj))(σ:St)(Q:Bool->Hp->Prop)(b:Bool)(s':F5):Prop:=∃H',Inv X OK σ H' s'/\Q b H'
def AP(X:Cx)(OK:OI (OE×Obj))(σ:St)(Q:OI V->Hp->Prop)(us:OI F9)(s':F5):Prop:=∃vs H',Inv X OK σ H' s'/\Vals vs us/\Q vs H'
def SP(X:Cx)(OK:OI (OE×Obj))(D:Ends)(f:Flow)(s':F5):Prop :=
 match f with
 | .next=>∃σ' H',Inv X OK σ' H' s'/\D.nx σ' H'
 | .brk=>∃σ' H',Inv X OK σ' H' s'/\D.bk σ' H'
 | .cont=>∃σ' H',Inv X OK σ' H' s'/\D.ct σ' H'
 | .ret u=>∃v σ' H',Inv X OK σ' H' s'/\RelV v u/\D.rt v H'
def PE(X:Cx)(e:Expr)(t:TE):Prop :=
 ∀(OK:OI (OE×Obj))(s:F5)(σ:St)(H:Hp)(Q:VK),Inv X OK σ H s->t σ H Q->wpAny (model X.prog X.w) X.A (eval e X.env) (EP X OK σ Q) X.xe s
def PT(X:Cx)(e:Expr)(t:TT):Prop :=
 ∀(OK:OI (OE×Obj))(s:F5)(σ:St)(H:Hp)(Q:Bool->Hp->Prop),Inv X OK σ H s->t σ H Q->wpAny (model X.prog X.w) X.A (isTrue e X.env (eval e X.env)) (TP X OK σ Q) X.xe s
def PW(X:Cx)(e:Expr)(t:TT):Prop :=
 ∀(aR:Sem F9)(OK:OI (OE×Obj))(s:F5)(σ:St)(H:Hp)(Q:Bool->Hp->Prop),Inv X OK σ H s->t σ H Q->wpAny (model X.prog X.w) X.A (isTrue e X.env aR) (TP X OK σ Q) X.xe s
theorem PW.pt{X:Cx}{e:Expr}{t:TT}(h:PW X e t):PT X e t:=h _
def PA(X:Cx)(es:OI Expr)(t:TA):Prop :=
 ∀(pos:Pos)(OK:OI (OE×Obj))(s:F5)(σ:St)(H:Hp)(Q:OI V->Hp->Prop),Inv X OK σ H s->t σ H Q->wpAny (model X.prog X.w) X.A (spliced (backTo pos (starEach es X.env))) (AP X OK σ Q) X.xe s
def PS(X:Cx)(st:Stmt)(t:TS):Prop :=
 ∀(OK:OI (OE×Obj))(s:F5)(σ:St)(H:Hp)(D:Ends),Inv X OK σ H s->t D σ H->wpAny (model X.prog X.w) X.A (exec st X.env) (SP X OK D) X.xe s
def PSs(X:Cx)(st:OI Stmt)(t:TS):Prop :=
 ∀(OK:OI (OE×Obj))(s:F5)(σ:St)(H:Hp)(D:Ends),Inv X OK σ H s->t D σ H->wpAny (model X.prog X.w) X.A (execs st X.env) (SP X OK D) X.xe s
theorem thn{α:Type}{t:Sem α}{Q Q':α->F5->Prop}{M:Model}{A:Around}{E:F9->F5->Prop}{s:F5}(h:wpAny M A t Q E s)(hQ:∀a s,Q a s->Q' a s):wpAny M A t Q' E s:=OU h hQ λ _ _ x=>x
section
variable{X:Cx}
theorem bin{a b:Expr}{ta tb:TE}(ha:PE X a ta)(hb:PE X b tb){OK:OI (OE×Obj)}{s:F5}{σ:St}{H:Hp}{R:V->V->Hp->Prop}(I:Inv X OK σ H s)(h:ta σ H λ x H1=>tb σ H1 λ y H2=>R x y H2)
  {α:Type} {Q:α->F5->Prop} {f:F9->F9->Sem α}
  (hf:∀v u s2 x y H2,Inv X OK σ H2 s2->RelV x v->RelV y u->R x y H2->wpAny (model X.prog X.w) X.A (f v u) Q X.xe s2) :
  wpAny (model X.prog X.w) X.A (eval a X.env) (λ v s₁=>wpAny (model X.prog X.w) X.A (eval b X.env) (λ u s₂=>wpAny (model X.prog X.w) X.A (f v u) Q X.xe s₂) X.xe s₁) X.xe s:=by
 refine thn (ha OK s σ H _ I h) ?_;rintro v s1 ⟨x,H1,I1,r1,q1⟩;refine thn (hb OK s1 σ H1 _ I1 q1) ?_;rintro u s2 ⟨y,H2,I2,r2,q2⟩;exact hf v u s2 x y H2 I2 r1 r2 q2
inductive tVar(i:Nat)(σ:St)(H:Hp)(Q:VK):Prop
|mk(v:V)(_:σ[i]?=some (some v))(_:Q v H)
def tC(v:V):TE:=λ _ H Q=>Q v H
theorem yQ{i:Nat}{x:Str}{pos:Pos}(hN:X.N[i]?=some x)(hv:Vis X.env.scope x)(hd:(x == ("__debug__" : Str))=false:=by decide)(hcd:(x == ("__classdict__" : Str))=false:=by decide):PE X (.Name x pos) (tVar i):=by
 intro OK s σ H Q I h;obtain⟨v,e,h⟩:=h;obtain⟨m,hn,hl⟩:=I.loc;obtain⟨u,r,l⟩:=hl i x v hN e hv;have fin:EP X OK σ Q u s:=%[v,H,I,r|h]
 rcases l with⟨hk,hm⟩ | ⟨hk,c,hc,hcell⟩
 ·exact wpAny_Name (wpAny_loadName_local I.ok.kind hk hn hm fin) hd
 ·rcases hk with hk | hk
  ·exact wpAny_Name (wpAny_loadName_cell I.ok.kind hk hc hcell fin) hd
  ·exact wpAny_Name (wpAny_loadName_free I.ok.kind hk hc hcell fin hcd) hd
theorem ae{i j pos}:PE X (.Constant (.int i) j pos) (tC (.int i)):=λ _ _ _ H _ I h=>wpAny_Constant_int %[.int i,H,I.tok _,%[_|rfl]|h]
theorem bF{b j pos}:PE X (.Constant (.bool b) j pos) (tC (.bl b)):=λ _ _ _ H _ I h=>Constant_bool %[.bl b,H,I,rfl|h]
theorem dR{j pos}:PE X (.Constant .none j pos) (tC .non):=λ _ _ _ H _ I h=>Constant_none %[.non,H,I,rfl|h]
theorem aJ{x j pos}:PE X (.Constant (.str x) j pos) (tC (.str x)):=λ _ _ _ H _ I h=>Calls.Constant_str %[.str x,H,I.tok _,%[_|O]|h]
def Gl(X:Cx)(x:Str):Prop:=X.env.kindOf x=some .globalImplicit
theorem dB{E:F9->F5->Prop}{OK:OI (OE×Obj)}{s:F5}{σ:St}{H:Hp}{x:Str}{u:F9}{pos:Pos}{Q:F9->F5->Prop}(I:Inv X OK σ H s)(hg:Gl X x)(hm:X.mg x=some u)(h:Q u s)
  (hd:(x == ("__debug__" : Str))=false:=by decide):wpAny (model X.prog X.w) X.A (eval (.Name x pos) X.env) Q E s :=
 Calls.Name_function_global I.ok.kind hg (Calls.loadGlobal_global (by rw[I.ok.glob];exact I.mod.glob.keeps I.bk) hm h) hd
theorem gx{E:F9->F5->Prop}{OK:OI (OE×Obj)}{s:F5}{σ:St}{H:Hp}{x:Str}{u:F9}{pos:Pos}{Q:F9->F5->Prop}(I:Inv X OK σ H s)(hg:Gl X x)(hm:X.mg x=none)(hv:bootBuiltins x=some u)(h:Q u s)
  (hn:x ≠ "__name__" := by decide) (hd:(x == ("__debug__" : Str))=false:=by decide):wpAny (model X.prog X.w) X.A (eval (.Name x pos) X.env) Q E s:=by
 obtain⟨mb,h1,h2⟩:=I.mod.blt;exact Calls.Name_function_global I.ok.kind hg (Calls.loadGlobal_builtin (by rw[I.ok.glob];exact I.mod.glob.keeps I.bk) hm (by rw[I.ok.blt];exact h1.keeps I.bk) ((h2 x hn).trans hv) h) hd
theorem aP{x:Str}{v:V}{u:F9}{pos:Pos}(hg:Gl X x)(hm:X.mg x=some u)(r:RelV v u)(hd:(x == ("__debug__" : Str))=false:=by decide):PE X (.Name x pos) (tC v) :=
 λ _ _ _ H _ I h=>dB I hg hm %[v,H,I,r|h] hd
theorem bN{x:Str}{v:V}{u:F9}{pos:Pos}(hg:Gl X x)(hm:X.mg x=none)(hv:bootBuiltins x=some u)(r:RelV v u)(hn:x ≠ "__name__" := by decide)(hd:(x == ("__debug__" : Str))=false:=by decide):PE X (.Name x pos) (tC v) :=
 λ _ _ _ H _ I h=>gx I hg hm hv %[v,H,I,r|h] hn hd
variable{a b:Expr}{ta tb:TE}{pos:Pos}
def PC(X:Cx)(op:CmpOp)(a b:Expr)(t:TE):Prop :=
 ∀(OK:OI (OE×Obj))(s:F5)(σ:St)(H:Hp)(Q:VK),Inv X OK σ H s->t σ H Q ->
  wpAny (model X.prog X.w) X.A (eval a X.env) (λ v s₁=>wpAny (model X.prog X.w) X.A (eval b X.env) (λ u s₂=>wpAny (model X.prog X.w) X.A (compareOp op v u) (EP X OK σ Q) X.xe s₂) X.xe s₁) X.xe s
inductive IsB(x:V)(Q:Bool->Prop):Prop
|mk(c:Bool)(e:x=.bl c)(q:Q c)
def tB(t:TE):TT:=λ σ H Q=>t σ H λ x H1=>IsB x λ c=>Q c H1
theorem KZ{op:CmpOp}{t:TE}(h:PC X op a b t)(h1:behindInMarks op b=false:=by first | exact nobehind _ ∅ ∅ | rfl):PT X (.Compare a [op] [b] pos) (tB t):=by intro OK s σ H Q I hw;refine wpAny_isTrue_Compare1 (thn (h OK s σ H _ I hw) λ v s1 h1=>thn h1 λ u s2 h2=>thn h2 ?_) h1;rintro c s3 ⟨x,H1,I1,r1,q1⟩;obtain⟨d,rfl,q⟩:=q1;cases r1;exact F1 %[H1,I1|q]
theorem aO{e:Expr}{t:TE}(h:PE X e t)(he:∀aR,isTrue e X.env aR=(do let v<-aR;standAt e.pos;holding [v] (truthy v)):=by intro _;rfl):PT X e (tB t):=by intro OK s σ H Q I hw;refine isTrue_plain (thn (h OK s σ H _ I hw) ?_) (he _);rintro v s1 ⟨x,H1,I1,r1,q1⟩;obtain⟨d,rfl,q⟩:=q1;cases r1;exact F1 %[H1,I1|q]
variable{tA tB':TT}{rest:OI Expr}
def La(t u:TT):TT:=λ σ H Q=>t σ H λ c H1=>if c=true then u σ H1 Q else Q false H1
def tOr(t u:TT):TT:=λ σ H Q=>t σ H λ c H1=>if c=true then Q true H1 else u σ H1 Q
def Lb(t:TT):TT:=λ σ H Q=>t σ H λ c H1=>Q (!c) H1
theorem oO(ha:PT X a tA):PW X (.BoolOp .And [a] pos) tA:=by
 intro wh OK s σ H Q I h;refine isTrue_and (thn (ha OK s σ H Q I h) λ c s1 e=>?_);cases c with
 | true=>exact isTrue_and_nil e
 | false=>exact e
theorem bG(ha:PT X a tA):PW X (.BoolOp .Or [a] pos) tA:=by
 intro wh OK s σ H Q I h;refine isTrue_or (thn (ha OK s σ H Q I h) λ c s1 e=>?_);cases c with
 | false=>exact isTrue_or_nil e
 | true=>exact e
theorem sI(ha:PT X a tA)(hb:PW X (.BoolOp .And (b :: rest) pos) tB'):PW X (.BoolOp .And (a :: b :: rest) pos) (La tA tB'):=by
 intro wh OK s σ H Q I h;refine isTrue_and (thn (ha OK s σ H _ I h) ?_);rintro c s1 ⟨H1,I1,q1⟩;cases c with
 | true=>exact hb wh OK s1 σ H1 Q I1 q1
 | false=>exact%[H1,I1|q1]
theorem bn(ha:PT X a tA)(hb:PW X (.BoolOp .Or (b :: rest) pos) tB'):PW X (.BoolOp .Or (a :: b :: rest) pos) (tOr tA tB'):=by
 intro wh OK s σ H Q I h;refine isTrue_or (thn (ha OK s σ H _ I h) ?_);rintro c s1 ⟨H1,I1,q1⟩;cases c with
 | true=>exact%[H1,I1|q1]
 | false=>exact hb wh OK s1 σ H1 Q I1 q1
theorem aS(ha:PT X a tA):PT X (.UnaryOp .Not a pos) (Lb tA):=by intro OK s σ H Q I h;exact isTrue_not (ha OK s σ H (λ c H1=>Q (!c) H1) I h)
def DG(ta tb:TE):TE:=λ σ H Q=>ta σ H λ x H1=>IsB x λ c=>if c=true then tb σ H1 Q else Q (.bl false) H1
def Lc(ta tb:TE):TE:=λ σ H Q=>ta σ H λ x H1=>IsB x λ c=>if c=true then Q (.bl true) H1 else tb σ H1 Q
def DH(ta:TE):TE:=λ σ H Q=>ta σ H λ x H1=>IsB x λ c=>Q (.bl (!c)) H1
theorem de{op}{t:TE}(h:PE X a t):PE X (.BoolOp op [a] pos) t:=λ OK s σ H Q I hw=>BoolOp_one (h OK s σ H Q I hw)
theorem bZ(ha:PE X a ta)(hb:PE X (.BoolOp .And (b :: rest) pos) tb):PE X (.BoolOp .And (a :: b :: rest) pos) (DG ta tb):=by
 intro OK s σ H Q I h;refine BoolOp_and (thn (ha OK s σ H _ I h) ?_);rintro v s1 ⟨x,H1,I1,r1,q1⟩;obtain⟨c,rfl,q1⟩:=q1;cases r1;refine F1 ?_;cases c with
 | true=>exact hb OK s1 σ H1 Q I1 q1
 | false=>exact%[.bl false,H1,I1,O|q1]
theorem DJ(ha:PE X a ta)(hb:PE X (.BoolOp .Or (b :: rest) pos) tb):PE X (.BoolOp .Or (a :: b :: rest) pos) (Lc ta tb):=by
 intro OK s σ H Q I h;refine BoolOp_or (thn (ha OK s σ H _ I h) ?_);rintro v s1 ⟨x,H1,I1,r1,q1⟩;obtain⟨c,rfl,q1⟩:=q1;cases r1;refine F1 ?_;cases c with
 | false=>exact hb OK s1 σ H1 Q I1 q1
 | true=>exact%[.bl true,H1,I1,O|q1]
theorem mj(ha:PE X a ta):PE X (.UnaryOp .Not a pos) (DH ta):=by intro OK s σ H Q I h;refine UnaryOp_ (thn (ha OK s σ H _ I h) ?_);rintro v s1 ⟨x,H1,I1,r1,q1⟩;obtain⟨c,rfl,q1⟩:=q1;cases r1;exact not_of (F1 %[.bl (!c),H1,I1,rfl|q1])
def tIf(t:TT)(ta tb:TE):TE:=λ σ H Q=>t σ H λ c H1=>if c=true then ta σ H1 Q else tb σ H1 Q
theorem fZ{c:Expr}(hc:PT X c tA)(ha:PE X a ta)(hb:PE X b tb):PE X (.IfExp c a b pos) (tIf tA ta tb):=by
 intro OK s σ H Q I h;refine wpAny_IfExp (thn (hc OK s σ H _ I h) ?_);rintro d s1 ⟨H1,I1,q1⟩;cases d with
 | true=>exact ha OK s1 σ H1 Q I1 q1
 | false=>exact hb OK s1 σ H1 Q I1 q1
end
def SqL(K:C4)(H:Hp)(a:OE)(xs:OI V):Prop :=
 Rd H a (.lst xs) \/
  ∃(o:Obj)(its:OH F9)(n:Nat),K.lookup a=some o/\o.cls=.type "list" /\ o.dict=none/\o.data=.seq its n/\its.size<=sizeLine/\Vals xs its.toList
def SqT(K:C4)(H:Hp)(a:OE)(xs:OI V):Prop :=
 Rd H a (.tup xs) \/
  ∃(o:Obj)(its:OH F9)(n:Nat),K.lookup a=some o/\o.cls=.type "tuple" /\ o.data=.seq its n/\its.size<=sizeLine/\Vals xs its.toList
def Ld:F9->OG V
 | .none=>some .non
 | .bool b=>some (.bl b)
 | .int i _=>⇑i
 | .str x _=>some (.str x)
 | .bytes b _=>some (.byt b)
 | .float b _=>some (.flt b)
 | .ref a=>↑a
 | .type n=>some (.ty n)
 | _=>none
theorem RelV.abs{x:V}{u:F9}(r:RelV x u):Ld u=some x:=by
 cases x with
 | non=>cases r;rfl
 | bl _=>cases r;rfl
 | int _=>obtain⟨t,rfl⟩:=r;rfl
 | str _=>obtain⟨t,rfl⟩:=r;rfl
 | byt _=>obtain⟨t,rfl⟩:=r;rfl
 | flt _=>obtain⟨t,rfl⟩:=r;rfl
 | ref _=>cases r;rfl
 | ty _=>cases r;rfl
theorem RelV.inj{x y:V}{u:F9}(r:RelV x u)(q:RelV y u):x=y:=B8 (r.abs.symm.trans q.abs)
theorem Vals.inj:∀{xs ys:OI V}{us:OI F9},Vals xs us->Vals ys us->xs=ys
 | _,_,_,.nil,.nil=>rfl
 | _,_,_,.cons r t,.cons r' t'=>by rw[r.inj r',Vals.inj t t']
section
variable{X:Cx}{OK:OI (OE×Obj)}{σ:St}{H:Hp}{s:F5}{a:OE}{xs ys:OI V}
theorem SqL.of{K:C4}(h:H a=↥xs):SqL K H a xs:=.inl (.inl h)
abbrev G2:=@SqL.of
theorem SqT.of{K:C4}(h:H a= ~~~xs):SqT K H a xs:=.inl (.inl h)
abbrev G1:=@SqT.of
theorem Inv.list(I:Inv X OK σ H s)(h:SqL X.K H a xs):∃its:OI F9,Vals xs its/\PlainL s.heap a its.toArray/\xs.length<=sizeLine:=by
 rcases h with h | ⟨o,its,n,hk,hc,hd,hs,hz,r⟩
 ·obtain⟨z,its,n,r,e⟩:=h.ok I.hok;exact%[its,r,%[_,n,e,O,O|O]|z]
 ·refine%[its.toList,r,%[o,n,I.kIn a o hk,hc,hd|by simpa using hs]|?_];have e:=r.length;simp only[Array.length_toList]at e;lia
theorem Inv.tuple(I:Inv X OK σ H s)(h:SqT X.K H a xs):∃its:OI F9,Vals xs its/\IsTup s.heap a its.toArray/\xs.length<=sizeLine:=by
 rcases h with h | ⟨o,its,n,hk,hc,hs,hz,r⟩
 ·obtain⟨z,its,r,p⟩:=h.ok I.hok;exact%[its,r,p|z]
 ·refine%[its.toList,r,%[o,I.kIn a o hk,hc,n|by simpa using hs]|?_];have e:=r.length;simp only[Array.length_toList]at e;lia
theorem Inv.list_inj(I:Inv X OK σ H s)(h:SqL X.K H a xs)(h':SqL X.K H a ys):xs=ys:=by
 obtain⟨its,r,⟨o,n,e,_,_,d⟩,_⟩:=I.list h;obtain⟨its',r',⟨o',n',e',_,_,d'⟩,_⟩:=I.list h';rw[e]at e';cases e';rw[d]at d';injection d' with d1 _
 have:its=its':=by simpa using On Array.toList d1
 subst this;exact r.inj r'
theorem Inv.tuple_inj(I:Inv X OK σ H s)(h:SqT X.K H a xs)(h':SqT X.K H a ys):xs=ys:=by
 obtain⟨its,r,⟨o,e,_,n,d⟩,_⟩:=I.tuple h;obtain⟨its',r',⟨o',e',_,n',d'⟩,_⟩:=I.tuple h';rw[e]at e';cases e';rw[d]at d';injection d' with d1 _
 have:its=its':=by simpa using On Array.toList d1
 subst this;exact r.inj r'
end
abbrev Cx.wish(X:Cx)(E:F9->F5->Prop):Cx:={ X with xe:=E }
abbrev Cx.nox(X:Cx):Cx:=X.wish λ _ _=>False
theorem Cx.Ok.wish{X:Cx}(ok:X.Ok)(E:F9->F5->Prop):(X.wish E).Ok :=
 %[ok.mod,ok.kind,ok.glob,ok.blt,ok.above,ok.inj,ok.has,ok.cab,ok.hd,ok.frames,ok.stk,ok.exf,ok.bs,ok.bsz,ok.noex,ok.exfs,ok.funs|ok.frf]
theorem Cx.Ok.unwish{X:Cx}{E:F9->F5->Prop}(ok:(X.wish E).Ok):X.Ok :=
 %[ok.mod,ok.kind,ok.glob,ok.blt,ok.above,ok.inj,ok.has,ok.cab,ok.hd,ok.frames,ok.stk,ok.exf,ok.bs,ok.bsz,ok.noex,ok.exfs,ok.funs|ok.frf]
section
variable{X:Cx}{OK:OI (OE×Obj)}{σ:St}{H:Hp}{s:F5}{E:F9->F5->Prop}
theorem Inv.wish(I:Inv X OK σ H s)(E:F9->F5->Prop):Inv (X.wish E) OK σ H s:=%[I.ok.wish E,I.os,I.bare,I.base,I.loc,I.cell,I.free,I.freeC,I.pin,I.hok|I.len]
theorem Inv.unwish(I:Inv (X.wish E) OK σ H s):Inv X OK σ H s:=%[I.ok.unwish,I.os,I.bare,I.base,I.loc,I.cell,I.free,I.freeC,I.pin,I.hok|I.len]
theorem SP.unwish{D:Ends}{f:Flow}{s':F5}(h:SP (X.wish E) OK D f s'):SP X OK D f s':=by
 cases f with
 | next=>obtain⟨σ',H',I,q⟩:=h;exact%[σ',H',I.unwish|q]
 | brk=>obtain⟨σ',H',I,q⟩:=h;exact%[σ',H',I.unwish|q]
 | cont=>obtain⟨σ',H',I,q⟩:=h;exact%[σ',H',I.unwish|q]
 | ret u=>obtain⟨v,σ',H',I,r,q⟩:=h;exact%[v,σ',H',I.unwish,r|q]
theorem PSs.nox{st:OI Stmt}{t:TS}(h:PSs X.nox st t):PSs X st t:=λ OK s σ H D I hw=>
 OU (h OK s σ H D (I.wish _) hw) (λ _ _ q=>q.unwish) λ _ _ z=>E5 z
end
section
variable{X:Cx}{st:Stmt}{rest:OI Stmt}{t u:TS}{e:Expr}{te:TE}{pos:Pos}
def DM:TS:=λ D σ H=>D.nx σ H
def vQ(t u:TS):TS:=λ D σ H=>t { D with nx:=u D } σ H
theorem az:PSs X [] DM:=λ _ _ σ H _ I h=>Op %[σ,H,I|h]
theorem af(h1:PS X st t)(h2:PSs X rest u):PSs X (st :: rest) (vQ t u):=by
 intro OK s σ H D I h;refine wpAny_execs_cons (thn (h1 OK s σ H { D with nx:=u D } I h) λ f s1 q=>?_);cases f with
 | next=>
  obtain⟨σ',H',I',q⟩:=q;exact h2 OK s1 σ' H' D I' q
 | ret v=>exact q
 | brk=>exact q
 | cont=>exact q
theorem ag(h1:PS X st t):PSs X [st] t:=by
 intro OK s σ H D I h;refine wpAny_execs_cons (thn (h1 OK s σ H D I h) λ f s1 q=>?_);cases f with
 | next=>exact Op q
 | ret v=>exact q
 | brk=>exact q
 | cont=>exact q
theorem Inv.quiet{OK:OI (OE×Obj)}{σ:St}{H:Hp}{s:F5}(I:Inv X OK σ H s):interactive X.env=false:=by simp[interactive,I.ok.kind]
def DN(te:TE):TS:=λ D σ H=>te σ H λ _ H1=>D.nx σ H1
theorem bX(he:PE X e te)(hs:swapsWith e none pos.line X.env=pure false:=by rfl):PS X (.Expr e pos) (DN te):=by intro OK s σ H D I h;exact wpAny_Expr_any (thn (he OK s σ H _ I h) λ v s1 %[x,H1,I1,r1|q1]=>%[σ,H1,I1|q1]) I.quiet hs
def Le(te:TE):TS:=λ D σ H=>te σ H D.rt
theorem am(he:PE X e te):PS X (.Return (some e) pos) (Le te):=by intro OK s σ H D I h;exact wpAny_Return_some (thn (he OK s σ H _ I h) λ v s1 %[x,H1,I1,r1|q1]=>%[x,σ,H1,I1,r1|q1])
def Lf(c:TT)(t u:TS):TS:=λ D σ H=>c σ H λ b H1=>if b=true then t D σ H1 else u D σ H1
theorem aL{c:Expr}{a b:OI Stmt}{tc:TT}(hc:PT X c tc)(ha:PSs X a t)(hb:PSs X b u):PS X (.If c a b pos) (Lf tc t u):=by
 intro OK s σ H D I h;refine wpAny_If (thn (hc OK s σ H _ I h) ?_);rintro d s1 ⟨H1,I1,q1⟩;cases d with
 | true=>exact ha OK s1 σ H1 D I1 q1
 | false=>exact hb OK s1 σ H1 D I1 q1
def sJ:TS:=λ _ _ _=>False
theorem cH:PS X st sJ:=λ _ _ _ _ _ _ h=>h.elim
theorem gy{sts:OI Stmt}:PSs X sts sJ:=λ _ _ _ _ _ _ h=>h.elim
end
abbrev TG:=V->St->Hp->(St->Hp->Prop)->Prop
abbrev TGs:=OI V->St->Hp->(St->Hp->Prop)->Prop
def PG(X:Cx)(target:Expr)(t:TG):Prop :=
 ∀(OK:OI (OE×Obj))(s:F5)(σ:St)(H:Hp)(v:V)(u:F9)(Q:St->Hp->Prop),Inv X OK σ H s->RelV v u->t v σ H Q ->
  wpAny (model X.prog X.w) X.A (assign target X.env u) (λ _ s'=>∃σ' H',Inv X OK σ' H' s'/\Q σ' H') X.xe s
def PGs(X:Cx)(ts:OI Expr)(t:TGs):Prop :=
 ∀(OK:OI (OE×Obj))(s:F5)(σ:St)(H:Hp)(vs:OI V)(us:OI F9)(Q:St->Hp->Prop),Inv X OK σ H s->Vals vs us->t vs σ H Q ->
  wpAny (model X.prog X.w) X.A (assignInOrder ((assignEach ts X.env).map (·.2)) us) (λ _ s'=>∃σ' H',Inv X OK σ' H' s'/\Q σ' H') X.xe s
abbrev yR:=V->V->V->Hp->(Hp->Prop)->Prop
def DQ(X:Cx)(t:yR):Prop :=
 ∀(OK:OI (OE×Obj))(s:F5)(σ:St)(H:Hp)(o i v:V)(ov iv u:F9)(Q:Hp->Prop),Inv X OK σ H s->RelV o ov->RelV i iv->RelV v u->t o i v H Q ->
  wpAny (model X.prog X.w) X.A (setItem ov iv u) (λ _ s'=>∃H',Inv X OK σ H' s'/\Q H') X.xe s
section
variable{X:Cx}{pos:Pos}
def gU(i:Nat):TG:=λ v σ H Q=>Q (σ.set i (some v)) H
theorem ap{i:Nat}{x:Str}(hN:X.N.Nodup)(hi:X.N[i]?=some x)(hx:Loc X.env.scope x)(hf:X.fn x=true\/X.env.scope.names.lookup x=some .local:=by first | exact .inl rfl | exact .inr rfl | assumption):PG X (.Name x pos) (gU i):=by intro OK s σ H v u Q I r h;exact wpAny_assign_Name (eJ I hN hi hx r (λ s' I'=>%[_,H,I'|h]) hf)
def yS:TGs:=λ vs σ H Q=>vs=[]/\Q σ H
inductive gCons(t:TG)(u:TGs)(vs:OI V)(σ:St)(H:Hp)(Q:St->Hp->Prop):Prop
|mk(v:V)(r:OI V)(_:vs=v :: r)(_:t v σ H λ σ' H'=>u r σ' H' Q)
theorem aV:PGs X [] yS:=by intro OK s σ H vs us Q I r h;obtain⟨e,h⟩:=h;subst e;cases r;exact assignInOrder_nil %[σ,H,I|h]
theorem ao{e:Expr}{es:OI Expr}{t:TG}{u:TGs}(h1:PG X e t)(h2:PGs X es u)
  (hs:(assignEach (e :: es) X.env).map (·.2)=assign e X.env :: (assignEach es X.env).map (·.2):=by rfl):PGs X (e :: es) (gCons t u):=by
 intro OK s σ H vs us Q I r h;obtain⟨v,vr,e1,h⟩:=h;subst e1;cases r with
 | cons r rr=>
  rw[hs];refine assignInOrder_cons (thn (h1 OK s σ H _ _ _ I r h) ?_);rintro _ s1 ⟨σ1,H1,I1,q1⟩;exact h2 OK s1 σ1 H1 _ _ Q I1 rr q1
inductive gTup(K:C4)(n:Nat)(t:TGs)(v:V)(σ:St)(H:Hp)(Q:St->Hp->Prop):Prop
|mk(a:OE)(xs:OI V)(_:v=.ref a)(_:SqT K H a xs)(_:xs.length=n)(_:t xs σ H Q)
theorem bC{es:OI Expr}{k:Nat}{t:TGs}{n:Nat}(hc:X.calm=true)(h:PGs X es t)
  (hn:(assignEach es X.env).length=n:=by rfl) (hst:(assignEach es X.env).findIdx? (·.1)=none:=by rfl):PG X (.Tuple es k pos) (gTup X.K n t):=by
 intro OK s σ H v u Q I r hw;obtain⟨a,xs,e1,hq,hl,hw⟩:=hw;subst e1;cases r;obtain⟨its,rv,ht,hz⟩:=I.tuple hq;refine assign_Tuple_tuple (I.ok.hd hc) ht (by simp[hn,<- hl,rv.length]) hst λ h' hx=>?_;have I1:Inv X OK σ H { s with heap:=h' }:=I.kept (t':=s.toks) λ b o e=>hx b o (B9 (A8 e)) e;exact h OK _ σ H xs _ Q I1 (by simpa using rv) hw
def Lg(to ti:TE)(t:yR):TG:=λ v σ H Q=>to σ H λ o H1=>ti σ H1 λ i H2=>t o i v H2 λ H3=>Q σ H3
theorem mm{o i:Expr}{to ti:TE}{t:yR}(ho:PE X o to)(hi:PE X i ti)(hs:DQ X t)
  (ha:∀v,assign (.Subscript o i pos) X.env v=(do
   let ov<-holding [v] (eval o X.env)
   let iv<-holding [v,ov] (eval i X.env)
   standAt pos
   holding [v,ov,iv] (setItem ov iv v)
   release [v,ov,iv] []):=by intro _;rfl):PG X (.Subscript o i pos) (Lg to ti t):=by
 intro OK s σ H v u Q I r h;rw[ha];refine A0 (OV (thn (ho OK s σ H _ I h) ?_));rintro ov s1 ⟨x,H1,I1,r1,q1⟩;refine A0 (OV (thn (hi OK s1 σ H1 _ I1 q1) ?_));rintro iv s2 ⟨y,H2,I2,r2,q2⟩;refine A0 (O0 (A0 (OV (thn (hs OK s2 σ H2 x y v ov iv u _ I2 r1 r2 r q2) ?_))));rintro _ s3 ⟨H3,I3,q3⟩;exact wpAny_release %[σ,H3,I3|q3]
def vR(te:TE)(g:TG):TS:=λ D σ H=>te σ H λ x H1=>g x σ H1 D.nx
theorem bL{tg e:Expr}{te:TE}{g:TG}(he:PE X e te)(hg:PG X tg g)(hs:swapsWithSole [tg] e pos.line X.env=pure false:=by rfl)(hw:swappedStores [tg] e X.env=pure none:=by rfl)
  (h1:(assignEach [tg] X.env).map (·.2)=[assign tg X.env]:=by rfl):PS X (.Assign [tg] e pos) (vR te g):=by
 intro OK s σ H D I h;refine wpAny_Assign_stores (thn (he OK s σ H _ I h) ?_) hs hw;rintro v s1 ⟨x,H1,I1,r1,q1⟩;rw[h1];exact thn (hg OK s1 σ H1 x v _ I1 r1 q1) λ _ s2 q=>q
theorem aG{i:Nat}{x:Str}{e:Expr}{te:TE}{pos':Pos}(hN:X.N.Nodup)(hi:X.N[i]?=some x)(hx:Loc X.env.scope x)(he:PE X e te)(hs:swapsWith e (some (.Name x pos')) pos.line X.env=pure false:=by rfl)(hf:X.fn x=true\/X.env.scope.names.lookup x=some .local:=by first | exact .inl rfl | exact .inr rfl | assumption) :
  PS X (.Assign [.Name x pos'] e pos) (vR te (gU i)):=by
 intro OK s σ H D I h;refine wpAny_Assign_Name (thn (he OK s σ H _ I h) ?_) hs;rintro v s1 ⟨y,H1,I1,r1,q1⟩;exact eJ I1 hN hi hx r1 (λ s2 I2=>%[_,H1,I2|q1]) hf
def Lh(i j:Nat)(ta:TA):TS:=λ D σ H=>ta σ H λ vs H1=>∃v w,vs=[v,w]/\D.nx ((σ.set i (some v)).set j (some w)) H1
theorem yT{i j:Nat}{x y:Str}{a b:Expr}{ta:TA}{px py pt:Pos}{kt k2 pt2}(hc:X.calm=true)(hN:X.N.Nodup)(hi:X.N[i]?=some x)(hj:X.N[j]?=some y)(hij:i≠j)
  (hx:X.env.scope.names.lookup x=some .local) (hy:X.env.scope.names.lookup y=some .local) (ha:PA X [a,b] ta)
  (hw:swappedStores [.Tuple [.Name x px,.Name y py] kt pt] (.Tuple [a,b] k2 pt2) X.env=pure (some [x,y]))
  (hs:swapsWithSole [.Tuple [.Name x px,.Name y py] kt pt] (.Tuple [a,b] k2 pt2) pos.line X.env=pure false:=by rfl) :
  PS X (.Assign [.Tuple [.Name x px,.Name y py] kt pt] (.Tuple [a,b] k2 pt2) pos) (Lh i j ta):=by
 intro OK s σ H D I h;rw[exec_Assign_arm];refine A0 (O0 ?_);rw[hs];refine A0 (A1 ?_);rw[OQ ∅];refine A0 (Tuple_ (thn (ha _ OK s σ H _ I h) ?_));rintro us s1 ⟨vs,H1,I1,r1,q1⟩;obtain⟨v,w,e1,q1⟩:=q1;subst e1;obtain⟨u1,u2,rfl,rv,rw'⟩:∃u1 u2,us=[u1,u2]/\RelV v u1/\RelV w u2:=by
  cases r1 with
  | cons p q=>
   cases q with
   | cons p' q'=>
    cases q';exact%[_,_,O,p|p']
 refine F3 ?_ zS2;have I2:Inv X OK σ H1 { s1 with heap:=s1.heap.push { cls:=.type "tuple",data:=.seq [u1,u2].toArray } }:=I1.kept (t':=s1.toks) λ b o e=>A6 _ e;rw[hw];refine A0 (A1 ?_);show wpAny (model X.prog X.w) X.A (do rule "assign.swapped-stores";let items<-unpackItems (.ref s1.heap.objs.size) 2 none;assignInOrder [λ v=>bindName X.env y v,λ v=>bindName X.env x v] items.reverse;pure Flow.next) _ _ _;refine A0 (O2 (A0 (unpackItems_tuple (items:=#[u1,u2]) (I.ok.hd hc) (IsTup.new s1.heap _) λ h' hx'=>?_)));have I3:=I2.kept (h':=h') (t':=s1.toks) λ b o e=>hx' b o (B9 (A8 e)) e;show wpAny _ _ (assignInOrder [λ v=>bindName X.env y v,λ v=>bindName X.env x v] [u2,u1] >>= λ _=>pure Flow.next) _ _ _;refine A0 (assignInOrder_cons (wpAny_bindName (eJ I3 hN hj (.inl hy) rw' (λ s2 I4=>?_) (.inr hy))));refine assignInOrder_cons (wpAny_bindName (eJ I4 hN hi (.inl hx) rv (λ s3 I5=>assignInOrder_nil (A1 ?_)) (.inr hx)));rw[List.set_comm _ _ (Ne.symm hij)]at I5;exact%[_,H1,I5|q1]
def yU(c:TT)(tb:TS):TS:=λ D σ H=>∃W:Nat->St->Hp->Prop,(∃m,W m σ H)/\∀m σ H,W m σ H ->
 c σ H λ b H1=>if b=true then∃N:St->Hp->Prop,(∀σ' H',N σ' H'->∃m',m' < m/\W m' σ' H')/\tb { D with nx:=N,ct:=N,bk:=D.nx } σ H1 else D.nx σ H1
theorem iy{c:Expr}{body:OI Stmt}{tc:TT}{tb:TS}(hp:PassesOwn (model X.prog X.w) X.A X.env X.xe)(hc:PT X c tc)(hb:PSs X body tb):PS X (.While c body [] pos) (yU tc tb):=by
 intro OK s σ H D I h;obtain⟨W,⟨m0,w0⟩,turn⟩:=h;refine wpAny_While (codeAny_whileLoop (λ n s'=>∃σ' H',Inv X OK σ' H' s'/\W n σ' H') ?_ m0 %[σ,H,I|w0]);rintro n s1 ⟨σ1,H1,I1,w1⟩;refine Ot hp (thn (hc OK s1 σ1 H1 _ I1 (turn n σ1 H1 w1)) ?_);rintro b s2 ⟨H2,I2,q2⟩;cases b with
 | true=>
  obtain⟨N,hN,q2⟩:=q2;rw[OR rfl];refine Ot hp (thn (hb OK s2 σ1 H2 _ I2 q2) λ f s3 q3=>?_);cases f with
  | next=>
   obtain⟨σ3,H3,I3,n3⟩:=q3;obtain⟨m',hm,w3⟩:=hN σ3 H3 n3;exact%[m',hm,σ3,H3,I3|w3]
  | cont=>
   obtain⟨σ3,H3,I3,n3⟩:=q3;obtain⟨m',hm,w3⟩:=hN σ3 H3 n3;exact%[m',hm,σ3,H3,I3|w3]
  | brk=>exact q3
  | ret v=>exact q3
 | false=>
  rw[OQ B1];exact Op %[σ1,H2,I2|q2]
end
structure It where
 go:Nat->Hp->Prop
 yld:Nat->Hp->V->Hp->Prop
 stop:Nat->Hp->Prop
def eK(X:Cx)(OK:OI (OE×Obj))(H:Hp)(b:OE):Prop :=
 H b=none/\b≠X.env.locals/\b∉X.fs/\(b∈X.ex\/X.s₀.heap.objs.size<=b)/\(∀x c,X.env.cells.lookup x=some c->c≠b)/\∀p∈X.pn ++ OK,p.1≠b
theorem Inv.fpOk{X:Cx}{OK:OI (OE×Obj)}{σ:St}{H H':Hp}{s:F5}{b:OE}(I:Inv X OK σ H s)(hb:s.heap.objs.size<=b)(hn:H' b=none):eK X OK H' b:=by
 refine%[hn,Nat.ne_of_gt (C1 I.lt hb),I.nofs hb,.inr (C5 I.sz hb),λ x c e z=>?_|λ p hp z=>?_]
 ·obtain⟨v,q⟩:=I.cell x c e;exact absurd (C1 q.lt (by rw[z];exact hb)) (C8 _)
 ·exact absurd (C1 (A8 (I.pin p hp).1) (by rw[z];exact hb)) (C8 _)
structure Turn(P:Program)(w:World)(K:C4)(tg:Expr)(J:It)(fp:OI OE)(it:OE)(tn:Nat->Heap->Prop):Prop where
 mem:it∈fp
 obj:∀i h,tn i h->∀b∈fp,∃o,h.get? b=some o/\∀v,o.data≠.cell v
 keep:∀i h h',tn i h->(∀b∈fp,∀o,h.get? b=some o->h'.get? b=some o)->tn i h'
 item:∀(X:Cx),X.prog=P->X.w=w->X.K=K->X.calm=true->∀(i:Nat)(OK:OI (OE×Obj))(s:F5)(σ:St)(H:Hp)(E:F9->F5->Prop),Inv X OK σ H s->(∀b∈fp,eK X OK H b)->tn i s.heap->J.go i H ->
  wpAny (model P w) X.A (pyNext (.ref it)) (λ r s1=>∃u,r=some u /\
   wpAny (model P w) X.A (letOwnedTupleGo tg (.ref it) u) (λ _ s2=>∃x H',Inv X OK σ H' s2/\RelV x u/\J.yld i H x H'/\tn (i+1) s2.heap/\∀b∈fp,H' b=none) E s1) E s
 done:∀(X:Cx),X.prog=P->X.w=w->X.K=K->X.calm=true->∀(i:Nat)(OK:OI (OE×Obj))(s:F5)(σ:St)(H:Hp)(E:F9->F5->Prop),Inv X OK σ H s->(∀b∈fp,eK X OK H b)->tn i s.heap->J.stop i H ->
  wpAny (model P w) X.A (pyNext (.ref it)) (λ r s1=>r=none/\Inv X OK σ H s1) E s
 self:∀(A:Around)(i:Nat)(s:F5)(Q E:F9->F5->Prop),tn i s.heap->Q (.ref it) s->wpAny (model P w) A (pyIter (.ref it)) Q E s
abbrev TI:=St->Hp->(It->Hp->Prop)->Prop
def PIE(X:Cx)(OK:OI (OE×Obj))(σ:St)(tg:Expr)(R:It->Hp->Prop)(itv:F9)(s2:F5):Prop :=
 ∃(it:OE)(fp:OI OE)(tn:Nat->Heap->Prop)(J:It)(H':Hp),itv=.ref it/\Inv X OK σ H' s2/\Turn X.prog X.w X.K tg J fp it tn/\tn 0 s2.heap/\(∀b∈fp,eK X OK H' b)/\R J H'
def PI(X:Cx)(tg iter:Expr)(wi:TI):Prop :=
 ∀(OK:OI (OE×Obj))(s:F5)(σ:St)(H:Hp)(R:It->Hp->Prop),Inv X OK σ H s->wi σ H R ->
  wpAny (model X.prog X.w) X.A (eval iter X.env) (λ v s1=>wpAny (model X.prog X.w) X.A (pyIter v) (PIE X OK σ tg R) X.xe s1) X.xe s
theorem oP{M:Model}{A:Around}{E:F9->F5->Prop}{s:F5}{tg:Expr}{it:OE}{u:F9}{o:Obj}{n:String}{vs:OH F9}{Q:Unit->F5->Prop}(ho:s.heap.get? it=some o)(hc:o.cls=.type n)(hd:o.data=.fields vs)
    (hn:["enumerate","zip","dict_itemiterator","dict_reverseitemiterator","odict_iterator","itertools.zip_longest","itertools.pairwise"].contains n=false) (hQ:Q () s):wpAny M A (letOwnedTupleGo tg (.ref it) u) Q E s:=by
  unfold letOwnedTupleGo;cases tg <;> first
    | exact A1 hQ
    | (cases u <;> first
        | exact A1 hQ
        | (refine A0 (wpAny_load ho ?_)
           rw[hc,hd];show wpAny M A (if (["enumerate","zip","dict_itemiterator","dict_reverseitemiterator","odict_iterator","itertools.zip_longest","itertools.pairwise"].contains n && vs[0]? == some (rawInt _))=true then _ else _) Q E s;rw[OQ (by intro h;rw[hn,J8]at h;cases h)];exact A1 hQ))
def Itl(K:C4)(a:OE):It :=
 %[λ i H=>∃xs x,SqL K H a xs/\xs[i]?=some x,λ i H x H'=>H'=H/\∀xs,SqL K H a xs->xs[i]?=some x|λ i H=>∃xs,SqL K H a xs/\xs.length<=i]
def Itt(K:C4)(a:OE):It :=
 %[λ i H=>∃xs x,SqT K H a xs/\xs[i]?=some x,λ i H x H'=>H'=H/\∀xs,SqT K H a xs->xs[i]?=some x|λ i H=>∃xs,SqT K H a xs/\xs.length<=i]
def Itr(lo:Int)(n:Nat):It:=%[λ i _=>i < n,λ i H x H'=>H'=H/\x=.int (lo+i)|λ i _=>n<=i]
theorem js{P:F6}{w:F8}{K:C4}{tg:Expr}(a it:OE):Turn P w K tg (Itl K a) [it] it (λ i h=>h.IsListIter it a i) where
 mem:=by simp
 obj:=λ i h st b hb=>by
  have e:b=it:=by simpa using hb
  subst e;obtain⟨o,e,c,d⟩:=st;exact%[o,e|λ v z=>by rw[d]at z;cases z]
 keep:=λ i h h' st k=>st.at λ o e=>k it (by simp) o e
 item:=by intro X hP hw hK hc i OK s σ H E I hf st hg;subst hP hw hK;obtain⟨xs,x,hq,hx⟩:=hg;obtain⟨its,rv,p,hz⟩:=I.list hq;obtain⟨u,hu,ru⟩:=rv.get hx;obtain⟨f0,f1,f2,f3,f4,f5⟩:=hf it (by simp);refine wpAny_pyNext_list_item st p.isList (x:=u) (by simpa using hu) λ h' st' sb=>?_;have I1:Inv X OK σ H { s with heap:=h' }:=I.turned (t':=s.toks) (λ b o hb e=>(sb.2 b hb).trans e) f0 f1 f3 f4 f5;obtain⟨o,e,c,d⟩:=id st';exact%[u,O|oP (s:={ s with heap:=h' }) e c d ∅ %[x,H,I1,ru,%[O|λ ys hy=>by rw[I.list_inj hy hq];exact hx],st'|λ b hb=>(hf b hb).1]]
 done:=by intro X hP hw hK hc i OK s σ H E I hf st hg;subst hP hw hK;obtain⟨xs,hq,hx⟩:=hg;obtain⟨its,rv,p,hz⟩:=I.list hq;obtain⟨f0,f1,f2,f3,f4,f5⟩:=hf it (by simp);have hl:=rv.length;exact wpAny_pyNext_list_end (I.ok.hd hc) st p.isList (by simp;lia) λ h' eb=>%[O|I.turned (t':=s.toks) (λ b o hb e=>eb b o hb e) f0 f1 f3 f4 f5]
 self:=λ _ _ _ _ _ st h=>wpAny_pyIter_listiter st h
theorem iz{P:F6}{w:F8}{K:C4}{tg:Expr}(a it:OE):Turn P w K tg (Itt K a) [it] it (λ i h=>h.IsTupleIter it a i) where
 mem:=by simp
 obj:=λ i h st b hb=>by
  have e:b=it:=by simpa using hb
  subst e;obtain⟨o,e,c,d⟩:=st;exact%[o,e|λ v z=>by rw[d]at z;cases z]
 keep:=λ i h h' st k=>st.at λ o e=>k it (by simp) o e
 item:=by intro X hP hw hK hc i OK s σ H E I hf st hg;subst hP hw hK;obtain⟨xs,x,hq,hx⟩:=hg;obtain⟨its,rv,p,hz⟩:=I.tuple hq;obtain⟨u,hu,ru⟩:=rv.get hx;obtain⟨f0,f1,f2,f3,f4,f5⟩:=hf it (by simp);refine wpAny_pyNext_tuple_item st (show s.heap.IsTuple a its.toArray from p) (x:=u) (by simpa using hu) λ h' st' sb=>?_;have I1:Inv X OK σ H { s with heap:=h' }:=I.turned (t':=s.toks) (λ b o hb e=>(sb.2 b hb).trans e) f0 f1 f3 f4 f5;obtain⟨o,e,c,d⟩:=id st';exact%[u,O|oP (s:={ s with heap:=h' }) e c d ∅ %[x,H,I1,ru,%[O|λ ys hy=>by rw[I.tuple_inj hy hq];exact hx],st'|λ b hb=>(hf b hb).1]]
 done:=by intro X hP hw hK hc i OK s σ H E I hf st hg;subst hP hw hK;obtain⟨xs,hq,hx⟩:=hg;obtain⟨its,rv,p,hz⟩:=I.tuple hq;obtain⟨f0,f1,f2,f3,f4,f5⟩:=hf it (by simp);have hl:=rv.length;exact wpAny_pyNext_tuple_end (I.ok.hd hc) st (show s.heap.IsTuple a its.toArray from p) (by simp;lia) λ h' eb=>%[O|I.turned (t':=s.toks) (λ b o hb e=>eb b o hb e) f0 f1 f3 f4 f5]
 self:=λ _ _ _ _ _ st h=>wpAny_pyIter_tupleiter st h
theorem mn{P:F6}{w:F8}{K:C4}{tg:Expr}(it:OE)(lo:Int)(n:Nat):Turn P w K tg (Itr lo n) [it] it (λ i h=>IsRangeIter h it (lo+(i:Nat) * 1) ((n:Int) - (i:Nat)) 1) where
 mem:=by simp
 obj:=λ i h st b hb=>by
  have e:b=it:=by simpa using hb
  subst e;exact⟨_,st,λ v z=>by
   have z':Data.fields _=Data.cell v:=z;cases z'⟩
 keep:=λ i h h' st k=>k it (by simp) _ st
 item:=by intro X hP hw hK hc i OK s σ H E I hf st hg;subst hP hw hK;obtain⟨f0,f1,f2,f3,f4,f5⟩:=hf it (by simp);have W:=Walks.range (prog:=X.prog) (w:=X.w) (I.ok.hd hc) it lo 1 n;refine W.item i s _ _ hg st λ v h' tk hv st' kk=>?_;obtain⟨t,rfl⟩:=hv;have I1:Inv X OK σ H { s with heap:=h',toks:=tk }:=I.turned (λ b o hb e=>kk b o (by simpa using hb) e) f0 f1 f3 f4 f5;refine%[_,O|oP (s:={ s with heap:=h',toks:=tk }) (n := "range_iterator") st' rfl rfl ∅ %[.int (lo+i),H,I1,%[t|?_],%[O|O],st'|λ b hb=>(hf b hb).1]];rw[Int.mul_one]
 done:=by intro X hP hw hK hc i OK s σ H E I hf st hg;subst hP hw hK;obtain⟨f0,f1,f2,f3,f4,f5⟩:=hf it (by simp);exact wpAny_pyNext_range_end (I.ok.hd hc) st (by have:n<=i:=hg;lia) λ h' eb=>%[O|I.turned (t':=s.toks) (λ b o hb e=>eb b o hb e) f0 f1 f3 f4 f5]
 self:=λ _ _ _ _ _ st h=>wpAny_pyIter_rangeiter st h
section
variable{X:Cx}{tg:Expr}
inductive iListA(K:C4)(R:It->Hp->Prop)(x:V)(H1:Hp):Prop
|mk(a:OE)(_:x=.ref a)(_:(∃xs,SqL K H1 a xs))(_:R (Itl K a) H1)
def yq(K:C4)(tl:TE):TI:=λ σ H R=>tl σ H λ x H1=>iListA K R x H1
inductive iTupA(K:C4)(R:It->Hp->Prop)(x:V)(H1:Hp):Prop
|mk(a:OE)(_:x=.ref a)(_:(∃xs,SqT K H1 a xs))(_:R (Itt K a) H1)
def DV(K:C4)(tl:TE):TI:=λ σ H R=>tl σ H λ x H1=>iTupA K R x H1
theorem jX{l:Expr}{tl:TE}(hl:PE X l tl):PI X tg l (yq X.K tl):=by
 intro OK s σ H R I h;refine thn (hl OK s σ H _ I h) ?_;rintro v s1 ⟨x,H1,I1,r1,q1⟩;obtain⟨a,e,⟨xs,hq⟩,q⟩:=q1;subst e;cases r1;obtain⟨its,rv,p,hz⟩:=I1.list hq;refine wpAny_pyIter_list p.isList ?_;refine%[s1.heap.objs.size,[s1.heap.objs.size],_,_,H1,O,I1.kept (t':=s1.toks) λ b o e=>A6 _ e,js a _,%[_,A7 _ rfl,O|O],λ b hb=>?_|q];have e:b=s1.heap.objs.size:=by simpa using hb
 subst e;exact I1.fpOk (B2 _) (I1.hok.fresh (B2 _))
theorem gz{l:Expr}{tl:TE}(hl:PE X l tl):PI X tg l (DV X.K tl):=by
 intro OK s σ H R I h;refine thn (hl OK s σ H _ I h) ?_;rintro v s1 ⟨x,H1,I1,r1,q1⟩;obtain⟨a,e,⟨xs,hq⟩,q⟩:=q1;subst e;cases r1;obtain⟨its,rv,p,hz⟩:=I1.tuple hq;refine wpAny_pyIter_tuple (show s1.heap.IsTuple a its.toArray from p) ?_;refine%[s1.heap.objs.size,[s1.heap.objs.size],_,_,H1,O,I1.kept (t':=s1.toks) λ b o e=>A6 _ e,iz a _,%[_,A7 _ rfl,O|O],λ b hb=>?_|q];have e:b=s1.heap.objs.size:=by simpa using hb
 subst e;exact I1.fpOk (B2 _) (I1.hok.fresh (B2 _))
theorem sK{OK:OI (OE×Obj)}{σ:St}{H:Hp}{s:F5}{R:It->Hp->Prop}{E:F9->F5->Prop}{lo hi:Int}{t u v:Tok}{tk:Nat}(I:Inv X OK σ H s)(h1:-(2 ^ 62)<=lo)(h2:lo < 2 ^ 62)(h3:-(2 ^ 62)<=hi)(h4:hi < 2 ^ 62)
  (q:R (Itr lo (hi - lo).toNat) H):wpAny (model X.prog X.w) X.A (pyIter (.ref s.heap.objs.size)) (PIE X OK σ tg R) E { s with heap:=s.heap.push { cls:=.type "range",data:=.fields #[.int lo t,.int hi u,.int 1 v] },toks:=tk }:=by
 refine wpAny_pyIter_range (IsRange.new ..) (small_one h1 h2 h3 h4) ?_;have I1:Inv X OK σ H { s with heap:=s.heap.push { cls:=.type "range",data:=.fields #[.int lo t,.int hi u,.int 1 v] },toks:=tk }:=I.kept λ b o e=>A6 _ e;refine⟨(s.heap.push { cls:=.type "range",data:=.fields #[.int lo t,.int hi u,.int 1 v] }).objs.size,[(s.heap.push { cls:=.type "range",data:=.fields #[.int lo t,.int hi u,.int 1 v] }).objs.size],_,_,H,O,
  I1.kept (t':=tk) λ b o e=>A6 _ e,mn _ lo (hi - lo).toNat,?_,λ b hb=>?_,q⟩
 ·have e1:lo+((0:Nat):Int) * 1=lo:=by simp
  have e2:(((hi - lo).toNat:Nat):Int) - ((0:Nat):Int)=Builtin.Range.rangeSize lo hi 1:=by rw[rangeSize_one];split <;> lia
  show IsRangeIter _ _ (lo+((0:Nat):Int) * 1) ((((hi - lo).toNat:Nat):Int) - ((0:Nat):Int)) 1;rw[e1,e2];exact A7 _ rfl
 ·have e:b=(s.heap.push { cls:=.type "range",data:=.fields #[.int lo t,.int hi u,.int 1 v] }).objs.size:=by simpa using hb
  subst e;exact I1.fpOk (B2 _) (I1.hok.fresh (B2 _))
def DX(ta:TA):TI:=λ σ H R=>ta σ H λ vs H1=>∃j:Int,vs=[.int j]/\-(2 ^ 62)<=j/\j < 2 ^ 62/\R (Itr 0 j.toNat) H1
theorem gA{a:Expr}{ta:TA}{p pos:Pos}(hg:Gl X "range")(hm:X.mg "range" = none)(ha:PA X [a] ta)(hs:starEach [a] X.env=[(false,eval a X.env)]:=by rfl):PI X tg (.Call (.Name "range" p) [a] [] pos) (DX ta):=by
 intro OK s σ H R I h;refine Call_ (gx I hg hm boot_range (Os (thn (ha pos OK s σ H _ I h) ?_) hs rfl));rintro us s1 ⟨vs,H1,I1,r1,q1⟩;obtain⟨j,e,q1,q2,q⟩:=q1;subst e;cases r1 with
 | cons r rr=>
  cases rr;obtain⟨t,rfl⟩:=r;exact call_range_1 (sK I1 ⋯ ⋯ q1 q2 (by simpa using q))
def DY(wi:TI)(g:TG)(tb:TS):TS:=λ D σ H=>wi σ H λ J H1=>∃W:Nat->Nat->St->Hp->Prop,(∃m,W 0 m σ H1)/\∀i m σ H,W i m σ H ->
 (J.stop i H/\D.nx σ H)\/(J.go i H/\∃N:St->Hp->Prop,(∀σ' H',N σ' H'->∃m',m' < m/\W (i+1) m' σ' H')/\∀x H',J.yld i H x H'->g x σ H' λ σ2 H2=>tb { D with nx:=N,ct:=N,bk:=D.nx } σ2 H2)
def jY(fp:OI OE)(h:Heap):OI (OE×Obj):=fp.filterMap λ b=>(h.get? b).map λ o=>(b,o)
theorem cr{fp:OI OE}{h:Heap}{b:OE}{o:Obj}(hb:b∈fp)(e:h.get? b=some o):(b,o)∈jY fp h:=List.mem_filterMap.mpr %[b,hb|by rw[e];rfl]
theorem qp{fp:OI OE}{h:Heap}{p:OE×Obj}(hp:p∈jY fp h):p.1∈fp/\h.get? p.1=some p.2:=by
 obtain⟨b,hb,e⟩:=List.mem_filterMap.mp hp;cases q:h.get? b with
 | none=>rw[q]at e;cases e
 | some o=>
  rw[q]at e;have e':(b,o)=p:=B8 e;subst e';exact%[hb|q]
theorem Inv.pinned{OK:OI (OE×Obj)}{σ:St}{H:Hp}{s:F5}{fp:OI OE}(I:Inv X OK σ H s)(hf:∀b∈fp,eK X OK H b)(ho:∀b∈fp,∃o,s.heap.get? b=some o/\∀v,o.data≠.cell v):Inv X (OK ++ jY fp s.heap) σ H s :=
 I.pins_of λ p hp=>(C2.mp hp).elim (λ z=>I.pin p (A4 _ z)) λ z=>by obtain⟨hb,e⟩:=qp z;obtain⟨f0,f1,f2,_⟩:=hf p.1 hb;obtain⟨o,e',d⟩:=ho p.1 hb;rw[e]at e';cases e';exact%[e,f0,f1,f2|d]
theorem Inv.unpinned{OK pl:OI (OE×Obj)}{σ:St}{H:Hp}{s:F5}(I:Inv X (OK ++ pl) σ H s):Inv X OK σ H s:=I.pins_of λ p hp=>I.pin p (A4 _ (B6 _ hp))
theorem df{iter:Expr}{body:OI Stmt}{wi:TI}{g:TG}{tb:TS}{pos:Pos}(hp:PassesOwn (model X.prog X.w) X.A X.env X.xe)(hc:X.calm=true)(hi:PI X tg iter wi)(hg:PG X tg g)(hb:PSs X body tb)
  (hs:∀x,foldedSetIterable iter X.env x=pure x:=by intro _;rfl):PS X (.For tg iter body [] pos) (DY wi g tb):=by
 intro OK s σ H D I h;refine wpAny_For (thn (hi OK s σ H _ I h) λ v s1 h1=>thn h1 λ itv s2 h2=>?_) hs;obtain⟨it,fp,tn,J,H2,e,I2,T,st2,f2,W,⟨m0,w0⟩,turn⟩:=h2;subst e;have stat:∀{H':Hp},(∀b∈fp,H' b=none)->∀b∈fp,eK X OK H' b:=λ hn b hb=>%[hn b hb|(f2 b hb).2]
 refine codeAny_forLoop_any (λ n s'=>∃i σ' H',Inv X OK σ' H' s'/\tn i s'.heap/\(∀b∈fp,H' b=none)/\W i n σ' H') ?_ m0 %[0,σ,H2,I2,st2,λ b hb=>(f2 b hb).1|w0];rintro n s3 ⟨i,σ3,H3,I3,st3,fr3,w3⟩;rcases turn i n σ3 H3 w3 with⟨stop,qn⟩ | ⟨go,N,hN,step⟩
 ·refine Ot hp (thn (T.done X rfl rfl rfl hc i OK s3 σ3 H3 X.xe I3 (stat fr3) st3 stop) ?_);rintro r s4 ⟨hr,I4⟩;subst hr;exact Op %[σ3,H3,I4|qn]
 ·refine Ot hp (thn (T.item X rfl rfl rfl hc i OK s3 σ3 H3 X.xe I3 (stat fr3) st3 go) ?_);rintro r s4 ⟨u,hr,h4⟩;subst hr;refine Ot hp (thn h4 ?_);rintro _ s5 ⟨x,H5,I5,r5,y5,st5,fr5⟩;have I5':=I5.pinned (stat fr5) (T.obj _ _ st5);refine Ot hp (thn (hg _ s5 σ3 H5 x u _ I5' r5 (step x H5 y5)) ?_);rintro _ s6 ⟨σ6,H6,I6,q6⟩;refine Ot hp (thn (hb _ s6 σ6 H6 _ I6 q6) λ f s7 q7=>?_);have again:∀{σ7:St}{H7:Hp},Inv X (OK ++ jY fp s5.heap) σ7 H7 s7->N σ7 H7->∃m,m < n/\∃i σ' H',Inv X OK σ' H' s7/\tn i s7.heap/\(∀b∈fp,H' b=none)/\W i m σ' H':=λ {σ7 H7} I7 n7=>by obtain⟨m',hm,w7⟩:=hN σ7 H7 n7;refine%[m',hm,i+1,σ7,H7,I7.unpinned,T.keep _ _ _ st5 λ b hb o e=>(I7.pin (b,o) (A4 _ (A4 _ (cr hb e)))).1,λ b hb=>?_|w7];obtain⟨o,e,d⟩:=T.obj _ _ st5 b hb;exact(I7.pin (b,o) (A4 _ (A4 _ (cr hb e)))).2.1
  cases f with
  | next=>obtain⟨σ7,H7,I7,n7⟩:=q7;exact again I7 n7
  | cont=>obtain⟨σ7,H7,I7,n7⟩:=q7;exact again I7 n7
  | brk=>obtain⟨σ7,H7,I7,q7⟩:=q7;exact%[σ7,H7,I7.unpinned|q7]
  | ret v=>obtain⟨x7,σ7,H7,I7,r7,q7⟩:=q7;exact%[x7,σ7,H7,I7.unpinned,r7|q7]
end
theorem iA{K:C4}{a:OE}{xs:OI V}{g:TG}{tb:TS}{D:Ends}{σ:St}{H:Hp}(Pv:Nat->St->Hp->Prop)(h0:Pv 0 σ H)(hl:∀i σ H,i<=xs.length->Pv i σ H->SqL K H a xs)
  (hs:∀i x σ H,xs[i]?=some x->Pv i σ H->g x σ H λ σ2 H2=>tb { D with nx:=Pv (i+1),ct:=Pv (i+1),bk:=D.nx } σ2 H2) (hd:∀σ H,Pv xs.length σ H->D.nx σ H) :
  ∃W:Nat->Nat->St->Hp->Prop,(∃m,W 0 m σ H)/\∀i m σ H,W i m σ H ->
   ((Itl K a).stop i H/\D.nx σ H)\/((Itl K a).go i H/\∃N:St->Hp->Prop,(∀σ' H',N σ' H'->∃m',m' < m/\W (i+1) m' σ' H')/\∀x H',(Itl K a).yld i H x H'->g x σ H' λ σ2 H2=>tb { D with nx:=N,ct:=N,bk:=D.nx } σ2 H2):=by
 refine%[λ i m σ H=>m=xs.length - i/\i<=xs.length/\Pv i σ H,%[xs.length,by simp,E6 _|h0]|?_];rintro i m σ H ⟨rfl,hi,p⟩;have q:=hl i σ H hi p
 by_cases hlt:i < xs.length
 ·refine .inr %[%[xs,xs[i],q|by simp[hlt]],Pv (i+1),λ σ' H' p'=>%[xs.length - (i+1),⋯,O,hlt|p']|λ x H' y=>?_];obtain⟨e,y⟩:=y;subst e;exact hs i x σ _ (y xs q) p
 ·have e:i=xs.length:=⋯
  subst e;exact .inl %[%[xs,q|B2 _]|hd σ H p]
theorem ia{K:C4}{a:OE}{xs:OI V}{g:TG}{tb:TS}{D:Ends}{σ:St}{H:Hp}(Pv:Nat->St->Hp->Prop)(h0:Pv 0 σ H)(hl:∀i σ H,i<=xs.length->Pv i σ H->SqT K H a xs)
  (hs:∀i x σ H,xs[i]?=some x->Pv i σ H->g x σ H λ σ2 H2=>tb { D with nx:=Pv (i+1),ct:=Pv (i+1),bk:=D.nx } σ2 H2) (hd:∀σ H,Pv xs.length σ H->D.nx σ H) :
  ∃W:Nat->Nat->St->Hp->Prop,(∃m,W 0 m σ H)/\∀i m σ H,W i m σ H ->
   ((Itt K a).stop i H/\D.nx σ H)\/((Itt K a).go i H/\∃N:St->Hp->Prop,(∀σ' H',N σ' H'->∃m',m' < m/\W (i+1) m' σ' H')/\∀x H',(Itt K a).yld i H x H'->g x σ H' λ σ2 H2=>tb { D with nx:=N,ct:=N,bk:=D.nx } σ2 H2):=by
 refine%[λ i m σ H=>m=xs.length - i/\i<=xs.length/\Pv i σ H,%[xs.length,by simp,E6 _|h0]|?_];rintro i m σ H ⟨rfl,hi,p⟩;have q:=hl i σ H hi p
 by_cases hlt:i < xs.length
 ·refine .inr %[%[xs,xs[i],q|by simp[hlt]],Pv (i+1),λ σ' H' p'=>%[xs.length - (i+1),⋯,O,hlt|p']|λ x H' y=>?_];obtain⟨e,y⟩:=y;subst e;exact hs i x σ _ (y xs q) p
 ·have e:i=xs.length:=⋯
  subst e;exact .inl %[%[xs,q|B2 _]|hd σ H p]
theorem gB{lo:Int}{n:Nat}{g:TG}{tb:TS}{D:Ends}{σ:St}{H:Hp}(Pv:Nat->St->Hp->Prop)(h0:Pv 0 σ H)
  (hs:∀i σ H,i < n->Pv i σ H->g (.int (lo+i)) σ H λ σ2 H2=>tb { D with nx:=Pv (i+1),ct:=Pv (i+1),bk:=D.nx } σ2 H2) (hd:∀σ H,Pv n σ H->D.nx σ H) :
  ∃W:Nat->Nat->St->Hp->Prop,(∃m,W 0 m σ H)/\∀i m σ H,W i m σ H ->
   ((Itr lo n).stop i H/\D.nx σ H)\/((Itr lo n).go i H/\∃N:St->Hp->Prop,(∀σ' H',N σ' H'->∃m',m' < m/\W (i+1) m' σ' H')/\∀x H',(Itr lo n).yld i H x H'->g x σ H' λ σ2 H2=>tb { D with nx:=N,ct:=N,bk:=D.nx } σ2 H2):=by
 refine%[λ i m σ H=>m=n - i/\i<=n/\Pv i σ H,%[n,by simp,E6 _|h0]|?_];rintro i m σ H ⟨rfl,hi,p⟩
 by_cases hlt:i < n
 ·refine .inr %[hlt,Pv (i+1),λ σ' H' p'=>%[n - (i+1),⋯,O,hlt|p']|λ x H' y=>?_];obtain⟨e,y⟩:=y;subst e y;exact hs i σ _ hlt p
 ·have e:i=n:=⋯
  subst e;exact .inl %[B2 _|hd σ H p]
abbrev R2:=V->V->Hp->VK->Prop
def OpR(X:Cx)(f:F9->F9->Sem F9)(r:R2):Prop :=
 ∀(OK:OI (OE×Obj))(s:F5)(σ:St)(H:Hp)(x y:V)(v u:F9)(Q:VK),Inv X OK σ H s->RelV x v->RelV y u->r x y H Q ->
  wpAny (model X.prog X.w) X.A (f v u) (EP X OK σ Q) X.xe s
def UnR(X:Cx)(f:F9->Sem F9)(r:V->Hp->VK->Prop):Prop :=
 ∀(OK:OI (OE×Obj))(s:F5)(σ:St)(H:Hp)(x:V)(v:F9)(Q:VK),Inv X OK σ H s->RelV x v->r x H Q ->
  wpAny (model X.prog X.w) X.A (f v) (EP X OK σ Q) X.xe s
def ck(X:Cx)(f:F9)(r:OI V->Hp->VK->Prop):Prop :=
 ∀(OK:OI (OE×Obj))(s:F5)(σ:St)(H:Hp)(xs:OI V)(us:OI F9)(Q:VK),Inv X OK σ H s->Vals xs us->r xs H Q ->
  wpAny (model X.prog X.w) X.A (call f us) (EP X OK σ Q) X.xe s
def Li(X:Cx)(r:V->Hp->(Bool->Hp->Prop)->Prop):Prop :=
 ∀(OK:OI (OE×Obj))(s:F5)(σ:St)(H:Hp)(x:V)(v:F9)(Q:Bool->Hp->Prop),Inv X OK σ H s->RelV x v->r x H Q ->
  wpAny (model X.prog X.w) X.A (truthy v) (TP X OK σ Q) X.xe s
def tOp(r:R2)(ta tb:TE):TE:=λ σ H Q=>ta σ H λ x H1=>tb σ H1 λ y H2=>r x y H2 Q
def tUn(r:V->Hp->VK->Prop)(ta:TE):TE:=λ σ H Q=>ta σ H λ x H1=>r x H1 Q
inductive rI(C:Int->Int->Prop)(g:Int->Int->V)(x:V)(y:V)(H:Hp)(Q:VK):Prop
|mk(i j:Int)(_:x=.int i)(_:y=.int j)(_:C i j)(_:Q (g i j) H)
inductive rI0(g:Int->Int->V)(x:V)(y:V)(H:Hp)(Q:VK):Prop
|mk(i j:Int)(_:x=.int i)(_:y=.int j)(_:Q (g i j) H)
def rU(g:Int->V):V->Hp->VK->Prop:=λ x H Q=>∃i,x=.int i/\Q (g i) H
section
variable{X:Cx}{a b c:Expr}{ta tb tc:TE}{pos:Pos}
theorem yV(ha:PE X a ta)(hb:PE X b tb){OK:OI (OE×Obj)}{s:F5}{σ:St}{H:Hp}{R:V->V->Hp->Prop}(I:Inv X OK σ H s)
  (h:ta σ H λ x H1=>tb σ H1 λ y H2=>R x y H2) {Q:F9->F5->Prop} {f:F9->F9->Sem F9}
  (hf:∀v u s2 x y H2,Inv X OK σ H2 s2->RelV x v->RelV y u->R x y H2->wpAny (model X.prog X.w) X.A (f v u) Q X.xe s2) :
  wpAny (model X.prog X.w) X.A (eval a X.env) (λ v s₁=>wpAny (model X.prog X.w) X.A (eval b X.env) (λ u s₂=>wpAny (model X.prog X.w) X.A (f v u) Q X.xe s₂) X.xe s₁) X.xe s:=by
 refine thn (ha OK s σ H _ I h) ?_;rintro v s1 ⟨x,H1,I1,r1,q1⟩;refine thn (hb OK s1 σ H1 _ I1 q1) ?_;rintro u s2 ⟨y,H2,I2,r2,q2⟩;exact hf v u s2 x y H2 I2 r1 r2 q2
theorem aD{op:Operator}{r:R2}(ho:OpR X (binaryOp op) r)(ha:PE X a ta)(hb:PE X b tb):PE X (.BinOp a op b pos) (tOp r ta tb):=by intro OK s σ H Q I h;exact wpAny_BinOp (yV ha hb I h λ v u s2 x y H2 I2 rx ry q=>ho OK s2 σ H2 x y v u Q I2 rx ry q)
theorem iB{op:UnaryOp}{r:V->Hp->VK->Prop}(ho:UnR X (unaryOp op) r)(ha:PE X a ta):PE X (.UnaryOp op a pos) (tUn r ta):=by intro OK s σ H Q I h;exact UnaryOp_ (thn (ha OK s σ H _ I h) λ v s1 %[x,H1,I1,r1|q1]=>ho OK s1 σ H1 x v Q I1 r1 q1)
theorem opI{f:F9->F9->Sem F9}{C:Int->Int->Prop}{g:Int->Int->Int}
  (rule:∀(i j:Int)(t u:Tok)(s:F5)(Q E:F9->F5->Prop),C i j->Q (.int (g i j) s.toks) { s with toks:=s.toks+1 }->wpAny (model X.prog X.w) X.A (f (.int i t) (.int j u)) Q E s) :
  OpR X f (rI C λ i j=>.int (g i j)):=by
 intro OK s σ H x y v u Q I rx ry h;obtain⟨i,j,rfl,rfl,hc,q⟩:=h;obtain⟨t,rfl⟩:=rx;obtain⟨t',rfl⟩:=ry;exact rule i j t t' s _ _ hc %[.int (g i j),H,I.tok _,%[_|rfl]|q]
theorem DZ{f:F9->F9->Sem F9}{g:Int->Int->Int}
  (rule:∀(i j:Int)(t u:Tok)(s:F5)(Q E:F9->F5->Prop),Q (.int (g i j) s.toks) { s with toks:=s.toks+1 }->wpAny (model X.prog X.w) X.A (f (.int i t) (.int j u)) Q E s) :
  OpR X f (rI0 λ i j=>.int (g i j)):=by
 intro OK s σ H x y v u Q I rx ry h;obtain⟨i,j,rfl,rfl,q⟩:=h;obtain⟨t,rfl⟩:=rx;obtain⟨t',rfl⟩:=ry;exact rule i j t t' s _ _ %[.int (g i j),H,I.tok _,%[_|rfl]|q]
theorem vS{f:F9->F9->Sem F9}{g:Int->Int->Bool}
  (rule:∀(i j:Int)(t u:Tok)(s:F5)(Q E:F9->F5->Prop),Q (.bool (g i j)) s->wpAny (model X.prog X.w) X.A (f (.int i t) (.int j u)) Q E s) :
  OpR X f (rI0 λ i j=>.bl (g i j)):=by
 intro OK s σ H x y v u Q I rx ry h;obtain⟨i,j,rfl,rfl,q⟩:=h;obtain⟨t,rfl⟩:=rx;obtain⟨t',rfl⟩:=ry;exact rule i j t t' s _ _ %[.bl (g i j),H,I,rfl|q]
def Lj(i j:Int):Prop:=0 < j/\j < 1073741824
def Lk(i j:Int):Prop:=0<=j/\j<=1000000/\i.natAbs < 2 ^ 64
def CMul(i j:Int):Prop:=(-(2 ^ 64) < i/\i < 2 ^ 64)\/(-(2 ^ 64) < j/\j < 2 ^ 64)
theorem CMul.ok{i j:Int}(h:CMul i j):IntMulOk i j:=by
 rcases h with⟨h1,h2⟩ | ⟨h1,h2⟩
 ·exact .of_left (intBits_le_64 h1 h2)
 ·exact .of_right (intBits_le_64 h1 h2)
theorem aX:OpR X (binaryOp .Add) (rI0 λ i j=>.int (i+j)):=DZ λ _ _ _ _ _ _ _ q=>add_int q
theorem bH:OpR X (binaryOp .Sub) (rI0 λ i j=>.int (i - j)):=DZ λ _ _ _ _ _ _ _ q=>sub_int q
theorem fM:OpR X (binaryOp .Mult) (rI CMul λ i j=>.int (i * j)):=opI λ _ _ _ _ _ _ _ hc q=>mul_int q hc.ok
theorem iC:OpR X (binaryOp .Mod) (rI (λ _ j=>0 < j) λ i j=>.int (i % j)):=opI λ i j _ _ _ _ _ hc q=>by have h1:(0:Int) < j:=hc;exact mod_int' ⋯ (by rw[Int.fmod_eq_emod_of_nonneg i ⋯];exact q)
theorem fN:OpR X (binaryOp .Pow) (rI Lk λ i j=>.int (i ^ j.toNat)):=opI λ _ _ _ _ _ _ _ hc q=>pow_int_small hc.1 hc.2.1 hc.2.2 q
theorem unI{f:F9->Sem F9}{g:Int->Int}
  (rule:∀(i:Int)(t:Tok)(s:F5)(Q E:F9->F5->Prop),Q (.int (g i) s.toks) { s with toks:=s.toks+1 }->wpAny (model X.prog X.w) X.A (f (.int i t)) Q E s) :
  UnR X f (rU λ i=>.int (g i)):=by
 intro OK s σ H x v Q I rx h;obtain⟨i,rfl,q⟩:=h;obtain⟨t,rfl⟩:=rx;exact rule i t s _ _ %[.int (g i),H,I.tok _,%[_|rfl]|q]
theorem fO:UnR X (unaryOp .USub) (rU λ i=>.int (-i)):=unI λ _ _ _ _ _ q=>neg_int q
inductive rz_op_add_ib(x:V)(y:V)(H:Hp)(Q:VK):Prop
|mk(i k:_)(_:x=.int i)(_:y=.bl k)(_:Q (.int (i+b2i k)) H)
end
def Ea:V->V->Bool
 | .non,.non=>true | .non,.int _=>true | .int _,.non=>true | .non,.bl _=>true | .bl _,.non=>true | .non,.str _=>true | .str _,.non=>true
 | .int _,.int _=>true | .bl _,.bl _=>true | .str _,.str _=>true | .byt _,.byt _=>true
 | .int _,.str _=>true | .str _,.int _=>true | .bl _,.str _=>true | .str _,.bl _=>true
 | _,_=>false
def rEq:R2:=λ x y H Q=>Ea x y=true/\Q (.bl (decide (x=y))) H
def rNe:R2:=λ x y H Q=>Ea x y=true/\Q (.bl (!decide (x=y))) H
theorem jZ{i j:Int}:decide (V.int i=V.int j)=(i == j):=by rw[N2];simp
theorem sL{i j:Bool}:decide (V.bl i=V.bl j)=(i == j):=by rw[N2];simp
theorem oQ{i j:Str}:decide (V.str i=V.str j)=(i == j):=by rw[N2];simp
theorem oR{i j:OH UInt8}:decide (V.byt i=V.byt j)=(i.toList == j.toList):=by rw[N2];cases i;cases j;simp
section
variable{X:Cx}{a b c:Expr}{ta tb tc:TE}{pos:Pos}
theorem aY{OK:OI (OE×Obj)}{σ:St}{H:Hp}{s:F5}{Q:VK}{k k':Bool}(I:Inv X OK σ H s)(q:Q (.bl k) H)(e:k=k'):EP X OK σ Q (.bool k') s:=by subst e;exact%[.bl k,H,I,O|q]
theorem bc:OpR X (compareOp .Eq) rEq:=by
 intro OK s σ H x y v u Q I rx ry h;obtain⟨hs,q⟩:=h;cases x with
 | non=>
  cases rx;cases y with
  | non=>cases ry;exact PySem.EqNone.eq_none_none (aY I q (by simp))
  | bl j=>cases ry;exact PySem.EqNone.eq_none_bool (aY I q (by simp))
  | int j=>obtain⟨t',rfl⟩:=ry;exact PySem.EqNone.eq_none_int (aY I q (by simp))
  | str j=>obtain⟨t',rfl⟩:=ry;exact PySem.EqNone.eq_none_str (aY I q (by simp))
  | _=>exact absurd (show false=true from hs) B1
 | bl i=>
  cases rx;cases y with
  | non=>cases ry;exact PySem.EqNone.eq_bool_none (aY I q (by simp))
  | bl j=>cases ry;exact eq_bool (aY I q sL)
  | str j=>obtain⟨t',rfl⟩:=ry;exact PySem.EqMixed.eq_bool_str (aY I q (by simp))
  | _=>exact absurd (show false=true from hs) B1
 | int i=>
  obtain⟨t,rfl⟩:=rx;cases y with
  | non=>cases ry;exact PySem.EqNone.eq_int_none (aY I q (by simp))
  | int j=>obtain⟨t',rfl⟩:=ry;exact eq_int (aY I q jZ)
  | str j=>obtain⟨t',rfl⟩:=ry;exact PySem.EqMixed.eq_int_str (aY I q (by simp))
  | _=>exact absurd (show false=true from hs) B1
 | str i=>
  obtain⟨t,rfl⟩:=rx;cases y with
  | non=>cases ry;exact PySem.EqNone.eq_str_none (aY I q (by simp))
  | bl j=>cases ry;exact PySem.EqMixed.eq_str_bool (aY I q (by simp))
  | int j=>obtain⟨t',rfl⟩:=ry;exact PySem.EqMixed.eq_str_int (aY I q (by simp))
  | str j=>obtain⟨t',rfl⟩:=ry;exact eq_str (aY I q oQ)
  | _=>exact absurd (show false=true from hs) B1
 | byt i=>
  obtain⟨t,rfl⟩:=rx;cases y with
  | byt j=>obtain⟨t',rfl⟩:=ry;exact PySem.W.eq_bytes (aY I q oR)
  | _=>exact absurd (show false=true from hs) B1
 | _=>cases y <;> exact absurd (show false=true from hs) B1
theorem cI:OpR X (compareOp .NotEq) rNe:=by
 intro OK s σ H x y v u Q I rx ry h;obtain⟨hs,q⟩:=h;cases x with
 | non=>
  cases rx;cases y with
  | non=>cases ry;exact PySem.EqNone.ne_none_none (aY I q (by simp))
  | bl j=>cases ry;exact PySem.EqNone.ne_none_bool (aY I q (by simp))
  | int j=>obtain⟨t',rfl⟩:=ry;exact PySem.EqNone.ne_none_int (aY I q (by simp))
  | str j=>obtain⟨t',rfl⟩:=ry;exact PySem.EqNone.ne_none_str (aY I q (by simp))
  | _=>exact absurd (show false=true from hs) B1
 | bl i=>
  cases rx;cases y with
  | non=>cases ry;exact PySem.EqNone.ne_bool_none (aY I q (by simp))
  | bl j=>cases ry;exact ne_bool (aY I q (On not sL))
  | str j=>obtain⟨t',rfl⟩:=ry;exact PySem.EqMixed.ne_bool_str (aY I q (by simp))
  | _=>exact absurd (show false=true from hs) B1
 | int i=>
  obtain⟨t,rfl⟩:=rx;cases y with
  | non=>cases ry;exact PySem.EqNone.ne_int_none (aY I q (by simp))
  | int j=>obtain⟨t',rfl⟩:=ry;exact ne_int (aY I q (On not jZ))
  | str j=>obtain⟨t',rfl⟩:=ry;exact PySem.EqMixed.ne_int_str (aY I q (by simp))
  | _=>exact absurd (show false=true from hs) B1
 | str i=>
  obtain⟨t,rfl⟩:=rx;cases y with
  | non=>cases ry;exact PySem.EqNone.ne_str_none (aY I q (by simp))
  | bl j=>cases ry;exact PySem.EqMixed.ne_str_bool (aY I q (by simp))
  | int j=>obtain⟨t',rfl⟩:=ry;exact PySem.EqMixed.ne_str_int (aY I q (by simp))
  | str j=>obtain⟨t',rfl⟩:=ry;exact ne_str (aY I q (On not oQ))
  | _=>exact absurd (show false=true from hs) B1
 | byt i=>
  obtain⟨t,rfl⟩:=rx;cases y with
  | byt j=>obtain⟨t',rfl⟩:=ry;exact PySem.W.ne_bytes (aY I q (On not oR))
  | _=>exact absurd (show false=true from hs) B1
 | _=>cases y <;> exact absurd (show false=true from hs) B1
theorem jt:OpR X (compareOp .Lt) (rI0 λ i j=>.bl (decide (i < j))):=vS λ _ _ _ _ _ _ _ q=>lt_int q
theorem gW:OpR X (compareOp .LtE) (rI0 λ i j=>.bl (decide (i<=j))):=vS λ _ _ _ _ _ _ _ q=>le_int q
theorem yr:OpR X (compareOp .Gt) (rI0 λ i j=>.bl (decide (j < i))):=vS λ _ _ _ _ _ _ _ q=>gt_int q
theorem sM:OpR X (compareOp .GtE) (rI0 λ i j=>.bl (decide (j<=i))):=vS λ _ _ _ _ _ _ _ q=>ge_int q
inductive rz_op_lt_str(x:V)(y:V)(H:Hp)(Q:VK):Prop
|mk(i j:_)(_:x=.str i)(_:y=.str j)(_:Q (.bl (decide (i.cps.toList < j.cps.toList))) H)
inductive rz_op_in_str(x:V)(y:V)(H:Hp)(Q:VK):Prop
|mk(i j:_)(_:x=.str i)(_:y=.str j)(_:Q (.bl (!(Builtin.Str.occurrences j i 0 j.length 1).isEmpty)) H)
theorem yW:OpR X (compareOp .Is) (λ x y H Q=>y=.non/\Q (.bl (decide (x=.non))) H):=by
 intro OK s σ H x y v u Q I rx ry h;obtain⟨rfl,q⟩:=h;cases ry;refine is_none_gen (aY I q ?_);cases x <;> first
  | (cases rx;rfl)
  | (obtain⟨t,rfl⟩:=rx;rfl)
inductive rz_op_notin_str(x:V)(y:V)(H:Hp)(Q:VK):Prop
|mk(i j:_)(_:x=.str i)(_:y=.str j)(_:Q (.bl (!(!(Builtin.Str.occurrences j i 0 j.length 1).isEmpty))) H)
def oS:HO->Bool
 | .lst _=>true
 | .ins _ _ _=>true
 | _=>false
inductive rz_op_is_ref(x:V)(y:V)(H:Hp)(Q:VK):Prop
|mk(a b oa ob:_)(_:x=.ref a)(_:y=.ref b)(_:H a=some oa)(_:oS oa=true)(_:H b=some ob)(_:oS ob=true)(_:Q (.bl (decide (a=b))) H)
inductive rz_op_isnot_ref(x:V)(y:V)(H:Hp)(Q:VK):Prop
|mk(a b oa ob:_)(_:x=.ref a)(_:y=.ref b)(_:H a=some oa)(_:oS oa=true)(_:H b=some ob)(_:oS ob=true)(_:Q (.bl (!decide (a=b))) H)
theorem aB(b:Expr){op:CmpOp}(h:op≠.In:=by decide)(h2:op≠.NotIn:=by decide):behindInMarks op b=false:=by
 have e1:(op == CmpOp.In)=false:=by cases op <;> first | rfl | exact absurd rfl h
 have e2:(op == CmpOp.NotIn)=false:=by cases op <;> first | rfl | exact absurd rfl h2
 cases b <;> simp[behindInMarks,e1,e2]
theorem bh{op:CmpOp}{r:R2}(ho:OpR X (compareOp op) r)(ha:PE X a ta)(hb:PE X b tb)(hm:behindInMarks op b=false):PE X (.Compare a [op] [b] pos) (tOp r ta tb):=by intro OK s σ H Q I h;exact wpAny_Compare1 (yV ha hb I h λ v u s2 x y H2 I2 rx ry q=>ho OK s2 σ H2 x y v u Q I2 rx ry q) hm
def yt(t:TE):TT:=λ σ H Q=>t σ H λ x H'=>IsB x λ k=>Q k H'
theorem ay{op:CmpOp}{r:R2}(ho:OpR X (compareOp op) r)(ha:PE X a ta)(hb:PE X b tb)(hm:behindInMarks op b=false):PT X (.Compare a [op] [b] pos) (yt (tOp r ta tb)):=by
 intro OK s σ H Q I h;refine wpAny_isTrue_Compare1 (thn (ha OK s σ H _ I h) λ v s1 %[x,H1,I1,r1|q1]=>thn (hb OK s1 σ H1 _ I1 q1) λ u s2 %[y,H2,I2,r2|q2]=>
  thn (ho OK s2 σ H2 x y v u _ I2 r1 r2 q2) λ c s3 %[z,H3,I3,r3,k,e|q3]=>?_) hm
 subst e;cases r3;exact F1 %[H3,I3|q3]
def yX(r r':R2)(ta tb tc:TE):TE:=λ σ H Q=>ta σ H λ x H1=>tb σ H1 λ y H2=>r x y H2 λ z H3=>∃k,z=.bl k /\
 (if k=true then tc σ H3 λ w' H4=>r' y w' H4 Q else Q (.bl false) H3)
theorem sN{op op':CmpOp}{r r':R2}(ho:OpR X (compareOp op) r)(ho':OpR X (compareOp op') r')(ha:PE X a ta)(hb:PE X b tb)(hc:PE X c tc)
  (hm:lastMarks [op,op'] [b,c]=false:=by with_unfolding_all rfl):PT X (.Compare a [op,op'] [b,c] pos) (yt (yX r r' ta tb tc)):=by
 intro OK s σ H Q I h;refine isTrue_chain (thn (ha OK s σ H _ I h) λ v s1 %[x,H1,I1,r1|q1]=>test_link (thn (hb OK s1 σ H1 _ I1 q1) λ u s2 %[y,H2,I2,r2|q2]=>
  thn (ho OK s2 σ H2 x y v u _ I2 r1 r2 q2) λ d s3 %[z,H3,I3,r3,k,e|q3]=>?_)) hm
 subst e;cases r3;refine F1 ?_;cases k with
 | false=>
  obtain⟨k',e',q'⟩:=q3;cases e';exact ite_ff %[H3,I3|q']
 | true=>
  refine ite_tt (test_last (thn (hc OK s3 σ H3 _ I3 q3) ?_));rintro w' s4 ⟨z',H4,I4,r4,q4⟩;refine thn (ho' OK s4 σ H4 y z' u w' _ I4 r2 r4 q4) ?_;rintro d' s5 ⟨z2,H5,I5,r5,k2,e2,q5⟩;subst e2;cases r5;exact F1 %[H5,I5|q5]
def Eb(K:C4)(x:V)(H:Hp)(k:Bool):Prop :=
 match x with
 | .non=>k=false
 | .bl b=>k=b
 | .int i=>k=(i != 0)
 | .str y=>y.length<=sizeLine/\k=((y.length:Int) != 0)
 | .byt y=>y.size<=sizeLine/\k=((y.size:Int) != 0)
 | .ref p=>(∃xs,SqL K H p xs/\k=!xs.isEmpty)\/(∃xs,SqT K H p xs/\k=!xs.isEmpty)\/∃kvs,H p=some (.dK kvs)/\k=!kvs.isEmpty
 | _=>False
theorem mo{κ:Type}{kvs:OI (κ×V)}{vs:OI (κ×F9)}(r:KV kvs vs):(!vs.isEmpty)=!kvs.isEmpty:=by cases r <;> rfl
theorem iD{xs:OI V}{its:OI F9}(r:Vals xs its):(!its.toArray.isEmpty)=!xs.isEmpty:=by cases r <;> simp
theorem gC:(sizeLine:Nat) < 2 ^ 63:=by rw[sizeLine_eq];decide
theorem yY:Li X (λ x H Q=>∃k,Eb X.K x H k/\Q k H):=by
 intro OK s σ H x v Q I rx h;obtain⟨k,e,q⟩:=h;have hl:=gC;have hs:sizeLine=16777216:=sizeLine_eq;cases x with
 | non=>
  cases rx;have e':k=false:=e;subst e';exact truthy_none %[H,I|q]
 | bl b=>
  cases rx;have e':k=b:=e;subst e';exact F1 %[H,I|q]
 | int i=>
  obtain⟨t,rfl⟩:=rx;have e':k=(i != 0):=e;subst e';exact PySem.P.truthy_int %[H,I|q]
 | str y=>
  obtain⟨t,rfl⟩:=rx;obtain⟨hy,e'⟩:y.length<=sizeLine/\k=((y.length:Int) != 0):=e;subst e';exact PySem.P.truthy_str ⋯ %[H,I.tok _|q]
 | byt y=>
  obtain⟨t,rfl⟩:=rx;obtain⟨hy,e'⟩:y.size<=sizeLine/\k=((y.size:Int) != 0):=e;subst e';exact PySem.W.truthy_bytes ⋯ %[H,I.tok _|q]
 | ref p=>
  cases rx;have e':(∃xs,SqL X.K H p xs/\k=!xs.isEmpty)\/(∃xs,SqT X.K H p xs/\k=!xs.isEmpty)\/∃kvs,H p=some (.dK kvs)/\k=!kvs.isEmpty:=e;rcases e' with⟨xs,hx,e'⟩ | ⟨xs,hx,e'⟩ | ⟨kvs,hx,e'⟩
  ·subst e';obtain⟨its,r,pl,hz⟩:=I.list hx;have OM:=r.length;exact wpAny_truthy_list pl.isList (by simp only[G7];lia) %[H,I.tok _|by rw[iD r];exact q]
  ·subst e';obtain⟨its,r,pl,hz⟩:=I.tuple hx;have OM:=r.length;exact truthy_tuple pl (by simp only[G7];lia) %[H,I.tok _|by rw[iD r];exact q]
  ·subst e';obtain⟨hz,hS,vs,r,m⟩:kvs.length<=sizeLine/\(p == sysModules)=false/\∃vs,KV kvs vs/\s.heap.DictOf (hZ X.prog X.w) p vs:=I.hok p _ hx;have OM:kvs.length=vs.length:=E1 r;exact wpAny_truthy_dict hS m ⋯ %[H,I.tok _|by rw[mo r];exact q]
 | _=>exact(show False from e).elim
theorem lr(ha:PE X a ta)(he:∀aR,isTrue a X.env aR=(do let v<-aR;standAt a.pos;holding [v] (truthy v))) :
  PT X a (λ σ H Q=>ta σ H λ x H'=>∃k,Eb X.K x H' k/\Q k H'):=by
 intro OK s σ H Q I h;exact isTrue_plain (thn (ha OK s σ H _ I h) λ v s1 %[x,H1,I1,r1|q1]=>yY OK s1 σ H1 x v Q I1 r1 q1) (he _)
inductive rz_op_add_str(x:V)(y:V)(H:Hp)(Q:VK):Prop
|mk(i j:_)(_:x=.str i)(_:y=.str j)(_:i.length+j.length<=sizeLine)(_:Q (.str (i ++ j)) H)
inductive rz_iop_add_str(x:V)(y:V)(H:Hp)(Q:VK):Prop
|mk(i j:_)(_:x=.str i)(_:y=.str j)(_:i.length+j.length<=sizeLine)(_:Q (.str (i ++ j)) H)
inductive rz_op_add_byt(x:V)(y:V)(H:Hp)(Q:VK):Prop
|mk(i j:_)(_:x=.byt i)(_:y=.byt j)(_:i.size+j.size<=16777216)(_:Q (.byt (i ++ j)) H)
theorem gb{x:V}{us:OI F9}(r:Vals [x] us):∃u,us=[u]/\RelV x u:=by
 cases r with
 | cons r1 r2=>cases r2;exact%[_,O|r1]
theorem yu{x y:V}{us:OI F9}(r:Vals [x,y] us):∃u w',us=[u,w']/\RelV x u/\RelV y w':=by
 cases r with
 | cons r1 r2=>
  cases r2 with
  | cons r3 r4=>cases r4;exact%[_,_,O,r1|r3]
inductive rz_call_abs(xs:OI V)(H:Hp)(Q:VK):Prop
|mk(i:_)(_:xs=[.int i])(_:Q (.int (if i < 0 then -i else i)) H)
theorem lw:ck X (.builtin "abs") (rz_call_abs):=by intro OK s σ H xs us Q I r h;obtain⟨i,rfl,q⟩:=h;obtain⟨u,rfl,t,rfl⟩:=gb r;exact call_abs_int λ u tk=>%[.int (if i < 0 then -i else i),H,I.tok _,%[_|O]|q]
inductive rz_call_max2(xs:OI V)(H:Hp)(Q:VK):Prop
|mk(i j:_)(_:xs=[.int i,.int j])(_:Q (.int (if j > i then j else i)) H)
theorem ju(hc:X.calm=true):ck X (.builtin "max") (rz_call_max2):=by
 intro OK s σ H xs us Q I r h;obtain⟨i,j,rfl,q⟩:=h;obtain⟨u,w',rfl,⟨t,rfl⟩,⟨t',rfl⟩⟩:=yu r;refine max_two_ints (I.ok.hd hc) λ h' tk k=>%[_,H,I.kept k,?_|q]
 by_cases hj:j > i
 ·rw[OR hj,OR hj];exact%[_|O]
 ·rw[OQ hj,OQ hj];exact%[_|O]
inductive rz_call_min2(xs:OI V)(H:Hp)(Q:VK):Prop
|mk(i j:_)(_:xs=[.int i,.int j])(_:Q (.int (if j < i then j else i)) H)
theorem gD(hc:X.calm=true):ck X (.builtin "min") (rz_call_min2):=by
 intro OK s σ H xs us Q I r h;obtain⟨i,j,rfl,q⟩:=h;obtain⟨u,w',rfl,⟨t,rfl⟩,⟨t',rfl⟩⟩:=yu r;refine min_two_ints (I.ok.hd hc) λ h' tk k=>%[_,H,I.kept k,?_|q]
 by_cases hj:j < i
 ·rw[OR hj,OR hj];exact%[_|O]
 ·rw[OQ hj,OQ hj];exact%[_|O]
theorem cu:ck X (.type "int") (λ xs H Q=>(∃i,xs=[.int i]/\Q (.int i) H)\/∃k,xs=[.bl k]/\Q (.int (if k then 1 else 0)) H):=by
 intro OK s σ H xs us Q I r h;rcases h with⟨i,rfl,q⟩ | ⟨k,rfl,q⟩
 ·obtain⟨u,rfl,t,rfl⟩:=gb r;exact call_int_int %[.int i,H,I,%[_|rfl]|q]
 ·obtain⟨u,rfl,r1⟩:=gb r;cases r1;exact call_int_bool %[.int (if k then 1 else 0),H,I.tok _,%[_|rfl]|q]
inductive rz_call_str_int(xs:OI V)(H:Hp)(Q:VK):Prop
|mk(i:_)(_:xs=[.int i])(_:i.natAbs.log2 < 1920)(_:Q (.str (toString i)) H)
inductive rz_call_ord(xs:OI V)(H:Hp)(Q:VK):Prop
|mk(x:_)(_:xs=[.str x])(_:x.length=1)(_:Q (.int (x.cps.getD 0 0:Nat)) H)
inductive rz_call_chr(xs:OI V)(H:Hp)(Q:VK):Prop
|mk(i:_)(_:xs=[.int i])(_:0<=i)(_:i<=1114111)(_:Q (.str ⟨#[i.toNat]⟩) H)
def Ll(K:C4)(x:V)(H:Hp)(n:Nat):Prop :=
 match x with
 | .str y=>y.length<=sizeLine/\n=y.length
 | .byt y=>y.size<=sizeLine/\n=y.size
 | .ref p=>(∃xs,SqL K H p xs/\n=xs.length)\/∃xs,SqT K H p xs/\n=xs.length
 | _=>False
inductive rz_call_len(K:C4)(xs:OI V)(H:Hp)(Q:VK):Prop
|mk(x n:_)(_:xs=[x])(_:Ll K x H n)(_:Q (.int n) H)
inductive rz_call_divmod(xs:OI V)(H:Hp)(Q:VK):Prop
|mk(i j:_)(_:xs=[.int i,.int j])(_:Lj i j)(_:∀p,H p=none->Q (.ref p) (upd H p (.tup [.int (i / j),.int (i % j)])))
end
structure ObjM(h:Heap)(x dx C:OE)(mA:Str->OG Value):Prop where
 obj:h.get? x=some (PySem.W.instObj C dx)
 ns:h.Ns1 dx mA
 ne:dx≠x
theorem qr{h:Heap}{dx:OE}{mA:Str->OG F9}(n:h.Ns1 dx mA):∃od,h.get? dx=some od/\∀name,PySem.W.lookIn name od=some (mA name):=by
 obtain⟨o,es,ep,ho,hd,hk,_,hm⟩:=n;refine%[o,ho|λ name=>?_];have e:=hm name;unfold nsFind findBy at e;rw[<- Array.find?_toList]at e;unfold PySem.W.lookIn;rw[hd];dsimp only
 split
 ·rename_i y q
  rw[q]at e;exact On some e
 ·rename_i q
  rw[q]at e;have a:es.toList.any (·.refKey)=false:=by rw[List.any_eq_false];intro y hy;obtain⟨z,t,hkey⟩:=hk y (Array.mem_toList_iff.mp hy);simp[DictEntry.refKey,hkey]
  have a':¬ es.toList.any (·.refKey)=true:=by rw[a];exact B1
  rw[OQ a'];exact On some e
theorem ObjM.look{h:Heap}{x dx C:OE}{mA:Str->OG F9}(I:ObjM h x dx C mA):∃od,PySem.W.InstAt h x (PySem.W.instObj C dx) C (some od)/\∀name,PySem.W.lookIn name od=some (mA name) :=
 let ⟨od,ho,hl⟩:=qr I.ns
 %[od,%[I.obj,rfl,rfl|ho]|hl]
section
variable{prog:F6}{w:F8}{A:Around}{E:F9->F5->Prop}{s:F5}{K:C4}{x dx C f:OE}{mA:Str->OG F9}{name:Str}{v:F9}
theorem vT{expr:Bool}{Q:F9->F5->Prop}(X:K.In s.heap)(I:ObjM s.heap x dx C mA)(hg:PySem.W.plainGet K C name=true)(hh:PySem.W.hasDictIn K C=true)
  (ha:PySem.W.findIn K (.ref C) name=some none) (hv:mA name=some v) (hv':PySem.W.handedIn v=true) (h:Q v { s with toks:=s.toks+1 }) :
  wpAny (model prog w) A (getAttr (.ref x) name expr) Q E s:=by
 obtain⟨od,J,hl⟩:=I.look;exact PySem.W.get_value X J (PySem.W.plainGet_of hg).1 (PySem.W.findObj_own hh ha rfl (by rw[hl,hv])) hv' h
theorem sO{pl:Sem Bool}{Q:F9×OI F9->F5->Prop}(X:K.In s.heap)(I:ObjM s.heap x dx C mA)(hg:PySem.W.plainGet K C name=true)
  (hf:PySem.W.findIn K (.ref C) name=some (↑f)) (ht:PySem.W.isFn K (.ref f)=true) (hv:mA name=none) (h:Q (.ref f,[.ref x]) s) :
  wpAny (model prog w) A (getMethod (.ref x) name pl) Q E s:=by
 obtain⟨od,J,hl⟩:=I.look;exact PySem.W.method_fn X J (PySem.W.plainGet_of hg).1 (PySem.W.plainGet_of hg).2 hf (C3.mp ht) (by show(PySem.W.lookIn name od).map (·.isSome)=some false;rw[hl,hv];rfl) h
theorem vU{ns:OI Str}{Q:Unit->F5->Prop}(X:K.In s.heap)(I:ObjM s.heap x dx C mA)
  (hs:PySem.W.findIn K (.ref C) "__setattr__" = some (some (.builtin "object.__setattr__"))) (hp:PySem.W.plainOver K C=true) (ht:PySem.W.takerIn K C name=some none) (hh:PySem.W.hasDictIn K C=true)
  (hw:PySem.Within mA ns) (hsz:ns.length<=sizeLine)
  (h:∀h',ObjM h' x dx C (λ y=>if y=name then some v else mA y)->Heap.SameBut dx s.heap h'->Q () { s with heap:=h',toks:=s.toks+2 }) :
  wpAny (model prog w) A (setAttr (.ref x) name v) Q E s:=by
 obtain⟨od,J,hl⟩:=I.look;refine PySem.W.set_plain X J hs (PySem.W.osa_open (s:={ s with toks:=s.toks+1 }) (r:=none) X J hp ht λ b=>?_);obtain⟨cd,hc,hd'⟩:=PySem.W.any_some hh;have hx:s.heap.get? x=some %[.ref C,some dx,.plain|#[]]:=I.obj;refine A0 (A1 (A0 (A0 (wpAny_loadPart hx (A0 (PySem.W.Looks.here (s:={ s with toks:=s.toks+1 }) (PySem.W.looks_clsIn X hc) ?_))))));rw[hd'];refine A1 (a:=some dx) (A0 (A1 (A0 ?_)));refine wpAny_nsSet1 (s:={ s with toks:=s.toks+1 }) I.ns λ h' hn2 hs2=>?_;obtain⟨oD,esD,epD,hoD,hdD,hcD⟩:=hn2.count (PySem.Within.cons name v hw);refine A0 (wpAny_lookBehind hoD (by rw[hdD];exact pastItsLine_dict (C5 hcD (by rw[List.length_cons];lia))) ?_);exact A1 (h _ %[(hs2.2 _ (Ne.symm I.ne)).trans I.obj,hn2|I.ne] hs2)
theorem sP{R:Result->F5->Prop}{vs:OI F9}{kw:OI (Str×F9)}(X:K.In s.heap)(hm:PySem.W.makesIn K C=true)
  (hi:PySem.W.findIn K (.ref C) "__init__" = some (↑f)) (hf:PySem.W.typeIn K (.ref f)=some (.type "function"))
  (h:codeAny (model prog w) (A.under (.builtin "type.__call__" %[.ref C :: vs|kw])) (.call (.ref f) %[.ref (s.heap.objs.size+1) :: vs|kw]) (PySem.W.InitBack (s.heap.objs.size+1) R)
   { s with heap:=(s.heap.push PySem.W.emptyDict).push (PySem.W.instObj C s.heap.objs.size) }) :
  codeAny (model prog w) A (.call (.ref C) %[vs|kw]) R s:=by
 obtain⟨hh,g,d,t,os⟩:=s;exact PySem.W.make_core (PySem.W.makes_of X hm) (PySem.W.looks_findIn X hi) (λ self=>PySem.W.bind_fn X self hf) (.inl rfl) h
end
def dk(f:Str)(v:V):OI (Str×V)->OI (Str×V)
 | []=>[(f,v)]
 | (g,x) :: r=>if g=f then(g,v) :: r else(g,x) :: dk f v r
theorem bU(f g:Str)(v:V):∀fs:OI (Str×V),(dk f v fs).lookup g=if g=f then some v else fs.lookup g
 | []=>by
  show List.lookup g [(f,v)]=_
  by_cases h:g=f
  ·have hb:(g == f)=true:=C3.mpr h;simp only[List.lookup,hb,OR h]
  ·have hb:(g == f)=false:=Ox.mpr h;simp only[List.lookup,hb,OQ h]
 | (k,x) :: r=>by
  have ih:=bU f g v r;rw[show dk f v ((k,x) :: r)=(if k=f then(k,v) :: r else(k,x) :: dk f v r)from rfl]
  by_cases hk:k=f
  ·rw[OR hk]
   by_cases h:g=k
   ·have hb:(g == k)=true:=C3.mpr h;simp only[List.lookup,hb,OR (h.trans hk)]
   ·have hb:(g == k)=false:=Ox.mpr h;simp only[List.lookup,hb,OQ (λ e:g=f=>h (e.trans hk.symm))]
  ·rw[OQ hk]
   by_cases h:g=k
   ·have hb:(g == k)=true:=C3.mpr h;simp only[List.lookup,hb,OQ (λ e:g=f=>hk (h.symm.trans e))]
   ·have hb:(g == k)=false:=Ox.mpr h;simp only[List.lookup,hb];exact ih
theorem gE(f:Str)(v:V):∀fs:OI (Str×V),f∈(dk f v fs).map (·.1)/\∀g,g∈fs.map (·.1)->g∈(dk f v fs).map (·.1)
 | []=>%[by simp[dk]|λ g h=>by simp at h]
 | (k,x) :: r=>by
  obtain⟨i1,i2⟩:=gE f v r;rw[show dk f v ((k,x) :: r)=(if k=f then(k,v) :: r else(k,x) :: dk f v r)from rfl]
  by_cases hk:k=f
  ·rw[OR hk];subst hk;exact%[by simp|λ g h=>by simpa using h]
  ·rw[OQ hk];refine%[?_|λ g h=>?_]
   ·rw[J4];exact B3 _ i1
   ·rw[J4]at h ⊢;rcases G6.mp h with e | e
    ·exact G6.mpr (.inl e)
    ·exact B3 _ (i2 g e)
theorem eL(f:Str)(v:V):∀fs:OI (Str×V),(dk f v fs).length<=fs.length+1
 | []=>by simp[dk]
 | (k,x) :: r=>by
  have ih:=eL f v r;rw[show dk f v ((k,x) :: r)=(if k=f then(k,v) :: r else(k,x) :: dk f v r)from rfl]
  by_cases hk:k=f
  ·rw[OR hk,I9,I9];lia
  ·rw[OQ hk,I9,I9];lia
theorem RelO.some_of{v:V}{o:OG F9}(r:RelO (some v) o):∃u,o=some u/\RelV v u:=by
 cases o with
 | none=>exact(show False from r).elim
 | some u=>exact%[u,O|r]
theorem RelO.none_of{o:OG F9}(r:RelO none o):o=none:=by
 cases o with
 | none=>rfl
 | some u=>exact(show False from r).elim
theorem qt{v:V}{u:F9}(r:RelV v u):PySem.W.handedIn u=true:=by
 cases v with
 | non=>cases(show u=Value.none from r);rfl
 | bl b=>cases(show u=Value.bool b from r);rfl
 | int i=>obtain⟨t,e⟩:=(show∃t,u=Value.int i t from r);cases e;rfl
 | str x=>obtain⟨t,e⟩:=(show∃t,u=Value.str x t from r);cases e;rfl
 | byt b=>obtain⟨t,e⟩:=(show∃t,u=Value.bytes b t from r);cases e;rfl
 | flt b=>obtain⟨t,e⟩:=(show∃t,u=Value.float b t from r);cases e;rfl
 | ref a=>cases(show u=Value.ref a from r);rfl
 | ty n=>cases(show u=Value.type n from r);rfl
section
variable{P:F6}{w:F8}{H H':Hp}{h h':Heap}{a C dx:OE}{fs fs':OI (Str×V)}
theorem gc(hok:HOk P w H h)(e:H a=some (.ins C dx fs)):∃mA,ObjM h a dx C mA/\(∀f,RelO (fs.lookup f) (mA f))/\PySem.Within mA (fs.map (·.1))/\fs.length<=1000/\H dx=some (.own a):=by
 obtain⟨d,z,ne,ob,mA,n,r,q⟩:=(show ObjOk P w H h a (.ins C dx fs)from hok a _ e)
 exact%[mA,%[ob,n|ne],r,q,z|d]
end
structure Cls(K:C4)(C:OE):Prop where
 pg:PySem.W.plainGet K C Str.empty=true
 hd:PySem.W.hasDictIn K C=true
 po:PySem.W.plainOver K C=true
 sa:PySem.W.findIn K (.ref C) "__setattr__" = some (some (.builtin "object.__setattr__"))
theorem Cls.get{K:C4}{C:OE}(c:Cls K C)(f:Str):PySem.W.plainGet K C f=true:=c.pg
def NoAttr(K:C4)(C:OE)(f:Str):Prop:=PySem.W.findIn K (.ref C) f=some none
theorem NoAttr.taker{K:C4}{C:OE}{f:Str}(n:NoAttr K C f):PySem.W.takerIn K C f=some none:=by
 unfold PySem.W.takerIn;rw[show PySem.W.findIn K (.ref C) f=some none from n]
 rfl
structure Con(K:C4)(C:OE)(f:Str)(v:V)(u:Value):Prop where
 at_:PySem.W.findIn K (.ref C) f=some (some u)
 rel:RelV v u
 get:PySem.W.specialIn K u "__get__" = some none
 cp:PySem.W.copiedNames.contains f=false
structure Meth(K:C4)(C:OE)(m:Str)(f:OE):Prop where
 at_:PySem.W.findIn K (.ref C) m=some (↑f)
 fn:PySem.W.isFn K (.ref f)=true
 kp:PySem.W.keepIn K (.ref f)=true
section
variable{X:Cx}{OK:OI (OE×Obj)}{σ:St}{H:Hp}{s:F5}{a C dx:OE}{fs:OI (Str×V)}{f:Str}{v:V}{A:Around}{E:F9->F5->Prop}
theorem mq{b:Bool}{Q:F9->F5->Prop}(I:Inv X OK σ H s)(e:H a=some (.ins C dx fs))(c:Cls X.K C)(n:NoAttr X.K C f)(l:fs.lookup f=some v)
  (h:∀u s',Inv X OK σ H s'->RelV v u->Q u s'):wpAny (model X.prog X.w) A (getAttr (.ref a) f b) Q E s:=by
 obtain⟨mA,OO0,r,_,_,_⟩:=gc I.hok e;obtain⟨u,hu,ru⟩:=RelO.some_of (v:=v) (o:=mA f) (by rw[<- l];exact r f);exact vT I.kIn OO0 (c.get f) c.hd n hu (qt ru) (h u _ (I.tok _) ru)
theorem fP{m:Str}{g:OE}{pl:Sem Bool}{Q:F9×OI F9->F5->Prop}(I:Inv X OK σ H s)(e:H a=some (.ins C dx fs))(c:Cls X.K C)(k:Meth X.K C m g)(l:fs.lookup m=none)
  (h:Q (.ref g,[.ref a]) s):wpAny (model X.prog X.w) A (getMethod (.ref a) m pl) Q E s:=by
 obtain⟨mA,OO0,r,_,_,_⟩:=gc I.hok e;have hn:mA m=none:=RelO.none_of (by rw[<- l];exact r m);exact sO I.kIn OO0 (c.get m) k.at_ k.fn hn h
theorem mr{y:V}{u:F9}{Q:Unit->F5->Prop}(I:Inv X OK σ H s)(e:H a=some (.ins C dx fs))(c:Cls X.K C)(n:NoAttr X.K C f)(hl:fs.length < 1000)(ry:RelV y u)
  (h:∀s',Inv X OK σ (upd H a (.ins C dx (dk f y fs))) s'->Q () s'):wpAny (model X.prog X.w) A (setAttr (.ref a) f u) Q E s:=by
 obtain⟨mA,OO0,r,wi,_,ho⟩:=gc I.hok e;have hz:(fs.map (·.1)).length<=sizeLine:=by rw[J1,sizeLine_eq];lia
 refine vU I.kIn OO0 c.sa c.po n.taker c.hd wi hz λ h' O' sb=>h _ ?_;have hd:∃o,h'.get? dx=some o:=let ⟨o,_,_,e',_⟩:=O'.ns;%[o|e']
 refine I.write (x:=a) (e:=dx) (by rw[e];exact True.intro) (.inr ho) (λ b q hb z=>(sb.2 b hb).trans z) hd ?_;refine%[by rw[au OO0.ne];exact ho,?_,OO0.ne,O'.obj,_,O'.ns,λ g=>?_|λ g hg=>?_]
 ·have:=eL f y fs;lia
 ·show RelO ((dk f y fs).lookup g) (if g=f then some u else mA g);rw[bU]
  by_cases q:g=f
  ·rw[OR q,OR q];exact ry
  ·rw[OQ q,OQ q];exact r g
 ·by_cases q:g=f
  ·rw[q];exact(gE f y fs).1
  ·refine(gE f y fs).2 g (wi g λ z=>hg ?_);show(if g=f then some u else mA g)=none;rw[OQ q];exact z
theorem Inv.made(I:Inv X OK σ H s):Inv X OK σ (upd (upd H s.heap.objs.size (.own (s.heap.objs.size+1))) (s.heap.objs.size+1) (.ins C s.heap.objs.size []))
  { s with heap:=(s.heap.push PySem.W.emptyDict).push (PySem.W.instObj C s.heap.objs.size) }:=by
 have e1:(s.heap.push PySem.W.emptyDict).get? s.heap.objs.size=some PySem.W.emptyDict:=A7 s.heap rfl;have e2:((s.heap.push PySem.W.emptyDict).push (PySem.W.instObj C s.heap.objs.size)).get? (s.heap.objs.size+1)=some (PySem.W.instObj C s.heap.objs.size):=by have:=A7 (s.heap.push PySem.W.emptyDict) (o:=PySem.W.instObj C s.heap.objs.size) rfl;rwa [Heap.size_push]at this
 have e3:(s.heap.push PySem.W.emptyDict).Ns s.heap.objs.size (λ _=>none):=%[PySem.W.emptyDict,#[],_,e1,O,(λ e he=>absurd he (by simp))|λ _=>rfl]
 have I1:=I.laid (a:=s.heap.objs.size) (o:=.own (s.heap.objs.size+1)) (h':=s.heap.push PySem.W.emptyDict) (t':=s.toks) (λ b u q=>A6 _ q) (B2 _) %[_|e1];refine I1.laid (a:=s.heap.objs.size+1) (o:=.ins C s.heap.objs.size []) (t':=s.toks) (λ b u q=>A6 _ q) (Nat.le_of_eq (Heap.size_push _ _)) ?_;have ne:s.heap.objs.size≠s.heap.objs.size+1:=B9 (E8 _);refine%[by rw[au ne,aj],E6 _,ne,e2,λ _=>none,(Heap.Ns1.of_empty e3).at λ o q=>A6 _ q,λ _=>True.intro|λ y hy=>absurd rfl hy]
theorem vV{prog:F6}{w:F8}{env:Env}{e:Expr}{f:Str}{pos:Pos}{s:F5}{Q:F9->F5->Prop}(hb:attributeBase e f env (eval e env)=eval e env)
  (h:wpAny (model prog w) A (eval e env) (λ o s₁=>wpAny (model prog w) A (getAttr o f true) Q E s₁) E s):wpAny (model prog w) A (eval (.Attribute e f pos) env) Q E s :=
 Attribute_any_ h (by rw[arm_eval_Attribute,hb])
end
def Lm(K:C4)(ta:TE)(f:Str):TE:=λ σ H Q=>ta σ H λ x H1=>∃a C dx fs v,x=.ref a/\H1 a=some (.ins C dx fs)/\Cls K C/\NoAttr K C f/\fs.lookup f=some v/\Q v H1
def Ed(K:C4)(ta tv:TE)(f:Str):TS:=λ D σ H=>tv σ H λ y H1=>ta σ H1 λ x H2=>∃a C dx fs,x=.ref a/\H2 a=some (.ins C dx fs)/\Cls K C/\NoAttr K C f/\fs.length < 1000 /\
 D.nx σ (upd H2 a (.ins C dx (dk f y fs)))
section
variable{X:Cx}{o e value:Expr}{f:Str}{pos pos' tpos:Pos}{ta tv:TE}
theorem kh(he:PE X e ta)(hb:attributeBase e f X.env (eval e X.env)=eval e X.env):PE X (.Attribute e f pos) (Lm X.K ta f):=by intro OK s σ H Q I h;refine vV hb (thn (he OK s σ H _ I h) ?_);rintro u s1 ⟨x,H1,I1,rx,a,C,dx,fs,v,ex,ea,c,n,l,q⟩;subst ex;obtain rfl:u=Value.ref a:=rx;exact mq I1 ea c n l λ u' s2 I2 ru=>%[v,H1,I2,ru|q]
theorem sQ(ha:PE X o ta)(hv:PE X value tv)(hs:swapsWith value (some (.Attribute o f pos')) pos.line X.env=pure false):PS X (.Assign [.Attribute o f pos'] value pos) (Ed X.K ta tv f):=by intro OK s σ H D I h;refine plainObj_wpAny_Assign_Attribute (thn (hv OK s σ H _ I h) ?_) hs;rintro u s1 ⟨y,H1,I1,ry,q⟩;refine thn (ha OK s1 σ H1 _ I1 q) ?_;rintro ov s2 ⟨x,H2,I2,rx,a,C,dx,fs,ex,ea,c,n,l,q2⟩;subst ex;obtain rfl:ov=Value.ref a:=rx;exact mr I2 ea c n l ry λ s3 I3=>%[σ,_,I3|q2]
theorem yw{pl:Sem Bool}{m:Str}{apos:Pos}{args:OI Expr}{OK:OI (OE×Obj)}{s:F5}{σ:St}{H:Hp}{Q:F9->F5->Prop}{te:TE}(he:PE X e te)(I:Inv X OK σ H s)
  (h:te σ H λ x H1=>∃a C dx fs g,x=.ref a/\H1 a=some (.ins C dx fs)/\Cls X.K C/\Meth X.K C m g/\fs.lookup m=none /\
   ∀s1,Inv X OK σ H1 s1->wpAny (model X.prog X.w) X.A (callWith pos (.ref g) [.ref a] (backTo pos (starEach args X.env)) (backToKw pos (keywordEach [] X.env))) Q X.xe s1)
  (ht:eval (.Call (.Attribute e m apos) args [] pos) X.env=(do
   let ov<-eval e X.env
   standAt apos.atName
   let (f,first)<-holding [ov] (getMethod ov m pl)
   callWith pos f first (backTo pos (starEach args X.env)) (backToKw pos (keywordEach [] X.env)))) :
  wpAny (model X.prog X.w) X.A (eval (.Call (.Attribute e m apos) args [] pos) X.env) Q X.xe s:=by
 refine PySem.W.methodCall_KW (pl:=pl) (thn (he OK s σ H _ I h) ?_) ht;rintro u s1 ⟨x,H1,I1,rx,a,C,dx,fs,g,ex,ea,c,k,l,q⟩;subst ex;obtain rfl:u=Value.ref a:=rx;exact fP I1 ea c k l (q s1 I1)
end
section
variable{X:Cx}{OK:OI (OE×Obj)}{σ:St}{H:Hp}{s:F5}{A:Around}{E Q:F9->F5->Prop}{c:F9}{b:Bool}
inductive TyOf(K:C4)(H:Hp):V->Value->Prop where
 | non:TyOf K H .non (.type "NoneType")
 | bl (x:Bool):TyOf K H (.bl x) (.type "bool")
 | int (i:Int):TyOf K H (.int i) (.type "int")
 | str (x:Str):TyOf K H (.str x) (.type "str")
 | flt (x:UInt64):TyOf K H (.flt x) (.type "float")
 | lst {a:OE} {xs:OI V} (e:H a=↥xs):TyOf K H (.ref a) (.type "list")
 | frz {a:OE} {o:Obj} {xs:OI V} (e:H a=some (.frz o (.lst xs))):TyOf K H (.ref a) (.type "list")
 | tup {a:OE} {xs:OI V} (e:H a= ~~~xs):TyOf K H (.ref a) (.type "tuple")
 | dK {a:OE} {kvs:OI (Key×V)} (e:H a=some (.dK kvs)):TyOf K H (.ref a) (.type "dict")
 | dT {a:OE} {kvs:OI (OI Key×V)} (e:H a=some (.dT kvs)):TyOf K H (.ref a) (.type "dict")
 | ext {a:OE} {φ:Heap->Prop} (e:H a=some (.ext φ)) (c:∀h,φ h->∃o,h.get? a=some o/\o.cls=.type "dict"):TyOf K H (.ref a) (.type "dict")
 | ins {a C dx:OE} {fs:OI (Str×V)} (e:H a=some (.ins C dx fs)) (cl:Cls K C) (ha:PySem.W.findIn K (.ref C) "__class__" = some (some (.builtin "object.__class__")))
   (hn:PySem.W.specialIn K (.builtin "object.__class__") "__get__" = some (some (.builtin "getset_descriptor.__get__"))) (htk:PySem.W.takesIn K (.builtin "object.__class__")=some true)
   (hm:PySem.W.mroIn K C (.type "object")=some true):TyOf K H (.ref a) (.ref C)
theorem qu{x:V}{u t:F9}(I:Inv X OK σ H s)(rx:RelV x u)(ty:TyOf X.K H x t)(e:PySem.W.kitOne X.K t c=some b)(h:∀tk,Q (.bool b) { s with toks:=tk }) :
  wpAny (model X.prog X.w) A (call (.builtin "isinstance") [u,c]) Q E s:=by
 cases ty with
 | non=>cases(show u=Value.none from rx);exact PySem.W.kia_one PySem.W.kitx_none I.kIn True.intro e (λ z=>nomatch z) h
 | bl y=>cases(show u=Value.bool y from rx);exact PySem.W.kia_one PySem.W.kitx_bool I.kIn True.intro e (λ z=>nomatch z) h
 | int i=>obtain⟨t,q⟩:=(show∃t,u=Value.int i t from rx);cases q;exact PySem.W.kia_one PySem.W.kitx_int I.kIn True.intro e (λ z=>nomatch z) h
 | str y=>obtain⟨t,q⟩:=(show∃t,u=Value.str y t from rx);cases q;exact PySem.W.kia_one PySem.W.kitx_str I.kIn True.intro e (λ z=>nomatch z) h
 | flt y=>obtain⟨t,q⟩:=(show∃t,u=Value.float y t from rx);cases q;exact PySem.W.kia_one PySem.W.kitx_float I.kIn True.intro e (λ z=>nomatch z) h
 | @lst a xs ea=>
  cases(show u=Value.ref a from rx);obtain⟨_,_,n,_,h1⟩:=(show ObjOk X.prog X.w H s.heap a (.lst xs)from I.hok a _ ea)
  exact PySem.W.kia_one PySem.W.kitx_list I.kIn %[_,h1|O] e (λ z=>nomatch z) h
 | @frz a ob xs ea=>
  cases(show u=Value.ref a from rx);obtain⟨_,_,_,n,_,h1⟩:=(show ObjOk X.prog X.w H s.heap a (.frz ob (.lst xs))from I.hok a _ ea)
  exact PySem.W.kia_one PySem.W.kitx_list I.kIn %[_,h1|O] e (λ z=>nomatch z) h
 | @tup a xs ea=>
  cases(show u=Value.ref a from rx);obtain⟨_,_,_,p⟩:=(show ObjOk X.prog X.w H s.heap a (.tup xs)from I.hok a _ ea)
  obtain⟨o,h1,h2,_⟩:=p;exact PySem.W.kia_one PySem.W.kitx_tuple I.kIn %[o,h1|h2] e (λ z=>nomatch z) h
 | @dK a kvs ea=>
  cases(show u=Value.ref a from rx);obtain⟨_,_,vs,_,p⟩:=(show ObjOk X.prog X.w H s.heap a (.dK kvs)from I.hok a _ ea)
  obtain⟨o,es,ep,h1,h2,_⟩:=p;exact PySem.W.kia_one PySem.W.kitx_dict I.kIn %[o,h1|h2.1] e (λ z=>nomatch z) h
 | @dT a kvs ea=>
  cases(show u=Value.ref a from rx);obtain⟨_,_,xs,_,o,es,ep,h1,h2,_⟩:=(show ObjOk X.prog X.w H s.heap a (.dT kvs)from I.hok a _ ea)
  exact PySem.W.kia_one PySem.W.kitx_dict I.kIn %[o,h1|h2.1] e (λ z=>nomatch z) h
 | @ext a φ ea c=>
  cases(show u=Value.ref a from rx);obtain⟨p,_,_⟩:=(show ObjOk X.prog X.w H s.heap a (.ext φ)from I.hok a _ ea)
  obtain⟨o,h1,h2⟩:=c _ p;exact PySem.W.kia_one PySem.W.kitx_dict I.kIn %[o,h1|h2] e (λ z=>nomatch z) h
 | @ins a C dx fs ea cl ha hn htk hm=>
  cases(show u=Value.ref a from rx);obtain⟨mA,OO0,_⟩:=gc I.hok ea;obtain⟨od,J,_⟩:=OO0.look;exact PySem.W.kia_one (PySem.W.kitx_own (cl.get _) cl.hd ha hn htk hm) I.kIn J e (λ z=>nomatch z) h
end
structure Room(k:Nat)(A:Around):Prop where
 hd:A.handled=none
 dp:A.depth+3 * k+5 < recursionLimit
 un:A.units+16 * k+200 < cLine
 gd:A.guards=some []
theorem Room.mono{j k:Nat}{A:Around}(r:Room k A)(h:j<=k):Room j A:=%[r.hd,by have:=r.dp;lia,by have:=r.un;lia|r.gd]
theorem Room.deeper{k:Nat}{A:Around}(r:Room (k+1) A)(env:Env):Room k (A.deeper env) :=
 %[r.hd,by have:=r.dp;show A.depth+1+3 * k+5 < _;lia,by have:=r.un;show A.units+3+16 * k+200 < _;lia|r.gd]
theorem ms{A:Around}{C:OE}{us:OI F9}{kw:OI (Str×F9)}:(A.under (.builtin "type.__call__" %[.ref C :: us|kw])).depth=A.depth+1:=by first | rfl | simp[Around.under,Code.weight,Code.isCreation,Code.isGuard,Code.isCaller,Code.frames,Code.isFrame,guardIds]
theorem mt{A:Around}{C:OE}{us:OI F9}{kw:OI (Str×F9)}:(A.under (.builtin "type.__call__" %[.ref C :: us|kw])).units=A.units+1:=by first | rfl | simp[Around.under,Code.cUnits,Code.frames,Code.isFrame]
theorem lA{A:Around}{C:OE}{us:OI F9}{kw:OI (Str×F9)}:(A.under (.builtin "type.__call__" %[.ref C :: us|kw])).guards=A.guards:=by
 have e:Code.guards (.builtin "type.__call__" %[.ref C :: us|kw])=[]:=by
  have:(Code.builtin "type.__call__" %[.ref C :: us|kw]).isGuard=false:=by show guardIds.contains "type.__call__" = false;decide +kernel
  simp[Code.guards,this]
 unfold Around.under;dsimp only;rw[e]
 rfl
theorem Room.make{k:Nat}{A:Around}(r:Room (k+1) A)(C:OE)(us:OI F9)(kw:OI (Str×F9)):Room k (A.under (.builtin "type.__call__" %[.ref C :: us|kw])) :=
 %[r.hd,by have:=r.dp;rw[ms];lia,by have:=r.un;rw[mt];lia|by rw[lA];exact r.gd]
theorem Room.depth{k:Nat}{A:Around}(r:Room k A):A.depth < recursionLimit:=by have:=r.dp;lia
theorem Room.units{k:Nat}{A:Around}(r:Room k A):A.units+64 < cLine:=by have:=r.un;lia
def ji:TA:=λ _ H Q=>Q [] H
def sR(ta:TE)(tr:TA):TA:=λ σ H Q=>ta σ H λ x H1=>tr σ H1 λ xs H2=>Q (x :: xs) H2
section
variable{X:Cx}{e:Expr}{es:OI Expr}{te:TE}{t:TA}{pos:Pos}
theorem ad:PA X [] ji:=λ _ _ _ _ H Q I h=>Calls.spliced_nil %[[],H,I,.nil|h]
theorem aa(ha:PE X e te)(hr:PA X es t)(hs:starEach (e :: es) X.env=(false,eval e X.env) :: starEach es X.env:=by rfl):PA X (e :: es) (sR te t):=by intro pos OK s σ H Q I h;rw[hs];show wpAny _ _ (spliced ((false,eval e X.env) :: backTo pos (starEach es X.env))) _ _ s;refine Calls.spliced_cons (thn (ha OK s σ H _ I h) ?_);rintro u s1 ⟨x,H1,I1,r1,q1⟩;exact thn (hr pos OK s1 σ H1 _ I1 q1) λ us s2 %[xs,H2,I2,r2|q2]=>%[x :: xs,H2,I2,.cons r1 r2|q2]
def Ee(t:TA):TE:=λ σ H Q=>t σ H λ xs H1=>xs.length<=sizeLine/\∀p,H1 p=none->Q (.ref p) (upd H1 p (.tup xs))
def Ln(t:TA):TE:=λ σ H Q=>t σ H λ xs H1=>xs.length<=sizeLine/\∀p,H1 p=none->Q (.ref p) (upd H1 p (.lst xs))
theorem ar{x1}(h:PA X es t):PE X (.Tuple es x1 pos) (Ee t):=by intro OK s σ H Q I hq;refine wpAny_Tuple_spliced (thn (h pos OK s σ H _ I hq) λ us s1 %[xs,H1,I1,r,z|q]=>%[by rw[<- r.length];exact z|?_]);have hf:H1 s1.heap.objs.size=none:=I1.hok.fresh (B2 _);refine%[.ref s1.heap.objs.size,upd H1 s1.heap.objs.size (.tup xs),I1.laid (t':=s1.toks) (λ b u e=>A6 _ e) (B2 _) ?_,O|q _ hf];exact%[z,us,r|%[_,A7 _ rfl,O,_|O]]
theorem aQ(h:PA X es t):PE X (.List es pos) (Ln t):=by intro OK s σ H Q I hq;refine wpAny_List_spliced (thn (h pos OK s σ H _ I hq) λ us s1 %[xs,H1,I1,r,z|q]=>%[by rw[<- r.length];exact z|?_]);have hf:H1 s1.heap.objs.size=none:=I1.hok.fresh (B2 _);refine%[.ref s1.heap.objs.size,upd H1 s1.heap.objs.size (.lst xs),I1.laid (t':=s1.toks) (λ b u e=>A6 _ e) (B2 _) ?_,O|q _ hf];exact%[z,us,0,r|A7 _ rfl]
end
abbrev Sp:=OI V->Hp->VK->XK->Prop
abbrev CXT:=OI Env->Hp->F5->XK->F9->F5->Prop
structure Env0(P:Program)(w:World)(K:C4)(mg:Str->OG Value)(base:Heap)(A:Around)(outer:OI Env)(s:Shared)(H:Hp):Prop where
 frames:A.frames=some outer
 mod:Mod K mg base
 bs:∀b o,base.get? b=some o->s.heap.get? b=some o/\H b=none
 bsz:base.objs.size<=s.heap.objs.size
 funs:s.heap.FunFrames base outer
 frf:∀b∈frs outer,H b=none
 hok:HOk P w H s.heap
 bare:AllBare s.gens
def CE(outer:OI Env)(P:F6)(w:F8)(H:Hp)(s:F5)(Q:VK)(u:F9)(s':F5):Prop :=
 ∃v H',s'.os=s.os/\AllBare s'.gens/\Un (frs outer) [] H H' s.heap s'.heap/\HOk P w H' s'.heap/\RelV v u/\Q v H'
def CR(CX:CXT)(outer:OI Env)(P:F6)(w:F8)(H:Hp)(s:F5)(Q:VK)(E:XK)(r:Result)(s':F5):Prop :=
 match r with
 | .ok (.ret u)=>CE outer P w H s Q u s'
 | .ok _=>False
 | .error e=>CX outer H s E e s'
structure FnOk(P:Program)(w:World)(K:C4)(mg:Str->OG Value)(base:Heap)(CX:CXT)(k:Nat)(f:OE)(fd:FuncData)(ps:OI Str)(sp:Sp):Prop where
 len:∀vs H Q E,sp vs H Q E->vs.length=ps.length
 run:∀(A:Around)(outer:OI Env)(s:F5)(H:Hp)(args:Args)(us:OI F9)(vs:OI V)(Q:VK)(E:XK),Room k A->Env0 P w K mg base A outer s H->BindsTo s fd args (ps.zip us)->Vals vs us->sp vs H Q E ->
  codeAny (model P w) A (.call (.ref f) args) (CR CX outer P w H s Q E) s
theorem FnOk.mono{P:F6}{w:F8}{K:C4}{mg:Str->OG F9}{base:Heap}{CX:CXT}{j k:Nat}{f:OE}{fd:F7}{ps:OI Str}{sp:Sp}(F:FnOk P w K mg base CX j f fd ps sp)(h:j<=k) :
  FnOk P w K mg base CX k f fd ps sp:=%[F.len|λ A outer s H args us vs Q E hr=>F.run A outer s H args us vs Q E (hr.mono h)]
theorem Env0.make{P:F6}{w:F8}{K:C4}{mg:Str->OG F9}{base:Heap}{A:Around}{outer:OI Env}{s:F5}{H:Hp}(e:Env0 P w K mg base A outer s H)(C:OE)(us:OI F9)(kw:OI (Str×F9)) :
  Env0 P w K mg base (A.under (.builtin "type.__call__" %[.ref C :: us|kw])) outer s H:=⟨by first | exact e.frames | (simpa[Around.under,Code.envs,Code.isFrame,pushEnvs]using e.frames),e.mod,e.bs,e.bsz,e.funs,e.frf,e.hok,e.bare⟩
section
variable{X:Cx}{OK:OI (OE×Obj)}{σ:St}{H:Hp}{s s':F5}
theorem Inv.env0(I:Inv X OK σ H s):Env0 X.prog X.w X.K X.mg X.base X.A X.stack s H :=
 %[I.ok.frames,I.ok.mod,I.bs,C5 I.ok.bsz I.sz,I.stack,I.stkFree,I.hok|I.bare]
theorem Inv.after{Q:VK}{u:F9}(I:Inv X OK σ H s)(h:CE X.stack X.prog X.w H s Q u s'):EP X OK σ Q u s':=by obtain⟨v,H',os,bare,un,hok,r,q⟩:=h;obtain⟨hh,g,d,t,os'⟩:=s';obtain rfl:os'=s.os:=os;exact%[v,H',I.call (h':=hh) (g':=g) (d':=d) (t':=t) (ch:=[]) un hok bare (λ b z=>absurd z (by simp)),r|q]
end
def sS(sp:Sp)(dvs:OI V)(E:XK)(t:TA):TE:=λ σ H Q=>t σ H λ vs H1=>sp (vs ++ dvs) H1 Q E
def oU(C:OE)(m:Str)(sp:Sp)(dvs:OI V)(E:XK)(ta:TE)(t:TA):TE:=λ σ H Q=>ta σ H λ x H1=>∃a dx fs,x=.ref a/\H1 a=some (.ins C dx fs)/\fs.lookup m=none /\
 t σ H1 λ vs H2=>sp (x :: (vs ++ dvs)) H2 Q E
def yx(C:OE)(sp:Sp)(dvs:OI V)(E:XK)(t:TA):TE:=λ σ H Q=>t σ H λ vs H1=>∀x dx,H1 x=none->H1 dx=none->dx≠x ->
 sp (.ref x :: (vs ++ dvs)) (upd (upd H1 dx (.own x)) x (.ins C dx [])) (λ v H2=>v=.non/\Q (.ref x) H2) E
def Binds(K:C4)(fd:F7)(ps:OI Str)(ds:OI F9):Prop :=
 ∀(s:F5)(us:OI F9),K.In s.heap->(us ++ ds).length=ps.length->BindsTo s fd %[us|[]] (ps.zip (us ++ ds))
theorem Binds.all{K:C4}{fd:F7}{ps:OI Str}(h:∀us:OI F9,us.length=ps.length->bindArgs fd %[us|[]]=pure (ps.zip us)):Binds K fd ps []:=λ s us _ hl=>by rw[J7]at hl ⊢;exact .of_eq (h us hl)
def fQ(CX:CXT)(X:Cx)(E:XK):Prop:=∀(OK:OI (OE×Obj))(σ:St)(H:Hp)(s:F5)(e:F9)(s':F5),Inv X OK σ H s->CX X.stack H s E e s'->X.xe e s'
section
variable{X:Cx}{CX:CXT}{k:Nat}{f C:OE}{fd:F7}{ps:OI Str}{sp:Sp}{dvs:OI V}{ds:OI F9}{E:XK}{x m:Str}{p pos apos:Pos}{e o:Expr}{es:OI Expr}{ta:TE}{t:TA}
theorem ki{OK:OI (OE×Obj)}{σ:St}{H:Hp}{s:F5}{Q:VK}{us:OI F9}{vs:OI V}(F:FnOk X.prog X.w X.K X.mg X.base CX k f fd ps sp)(hr:Room k X.A)(hb:Binds X.K fd ps ds)(hd:Vals dvs ds)(hx:fQ CX X E)
  (I:Inv X OK σ H s) (r:Vals vs us) (h:sp (vs ++ dvs) H Q E):wpAny (model X.prog X.w) X.A (call (.ref f) us) (EP X OK σ Q) X.xe s:=by
 have r2:Vals (vs ++ dvs) (us ++ ds):=r.append hd;have hl:(us ++ ds).length=ps.length:=by rw[<- r2.length];exact F.len _ _ _ _ h
 refine wpAny_call (Oz (F.run X.A X.stack s H %[us|[]] (us ++ ds) (vs ++ dvs) Q E hr I.env0 (hb s us I.kIn hl) r2 h) λ r s' hq=>?_);cases r with
 | error e=>exact hx OK σ H s e s' I hq
 | ok fl=>
  cases fl with
  | ret u=>exact I.after hq
  | next=>exact E5 hq
  | brk=>exact E5 hq
  | cont=>exact E5 hq
theorem vW(F:FnOk X.prog X.w X.K X.mg X.base CX k f fd ps sp)(hr:Room k X.A)(hg:Gl X x)(hm:X.mg x=↑f)(hk:PySem.W.keepIn X.K (.ref f)=true)(hb:Binds X.K fd ps ds)(hd:Vals dvs ds)(hx:fQ CX X E)
  (ha:PA X (e :: es) t) (hdb:(x == ("__debug__" : Str))=false:=by decide) (he:starEach (e :: es) X.env=(false,eval e X.env) :: starEach es X.env:=by rfl) (hpl:(backTo pos (starEach es X.env)).any (·.1)=false:=by rfl) :
  PE X (.Call (.Name x p) (e :: es) [] pos) (sS sp dvs E t):=by
 intro OK s σ H Q I h;refine Oo (dB I hg hm ?_ hdb);refine PySem.W.callWith_K (h₀:=X.base) I.ok.mod.kin hk (thn (ha pos OK s σ H _ I h) λ us s1 %[vs,H1,I1,r|q]=>%[I1.kIn|?_]) he hpl;exact ki F hr hb hd hx I1 r q
theorem vX{pl:Sem Bool}(he:PE X o ta)(c:Cls X.K C)(hm:Meth X.K C m f)(F:FnOk X.prog X.w X.K X.mg X.base CX k f fd ps sp)(hr:Room k X.A)(hb:Binds X.K fd ps ds)(hd:Vals dvs ds)(hx:fQ CX X E)(ha:PA X (e :: es) t)
  (hst:starEach (e :: es) X.env=(false,eval e X.env) :: starEach es X.env:=by rfl) (hpl:(backTo pos (starEach es X.env)).any (·.1)=false:=by rfl)
  (ht:eval (.Call (.Attribute o m apos) (e :: es) [] pos) X.env=(do
   let ov<-eval o X.env
   standAt apos.atName
   let (f,first)<-holding [ov] (getMethod ov m pl)
   callWith pos f first (backTo pos (starEach (e :: es) X.env)) (backToKw pos (keywordEach [] X.env))):=by rfl) :
  PE X (.Call (.Attribute o m apos) (e :: es) [] pos) (oU C m sp dvs E ta t):=by
 intro OK s σ H Q I h;refine PySem.W.methodCall_KW (pl:=pl) (thn (he OK s σ H _ I h) ?_) ht;rintro u s1 ⟨x,H1,I1,rx,a,dx,fs,ex,ea,l,q⟩;subst ex;obtain rfl:u=Value.ref a:=rx;refine fP I1 ea c hm l ?_;refine PySem.W.callWith_K (first:=[.ref a]) (h₀:=X.base) I.ok.mod.kin hm.kp (thn (ha pos OK s1 σ H1 _ I1 q) λ us s2 %[vs,H2,I2,r|q2]=>%[I2.kIn|?_]) hst hpl;exact ki (us:=.ref a :: us) (vs:=.ref a :: vs) F hr hb hd hx I2 (.cons rfl r) q2
theorem sT{pl:Sem Bool}(he:PE X o ta)(c:Cls X.K C)(hm:Meth X.K C m f)(F:FnOk X.prog X.w X.K X.mg X.base CX k f fd ps sp)(hr:Room k X.A)(hb:Binds X.K fd ps ds)(hd:Vals dvs ds)(hx:fQ CX X E)
  (ht:eval (.Call (.Attribute o m apos) [] [] pos) X.env=(do
   let ov<-eval o X.env
   standAt apos.atName
   let (f,first)<-holding [ov] (getMethod ov m pl)
   callWith pos f first (backTo pos (starEach [] X.env)) (backToKw pos (keywordEach [] X.env))):=by rfl) :
  PE X (.Call (.Attribute o m apos) [] [] pos) (oU C m sp dvs E ta ji):=by
 intro OK s σ H Q I h;refine PySem.W.methodCall_KW (pl:=pl) (thn (he OK s σ H _ I h) ?_) ht;rintro u s1 ⟨x,H1,I1,rx,a,dx,fs,ex,ea,l,q⟩;subst ex;obtain rfl:u=Value.ref a:=rx;refine fP I1 ea c hm l ?_;exact PySem.W.callWith_K0 (first:=[.ref a]) I1.kIn hm.kp (ki (us:=[.ref a]) (vs:=[.ref a]) F hr hb hd hx I1 (.cons rfl .nil) q)
structure Mk(K:C4)(C f:OE):Prop where
 makes:PySem.W.makesIn K C=true
 init:PySem.W.findIn K (.ref C) "__init__" = some (↑f)
 fn:PySem.W.isFn K (.ref f)=true
 kp:PySem.W.keepIn K (.ref C)=true
theorem sU{OK:OI (OE×Obj)}{σ:St}{H:Hp}{s:F5}{Q:VK}{us:OI F9}{vs:OI V}(M:Mk X.K C f)(F:FnOk X.prog X.w X.K X.mg X.base CX k f fd ps sp)(hr:Room (k+1) X.A)(hb:Binds X.K fd ps ds)(hd:Vals dvs ds)
  (hx:fQ CX X E) (I:Inv X OK σ H s) (r:Vals vs us)
  (h:∀x dx,H x=none->H dx=none->dx≠x->sp (.ref x :: (vs ++ dvs)) (upd (upd H dx (.own x)) x (.ins C dx [])) (λ v H2=>v=.non/\Q (.ref x) H2) E) :
  wpAny (model X.prog X.w) X.A (call (.ref C) us) (EP X OK σ Q) X.xe s:=by
 have hq:=h (s.heap.objs.size+1) s.heap.objs.size (I.hok.fresh (Nat.le_succ _)) (I.hok.fresh (B2 _)) (B9 (E8 _));have I2:=Inv.made (C:=C) I;have r2:Vals (V.ref (s.heap.objs.size+1) :: (vs ++ dvs)) (Value.ref (s.heap.objs.size+1) :: (us ++ ds)):=.cons rfl (r.append hd);have hl:(Value.ref (s.heap.objs.size+1) :: us ++ ds).length=ps.length:=by have e:=r2.length;rw[F.len _ _ _ _ hq]at e;exact e.symm
 refine wpAny_call (sP (f:=f) I.kIn M.makes M.init (C3.mp M.fn) (Oz (F.run _ X.stack _ _ %[Value.ref (s.heap.objs.size+1) :: us|[]] (Value.ref (s.heap.objs.size+1) :: (us ++ ds)) _ _ E (hr.make C us [])
  (I2.env0.make C us []) (hb _ (Value.ref (s.heap.objs.size+1) :: us) I2.kIn hl) r2 hq) λ r s' hq'=>?_))
 cases r with
 | error e=>exact hx OK σ _ _ e s' I2 hq'
 | ok fl=>
  cases fl with
  | ret u=>
   obtain⟨v,H',I3,rv,ev,q3⟩:=I2.after hq';subst ev;exact%[rv|%[V.ref (s.heap.objs.size+1),H',I3,O|q3]]
  | next=>exact E5 hq'
  | brk=>exact E5 hq'
  | cont=>exact E5 hq'
theorem vY(M:Mk X.K C f)(F:FnOk X.prog X.w X.K X.mg X.base CX k f fd ps sp)(hr:Room (k+1) X.A)(hg:Gl X x)(hm:X.mg x=↑C)(hb:Binds X.K fd ps ds)(hd:Vals dvs ds)(hx:fQ CX X E)
  (ha:PA X (e :: es) t) (hdb:(x == ("__debug__" : Str))=false:=by decide) (he:starEach (e :: es) X.env=(false,eval e X.env) :: starEach es X.env:=by rfl) (hpl:(backTo pos (starEach es X.env)).any (·.1)=false:=by rfl) :
  PE X (.Call (.Name x p) (e :: es) [] pos) (yx C sp dvs E t):=by
 intro OK s σ H Q I h;refine Oo (dB I hg hm ?_ hdb);refine PySem.W.callWith_K (h₀:=X.base) I.ok.mod.kin M.kp (thn (ha pos OK s σ H _ I h) λ us s1 %[vs,H1,I1,r|q]=>%[I1.kIn|?_]) he hpl;exact sU M F hr hb hd hx I1 r q
end
section
variable{X:Cx}{CX:CXT}{k:Nat}{f C:OE}{fd:F7}{ps ks:OI Str}{sp:Sp}{E:XK}{x m:Str}{p pos apos kpos:Pos}{e o:Expr}{es:OI Expr}{kws:OI Keyword}{te ta:TE}{t tk:TA}{nm:OG Str}
structure KBinds(K:C4)(fd:FuncData)(ps ks:OI Str)(g:OI Value->OI Value->OI Value)(gV:OI V->OI V->OI V):Prop where
 to:∀(s:F5)(us ws:OI F9),K.In s.heap->(g us ws).length=ps.length->BindsTo s fd %[us|ks.zip ws] (ps.zip (g us ws))
 rel:∀{vs:OI V}{us:OI F9}{zs:OI V}{ws:OI F9},Vals vs us->Vals zs ws->Vals (gV vs zs) (g us ws)
variable{g:OI F9->OI F9->OI F9}{gV:OI V->OI V->OI V}
end
structure FnScope(N P:OI Str)(sc:Scope):Prop where
 kind:sc.kind=.function
 co:sc.isCoroutine=false
 gen:sc.isGenerator=false
 nd:N.Nodup
 pre:N.take P.length=P
 par:∀x∈P,sc.names.lookup x=some .local\/sc.names.lookup x=some .cell
 nofree:∀y∈sc.names,y.2≠.free
theorem jv{kindOf:Str->OG NameKind}{x:Str}:∀{binds:OI (Str×F9)}{m:Str->OG F9},(∀v,(x,v)∉binds)->bindL kindOf binds m x=m x
 | [],_,_=>rfl
 | (n,v) :: r,m,h=>by
  unfold bindL;rw[jv λ w hw=>h w (B3 _ hw)]
  split
  ·have:x≠n:=by rintro rfl;exact h v B7
   simp[this]
  ·rfl
theorem jw{kindOf:Str->OG NameKind}{x:Str}:∀{binds:OI (Str×F9)}{m:Str->OG F9},(∀v,(x,v)∉binds)->bindC kindOf binds m x=m x
 | [],_,_=>rfl
 | (n,v) :: r,m,h=>by
  unfold bindC;rw[jw λ w hw=>h w (B3 _ hw)]
  split
  ·rfl
  ·have:x≠n:=by rintro rfl;exact h v B7
   simp[this]
theorem jx{kindOf:Str->OG NameKind}{x:Str}{v:F9}:∀{P:OI Str}{vs:OI F9}{i:Nat}{m:Str->OG F9},P.Nodup->P[i]?=some x->vs[i]?=some v->kindOf x=some .local ->
  bindL kindOf (P.zip vs) m x=some v
 | [],_,_,_,_,h,_,_=>by simp at h
 | _ :: _,[],_,_,_,_,h,_=>by simp at h
 | p :: P,w :: vs,0,m,nd,h1,h2,hk=>by simp at h1 h2;subst h1;subst h2;show bindL kindOf ((p,w) :: P.zip vs) m p=_;unfold bindL;rw[jv λ v hv=>(List.nodup_cons.mp nd).1 (OA hv).1,OR hk];simp
 | p :: P,w :: vs,i+1,m,nd,h1,h2,hk=>by show bindL kindOf ((p,w) :: P.zip vs) m x=_;unfold bindL;exact jx (i:=i) (List.nodup_cons.mp nd).2 (by simpa using h1) (by simpa using h2) hk
theorem jy{kindOf:Str->OG NameKind}{x:Str}{v:F9}:∀{P:OI Str}{vs:OI F9}{i:Nat}{m:Str->OG F9},P.Nodup->P[i]?=some x->vs[i]?=some v->kindOf x≠some .local ->
  bindC kindOf (P.zip vs) m x=some v
 | [],_,_,_,_,h,_,_=>by simp at h
 | _ :: _,[],_,_,_,_,h,_=>by simp at h
 | p :: P,w :: vs,0,m,nd,h1,h2,hk=>by simp at h1 h2;subst h1;subst h2;show bindC kindOf ((p,w) :: P.zip vs) m p=_;unfold bindC;rw[jw λ v hv=>(List.nodup_cons.mp nd).1 (OA hv).1,OQ hk];simp
 | p :: P,w :: vs,i+1,m,nd,h1,h2,hk=>by show bindC kindOf ((p,w) :: P.zip vs) m x=_;unfold bindC;exact jy (i:=i) (List.nodup_cons.mp nd).2 (by simpa using h1) (by simpa using h2) hk
def dI(N:OI Str)(vs:OI V):St:=vs.map some ++ List.replicate (N.length - vs.length) none
def bJ(CX:CXT)(P:F6)(w:F8)(K:C4)(mg:Str->OG F9)(base:Heap)(N:OI Str)(qual:Str)(scope:Scope)(f:OE)(cd:F9)(A:Around)(outer:OI Env)(s:F5)(H:Hp)(E:XK):Cx where
 prog:=P
 w:=w
 K:=K
 mg:=mg
 base:=base
 A:=A.deeper (envOfC qual scope s.heap.objs.size f cd)
 N:=N
 s₀:=s
 H₀:=H
 env:=envOfC qual scope s.heap.objs.size f cd
 outer:=outer
 stack:=envOfC qual scope s.heap.objs.size f cd :: outer
 ex:=[]
 calm:=true
 fn:=λ _=>true
 pn:=[]
 xe:=λ e s'=>wpAny (model P w) (A.deeper (envOfC qual scope s.heap.objs.size f cd)) (leaving (envOfC qual scope s.heap.objs.size f cd) e) (λ _ s''=>CX outer H s E e s'') (λ e' s''=>CX outer H s E e' s'') s'
theorem lB{sc:Scope}{n:Nat}{x:Str}(h:sc.names.lookup x=some .cell):∃c,(cellsFrom n sc.names []).lookup x=some c:=by have q:=PySem.W.cellsFrom_some sc.names n [] (.inl h);exact Option.isSome_iff_exists.mp q
theorem jz{CX:CXT}{P:F6}{w:F8}{K:C4}{mg:Str->OG F9}{base:Heap}{N ps:OI Str}{qual:Str}{scope:Scope}{f:OE}{cd:F9}{A:Around}{outer:OI Env}{s s1:F5}{H:Hp}{E:XK}{us:OI F9}{vs:OI V}
  (S:FnScope N ps scope) (hd:A.handled=none) (e0:Env0 P w K mg base A outer s H) (hl:vs.length=ps.length) (r:Vals vs us)
  (x:InCallC s s.heap.objs.size (bindL (envOfC qual scope s.heap.objs.size f cd).kindOf (ps.zip us) λ _=>none) (cellsFrom (s.heap.objs.size+1) scope.names []) (bindC (envOfC qual scope s.heap.objs.size f cd).kindOf (ps.zip us) λ _=>none) s1) :
  Inv (bJ CX P w K mg base N qual scope f cd A outer s H E) [] (dI N vs) H s1:=by
 have hpl:ps.length<=N.length:=by have:=On List.length S.pre;rw[J2]at this;lia
 obtain⟨h1,tk,rfl,hk⟩:=x.done;have noA:∀b:OE,b∉(bJ CX P w K mg base N qual scope f cd A outer s H E).ex:=λ b z=>absurd (show b∈([]:OI OE)from z) (by simp);refine⟨%[e0.mod,S.kind,O,O,B2 _,λ y z c h1 h2=>?_,λ y hy=>?_,λ y c _ h=>?_,λ _=>hd,Around.frames_deeper e0.frames,.inr %[O|O],λ b z=>absurd z (noA b),e0.bs,e0.bsz,λ b _ _=>noA b,λ b z=>absurd z (noA b),e0.funs|e0.frf],
  rfl,e0.bare,Un.kept hk,%[_,x.toInCall.ns|λ i y v h1 h2 h3=>?_],λ y c h=>%[_|x.cell y c h],e0.hok.fresh (B2 _),λ y c h=>?_,λ p hp=>absurd (show p∈([]:OI (OE×Obj))from hp) (by simp),e0.hok.kept hk,?_⟩
 ·exact name_of_addr x.apart (Oy h1) (Oy h2)
 ·have hy:scope.names.lookup y=some .cell\/scope.names.lookup y=some .free:=hy;rcases hy with hy | hy
  ·exact lB hy
  ·exact absurd rfl (S.nofree _ (Oy hy))
 ·exact Nat.le_of_lt (x.above y c (Oy h))
 ·have hi:i < vs.length:=by
   unfold dI at h2
   by_cases hi:i < vs.length
   ·exact hi
   ·rw[List.getElem?_append_right (by simpa using hi)]at h2;rw[List.getElem?_replicate]at h2
    split at h2 <;> cases h2
  have ha:vs[i]?=some v:=by
   unfold dI at h2;rw[List.getElem?_append_left (by simpa using hi),N6]at h2;cases e:vs[i]? with
   | none=>rw[e]at h2;cases h2
   | some a=>rw[e]at h2;cases h2;rfl
  obtain⟨u,hu,rv⟩:=r.get ha;have hp:ps[i]?=some y:=by rw[<- S.pre,List.getElem?_take_of_lt ⋯];exact h1
  have ndP:ps.Nodup:=by rw[<- S.pre];exact S.nd.sublist (List.take_sublist _ _)
  refine%[u,rv|?_];rcases S.par y (B5 hp)with k | k
  ·exact .inl %[k|jx ndP hp hu k]
  ·obtain⟨c,e⟩:=lB (n:=s.heap.objs.size+1) k;refine .inr %[.inl k,c,e|?_];have q:=x.cell y c e;rw[jy ndP hp hu (by show scope.names.lookup y≠_;rw[k];decide)]at q;exact q
 ·exact e0.hok.fresh (Nat.le_of_lt (x.above y c (Oy h)))
 ·unfold dI;show _=N.length;rw[G5,J1,List.length_replicate];lia
theorem yy{CX:CXT}{P:F6}{w:F8}{K:C4}{mg:Str->OG F9}{base:Heap}{k:Nat}{f:OE}{name qual:Str}{params:Arguments}{body:OI Stmt}{scope:Scope}{dV kV doc pm cdv ct oc:F9}{an od:OG OE}
  {osl:OH (OG F9)} {N ps:OI Str} {sp:Sp} (lk:K.lookup f=some %[oc,od,.func (E4 name qual params body scope dV kV doc pm an cdv ct)|osl]) (hcd:PySem.W.codeIn K cdv qual=true) (S:FnScope N ps scope)
  (len:∀vs H Q E,sp vs H Q E->vs.length=ps.length)
  (hbody:∀(A:Around)(outer:OI Env)(s:F5)(H:Hp)(vs:OI V)(Q:VK)(E:XK),Room k (A.deeper (envOfC qual scope s.heap.objs.size f cdv))->sp vs H Q E ->
   ∃t,PSs (bJ CX P w K mg base N qual scope f cdv A outer s H E) body t/\t { nx:=λ _ H'=>Q .non H',rt:=Q } (dI N vs) H) :
  FnOk P w K mg base CX (k+1) f (E4 name qual params body scope dV kV doc pm an cdv ct) ps sp:=by
 refine%[len|λ A outer s H args us vs Q E hr e0 hb r hsp=>?_];have hl:=len _ _ _ _ hsp;have KX:K.In s.heap:=e0.mod.kin.keeps λ b o e=>(e0.bs b o e).1;have lim:s.heap.NoLimit:=e0.mod.nolimit.keeps λ b o e=>(e0.bs b o e).1;have hkind:∀y∈ps.zip us,scope.names.lookup y.1=some .local\/(scope.names.lookup y.1=some .cell/\((cellsFrom (s.heap.objs.size+1) scope.names []).lookup y.1).isSome=true):=λ⟨n,v⟩ hy=>by
  rcases S.par n (OA hy).1 with q | q
  ·exact .inl q
  ·exact .inr %[q|PySem.W.cellsFrom_some _ _ _ (.inl q)]
 refine codeAny_call_function hr.depth (KX _ _ lk) rfl S.co S.gen rfl (PySem.W.codeRec_of KX hcd) (hb _ _ _ _ ?_);refine wpAny_newFunctionEnv_cells S.kind hkind λ env he s1 x=>?_;subst he;refine%[lim.keeps x.toInCall.keep|codeAny_func ?_];obtain⟨t,ht,hq⟩:=hbody A outer s H vs Q E (hr.deeper _) hsp;have I:Inv (bJ CX P w K mg base N qual scope f cdv A outer s H E) [] (dI N vs) H s1:=jz S hr.hd e0 hl r x;refine OU (ht [] s1 (dI N vs) H _ I hq) (λ fl s' hs=>?_) λ e s' hs=>hs;have fin:∀{σ':St}{H':Hp}{v:V}{u:F9},Inv (bJ CX P w K mg base N qual scope f cdv A outer s H E) [] σ' H' s'->RelV v u->Q v H'->CE outer P w H s Q u s' :=
  λ {σ' H' v u} J rv q=>%[v,H',J.os,J.bare,J.base,J.hok,rv|q]
 cases fl with
 | ret u=>
  obtain⟨v,σ',H',J,rv,q⟩:=hs;exact fin J rv q
 | next=>
  obtain⟨σ',H',J,q⟩:=hs;exact fin (v:=V.non) (u:=Value.none) J rfl q
 | brk=>
  obtain⟨_,_,_,q⟩:=hs;exact E5 q
 | cont=>
  obtain⟨_,_,_,q⟩:=hs;exact E5 q
section
variable{X:Cx}{x:Str}{p pos:Pos}{e:Expr}{es:OI Expr}{t:TA}{id T:String}{r:OI V->Hp->VK->Prop}
def tCB(r:OI V->Hp->VK->Prop)(t:TA):TE:=λ σ H Q=>t σ H λ vs H1=>r vs H1 Q
theorem aA(hc:ck X (.builtin id) r)(hg:Gl X x)(hm:X.mg x=none)(hv:bootBuiltins x=some (.builtin id))(ha:PA X (e :: es) t)(hn:x ≠ "__name__" := by decide)(hdb:(x == ("__debug__" : Str))=false:=by decide)
  (he:starEach (e :: es) X.env=(false,eval e X.env) :: starEach es X.env:=by rfl) (hpl:(backTo pos (starEach es X.env)).any (·.1)=false:=by rfl):PE X (.Call (.Name x p) (e :: es) [] pos) (tCB r t):=by
 intro OK s σ H Q I h;refine Oo (gx I hg hm hv ?_ hn hdb);exact PyProof.Rows.callWith_builtin1 (thn (ha pos OK s σ H _ I h) λ us s1 %[vs,H1,I1,r1|q1]=>hc OK s1 σ H1 vs us Q I1 r1 q1) he hpl
theorem bg(hc:ck X (.type T) r)(hg:Gl X x)(hm:X.mg x=none)(hv:bootBuiltins x=some (.type T))(ha:PA X (e :: es) t)(hn:x ≠ "__name__" := by decide)(hdb:(x == ("__debug__" : Str))=false:=by decide)
  (he:starEach (e :: es) X.env=(false,eval e X.env) :: starEach es X.env:=by rfl) (hpl:(backTo pos (starEach es X.env)).any (·.1)=false:=by rfl):PE X (.Call (.Name x p) (e :: es) [] pos) (tCB r t):=by
 intro OK s σ H Q I h;refine Oo (gx I hg hm hv ?_ hn hdb);exact Os (thn (ha pos OK s σ H _ I h) λ us s1 %[vs,H1,I1,r1|q1]=>hc OK s1 σ H1 vs us Q I1 r1 q1) he hpl
end
end L2
namespace HT
open PySem PyProof.Rows
section
variable{prog:F6}{w:F8}{A:Around}{E:F9->F5->Prop}{s:F5}
theorem cat_tup{t b:OE}{vs ws:OI F9}{Q:F9->F5->Prop}(ht:IsTup s.heap t vs.toArray)(hb:IsTup s.heap b ws.toArray)(hv:vs≠[])
  (h1:ws=[]->Q (.ref t) s) (h2:ws≠[]->Q (.ref s.heap.objs.size) { s with heap:=s.heap.push { cls:=.type "tuple",data:=.seq (vs ++ ws).toArray } })
  (hsz:vs.length+ws.length<=sizeLine):wpAny (model prog w) A (binaryOp .Add (.ref t) (.ref b)) Q E s:=by
 obtain⟨⟨cls,dd,data,sl⟩,ho,hc,n,hd⟩:=id ht;obtain⟨⟨cls2,dd2,data2,sl2⟩,ho2,hc2,n2,hd2⟩:=id hb;simp only at hc hd hc2 hd2;subst hc hd hc2 hd2;have e:vs.toArray ++ ws.toArray=(vs ++ ws).toArray:=by simp
 by_cases hw:ws=[]
 ·exact concat_meets %[_,ho|rfl] %[_,ho2|rfl] noFill_tuple_add seq_tuple_add PySem.F.slot_tuple_add PySem.F.entry_tuple_add (PySem.F.args_tuple_add_2 _ _)
   (tuple_addW1 t b vs.toArray ws.toArray n n2 dd dd2 sl sl2 (by simpa using hv) (by simp[hw])) %[ho,ho2|h1 hw]
 ·refine concat_meets %[_,ho|rfl] %[_,ho2|rfl] noFill_tuple_add seq_tuple_add PySem.F.slot_tuple_add PySem.F.entry_tuple_add (PySem.F.args_tuple_add_2 _ _)
   (tuple_addW2 t b vs.toArray ws.toArray n n2 dd dd2 sl sl2 (by simpa using hv) (by simpa using hw) (by rw[G7,G7];exact hsz)) %[ho,ho2|?_]
  rw[e];exact h2 hw
def sIx(n d:Nat):OG Int->Nat
 | none=>d
 | some v=>if v < 0 then(v+(n:Int)).toNat else min v.toNat n
theorem sIx_none(n d:Nat):sIx n d none=d:=rfl
theorem sIx_nat(n d k:Nat):sIx n d (some (k:Int))=min k n:=by show(if (k:Int) < 0 then((k:Int)+(n:Int)).toNat else min (k:Int).toNat n)=min k n;rw[OQ ⋯,M1]
theorem sV(n d:Nat)(hd:d<=n)(o:OG Int):sIx n d o<=n:=by
 cases o with
 | none=>exact hd
 | some v=>
  show(if v < 0 then(v+(n:Int)).toNat else min v.toNat n)<=n
  by_cases hv:v < 0
  ·rw[OR hv];lia
  ·rw[OQ hv];exact Nat.min_le_right _ _
theorem oV(v:Int)(n d:Nat):(if v < 0 then max (v+(n:Int)) 0 else min v (n:Int))=((sIx n d (some v):Nat):Int):=by
 show(if v < 0 then max (v+(n:Int)) 0 else min v (n:Int))=(((if v < 0 then(v+(n:Int)).toNat else min v.toNat n):Nat):Int)
 by_cases hv:v < 0
 ·simp only[OR hv];lia
 ·simp only[OQ hv];lia
theorem mw(lo hi:OG Int)(n:Nat):Builtin.Slice.sliceAdjust lo hi 1 (n:Int)=(((sIx n 0 lo:Nat):Int),((sIx n n hi:Nat):Int)):=by
 have h1:¬ ((1:Int) < 0):=⋯
 unfold Builtin.Slice.sliceAdjust;simp only[h1,Oq];refine Prod.ext ?_ ?_
 ·cases lo with
  | none=>rfl
  | some v=>exact oV v n 0
 ·cases hi with
  | none=>rfl
  | some v=>exact oV v n n
theorem mz(i j:Nat):Builtin.Slice.slicePlaces (i:Int) (j:Int) 1=j - i:=by
 unfold Builtin.Slice.slicePlaces;have h1:(1:Int) > 0:=⋯
 simp only[h1,O1,Int.ediv_one]
 split <;> lia
theorem iE{v:F9}{o:OG Int}{Q:OG Int->F5->Prop}(p:IsPart v o)(h:Q o s):wpAny (model prog w) A (Builtin.Slice.slicePartIndex v) Q E s:=by
 cases p with
 | none=>exact slicePart_none h
 | int i t=>exact slicePart_int h
theorem dJ{sl:OE}{vl vu:F9}{lo hi:OG Int}{n:Nat}{Q:Int×Int×Nat->F5->Prop}(hs:s.heap.IsSliceOf sl vl vu .none)(pl:IsPart vl lo)(pu:IsPart vu hi)
  (h:Q (((sIx n 0 lo:Nat):Int),1,sIx n n hi - sIx n 0 lo) s):wpAny (model prog w) A (Builtin.Slice.sliceApplied (.ref sl) (pure (n:Int))) Q E s:=by
 obtain⟨os,hos,hcs,hds⟩:=id hs;unfold Builtin.Slice.sliceApplied Builtin.Slice.sliceFields;refine A0 (A0 (Ou hos hds (x:=vl) rfl (A0 (Ou hos hds (x:=vu) rfl (A0 (Ou hos hds (x:=.none) rfl (A1 ?_)))))));refine A0 (slicePart_none ?_);show wpAny _ _ (if ((1:Int) == 0)=true then _ else _) _ _ s;rw[OQ ∅];refine A0 (iE pl (A0 (iE pu (A0 (A1 ?_)))));show wpAny _ _ (match Builtin.Slice.sliceAdjust lo hi 1 (n:Int)with | (lo,hi)=>pure (lo,(1:Int),Builtin.Slice.slicePlaces lo hi 1)) _ _ s;rw[mw lo hi n];show wpAny _ _ (pure (((sIx n 0 lo:Nat):Int),(1:Int),Builtin.Slice.slicePlaces ((sIx n 0 lo:Nat):Int) ((sIx n n hi:Nat):Int) 1)) _ _ s;rw[mz];exact A1 h
theorem sW(xs:OH F9)(i k:Nat):((List.range k).filterMap λ (m:Nat)=>xs[((i:Int)+(m:Int) * 1).toNat]?).toArray=((xs.toList.drop i).take k).toArray:=by
 have e:(λ (m:Nat)=>xs[((i:Int)+(m:Int) * 1).toNat]?)=λ m=>xs[i+m]? := by
  funext m
  have:((i:Int)+(m:Int) * 1).toNat=i+m:=⋯
  rw[this]
 rw[e];have:=pick_run xs i k;rw[List.filterMap_map]at this;have e2:((λ x=>xs[x]?)∘λ x=>i+x)=λ m=>xs[i+m]? := rfl;rw[e2]at this;rw[this]
theorem getItem_tuple_cut{t sl:OE}{items:OH F9}{vl vu:F9}{lo hi:OG Int}{Q:F9->F5->Prop}(ht:IsTup s.heap t items)(hs:s.heap.IsSliceOf sl vl vu .none)(pl:IsPart vl lo)(pu:IsPart vu hi)
  (hw:¬ (sIx items.size 0 lo=0/\sIx items.size items.size hi=items.size))
  (h:Q (.ref s.heap.objs.size) { s with heap:=s.heap.push { cls:=.type "tuple",data:=.seq ((items.toList.drop (sIx items.size 0 lo)).take (sIx items.size items.size hi - sIx items.size 0 lo)).toArray } })
  (hsz:items.size<=sizeLine):wpAny (model prog w) A (getItem (.ref t) (.ref sl)) Q E s:=by
 have htake:sizeOk (.seq ((items.toList.drop (sIx items.size 0 lo)).take (sIx items.size items.size hi - sIx items.size 0 lo)).toArray):=by show((items.toList.drop (sIx items.size 0 lo)).take (sIx items.size items.size hi - sIx items.size 0 lo)).toArray.size<=sizeLine;rw[G7,J2,K0,Array.length_toList];lia
 have hj:sIx items.size items.size hi<=items.size:=sV _ _ (B2 _) hi;obtain⟨os,hos,hcs,hds⟩:=id hs;have hTs:s.TypeIs (.ref sl) "slice" := %[os,hos|hcs]
 unfold getItem
 try with_reducible refine OV ?_
 first | refine A0 (A1 ?_) | skip
 refine A0 (wpAny_sequenceKey ht.typeIs ∅ ?_);refine A0 (wpAny_callSpecial?_slot (name:=Str.ofString "__getitem__") ht.typeIs Om
  (F2 Om ht.typeIs entry_tuple_getitem ?_ (args_tuple_getitem _ _)))
 show wpAny _ _ (Builtin.Tuple.tupleItemsOf (.ref t) >>= _) _ _ s;refine A0 (tupleItemsOf_ ht ?_);refine A0 (wpAny_typeOf hTs ?_);rw[OR ∅];refine A0 (dJ hs pl pu ?_);have hno:¬ ((((sIx items.size 0 lo:Nat):Int) == 0 && (1:Int) == 1 && (sIx items.size items.size hi - sIx items.size 0 lo) == items.size)=true):=by intro q;rw[G8,G8]at q;have q1:((sIx items.size 0 lo:Nat):Int)=0:=eq_of_beq q.1.1;have q2:sIx items.size items.size hi - sIx items.size 0 lo=items.size:=eq_of_beq q.2;exact hw %[⋯|⋯]
 show wpAny _ _ (if (((sIx items.size 0 lo:Nat):Int) == 0 && (1:Int) == 1 && (sIx items.size items.size hi - sIx items.size 0 lo) == items.size)=true then _ else _) _ _ s;rw[OQ hno,sW]
 first
  | exact A0 (m:=Builtin.Tuple.tupleExact _) (F3 (A1 ⟨_,rfl,A1 h⟩) htake)
  | exact A0 (m:=Builtin.Tuple.tupleExact _) (F3 (A0 (A1 (A1 ⟨_,rfl,A1 h⟩))) htake)
  | exact A0 (A0 (m:=Builtin.Tuple.tupleExact _) (F3 (A1 (A1 ⟨_,rfl,A1 h⟩)) htake))
  | exact A0 (A0 (m:=Builtin.Tuple.tupleExact _) (F3 (A1 ⟨_,rfl,A1 h⟩) htake))
end
end HT
namespace L2
open PySem PySem.Spec PyProof.Rows
abbrev TO:=St->Hp->(OG Int->Hp->Prop)->Prop
def PO(X:Cx)(e:OG Expr)(t:TO):Prop :=
 ∀(OK:OI (OE×Obj))(s:F5)(σ:St)(H:Hp)(Q:OG Int->Hp->Prop),Inv X OK σ H s->t σ H Q ->
  wpAny (model X.prog X.w) X.A (evalPart e X.env) (λ u s'=>∃o H',Inv X OK σ H' s'/\IsPart u o/\Q o H') X.xe s
def kj:TO:=λ _ H Q=>Q none H
def sX(t:TE):TO:=λ σ H Q=>t σ H λ x H1=>∃i,x=.int i/\Q (some i) H1
section
variable{X:Cx}{e:Expr}{te:TE}{lo hi:OG Expr}{tl th:TO}{pos p2:Pos}
theorem bi:PO X none kj:=by intro OK s σ H Q I h;rw[evalPart_none];exact A1 %[none,H,I,.none|h]
theorem aW(h:PE X e te):PO X (some e) (sX te):=by intro OK s σ H Q I hw;rw[evalPart_some];refine thn (h OK s σ H _ I hw) ?_;rintro u s1 ⟨x,H1,I1,r1,q1⟩;obtain⟨i,rfl,q⟩:=q1;obtain⟨t,rfl⟩:=r1;exact%[some i,H1,I1,.int i t|q]
def SlR(X:Cx)(r:V->OG Int->OG Int->Hp->VK->Prop):Prop :=
 ∀(OK:OI (OE×Obj))(s:F5)(σ:St)(H:Hp)(x:V)(v vl vu:F9)(lo hi:OG Int)(sl:OE)(Q:VK),Inv X OK σ H s->RelV x v->s.heap.IsSliceOf sl vl vu .none->IsPart vl lo->IsPart vu hi->r x lo hi H Q ->
  ∃T id,typeLookup (.type T) "__getitem__" = pure (some (.builtin id))/\s.TypeIs v T/\wpAny (model X.prog X.w) X.A (getItem v (.ref sl)) (EP X OK σ Q) X.xe s
def tSl(r:V->OG Int->OG Int->Hp->VK->Prop)(te:TE)(tl th:TO):TE:=λ σ H Q=>te σ H λ x H1=>tl σ H1 λ l H2=>th σ H2 λ u H3=>r x l u H3 Q
theorem aT{r:V->OG Int->OG Int->Hp->VK->Prop}(hr:SlR X r)(he:PE X e te)(hl:PO X lo tl)(hu:PO X hi th):PE X (.Subscript e (.Slice lo hi none p2) pos) (tSl r te tl th):=by intro OK s σ H Q I h;refine Subscript_ (thn (he OK s σ H _ I h) ?_);rintro v s1 ⟨x,H1,I1,r1,q1⟩;refine wpAny_Slice (thn (hl OK s1 σ H1 _ I1 q1) ?_);rintro vl s2 ⟨l,H2,I2,pl,q2⟩;refine thn (hu OK s2 σ H2 _ I2 q2) ?_;rintro vu s3 ⟨u,H3,I3,pu,q3⟩;rw[evalPart_none];refine A1 ?_;have I4:Inv X OK σ H3 { s3 with heap:=s3.heap.push { cls:=.type "slice",data:=.fields #[vl,vu,.none] } }:=I3.kept (t':=s3.toks) λ b ob q=>A6 _ q;obtain⟨T,id,hT,ht,hg⟩:=hr OK { s3 with heap:=s3.heap.push { cls:=.type "slice",data:=.fields #[vl,vu,.none] } } σ H3 x v vl vu l u s3.heap.objs.size Q I4 r1 (Heap.IsSliceOf.new ..) pl pu q3;show wpAny (model X.prog X.w) X.A (subscriptTail e (.Slice lo hi none p2) v (.ref s3.heap.objs.size)) (EP X OK σ Q) X.xe { s3 with heap:=s3.heap.push { cls:=.type "slice",data:=.fields #[vl,vu,.none] } };exact tail_any (ops:=[.ref s3.heap.objs.size,v]) ht hT hg (by with_unfolding_all rfl)
def eE(xs:OI V)(lo hi:OG Int):OI V:=(xs.drop (HT.sIx xs.length 0 lo)).take (HT.sIx xs.length xs.length hi - HT.sIx xs.length 0 lo)
theorem gX(xs:OI V)(lo hi:OG Int):(eE xs lo hi).length<=xs.length:=by unfold eE;rw[J2,K0];lia
def Lo(K:C4):V->OG Int->OG Int->Hp->VK->Prop:=λ x lo hi H Q=>∃a xs,x=.ref a/\SqT K H a xs /\
 ¬ (HT.sIx xs.length 0 lo=0/\HT.sIx xs.length xs.length hi=xs.length)/\∀p,H p=none->Q (.ref p) (upd H p (.tup (eE xs lo hi)))
theorem mB:SlR X (Lo X.K):=by
 intro OK s σ H x v vl vu lo hi sl Q I rx hs pl pu h;obtain⟨a,xs,rfl,hx,hw,q⟩:=h;cases rx;obtain⟨its,r,ht,hz⟩:=I.tuple hx;have OM:its.toArray.size=xs.length:=by rw[G7];exact r.length.symm
 refine%["tuple",_,PyProof.Rows.slot_tuple_getitem.lookup,ht.typeIs|?_];refine HT.getItem_tuple_cut ht hs pl pu (by rw[OM];exact hw) ?_ (by rw[OM];exact hz);rw[OM];refine%[.ref s.heap.objs.size,_,I.laid (t':=s.toks) (o:=.tup (eE xs lo hi)) (λ b ob q=>A6 _ q) (B2 _) ?_,O|q _ (I.hok.fresh (B2 _))];exact%[C5 (gX xs lo hi) hz,_,(r.drop (HT.sIx xs.length 0 lo)).take (HT.sIx xs.length xs.length hi - HT.sIx xs.length 0 lo)|IsTup.new _ _]
def Ef(K:C4):R2:=λ x y H Q=>∃a b xs ys,x=.ref a/\y=.ref b/\SqT K H a xs/\SqT K H b ys/\xs≠[]/\xs.length+ys.length<=sizeLine /\
 (ys=[]->Q (.ref a) H)/\(ys≠[]->∀p,H p=none->Q (.ref p) (upd H p (.tup (xs ++ ys))))
theorem Vals.nil_iff{xs:OI V}{us:OI F9}(r:Vals xs us):us=[]↔xs=[]:=by
 cases r with
 | nil=>simp
 | cons _ _=>simp
theorem km:OpR X (binaryOp .Add) (Ef X.K):=by intro OK s σ H x y v u Q I rx ry h;obtain⟨a,b,xs,ys,rfl,rfl,ha,hb,hx,hz,q1,q2⟩:=h;cases rx;cases ry;obtain⟨its,r1,p1,_⟩:=I.tuple ha;obtain⟨its2,r2,p2,_⟩:=I.tuple hb;refine HT.cat_tup p1 p2 (λ z=>hx (r1.nil_iff.mp z)) (λ z=>%[.ref a,H,I,O|q1 (r2.nil_iff.mp z)]) (λ z=>?_) (by rw[<- r1.length,<- r2.length];exact hz);refine%[.ref s.heap.objs.size,_,I.laid (t':=s.toks) (o:=.tup (xs ++ ys)) (λ b ob q=>A6 _ q) (B2 _) ?_,O|q2 (λ w=>z (r2.nil_iff.mpr w)) _ (I.hok.fresh (B2 _))];exact%[by rw[G5];exact hz,_,r1.append r2|IsTup.new _ _]
inductive rz_call_tupleT(K:C4)(xs:OI V)(H:Hp)(Q:VK):Prop
|mk(a ys:_)(_:xs=[.ref a])(_:SqT K H a ys)(_:Q (.ref a) H)
end
def ixN(n:Nat)(i:Int):OG Nat:=if 0<=i then(if i < n then some i.toNat else none)else if -(n:Int)<=i then some (i+n).toNat else none
def atI{α:Type}(xs:OI α)(i:Int):OG α:=(ixN xs.length i).bind λ j=>xs[j]?
theorem oW{n:Nat}{i:Int}{j:Nat}(h:ixN n i=some j):seqIndex? i n=some j/\j < n/\-(n:Int)<=i/\i < n:=by
 unfold ixN at h
 by_cases h0:0<=i
 ·rw[OR h0]at h
  by_cases h1:i < n
  ·rw[OR h1]at h;have e:i.toNat=j:=B8 h;exact%[by rw[seqIndex_of h0 h1,e],⋯,⋯|h1]
  ·rw[OQ h1]at h;cases h
 ·rw[OQ h0]at h
  by_cases h1:-(n:Int)<=i
  ·rw[OR h1]at h;have e:(i+n).toNat=j:=B8 h;exact%[by rw[seqIndex_neg ⋯ h1,e],⋯,h1|⋯]
  ·rw[OQ h1]at h;cases h
theorem ko{α:Type}{xs:OI α}{i:Int}{v:α}(h:atI xs i=some v):∃j,seqIndex? i xs.length=some j/\xs[j]?=some v/\j < xs.length/\-(xs.length:Int)<=i/\i < xs.length:=by
 unfold atI at h;cases e:ixN xs.length i with
 | none=>rw[e]at h;cases h
 | some j=>
  rw[e]at h;obtain⟨h1,h2,h3,h4⟩:=oW e;exact%[j,h1,h,h2,h3|h4]
theorem ff{α:Type}{xs:OI α}{j:Nat}{v:α}(h:xs[j]?=some v):atI xs (j:Int)=some v:=by
 have hj:j < xs.length:=(A5.mp h).1;have e:ixN xs.length (j:Int)=some j:=by unfold ixN;rw[OR ⋯,OR ⋯];simp
 unfold atI;rw[e];exact h
theorem sY{α:Type}(xs:OI α)(v:α):atI (xs ++ [v]) (-1)=some v:=by
 have hl:(xs ++ [v]).length=xs.length+1:=by simp
 have e:ixN (xs ++ [v]).length (-1)=some xs.length:=by unfold ixN;rw[hl,OQ ∅,OR ⋯];congr 1;lia
 unfold atI;rw[e];show(xs ++ [v])[xs.length]?=some v;simp
def vZ(b:Expr):Prop:=∀o i,subscripted b false o i=operate [o,i] (getItem o i)
def IxR(X:Cx)(r:R2):Prop :=
 ∀(value slice:Expr)(OK:OI (OE×Obj))(s:F5)(σ:St)(H:Hp)(x y:V)(v u:F9)(Q:VK),Inv X OK σ H s->RelV x v->RelV y u->r x y H Q ->
  subscripted slice false v u=operate [v,u] (getItem v u)->wpAny (model X.prog X.w) X.A (subscriptTail value slice v u) (EP X OK σ Q) X.xe s
def MtR(X:Cx)(id:String)(r:V->OI V->Hp->VK->Prop):Prop :=
 ∀(OK:OI (OE×Obj))(s:F5)(σ:St)(H:Hp)(x:V)(xs:OI V)(v:F9)(us:OI F9)(Q:VK),Inv X OK σ H s->RelV x v->Vals xs us->r x xs H Q ->
  wpAny (model X.prog X.w) X.A (call (.builtin id) (v :: us)) (EP X OK σ Q) X.xe s
section
variable{X:Cx}{a b:Expr}{ta tb:TE}{pos:Pos}
theorem IxR.or{r r':R2}(h:IxR X r)(h':IxR X r'):IxR X (λ x y H Q=>r x y H Q\/r' x y H Q):=by
 intro value slice OK s σ H x y v u Q I rx ry q hs;rcases q with q | q
 ·exact h value slice OK s σ H x y v u Q I rx ry q hs
 ·exact h' value slice OK s σ H x y v u Q I rx ry q hs
theorem ai{r:R2}(hr:IxR X r)(ha:PE X a ta)(hb:PE X b tb)(hs:vZ b):PE X (.Subscript a b pos) (tOp r ta tb):=by intro OK s σ H Q I h;exact Subscript_ (yV ha hb I h λ v u s2 x y H2 I2 rx ry q=>hr a b OK s2 σ H2 x y v u Q I2 rx ry q (hs _ _))
inductive rIxL(K:C4)(x:V)(y:V)(H:Hp)(Q:VK):Prop
|mk(p:OE)(xs:OI V)(i:Int)(v:V)(_:x=.ref p)(_:y=.int i)(_:SqL K H p xs)(_:atI xs i=some v)(_:Q v H)
inductive rIxT(K:C4)(x:V)(y:V)(H:Hp)(Q:VK):Prop
|mk(p:OE)(xs:OI V)(i:Int)(v:V)(_:x=.ref p)(_:y=.int i)(_:SqT K H p xs)(_:atI xs i=some v)(_:Q v H)
def Eg:R2:=λ x y H Q=>∃z i c,x=.str z/\y=.int i/\z.length<=sizeLine/\atI z.cps.toList i=some c/\Q (.str %[|#[c]]) H
theorem ix_list:IxR X (rIxL X.K):=by
 intro value slice OK s σ H x y v u Q I rx ry h hs;obtain⟨p,xs,i,z,rfl,rfl,hq,he,q⟩:=h;cases rx;obtain⟨t,rfl⟩:=ry;obtain⟨its,r,pl,hz⟩:=I.list hq;obtain⟨j,h1,h2,h3,h4,h5⟩:=ko he;obtain⟨w,ew,rw'⟩:=r.get h2;have hl:=r.length;have hn:=gC;have fin:EP X OK σ Q w s:=%[z,H,I,rw'|q]
 by_cases h0:0<=i
 ·have hj:i.toNat=j:=by rw[seqIndex_of h0 h5]at h1;exact B8 h1
  exact item_listR pl.isList h0 ⋯ (by rw[hj];simpa using ew) fin hs
 ·have hj:(i+(its.toArray.size:Int)).toNat=j:=by rw[seqIndex_neg ⋯ h4]at h1;rw[G7,<- hl];exact B8 h1
  exact subscriptTail_builtinR (x:=w) pl.isList.typeIs slot_list_getitem.lookup
   (wpAny_getItem_list_neg (Q:=λ r s'=>r=w/\EP X OK σ Q r s') pl.isList ⋯ (by rw[G7] <;> lia) ⋯ (by rw[hj];simpa using ew) %[rfl|fin]) hs
theorem ix_tup:IxR X (rIxT X.K):=by
 intro value slice OK s σ H x y v u Q I rx ry h hs;obtain⟨p,xs,i,z,rfl,rfl,hq,he,q⟩:=h;cases rx;obtain⟨t,rfl⟩:=ry;obtain⟨its,r,pl,hz⟩:=I.tuple hq;obtain⟨j,h1,h2,h3,h4,h5⟩:=ko he;obtain⟨w,ew,rw'⟩:=r.get h2;have hl:=r.length;have hn:=gC;have fin:EP X OK σ Q w s:=%[z,H,I,rw'|q]
 exact subscriptTail_builtinR (x:=w) pl.typeIs slot_tuple_getitem.lookup
  (getItem_tuple (j:=j) (Q:=λ r s'=>r=w/\EP X OK σ Q r s') pl ⋯ ⋯ (by rw[G7,<- hl];exact h1) (by simpa using ew) %[rfl|fin]) hs
theorem yZ:IxR X Eg:=by
 intro value slice OK s σ H x y v u Q I rx ry h hs;obtain⟨z,i,c,rfl,rfl,hz,he,q⟩:=h;obtain⟨t,rfl⟩:=rx;obtain⟨t',rfl⟩:=ry;obtain⟨j,h1,h2,h3,h4,h5⟩:=ko he;have hl:z.cps.toList.length=z.length:=by simp[Str.length]
 rw[hl]at h1 h4 h5;have hn:=gC;exact tail_any (typeIs_str s z t) slot_str_getitem.lookup (getItem_str (c:=c) (by
  have e1:decide (i < -(2 ^ 63:Int))=false:=B0 ⋯;have e2:decide (i≥2 ^ 63)=false:=B0 ⋯;rw[e1,e2,Bool.or_false]) (by rw[h1];simpa using h2) %[.str %[|#[c]],H,I.tok _,%[_|rfl]|q]) hs
def rIx(K:C4):R2:=λ x y H Q=>rIxL K x y H Q\/rIxT K x y H Q\/Eg x y H Q
theorem bQ:IxR X (rIx X.K):=ix_list.or (ix_tup.or yZ)
theorem mC(its:OI F9)(n j:Nat)(u:F9):Obj.mapSeq (·.setIfInBounds j u) { cls:=.type "list",data:=.seq its.toArray n }={ cls:=.type "list",data:=.seq (its.set j u).toArray n }:=by simp[Obj.mapSeq]
theorem Inv.lst{OK:OI (OE×Obj)}{σ:St}{H:Hp}{s:F5}{p:OE}{xs:OI V}(I:Inv X OK σ H s)(h:H p=↥xs) :
  ∃(its:OI F9)(n:Nat),Vals xs its/\s.heap.get? p=some { cls:=.type "list",data:=.seq its.toArray n }/\xs.length<=sizeLine:=by
 obtain⟨z,its,n,r,e⟩:=I.hok p _ h;exact%[its,n,r,e|z]
theorem Inv.lstUpd{OK:OI (OE×Obj)}{σ:St}{H:Hp}{s:F5}{p:OE}{xs ys:OI V}{its its':OI F9}{n n':Nat}{f:Obj->Obj}(I:Inv X OK σ H s)(h:H p=↥xs)
  (ho:s.heap.get? p=some { cls:=.type "list",data:=.seq its.toArray n }) (hf:f { cls:=.type "list",data:=.seq its.toArray n }={ cls:=.type "list",data:=.seq its'.toArray n' }) (r:Vals ys its') (hz:ys.length<=sizeLine) (t:Nat) :
  Inv X OK σ (upd H p (.lst ys)) { s with heap:=s.heap.update p f,toks:=t }:=by
 have e:(s.heap.update p f).get? p=some { cls:=.type "list",data:=.seq its'.toArray n' }:=by rw[Heap.get?_update_self f ho (by rw[hf] <;> rfl),hf]
 refine I.write (x:=p) (e:=p) (by rw[h];trivial) (.inl rfl) (λ b u hb q=>(Heap.get?_update_other _ _ (Ne.symm hb)).trans q) %[_|e] ?_;exact%[hz,its',n',r|e]
inductive rSetL(o:V)(i:V)(v:V)(H:Hp)(Q:Hp->Prop):Prop
|mk(p:OE)(xs:OI V)(k:Int)(j:Nat)(_:o=.ref p)(_:i=.int k)(_:H p=↥xs)(_:ixN xs.length k=some j)(_:Q (upd H p (.lst (xs.set j v))))
theorem iF:DQ X rSetL:=by
 intro OK s σ H o i v ov iv u Q I ro ri rv h;obtain⟨p,xs,k,j,rfl,rfl,hp,hj,q⟩:=h;cases ro;obtain⟨t,rfl⟩:=ri;obtain⟨its,n,r,ho,hz⟩:=I.lst hp;obtain⟨h1,h2,h3,h4⟩:=oW hj;have hl:=r.length;have hn:=gC;have I':Inv X OK σ (upd H p (.lst (xs.set j v))) { s with heap:=s.heap.update p (Obj.mapSeq (·.setIfInBounds j u)) } :=
  I.lstUpd hp ho (mC its n j u) (r.set rv j) (by rw[List.length_set];exact hz) s.toks
 by_cases h0:0<=k
 ·have hk:k.toNat=j:=by rw[seqIndex_of h0 h4]at h1;exact B8 h1
  exact PySem.W.ki_setAt ho h0 ⋯ (by rw[G7,<- hl];exact h4) (by rw[hk];exact%[_,I'|q])
 ·have hk:(k+(its.toArray.size:Int)).toNat=j:=by rw[seqIndex_neg ⋯ h3]at h1;rw[G7,<- hl];exact B8 h1
  exact PySem.W.ki_setBack ho ⋯ (by rw[G7,<- hl];exact h3) ⋯ (by rw[hk];exact%[_,I'|q])
theorem kq(lo hi:OG Int)(n:Nat):(sliceBounds lo hi none n).1=((HT.sIx n 0 lo:Nat):Int)/\(sliceBounds lo hi none n).2.1=((HT.sIx n n hi:Nat):Int)/\(sliceBounds lo hi none n).2.2=1:=by
 refine%[?_,?_|O]
 ·cases lo with
  | none=>simp[sliceBounds,HT.sIx]
  | some i=>
   simp only[sliceBounds,HT.sIx,Option.getD_none,show(1:Int) > 0 by decide,O1]
   by_cases h:i < 0
   ·simp only[h,O1] <;> lia
   ·simp only[h,Oq] <;> lia
 ·cases hi with
  | none=>simp[sliceBounds,HT.sIx]
  | some i=>
   simp only[sliceBounds,HT.sIx,Option.getD_none,show(1:Int) > 0 by decide,O1]
   by_cases h:i < 0
   ·simp only[h,O1] <;> lia
   ·simp only[h,Oq] <;> lia
theorem jj(its:OI F9)(lo hi:OG Int):slicePick its.toArray lo hi none=((its.drop (HT.sIx its.length 0 lo)).take (HT.sIx its.length its.length hi - HT.sIx its.length 0 lo)).toArray:=by obtain⟨h1,h2,h3⟩:=kq lo hi its.toArray.size;unfold slicePick;rw[h1,h2,h3];simp only[sliceRange_one,pick_run,G7] <;> rfl
inductive rSlL(K:C4)(x:V)(lo:OG Int)(hi:OG Int)(H:Hp)(Q:VK):Prop
|mk(a:OE)(xs:OI V)(_:x=.ref a)(_:SqL K H a xs)(_:∀p,H p=none->Q (.ref p) (upd H p (.lst (eE xs lo hi))))
theorem wc:SlR X (rSlL X.K):=by intro OK s σ H x v vl vu lo hi sl Q I rx hs pl pu h;obtain⟨a,xs,rfl,hx,q⟩:=h;cases rx;obtain⟨its,r,ht,hz⟩:=I.list hx;have OM:=r.length;refine%["list",_,slot_list_getitem.lookup,ht.isList.typeIs|?_];refine wpAny_getItem_list_slice ht.isList hs pl pu .none (by simp) ?_ (by rw[G7] <;> lia);rw[jj,<- OM];refine%[.ref s.heap.objs.size,_,I.laid (t':=s.toks) (o:=.lst (eE xs lo hi)) (λ b ob q=>A6 _ q) (B2 _) ?_,O|q _ (I.hok.fresh (B2 _))];exact%[C5 (gX xs lo hi) hz,_,0,(r.drop (HT.sIx xs.length 0 lo)).take (HT.sIx xs.length xs.length hi - HT.sIx xs.length 0 lo)|A7 _ rfl]
def gY:V->Bool
 | .non=>true
 | .bl _=>true
 | .int _=>true
 | .str _=>true
 | _=>false
def eqV:V->V->Bool
 | .non,.non=>true
 | .bl a,.bl b=>a == b
 | .bl a,.int b=>(if a then 1 else 0) == b
 | .int a,.bl b=>a == (if b then 1 else 0)
 | .int a,.int b=>a == b
 | .str a,.str b=>a == b
 | _,_=>false
theorem za{A:Around}{s:F5}{y x:V}{u v:F9}(ry:RelV y u)(rx:RelV x v)(fy:gY y=true)(fx:gY x=true):SeqAt.EqAt A s u v (eqV y x):=by
 cases y with
 | non=>
  cases ry;cases x with
  | non=>cases rx;exact SeqAt.EqAt.same _
  | bl b=>cases rx;exact SeqAt.EqAt.none_bool b
  | int b=>obtain⟨t,rfl⟩:=rx;exact SeqAt.EqAt.none_int b t
  | str b=>obtain⟨t,rfl⟩:=rx;exact SeqAt.EqAt.none_str b t
  | _=>exact absurd (show false=true from fx) B1
 | bl a=>
  cases ry;cases x with
  | non=>cases rx;exact SeqAt.EqAt.bool_none a
  | bl b=>cases rx;exact SeqAt.EqAt.bool_bool a b
  | int b=>obtain⟨t,rfl⟩:=rx;exact SeqAt.EqAt.bool_int a b t
  | str b=>obtain⟨t,rfl⟩:=rx;exact SeqAt.EqAt.bool_str a b t
  | _=>exact absurd (show false=true from fx) B1
 | int a=>
  obtain⟨t',rfl⟩:=ry;cases x with
  | non=>cases rx;exact SeqAt.EqAt.int_none a t'
  | bl b=>cases rx;exact SeqAt.EqAt.int_bool a t' b
  | int b=>obtain⟨t,rfl⟩:=rx;exact SeqAt.EqAt.int_int a t' b t
  | str b=>obtain⟨t,rfl⟩:=rx;exact SeqAt.EqAt.int_str a t' b t
  | _=>exact absurd (show false=true from fx) B1
 | str a=>
  obtain⟨t',rfl⟩:=ry;cases x with
  | non=>cases rx;exact SeqAt.EqAt.str_none a t'
  | bl b=>cases rx;exact SeqAt.EqAt.str_bool a t' b
  | int b=>obtain⟨t,rfl⟩:=rx;exact SeqAt.EqAt.str_int a t' b t
  | str b=>obtain⟨t,rfl⟩:=rx;exact SeqAt.EqAt.str_str a t' b t
  | _=>exact absurd (show false=true from fx) B1
 | _=>exact absurd (show false=true from fy) B1
def eqU(x:V)(u:F9):Bool:=match u with
 | .none=>eqV .non x
 | .bool b=>eqV (.bl b) x
 | .int i _=>eqV (.int i) x
 | .str z _=>eqV (.str z) x
 | _=>false
theorem tj{x y:V}{u:F9}(r:RelV y u)(f:gY y=true):eqU x u=eqV y x:=by
 cases y with
 | non=>cases r;rfl
 | bl b=>cases r;rfl
 | int i=>obtain⟨t,rfl⟩:=r;rfl
 | str z=>obtain⟨t,rfl⟩:=r;rfl
 | _=>exact absurd (show false=true from f) B1
theorem ge{x:V}:∀{xs:OI V}{us:OI F9},Vals xs us->xs.all gY=true->us.any (eqU x)=xs.any λ y=>eqV y x
 | _,_,.nil,_=>rfl
 | y :: xs,u :: us,.cons r t,f=>by rw[N9,G8]at f;rw[List.any_cons,List.any_cons,tj r f.1,ge t f.2]
theorem eM{A:Around}{s:F5}{x:V}{v:F9}(rx:RelV x v)(fx:gY x=true):∀{xs:OI V}{us:OI F9},Vals xs us->xs.all gY=true->∀u∈us,SeqAt.EqAt A s u v (eqU x u)
 | _,_,.nil,_=>λ u hu=>by cases hu
 | y :: xs,u :: us,.cons r t,f=>λ u' hu=>by
  rw[N9,G8]at f;rcases G6.mp hu with rfl | hu
  ·rw[tj r f.1];exact za r rx f.1 fx
  ·exact eM rx fx t f.2 u' hu
def inV(x:V)(xs:OI V):Bool:=xs.any λ y=>eqV y x
def rIn(K:C4)(neg:Bool):R2:=λ x y H Q=>∃p xs,y=.ref p/\(SqL K H p xs\/SqT K H p xs)/\gY x=true/\xs.all gY=true/\Q (.bl (if neg then !inV x xs else inV x xs)) H
theorem gF:OpR X (compareOp .In) (rIn X.K false):=by
 intro OK s σ H x y v u Q I rx ry h;obtain⟨p,xs,rfl,hq,fx,fs,q⟩:=h;cases ry;rcases hq with hq | hq
 ·obtain⟨its,r,pl,hz⟩:=I.list hq;refine SeqAt.in_listAt (eqU x) pl.isList (λ w hw=>eM rx fx r fs w (by simpa using hw)) %[.bl _,H,I,rfl|?_];rw[show its.toArray.any (eqU x)=its.any (eqU x)by simp,ge r fs];exact q
 ·obtain⟨its,r,pl,hz⟩:=I.tuple hq;refine SeqAt.in_tupleAt (eqU x) pl (λ w hw=>eM rx fx r fs w (by simpa using hw)) %[.bl _,H,I,rfl|?_];rw[show its.toArray.any (eqU x)=its.any (eqU x)by simp,ge r fs];exact q
theorem dS:OpR X (compareOp .NotIn) (rIn X.K true):=by
 intro OK s σ H x y v u Q I rx ry h;obtain⟨p,xs,rfl,hq,fx,fs,q⟩:=h;cases ry;rcases hq with hq | hq
 ·obtain⟨its,r,pl,hz⟩:=I.list hq;refine SeqAt.notIn_listAt (eqU x) pl.isList (λ w hw=>eM rx fx r fs w (by simpa using hw)) %[.bl _,H,I,rfl|?_];rw[show its.toArray.any (eqU x)=its.any (eqU x)by simp,ge r fs];exact q
 ·obtain⟨its,r,pl,hz⟩:=I.tuple hq;refine SeqAt.notIn_tupleAt (eqU x) pl (λ w hw=>eM rx fx r fs w (by simpa using hw)) %[.bl _,H,I,rfl|?_];rw[show its.toArray.any (eqU x)=its.any (eqU x)by simp,ge r fs];exact q
inductive rz_op_notIn_str(x:V)(y:V)(H:Hp)(Q:VK):Prop
|mk(i j:_)(_:x=.str i)(_:y=.str j)(_:Q (.bl (!(!(Builtin.Str.occurrences j i 0 j.length 1).isEmpty))) H)
inductive rz_call_len_seq(K:C4)(xs:OI V)(H:Hp)(Q:VK):Prop
|mk(p ys:_)(_:xs=[.ref p])(_:(SqL K H p ys\/SqT K H p ys))(_:Q (.int ys.length) H)
theorem aN:ck X (.builtin "len") (rz_call_len_seq X.K):=by
 intro OK s σ H xs us Q I r h;obtain⟨p,ys,rfl,hq,q⟩:=h;obtain⟨u,rfl,rx⟩:=gb r;cases rx;have hn:=gC;rcases hq with hq | hq
 ·obtain⟨its,r',pl,hz⟩:=I.list hq;have OM:=r'.length;exact Calls.call_len_list pl.isList (by simp only[G7] <;> lia) %[.int ys.length,H,I.tok _,%[s.toks+1|by rw[G7,OM]]|q]
 ·obtain⟨its,r',pl,hz⟩:=I.tuple hq;have OM:=r'.length;exact len_tuple pl (by simp only[G7] <;> lia) %[.int ys.length,H,I.tok _,%[s.toks+1|by rw[G7,OM]]|q]
inductive rz_call_len_str(xs:OI V)(H:Hp)(Q:VK):Prop
|mk(z:_)(_:xs=[.str z])(_:z.length<=sizeLine)(_:Q (.int z.length) H)
inductive rz_call_list_of(K:C4)(xs:OI V)(H:Hp)(Q:VK):Prop
|mk(p ys:_)(_:xs=[.ref p])(_:(SqL K H p ys\/SqT K H p ys))(_:∀l,H l=none->Q (.ref l) (upd H l (.lst ys)))
inductive rz_call_tuple_of(K:C4)(xs:OI V)(H:Hp)(Q:VK):Prop
|mk(p ys:_)(_:xs=[.ref p])(_:((SqL K H p ys/\∀l,H l=none->Q (.ref l) (upd H l (.tup ys)))\/(SqT K H p ys/\Q (.ref p) H)))
theorem bB:ck X (.type "tuple") (rz_call_tuple_of X.K):=by
 intro OK s σ H xs us Q I r h;obtain⟨p,ys,rfl,h⟩:=h;obtain⟨u,rfl,rx⟩:=gb r;cases rx;rcases h with⟨hq,q⟩ | ⟨hq,q⟩
 ·obtain⟨its,r',pl,hz⟩:=I.list hq;have OM:=r'.length;refine call_tuple_list pl.isList (λ h' kp=>?_) (by simp only[G7] <;> lia);have I1:Inv X OK σ H { s with heap:=h' }:=I.kept (t':=s.toks) kp;have I2:Inv X OK σ (upd H h'.objs.size (.tup ys)) { s with heap:=h'.push { cls:=.type "tuple",data:=.seq its.toArray } } :=
   I1.laid (t':=s.toks) (λ b o e=>A6 _ e) (B2 _) (show ObjOk X.prog X.w _ _ _ (.tup ys)from%[hz,its,r'|IsTup.new _ _])
  exact%[.ref h'.objs.size,_,I2,O|q _ (I1.hok.fresh (B2 _))]
 ·obtain⟨its,r',pl,hz⟩:=I.tuple hq;exact call_tuple_same pl %[.ref p,H,I,rfl|q]
def tyV(K:C4)(T:String)(x:V)(H:Hp):Prop:=match x with
 | .str _=>T = "str"
 | .int _=>T = "int"
 | .ref p=>(T = "list" /\ ∃xs,SqL K H p xs)\/(T = "tuple" /\ ∃o,K.lookup p=some o/\o.cls=.type "tuple" /\ o.dict=none) \/
   (T = "dict" /\ ((∃kvs,H p=some (.dK kvs))\/∃kvs,H p=some (.dT kvs)))\/(T = "set" /\ ∃S n,H p=some (.set S n))
 | _=>False
theorem tm{OK:OI (OE×Obj)}{σ:St}{H:Hp}{s:F5}{T:String}{x:V}{v:F9}(I:Inv X OK σ H s)(r:RelV x v)(ty:tyV X.K T x H) :
  s.TypeIs v T/\∀a,v=.ref a->∃ob,s.heap.get? a=some ob/\ob.dict=none:=by
 cases x with
 | str z=>
  obtain⟨t,rfl⟩:=r;cases(show T = "str" from ty);exact%[typeIs_str s z t|λ _ e=>nomatch e]
 | int i=>
  obtain⟨t,rfl⟩:=r;cases(show T = "int" from ty);exact%[typeIs_int s i t|λ _ e=>nomatch e]
 | ref p=>
  cases r;rcases ty with⟨rfl,xs,hq⟩ | ⟨rfl,o,hk,hc,hd⟩ | ⟨rfl,hk⟩ | ⟨rfl,S,n,hk⟩
  ·obtain⟨its,_,pl,_⟩:=I.list hq;refine%[pl.isList.typeIs|λ a e=>?_];cases e;obtain⟨o,n,e,c,hd,_⟩:=pl;exact%[o,e|hd]
  ·refine%[%[o,I.kIn p o hk|hc]|λ a e=>?_];cases e;exact%[o,I.kIn _ o hk|hd]
  ·have z:∃o,s.heap.get? p=some o/\o.ExactDict:=by
    rcases hk with⟨kvs,hk⟩ | ⟨kvs,hk⟩
    ·obtain⟨_,_,_,_,o,_,_,e,ex,_⟩:=I.hok p _ hk;exact%[o,e|ex]
    ·obtain⟨_,_,_,_,o,_,_,e,ex,_⟩:=I.hok p _ hk;exact%[o,e|ex]
   obtain⟨o,e,ex⟩:=z;refine%[%[o,e|ex.1]|λ a e2=>?_];cases e2;exact%[o,e|ex.2.1]
  ·obtain⟨o,_,_,_,e,ex,_⟩:=I.hok p _ hk;refine%[%[o,e|ex.1]|λ a e2=>?_];cases e2;exact%[o,e|ex.2.1]
 | _=>exact E5 ty
def Lp(K:C4)(T:String)(r:V->OI V->Hp->VK->Prop)(to:TE):TE:=λ σ H Q=>to σ H λ x H1=>tyV K T x H1/\r x [] H1 Q
def tBM(K:C4)(T:String)(r:V->OI V->Hp->VK->Prop)(to:TE)(t:TA):TE:=λ σ H Q=>to σ H λ x H1=>tyV K T x H1/\t σ H1 λ xs H2=>r x xs H2 Q
variable{o e:Expr}{es:OI Expr}{to:TE}{t:TA}{name:Str}{apos cpos:Pos}{T id:String}{r:V->OI V->Hp->VK->Prop}
theorem mD(pa:PlainAttrs T)(slot:Slot T name id)(hty:typeOf (.builtin id)=pure (.type "method_descriptor"))(hm:MtR X id r)(ho:PE X o to)
  (hbase:attributeBase o name X.env (eval o X.env)=eval o X.env:=by rfl) (hline:(apos.endLine == cpos.line)=true:=by rfl):PE X (.Call (.Attribute o name apos) [] [] cpos) (Lp X.K T r to):=by
 intro OK s σ H Q I h;refine wpAny_Call_method0_late hbase hline (thn (ho OK s σ H _ I h) ?_);rintro v s1 ⟨x,H1,I1,r1,ty,q1⟩;obtain⟨h1,h2⟩:=tm I1 r1 ty;exact%[T,id,pa,slot,hty,h1,h2|Calls.callWith_builtin rfl (PySem.evalArgs_none (hm OK s1 σ H1 x [] v [] Q I1 r1 .nil q1))]
theorem fI(pa:PlainAttrs T)(slot:Slot T name id)(hty:typeOf (.builtin id)=pure (.type "method_descriptor"))(hm:MtR X id r)(ho:PE X o to)(ha:PA X (e :: es) t)
  (hbase:attributeBase o name X.env (eval o X.env)=eval o X.env:=by rfl)
  (hfew:((backTo cpos (starEach (e :: es) X.env)).all (λ x=>!x.1) && (backToKw cpos (keywordEach [] X.env)).all (λ x=>x.1.isSome)
   && decide ((e :: es).length+([]:OI Keyword).length+(if ([]:OI Keyword).isEmpty then 0 else 1) < 30))=true:=by rfl)
  (hline:(apos.endLine == cpos.line)=true:=by rfl) (hs:starEach (e :: es) X.env=(false,eval e X.env) :: starEach es X.env:=by rfl) (hplain:(backTo cpos (starEach es X.env)).any (·.1)=false:=by rfl) :
  PE X (.Call (.Attribute o name apos) (e :: es) [] cpos) (tBM X.K T r to t):=by
 intro OK s σ H Q I h;refine wpAny_Call_method_late hbase hfew hline rfl (thn (ho OK s σ H _ I h) ?_);rintro v s1 ⟨x,H1,I1,r1,ty,q1⟩;obtain⟨h1,h2⟩:=tm I1 r1 ty;refine%[T,id,pa,slot,hty,h1,h2|?_];have hA:=ha cpos OK s1 σ H1 _ I1 q1;rw[hs]at hA ⊢;refine Calls.callWith_builtin (by show(false || (backTo cpos (starEach es X.env)).any (·.1))=false;rw[hplain] <;> rfl) (Calls.evalArgs_plain ?_);exact thn hA λ us s2 %[vs,H2,I2,r2|q2]=>hm OK s2 σ H2 x vs v us Q I2 r1 r2 q2
/- xs.append(e),list.index on a module's tuple .. are MtR facts of 06m -/
end
def MtM(X:Cx)(id:String)(r:V->OI V->Hp->VK->Prop):Prop :=
 ∀(OK:OI (OE×Obj))(s:F5)(σ:St)(H:Hp)(x:V)(xs:OI V)(v:F9)(us:OI F9)(Q:VK),Inv X OK σ H s->RelV x v->Vals xs us->r x xs H Q ->
  wpAny (model X.prog X.w) X.A (call (.builtin id) (v :: us)) (EP X OK σ Q) X.xe s
theorem Vals.one:∀{x:V}{us:OI F9},Vals [x] us->∃u,us=[u]/\RelV x u
 | _,_,.cons r .nil=>%[_,O|r]
theorem Vals.zero:∀{us:OI F9},Vals [] us->us=[]
 | _,.nil=>rfl
theorem Vals.dropLast{xs:OI V}{us:OI F9}(h:Vals xs us):Vals xs.dropLast us.dropLast:=by
 induction h with
 | nil=>exact .nil
 | cons r t ih=>
  cases t with
  | nil=>exact .nil
  | cons q t'=>exact .cons r ih
theorem mE{α:Type}(l:OI α):l.eraseIdx (l.length - 1)=l.dropLast:=by
 induction l with
 | nil=>rfl
 | cons a r ih=>
  cases r with
  | nil=>rfl
  | cons b r=>
   have e:(a :: b :: r).length - 1=((b :: r).length - 1)+1:=by have h1:(a :: b :: r).length=r.length+2:=rfl;have h2:(b :: r).length=r.length+1:=rfl;lia
   rw[e,List.eraseIdx_cons_succ,ih]
   all_goals rfl
section
variable{X:Cx}{OK:OI (OE×Obj)}{σ:St}{H:Hp}{s:F5}{l b:OE}{xs ys zs:OI V}
theorem Inv.lset{its its':OI F9}{n:Nat}{f:OH F9->OH F9}{t':Nat}(I:Inv X OK σ H s)(hH:H l=↥xs)
  (e:s.heap.get? l=some { cls:=.type "list",data:=.seq its.toArray n }) (hf:f its.toArray=its'.toArray) (hv:Vals ys its') (hz:ys.length<=sizeLine) :
  Inv X OK σ (upd H l (.lst ys)) { s with heap:=s.heap.update l (Obj.mapSeq f),toks:=t' }:=by
 have q:=PySem.IsL.update e f;rw[hf]at q;refine I.write (x:=l) (e:=l) (by rw[hH];exact trivial) (.inl rfl) (λ b' u hb hu=>(Heap.get?_update_other s.heap (Obj.mapSeq f) (Ne.symm hb)).trans hu) %[_|q] ?_;exact%[hz,its',_,hv|q]
theorem Inv.lnew{its:OI F9}{t':Nat}(I:Inv X OK σ H s)(hv:Vals ys its)(hz:ys.length<=sizeLine) :
  Inv X OK σ (upd H s.heap.objs.size (.lst ys)) { s with heap:=s.heap.push { cls:=.type "list",data:=.seq its.toArray },toks:=t' } :=
 I.laid (λ _ _ q=>A6 _ q) (B2 _) %[hz,its,0,hv|A7 _ rfl]
theorem Inv.fresh(I:Inv X OK σ H s):H s.heap.objs.size=none:=I.hok.fresh (B2 _)
theorem Inv.lstM(I:Inv X OK σ H s)(hH:H l=↥xs):xs.length<=sizeLine/\∃(its:OI F9)(n:Nat),Vals xs its/\xs.length=its.length/\s.heap.get? l=some { cls:=.type "list",data:=.seq its.toArray n }:=by obtain⟨z,its,n,r,e⟩:=I.hok l _ hH;exact%[z,its,n,r,r.length|e]
theorem tz{n:Nat}(h:n<=sizeLine):Builtin.List.listTooLong n=false:=by unfold Builtin.List.listTooLong;exact B0 ⋯
end
section
variable{X:Cx}
inductive rAppend(x:V)(vs:OI V)(H:Hp)(Q:VK):Prop
|mk(l:OE)(xs:OI V)(y:V)(_:x=.ref l)(_:vs=[y])(_:H l=↥xs)(_:xs.length < sizeLine)(_:Q .non (upd H l (.lst (xs ++ [y]))))
theorem cX:MtM X "list.append" rAppend:=by intro OK s σ H x vs v us Q I rx rv h;obtain⟨l,xs,y,rfl,rfl,hH,hz,q⟩:=h;cases rx;obtain⟨u,rfl,ru⟩:=rv.one;obtain⟨z,its,n,r,hl,e⟩:=I.lstM hH;refine O3 F.slot_list_append %[_,e|O] F.entry_list_append (F.args_list_append_2 _ _) (PySem.list_append l its.toArray n u (by rw[G7];lia)) %[e|?_];refine%[.non,_,I.lset (its':=its ++ [u]) hH e (by simp) (r.append (.cons ru .nil)) ?_,O|q];rw[G5,K6];lia
def we:V->OI V->Hp->VK->Prop:=λ x vs H Q=>∃l b xs zs,x=.ref l/\vs=[.ref b]/\H l=↥xs/\H b=↥zs/\xs.length+zs.length<=sizeLine/\Q .non (upd H l (.lst (xs ++ zs)))
theorem jA:MtM X "list.extend" we:=by
 intro OK s σ H x vs v us Q I rx rv h;obtain⟨l,b,xs,zs,rfl,rfl,hH,hB,hz,q⟩:=h;cases rx;obtain⟨u,rfl,ru⟩:=rv.one;cases ru;obtain⟨z,its,n,r,hl,e⟩:=I.lstM hH;obtain⟨z2,its2,n2,r2,hl2,e2⟩:=I.lstM hB;have hsz:its.toArray.size+its2.toArray.size<=sizeLine:=by rw[G7,G7];lia
 have hlong:¬ (!its.toArray.isEmpty && Builtin.List.listTooLong (its.toArray.size+its2.toArray.size))=true:=by rw[tz hsz,J3];exact B1
 refine O3 F.slot_list_extend %[_,e|O] F.entry_list_extend (F.args_list_extend_2 _ _)
  (AutoSeq1.list_extend_list_list_0 l its.toArray n b its2.toArray n2 hlong (by rw[G7];lia) ⋯) %[e,e2|?_]
 refine%[.non,_,I.lset (its':=its ++ its2) hH e (by simp) (r.append r2) ?_,O|q];rw[G5];lia
def Lq:V->OI V->Hp->VK->Prop:=λ x vs H Q=>∃l xs y,x=.ref l/\vs=[]/\H l=↥xs/\xs[xs.length - 1]?=some y/\Q y (upd H l (.lst xs.dropLast))
theorem mF:MtM X "list.pop" Lq:=by
 intro OK s σ H x vs v us Q I rx rv h;obtain⟨l,xs,y,rfl,rfl,hH,hy,q⟩:=h;cases rx;have hus:=rv.zero;subst hus;obtain⟨z,its,n,r,hl,e⟩:=I.lstM hH;obtain⟨u,hu,ru⟩:=r.get hy;have hy':its.toArray[its.toArray.size - 1]?=some u:=by show its.toArray[its.length - 1]?=some u;rw[<- Array.getElem?_toList,<- hl];exact hu
 refine O3 F.slot_list_pop %[_,e|O] F.entry_list_pop (F.args_list_pop_1 _) (MeetsSeq.list_pop_last l its.toArray n u hy' (by rw[G7];lia)) %[e|?_];refine%[y,_,I.lset (its':=its.dropLast) hH e ?_ r.dropLast ?_,ru|q]
 ·show its.toArray.eraseIdxIfInBounds (its.toArray.size - 1)=its.dropLast.toArray;rw[G7,List.eraseIdxIfInBounds_toArray,mE]
 ·rw[List.length_dropLast];lia
inductive rCat(x:V)(y:V)(H:Hp)(Q:VK):Prop
|mk(l b:OE)(xs zs:OI V)(_:x=.ref l)(_:y=.ref b)(_:H l=↥xs)(_:H b=↥zs)(_:xs.length+zs.length<=sizeLine)(_:∀p,H p=none->Q (.ref p) (upd H p (.lst (xs ++ zs))))
theorem zb:OpR X (binaryOp .Add) rCat:=by
 intro OK s σ H x y v u Q I rx ry h;obtain⟨l,b,xs,zs,rfl,rfl,hH,hB,hz,q⟩:=h;cases rx;cases ry;obtain⟨z,its,n,r,hl,e⟩:=I.lstM hH;obtain⟨z2,its2,n2,r2,hl2,e2⟩:=I.lstM hB;refine PySem.P.add_list e e2 ?_ (by rw[G7,G7];lia);have ea:its.toArray ++ its2.toArray=(its ++ its2).toArray:=by simp
 rw[ea];exact%[.ref _,_,I.lnew (t':=s.toks) (r.append r2) (by rw[G5];lia),O|q _ I.fresh]
end
end L2
namespace Att
open PySem PySem.W PySem.Calls PyProof.Rows
theorem hI{P:Params}{h:Heap}:∀(ns:OI Int)(vs:OI F9),WellAll P h vs (ns.map WData.int)->IntsAre vs ns:=by
 intro ns
 induction ns with
 | nil=>
  intro vs w;rw[List.map_nil]at w;cases w;exact .nil
 | cons n ns ih=>
  intro vs w;rw[J4]at w;cases w with
  | cons a b=>
   cases a;exact .cons _ _ (ih _ b)
theorem qv{l:OpenLaw}{n:Nat}(hn:l.most=some n){P:Params}{h:Heap}{args:OI WData}{vals:OI F9}
  (hpre:l.row.toRowW.claim.pre args=true) (hwl:WellAll P h vals args) :
  ∃a vs ns,vals=[Value.ref a]/\args=[WData.list (ns.map WData.int)]/\h.get? a=some { cls:=.type "list",data:=.seq vs.toArray }/\IntsAre vs ns/\ns.length<=n:=by
 have hsh:WShape.hasAll [] args [.list .int]=true:=(pre_splitW hpre).1;have hc:l.pre.holds [] { args:=args }=true:=(pre_splitW hpre).2;obtain⟨d,r,rfl,h1,h2⟩:=hasAllW_cons hsh;obtain rfl:=hasAllW_nil h2;obtain⟨xs,rfl,h3⟩:=hasW_list h1;obtain⟨ns,rfl⟩:=items_int h3;have OM:ns.length<=n:=by
  unfold OpenLaw.pre at hc;have h4:(WTm.not (.lt (.lit (.int (n:Int))) (.len (.arg 0)))).holds [] { args:=[.list (ns.map .int)] }=true:=by have h4:=(holds_andW hc).1;rw[hn]at h4;exact h4
  have h5:=condW_of h4 (w_not (w_lt w_lit (w_len_list (w_arg rfl))));rw[J1]at h5;refine Nat.le_of_not_lt λ q=>?_;have q':(n:Int) < ((ns.length:Nat):Int):=⋯
  first
   | (rw[OO q']at h5;exact absurd h5 ∅)
   | (simp at h5;lia)
 cases hwl with
 | cons w1 w2=>
  cases w2;cases w1 with
  | list ho hall=>exact%[_,_,ns,O,O,ho,hI ns _ hall|OM]
theorem qw(l:OpenLaw)(args:OI WData):l.row.toRowW.claim.post args (.bool true) args=true :=
 postW_of (r:=l.row.toRowW) (X:=(true == true))
  (show WShape.has [] (.bool true) .bool=true by first | rfl | decide | simp[WShape.has,WShape.arms,WShape.armsAll])
  (show(WTm.eq .res (.lit (.bool true))).value [] { args:=args,res:=some (.bool true),after:=args }=some (.bool (true == true))from w_eq_bool (w_res rfl) w_lit) rfl
theorem attach_call{l:OpenLaw}{n:Nat}{q:F6}{loose:OI Str}{XP:(Str->OG F9)->Heap->Prop}{YP:F8->Heap->Prop}{d:DefRec}
  (hn:l.most=some n) (hdf:d.params.defaults=[])
  (call:∀(w:F8)(s₀ s₁:F5)(mg mb:Str->OG F9)(fa:OE)(o:Obj)(pm cd doc:F9)(a:OE)(vs:OI F9)(ns:OI Int),
   Ground q loose [] XP w s₀ mg mb s₁.heap->YP w s₁.heap ->
   s₁.heap.get? fa=some o->o.data=.func (docDef d.name d.params d.body d.scope pm cd doc)->s₁.heap.CodeRec cd d.name->mg d.name=↑fa ->
   s₁.heap.get? a=some { cls:=.type "list",data:=.seq vs.toArray }->IntsAre vs ns->ns.length<=n->s₁.gens=#[] ->
   codeAny (model l.prog w) callerA (.call (.ref fa) %[[.ref a]|[]]) (λ r s'=>r=.ok (.ret (.bool true))/\OldK s₁.heap s'.heap/\s'.os=s₁.os/\AllBare s'.gens) s₁) :
  WalkO q loose XP YP l.row.toRowW d [] (λ f vs=>PySem.call f vs):=by
 intro w s₀ s₁ mg mb G Y fa o pm cd doc dV kV ho hd hcd hD hmg hg args vals as hpre hlay hrd hwl hlo;obtain rfl:dV=.none:=Dflts.none hD hdf;obtain rfl:kV=.none:=Dflts.noKw hD;obtain⟨a,vs,ns,rfl,rfl,hobj,hints,OM⟩:=qv hn hpre hwl;refine enter_call (Oz (call w s₀ s₁ mg mb fa o pm cd doc a vs ns G Y ho (fd_plain hd) hcd hmg hobj hints OM hg) λ r s' hq=>?_);obtain⟨rfl,h2,h3,h4⟩:=hq;exact%[.inl %[.bool true,.bool true,[],O,λ _=>rfl,.bool true,qw l _|λ _=>%[List.Pairwise.nil|λ _ hm=>(nomatch hm)]],h2,h3|h4]
section
variable{prog:F6}{w:F8}{A:Around}{E:F9->F5->Prop}{s:F5}{K:Frag}
def Lr(h:Heap)(L d:OE):OI (OE×Obj):=(List.range h.objs.size).filterMap λ a=>if a=L\/a=d then none else(h.get? a).map λ o=>(a,o)
end
end Att
namespace L2
open PySem PySem.Spec PyProof.Rows
theorem jB:∀{vs:OI F9}{ns:OI Int},IntsAre vs ns->Vals (ns.map V.int) vs
 | _,_,.nil=>.nil
 | _,_,.cons n t h=>.cons %[t|O] (jB h)
def zc(H:Hp):Prop:=∀b,H b=none\/∃o xs,H b=some (.frz o (.lst xs))
theorem tD{P:F6}{w:F8}{K:C4}{mg mb:Str->OG F9}{CX:CXT}{k:Nat}{fa a:OE}{fd:F7}{x:Str}{sp:Sp}{s₁:F5}{vs:OI F9}{ns:OI Int}
  (KX:K.In s₁.heap) (hns:s₁.heap.Ns OJ mg) (hb:s₁.heap.Ns builtinsNs mb) (hbb:∀x:Str,x ≠ "__name__" -> mb x=bootBuiltins x) (hlim:s₁.heap.NoLimit) (hg:s₁.gens=#[])
  (ha:s₁.heap.get? a=some { cls:=.type "list",data:=.seq vs.toArray }) (hi:IntsAre vs ns) (hl:ns.length<=sizeLine) (hr:Room k callerA)
  (F:∀base:Heap,K.In base->base.Ns OJ mg->FnOk P w K mg base CX k fa fd [x] sp) (hbind:∀(s:F5)(u:F9),BindsTo s fd %[[u]|[]] [(x,u)])
  (hsp:∀H:Hp,zc H->SqL K H a (ns.map V.int)->sp [.ref a] H (λ v _=>v=.bl true) λ _ _ _=>False)
  (hCX:∀H e s',CX [] H s₁ (λ _ _ _=>False) e s'->False) :
  codeAny (model P w) callerA (.call (.ref fa) %[[.ref a]|[]]) (λ r s'=>r=.ok (.ret (.bool true))/\OldK s₁.heap s'.heap/\s'.os=s₁.os/\AllBare s'.gens) s₁:=by
 have rv:=jB hi;have lenV:=hi.length;have core:∀H:Hp,zc H->SqL K H a (ns.map V.int)->HOk P w H s₁.heap->(∀b,H b≠none->b=a)->(H a≠none->K.lookup a=none) ->
   codeAny (model P w) callerA (.call (.ref fa) %[[.ref a]|[]]) (λ r s'=>r=.ok (.ret (.bool true))/\OldK s₁.heap s'.heap/\s'.os=s₁.os/\AllBare s'.gens) s₁:=by
  intro H hO hS hok hA hK;have base_of:∀{b:OE}{o:Obj},s₁.heap.get? b=some o->H b=none->(jW s₁.heap H).get? b=some o:=λ e n=>sH e n;have noA:∀{b:OE}{o:Obj}{es:OH DictEntry}{ep:Nat},s₁.heap.get? b=some o->o.data=.dict es ep->H b=none:=λ {b o es ep} e d=>by
   cases q:H b with
   | none=>rfl
   | some u=>
    have e':b=a:=hA b (by rw[q];simp);subst e';rw[ha]at e;cases e;have d':Data.seq vs.toArray _=Data.dict es ep:=d;cases d'
  have nsK:∀{b:OE}{m:Str->OG F9},s₁.heap.Ns b m->(jW s₁.heap H).Ns b m:=λ {b m} ⟨o,es,ep,e,d,r⟩=>%[o,es,ep,base_of e (noA e d),d|r]
  have hKb:K.In (jW s₁.heap H):=λ b o e=>base_of (KX b o e) (by
   cases q:H b with
   | none=>rfl
   | some u=>
    have e':b=a:=hA b (by rw[q];simp);subst e';rw[hK (by rw[q];simp)]at e;cases e)
  have hM:Mod K mg (jW s₁.heap H):=%[hKb,nsK hns,%[mb,nsK hb|hbb]|let ⟨mc,h1,h2⟩:=hlim;%[mc,nsK h1|h2]]
  have e0:Env0 P w K mg (jW s₁.heap H) callerA [] s₁ H:=%[O,hM,λ b o e=>vO e,Nat.le_of_eq (qo _ _),trivial,λ b hb=>absurd (show b∈([]:OI OE)from hb) (by simp),hok|.of_eq hg]
  refine Oz ((F _ hKb (nsK hns)).run callerA [] s₁ H %[[.ref a]|[]] [.ref a] [.ref a] _ _ hr e0 (hbind s₁ (.ref a)) (.cons rfl .nil) (hsp H hO hS)) λ r s' h=>?_;cases r with
  | error e=>exact(hCX H e s' h).elim
  | ok fl=>
   cases fl with
   | next=>exact E5 h
   | brk=>exact E5 h
   | cont=>exact E5 h
   | ret u=>
    obtain⟨v,H',os,bare,un,hok',r',q⟩:=h;have q':v=.bl true:=q;subst q';obtain rfl:u=Value.bool true:=r';refine%[O,OldK.of_keep λ b o e=>?_,os|bare];cases q:H b with
    | none=>exact un.keep b o e q (by intro z;exact absurd (show b∈([]:OI OE)from z) (by simp)) (by simp)
    | some u=>
     rcases hO b with z | ⟨ob,xs,z⟩
     ·rw[q]at z;cases z
     ·have z2:=un.frzs b ob _ z;obtain⟨e1,_⟩:=hok b _ z;obtain⟨e2,_⟩:=hok' b _ z2;rw[e]at e1;cases e1;exact e2
 cases hk:K.lookup a with
 | some o=>
  have e:=KX a o hk;rw[ha]at e;cases e;refine core (λ _=>none) (λ _=>.inl rfl) (.inr %[_,vs.toArray,_,hk,O,O,O,by rw[G7,lenV];exact hl|by simpa using rv]) (λ b u z=>by have z':(none:OG HO)=some u:=z;cases z') (λ b z=>absurd rfl z) λ z=>absurd rfl z
 | none=>
  refine core (λ b=>if b=a then some (.frz { cls:=.type "list",data:=.seq vs.toArray } (.lst (ns.map V.int)))else none) (λ b=>?_) (.inl (.inr %[{ cls:=.type "list",data:=.seq vs.toArray }|OR rfl])) (λ b u z=>?_) (λ b z=>?_) λ _=>hk
  ·by_cases hb:b=a
   ·exact .inr %[_,_|OR hb]
   ·exact .inl (OQ hb)
  ·by_cases hb:b=a
   ·have z':=(OR hb).symm.trans z;cases z';subst hb;exact%[ha,by rw[J1];exact hl,vs,_,rv|ha]
   ·have z':=(OQ hb).symm.trans z;cases z'
  ·by_cases hb:b=a
   ·exact hb
   ·exact absurd (OQ hb) z
theorem walk_of{l:PySem.W.OpenLaw}{n k:Nat}{q:F6}{loose:OI Str}{XP:(Str->OG F9)->Heap->Prop}{YP:F8->Heap->Prop}{d:DefRec}{K:Params->C4}{CX:F8->CXT}{sp:F8->Sp}{x:Str}
  (hn:l.most=some n) (hn2:n<=sizeLine) (hdf:d.params.defaults=[]) (hr:Room k callerA)
  (hY:∀(w:F8)(h:Heap),YP w h->(K w.params).In h)
  (F:∀(w:F8)(mg:Str->OG F9)(fa:OE)(h:Heap),(K w.params).In h->h.Ns OJ mg->mg d.name=↑fa ->
   ∃fd:F7,(∀(s:F5)(u:F9),BindsTo s fd %[[u]|[]] [(x,u)]) /\
    ∀base:Heap,(K w.params).In base->base.Ns OJ mg->FnOk l.prog w (K w.params) mg base (CX w) k fa fd [x] (sp w))
  (hsp:∀(w:F8)(H:Hp)(a:OE)(ns:OI Int),ns.length<=n->zc H->SqL (K w.params) H a (ns.map V.int)->sp w [.ref a] H (λ v _=>v=.bl true) λ _ _ _=>False)
  (hCX:∀(w:F8)(H:Hp)(s:F5)(e:F9)(s':F5),CX w [] H s (λ _ _ _=>False) e s'->False) :
  PySem.W.WalkO q loose XP YP l.row.toRowW d [] (λ f vs=>PySem.call f vs):=by
 refine Att.attach_call hn hdf λ w s₀ s₁ mg mb fa o pm cd doc a vs ns G Y ho hd hcd hmg hobj hints OM hg=>?_;have KX:=hY w _ Y;obtain⟨fd,hb,hF⟩:=F w mg fa _ KX G.T.g hmg;exact tD KX G.T.g G.T.b G.T.builtins G.T.nolimit hg hobj hints (C5 OM hn2) hr hF hb (λ H hO hS=>hsp w H a ns OM hO hS) λ H e s'=>hCX w H s₁ e s'
def inClass(s:Stmt)(j:Nat):Stmt:=match s with
 | .ClassDef _ _ _ body _ _ _ _ _ _ _=>body.getD j (.Pass %[0,0,0|0])
 | _=>.Pass %[0,0,0|0]
def defArgs(s:Stmt):Arguments:=match s with
 | .FunctionDef _ a _ _ _ _ _ _ _ _=>a
 | _=>{ posonlyargs:=[],args:=[],vararg:=none,kwonlyargs:=[],kw_defaults:=[],kwarg:=none,defaults:=[] }
def defBody(s:Stmt):OI Stmt:=match s with
 | .FunctionDef _ _ b _ _ _ _ _ _ _=>b
 | _=>[]
def defScope(s:Stmt):Scope:=match s with
 | .FunctionDef _ _ _ _ _ _ sc _ _ _=>sc
 | _=>{ kind:=.function,names:=[],isGenerator:=false,isCoroutine:=false }
abbrev CX0:CXT:=λ _ _ _ _ _ _=>False
abbrev E0:XK:=λ _ _ _=>False
theorem lC{X:Cx}:fQ CX0 X E0:=λ _ _ _ _ _ _ _ h=>h.elim
structure Fun(K:C4)(x qual:Str)(st:Stmt)(f:OE)(fd:FuncData):Prop where
 ex:∃(oc:F9)(od:OG OE)(kV doc pm:F9)(an:OG OE)(cdv ct:F9)(osl:OH (OG F9)),
  fd=E4 x qual (defArgs st) (defBody st) (defScope st) .none kV doc pm an cdv ct/\K.lookup f=some %[oc,od,.func fd|osl]/\PySem.W.codeIn K cdv qual=true
 kp:PySem.W.keepIn K (.ref f)=true
section
variable{P:F6}{w:F8}{K:C4}{mg:Str->OG F9}{base:Heap}
theorem Fun.ok{x qual:Str}{st:Stmt}{f:OE}{fd:F7}{N ps:OI Str}{k:Nat}{sp:Sp}(F:Fun K x qual st f fd)(S:FnScope N ps (defScope st))(len:∀vs H Q E,sp vs H Q E->vs.length=ps.length)
  (hbody:∀(cdv:F9)(A:Around)(outer:OI Env)(s:F5)(H:Hp)(vs:OI V)(Q:VK)(E:XK),Room k (A.deeper (envOfC qual (defScope st) s.heap.objs.size f cdv))->sp vs H Q E ->
   ∃t,PSs (bJ CX0 P w K mg base N qual (defScope st) f cdv A outer s H E).nox (defBody st) t/\t { nx:=λ _ H'=>Q .non H',rt:=Q } (dI N vs) H):FnOk P w K mg base CX0 (k+1) f fd ps sp:=by
 obtain⟨oc,od,kV,doc,pm,an,cdv,ct,osl,rfl,lk,hcd⟩:=F.ex;refine yy lk hcd S len λ A outer s H vs Q E hr hsp=>?_;obtain⟨t,h,q⟩:=hbody cdv A outer s H vs Q E hr hsp;exact%[t,h.nox|q]
theorem Fun.binds{x qual:Str}{st:Stmt}{f:OE}{fd:F7}{ps:OI Str}(F:Fun K x qual st f fd)
  (h:∀(kV doc pm:F9)(an:OG OE)(cdv ct:F9)(us:OI F9),us.length=ps.length->bindArgs (E4 x qual (defArgs st) (defBody st) (defScope st) .none kV doc pm an cdv ct) %[us|[]]=pure (ps.zip us)):Binds K fd ps []:=by
 obtain⟨oc,od,kV,doc,pm,an,cdv,ct,osl,rfl,lk,hcd⟩:=F.ex;exact .all (h kV doc pm an cdv ct)
theorem mG{x qual:Str}{st:Stmt}{f:OE}{oc:F9}{od an:OG OE}{osl:OH (OG F9)}{kV doc pm cdv ct:F9}(l:K.lookup f=some %[oc,od,.func (E4 x qual (defArgs st) (defBody st) (defScope st) .none kV doc pm an cdv ct)|osl])
  (c:PySem.W.codeIn K cdv qual=true) (k:PySem.W.keepIn K (.ref f)=true):Fun K x qual st f (E4 x qual (defArgs st) (defBody st) (defScope st) .none kV doc pm an cdv ct):=%[%[oc,od,kV,doc,pm,an,cdv,ct,osl,O,l|c]|k]
end
section
variable{X:Cx}
theorem pv(i:Nat){x:Str}{pos:Pos}(hN:X.N[i]?=some x:=by rfl)(hv:Vis X.env.scope x:=by first | exact Or.inl rfl | exact Or.inr (Or.inl rfl) | exact Or.inr (Or.inr rfl))(hd:(x == ("__debug__" : Str))=false:=by decide)
  (hcd:(x == ("__classdict__" : Str))=false:=by decide):PE X (.Name x pos) (tVar i):=yQ hN hv hd hcd
end
theorem aM{A B:Prop}(h:B):if false=true then A else B:=by rw[OQ B1];exact h
theorem aH{A B:Prop}(h:A):if true=true then A else B:=by rw[OR rfl];exact h
theorem cj{c A B:Prop}[Decidable c](h1:c->A)(h2:¬ c->B):if c then A else B:=by
 by_cases h:c
 ·rw[OR h];exact h1 h
 ·rw[OQ h];exact h2 h
def Same(H H':Hp):Prop:=∀b o,H b=some o->H' b=some o
theorem Same.refl(H:Hp):Same H H:=λ _ _ h=>h
theorem Same.trans{H H1 H2:Hp}(a:Same H H1)(b:Same H1 H2):Same H H2:=λ c o h=>b c o (a c o h)
theorem Same.free{H H':Hp}(e:Same H H'){l:OE}(h:H' l=Option.none):H l=Option.none:=by
 cases q:H l with
 | none=>rfl
 | some o=>
  rw[e l o q]at h;cases h
theorem Same.seq{K:C4}{H H':Hp}{a:OE}{xs:OI V}(e:Same H H')(h:SqL K H a xs):SqL K H' a xs:=by
 rcases h with(h | ⟨o,h⟩) | h
 ·exact .inl (.inl (e _ _ h))
 ·exact .inl (.inr %[o|e _ _ h])
 ·exact .inr h
def bK(env:Env):OI (Str×NameKind)->OI (Str×OE)->OI (Str×OE)
 | [],acc=>acc
 | (n,k) :: r,acc=>bK env r (if (k == NameKind.free)=true then(n,(env.cells.lookup n).getD 0) :: acc else acc)
theorem dU(env:Env):∀(names:OI (Str×NameKind))(acc:OI (Str×OE))(x:Str)(c:OE),(∀y∈names,y.2=.free->∃c,env.cells.lookup y.1=some c) ->
  (∀x c,acc.lookup x=some c->env.cells.lookup x=some c)->(bK env names acc).lookup x=some c->env.cells.lookup x=some c
 | [],acc,x,c,_,h,e=>h x c e
 | (n,k) :: r,acc,x,c,hf,h,e=>by
  refine dU env r _ x c (λ y hy=>hf y (B3 _ hy)) (λ x c e'=>?_) e
  by_cases hk:(k == NameKind.free)=true
  ·rw[OR hk]at e';obtain⟨c0,hc0⟩:=hf (n,k) B7 (by simpa using hk);have hc0':env.cells.lookup n=some c0:=hc0;rw[K7]at e';cases hx:x == n with
   | true=>
    rw[hx]at e';have:x=n:=by simpa using hx
    subst this;rw[hc0']at e' ⊢;simpa using e'
   | false=>rw[hx]at e';exact h x c e'
  ·rw[OQ hk]at e';exact h x c e'
theorem iG(env:Env):∀(names:OI (Str×NameKind))(acc:OI (Str×OE))(x:Str),(∃c,acc.lookup x=some c)->∃c,(bK env names acc).lookup x=some c
 | [],acc,x,h=>h
 | (n,k) :: r,acc,x,h=>by
  refine iG env r _ x ?_
  by_cases hk:(k == NameKind.free)=true
  ·rw[OR hk,K7];cases hx:x == n with
   | true=>exact%[_|O]
   | false=>exact h
  ·rw[OQ hk];exact h
theorem gG(env:Env):∀(names:OI (Str×NameKind))(acc:OI (Str×OE))(x:Str),(x,NameKind.free)∈names->∃c,(bK env names acc).lookup x=some c
 | [],acc,x,h=>by simp at h
 | (n,k) :: r,acc,x,h=>by
  rcases G6.mp h with e | e
  ·have e1:x=n:=On Prod.fst e;have e2:NameKind.free=k:=On Prod.snd e;subst e1;subst e2;refine iG env r _ x ?_;rw[OR (by simp),K7];simp
  ·exact gG env r _ x e
theorem fR{env:Env}{scope:Scope}(hf:∀y∈scope.names,y.2=.free->∃c,env.cells.lookup y.1=some c):closureFor scope env=pure (bK env scope.names []):=by
 have key:∀(names:OI (Str×NameKind))(acc:OI (Str×OE)),(∀y∈names,y.2=.free->∃c,env.cells.lookup y.1=some c) ->
   (forIn names acc (λ (x:Str×NameKind)(r:OI (Str×OE))=>(if (x.2 == NameKind.free)=true then do
    let a<-cellOf env x.1
    pure (ForInStep.yield ((x.1,a) :: r))else pure (ForInStep.yield r)) ):Sem (OI (Str×OE)))=pure (bK env names acc):=by
  intro names
  induction names with
  | nil=>intro acc _;rfl
  | cons y r ih=>
   intro acc h;obtain⟨n,k⟩:=y;have ih':=λ acc=>ih acc λ z hz=>h z (B3 _ hz);rw[List.forIn_cons]
   by_cases hk:(k == NameKind.free)=true
   ·obtain⟨c,hc⟩:=h (n,k) B7 (by simpa using hk);have hc':env.cells.lookup n=some c:=hc;have e1:cellOf env n=pure c:=by unfold cellOf;rw[hc']
    have e2:bK env ((n,k) :: r) acc=bK env r ((n,c) :: acc):=by show bK env r _=_;rw[OR hk,hc'];rfl
    rw[OR hk,e2,<- ih'];show((cellOf env n >>= λ a=>pure (ForInStep.yield ((n,a) :: acc))) >>= _)=_;rw[e1]
    rfl
   ·have e2:bK env ((n,k) :: r) acc=bK env r acc:=by show bK env r _=_;rw[OQ hk]
    rw[OQ hk,e2,<- ih']
    rfl
 have:=key scope.names [] hf;simp only[closureFor];exact(On (λ m=>m >>= λ r=>(pure r:Sem _)) this).trans rfl
theorem kx{env:Env}{scope:Scope}(hcell:∀y∈scope.names,y.2≠.cell){x:Str}:((relabel scope env).names.lookup x=some .cell\/(relabel scope env).names.lookup x=some .free)->(x,NameKind.free)∈scope.names:=by
  have key:∀names:OI (Str×NameKind),(∀y∈names,y.2≠.cell)->∀k,(names.map λ(n,k)=>if (k == NameKind.free && env.scope.kind == .function && env.kindOf n == some .cell)then(n,NameKind.cell)else(n,k)).lookup x=some k ->
      (k=.cell\/k=.free)->(x,NameKind.free)∈names:=by
    intro names
    induction names with
    | nil=>intro _ k h _;simp at h
    | cons y r ih=>
      obtain⟨n,k'⟩:=y;intro hc k h hk;have nc:k'≠.cell:=hc (n,k') B7;rw[J4]at h
      by_cases hb:(k' == NameKind.free && env.scope.kind == .function && env.kindOf n == some .cell)=true
      . have hb':k'=.free:=by simp at hb;exact hb.1.1
        dsimp only at h;rw[OR hb,K7]at h;cases hx:x == n with
        | true=>have:x=n:=(by simpa using hx);subst this;subst hb';exact B7
        | false=>rw[hx]at h;exact B3 _ (ih (λ y hy=>hc y (B3 _ hy)) k h hk)
      . dsimp only at h
        rw[OQ hb,K7]at h;cases hx:x == n with
        | true=>
          rw[hx]at h;have:x=n:=by simpa using hx
          subst this;have e:k'=k:=by simpa using h
          rcases hk with q | q
          . exact absurd (e.trans q) nc
          . rw[e,q];exact B7
        | false=>rw[hx]at h;exact B3 _ (ih (λ y hy=>hc y (B3 _ hy)) k h hk)
  rintro(h | h)
  . exact key _ hcell _ h (.inl rfl)
  . exact key _ hcell _ h (.inr rfl)
def bA(X:Cx)(OK:OI (OE×Obj))(s2:F5)(H2:Hp)(scope:Scope)(C:OE)(N':OI Str)(fp:OI OE):Cx where
 prog:=X.prog
 w:=X.w
 K:=X.K
 mg:=X.mg
 base:=X.base
 A:=X.A
 N:=N'
 s₀:=s2
 H₀:=H2
 env:=compEnvC scope (bK X.env scope.names []) C X.env
 outer:=X.stack
 stack:=X.stack
 ex:=fp
 fn:=λ _=>false
 calm:=X.calm
 pn:=X.pn ++ OK
 xe:=λ _ _=>False
def cm(σ:St)(cap:OI Nat)(k:Nat):St:=List.replicate k none ++ cap.map λ j=>(σ[j]?).join
def leS(σ σ':St):Prop:=σ'.length=σ.length/\∀ (i:Nat) v,σ[i]?=some (some v)->σ'[i]?=some (some v)
theorem leS.set{σ:St}{i:Nat}{v:V}(h:σ[i]?=some none):leS σ (σ.set i (some v)):=by
 refine%[by simp|λ j w e=>?_]
 by_cases hj:j=i
 ·subst hj;rw[h]at e;cases e
 ·rw[List.getElem?_set_ne (Ne.symm hj)];exact e
structure CompOk(X:Cx)(scope:Scope)(own:OI Str)(cs:OI Str)(cap:OI Nat):Prop where
 kind:scope.kind=.function
 cell:∀y∈scope.names,y.2≠.cell
 names:∀y∈scope.names,y.2=.local->scope.names.lookup y.1=some .local
 free:∀y∈scope.names,y.2=.free->X.env.kindOf y.1=some .cell\/X.env.kindOf y.1=some .free
 caps:∀ (i:Nat) y,cs[i]?=some y->∃j,cap[i]?=some j/\X.N[j]?=some y/\(y,NameKind.free)∈scope.names
 ownl:∀y∈own,scope.names.lookup y=some .local
 len:cs.length=cap.length
 free2:∀y,(y,NameKind.free)∈scope.names->scope.names.lookup y=some .local->False
def mH(X:Cx)(ifs:OI Expr)(tt:TT):Prop :=
 ∀(OK:OI (OE×Obj))(s:F5)(σ:St)(H:Hp)(Q:Bool->Hp->Prop),Inv X OK σ H s->tt σ H Q ->
  wpAny (model X.prog X.w) X.A (forIn ifs true λ c r=>if r=true then do let ok<-isTrue c X.env (eval c X.env);pure (ForInStep.yield ok)else pure (ForInStep.yield r)) (TP X OK σ Q) X.xe s
def Eh:TT:=λ _ H Q=>Q true H
theorem dL{X:Cx}:mH X [] Eh:=λ _ _ _ H _ I h=>wpAny_tests_nil %[H,I|h]
def iH(σ:St)(cap:OI Nat)(k:Nat)(J:It)(g:TG)(tt:TT)(te:TE)(Q:OI V->Hp->Prop)(W:Nat->Nat->OI V->Hp->Prop):Prop :=
 ∀i m ys H,W i m ys H->(J.stop i H/\ys.length<=sizeLine/\Q ys H) \/
  (J.go i H/\ys.length < sizeLine/\∀x H',J.yld i H x H'->g x (cm σ cap k) H' λ σ2 H2=>leS (cm σ cap k) σ2/\tt σ2 H2 λ ok H3=>
   if ok=true then te σ2 H3 (λ v H4=>∃m',m' < m/\W (i+1) m' (ys ++ [v]) H4)else∃m',m' < m/\W (i+1) m' ys H3)
theorem HOk.but{P:F6}{w:F8}{H:Hp}{h h':Heap}{C:OE}(x:HOk P w H h)(n:H C=none)(k:Heap.SameBut C h h'):HOk P w H h':=λ b ob e=>by
 refine(x b ob e).stay (λ c w' hc q=>(k.2 c ?_).trans q) (λ _ q=>q) λ _ _ q=>q;rintro rfl;rcases hc with rfl | hc
 ·rw[n]at e;cases e
 ·rw[n]at hc;cases hc
theorem HOk.add{P:F6}{w:F8}{H:Hp}{h:Heap}{a:OE}{o:HO}(x:HOk P w H h)(n:H a=none)(new:ObjOk P w (upd H a o) h a o):HOk P w (upd H a o) h:=λ b u e=>by
 by_cases hb:b=a
 ·subst hb;rw[aj]at e;cases e;exact new
 ·rw[au hb]at e;exact(x b u e).stay (λ c v _ q=>q) (λ c q=>by rw[au (av q n)];exact q) λ c xs q=>by rw[au (av q n)];exact q
section
variable{X:Cx}{OK:OI (OE×Obj)}{σ:St}{H2:Hp}{s2:F5}{scope:Scope}{own cs:OI Str}{cap:OI Nat}{fp:OI OE}
theorem qx{h1:Heap}{C:OE}{tk:Nat}(I:Inv X OK σ H2 s2)(ok:CompOk X scope own cs cap)(hf:∀b∈fp,eK X OK H2 b)(hfl:∀b∈fp,b < s2.heap.objs.size)
  (hC:s2.heap.objs.size<=C) (hns:h1.Ns C (λ _=>none)) (old:∀b o,s2.heap.get? b=some o->h1.get? b=some o) :
  Inv (bA X OK s2 H2 scope C (own ++ cs) fp) [] (cm σ cap own.length) H2 { s2 with heap:=h1,toks:=tk }:=by
 have hfr:∀y∈scope.names,y.2=.free->∃c,X.env.cells.lookup y.1=some c:=λ y hy e=>I.ok.has y.1 (ok.free y hy e);have sub:∀x c,(bK X.env scope.names []).lookup x=some c->X.env.cells.lookup x=some c:=λ x c e=>dU X.env scope.names [] x c hfr (λ _ _ z=>by simp at z) e;have clt:∀x c,(bK X.env scope.names []).lookup x=some c->c < s2.heap.objs.size:=λ x c e=>by obtain⟨v,o,ho,_⟩:=I.cell x c (sub x c e);exact A8 ho
 refine⟨%[I.ok.mod,ok.kind,I.ok.glob,I.ok.blt,hC,λ y z c h1 h2=>I.ok.inj y z c (sub y c h1) (sub z c h2),λ y hy=>?_,λ y c z=>?_,I.ok.hd,I.ok.frames,.inl rfl,λ b hb=>?_,I.bs,C5 I.ok.bsz I.sz,λ b o e hb=>?_,λ b hb z=>?_,I.stack|I.stkFree],
  rfl,I.bare,Un.kept old,%[_,hns|λ i y v e1 e2 e3=>?_],λ y c e=>?_,I.hok.fresh hC,λ y c e=>I.freeC y c (sub y c e),λ p hp=>?_,I.hok.kept old,?_⟩
 ·have hm:=kx ok.cell hy;exact gG X.env scope.names [] y hm
 ·exact absurd (show false=true from z) B1
 ·exact%[B9 (C1 (hfl b hb) hC)|λ x c e=>(hf b hb).2.2.2.2.1 x c (sub x c e)]
 ·rcases(hf b hb).2.2.2.1 with z | z
  ·exact I.ok.noex b o e z
  ·exact absurd (C1 (A8 (I.ok.bs b o e).1) z) (C8 _)
 ·rcases G6.mp (I.stkSub b z)with q | q
  ·exact(hf b hb).2.1 q
  ·exact(hf b hb).2.2.1 q
 ·have hi:own.length<=i:=by
   refine Nat.le_of_not_lt λ q=>?_;unfold cm at e2;rw[List.getElem?_append_left (by simpa using q),List.getElem?_replicate]at e2
   split at e2 <;> cases e2
  have e1':cs[i - own.length]?=some y:=by have e1:(own ++ cs)[i]?=some y:=e1;rwa [List.getElem?_append_right hi]at e1
  obtain⟨j,hj,hN,hm⟩:=ok.caps _ y e1';have hk:=ok.free _ hm rfl;have e2':σ[j]?=some (some v):=by
   unfold cm at e2;rw[List.getElem?_append_right (by simpa using hi),List.length_replicate,N6,hj]at e2;have e2:(σ[j]?).join=some v:=by simpa using e2
   cases q:σ[j]? with
   | none=>rw[q]at e2;cases e2
   | some w=>rw[q]at e2;have:w=some v:=e2;rw[this]
  obtain⟨m,hn,hl⟩:=I.loc;obtain⟨u,ru,l⟩:=hl j y v hN e2' (by rcases hk with q | q;exact .inr (.inl q);exact .inr (.inr q));refine%[u,ru|.inr ?_];obtain⟨c,hc⟩:=gG X.env scope.names [] y hm;have hc':=sub y c hc;have cellu:h1.IsCell c (some u):=by
   rcases l with⟨k,_⟩ | ⟨k,c',e,o,ho,hd⟩
   ·rcases hk with q | q <;> (have z:X.env.kindOf y=_:=q;rw[k]at z;cases z)
   ·rw[hc']at e;cases e;exact%[o,old _ _ ho|hd]
  refine%[?_,c,hc|cellu];rcases e3 with z | z | z
  ·exfalso;have key:∀names:OI (Str×NameKind),True:=λ _=>trivial;have z:(relabel scope X.env).names.lookup y=some .local:=z;have zz:scope.names.lookup y=some .local:=by
    unfold relabel at z;dsimp only at z;revert z;generalize scope.names=names
    induction names with
    | nil=>intro z;simp at z
    | cons q r ih=>
     obtain⟨n,k⟩:=q;intro z;rw[J4]at z
     by_cases hb:(k == NameKind.free && X.env.scope.kind == .function && X.env.kindOf n == some .cell)=true
     ·dsimp only at z;rw[OR hb,K7]at z;rw[K7];cases hx:y == n with
      | true=>rw[hx]at z;cases z
      | false=>rw[hx]at z;exact ih z
     ·dsimp only at z;rw[OQ hb,K7]at z;rw[K7];cases hx:y == n with
      | true=>rw[hx]at z;exact z
      | false=>rw[hx]at z;exact ih z
   have:=ok.free2 y hm zz;exact this
  ·exact .inl z
  ·exact .inr z
 ·obtain⟨v,o,ho,hd⟩:=I.cell y c (sub y c e);exact%[v,o,old _ _ ho|hd]
 ·have hp':p∈X.pn ++ OK:=by have:p∈(X.pn ++ OK) ++ []:=hp;simpa using this
  obtain⟨e,n,ne,nf,d⟩:=I.pin p hp';refine%[old _ _ e,n,B9 (C1 (A8 e) hC),λ z=>?_|d];rcases G6.mp (I.stkSub p.1 z)with q | q
  ·exact ne q
  ·exact nf q
 ·show(cm σ cap own.length).length=(own ++ cs).length;unfold cm;rw[G5,List.length_replicate,J1,G5,ok.len]
end
section
variable{X:Cx}{OK:OI (OE×Obj)}{σ:St}{H2:Hp}{s2:F5}{scope:Scope}{own cs:OI Str}{cap:OI Nat}{fp:OI OE}{it:OE}{tn:Nat->Heap->Prop}
 {elt tg iter:Expr} {ifs:OI Expr} {pos:Pos} {J:It} {g:TG} {tt:TT} {te:TE} {E:F9->F5->Prop} {W:Nat->Nat->OI V->Hp->Prop} {Qf:OI V->Hp->Prop}
structure BlkEnd(X:Cx)(OK:OI (OE×Obj))(σ:St)(Qf:OI V->Hp->Prop)(D C:OE)(s':Shared):Prop where
 ex:∃(ys:OI V)(H':Hp),H' D=none/\Qf ys H'/\Inv X OK σ (upd H' D (.lst ys)) s'/\eK X OK (upd H' D (.lst ys)) C
 ns:∃m,s'.heap.Ns C m
theorem Inv.bareP{pins':OI (OE×Obj)}{H:Hp}{s:F5}(I:Inv X pins' σ H s):Inv X [] σ H s:=I.pins_of λ p hp=>absurd hp (by simp)
theorem jC{RR:F9->Env->Result->F5->Prop}{EX:OE->OI (OE×Obj)->St->F9->F5->Prop}(I:Inv X OK σ H2 s2)(ok:CompOk X scope own cs cap)(hc:X.calm=true)(T:Turn X.prog X.w X.K tg J fp it tn)(st:tn 0 s2.heap)(hf:∀b∈fp,eK X OK H2 b)
  (hg:∀C,PG (bA X OK s2 H2 scope C (own ++ cs) fp) tg g) (hi:∀C,mH (bA X OK s2 H2 scope C (own ++ cs) fp) ifs tt) (he:∀(C:OE)(pins':OI (OE×Obj))(s:F5)(σ6:St)(H:Hp)(Q:VK),Inv (bA X OK s2 H2 scope C (own ++ cs) fp) pins' σ6 H s->te σ6 H Q->wpAny (model X.prog X.w) (bA X OK s2 H2 scope C (own ++ cs) fp).A (eval elt (bA X OK s2 H2 scope C (own ++ cs) fp).env) (EP (bA X OK s2 H2 scope C (own ++ cs) fp) pins' σ6 Q) (EX C pins' σ6) s)
  (w0:∃m,W 0 m [] H2) (turn:iH σ cap own.length J g tt te Qf W)
  (hRR:∀D C s',BlkEnd X OK σ Qf D C s'->RR (.ref D) (compEnvC scope (bK X.env scope.names []) C X.env) (.ok .next) s')
  (hX:∀D C pins' σ6 v s8,s2.heap.objs.size<=C->EX C pins' σ6 v s8->notedBy (model X.prog X.w) X.A (compEnvC scope (bK X.env scope.names []) C X.env) (λ x s'=>RR (.ref D) (compEnvC scope (bK X.env scope.names []) C X.env) (.error x) s') v s8) :
  wpAny (model X.prog X.w) X.A (newList []) (λ acc s₃=>wpAny (model X.prog X.w) X.A (newFunctionEnv scope X.env.globals (bK X.env scope.names []) [] X.env.qual none .none (some X.env)) (λ cenv s₄=>
   codeAny (model X.prog X.w) X.A (.compStart (.ListComp elt [%[tg,iter,ifs|0]] scope pos) 0 (.ref it) acc { cenv with scope:=relabel scope X.env }) (RR acc { cenv with scope:=relabel scope X.env }) s₄) E s₃) E s2:=by
 refine F3 (wpAny_newFunctionEnv ok.cell (by intro y hy;simp at hy) (λ h₁ hns₁ hsb₁=>?_) ok.kind);dsimp only at hns₁ hsb₁ ⊢;generalize hHH:s2.heap.push { cls:=.type "list",dict:=none,data:=.seq ([]:OI F9).toArray }=HH at hns₁ hsb₁ ⊢;have hCs:HH.objs.size=s2.heap.objs.size+1:=by rw[<- hHH,Heap.size_push]
 have hDC:s2.heap.objs.size≠HH.objs.size:=by rw[hCs];exact B9 (E8 _)
 have hCle:s2.heap.objs.size<=HH.objs.size:=by rw[hCs];exact Nat.le_succ _
 have hfl:∀b∈fp,b < s2.heap.objs.size:=λ b hb=>by obtain⟨o,e,_⟩:=T.obj 0 _ st b hb;exact A8 e
 have old:∀b o,s2.heap.get? b=some o->h₁.get? b=some o:=λ b o e=>hsb₁.extBut b o (by rw[hCs];exact B9 (Nat.lt_succ_of_lt (A8 e))) (A6 _ (hHH ▸ A6 _ e));have hacc:h₁.PlainList s2.heap.objs.size #[]:=%[_|hsb₁.extBut _ _ hDC (A6 _ (hHH ▸ A7 _ rfl))]
 generalize hD:s2.heap.objs.size=D at *;generalize hCC:HH.objs.size=C at *;have hns₁':h₁.Ns C (λ _=>none):=hns₁;have I0:Inv (bA X OK s2 H2 scope C (own ++ cs) fp) [] (cm σ cap own.length) H2 { s2 with heap:=h₁,toks:=s2.toks+([]:OI (Str×F9)).length } :=
  qx I ok hf (λ b hb=>by rw[hD];exact hfl b hb) (by rw[hD];exact hCle) hns₁' old
 have Dfs:D∉frs X.stack:=λ hb=>by obtain⟨_,o,ho,_⟩:=I.stack.mem hb;exact absurd (A8 ho) (by rw[hD];exact C8 _)
 have Dfp:∀b∈fp,D≠b:=λ b hb z=>absurd (hfl b hb) (by rw[<- z];exact C8 _);have clt:∀x c,(bK X.env scope.names []).lookup x=some c->c < D:=λ x c e=>by have e':=dU X.env scope.names [] x c (λ y hy e=>I.ok.has y.1 (ok.free y hy e)) (λ _ _ z=>by simp at z) e;obtain⟨v,o,ho,_⟩:=I.cell x c e';have:=A8 ho;rw[hD]at this;exact this
 have plt:∀p∈X.pn ++ OK,p.1 < D:=λ p hp=>by have:=A8 (I.pin p hp).1;rw[hD]at this;exact this
 have stat:∀{H':Hp}{ob:Obj},(∀b∈fp,H' b=none)->∀b∈fp,eK (bA X OK s2 H2 scope C (own ++ cs) fp) [(D,ob)] H' b:=λ {H' ob} hn b hb=>by
  have q:=I0.ok.exf b hb;refine%[hn b hb,q.1,I0.ok.exfs b hb,.inl hb,q.2|λ p hp=>?_];rcases C2.mp hp with z | z
  ·exact(hf b hb).2.2.2.2.2 p z
  ·have:p=(D,ob):=by simpa using z
   subst this;exact Dfp b hb
 have loop:codeAny (model X.prog X.w) X.A (.compLoop (.ListComp elt [%[tg,iter,ifs|0]] scope pos) 0 (.ref it) (.ref D) (compEnvC scope (bK X.env scope.names []) C X.env)) (RR (.ref D) (compEnvC scope (bK X.env scope.names []) C X.env))
   { s2 with heap:=h₁,toks:=s2.toks+([]:OI (Str×F9)).length }:=by
  obtain⟨m0,w0⟩:=w0;refine codeAny_loop rfl (λ n s'=>∃i H' its ys,Inv (bA X OK s2 H2 scope C (own ++ cs) fp) [] (cm σ cap own.length) H' s'/\tn i s'.heap/\(∀b∈fp,H' b=none)/\s'.heap.PlainList D its.toArray/\Vals ys its/\H' D=none/\W i n ys H') ?_ m0
   %[0,H2,[],[],I0,T.keep 0 _ _ st λ b _ o e=>old b o e,λ b hb=>(hf b hb).1,hacc,.nil,I.hok.fresh (by rw[hD];exact B2 _)|w0]
  rintro n s3 ⟨i,H3,its,ys,I3,st3,fr3,⟨nn,pl3⟩,rv3,hD3,w3⟩;show wpAny _ X.A ((compTurn (.ListComp elt [%[tg,iter,ifs|0]] scope pos) 0 (.ref it) (.ref D) (compEnvC scope (bK X.env scope.names []) C X.env)).onRaise (λ x=>do noteFrame x (compEnvC scope (bK X.env scope.names []) C X.env);theTreesLotGoes x)) _ _ s3;refine wpAny_noted ?_;rw[compTurn_list];refine A0 (O0 (A0 ?_));have I3':Inv (bA X OK s2 H2 scope C (own ++ cs) fp) [(D,{ cls:=.type "list",data:=.seq its.toArray nn })] (cm σ cap own.length) H3 s3 :=
   I3.pins_of λ p hp=>by
    have:p=(D,{ cls:=.type "list",data:=.seq its.toArray nn }):=by simpa using hp
    subst this;exact%[pl3,hD3,hDC,Dfs|λ v z=>by cases z]
  rcases turn i n ys H3 w3 with⟨stop,hz,qf⟩ | ⟨go,hz,step⟩
  ·refine thn (T.done (bA X OK s2 H2 scope C (own ++ cs) fp) rfl rfl rfl hc i _ s3 _ H3 _ I3' (stat fr3) st3 stop) ?_;rintro r s4 ⟨hr,I4⟩;subst hr;refine A1 (hRR D C s4 %[%[ys,H3,hD3,qf,?_|?_]|?_])
   ·have pl4:=(I4.pin (D,_) (A4 _ (C9.mpr rfl))).1;have u4:=I4.base;have Ds2:s2.heap.get? D=none:=Heap.get?_none_of_le (by rw[hD];exact B2 _);refine I.call' (s':=s4) (ch:=fp) I4.os %[u4.keep,u4.slot,λ b o e n hx=>?_,u4.there,λ b xs e=>?_,λ b o u e=>?_|λ b ps e=>?_] ?_ I4.bare λ b hb=>%[(hf b hb).2.2.2.1,(hf b hb).2.1,(hf b hb).2.2.2.2.1|(hf b hb).2.2.2.2.2]
    ·rw[au (λ z=>by rw[z,Ds2]at e;cases e)];exact u4.free b o e n hx
    ·have:=u4.tups b xs e;rw[au (av this hD3)];exact this
    ·have:=u4.frzs b o u e;rw[au (av this hD3)];exact this
    ·obtain⟨more,e'⟩:=u4.tbls b ps e;exact%[more|by rw[au (av e' hD3)];exact e']
    ·exact I4.hok.add hD3 %[hz,its,nn,rv3|pl4]
   ·have CH:(upd H3 D (.lst ys)) C=none:=by rw[au (Ne.symm hDC)];exact I4.free
    exact I.fpOk (H':=upd H3 D (.lst ys)) (by rw[hD];exact hCle) CH
   ·obtain⟨m,hn,_⟩:=I4.loc;exact%[m|hn]
  ·refine thn (T.item (bA X OK s2 H2 scope C (own ++ cs) fp) rfl rfl rfl hc i _ s3 _ H3 _ I3' (stat fr3) st3 go) ?_;rintro r s4 ⟨u,hr,h4⟩;subst hr;refine A0 (thn h4 ?_);rintro _ s5 ⟨x,H5,I5,r5,y5,st5,fr5⟩;have I5':=I5.pinned (stat fr5) (T.obj _ _ st5);refine A0 (OU (hg C _ s5 _ H5 x u _ I5' r5 (step x H5 y5)) (?_) λ _ _ z=>E5 z);rintro _ s6 ⟨σ6,H6,I6,le6,q6⟩;refine A0 (OU (hi C _ s6 σ6 H6 _ I6 q6) (?_) λ _ _ z=>E5 z);rintro b s7 ⟨H7,I7,q7⟩;have back:∀{pins':OI (OE×Obj)}{H8:Hp}{s8:F5},Inv (bA X OK s2 H2 scope C (own ++ cs) fp) pins' σ6 H8 s8->Inv (bA X OK s2 H2 scope C (own ++ cs) fp) [] (cm σ cap own.length) H8 s8:=λ I8=>
    I8.bareP.weak le6.1.symm λ i v e=>le6.2 i v e
   cases b with
   | false=>
    rw[OQ B1]at q7;obtain⟨m',hm,w7⟩:=q7;refine A1 %[rfl,m',hm,i+1,H7,its,ys,back I7,T.keep _ _ _ st5 λ b hb o e=>?_,λ b hb=>?_,%[nn|?_],rv3,?_|w7]
    ·exact(I7.pin (b,o) (A4 _ (A4 _ (cr hb e)))).1
    ·obtain⟨o,e,d⟩:=T.obj _ _ st5 b hb;exact(I7.pin (b,o) (A4 _ (A4 _ (cr hb e)))).2.1
    ·exact(I7.pin (D,_) (A4 _ (B6 _ (C9.mpr rfl)))).1
    ·exact(I7.pin (D,_) (A4 _ (B6 _ (C9.mpr rfl)))).2.1
   | true=>
    rw[OR rfl]at q7;refine A0 (A0 (OU (he C _ s7 σ6 H7 _ I7 q7) (?_) λ v s8 hx=>hX D C _ _ v s8 (by rw[<- hCC];lia) hx));rintro y s8 ⟨v,H8,I8,r8,m',hm,w8⟩;have pD:=I8.pin (D,{ cls:=.type "list",data:=.seq its.toArray nn }) (A4 _ (B6 _ (C9.mpr rfl)));have OM:=rv3.length;refine A0 (wpAny_list_append_plain (hsz:=by rw[G7];lia) %[nn|pD.1] λ h9 pl9 sb9=>A1 (A1 ?_));have I8':=back I8;refine%[O,m',hm,i+1,H8,its ++ [y],ys ++ [v],?_,T.keep _ _ _ st5 λ b hb o e=>?_,λ b hb=>?_,?_,rv3.append (.cons r8 .nil),pD.2.1|w8]
    ·exact I8'.turned (t':=s8.toks) (λ b o hb e=>sb9.extBut b o hb e) pD.2.1 hDC (.inr (by show s2.heap.objs.size<=D;rw[hD];exact B2 _)) (λ x c e=>B9 (clt x c e)) λ p hp=>by
      have hp':p∈X.pn ++ OK:=by have:p∈(X.pn ++ OK) ++ []:=hp;simpa using this
      exact B9 (plt p hp')
    ·exact sb9.extBut b o (Ne.symm (Dfp b hb)) (I8.pin (b,o) (A4 _ (A4 _ (cr hb e)))).1
    ·obtain⟨o,e,d⟩:=T.obj _ _ st5 b hb;exact(I8.pin (b,o) (A4 _ (A4 _ (cr hb e)))).2.1
    ·have e:its.toArray.push y=(its ++ [y]).toArray:=by simp
     rw[<- e];exact pl9
 exact codeAny_compStart_list loop (T.self _ 0 _ _ _ (T.keep 0 _ _ st λ b _ o e=>old b o e) loop)
theorem lD{RR:F9->OE->Result->F5->Prop}(I:Inv X OK σ H2 s2)(ok:CompOk X scope own cs cap)(hc:X.calm=true)(T:Turn X.prog X.w X.K tg J fp it tn)(st:tn 0 s2.heap)(hf:∀b∈fp,eK X OK H2 b)
  (hg:∀C,PG (bA X OK s2 H2 scope C (own ++ cs) fp) tg g) (hi:∀C,mH (bA X OK s2 H2 scope C (own ++ cs) fp) ifs tt) (he:∀C,PE (bA X OK s2 H2 scope C (own ++ cs) fp) elt te)
  (w0:∃m,W 0 m [] H2) (turn:iH σ cap own.length J g tt te Qf W)
  (hRR:∀D C s',BlkEnd X OK σ Qf D C s'->RR (.ref D) C (.ok .next) s') :
  wpAny (model X.prog X.w) X.A (newList []) (λ acc s₃=>wpAny (model X.prog X.w) X.A (newFunctionEnv scope X.env.globals (bK X.env scope.names []) [] X.env.qual none .none (some X.env)) (λ cenv s₄=>
   codeAny (model X.prog X.w) X.A (.compStart (.ListComp elt [%[tg,iter,ifs|0]] scope pos) 0 (.ref it) acc { cenv with scope:=relabel scope X.env }) (RR acc cenv.locals) s₄) E s₃) E s2 :=
 jC (RR:=λ v cv=>RR v cv.locals) (EX:=λ _ _ _ _ _=>False) I ok hc T st hf hg hi (λ C=>he C) w0 turn (λ D C s' h=>hRR D C s' h) λ _ _ _ _ _ _ _ z=>z.elim
def oX(wi:TI)(cap:OI Nat)(k:Nat)(g:TG)(tt:TT)(te:TE):TE:=λ σ H Q=>wi σ H λ J H1=>
 ∃W:Nat->Nat->OI V->Hp->Prop,(∃m,W 0 m [] H1)/\iH σ cap k J g tt te (λ ys H'=>∀p,H' p=none->Q (.ref p) (upd H' p (.lst ys))) W
theorem ib{wi:TI}(hc:X.calm=true)(hit:PI X tg iter wi)(ok:CompOk X scope own cs cap)
  (hg:∀OK s2 H2 C fp,PG (bA X OK s2 H2 scope C (own ++ cs) fp) tg g) (hi:∀OK s2 H2 C fp,mH (bA X OK s2 H2 scope C (own ++ cs) fp) ifs tt) (he:∀OK s2 H2 C fp,PE (bA X OK s2 H2 scope C (own ++ cs) fp) elt te)
  (hs:∀x,foldedSetIterable iter X.env x=pure x:=by intro _;rfl):PE X (.ListComp elt [%[tg,iter,ifs|0]] scope pos) (oX wi cap own.length g tt te):=by
 intro OK s σ H Q I h;rw[eval_ListComp];refine wpAny_comprehension_free (use:=none) rfl hs (fR λ y hy e=>I.ok.has y.1 (ok.free y hy e)) ok.kind ok.names (thn (hit OK s σ H _ I h) λ v s1 h1=>thn h1 λ itv s2 h2=>?_);obtain⟨it,fp,tn,J,H2,e,I2,T,st2,f2,W,w0,turn⟩:=h2;subst e;refine lD (RR:=λ acc C=>compPost (model X.prog X.w) X.A X.xe none (EP X OK σ Q) acc C) I2 ok hc T st2 f2 (λ C=>hg _ _ _ _ _) (λ C=>hi _ _ _ _ _) (λ C=>he _ _ _ _ _) w0 turn λ D C s' B=>?_;obtain⟨⟨ys,H',hD,q,I',fp'⟩,m,hn⟩:=B;obtain⟨f0,f1,f2',f3,f4,f5⟩:=fp';exact%[m,hn|λ h' sb=>%[.ref D,_,I'.turned (t':=s'.toks) (λ b o hb e=>sb.extBut b o hb e) f0 f1 f3 f4 f5,O|q D hD]]
theorem wf{wi:TI}{i:Nat}{y:Str}{py spos:Pos}(hc:X.calm=true)(hN:X.N.Nodup)(hiy:X.N[i]?=some y)(hy:X.env.scope.names.lookup y=some .local)
  (hsw:swapsWith (.ListComp elt [%[tg,iter,ifs|0]] scope pos) (some (.Name y py)) spos.line X.env=pure true) (hit:PI X tg iter wi) (ok:CompOk X scope own cs cap)
  (hg:∀OK s2 H2 C fp,PG (bA X OK s2 H2 scope C (own ++ cs) fp) tg g) (hi:∀OK s2 H2 C fp,mH (bA X OK s2 H2 scope C (own ++ cs) fp) ifs tt) (he:∀OK s2 H2 C fp,PE (bA X OK s2 H2 scope C (own ++ cs) fp) elt te)
  (hs:∀x,foldedSetIterable iter X.env x=pure x:=by intro _;rfl):PS X (.Assign [.Name y py] (.ListComp elt [%[tg,iter,ifs|0]] scope pos) spos) (vR (oX wi cap own.length g tt te) (gU i)):=by
 intro OK s σ H D0 I h;rw[exec_Assign_Name_used _ _ _ _ hsw];refine A0 (O0 (A0 ?_));show wpAny _ X.A (do let _<-comprehension (.ListComp elt [%[tg,iter,ifs|0]] scope pos) scope X.env _ (newList []) false (eval iter X.env) (some (assign (.Name y py) X.env))) _ _ s;refine A0 (OU (wpAny_comprehension_free (use:=some (assign (.Name y py) X.env)) (Q:=λ _ s'=>SP X OK D0 .next s') rfl hs (fR λ y hy e=>I.ok.has y.1 (ok.free y hy e)) ok.kind ok.names
  (thn (hit OK s σ H _ I h) λ v s1 h1=>thn h1 λ itv s2 h2=>?_)) (λ _ s' hq=>A1 (A1 hq)) λ _ _ e=>e)
 obtain⟨it,fp,tn,J,H2,e,I2,T,st2,f2,W,w0,turn⟩:=h2;subst e;refine lD (RR:=λ acc C=>compPost (model X.prog X.w) X.A X.xe (some (assign (.Name y py) X.env)) (λ _ s'=>SP X OK D0 .next s') acc C) I2 ok hc T st2 f2 (λ C=>hg _ _ _ _ _) (λ C=>hi _ _ _ _ _) (λ C=>he _ _ _ _ _) w0 turn λ D C s' B=>?_;obtain⟨⟨ys,H',hD,q,I',fp'⟩,m,hn⟩:=B;obtain⟨f0,f1,f2',f3,f4,f5⟩:=fp';show wpAny _ X.A (assign (.Name y py) X.env (.ref D)) _ _ _;refine wpAny_assign_Name (gv I' hN hiy (.inl hy) (v:=.ref D) rfl (?_) (.inr hy));rintro s3 I3 ⟨a,sb,ha⟩;have hCa:C≠a:=by
  rcases ha with z | z
  ·rw[z];exact f1
  ·exactλ q=>f4 y a z q.symm
 refine%[m,hn.sameBut sb hCa|λ h' sb'=>%[_,_,I3.turned (t':=s3.toks) (λ b o hb e=>sb'.extBut b o hb e) f0 f1 f3 f4 f5|q D hD]]
end
def CDivB(i j:Int):Prop:=0 < j/\j<=10 ^ 60
theorem CDivB.np{i j:Int}(h:CDivB i j):Builtin.divisionGoesByPylong i j=false:=by
 refine PyProof.noPylong_of_log2 ?_;have h1:j.natAbs < 2 ^ 200:=by obtain⟨a,b⟩:=h;lia
 have h2:j.natAbs.log2 < 200:=(Nat.log2_lt (by have:=h.1;lia)).mpr h1;lia
section
variable{X:Cx}
theorem iI:OpR X (binaryOp .FloorDiv) (rI CDivB λ i j=>.int (i / j)):=opI λ i j _ _ _ _ _ hc q=>by refine floordiv_int (by have:=hc.1;lia) ?_ (.inl hc.np);rw[Int.fdiv_eq_ediv_of_nonneg _ (by have:=hc.1;lia)];exact q
theorem Inv.kitx{OK:OI (OE×Obj)}{σ:St}{H:Hp}{s:F5}{x:V}{u t:F9}(I:Inv X OK σ H s)(rx:RelV x u)(ty:TyOf X.K H x t) :
  ∃P:Heap->Prop,PySem.W.KitX X.K u t P/\P s.heap/\u≠.builtin "__main__.__loader__#opaque" := by
 cases ty with
 | non=>cases(show u=Value.none from rx);exact%[_,PySem.W.kitx_none,True.intro|λ z=>nomatch z]
 | bl y=>cases(show u=Value.bool y from rx);exact%[_,PySem.W.kitx_bool,True.intro|λ z=>nomatch z]
 | int i=>obtain⟨t,q⟩:=(show∃t,u=Value.int i t from rx);cases q;exact%[_,PySem.W.kitx_int,True.intro|λ z=>nomatch z]
 | str y=>obtain⟨t,q⟩:=(show∃t,u=Value.str y t from rx);cases q;exact%[_,PySem.W.kitx_str,True.intro|λ z=>nomatch z]
 | flt y=>obtain⟨t,q⟩:=(show∃t,u=Value.float y t from rx);cases q;exact%[_,PySem.W.kitx_float,True.intro|λ z=>nomatch z]
 | @lst a xs ea=>
  cases(show u=Value.ref a from rx);obtain⟨_,_,n,_,h1⟩:=(show ObjOk X.prog X.w H s.heap a (.lst xs)from I.hok a _ ea)
  exact%[_,PySem.W.kitx_list,%[_,h1|O]|λ z=>nomatch z]
 | @frz a ob xs ea=>
  cases(show u=Value.ref a from rx);obtain⟨_,_,_,n,_,h1⟩:=(show ObjOk X.prog X.w H s.heap a (.frz ob (.lst xs))from I.hok a _ ea)
  exact%[_,PySem.W.kitx_list,%[_,h1|O]|λ z=>nomatch z]
 | @tup a xs ea=>
  cases(show u=Value.ref a from rx);obtain⟨_,_,_,p⟩:=(show ObjOk X.prog X.w H s.heap a (.tup xs)from I.hok a _ ea)
  obtain⟨o,h1,h2,_⟩:=p;exact%[_,PySem.W.kitx_tuple,%[o,h1|h2]|λ z=>nomatch z]
 | @dK a kvs ea=>
  cases(show u=Value.ref a from rx);obtain⟨_,_,vs,_,p⟩:=(show ObjOk X.prog X.w H s.heap a (.dK kvs)from I.hok a _ ea)
  obtain⟨o,es,ep,h1,h2,_⟩:=p;exact%[_,PySem.W.kitx_dict,%[o,h1|h2.1]|λ z=>nomatch z]
 | @dT a kvs ea=>
  cases(show u=Value.ref a from rx);obtain⟨_,_,xs,_,o,es,ep,h1,h2,_⟩:=(show ObjOk X.prog X.w H s.heap a (.dT kvs)from I.hok a _ ea)
  exact%[_,PySem.W.kitx_dict,%[o,h1|h2.1]|λ z=>nomatch z]
 | @ext a φ ea c=>
  cases(show u=Value.ref a from rx);obtain⟨p,_,_⟩:=(show ObjOk X.prog X.w H s.heap a (.ext φ)from I.hok a _ ea)
  obtain⟨o,h1,h2⟩:=c _ p;exact%[_,PySem.W.kitx_dict,%[o,h1|h2]|λ z=>nomatch z]
 | @ins a C dx fs ea cl ha hn htk hm=>
  cases(show u=Value.ref a from rx);obtain⟨mA,OO0,_⟩:=gc I.hok ea;obtain⟨od,J,_⟩:=OO0.look;exact%[_,PySem.W.kitx_own (cl.get _) cl.hd ha hn htk hm,J|λ z=>nomatch z]
def clV:V->OG Value
 | .ty T=>some (.type T)
 | .ref C=>↑C
 | _=>none
theorem clV.rel{v:V}{u c:F9}(e:clV v=some c)(r:RelV v u):u=c:=by
 cases v with
 | ty T=>have e':Value.type T=c:=B8 e;rw[<- e'];exact r
 | ref C=>have e':Value.ref C=c:=B8 e;rw[<- e'];exact r
 | _=>cases e
def clVs:OI V->OG (OI F9)
 | []=>some []
 | v :: r=>match clV v,clVs r with
  | some c,some cs=>some (c :: cs)
  | _,_=>none
theorem clVs.rel:∀{vs:OI V}{us cs:OI F9},clVs vs=some cs->Vals vs us->us=cs
 | [],_,_,e,.nil=>B8 e
 | v :: r,_,_,e,.cons r1 r2=>by
  unfold clVs at e
  split at e
  ·rename_i c cs' e1 e2
   cases e;rw[clV.rel e1 r1,clVs.rel e2 r2]
  ·cases e
inductive rz_call_isinst(K:C4)(xs:OI V)(H:Hp)(Q:VK):Prop
|mk(x cv t c b:_)(_:xs=[x,cv])(_:TyOf K H x t)(_:clV cv=some c)(_:PySem.W.kitOne K t c=some b)(_:Q (.bl b) H)
theorem be:ck X (.builtin "isinstance") (rz_call_isinst X.K):=by
 intro OK s σ H xs us Q I rv h;obtain⟨x,cv,t,c,b,rfl,ty,e1,e2,q⟩:=h;cases rv with
 | cons r1 rr=>
  cases rr with
  | cons r2 rr=>
   cases rr;rw[clV.rel e1 r2];exact qu I r1 ty e2 λ tk=>%[.bl b,H,I.tok tk,O|q]
inductive rz_call_isinstT(K:C4)(xs:OI V)(H:Hp)(Q:VK):Prop
|mk(x p t cvs cs b:_)(_:xs=[x,.ref p])(_:TyOf K H x t)(_:H p= ~~~cvs)(_:clVs cvs=some cs)(_:PySem.W.kitAny K t cs=some b)(_:Q (.bl b) H)
theorem ky:ck X (.builtin "isinstance") (rz_call_isinstT X.K):=by
 intro OK s σ H xs us Q I rv h;obtain⟨x,p,t,cvs,cs,b,rfl,ty,hp,e1,e2,q⟩:=h;cases rv with
 | cons r1 rr=>
  cases rr with
  | cons r2 rr=>
   cases rr;cases r2;obtain⟨_,its,rits,o,ho,hc,n,hd⟩:=I.hok p _ hp;obtain⟨P,Z,p1,p2⟩:=I.kitx r1 ty;obtain⟨oc,od,dt,osl⟩:=o
   replace hc:oc=.type "tuple" := hc
   replace hd:dt=.seq its.toArray n:=hd
   subst hc hd;have e3:=clVs.rel e1 rits;subst e3;exact PySem.W.kia_tup Z I.kIn p1 ho e2 p2 λ tk=>%[.bl b,H,I.tok tk,O|q]
end
mutual
inductive DatV(K:C4)(H:Hp):V->PyData->Prop
 | non:DatV K H .non .none
 | bl (b:Bool):DatV K H (.bl b) (.bool b)
 | int (i:Int):DatV K H (.int i) (.int i)
 | str (x:Str):DatV K H (.str x) (.str x)
 | lst {a:OE} {xs:OI V} {ds:OI PyData}:SqL K H a xs->DatVs K H xs ds->DatV K H (.ref a) (.list ds)
 | tup {a:OE} {xs:OI V} {ds:OI PyData}:SqT K H a xs->DatVs K H xs ds->DatV K H (.ref a) (.tuple ds)
inductive DatVs(K:C4)(H:Hp):OI V->OI PyData->Prop
 | nil:DatVs K H [] []
 | cons {x:V} {d:PyData} {xs:OI V} {ds:OI PyData}:DatV K H x d->DatVs K H xs ds->DatVs K H (x :: xs) (d :: ds)
end
section
variable{X:Cx}{OK:OI (OE×Obj)}{σ:St}{H:Hp}{s:F5}
mutual
theorem Inv.reads(I:Inv X OK σ H s):∀{v:V}{d:PyData},DatV X.K H v d->∀{u:F9},RelV v u->∃as,Reads s.heap u d as
 | _,_,.non,u,r=>by cases(show u=Value.none from r);exact%[_|.none]
 | _,_,.bl b,u,r=>by cases(show u=Value.bool b from r);exact%[_|.bool b]
 | _,_,.int i,u,r=>by obtain⟨t,e⟩:=(show∃t,u=Value.int i t from r);subst e;exact%[_|.int i t]
 | _,_,.str x,u,r=>by obtain⟨t,e⟩:=(show∃t,u=Value.str x t from r);subst e;exact%[_|.str x t]
 | _,_,.lst (a:=a) h hs,u,r=>by cases(show u=Value.ref a from r);obtain⟨its,rv,⟨o,n,e,c,_,d⟩,_⟩:=I.list h;obtain⟨as,ra⟩:=I.readsAll hs rv;exact%[_|.list e c d (by simpa using ra)]
 | _,_,.tup (a:=a) h hs,u,r=>by cases(show u=Value.ref a from r);obtain⟨its,rv,⟨o,e,c,n,d⟩,_⟩:=I.tuple h;obtain⟨as,ra⟩:=I.readsAll hs rv;exact%[_|.tuple e c d (by simpa using ra)]
theorem Inv.readsAll(I:Inv X OK σ H s):∀{vs:OI V}{ds:OI PyData},DatVs X.K H vs ds->∀{us:OI F9},Vals vs us->∃as,ReadsAll s.heap us ds as
 | _,_,.nil,_,.nil=>%[_|.nil]
 | _,_,.cons h hs,_,.cons r rs=>by obtain⟨as,ra⟩:=I.reads h r;obtain⟨bs,rb⟩:=I.readsAll hs rs;exact%[_|.cons ra rb]
end
end
section
variable{X:Cx}
inductive rz_op_neD(K:C4)(x:V)(y:V)(H:Hp)(Q:VK):Prop
|mk(da db:_)(_:DatV K H x da)(_:DatV K H y db)(_:SeqAt.shaped da=true)(_:SeqAt.shaped db=true)(_:Q (.bl (!PyData.eqv da db)) H)
theorem ze(hu:X.A.units+64 < cLine):OpR X (compareOp .NotEq) (rz_op_neD X.K):=by intro OK s σ H x y v u Q I rx ry h;obtain⟨da,db,hx,hy,s1,s2,q⟩:=h;obtain⟨as,ra⟩:=I.reads hx rx;obtain⟨bs,rb⟩:=I.reads hy ry;exact ne_dataH ra rb s1 s2 hu %[.bl _,H,I,rfl|q]
inductive rz_op_eqD(K:C4)(x:V)(y:V)(H:Hp)(Q:VK):Prop
|mk(da db:_)(_:DatV K H x da)(_:DatV K H y db)(_:SeqAt.shaped da=true)(_:SeqAt.shaped db=true)(_:Q (.bl (PyData.eqv da db)) H)
theorem zf(hu:X.A.units+64 < cLine):OpR X (compareOp .Eq) (rz_op_eqD X.K):=by intro OK s σ H x y v u Q I rx ry h;obtain⟨da,db,hx,hy,s1,s2,q⟩:=h;obtain⟨as,ra⟩:=I.reads hx rx;obtain⟨bs,rb⟩:=I.reads hy ry;exact eq_dataH ra rb s1 s2 hu %[.bl _,H,I,rfl|q]
end
section
variable{prog:F6}{w:F8}{A:Around}{E:F9->F5->Prop}
theorem iJ{it l:OE}{items:OH F9}(hne:l≠it):∀(n i:Nat)(s:F5)(Q:OI F9->F5->Prop),s.heap.IsListIter it l i->s.heap.IsList l items->i+n<=items.size ->
  (∀h',h'.IsListIter it l (i+n)->Heap.SameBut it s.heap h'->Q ((items.toList.drop i).take n) { s with heap:=h' })->wpAny (model prog w) A (draw (.ref it) n) Q E s
 | 0,i,s,Q,hit,_,_,hQ=>by show wpAny _ _ (pure []) Q E s;exact A1 (by simpa using hQ s.heap hit (Heap.SameBut.refl ..))
 | n+1,i,s,Q,hit,ht,hle,hQ=>by
  have hlt:i < items.size:=⋯
  show wpAny _ _ (pyNext (.ref it) >>= _) Q E s;refine A0 (wpAny_pyNext_list_item hit ht (x:=items[i]) (by simp[hlt]) λ h₁ hit₁ hs₁=>?_);refine A0 (OV (iJ hne n (i+1) _ _ hit₁ (ht.extBut hs₁.extBut hne) ⋯ λ h₂ hit₂ hs₂=>A1 ?_));have hd:items.toList.drop i=items[i] :: items.toList.drop (i+1):=by simp[List.drop_eq_getElem_cons,hlt]
  have q:=hQ h₂ (by rw[show i+(n+1)=i+1+n by lia];exact hit₂) (hs₁.trans hs₂);rw[hd,List.take_succ_cons]at q;exact q
theorem gf{s:F5}{l:OE}{items:OH F9}{Q:OI F9->F5->Prop}(hh:A.handled=none)(ht:s.heap.IsList l items)
  (hQ:∀h',Heap.ExtBut s.heap.objs.size s.heap h'->Q items.toList { s with heap:=h' }):wpAny (model prog w) A (unpackItems (.ref l) items.size none) Q E s:=by
 have hlt:l≠s.heap.objs.size:=by obtain⟨o,ho,_⟩:=ht;exact B9 (A8 ho)
 have hp:(s.heap.push { cls:=.type "list_iterator",data:=.fields #[.ref l,.int 0 0] }).IsList l items:=by obtain⟨o,ho,r⟩:=ht;exact%[o,A6 _ ho|r]
 unfold unpackItems;refine A0 ?_
 ·unfold notIterableAtAll;refine A0 (wpAny_specialOf ht.typeIs PySem.slot_list_iter.lookup ?_);refine A1 ?_;simp only[J5,Oq];refine A0 (OV (wpAny_pyIter_list ht ?_));refine A0 (OV (iJ hlt items.size 0 _ _ %[_,A7 _ rfl,rfl|rfl] hp ⋯ λ h₁ hit₁ hs₁=>?_));have hall:List.take items.size (List.drop 0 items.toList)=items.toList:=by rw[N8];exact M2 (by simp)
  rw[hall];rw[OQ (by simp)];have ht₁:h₁.IsList l items:=hp.extBut hs₁.extBut hlt;refine A0 (OV (wpAny_pyNext_list_end hh hit₁ ht₁ (by simp) λ h₂ he₂=>?_));simp only[Option.isSome_none,J5,if_false];refine A1 (hQ h₂ λ b o hb e=>he₂ b o hb (hs₁.extBut b o hb (A6 _ e)))
theorem fT{s:F5}{env:Env}{elts:OI Expr}{x1}{pos:Pos}{l:OE}{items:OH F9}{Q:Unit->F5->Prop}(hh:A.handled=none)(ht:s.heap.IsList l items)
  (hn:(assignEach elts env).length=items.size) (hstar:(assignEach elts env).findIdx? (·.1)=none)
  (h:∀h',Heap.ExtBut s.heap.objs.size s.heap h'->wpAny (model prog w) A (assignInOrder ((assignEach elts env).map (·.2)) items.toList) Q E { s with heap:=h' }) :
  wpAny (model prog w) A (assign (.Tuple elts x1 pos) env (.ref l)) Q E s:=by
 rw[assign_Tuple];refine A0 (O0 ?_);unfold unpack;rw[hn,hstar];exact A0 (OV (gf hh ht h))
end
section
variable{X:Cx}{pos:Pos}
def Ei(K:C4)(n:Nat)(t:TGs):TG:=λ v σ H Q=>∃a xs,v=.ref a/\(SqL K H a xs\/SqT K H a xs)/\xs.length=n/\t xs σ H Q
theorem mI{es:OI Expr}{k:Nat}{t:TGs}{n:Nat}(hc:X.calm=true)(h:PGs X es t)
  (hn:(assignEach es X.env).length=n:=by rfl) (hst:(assignEach es X.env).findIdx? (·.1)=none:=by rfl):PG X (.Tuple es k pos) (Ei X.K n t):=by
 intro OK s σ H v u Q I r hw;obtain⟨a,xs,e1,hq,hl,hw⟩:=hw;rcases hq with hq | hq
 ·subst e1;cases r;obtain⟨its,rv,ht,hz⟩:=I.list hq;refine fT (I.ok.hd hc) ht.isList (by simp[hn,<- hl,rv.length]) hst λ h' hx=>?_;have I1:Inv X OK σ H { s with heap:=h' }:=I.kept (t':=s.toks) λ b o e=>hx b o (B9 (A8 e)) e;exact h OK _ σ H xs _ Q I1 (by simpa using rv) hw
 ·exact bC hc h hn hst OK s σ H v u Q I r %[a,xs,e1,hq,hl|hw]
end
section
variable{X:Cx}
theorem Inv.turnedN{OK:OI (OE×Obj)}{σ:St}{H:Hp}{s:F5}{h':Heap}{t':Nat}{ch:OI OE}(I:Inv X OK σ H s)(hf:∀b∈ch,eK X OK H b)(k:∀b o,b∉ch->s.heap.get? b=some o->h'.get? b=some o):Inv X OK σ H { s with heap:=h',toks:=t' }:=by
 have hLc:X.env.locals∉ch:=λ z=>(hf _ z).2.1 rfl;have nt:∀b u,H b=some u->b∉ch:=λ b u e z=>by rw[(hf b z).1]at e;cases e
 refine I.step (g':=s.gens) (d':=s.drawn) (ch:=ch) (λ b hb=>%[(hf b hb).2.2.2.1,(hf b hb).2.1,(hf b hb).2.2.2.2.1|(hf b hb).2.2.2.2.2]) (λ b o _ _ hc e _=>k b o hc e) (λ b o _ _ hc e _=>%[o.slots|k b o hc e]) (λ _ _ _ _ n=>n)
  (λ b o hc e=>%[o|k b o hc e]) (λ _ _ e=>e) (λ _ _ _ e=>e) (λ b ps e=>%[#[]|by rw[e];simp]) (λ m hm=>?_) (λ b u e=>?_) I.bare
 ·obtain⟨o,es,ep,ho,r⟩:=hm;exact%[o,es,ep,k _ o hLc ho|r]
 ·refine(I.hok b u e).stay (λ c v hc q=>k c v ?_ q) (λ _ q=>q) λ _ _ q=>q;rcases hc with z | z
  ·rw[z];exact nt b u e
  ·exact nt c _ z
theorem Inv.track{OK:OI (OE×Obj)}{σ:St}{H:Hp}{s:F5}{a:OE}{o:HO}(I:Inv X OK σ H s)(hf:eK X OK H a)(fa:X.s₀.heap.objs.size<=a)(new:ObjOk X.prog X.w (upd H a o) s.heap a o):Inv X OK σ (upd H a o) s:=by
 obtain⟨f0,f1,f2,f3,f4,f5⟩:=hf;have s0:∀b o,X.s₀.heap.get? b=some o->b≠a:=λ b o e=>B9 (C1 (A8 e) fa);refine%[I.ok,I.os,I.bare,%[I.base.keep,I.base.slot,λ b o e n hx=>?_,I.base.there,λ b xs e=>?_,λ b o u e=>?_|λ b ps e=>?_],I.loc,I.cell,?_,λ x c e=>?_,λ p hp=>?_,I.hok.add f0 new|I.len]
 ·rw[au (s0 b o e)];exact I.base.free b o e n hx
 ·have q:=I.base.tups b xs e;rw[au (av q f0)];exact q
 ·have q:=I.base.frzs b o u e;rw[au (av q f0)];exact q
 ·obtain⟨more,q⟩:=I.base.tbls b ps e;exact%[more|by rw[au (av q f0)];exact q]
 ·rw[au (Ne.symm f1)];exact I.free
 ·rw[au (f4 x c e)];exact I.freeC x c e
 ·obtain⟨e,n,r⟩:=I.pin p hp;exact%[e,by rw[au (f5 p hp)];exact n|r]
end
structure ZipAp(z TI TO i1 i2:OE):Prop where
 nd:[z,TI,TO,i1,i2].Nodup
end L2
namespace L2
open PySem PySem.Spec PyProof.Rows
def Dn(P:F6)(w:F8)(K:C4)(mg:Str->OG F9)(base:Heap)(x:Str)(ps:OI Str)(k:Nat)(sp:Sp):Prop :=
 ∃(f:OE)(fd:F7),FnOk P w K mg base CX0 k f fd ps sp/\Binds K fd ps []/\PySem.W.keepIn K (.ref f)=true/\mg x=↑f
theorem ah{X:Cx}{k:Nat}{ps:OI Str}{sp:Sp}{x:Str}{p pos:Pos}{e:Expr}{es:OI Expr}{t:TA}(D:Dn X.prog X.w X.K X.mg X.base x ps k sp)(hr:Room k X.A)(hg:Gl X x)(ha:PA X (e :: es) t)
  (hdb:(x == ("__debug__" : Str))=false:=by decide) (he:starEach (e :: es) X.env=(false,eval e X.env) :: starEach es X.env:=by rfl) (hpl:(backTo pos (starEach es X.env)).any (·.1)=false:=by rfl) :
  PE X (.Call (.Name x p) (e :: es) [] pos) (sS sp [] E0 t):=by
 obtain⟨f,fd,F,hb,hk,hm⟩:=D;exact vW F hr hg hm hk hb .nil lC ha hdb he hpl
def oY(sc:Scope)(N:OI Str)(scope:Scope)(own cs:OI Str)(cap:OI Nat):Bool :=
 decide (scope.kind=.function) && scope.names.all (λ y=>decide (y.2≠.cell)) && scope.names.all (λ y=>decide (y.2=.local->scope.names.lookup y.1=some .local)) &&
 scope.names.all (λ y=>decide (y.2=.free->sc.names.lookup y.1=some .cell\/sc.names.lookup y.1=some .free)) && own.all (λ y=>decide (scope.names.lookup y=some .local)) &&
 decide (cs.length=cap.length) && (cs.zip cap).all (λ y=>decide (N[y.2]?=some y.1) && decide ((y.1,NameKind.free)∈scope.names)) && scope.names.all (λ y=>decide (y.2=.free->scope.names.lookup y.1≠some .local))
theorem cY{X:Cx}{sc:Scope}{N:OI Str}{scope:Scope}{own cs:OI Str}{cap:OI Nat}(h1:X.env.scope=sc)(h2:X.N=N)(h:oY sc N scope own cs cap=true):CompOk X scope own cs cap:=by
 subst h1 h2;unfold oY at h;simp only[G8,M9,Ov]at h;obtain⟨⟨⟨⟨⟨⟨⟨a1,a2⟩,a3⟩,a4⟩,a5⟩,a6⟩,a7⟩,a8⟩:=h;refine%[a1,a2,a3,a4,λ i y e=>?_,a5,a6|λ y hy e=>a8 _ hy rfl e];have hi:i < cs.length:=(A5.mp e).1;have hj:i < cap.length:=by rw[<- a6];exact hi
 refine%[cap[i],E9 hj|?_];have hm:(y,cap[i])∈cs.zip cap:=by
  have:(cs.zip cap)[i]?=some (y,cap[i]):=by rw[List.getElem?_zip_eq_some];exact%[e|E9 hj]
  exact B5 this
 exact a7 _ hm
theorem dM{σ:St}{H:Hp}{A B:Hp->Prop}(h:A H):Eh σ H (λ ok H3=>if ok=true then A H3 else B H3):=by show(if (true:Bool)=true then A H else B H);rw[OR rfl];exact h
section
variable{X:Cx}{tg:Expr}
def zg(K:C4)(tl:TE):TI:=λ σ H R=>yq K tl σ H R\/DV K tl σ H R
theorem tE{l:Expr}{tl:TE}(hl:PE X l tl):PI X tg l (zg X.K tl):=by
 intro OK s σ H R I h;rcases h with h | h
 ·exact jX hl OK s σ H R I h
 ·exact gz hl OK s σ H R I h
end
def ax:OI String:=["NoneType","bool","int","str","list","tuple","dict"]
theorem dC{K:C4}:∀T∈ax,PySem.W.kitOne K (.type T) (.type "int")=some (T == "int" || T == "bool"):=by intro T h;simp only[ax,G6,J0,OZ]at h;rcases h with rfl | rfl | rfl | rfl | rfl | rfl | rfl <;> kernel_rfl
theorem bV{K:C4}:∀T∈ax,PySem.W.kitOne K (.type T) (.type "bool")=some (T == "bool"):=by intro T h;simp only[ax,G6,J0,OZ]at h;rcases h with rfl | rfl | rfl | rfl | rfl | rfl | rfl <;> kernel_rfl
theorem tF{K:C4}:∀T∈ax,PySem.W.kitOne K (.type T) (.type "list")=some (T == "list"):=by intro T h;simp only[ax,G6,J0,OZ]at h;rcases h with rfl | rfl | rfl | rfl | rfl | rfl | rfl <;> kernel_rfl
theorem aZ{K:C4}:∀T∈ax,PySem.W.kitOne K (.type T) (.type "tuple")=some (T == "tuple"):=by intro T h;simp only[ax,G6,J0,OZ]at h;rcases h with rfl | rfl | rfl | rfl | rfl | rfl | rfl <;> kernel_rfl
theorem bT{K:C4}:∀T∈ax,PySem.W.kitOne K (.type T) (.type "str")=some (T == "str"):=by intro T h;simp only[ax,G6,J0,OZ]at h;rcases h with rfl | rfl | rfl | rfl | rfl | rfl | rfl <;> kernel_rfl
theorem wg{K:C4}:∀T∈ax,PySem.W.kitAny K (.type T) [.type "list",.type "tuple"]=some (T == "list" || T == "tuple"):=by
 intro T h;have h1:=tF (K:=K) T h;have h2:=aZ (K:=K) T h;unfold PySem.W.kitAny;rw[h1];cases e:(T == "list")with
 | true=>rfl
 | false=>
  show PySem.W.kitAny K (.type T) [.type "tuple"]=_;unfold PySem.W.kitAny;rw[h2];cases e2:(T == "tuple") <;> rfl
def Ty(K:C4)(H:Hp)(x:V)(T:String):Prop:=T∈ax/\TyOf K H x (.type T)
theorem Ty.int{K:C4}{H:Hp}{i:Int}:Ty K H (.int i) "int" := %[by simp[ax]|.int i]
theorem Ty.bl{K:C4}{H:Hp}{b:Bool}:Ty K H (.bl b) "bool" := %[by simp[ax]|.bl b]
theorem Ty.non{K:C4}{H:Hp}:Ty K H .non "NoneType" := %[by simp[ax]|.non]
theorem Ty.str{K:C4}{H:Hp}{x:Str}:Ty K H (.str x) "str" := %[by simp[ax]|.str x]
theorem Ty.lst{K:C4}{H:Hp}{a:OE}{xs:OI V}(e:H a=↥xs):Ty K H (.ref a) "list" := %[by simp[ax]|.lst e]
theorem Ty.tup{K:C4}{H:Hp}{a:OE}{xs:OI V}(e:H a= ~~~xs):Ty K H (.ref a) "tuple" := %[by simp[ax]|.tup e]
theorem Ty.dK{K:C4}{H:Hp}{a:OE}{xs:OI (Key×V)}(e:H a=some (.dK xs)):Ty K H (.ref a) "dict" := %[by simp[ax]|.dK e]
def aR:V->Int->Bool
 | .int i,l=>decide (l<=i)
 | _,_=>false
def qy:V->Bool
 | .bl _=>true
 | _=>false
theorem zh{K:C4}{H:Hp}{x:V}{T:String}(t:TyOf K H x (.type T))(h:T∈ax):(T == "int")=true->∃i,x=.int i:=by
 intro e;have e':T = "int" := by simpa using e
 subst e';generalize hv:Value.type "int" = tv at t;cases t with
 | int i=>exact%[i|O]
 | _=>exact absurd hv (by simp)
theorem oZ{K:C4}{H:Hp}{x:V}{T:String}(t:TyOf K H x (.type T)):(T == "bool")=qy x:=by
 generalize hv:Value.type T=tv at t;cases t with
 | bl b=>cases hv;rfl
 | non=>cases hv;rfl
 | int i=>cases hv;rfl
 | str i=>cases hv;rfl
 | flt i=>cases hv;rfl
 | lst i=>cases hv;rfl
 | frz i=>cases hv;rfl
 | tup i=>cases hv;rfl
 | dK i=>cases hv;rfl
 | dT i=>cases hv;rfl
 | ext i _=>cases hv;rfl
 | ins=>cases hv
end L2
local macro_rules|`($a ^^^ $b)=>`(@L2.aa _ _ _ _ _ $a $b rfl)
local macro_rules|`($a<<<$b)=>`(@L2.af _ _ _ _ _ $a $b)
local macro_rules|`($a>>>$b)=>`(@L2.af _ _ _ _ _ $a (@L2.ag _ _ _ $b))
local macro_rules|`($a⁻¹)=>`(@L2.ag _ _ _ (@L2.am _ _ _ _ $a))
local macro_rules|`($a∩$b)=>`(@L2.ah _ _ _ _ _ _ _ _ _ _ $a (($(Lean.mkIdent `hr)).mono ∅) rfl $b ∅ rfl rfl)
local macro_rules|`($a∪$b)=>`(@L2.ah _ _ _ _ _ _ _ _ _ _ $a $(Lean.mkIdent `hr) rfl $b ∅ rfl rfl)
local macro_rules|`($a∣$b)=>`(@L2.aG _ _ $a _ _ _ _ $(Lean.mkIdent `nd) rfl (Or.inl rfl) $b rfl (Or.inl rfl))
local macro_rules|`($a&&&$o&&&$b)=>`(@L2.ai _ _ _ _ _ _ _ $o $a $b (fun _ _=>rfl))
local macro_rules|`($a|||$o|||$b)=>`(@L2.aD _ _ _ _ _ _ _ _ $o $a $b)
local macro_rules|`($a•$b)=>`(L2.ao (L2.ap (i:=$a) $(Lean.mkIdent `nd) rfl (Or.inl rfl)) $b)
local macro_rules|`($a<*>$o<*>$b)=>`(@L2.ay _ _ _ _ _ _ _ _ $o $a $b (L2.aB _))
local macro_rules|`($a<|>$b<|>$c)=>`(@L2.aL _ _ _ _ _ _ _ _ $a $b $c)
namespace Pc
open PySem L2
structure Pot(a b:Int):Prop where
 a0:0<=a
 b0:0<=b
 b1:b < 2147483629
def But(p:OE)(H H':Hp):Prop:=∀b o,b≠p->H b=some o->H' b=some o
theorem But.trans{p:OE}{H H1 H2:Hp}(a:But p H H1)(b:But p H1 H2):But p H H2:=λ c o n e=>b c o n (a c o n e)
theorem But.upd{p:OE}{H:Hp}{o:HO}:But p H (upd H p o):=λ b u n e=>by rw[au n];exact e
theorem But.new{p q:OE}{H:Hp}{o:HO}(h:H q=none):But p H (L2.upd H q o):=λ b u n e=>by rw[au (av e h)];exact e
structure Kd where
 w:Int
 h:Int
 wo:Int
 wa:Int
 tu:Bool
def kdV(k:Kd):OI V:=[.int k.w,.int k.h,.int k.wo,.int k.wa,.bl k.tu]
structure Good(k:Kd):Prop where
 w:1<=k.w
 h:1<=k.h
 wo:0<=k.wo
 wa:0<=k.wa
 w':k.w < 10 ^ 60
 h':k.h < 10 ^ 60
 wo':k.wo < 10 ^ 60
 wa':k.wa < 10 ^ 60
def TupAt(H:Hp)(v:V)(k:Kd):Prop:=∃a,v=.ref a/\H a= ~~~(kdV k)
def Ej(H:Hp)(v:V)(k:Kd):Prop:=∃a,v=.ref a/\H a=↥(kdV k)
def RowAt(H:Hp)(v:V)(k:Kd):Prop:=TupAt H v k\/Ej H v k
abbrev Tups(H:Hp):OI V->OI Kd->Prop:=Paired (TupAt H)
theorem Tups.keep{H H':Hp}(k:∀b xs,H b= ~~~xs->H' b= ~~~xs):∀{xs:OI V}{ks:OI Kd},Tups H xs ks->Tups H' xs ks:=λ r=>
 G3 r λ v kd %[a,e|h]=>%[a,e|k a _ h]
structure ToldAt(H:Hp)(t l:OE)(bl:Int)(xs:OI V)(ks:OI Kd):Prop where
 t:H t= ~~~[.int bl,.ref l]
 l:H l=↥xs
 r:Tups H xs ks
 b0:0<=bl
 b1:bl < 10 ^ 60
 g:∀k∈ks,Good k
 n0:1<=xs.length
 n1:xs.length<=8
def cQ(K:C4):Sp:=λ vs H Q _=>∃(x:V)(T:String)(l:Int),vs=[x,.int l]/\Ty K H x T/\Q (.bl (aR x l)) H
def kz(K:C4):Sp:=λ vs H Q _=>∃(x:V)(T:String),vs=[x]/\Ty K H x T/\Q (.bl (qy x)) H
def jD(K:C4):Sp:=λ vs H Q _=>∃(x:V)(T:String),vs=[x]/\Ty K H x T/\∀H',Same H H'->Q (.bl (T == "list" || T == "tuple")) H'
def jE:OI V->Bool
 | [w,h,wo,wa,tu]=>aR w 1 && aR h 1 && aR wo 0 && aR wa 0 && qy tu
 | _=>false
def iK(K:C4):Sp:=λ vs H Q _=>∃(x:V)(T:String),vs=[x]/\Ty K H x T /\ 
 ((T ≠ "list" /\ T ≠ "tuple" /\ ∀H',Same H H'->Q (.bl false) H')\/∃(a:OE)(xs:OI V),x=.ref a/\(H a=↥xs\/H a= ~~~xs)/\(∀y∈xs,∃U,Ty K H y U)/\∀H',Same H H'->Q (.bl (jE xs)) H')
theorem iL{k:Kd}(g:Good k):jE (kdV k)=true:=by
 show(decide (1<=k.w) && decide (1<=k.h) && decide (0<=k.wo) && decide (0<=k.wa) && true)=true;rw[OO g.w,OO g.h,OO g.wo,OO g.wa]
 rfl
theorem Ty.same{K:C4}{H H':Hp}{x:V}{T:String}(s:Same H H')(t:Ty K H x T):Ty K H' x T:=by
 refine%[t.1|?_];have t2:=t.2;generalize hv:Value.type T=tv at t2 ⊢;cases t2 with
 | non=>exact .non
 | bl b=>exact .bl b
 | int b=>exact .int b
 | str b=>exact .str b
 | flt b=>exact .flt b
 | lst e=>exact .lst (s _ _ e)
 | frz e=>exact .frz (s _ _ e)
 | tup e=>exact .tup (s _ _ e)
 | dK e=>exact .dK (s _ _ e)
 | dT e=>exact .dT (s _ _ e)
 | ext e c=>exact .ext (s _ _ e) c
 | ins=>cases hv
end Pc
namespace L2
open PySem PySem.Spec PyProof.Rows
abbrev tG(K:C4):OI V->Hp->VK->Prop:=rz_call_tuple_of K
theorem tH{K:C4}{j:Nat}{a:OE}{xs:OI V}{g:TG}{tb:TS}{D:Ends}{σ:St}{H:Hp}(hσ:σ[j]?=some (↑a))(hs:H a=↥xs\/H a= ~~~xs)(Pv:Nat->St->Hp->Prop)(h0:Pv 0 σ H)
  (hk:∀i σ H',i<=xs.length->Pv i σ H'->∀o,H a=some o->H' a=some o)
  (ht:∀i x σ H,xs[i]?=some x->Pv i σ H->g x σ H λ σ2 H2=>tb { D with nx:=Pv (i+1),ct:=Pv (i+1),bk:=D.nx } σ2 H2) (hd:∀σ H,Pv xs.length σ H->D.nx σ H):DY (zg K (tVar j)) g tb D σ H:=by
 rcases hs with z | z
 ·exact .inl %[_,hσ,a,O,%[xs|G2 z]|iA (xs:=xs) Pv h0 (λ i σ H' hi p=>G2 (hk i σ H' hi p _ z)) ht hd]
 ·exact .inr %[_,hσ,a,O,%[xs|G1 z]|ia (xs:=xs) Pv h0 (λ i σ H' hi p=>G1 (hk i σ H' hi p _ z)) ht hd]
def Nx(n:Nat)(Pv:Nat->OI V->Hp->Prop)(i:Nat)(ys:OI V)(H:Hp):Prop:=∃m',m' < n - i/\m'=n - (i+1)/\i+1<=n/\Pv (i+1) ys H
theorem Nx.of{n:Nat}{Pv:Nat->OI V->Hp->Prop}{i:Nat}{ys:OI V}{H:Hp}(h:i < n)(p:Pv (i+1) ys H):Nx n Pv i ys H:=%[n - (i+1),⋯,O,h|p]
theorem eO{K:C4}{a:OE}{xs:OI V}{σ:St}{cap:OI Nat}{k:Nat}{g:TG}{tt:TT}{te:TE}{Q:OI V->Hp->Prop}{H:Hp}(hs:H a=↥xs\/H a= ~~~xs)(Pv:Nat->OI V->Hp->Prop)
  (hk:∀i ys H',i<=xs.length->Pv i ys H'->∀o,H a=some o->H' a=some o) (h0:Pv 0 [] H)
  (ht:∀i x ys H',xs[i]?=some x->Pv i ys H'->ys.length < sizeLine/\g x (cm σ cap k) H' λ σ2 H2=>leS (cm σ cap k) σ2/\tt σ2 H2 λ ok H3=>if ok=true then te σ2 H3 (λ v H4=>Nx xs.length Pv i (ys ++ [v]) H4)else Nx xs.length Pv i ys H3)
  (hd:∀ys H',Pv xs.length ys H'->ys.length<=sizeLine/\Q ys H') :
  (H a=↥xs->∃W,(∃m,W 0 m [] H)/\iH σ cap k (Itl K a) g tt te Q W)/\(H a= ~~~xs->∃W,(∃m,W 0 m [] H)/\iH σ cap k (Itt K a) g tt te Q W):=by
 refine%[λ z=>%[λ i m ys H'=>m=xs.length - i/\i<=xs.length/\Pv i ys H',%[_,O,E6 _|h0]|?_]|λ z=>%[λ i m ys H'=>m=xs.length - i/\i<=xs.length/\Pv i ys H',%[_,O,E6 _|h0]|?_]]
 ·rintro i m ys H' ⟨rfl,hi,p⟩;have z':=hk i ys H' hi p _ z
  by_cases hin:i < xs.length
  ·obtain⟨e,hg⟩:=ht i xs[i] ys H' (by simp[hin]) p;refine .inr %[%[xs,xs[i],G2 z'|by simp[hin]],e|λ x H2 yl=>?_];obtain⟨e1,e2⟩:=yl;have e3:=e2 xs (G2 z');have e4:x=xs[i]:=by simpa[hin]using e3.symm
   subst e1 e4;exact hg
  ·have e:i=xs.length:=⋯
   subst e;obtain⟨a1,a2⟩:=hd ys H' p;exact .inl %[%[xs,G2 z'|B2 _],a1|a2]
 ·rintro i m ys H' ⟨rfl,hi,p⟩;have z':=hk i ys H' hi p _ z
  by_cases hin:i < xs.length
  ·obtain⟨e,hg⟩:=ht i xs[i] ys H' (by simp[hin]) p;refine .inr %[%[xs,xs[i],G1 z'|by simp[hin]],e|λ x H2 yl=>?_];obtain⟨e1,e2⟩:=yl;have e3:=e2 xs (G1 z');have e4:x=xs[i]:=by simpa[hin]using e3.symm
   subst e1 e4;exact hg
  ·have e:i=xs.length:=⋯
   subst e;obtain⟨a1,a2⟩:=hd ys H' p;exact .inl %[%[xs,G1 z'|B2 _],a1|a2]
theorem qz{K:C4}{j:Nat}{a:OE}{xs:OI V}{σ:St}{cap:OI Nat}{k:Nat}{g:TG}{tt:TT}{te:TE}{Q:VK}{H:Hp}(hσ:σ[j]?=some (↑a))(hs:H a=↥xs\/H a= ~~~xs)(Pv:Nat->OI V->Hp->Prop)
  (hk:∀i ys H',i<=xs.length->Pv i ys H'->∀o,H a=some o->H' a=some o) (h0:Pv 0 [] H)
  (ht:∀i x ys H',xs[i]?=some x->Pv i ys H'->ys.length < sizeLine/\g x (cm σ cap k) H' λ σ2 H2=>leS (cm σ cap k) σ2/\tt σ2 H2 λ ok H3=>if ok=true then te σ2 H3 (λ v H4=>Nx xs.length Pv i (ys ++ [v]) H4)else Nx xs.length Pv i ys H3)
  (hd:∀ys H',Pv xs.length ys H'->ys.length<=sizeLine/\∀p,H' p=none->Q (.ref p) (upd H' p (.lst ys))):oX (zg K (tVar j)) cap k g tt te σ H Q:=by
 obtain⟨c1,c2⟩:=eO (K:=K) (σ:=σ) (cap:=cap) (k:=k) (g:=g) (tt:=tt) (te:=te) hs Pv hk h0 ht hd;rcases hs with z | z
 ·exact .inl %[_,hσ,a,O,%[xs|G2 z]|c1 z]
 ·exact .inr %[_,hσ,a,O,%[xs|G1 z]|c2 z]
end L2
namespace Pc
open PySem L2
def mJ(b:Int)(r:OE):OI (Str×V):=dk "kind_rows" (.ref r) (dk "blade_width" (.int b) [])
theorem kbw:¬ (("blade_width" : Str) = "kind_rows"):=∅
theorem mK(b:Int)(r:OE):(mJ b r).lookup ("blade_width" : Str)=⇑b:=by unfold mJ;rw[bU,OQ kbw,bU,OR rfl]
theorem gH(b:Int)(r:OE):(mJ b r).lookup ("kind_rows" : Str)=↑r:=by unfold mJ;rw[bU,OR rfl]
theorem fg(b:Int)(r:OE){m:Str}(h1:¬ m = "kind_rows")(h2:¬ m = "blade_width"):(mJ b r).lookup m=none:=by
 unfold mJ;rw[bU,OQ h1,bU,OQ h2]
 all_goals rfl
def ShopAt(C:OE)(H:Hp)(x:OE)(b:Int)(ks:OI Kd):Prop:=∃dx r rs,H x=some (.ins C dx (mJ b r))/\H r= ~~~rs/\Tups H rs ks
theorem ShopAt.keep{C:OE}{H H':Hp}{x:OE}{b:Int}{ks:OI Kd}(s:ShopAt C H x b ks)(k1:∀b xs,H b= ~~~xs->H' b= ~~~xs)(k2:∀b C dx fs,H b=some (.ins C dx fs)->H' b=some (.ins C dx fs)):ShopAt C H' x b ks:=by obtain⟨dx,r,rs,h1,h2,h3⟩:=s;exact%[dx,r,rs,k2 _ _ _ _ h1,k1 _ _ h2|Tups.keep k1 h3]
def mL(C:OE):Sp:=λ vs H Q _=>∃(x dx ks:OE)(b:Int)(rs:OI V)(kds:OI Kd),vs=[.ref x,.int b,.ref ks]/\H x=some (.ins C dx [])/\0<=b/\(H ks=↥rs\/H ks= ~~~rs)/\Paired (RowAt H) rs kds/\(∀k∈kds,Good k)/\1<=rs.length/\rs.length<=8 /\
 ∀H':Hp,ShopAt C H' x b kds->(∀c o,c≠x->H c=some o->H' c=some o)->Q .non H'
def fh(C:OE):Sp:=λ vs H Q _=>∃(x:OE)(b:Int)(ks:OI Kd),vs=[.ref x]/\ShopAt C H x b ks/\Q (.int b) H
theorem pb{K:C4}{H:Hp}{k:Kd}:∀y∈kdV k,∃U,Ty K H y U:=by
 intro y hy;simp only[kdV,G6,J0,OZ]at hy;rcases hy with rfl | rfl | rfl | rfl | rfl
 ·exact%[_|.int]
 ·exact%[_|.int]
 ·exact%[_|.int]
 ·exact%[_|.int]
 ·exact%[_|.bl]
theorem Paired.getR{α β:Type}{F:α->β->Prop}:∀{l₁:OI α}{l₂:OI β}{i:Nat}{x:α},Paired F l₁ l₂->l₁[i]?=some x->∃y,l₂[i]?=some y/\F x y
 | _,_,_,_,.nil,e=>by simp at e
 | _,_,0,_,.cons h _,e=>by simp at e;subst e;exact%[_,O|h]
 | _,_,i+1,x,.cons _ t,e=>by obtain⟨y,h1,h2⟩:=Paired.getR (i:=i) (x:=x) t (by simpa using e);exact%[y,by simpa using h1|h2]
abbrev G4:=@Paired.getR
theorem RowAt.same{H H':Hp}{v:V}{k:Kd}(s:Same H H')(r:RowAt H v k):RowAt H' v k:=by
 rcases r with⟨a,e,h⟩ | ⟨a,e,h⟩
 ·exact .inl %[a,e|s _ _ h]
 ·exact .inr %[a,e|s _ _ h]
theorem qA{K:C4}{H:Hp}{v:V}{k:Kd}{Q:VK}{E:XK}(r:RowAt H v k)(g:Good k)(q:∀H',Same H H'->Q (.bl true) H'):iK K [v] H Q E:=by
 rcases r with⟨a,rfl,h⟩ | ⟨a,rfl,h⟩
 ·exact%[_,_,O,.tup h|.inr %[a,_,O,.inr h,pb|λ H' s=>by rw[iL g];exact q H' s]]
 ·exact%[_,_,O,.lst h|.inr %[a,_,O,.inl h,pb|λ H' s=>by rw[iL g];exact q H' s]]
structure ShopTxt(K:C4)(C:OE):Prop where
 cl:Cls K C
 nB:NoAttr K C "blade_width"
 nK:NoAttr K C "kind_rows"
end Pc
namespace L2
open PySem PySem.Spec PyProof.Rows
def Mn(P:F6)(w:F8)(K:C4)(mg:Str->OG F9)(base:Heap)(C:OE)(m:Str)(ps:OI Str)(k:Nat)(sp:Sp):Prop :=
 ∃(f:OE)(fd:F7),FnOk P w K mg base CX0 k f fd ps sp/\Binds K fd ps []/\Meth K C m f
theorem mM{X:Cx}{k:Nat}{C:OE}{ps:OI Str}{sp:Sp}{m:Str}{o:Expr}{ta:TE}{apos pos:Pos}{pl:Sem Bool}(he:PE X o ta)(c:Cls X.K C)(D:Mn X.prog X.w X.K X.mg X.base C m ps k sp)(hr:Room k X.A)
  (ht:eval (.Call (.Attribute o m apos) [] [] pos) X.env=(do
   let ov<-eval o X.env
   standAt apos.atName
   let (f,first)<-holding [ov] (getMethod ov m pl)
   callWith pos f first (backTo pos (starEach [] X.env)) (backToKw pos (keywordEach [] X.env))):=by rfl):PE X (.Call (.Attribute o m apos) [] [] pos) (oU C m sp [] E0 ta ji):=by
 obtain⟨f,fd,F,hb,hm⟩:=D;exact sT he c hm F hr hb .nil lC ht
def Kn(P:F6)(w:F8)(K:C4)(mg:Str->OG F9)(base:Heap)(x:Str)(C:OE)(ps:OI Str)(k:Nat)(sp:Sp):Prop :=
 ∃(f:OE)(fd:F7),Mk K C f/\FnOk P w K mg base CX0 k f fd ps sp/\Binds K fd ps []/\mg x=↑C
theorem Ek{X:Cx}{k:Nat}{C:OE}{ps:OI Str}{sp:Sp}{x:Str}{p pos:Pos}{e:Expr}{es:OI Expr}{t:TA}(D:Kn X.prog X.w X.K X.mg X.base x C ps k sp)(hr:Room (k+1) X.A)(hg:Gl X x)(ha:PA X (e :: es) t)
  (hdb:(x == ("__debug__" : Str))=false:=by decide) (he:starEach (e :: es) X.env=(false,eval e X.env) :: starEach es X.env:=by rfl) (hpl:(backTo pos (starEach es X.env)).any (·.1)=false:=by rfl) :
  PE X (.Call (.Name x p) (e :: es) [] pos) (yx C sp [] E0 t):=by
 obtain⟨f,fd,M,F,hb,hm⟩:=D;exact vY M F hr hg hm hb .nil lC ha hdb he hpl
theorem fj(xs:OI V)(k:Nat):eE xs none (some (k:Int))=xs.take k:=by
 unfold eE;rw[HT.sIx_none,HT.sIx_nat];simp only[N8,OC];rcases Nat.le_total k xs.length with h | h
 ·rw[OB h]
 ·rw[Nat.min_eq_right h,M2 (B2 _),M2 h]
end L2
namespace Pc
open PySem L2
theorem Same.but{p:OE}{H H':Hp}(s:Same H H'):But p H H':=λ b o _ e=>s b o e
theorem Same.new{q:OE}{H:Hp}{o:HO}(h:H q=none):Same H (upd H q o):=λ b u e=>by rw[au (av e h)];exact e
abbrev G0:=@Same.new
end Pc
namespace L2
open PySem PySem.Spec PyProof.Rows
def Q2(e:OE)(h:Heap):Prop:=True
section
variable{M:Model}{A:Around}{E:F9->F5->Prop}{s:F5}{base:Heap}{env:Env}{outer l:OI Env}{L e:OE}{cls a0 fl:F9}{Q:Unit->F5->Prop}
theorem Q2.set{e c:OE}{h:Heap}{i:Nat}{v:F9}(hi:i≠2)(q:Q2 e h):Q2 e (h.update c (Obj.mapFields (·.setIfInBounds i v))):=trivial
theorem Q2.push{e:OE}{h:Heap}{o:Obj}(q:Q2 e h):Q2 e (h.push o):=trivial
theorem kA{h:Heap}{args:OI F9}(hfr:A.frames=some (env :: outer))(hf:env.frame=some L)(hkb:base.StaysIn h)(hl:h.FunFrames base (env :: outer))(hx:Heap.MadeExcOf h s.heap e cls args)
  (hQ:∀h' t,Heap.FlyingW base outer e cls (.ref t) h'->h'.TupAt t args->base.get? t=none->s.heap.UpToSlots h'->Q2 e h'->Q () { s with heap:=h' }):wpAny M A (leaving env (.ref e)) Q E s :=
 wpAny_leaves_madeW hfr hf hkb hl hx λ h' t a b c d=>hQ h' t a b c d trivial
theorem jF(hfr:A.frames=some (env :: outer))(hf:env.frame=some L)(f:Heap.FlyingW base (env :: outer) e cls a0 s.heap)(q:Q2 e s.heap)
  (hQ:∀h',Heap.HeldW base (env :: outer) e cls a0 L h'->s.heap.UpToSlots h'->Q2 e h'->Q () { s with heap:=h' }):wpAny M A (noteFrame (.ref e) env) Q E s :=
 wpAny_looks_onW hfr hf f λ h' a b=>hQ h' a b trivial
theorem tI(hh:Heap.HeldW base l e cls a0 L s.heap)(q:Q2 e s.heap)(hQ:∀h',Heap.FlyingW base l e cls a0 h'->s.heap.UpToSlots h'->Q2 e h'->Q () { s with heap:=h' }):wpAny M A (setFlight (.ref e) none) Q E s :=
 wpAny_landsW hh λ h' a b=>hQ h' a b trivial
theorem kB(hh:Heap.FlyingW base l e cls a0 s.heap)(q:Q2 e s.heap)(hQ:∀h',Heap.FlyingW base l e cls a0 h'->s.heap.UpToSlots h'->Q2 e h'->Q () { s with heap:=h' }):wpAny M A (setFlight (.ref e) none) Q E s :=
 lands_againW hh λ h' a b=>hQ h' a b trivial
end
theorem ObjOk.ex{P:F6}{w:F8}{H:Hp}{h:Heap}{a:OE}{o:HO}(x:ObjOk P w H h a o):∃ob,h.get? a=some ob:=by
 cases o with
 | lst xs=>obtain⟨_,_,_,_,e⟩:=x;exact%[_|e]
 | tup xs=>obtain⟨_,_,_,o,e,_⟩:=x;exact%[_|e]
 | dK kvs=>obtain⟨_,_,_,_,o,_,_,e,_⟩:=x;exact%[_|e]
 | dT kvs=>obtain⟨_,_,_,_,o,_,_,e,_⟩:=x;exact%[_|e]
 | set S n=>obtain⟨o,_,_,_,e,_⟩:=x;exact%[_|e]
 | ins C dx fs=>obtain⟨_,_,_,e,_⟩:=x;exact%[_|e]
 | own y=>exact x
 | xd fs=>obtain⟨_,⟨_,_,_,e,_⟩,_⟩:=x;exact%[_|e]
 | rng lo hi=>obtain⟨_,_,_,e⟩:=x;exact%[_|e]
 | frz ob u=>exact%[_|x.1]
 | tbl ps=>exact%[_|(show h.get? a=some _ from x)]
 | met f y=>exact%[_|(show h.get? a=some _ from x)]
 | ext φ=>exact x.2.1
structure Flew(P:Program)(w:World)(outer:OI Env)(H:Hp)(s:Shared)(ea:OE)(C:Value)(H':Hp)(B:Heap)(s':Shared):Prop where
 os:s'.os=s.os
 bare:AllBare s'.gens
 un:Un (frs outer) [] H H' s.heap s'.heap
 hok:HOk P w H' s'.heap
 fly:∃a0,Heap.FlyingW B outer ea C a0 s'.heap
 ctx:Q2 ea s'.heap
 cov:∀b o,b∉frs outer->(H' b≠none\/∃o',s.heap.get? b=some o')->s'.heap.get? b=some o->B.get? b=some o
 new:s.heap.get? ea=none/\H' ea=none
def CXx(P:F6)(w:F8):CXT:=λ outer H s E e s'=>∃ea C H' B,e=Value.ref ea/\Flew P w outer H s ea C H' B s'/\E C none H'
section
variable{X:Cx}{OK:OI (OE×Obj)}{σ:St}{H:Hp}{s:F5}
theorem Inv.raised{h2:Heap}{ea:OE}{C:F9}{vs:OI F9}{M:Model}{E:F9->F5->Prop}{Q:Unit->F5->Prop}(I:Inv X OK σ H s)(hst:X.stack=X.env :: X.outer)(hfr:X.env.frame=some X.env.locals)(hex:X.ex=[])
  (hx:Heap.MadeExcOf s.heap h2 ea C vs) (hQ:∀B h',Flew X.prog X.w X.outer X.H₀ X.s₀ ea C H B { s with heap:=h' }->Q () { s with heap:=h' }) :
  wpAny M X.A (leaving X.env (.ref ea)) Q E { s with heap:=h2 }:=by
 have fS:frs X.stack=X.env.locals :: X.fs:=by rw[hst];unfold frs;rw[K5,hfr];rfl
 have st:s.heap.FunFrames X.base (X.env :: X.outer):=by rw[<- hst];exact I.stack
 have hin:∀env∈(X.env :: X.outer),∀b,env.frame=some b->b∈frs X.stack:=λ env he b hb=>by rw[hst];exact List.mem_filterMap.mpr %[env,he|hb]
 have s0L:∀b o,X.s₀.heap.get? b=some o->b≠X.env.locals:=λ b o e=>B9 (C1 (A8 e) I.ok.above);have Ubase:Un X.fs [] X.H₀ H X.s₀.heap s.heap:=by have:=I.base;rw[hex]at this;exact this
 have trk:∀b u,H b=some u->b∉frs X.stack:=λ b u e hb=>by rw[I.stkFree b hb]at e;cases e
 have ofd:∀b,b∈X.fs->∃o,s.heap.get? b=some o/\∀vs,o.data≠.fields vs:=λ b hb=>by obtain⟨_,o,ho,hd⟩:=I.funs.mem hb;exact%[o,ho|hd]
 refine kA (base:=PySem.W.hideAll s.heap (frs X.stack)) (h:=s.heap) (by rw[<- hst];exact I.ok.frames) hfr (λ b o q=>PySem.W.of_hideAll _ q) (PySem.W.funFrames_hide st hin) hx λ h' t fl tup hbt sm q2=>hQ (PySem.W.hideAll s.heap (frs X.stack)) h' ?_;have toB:∀b o,b∉frs X.stack->s.heap.get? b=some o->h'.get? b=some o:=λ b o nb e=>fl.1 _ _ (PySem.W.hideAll_get _ e nb);have nfs:∀b o,X.s₀.heap.get? b=some o->b∉X.fs->b∉frs X.stack:=λ b o e nb z=>by
  rw[fS]at z;rcases G6.mp z with q | q
  ·exact s0L b o e q
  ·exact nb q
 have slot1:∀b o,b∈X.fs->s.heap.get? b=some o->∃sl,h'.get? b=some { o with slots:=sl }:=λ b o hb e=>by obtain⟨o',e',hd⟩:=ofd b hb;rw[e]at e';cases e';exact sm b o (hx.keeps _ _ e) hd
 refine%[I.os,I.bare,%[λ b o e n hb _=>?_,λ b o e n hb _=>?_,λ b o e n _=>Ubase.free b o e n (by simp),λ b o e _=>?_,Ubase.tups,Ubase.frzs|Ubase.tbls],λ b u e=>?_,%[_|fl],q2,λ b o nb hh e=>?_,?_|?_]
 ·exact toB b o (nfs b o e hb) (Ubase.keep b o e n hb (by simp))
 ·obtain⟨sl,e1⟩:=Ubase.slot b o e n hb (by simp);obtain⟨sl',e2⟩:=slot1 b _ hb e1;exact%[sl'|e2]
 ·obtain⟨o',e1⟩:=Ubase.there b o e (by simp)
  by_cases hb:b∈X.fs
  ·obtain⟨sl,e2⟩:=slot1 b _ hb e1;exact%[_|e2]
  ·exact%[o'|toB b o' (nfs b o e hb) e1]
 ·refine(I.hok b u e).stay (λ c v hc q=>toB c v ?_ q) (λ _ q=>q) λ _ _ q=>q;rcases hc with z | z
  ·rw[z];exact trk b u e
  ·exact trk c _ z
 ·rcases hh with z | ⟨o',z⟩
  ·cases q:H b with
   | none=>exact absurd q z
   | some u=>
    obtain⟨ob,eb⟩:=(I.hok b u q).ex;have eB:=PySem.W.hideAll_get _ eb (trk b u q);have:=fl.1 _ _ eB;rw[e]at this;cases this;exact eB
  ·obtain⟨o'',e1⟩:=Ubase.there b o' z (by simp);have eB:=PySem.W.hideAll_get _ e1 (nfs b o' z nb);have:=fl.1 _ _ eB;rw[e]at this;cases this;exact eB
 ·cases q:X.s₀.heap.get? ea with
  | none=>rfl
  | some o=>
   obtain⟨o',e1⟩:=Ubase.there ea o q (by simp);rw[hx.new]at e1;cases e1
 ·cases q:H ea with
  | none=>rfl
  | some u=>
   obtain⟨ob,eb⟩:=(I.hok ea u q).ex;rw[hx.new]at eb;cases eb
theorem Flew.inv{ea:OE}{C:F9}{H':Hp}{B h6:Heap}{s':F5}{t:Nat}(I:Inv X OK σ H s)(f:Flew X.prog X.w X.stack H s ea C H' B s')(hB:B.StaysIn h6)(sm:s'.heap.UpToSlots h6):Inv X OK σ H' { s' with heap:=h6,toks:=t }:=by
 have trk:∀b u,H' b=some u->b∉frs X.stack:=λ b u e hb=>by
  obtain⟨o,ho⟩:∃o,s.heap.get? b=some o:=let ⟨_,o,ho,_⟩:=I.stack.mem hb;%[o|ho]
  have:=f.un.free b o ho (I.stkFree b hb) (by simp);rw[this]at e;cases e
 have slot1:∀b o,b∈frs X.stack->s'.heap.get? b=some o->∃sl,h6.get? b=some { o with slots:=sl }:=λ b o hb e=>by obtain⟨a0,fl⟩:=f.fly;obtain⟨_,o',e',hd⟩:=fl.2.2.1.mem hb;rw[e]at e';cases e';exact sm b o e hd
 refine I.call' (ch:=[]) f.os %[λ b o e n hb _=>?_,λ b o e n hb _=>?_,λ b o e n _=>f.un.free b o e n (by simp),λ b o e _=>?_,f.un.tups,f.un.frzs|f.un.tbls] (λ b u e=>?_) f.bare (λ b z=>absurd z (by simp))
 ·exact hB _ _ (f.cov b o hb (.inr %[o|e]) (f.un.keep b o e n hb (by simp)))
 ·obtain⟨sl,e1⟩:=f.un.slot b o e n hb (by simp);obtain⟨sl',e2⟩:=slot1 b _ hb e1;exact%[sl'|e2]
 ·obtain⟨o',e1⟩:=f.un.there b o e (by simp)
  by_cases hb:b∈frs X.stack
  ·obtain⟨sl,e2⟩:=slot1 b _ hb e1;exact%[_|e2]
  ·exact%[o'|hB _ _ (f.cov b o' hb (.inr %[o|e]) e1)]
 ·refine(f.hok b u e).stay (λ c v hc q=>?_) (λ _ q=>q) λ _ _ q=>q;have hc':H' c≠none:=by
   rcases hc with z | z
   ·rw[z,e];exactλ z=>nomatch z
   ·rw[z];exactλ z=>nomatch z
  have nc:c∉frs X.stack:=by
   cases q':H' c with
   | none=>exact absurd q' hc'
   | some u'=>exact trk c u' q'
  exact hB _ _ (f.cov c v nc (.inl hc') q)
end
@[inline]def bmVE:OI F9:=[.type "ValueError",.type "Exception",.type "BaseException",.type "object"]
def ExcC(K:C4)(C:OE):Prop:=PySem.W.excIn K C bmVE "ValueError.__new__" = true
theorem ExcC.obj{K:C4}{C:OE}{h:Heap}(X:K.In h)(q:ExcC K C):∃bm N nm qn bs hdct sn sub ab col dd k0 k1 k2 k3 k5 mN,
  h.get? C=some (excClassObj nm qn C N bs bm hdct sn sub ab col dd k0 k1 k2 k3 k5 "ValueError.__new__")/\h.Ns N mN/\mN "__init__" = none/\OwnTail h bmVE bm:=by
 unfold ExcC PySem.W.excIn at q
 split at q
 ·rename_i dd cd sl ho
  split at q
  ·rename_i C' bm k0 k1 k2 k3 n k5 hm hs
   simp only[G8,beq_iff_eq,Bool.not_eq_true']at q;obtain⟨⟨⟨⟨⟨e1,e2⟩,e3⟩,e4⟩,e5⟩,e6⟩:=q;obtain⟨nm,bs,mro,ns,qn,hd,sn,sub,ab,col,del⟩:=cd;dsimp only at hm e3 e5 e6;subst e1 e2 hm e3;obtain⟨l⟩:=sl;simp only at hs;subst hs;exact%[bm,ns,nm,qn,bs,hd,sn,sub,ab,col,dd,k0,k1,k2,k3,k5,_,X _ _ ho,.of_isNs (PySem.W.isNs_of_in X e5),PySem.W.nsMap_none_of_in X e5 e6|PySem.W.tail_of_in X e4]
  ·cases q
 ·cases q
section
variable{X:Cx}{x:Str}{C:OE}{e0:Expr}{np cpos pos:Pos}{t:TA}
def zi(R:F9->Hp->Prop)(C:OE)(t:TA):TS:=λ _ σ H=>t σ H λ vs H1=>vs.length<=sizeLine/\R (.ref C) H1
theorem eQ{R:F9->Hp->Prop}(hc:X.calm=true)(hg:Gl X x)(hm:X.mg x=↑C)(ec:ExcC X.K C)(ha:PA X [e0] t)
  (hR:∀OK σ H s h2 ea vs,Inv X OK σ H s->Heap.MadeExcOf s.heap h2 ea (.ref C) vs->R (.ref C) H->X.xe (.ref ea) { s with heap:=h2 })
  (he:starEach [e0] X.env=[(false,eval e0 X.env)]:=by rfl) (hd:(x == ("__debug__" : Str))=false:=by decide) :
  PS X (.Raise (some (.Call (.Name x np) [e0] [] cpos)) none pos) (zi R C t):=by
 intro OK s σ H D I h;obtain⟨bm,N,nm,qn,bs,hdct,sn,sub,ab,col,dd,k0,k1,k2,k3,k5,mN,hC,hN,hni,T⟩:=ec.obj I.ok.mod.kin;refine wpAny_Raise_call_subT (C:=C) (nm:=nm) (q:=qn) (N:=N) (bs:=bs) (bm:=bm) (hdct:=hdct) (sn:=sn) (sub:=sub) (ab:=ab) (col:=col) (dd:=dd) (k0:=k0) (k1:=k1) (k2:=k2) (k3:=k3) (k5:=k5)
  PySem.F.excBase_ValueError (mN:=mN) (T.hasType PySem.F.excBase_ValueError.hasBase) (I.ok.hd hc) (by rw[he];rfl) hni (dB I hg hm %[rfl|?_] hd)
 have h2:=ha cpos OK s σ H _ I h;rw[he]at h2 ⊢;refine Calls.evalArgs_plain (thn h2 λ us s2 %[vs,H1,I1,rv,hl|q]=>%[O,by rw[<- rv.length];exact hl,I1.bk _ _ hC,hN.keeps I1.bk,T.keeps I1.bk|λ h' ea hx=>?_]);exact hR OK σ H1 s2 h' ea us I1 hx q
end
section
variable{P:F6}{w:F8}{K:C4}{mg:Str->OG F9}{base:Heap}
theorem dg{N:OI Str}{qual:Str}{scope:Scope}{f:OE}{cd:F9}{A:Around}{outer:OI Env}{s₀:F5}{H₀:Hp}{E:XK}{C:OE} :
  ∀OK σ H s h2 ea vs,Inv (bJ (CXx P w) P w K mg base N qual scope f cd A outer s₀ H₀ E) OK σ H s->Heap.MadeExcOf s.heap h2 ea (.ref C) vs->(λ c H=>E c none H) (Value.ref C) H ->
   (bJ (CXx P w) P w K mg base N qual scope f cd A outer s₀ H₀ E).xe (.ref ea) { s with heap:=h2 }:=λ OK σ H s h2 ea vs I hx q=>
 I.raised (E:=λ e' s''=>CXx P w outer H₀ s₀ E e' s'') rfl rfl rfl hx λ B h' f=>%[ea,_,H,B,O,f|q]
theorem Fun.okX{x qual:Str}{st:Stmt}{f:OE}{fd:F7}{N ps:OI Str}{k:Nat}{sp:Sp}(F:Fun K x qual st f fd)(S:FnScope N ps (defScope st))(len:∀vs H Q E,sp vs H Q E->vs.length=ps.length)
  (hbody:∀(cdv:F9)(A:Around)(outer:OI Env)(s:F5)(H:Hp)(vs:OI V)(Q:VK)(E:XK),Room k (A.deeper (envOfC qual (defScope st) s.heap.objs.size f cdv))->sp vs H Q E ->
   ∃t,PSs (bJ (CXx P w) P w K mg base N qual (defScope st) f cdv A outer s H E) (defBody st) t/\t { nx:=λ _ H'=>Q .non H',rt:=Q } (dI N vs) H):FnOk P w K mg base (CXx P w) (k+1) f fd ps sp:=by
 obtain⟨oc,od,kV,doc,pm,an,cdv,ct,osl,rfl,lk,hcd⟩:=F.ex;exact yy lk hcd S len λ A outer s H vs Q E hr hsp=>hbody cdv A outer s H vs Q E hr hsp
end
def XP(X:Cx)(OK:OI (OE×Obj))(σ:St)(E:XK)(v:F9)(s':F5):Prop:=∃ea C H H' B s0,v=Value.ref ea/\Inv X OK σ H s0/\Flew X.prog X.w X.stack H s0 ea C H' B s'/\E C none H'
abbrev TX:=St->Hp->VK->XK->Prop
def PEx(X:Cx)(e:Expr)(t:TX):Prop :=
 ∀(OK:OI (OE×Obj))(s:F5)(σ:St)(H:Hp)(Q:VK)(E:XK),Inv X OK σ H s->t σ H Q E->wpAny (model X.prog X.w) X.A (eval e X.env) (EP X OK σ Q) (XP X OK σ E) s
section
variable{X:Cx}{k:Nat}{f C:OE}{fd:F7}{ps:OI Str}{sp:Sp}{x m:Str}{p pos apos:Pos}{e o:Expr}{es:OI Expr}{ta:TE}{t:TA}
theorem wj{OK:OI (OE×Obj)}{σ:St}{H:Hp}{s:F5}{Q:VK}{E:XK}{us:OI F9}{vs:OI V}(F:FnOk X.prog X.w X.K X.mg X.base (CXx X.prog X.w) k f fd ps sp)(hr:Room k X.A)(hb:Binds X.K fd ps [])
  (I:Inv X OK σ H s) (r:Vals vs us) (h:sp vs H Q E):wpAny (model X.prog X.w) X.A (call (.ref f) us) (EP X OK σ Q) (XP X OK σ E) s:=by
 have hl:(us ++ []).length=ps.length:=by rw[J7,<- r.length];exact F.len _ _ _ _ h
 have b:=hb s us I.kIn hl;rw[J7]at b;refine wpAny_call (Oz (F.run X.A X.stack s H %[us|[]] us vs Q E hr I.env0 b r h) λ r s' hq=>?_);cases r with
 | error e=>
  obtain⟨ea,C,H',B,e1,fl,q⟩:=hq;exact%[ea,C,H,H',B,s,e1,I,fl|q]
 | ok fl=>
  cases fl with
  | ret u=>exact I.after hq
  | next=>exact E5 hq
  | brk=>exact E5 hq
  | cont=>exact E5 hq
end
def Cx.marked(X:Cx)(ea:OE):Cx:={ X with A:=X.A.mark (↑ea),calm:=false,xe:=λ _ _=>False }
section
variable{X:Cx}{OK:OI (OE×Obj)}{σ:St}{H:Hp}{s:F5}
theorem Inv.mark(I:Inv X OK σ H s)(ea:OE):Inv (X.marked ea) OK σ H s :=
 ⟨%[I.ok.mod,I.ok.kind,I.ok.glob,I.ok.blt,I.ok.above,I.ok.inj,I.ok.has,I.ok.cab,λ z=>absurd (show false=true from z) B1,I.ok.frames,I.ok.stk,I.ok.exf,I.ok.bs,I.ok.bsz,I.ok.noex,I.ok.exfs,I.ok.funs|I.ok.frf],
  I.os,I.bare,I.base,I.loc,I.cell,I.free,I.freeC,I.pin,I.hok,I.len⟩
theorem Inv.unmark{ea:OE}(ok:X.Ok)(I:Inv (X.marked ea) OK σ H s):Inv X OK σ H s :=
 %[ok,I.os,I.bare,I.base,I.loc,I.cell,I.free,I.freeC,I.pin,I.hok|I.len]
theorem Inv.track2{a:OE}{o:HO}(I:Inv X OK σ H s)(f0:H a=none)(f1:a≠X.env.locals)(hna:X.s₀.heap.get? a=none)(f4:∀x c,X.env.cells.lookup x=some c->c≠a)(f5:∀p∈X.pn ++ OK,p.1≠a)
  (new:ObjOk X.prog X.w (upd H a o) s.heap a o):Inv X OK σ (upd H a o) s:=by
 have s0:∀b o,X.s₀.heap.get? b=some o->b≠a:=λ b o e z=>by rw[z,hna]at e;cases e
 refine%[I.ok,I.os,I.bare,%[I.base.keep,I.base.slot,λ b o e n hx=>?_,I.base.there,λ b xs e=>?_,λ b o u e=>?_|λ b ps e=>?_],I.loc,I.cell,?_,λ x c e=>?_,λ p hp=>?_,I.hok.add f0 new|I.len]
 ·rw[au (s0 b o e)];exact I.base.free b o e n hx
 ·have q:=I.base.tups b xs e;rw[au (av q f0)];exact q
 ·have q:=I.base.frzs b o u e;rw[au (av q f0)];exact q
 ·obtain⟨more,q⟩:=I.base.tbls b ps e;exact%[more|by rw[au (av q f0)];exact q]
 ·rw[au (Ne.symm f1)];exact I.free
 ·rw[au (f4 x c e)];exact I.freeC x c e
 ·obtain⟨e,n,r⟩:=I.pin p hp;exact%[e,by rw[au (f5 p hp)];exact n|r]
theorem fk{M:Model}{A:Around}{E:F9->F5->Prop}{i:Nat}{x:Str}{pos:Pos}{Q:Unit->F5->Prop}(I:Inv X OK σ H s)(hN:X.N.Nodup)(hi:X.N[i]?=some x)(hk:X.env.scope.names.lookup x=some .local)
  (h:∀s',Inv X OK (σ.set i none) H s'->Q () s'):wpAny M A (do bindName X.env x .none;unbindBehindTheSuite X.env x pos) Q E s:=by
 obtain⟨m,hn,hl⟩:=id I.loc;have hcls:(X.env.scope.kind == .class || (X.env.scope.kind == .module && X.env.locals != X.env.globals))=false:=by rw[I.ok.kind];rfl
 refine wpAny_nameGoes_keeps hk hn hcls λ h' v hn' hs=>h _ ?_;obtain⟨oL,_,_,hoL,_⟩:=id hn;have cne:=I.cne;have hok:HOk X.prog X.w H h':=I.hok.but I.free hs;refine%[I.ok,I.os,I.bare,%[λ b o e n hb hx=>?_,λ b o e n hb hx=>?_,I.base.free,λ b o e hx=>?_,I.base.tups,I.base.frzs|I.base.tbls],%[_,hn'|λ j y v' e1 e2 e3=>?_],λ y c e=>?_,I.free,I.freeC,λ p hp=>?_,hok|by simpa using I.len]
 ·exact(hs.2 b (B9 (C1 (A8 e) I.ok.above))).trans (I.base.keep b o e n hb hx)
 ·obtain⟨sl,e1⟩:=I.base.slot b o e n hb hx;exact%[sl|(hs.2 b (B9 (C1 (A8 e) I.ok.above))).trans e1]
 ·obtain⟨o',e1⟩:=I.base.there b o e hx;exact%[o'|(hs.2 b (B9 (C1 (A8 e) I.ok.above))).trans e1]
 ·have hj:j≠i:=λ z=>by
   subst z;have hiσ:j < σ.length:=by rw[I.len];exact(A5.mp hi).1
   rw[List.getElem?_set_self hiσ]at e2;cases e2
  rw[List.getElem?_set_ne (Ne.symm hj)]at e2;obtain⟨u',r',q⟩:=hl j y v' e1 e2 e3;refine%[u',r'|?_];rcases q with⟨k,e⟩ | ⟨k,c,e,z⟩
  ·refine .inl %[k|?_];have:y≠x:=λ e=>hj (ix hN e1 (e ▸ hi));simp[this,e]
  ·exact .inr %[k,c,e|z.sameBut hs (cne y c e)]
 ·obtain⟨v',z⟩:=I.cell y c e;exact%[v'|z.sameBut hs (cne y c e)]
 ·obtain⟨e,n,ne,nf,d⟩:=I.pin p hp;exact%[(hs.2 p.1 ne).trans e,n,ne,nf|d]
end
def IsA(a:OE)(C:F9)(h:Heap):Prop:=∃o,h.get? a=some o/\o.cls=C/\True
theorem IsA.of{a:OE}{C:F9}{h:Heap}(x:∃o,h.get? a=some o/\o.cls=C)(q:Q2 a h):IsA a C h:=by obtain⟨o,e,c⟩:=x;exact%[o,e,c|trivial]
theorem IsA.obj{P:F6}{w:F8}{H:Hp}{h:Heap}{a:OE}{C:F9}(x:IsA a C h):ObjOk P w H h a (.ext (IsA a C)):=by obtain⟨o,e,c⟩:=id x;exact%[x,%[o|e]|λ h1 h2 ⟨o',e',c'⟩ k=>%[o',k o' e'|c']]
structure RoomH(k:Nat)(A:Around):Prop where
 dp:A.depth+3 * k+5 < recursionLimit
 un:A.units+16 * k+200 < cLine
theorem Room.h{k:Nat}{A:Around}(r:Room k A)(v:OG F9):RoomH k (A.mark v):=%[r.dp|r.un]
theorem RoomH.deeper{k:Nat}{A:Around}(r:RoomH (k+1) A)(env:Env):RoomH k (A.deeper env) :=
 %[by have:=r.dp;show A.depth+1+3 * k+5 < _;lia|by have:=r.un;show A.units+3+16 * k+200 < _;lia]
structure FnH(P:Program)(w:World)(K:C4)(mg:Str->OG Value)(base:Heap)(k:Nat)(f:OE)(fd:FuncData)(ps:OI Str)(sp:Sp):Prop where
 len:∀vs H Q E,sp vs H Q E->vs.length=ps.length
 run:∀(A:Around)(outer:OI Env)(s:F5)(H:Hp)(args:Args)(us:OI F9)(vs:OI V)(Q:VK)(E:XK),RoomH k A->Env0 P w K mg base A outer s H->BindsTo s fd args (ps.zip us)->Vals vs us->sp vs H Q E ->
  codeAny (model P w) A (.call (.ref f) args) (CR CX0 outer P w H s Q E) s
def cxH(P:F6)(w:F8)(K:C4)(mg:Str->OG F9)(base:Heap)(N:OI Str)(qual:Str)(scope:Scope)(f:OE)(cd:F9)(A:Around)(outer:OI Env)(s:F5)(H:Hp):Cx :=
 { bJ CX0 P w K mg base N qual scope f cd A outer s H E0 with calm:=false,xe:=λ _ _=>False }
theorem zj{P:F6}{w:F8}{K:C4}{mg:Str->OG F9}{base:Heap}{k:Nat}{f:OE}{x qual:Str}{st:Stmt}{fd:F7}{N ps:OI Str}{sp:Sp}(F:Fun K x qual st f fd)(S:FnScope N ps (defScope st))
  (len:∀vs H Q E,sp vs H Q E->vs.length=ps.length)
  (hbody:∀(cdv:F9)(A:Around)(outer:OI Env)(s:F5)(H:Hp)(vs:OI V)(Q:VK)(E:XK),RoomH k (A.deeper (envOfC qual (defScope st) s.heap.objs.size f cdv))->sp vs H Q E ->
   ∃t,PSs (cxH P w K mg base N qual (defScope st) f cdv A outer s H) (defBody st) t/\t { nx:=λ _ H'=>Q .non H',rt:=Q } (dI N vs) H):FnH P w K mg base (k+1) f fd ps sp:=by
 obtain⟨oc,od,kV,doc,pm,an,cdv,ct,osl,rfl,lk,hcd⟩:=F.ex;refine%[len|λ A outer s H args us vs Q E hr e0 hb r hsp=>?_];have hl:=len _ _ _ _ hsp;have KX:K.In s.heap:=e0.mod.kin.keeps λ b o e=>(e0.bs b o e).1;have lim:s.heap.NoLimit:=e0.mod.nolimit.keeps λ b o e=>(e0.bs b o e).1;have hkind:∀y∈ps.zip us,(defScope st).names.lookup y.1=some .local\/((defScope st).names.lookup y.1=some .cell/\((cellsFrom (s.heap.objs.size+1) (defScope st).names []).lookup y.1).isSome=true):=λ⟨n,v⟩ hy=>by
  rcases S.par n (OA hy).1 with q | q
  ·exact .inl q
  ·exact .inr %[q|PySem.W.cellsFrom_some _ _ _ (.inl q)]
 have dep:A.depth < recursionLimit:=by have:=hr.dp;lia
 refine codeAny_call_function dep (KX _ _ lk) rfl S.co S.gen rfl (PySem.W.codeRec_of KX hcd) (hb _ _ _ _ ?_);refine wpAny_newFunctionEnv_cells S.kind hkind λ env he s1 x=>?_;subst he;refine%[lim.keeps x.toInCall.keep|codeAny_func ?_];obtain⟨t,ht,hq⟩:=hbody cdv A outer s H vs Q E (hr.deeper _) hsp;have e0':Env0 P w K mg base { A with handled:=none } outer s H:=%[e0.frames,e0.mod,e0.bs,e0.bsz,e0.funs,e0.frf,e0.hok|e0.bare]
 have J:Inv (bJ CX0 P w K mg base N qual (defScope st) f cdv { A with handled:=none } outer s H E0) [] (dI N vs) H s1:=jz S rfl e0' hl r x;have I:Inv (cxH P w K mg base N qual (defScope st) f cdv A outer s H) [] (dI N vs) H s1 :=
  ⟨%[J.ok.mod,J.ok.kind,J.ok.glob,J.ok.blt,J.ok.above,J.ok.inj,J.ok.has,J.ok.cab,λ z=>absurd (show false=true from z) B1,Around.frames_deeper e0.frames,J.ok.stk,J.ok.exf,J.ok.bs,J.ok.bsz,J.ok.noex,J.ok.exfs,J.ok.funs|J.ok.frf],
   J.os,J.bare,J.base,J.loc,J.cell,J.free,J.freeC,J.pin,J.hok,J.len⟩
 refine OU (ht [] s1 (dI N vs) H _ I hq) (λ fl s' hs=>?_) λ e s' hs=>E5 hs;have fin:∀{σ':St}{H':Hp}{v:V}{u:F9},Inv (cxH P w K mg base N qual (defScope st) f cdv A outer s H) [] σ' H' s'->RelV v u->Q v H'->CE outer P w H s Q u s' :=
  λ {σ' H' v u} J rv q=>%[v,H',J.os,J.bare,J.base,J.hok,rv|q]
 cases fl with
 | ret u=>
  obtain⟨v,σ',H',J,rv,q⟩:=hs;exact fin J rv q
 | next=>
  obtain⟨σ',H',J,q⟩:=hs;exact fin (v:=V.non) (u:=Value.none) J rfl q
 | brk=>
  obtain⟨_,_,_,q⟩:=hs;exact E5 q
 | cont=>
  obtain⟨_,_,_,q⟩:=hs;exact E5 q
def DnH(P:F6)(w:F8)(K:C4)(mg:Str->OG F9)(base:Heap)(x:Str)(ps:OI Str)(k:Nat)(sp:Sp):Prop :=
 ∃(f:OE)(fd:F7),FnH P w K mg base k f fd ps sp/\Binds K fd ps []/\PySem.W.keepIn K (.ref f)=true/\mg x=↑f
theorem El{X:Cx}{k:Nat}{ps:OI Str}{sp:Sp}{x:Str}{p pos:Pos}{e:Expr}{es:OI Expr}{t:TA}(D:DnH X.prog X.w X.K X.mg X.base x ps k sp)(hr:RoomH k X.A)(hg:Gl X x)(ha:PA X (e :: es) t)
  (hdb:(x == ("__debug__" : Str))=false:=by decide) (he:starEach (e :: es) X.env=(false,eval e X.env) :: starEach es X.env:=by rfl) (hpl:(backTo pos (starEach es X.env)).any (·.1)=false:=by rfl) :
  PE X (.Call (.Name x p) (e :: es) [] pos) (sS sp [] E0 t):=by
 obtain⟨f,fd,F,hb,hk,hm⟩:=D;intro OK s σ H Q I h;refine Oo (dB I hg hm ?_ hdb);refine PySem.W.callWith_K (h₀:=X.base) I.ok.mod.kin hk (thn (ha pos OK s σ H _ I h) λ us s1 %[vs,H1,I1,r|q]=>%[I1.kIn|?_]) he hpl;have q:sp (vs ++ []) H1 Q E0:=q;rw[J7]at q;have hl:(us ++ []).length=ps.length:=by rw[J7,<- r.length];exact F.len _ _ _ _ q
 have b:=hb s1 us I1.kIn hl;rw[J7]at b;refine wpAny_call (Oz (F.run X.A X.stack s1 H1 %[us|[]] us vs Q E0 hr I1.env0 b r q) λ r s' hq=>?_);cases r with
 | error e=>exact E5 hq
 | ok fl=>
  cases fl with
  | ret u=>exact I1.after hq
  | next=>exact E5 hq
  | brk=>exact E5 hq
  | cont=>exact E5 hq
end L2
namespace PySem
open Sem (wp)
open PySem.W (Frag Looks looks_findIn looks_subIn)
structure ExK(K:Frag)(C:OE):Prop where
 lkC:PySem.W.findIn K (.ref C) "__class__" = some (some (.builtin "object.__class__"))
 lkG:PySem.W.findIn K (.ref C) "__getattribute__" = some (some (.builtin "BaseException.__getattribute__"))
 lkA:PySem.W.findIn K (.ref C) "__getattr__" = some none
 subB:PySem.W.subIn K (.ref C) (.type "BaseException")=some true
 subO:PySem.W.subIn K (.ref C) (.type "object")=some true
 cls:(PySem.W.clsIn K C).isSome=true
section
variable{prog:F6}{w:F8}{A:Around}{E:F9->F5->Prop}{h:Heap}{g:OH GenState}{d:Drawn}{t:Nat}{os:OsState}{a:OE}{o:Obj}{K:Frag}{C:OE}
theorem mO{R:Result->F5->Prop}(X:K.In h)(F0:ExK K C)(hx:h.get? a=some o)(hc:o.cls=.ref C)(hq:R (.ok (.ret (.ref C))) %[h,g,d,t|os]) :
  codeAny (model prog w) A (.call (.builtin "getset_descriptor.__get__") %[[.builtin "object.__class__",.ref a,.ref C]|[]]) R %[h,g,d,t|os]:=by
 have hT5:(%[h,g,d,t|os]:F5).TypeIs (.builtin "object.__class__") "getset_descriptor" := F.typeOf_object_class;have L:Looks (model prog w) h (isSubtype (.ref C) (.type (".".intercalate ("object.__class__".cutAt '.').dropLast))) true:=by rw[F.owner_object_class];exact looks_subIn X F0.subO
 refine codeAny_call_builtin F.slot_gs_get.plain F.entry_gs_get (F.slot_gs_get.check _ _ _ _ _ _ _ _ hT5 (F.args_gs_get _ _ _) ?_)
 repeat (any_goals (first | assumption | (with_reducible refine wpAny_loadPart_at hx ?_;rw[hc]) | (with_reducible refine Looks.at L ?_) | wp_step))
 refine%[Code.quiet_builtin _ ∅|codeAny_builtin F.entry_object_class ?_]
 repeat (any_goals (first | assumption | (with_reducible refine wpAny_loadPart_at hx ?_;rw[hc]) | wp_step))
theorem kC{tk:Tok}{Q:Fin->F5->Prop}(X:K.In h)(F0:ExK K C)(hx:h.get? a=some o)(hc:o.cls=.ref C)(hq:Q (.done (.ret (.ref C))) %[h,g,d,t|os]) :
  wpAny (model prog w) A (Builtin.«object.__getattribute__» %[[.ref a,.str "__class__" tk]|[]]) Q E %[h,g,d,t|os]:=by
 have hT5:(%[h,g,d,t|os]:F5).TypeIs (.builtin "object.__class__") "getset_descriptor" := F.typeOf_object_class;have f5:=F.typeOf_object_class;have f6:=F.slot_gs_get.lookup;have f7:=F.slot_gs_set.lookup;have L:Looks (model prog w) h (typeLookup (.ref C) "__class__") _:=looks_findIn X F0.lkC
 repeat (any_goals (first | assumption | (with_reducible refine wpAny_loadPart_at hx ?_;rw[hc]) | (with_reducible refine Looks.at L ?_) | wp_step))
 refine mO X F0 hx hc ?_
 repeat (any_goals (first | assumption | wp_step))
theorem qB{nameV:F9}{Q:Unit->F5->Prop}(X:K.In h)(F0:ExK K C)(hx:h.get? a=some o)(hc:o.cls=.ref C)(hq:Q () %[h,g,d,t|os]) :
  wpAny (model prog w) A (checkBuiltinCall "BaseException.__getattribute__" %[[.ref a,nameV]|[]]) Q E %[h,g,d,t|os]:=by
 have hk:builtinKind "BaseException.__getattribute__" = some .slot:=∅
 have hsplit:splitId "BaseException.__getattribute__" = some ("BaseException","__getattribute__"):=∅
 have L:Looks (model prog w) h (isSubtype (.ref C) (.type "BaseException")) true:=looks_subIn X F0.subB;have ha:=F.args_bexc_ga (.ref a) nameV;simp only[checkBuiltinCall,hk,hsplit];refine A0 ?_
 ·unfold isInstance
  repeat (first | (with_reducible refine wpAny_loadPart_at hx ?_;rw[hc]) | (with_reducible refine Looks.at L ?_) | wp_step)
  exact hq
theorem lE{tk:Tok}{R:Result->F5->Prop}(X:K.In h)(F0:ExK K C)(hx:h.get? a=some o)(hc:o.cls=.ref C)(hq:R (.ok (.ret (.ref C))) %[h,g,d,t|os]) :
  codeAny (model prog w) A (.call (.builtin "BaseException.__getattribute__") %[[.ref a,.str "__class__" tk]|[]]) R %[h,g,d,t|os] :=
 codeAny_call_builtin F.attrBase_ValueError.ga.plain F.entry_bexc_ga (qB X F0 hx hc (kC X F0 hx hc hq))
theorem qD{tk:Tok}{Q:F9->F5->Prop}(X:K.In h)(F0:ExK K C)(hx:h.get? a=some o)(hc:o.cls=.ref C)(hq:Q (.ref C) %[h,g,d,t|os]) :
  wpAny (model prog w) A (getAttrBy (.ref a) (.str "__class__" tk) false) Q E %[h,g,d,t|os]:=by
 have LG:Looks (model prog w) h (typeLookup (.ref C) "__getattribute__") _:=looks_findIn X F0.lkG;have LA:Looks (model prog w) h (typeLookup (.ref C) "__getattr__") _:=looks_findIn X F0.lkA;have f3:=F.attrBase_ValueError.ga.bind (.ref a);have hx2:(Value.builtin "BaseException.__getattribute__" == Value.builtin "object.__getattribute__")=false:=∅
 have hx1:(onTheHeap (Value.ref C) && Value.builtin "BaseException.__getattribute__" == Value.builtin "object.__getattribute__")=false:=by rw[hx2];rfl
 repeat (any_goals (first | assumption | (with_reducible refine wpAny_loadPart_at hx ?_;rw[hc]) | (with_reducible refine Looks.at LG ?_) | (with_reducible refine Looks.at LA ?_) | wp_step))
 refine lE X F0 hx hc ?_
 repeat (any_goals (first | assumption | wp_step))
theorem lF{Q:OG F9->F5->Prop}(X:K.In h)(F0:ExK K C)(hx:h.get? a=some o)(hc:o.cls=.ref C)(hq:Q (↑C) %[h,g,d,t+1|os]) :
  wpAny (model prog w) A (getAttr? (.ref a) "__class__") Q E %[h,g,d,t|os]:=by
 unfold getAttr? getAttrBy?
 repeat (any_goals (first | assumption | with_reducible apply qD X F0 hx hc | wp_step))
end
end PySem
namespace L2
open PySem PySem.Spec PyProof.Rows
theorem pd{K:C4}{x C:OE}(F0:ExK K C):PySem.W.KitX K (.ref x) (.ref C) (IsA x (.ref C)) where
 ty:=λ M h _ ⟨o,e,c,_⟩=>by have L:PySem.W.Looks M h (typeOf (.ref x)) o.cls:=(PySem.W.Looks.ld e).andThen .now;rw[c]at L;exact L
 it:=λ _ _ X _=>by
  have z:=F0.cls;unfold PySem.W.clsIn at z
  split at z
  ·rename_i c' d' cd' sl' ho
   intro A' Q' E' s' k q;unfold isType loadHead;exact A0 (wpAny_loadPart (k _ _ (X _ _ ho)) (A1 q))
  ·cases z
 ne:=λ h tp dd its n sl X htp=>by
  have z:=F0.cls;refine Bool.eq_false_iff.mpr λ q=>?_;have e:C=tp:=Value.ref.inj (C3.mp q);subst e;unfold PySem.W.clsIn at z
  split at z
  ·rename_i c' d' cd' sl' ho
   have z:=(X _ _ ho).symm.trans htp;cases z
  ·cases z
 ca:=λ {_ _ _ _ _ s} X p k=>by obtain⟨h,g,d,t,os⟩:=s;obtain⟨o,e,c,_⟩:=p;exact lF X F0 e c k
section
variable{X:Cx}
theorem cT{C:OE}(F0:ExK X.K C):ck X (.builtin "isinstance") (λ xs H Q=>∃a cv c b,xs=[.ref a,cv]/\H a=some (.ext (IsA a (.ref C)))/\clV cv=some c/\PySem.W.kitOne X.K (.ref C) c=some b/\Q (.bl b) H):=by
 intro OK s σ H xs us Q I rv h;obtain⟨a,cv,c,b,rfl,ha,e1,e2,q⟩:=h;cases rv with
 | cons r1 rr=>
  cases rr with
  | cons r2 rr=>
   cases rr;cases r1;rw[clV.rel e1 r2];exact PySem.W.kia_one (pd F0) I.kIn (I.hok a _ ha).1 e2 (λ z=>nomatch z) λ tk=>%[.bl b,H,I.tok tk,O|q]
theorem fJ{C:OE}(F0:ExK X.K C):ck X (.builtin "isinstance") (λ xs H Q=>∃a p cvs cs b,xs=[.ref a,.ref p]/\H a=some (.ext (IsA a (.ref C)))/\H p= ~~~cvs/\clVs cvs=some cs/\PySem.W.kitAny X.K (.ref C) cs=some b/\Q (.bl b) H):=by
 intro OK s σ H xs us Q I rv h;obtain⟨a,p,cvs,cs,b,rfl,ha,hp,e1,e2,q⟩:=h;cases rv with
 | cons r1 rr=>
  cases rr with
  | cons r2 rr=>
   cases rr;cases r1;cases r2;obtain⟨_,its,rits,o,ho,hc,n,hd⟩:=I.hok p _ hp;obtain⟨oc,od,dt,osl⟩:=o
   replace hc:oc=.type "tuple" := hc
   replace hd:dt=.seq its.toArray n:=hd
   subst hc hd;have e3:=clVs.rel e1 rits;subst e3;exact PySem.W.kia_tup (pd F0) I.kIn (I.hok a _ ha).1 ho e2 (λ z=>nomatch z) λ tk=>%[.bl b,H,I.tok tk,O|q]
end
end L2
namespace PySem
open Sem (wp)
open AutoSeq1 (wpAny_loadPart')
section
variable{prog:F6}{w:F8}{A:Around}{E:F9->F5->Prop}{s:F5}
theorem hJ{it t:OE}{i:Nat}{items}{x:F9}{Q:F9->F5->Prop}(hit:s.heap.IsTupleIter it t i)
  (ht:s.heap.IsTuple t items) (hx:items[i]?=some x)
  (hQ:∀h',h'.IsTupleIter it t (i+1)->Heap.SameBut it s.heap h'->Q x { s with heap:=h' }) :
  wpAny (model prog w) A (Builtin.SmallTypes.nextOf (.ref it)) Q E s:=by
 obtain⟨o,ho,hc,hd⟩:=id hit;obtain⟨ol,hol,_,nl,hdl⟩:=ht;unfold Builtin.SmallTypes.nextOf;refine A0 (wpAny_callSpecial?_slot (name:=Str.ofString "__next__") hit.typeIs F.slot_tuple_iterator_next
  (F2 F.slot_tuple_iterator_next hit.typeIs F.entry_tuple_iterator_next ?_ (F.args_tuple_iterator_next_1 _)))
 show wpAny _ _ (field (.ref it) 0 >>= _) _ _ s;refine A0 (Ou ho hd (x:=.ref t) rfl ?_);show wpAny _ _ (if (Value.ref t == Value.none)=true then _ else _) _ _ s;rw[OQ (show¬ ((Value.ref t == Value.none)=true)from B1)];show wpAny _ _ (field (.ref it) 1 >>= _) _ _ s;refine A0 (Ou ho hd (x:=.int i 0) rfl ?_);show wpAny _ _ (seqItems? (.ref t) >>= _) _ _ s;refine A0 (wpAny_seqItems hol hdl ?_);simp only[M1,hx];refine A0 (wpAny_setField ho hd (by simp) (A1 %[x,rfl|A1 (hQ _ ?_ (Heap.SameBut.update ..))]));exact⟨_,Heap.get?_update_self _ ho (Obj.isFreed_of_fields (Obj.data_mapFields hd _)),(Obj.cls_mapFields ..).trans hc,by
  rw[Obj.data_mapFields hd];simp[rawInt]⟩
theorem eR{it t:OE}{i:Nat}{items}{Q:F9->F5->Prop}(hh:A.handled=none)
  (hit:s.heap.IsTupleIter it t i) (ht:s.heap.IsTuple t items) (hx:items[i]?=none)
  (hE:∀h' e,Heap.ExtBut it s.heap h'->(∃o,h'.get? e=some o/\o.cls=.type "StopIteration")->E (.ref e) { s with heap:=h' }) :
  wpAny (model prog w) A (Builtin.SmallTypes.nextOf (.ref it)) Q E s:=by
 obtain⟨o,ho,hc,hd⟩:=id hit;obtain⟨ol,hol,_,nl,hdl⟩:=ht;unfold Builtin.SmallTypes.nextOf;refine A0 (wpAny_callSpecial?_slot (name:=Str.ofString "__next__") hit.typeIs F.slot_tuple_iterator_next
  (F2 F.slot_tuple_iterator_next hit.typeIs F.entry_tuple_iterator_next ?_ (F.args_tuple_iterator_next_1 _)))
 show wpAny _ _ (field (.ref it) 0 >>= _) _ _ s;refine A0 (Ou ho hd (x:=.ref t) rfl ?_);show wpAny _ _ (if (Value.ref t == Value.none)=true then _ else _) _ _ s;rw[OQ (show¬ ((Value.ref t == Value.none)=true)from B1)];show wpAny _ _ (field (.ref it) 1 >>= _) _ _ s;refine A0 (Ou ho hd (x:=.int i 0) rfl ?_);show wpAny _ _ (seqItems? (.ref t) >>= _) _ _ s;refine A0 (wpAny_seqItems hol hdl ?_);simp only[M1,hx];refine A0 (O2 (A0 (wpAny_setField ho hd (by simp) ?_)));show wpAny _ _ (newExc (.type "StopIteration") [] >>= _) _ _ _;refine A0 ?_;simp only[newExc,newTuple];refine A0 (F3 ?_ (by size_fits));refine A0 (m:=firstArgMember _ _) (wpAny_of_eq (a:=Value.none) (by first | rfl | (simp only[firstArgMember];rfl)) ?_);refine F3 ?_ (by size_fits);simp only[raiseNew];refine A0 (wpAny_handled ?_)
 first | rw[show A.in1.handled=none from hh] | rw[hh]
 refine A0 (A1 (wpAny_throw ?_));exact hE _ _ (((Heap.SameBut.update ..).extBut.push _).push _) %[_,A7 _ rfl|rfl]
end
theorem tJ{prog:F6}{w:F8}{A:Around}(hh:A.handled=none)(it l:OE)(hne:l≠it)(items:OH F9) :
  Draws prog w A it [it,l] items.size (λ i v=>items[i]?=some v) (λ i h=>h.IsTupleIter it l i/\h.IsTuple l items) where
 live:=λ _ _ st=>let ⟨o,ho,_⟩:=st.1;%[o|ho]
 frame:=λ _ _ _ st hk=>%[st.1.at λ o e=>hk it (by simp) o e|let ⟨o,ho,r⟩:=st.2;%[o,hk l (by simp) o ho|r]]
 item:=λ i s Q E hi st hQ=>by refine hJ st.1 st.2 (x:=items[i]) (by simp[hi]) λ h' hit' hs'=>?_;exact hQ _ h' s.toks (by simp[hi]) %[hit'|st.2.extBut hs'.extBut hne] hs'
 done:=λ s Q E st hE=>eR hh st.1 st.2 (by simp) hE
theorem iM(l:OE)(items:OH F9)(n:Nat)(dct:OG OE)(sl:OH (OG F9)) :
  Meets (Builtin.«enumerate.__new__» %[[.type "enumerate",.ref l]|[]]) (λ _ R s=>s.heap.get? l=some { cls:=.type "tuple",dict:=dct,data:=.seq items n,slots:=sl } /\
   R (.ok (.ret (.ref (s.heap.push { cls:=.type "tuple_iterator",data:=.fields #[.ref l,.int 0 0] }).objs.size)))
    { s with heap:=(s.heap.push { cls:=.type "tuple_iterator",data:=.fields #[.ref l,.int 0 0] }).push { cls:=.type "enumerate",data:=.fields #[.none,.bool false,.ref s.heap.objs.size,rawInt 0,.none,.none] } }) :=
 .of_wp λ prog w A R s h=>by
  obtain⟨hp,g,d,tk,os⟩:=s;obtain⟨hl,h⟩:=h;have hsub:=sub_enumerate;have hL:Heap.IsTuple (Shared.heap %[hp,g,d,tk|os]) l items:=%[_,hl,O,n|O]
  wp_walk using OY hl
  refine wpAny_stack_any λ st=>A1 ?_
  split
  ·rename_i c _ _ _ _ _
   cases(c == Value.type "enumerate")
   ·wp_walk using OY hl,wpAny_pyIter_tuple hL
    exact%[_,O|h]
   ·wp_walk using OY hl,wpAny_pyIter_tuple hL
    exact%[_,O|h]
  ·wp_walk using OY hl,wpAny_pyIter_tuple hL
   exact%[_,O|h]
section
variable{prog:F6}{w:F8}{A:Around}{E:F9->F5->Prop}{s:F5}
theorem fU{l:OE}{items:OH F9}{Q:F9->F5->Prop}(hL:s.heap.IsTuple l items)
  (h:∀h',IsEnum h' (s.heap.objs.size+1) s.heap.objs.size 0 .none->h'.IsTupleIter s.heap.objs.size l 0->h'.objs.size=s.heap.objs.size+2 ->
   (∀b o,s.heap.get? b=some o->h'.get? b=some o)->Q (.ref (s.heap.objs.size+1)) { s with heap:=h' }) :
  wpAny (model prog w) A (call (.type "enumerate") [.ref l]) Q E s:=by
 obtain⟨⟨c,dct,dt,sl⟩,hl,hc,n,hd⟩:=hL
 replace hc:c=.type "tuple" := hc
 replace hd:dt=.seq items n:=hd
 subst hc hd;refine callType_new F.called_enumerate ∅ (F.typeCall_enumerate_1 _) (F.newCall_enumerate_1 _) (λ obj=>F.args_object_init_2 obj _) F.entry_enumerate_new
  (iM l items n dct sl) %[hl|?_]
 have hz:(s.heap.push { cls:=.type "tuple_iterator",data:=.fields #[.ref l,.int 0 0] }).objs.size=s.heap.objs.size+1:=Heap.size_push ..;show _/\_;rw[hz];have he:IsEnum ((s.heap.push { cls:=.type "tuple_iterator",data:=.fields #[.ref l,.int 0 0] }).push
   { cls:=.type "enumerate",data:=.fields #[.none,.bool false,.ref s.heap.objs.size,rawInt 0,.none,.none] }) (s.heap.objs.size+1) s.heap.objs.size 0 .none:=by
  have:=A7 (s.heap.push { cls:=.type "tuple_iterator",data:=.fields #[.ref l,.int 0 0] })
   (o:={ cls:=.type "enumerate",data:=.fields #[.none,.bool false,.ref s.heap.objs.size,rawInt 0,.none,.none] }) rfl
  rw[hz]at this;exact this
 refine%[%[_,he|O]|h _ he %[_,A6 _ (A7 _ rfl),O|O] (by rw[Heap.size_push,hz]) λ b o x=>A6 _ (A6 _ x)]
end
end PySem
namespace L2
open PySem PySem.Spec PyProof.Rows
def Ite(f:OI V->HO)(l:OE):It :=
  ⟨λ i H=>∃xs x,H l=some (f xs)/\xs[i]?=some x,
   λ i H v H'=>∃p xs x,H p=none/\v=.ref p/\H'=upd H p (.tup [.int i,x])/\H l=some (f xs)/\xs[i]?=some x,
   λ i H=>∃xs,H l=some (f xs)/\xs.length<=i⟩
section
variable{X:Cx}{OK:OI (OE×Obj)}{σ:St}{H:Hp}{s:F5}
theorem jG{f:OI V->HO}{tn:Nat->Heap->Prop}{es:OI Expr}{kk:Nat}{tp:Pos}{e it l:OE}{i:Nat}{xs:OI V}{x:V}{u:F9}{tk:Nat}{h':Heap}{E:F9->F5->Prop}(hne:e≠it)(I:Inv X OK σ H s)(hf:∀b∈[e,it],eK X OK H b)(hl:H l=some (f xs))(hx:xs[i]?=some x)
  (ho:∀b∈[e,it],b < s.heap.objs.size) (r:RelV x u) (b1:IsEnumOut h' e it ((i:Int)+1) u s.heap.objs.size) (b3:h'.get? s.heap.objs.size=some { cls:=.type "tuple",data:=.seq #[.int i tk,u] })
  (bk:∀b o,b≠e->b≠it->s.heap.get? b=some o->h'.get? b=some o) (hn:∀h'',IsEnum h'' e it ((i+1:Nat):Int) u->Heap.SameBut e h' h''->tn (i+1) h'') :
  wpAny (model X.prog X.w) X.A (letOwnedTupleGo (.Tuple es kk tp) (.ref e) (.ref s.heap.objs.size)) (λ _ s2=>∃x H',Inv X OK σ H' s2/\RelV x (.ref s.heap.objs.size)/\(Ite f l).yld i H x H'/\tn (i+1) s2.heap/\∀b∈[e,it],H' b=none) E { s with heap:=h',toks:=tk+1 }:=by
 refine wpAny_letOwnedTupleGo_enum b1 λ h'' c1 cs=>?_;have es':e < s.heap.objs.size:=ho e (by simp);have k2:∀b o,b∉[e,it]->s.heap.get? b=some o->h''.get? b=some o:=λ b o hb q=>by simp only[G6,J0,OZ,not_or]at hb;exact cs.extBut b o hb.1 (bk b o hb.1 hb.2 q)
 have I1:Inv X OK σ H { s with heap:=h'',toks:=tk+1 }:=I.turnedN (t':=tk+1) hf k2;have hp:h''.get? s.heap.objs.size=some { cls:=.type "tuple",data:=.seq #[.int i tk,u] }:=cs.extBut _ _ (Nat.ne_of_gt es') b3;have hn0:H s.heap.objs.size=none:=I.hok.fresh (B2 _);have fpk:=I.fpOk (H':=H) (B2 _) hn0;have I2:Inv X OK σ (upd H s.heap.objs.size (.tup [.int i,x])) { s with heap:=h'',toks:=tk+1 }:=I1.track fpk I.sz %[by show 2<=sizeLine;decide,[.int i tk,u],.cons %[tk|O] (.cons r .nil),_,hp,O,_|O];refine%[.ref s.heap.objs.size,_,I2,O,%[_,xs,x,hn0,O,O,hl|hx],hn h'' c1 cs|λ b hb=>?_];rw[au (B9 (ho b hb))];exact(hf b hb).1
end
theorem mQ{P:F6}{w:F8}{K:C4}{es:OI Expr}{kk:Nat}{tp:Pos}(l e it:OE)(hne:e≠it) :
  Turn P w K (.Tuple es kk tp) (Ite .lst l) [e,it] e (λ i h=>(∃old,IsEnum h e it i old)/\h.IsListIter it l i) where
 mem:=by simp
 obj:=λ i h st b hb=>by
  obtain⟨⟨old,a1⟩,⟨o2,a2,_,d2⟩⟩:=st;simp only[G6,J0,OZ]at hb;rcases hb with rfl | rfl
  ·exact%[_,a1|λ v q=>by cases q]
  ·exact%[_,a2|λ v q=>by rw[d2]at q;cases q]
 keep:=λ i h h' st k=>by obtain⟨⟨old,a1⟩,a2⟩:=st;exact%[%[old|k e (by simp) _ a1]|a2.at λ o q=>k it (by simp) o q]
 item:=by
  intro X hP hw hK hc i OK s σ H E I hf st hg;subst hP hw hK;obtain⟨⟨old,a1⟩,a2⟩:=st;obtain⟨xs,x,e1,ex⟩:=hg;obtain⟨its,rv,p1,_⟩:=I.list (G2 e1);obtain⟨u,hu,r⟩:=rv.get ex;have ho:∀b∈[e,it],b < s.heap.objs.size:=λ b hb=>by
   obtain⟨o2,a2',_⟩:=a2;simp only[G6,J0,OZ]at hb;rcases hb with rfl | rfl
   ·exact A8 a1
   ·exact A8 a2'
  refine wpAny_pyNext_enum_item a1 a2 p1.isList (x:=u) (by simpa using hu) hne λ h' b1 b2 b3 b4 bk=>%[_,O|?_]
  exact jG (tn:=λ i h=>(∃old,IsEnum h e it i old)/\h.IsListIter it l i) hne I hf e1 ex ho r b1 b3 bk λ h'' c1 cs=>%[%[u|c1]|b2.extBut cs.extBut (Ne.symm hne)]
 done:=by
  intro X hP hw hK hc i OK s σ H E I hf st hg;subst hP hw hK;obtain⟨⟨old,a1⟩,a2⟩:=st;obtain⟨xs,e1,ex⟩:=hg;obtain⟨its,rv,p1,_⟩:=I.list (G2 e1);have lv:=rv.length;refine wpAny_pyNext_enum_end (I.ok.hd hc) a1 a2 p1.isList (by simp;lia) λ h' bk=>%[O|?_]
  exact I.turnedN (t':=s.toks) hf λ b o hb q=>by simp only[G6,J0,OZ,not_or]at hb;exact bk b o hb.2 q
 self:=λ _ _ _ _ _ st h=>by obtain⟨⟨old,a1⟩,_⟩:=st;exact wpAny_pyIter_enum a1 h
theorem mR{P:F6}{w:F8}{K:C4}{es:OI Expr}{kk:Nat}{tp:Pos}(l e it:OE)(hne:e≠it) :
  Turn P w K (.Tuple es kk tp) (Ite .tup l) [e,it] e (λ i h=>(∃old,IsEnum h e it i old)/\h.IsTupleIter it l i) where
 mem:=by simp
 obj:=λ i h st b hb=>by
  obtain⟨⟨old,a1⟩,⟨o2,a2,_,d2⟩⟩:=st;simp only[G6,J0,OZ]at hb;rcases hb with rfl | rfl
  ·exact%[_,a1|λ v q=>by cases q]
  ·exact%[_,a2|λ v q=>by rw[d2]at q;cases q]
 keep:=λ i h h' st k=>by obtain⟨⟨old,a1⟩,a2⟩:=st;exact%[%[old|k e (by simp) _ a1]|a2.at λ o q=>k it (by simp) o q]
 item:=by
  intro X hP hw hK hc i OK s σ H E I hf st hg;subst hP hw hK;obtain⟨⟨old,a1⟩,a2⟩:=st;obtain⟨xs,x,e1,ex⟩:=hg;obtain⟨its,rv,p1,_⟩:=I.tuple (G1 e1);obtain⟨u,hu,r⟩:=rv.get ex;have lt:i < its.toArray.size:=by simp;exact(A5.mp hu).1
  have ho:∀b∈[e,it],b < s.heap.objs.size:=λ b hb=>by
   obtain⟨o2,a2',_⟩:=a2;simp only[G6,J0,OZ]at hb;rcases hb with rfl | rfl
   ·exact A8 a1
   ·exact A8 a2'
  have nl:∀b∈[e,it],l≠b:=λ b hb q=>by rw[q,(hf b hb).1]at e1;cases e1
  have p1':s.heap.IsTuple l its.toArray:=p1;have DD:Draws X.prog X.w X.A.in1 it [it,l] its.toArray.size (λ i v=>its.toArray[i]?=some v) (λ i h=>h.IsTupleIter it l i/\h.IsTuple l its.toArray):=tJ (show X.A.in1.handled=none from I.ok.hd hc) it l (nl it (by simp)) its.toArray;refine wpAny_pyNext_enum_itemD DD a1 %[a2|p1'] lt hne (by simp only[G6,J0,OZ,not_or];exact%[hne|Ne.symm (nl e (by simp))]) λ x' h' tk px b1 b2 b3 b4 bk=>%[_,O|?_]
  have hu':its.toArray[i]?=some u:=by simpa using hu
  have eu:u=x':=B8 (hu'.symm.trans px);subst eu;exact jG (tn:=λ i h=>(∃old,IsEnum h e it i old)/\h.IsTupleIter it l i) hne I hf e1 ex ho r b1 b3 bk λ h'' c1 cs=>%[%[u|c1]|b2.1.extBut cs.extBut (Ne.symm hne)]
 done:=by
  intro X hP hw hK hc i OK s σ H E I hf st hg;subst hP hw hK;obtain⟨⟨old,a1⟩,a2⟩:=st;obtain⟨xs,e1,ex⟩:=hg;obtain⟨its,rv,p1,_⟩:=I.tuple (G1 e1);have lv:=rv.length;have p1':s.heap.IsTuple l its.toArray:=p1;have hT:s.TypeIs (.ref e) "enumerate" := %[_,a1|O]
  unfold pyNext;refine A0 (wpAny_attempt (wpAny_callSpecial?_slot (name:=Str.ofString "__next__") hT F.slot_enumerate_next
   (F2 F.slot_enumerate_next hT F.entry_enumerate_next ?_ (F.args_enumerate_next_1 _))))
  show wpAny _ _ (field (.ref e) 2 >>= _) _ _ _;refine A0 (Ou a1 rfl (x:=.ref it) rfl ?_);refine A0 (eR (I.ok.hd hc) a2 p1' (by simp;lia) λ h' x he' hx'=>?_);obtain⟨o,ho,hc⟩:=hx';refine A0 (wpAny_isInstance (T := "StopIteration") (b:=true) %[o,ho|hc] isSubtype_stop ?_);refine A1 %[rfl|?_];exact I.turnedN (t':=s.toks) hf λ b o hb q=>by simp only[G6,J0,OZ,not_or]at hb;exact he' b o hb.2 q
 self:=λ _ _ _ _ _ st h=>by obtain⟨⟨old,a1⟩,_⟩:=st;exact wpAny_pyIter_enum a1 h
def Em(ta:TA):TI:=λ σ H R=>ta σ H λ vs H1=>∃l xs,vs=[.ref l]/\((H1 l=↥xs/\R (Ite .lst l) H1)\/(H1 l= ~~~xs/\R (Ite .tup l) H1))
theorem wk{X:Cx}{a:Expr}{ta:TA}{p pos tp:Pos}{es:OI Expr}{kk:Nat}(hg:Gl X "enumerate")(hm:X.mg "enumerate" = none)(ha:PA X [a] ta)
  (hs:starEach [a] X.env=[(false,eval a X.env)]:=by rfl) :
  PI X (.Tuple es kk tp) (.Call (.Name "enumerate" p) [a] [] pos) (Em ta):=by
 intro OK s σ H R I h;refine Call_ (gx I hg hm PyProof.Rows.boot_enumerate (Os (thn (ha pos OK s σ H _ I h) ?_) (by rw[hs];rfl) (by rfl)));rintro us s1 ⟨vs,H1,I1,r1,q1⟩;obtain⟨l,xs,rfl,q⟩:=q1;cases r1 with
 | cons r rr=>
  cases rr;cases r;rcases q with⟨e1,q⟩ | ⟨e1,q⟩
  ·obtain⟨its1,rv1,p1,_⟩:=I1.list (G2 e1);refine call_enumerate_list p1.isList λ h' z1 z2 sz keep=>?_;have I2:Inv X OK σ H1 { s1 with heap:=h' }:=I1.kept (t':=s1.toks) keep;refine wpAny_pyIter_enum z1 %[s1.heap.objs.size+1,[s1.heap.objs.size+1,s1.heap.objs.size],_,_,H1,rfl,I2,mQ l _ _ (Nat.succ_ne_self _),%[%[_|z1]|z2],λ b hb=>?_|q];have hb':s1.heap.objs.size<=b:=by simp only[G6,J0,OZ]at hb;rcases hb with rfl | rfl <;> lia
   exact I1.fpOk hb' (I1.hok.fresh hb')
  ·obtain⟨its1,rv1,p1,_⟩:=I1.tuple (G1 e1);have p1':s1.heap.IsTuple l its1.toArray:=p1;refine fU p1' λ h' z1 z2 sz keep=>?_;have I2:Inv X OK σ H1 { s1 with heap:=h' }:=I1.kept (t':=s1.toks) keep;refine wpAny_pyIter_enum z1 %[s1.heap.objs.size+1,[s1.heap.objs.size+1,s1.heap.objs.size],_,_,H1,rfl,I2,mR l _ _ (Nat.succ_ne_self _),%[%[_|z1]|z2],λ b hb=>?_|q];have hb':s1.heap.objs.size<=b:=by simp only[G6,J0,OZ]at hb;rcases hb with rfl | rfl <;> lia
   exact I1.fpOk hb' (I1.hok.fresh hb')
theorem tK{f:OI V->HO}(hf:∀xs ys,f xs=f ys->xs=ys){l:OE}{xs:OI V}{g:TG}{tb:TS}{D:Ends}{σ:St}{H:Hp}(Pv:Nat->St->Hp->Prop)(h0:Pv 0 σ H)(hk:∀i σ H',Pv i σ H'->H' l=some (f xs))
  (ht:∀i x p σ H,xs[i]?=some x->H p=none->Pv i σ H->g (.ref p) σ (upd H p (.tup [.int i,x])) λ σ2 H2=>tb { D with nx:=Pv (i+1),ct:=Pv (i+1),bk:=D.nx } σ2 H2) (hd:∀σ H,Pv xs.length σ H->D.nx σ H) :
  ∃W:Nat->Nat->St->Hp->Prop,(∃m,W 0 m σ H)/\∀i m σ H,W i m σ H ->
   ((Ite f l).stop i H/\D.nx σ H)\/((Ite f l).go i H/\∃N:St->Hp->Prop,(∀σ' H',N σ' H'->∃m',m' < m/\W (i+1) m' σ' H')/\∀x H',(Ite f l).yld i H x H'->g x σ H' λ σ2 H2=>tb { D with nx:=N,ct:=N,bk:=D.nx } σ2 H2):=by
 refine%[λ i m σ H=>m=xs.length - i/\i<=xs.length/\Pv i σ H,%[xs.length,by simp,E6 _|h0]|?_];rintro i m σ H ⟨rfl,hi,p⟩;have e1:=hk i σ H p
 by_cases hlt:i < xs.length
 ·refine .inr %[%[xs,xs[i],e1|by simp[hlt]],Pv (i+1),λ σ' H' p'=>%[xs.length - (i+1),⋯,O,hlt|p']|λ v H' y=>?_];obtain⟨q,xs',x,hq,rfl,rfl,e1',ex⟩:=y;rw[e1]at e1';cases hf _ _ (B8 e1');exact ht i x q σ H ex hq p
 ·have e:i=xs.length:=⋯
  subst e;exact .inl %[%[xs,e1|B2 _]|hd σ H p]
end L2
namespace Pc
open PySem L2
def bo(k:Kd):Bool:=k.tu && !decide (k.w=k.h)
def lyT(i:Nat)(k:Kd):OI (Nat×Bool):=(i,false) :: if bo k=true then[(i,true)]else[]
def lyK:OI Kd->Nat->OI (Nat×Bool)
 | [],_=>[]
 | k :: r,i=>lyT i k ++ lyK r (i+1)
theorem lG(k:Kd):∀(ks:OI Kd)(i:Nat),lyK (ks ++ [k]) i=lyK ks i ++ lyT (i+ks.length) k
 | [],i=>by simp[lyK]
 | c :: r,i=>by show lyT i c ++ lyK (r ++ [k]) (i+1)=(lyT i c ++ lyK r (i+1)) ++ _;rw[lG k r (i+1),N7];congr 2;simp only[I9];congr 1;lia
theorem wm(i:Nat)(k:Kd):(lyT i k).length<=2:=by unfold lyT;split <;> simp
theorem kD:∀(ks:OI Kd)(i:Nat),(lyK ks i).length<=2 * ks.length
 | [],i=>by simp[lyK]
 | c :: r,i=>by have:=kD r (i+1);have:=wm i c;simp only[lyK,G5,I9];lia
def lH(K:C4):Sp:=λ vs H Q _=>∃(a:OE)(k:Kd),vs=[.ref a]/\H a= ~~~(kdV k)/\Q (.bl (bo k)) H
def dF(ks:OI Kd)(x t:V):Bool:=match x,t with
 | .int i,.bl b=>decide (0<=i) && match ks[i.toNat]? with
  | some k=>!b || bo k
  | none=>false
 | _,_=>false
def fm(K:C4)(C:OE):Sp:=λ vs H Q _=>∃(s:OE)(b:Int)(ks:OI Kd)(x t:V)(T U:String),vs=[.ref s,x,t]/\ShopAt C H s b ks/\Ty K H x T/\Ty K H t U/\Q (.bl (dF ks x t)) H
end Pc
namespace L2
open PySem PySem.Spec PyProof.Rows
section
variable{X:Cx}
inductive rz_op_inD(K:C4)(x:V)(y:V)(H:Hp)(Q:VK):Prop
|mk(d xs:_)(_:DatV K H x d)(_:DatV K H y (.list xs))(_:SeqAt.shaped (.list xs)=true)(_:SeqAt.shaped d=true)(_:(∀y∈xs,SeqAt.noMix y d=true))(_:Q (.bl (decide (countIn d xs≠0))) H)
theorem tL{k:Nat}{C:OE}{ps:OI Str}{sp:Sp}{m:Str}{o:Expr}{e:Expr}{es:OI Expr}{ta:TE}{t:TA}{apos pos:Pos}{pl:Sem Bool}(he:PE X o ta)(c:Cls X.K C)(D:Mn X.prog X.w X.K X.mg X.base C m ps k sp)(hr:Room k X.A)(ha:PA X (e :: es) t)
  (hst:starEach (e :: es) X.env=(false,eval e X.env) :: starEach es X.env:=by rfl) (hpl:(backTo pos (starEach es X.env)).any (·.1)=false:=by rfl)
  (ht:eval (.Call (.Attribute o m apos) (e :: es) [] pos) X.env=(do
   let ov<-eval o X.env
   standAt apos.atName
   let (f,first)<-holding [ov] (getMethod ov m pl)
   callWith pos f first (backTo pos (starEach (e :: es) X.env)) (backToKw pos (keywordEach [] X.env))):=by rfl):PE X (.Call (.Attribute o m apos) (e :: es) [] pos) (oU C m sp [] E0 ta t):=by
 obtain⟨f,fd,F,hb,hm⟩:=D;exact vX he c hm F hr hb .nil lC ha hst hpl ht
theorem fV{pos:Pos}:PE X (.Dict [] [] pos) (λ _ H Q=>∀p,H p=none->Q (.ref p) (upd H p (.dK []))):=by intro OK s σ H Q I h;have hb:sysModules < s.heap.objs.size:=OD (show sysModules < OJ by decide) (I.mod.glob.keeps I.bk).lt;refine wpAny_Dict_empty %[.ref s.heap.objs.size,_,?_,rfl|h _ (I.hok.fresh (B2 _))];refine I.laid (a:=s.heap.objs.size) (o:=.dK []) (t':=s.toks) (λ _ _ q=>A6 _ q) (B2 _) ?_;exact%[E6 _,Ox.mpr (Nat.ne_of_gt hb),[],.nil|Heap.DictOf.new _]
end
section
variable{K:C4}{C X:OE}
theorem ic(h:ExcC K C):(PySem.W.clsIn K C).isSome=true/\PySem.W.typeIn K (.ref C)=some (.type "type"):=by
 unfold ExcC PySem.W.excIn at h
 split at h
 ·rename_i e
  refine%[?_|?_]
  ·unfold PySem.W.clsIn;rw[e]
   rfl
  ·show Option.map (λ x=>x.cls) (List.lookup C K)=_;rw[e]
   rfl
 ·cases h
theorem jH{t:F9}{b:Bool}(hx:ExcC K X)(s:PySem.W.subIn K t (.ref X)=some b):PySem.W.kitCls K t (.ref X)=some b:=by
 obtain⟨h1,h2⟩:=ic hx;unfold PySem.W.kitCls;simp only[h1,h2,s]
 rfl
theorem iN:PySem.W.kitOne K (.ref C) (.ref C)=some true:=by unfold PySem.W.kitOne;rw[OR (by simp)]
theorem zk{b:Bool}(hx:ExcC K X)(ne:¬ X=C)(s:PySem.W.subIn K (.ref C) (.ref X)=some b):PySem.W.kitOne K (.ref C) (.ref X)=some b:=by unfold PySem.W.kitOne;rw[OQ (λ z=>ne (Value.ref.inj (beq_iff_eq.mp z)).symm)];exact jH hx s
theorem fW(s0:PySem.W.subIn K (.ref C) (.ref C)=some true)(hx:ExcC K X)(s:PySem.W.subIn K (.ref C) (.ref X)=some false):PySem.W.kitOne K (.ref C) (.ref X)=some false :=
 zk hx (λ z=>by rw[z,s0]at s;cases s) s
theorem mS(s:PySem.W.subIn K (.ref C) (.type "ValueError")=some true):PySem.W.kitOne K (.ref C) (.type "ValueError")=some true:=by unfold PySem.W.kitOne;rw[OQ (λ z=>by cases(beq_iff_eq.mp z))];show(if PySem.W.kitMeta "ValueError" = true then PySem.W.subIn K (.ref C) (.type "ValueError")else none)=_;rw[OR (show PySem.W.kitMeta "ValueError" = true by decide +kernel)];exact s
theorem mU{t:F9}:PySem.W.kitAny K t []=some false:=rfl
theorem lI{t c:F9}{cs:OI F9}(h:PySem.W.kitOne K t c=some false)(r:PySem.W.kitAny K t cs=some false):PySem.W.kitAny K t (c :: cs)=some false:=by show(match PySem.W.kitOne K t c with | some true=>some true | some false=>PySem.W.kitAny K t cs | none=>none)=_;rw[h];exact r
theorem mV(hx:ExcC K X)(b:PySem.W.subIn K (.ref X) (.type "BaseException")=some true)(s:PySem.W.subIn K (.ref C) (.ref X)=some true):PySem.W.exmOne K (.ref C) (.ref X)=some true:=by unfold PySem.W.exmOne;rw[b,OR (show((some true == some true)=true)from rfl)];exact jH hx s
end
section
variable{X:Cx}
inductive rz_op_catT0(K:C4)(x:V)(y:V)(H:Hp)(Q:VK):Prop
|mk(a b ys:_)(_:x=.ref a)(_:y=.ref b)(_:SqT K H a [])(_:SqT K H b ys)(_:Q (.ref b) H)
theorem tM:OpR X (binaryOp .Add) (rz_op_catT0 X.K):=by
 intro OK s σ H x y v u Q I rx ry h;obtain⟨a,b,ys,rfl,rfl,ha,hb,q⟩:=h;cases rx;cases ry;obtain⟨its,r1,p1,_⟩:=I.tuple ha;obtain⟨its2,r2,p2,_⟩:=I.tuple hb;cases r1;obtain⟨⟨cls,dd,data,sl⟩,ho,hc,n,hd⟩:=p1;obtain⟨⟨cls2,dd2,data2,sl2⟩,ho2,hc2,n2,hd2⟩:=p2;simp only at hc hd hc2 hd2;subst hc hd hc2 hd2;exact concat_meets %[_,ho|rfl] %[_,ho2|rfl] noFill_tuple_add seq_tuple_add PySem.F.slot_tuple_add PySem.F.entry_tuple_add (PySem.F.args_tuple_add_2 _ _)
   (tuple_addW0 a b _ _ n n2 dd dd2 sl sl2 rfl) %[ho,ho2|%[.ref b,H,I,rfl|q]]
def tN:R2:=λ x y H Q=>∃a b xs ys,x=.ref a/\y=.ref b/\H a= ~~~xs/\H b= ~~~ys/\xs.length+ys.length<=sizeLine /\
 ∀m H',(H'=H/\(m=a\/m=b))\/(H m=none/\H'=upd H m (.tup (xs ++ ys)))->H' m= ~~~(xs ++ ys)->Q (.ref m) H'
theorem bE:OpR X (binaryOp .Add) tN:=by
 intro OK s σ H x y v u Q I rx ry h;obtain⟨a,b,xs,ys,rfl,rfl,ha,hb,hz,q⟩:=h
 by_cases hx:xs=[]
 ·subst hx;exact tM OK s σ H _ _ v u Q I rx ry %[a,b,ys,rfl,rfl,G1 ha,G1 hb|q b H (.inl %[rfl|.inr rfl]) hb]
 ·refine km OK s σ H _ _ v u Q I rx ry %[a,b,xs,ys,rfl,rfl,G1 ha,G1 hb,hx,hz,λ e=>?_|λ e p hp=>q p _ (.inr %[hp|rfl]) aj];subst e;exact q a H (.inl %[O|.inl rfl]) (by rw[J7];exact ha)
end
theorem fo(xs:OI V)(k:Nat):eE xs (some (k:Int)) none=xs.drop k:=by
 unfold eE;rw[HT.sIx_none,HT.sIx_nat];rcases Nat.le_total k xs.length with h | h
 ·rw[OB h,M2 (by rw[K0];exact B2 _)]
 ·rw[Nat.min_eq_right h,List.drop_of_length_le (B2 _),List.drop_of_length_le h,List.take_nil]
theorem pe:∀{ns:OI Int}{its:OI F9},Vals (ns.map V.int) its->IntsAre its ns
 | [],_,r=>by cases r;exact .nil
 | n :: ns,_,r=>by
  cases r with
  | cons r1 r2=>
   obtain⟨t,e⟩:=r1;subst e;exact .cons n t (pe r2)
section
variable{X:Cx}
inductive rz_call_divmodB(xs:OI V)(H:Hp)(Q:VK):Prop
|mk(i j:_)(_:xs=[.int i,.int j])(_:CDivB i j)(_:∀p,H p=none->Q (.ref p) (upd H p (.tup [.int (i / j),.int (i % j)])))
inductive rz_call_sortedI(K:C4)(xs:OI V)(H:Hp)(Q:VK):Prop
|mk(p:OE)(ns:OI Int)(_:xs=[.ref p])(_:SqL K H p (ns.map V.int))(_:ns.length < 64)(_:∀(l:OE)(ns':OI Int),H l=none->ns'.Perm ns->ns'.Pairwise (·<=·)->Q (.ref l) (upd H l (.lst (ns'.map V.int))))
inductive rz_call_sumI(K:C4)(xs:OI V)(H:Hp)(Q:VK):Prop
|mk(p:OE)(ns:OI Int)(_:xs=[.ref p])(_:SqL K H p (ns.map V.int))(_:Q (.int ns.sum) H)
theorem qF(hc:X.calm=true):ck X (.builtin "sum") (rz_call_sumI X.K):=by
 intro OK s σ H xs us Q I r h;obtain⟨p,ns,rfl,hs,q⟩:=h;obtain⟨u,rfl,rfl⟩:=gb r;obtain⟨its,rv,pl,_⟩:=I.list hs;have hi:=pe rv;obtain⟨xs,e⟩:=hi.allInts.items;have pl':=pl.isList;rw[e]at pl';refine sum_intListG (I.ok.hd hc) pl' λ h' tk t' hk=>?_;have e2:preSum (numAt xs) xs.size=ns.sum:=by rw[preSum_eq,M2 (by simp),<- nums_intItems,<- e,show its.toArray.toList=its from rfl,hi.numsOf]
 rw[e2];exact%[.int ns.sum,H,I.kept hk,%[_|O]|q]
theorem lJ:∀{bs:OI Bool}{its:OI F9},Vals (bs.map V.bl) its->its=bs.map Value.bool
 | [],_,r=>by cases r;rfl
 | b :: bs,_,r=>by
  cases r with
  | cons r1 r2=>
   have e:_=Value.bool b:=r1;subst e;rw[J4,lJ r2]
theorem qG(bs:OI Bool):(List.range bs.length).all (λ i=>bs.getD i false)=bs.all id:=by
 rw[N2,M9,M9];constructor
 ·intro h b hb;obtain⟨i,hi,e⟩:=List.getElem_of_mem hb;have:=h i (List.mem_range.mpr hi);rw[List.getD_eq_getElem?_getD,E9 hi]at this;simpa[e]using this
 ·intro h i hi;have hi':=List.mem_range.mp hi;rw[List.getD_eq_getElem?_getD,E9 hi'];exact h _ (List.getElem_mem hi')
inductive rz_call_allB(K:C4)(xs:OI V)(H:Hp)(Q:VK):Prop
|mk(p:OE)(bs:OI Bool)(_:xs=[.ref p])(_:SqL K H p (bs.map V.bl))(_:Q (.bl (bs.all id)) H)
theorem qH(hc:X.calm=true):ck X (.builtin "all") (rz_call_allB X.K):=by
 intro OK s σ H xs us Q I r h;obtain⟨p,bs,rfl,hs,q⟩:=h;obtain⟨u,rfl,rfl⟩:=gb r;obtain⟨its,rv,pl,_⟩:=I.list hs;have e:=lJ rv;subst e;have hlt:p < s.heap.objs.size:=by obtain⟨_,_,e,_⟩:=pl;exact A8 e
 refine call_all_walk (wpAny_pyIter_list pl.isList ?_);refine%[_,_,_,_,_,_,λ i=>bs.getD i false,O,Walks.list (A:=X.A.in1) (I.ok.hd hc) _ p (B9 hlt) _,%[%[_,A7 _ rfl,O|O]|pl.isList.push _],λ i v s' Q' E' hP hQ'=>?_|λ h' tk hk=>?_]
 ·have hP':(bs.map Value.bool)[i]?=some v:=by simpa using hP
  rw[N6]at hP';cases hb:bs[i]? with
  | none=>rw[hb]at hP';cases hP'
  | some b=>
   rw[hb]at hP';cases hP';have hQ2:Q' (bs.getD i false) s':=hQ';rw[List.getD_eq_getElem?_getD,hb]at hQ2;exact F1 hQ2
 ·have e2:((bs.map Value.bool).toArray.size)=bs.length:=by simp
  rw[e2,qG];refine%[.bl (bs.all id),H,I.kept (h':=h') (t':=tk) (λ b o e=>hk b o ?_ (A6 _ e)),O|q];intro z;rw[C9.mp z]at e;exact absurd (A8 e) (C8 _)
inductive rz_call_repr(K:C4)(xs:OI V)(H:Hp)(Q:VK):Prop
|mk(a d:_)(_:xs=[.ref a])(_:DatV K H (.ref a) d)(_:d.showable=true)(_:d.hasDict=false)(_:d.depth<=64)(_:d.shown.length<=sizeLine)(_:Q (.str d.shown) H)
end
theorem aE{α:Type}{xs:OI α}{i:Int}{v:α}(h0:0<=i)(h:xs[i.toNat]?=some v):atI xs i=some v:=by
 have e:i=((i.toNat:Nat):Int):=⋯
 have z:atI xs ((i.toNat:Nat):Int)=some v:=ff h;rw[<- e]at z;exact z
end L2
namespace Pc
open PySem L2
def tO(K:C4):Sp:=λ vs H Q _=>∃(a:OE)(ns:OI Int)(n:Int),vs=[.ref a,.int n]/\SqL K H a (ns.map V.int)/\0<=n/\∀c:Int,Q (.int c) H
end Pc
namespace L2
open PySem
theorem Room.units66{k:Nat}{A:Around}(r:Room k A):A.units+66 < cLine:=by have:=r.un;lia
end L2
namespace Pc
open PySem L2
def Short(i:Int):Prop:=i.natAbs < 10 ^ 62
theorem Short.log{i:Int}(h:Short i):i.natAbs.log2 < 1920:=by
 unfold Short at h;rcases Nat.eq_zero_or_pos i.natAbs with h0 | hp
 ·rw[h0];decide
 ·refine(Nat.log2_lt (Nat.ne_of_gt hp)).mpr (OD h ?_)
  decide +kernel
theorem Short.len{i:Int}(h:Short i):(PyData.shown (.int i)).length<=63:=by show(Str.ofString (toString i)).length<=63;rw[ofString_length];exact int_text_length_le10 ∅ h
end Pc
namespace L2
open PySem PySem.Spec PyProof.Rows
mutual
inductive DatD(K:C4)(H:Hp):V->PyData->Prop
 | non:DatD K H .non .none
 | bl (b:Bool):DatD K H (.bl b) (.bool b)
 | int (i:Int):DatD K H (.int i) (.int i)
 | str (x:Str):DatD K H (.str x) (.str x)
 | lst {a:OE} {xs:OI V} {ds:OI PyData}:SqL K H a xs->DatDs K H xs ds->DatD K H (.ref a) (.list ds)
 | tup {a:OE} {xs:OI V} {ds:OI PyData}:SqT K H a xs->DatDs K H xs ds->DatD K H (.ref a) (.tuple ds)
 | dct {a:OE} {kv:OI (Int×Int)}:H a=some (.dK (kv.map λ p=>(Sum.inl p.1,V.int p.2)))->DatD K H (.ref a) (.dict (kv.map λ p=>(.int p.1,.int p.2)))
inductive DatDs(K:C4)(H:Hp):OI V->OI PyData->Prop
 | nil:DatDs K H [] []
 | cons {x:V} {d:PyData} {xs:OI V} {ds:OI PyData}:DatD K H x d->DatDs K H xs ds->DatDs K H (x :: xs) (d :: ds)
end
def SysIn(K:C4):Prop:=∃o,K.lookup sysModules=some o/\o.cls=.type "dict"
section
variable{X:Cx}{OK:OI (OE×Obj)}{σ:St}{H:Hp}{s:F5}
theorem iO{h:Heap}{P:F6}{w:F8}:∀{es:OI DictEntry}{kv:OI (Int×Int)}{vs:OI (Key×F9)},KV (kv.map λ p=>((Sum.inl p.1:Key),V.int p.2)) vs->Pairs (hZ P w) es vs ->
  ReadsAll h (es.map (·.key)) ((kv.map λ p=>(PyData.int p.1,PyData.int p.2)).map (·.1)) []/\ReadsAll h (es.map (·.val)) ((kv.map λ p=>(PyData.int p.1,PyData.int p.2)).map (·.2)) []
 | es,[],vs,k,p=>by cases k;cases p;exact%[.nil|.nil]
 | es,(i,j) :: kv,vs,k,p=>by
  cases k with
  | @cons _ q _ l2 k1 k2=>
   obtain⟨e1,t,e2⟩:=k1;cases p with
   | @cons e _ es' vs' p1 p2 p3=>
    obtain⟨q1,q2⟩:=q;have e1':(Sum.inl i:Key)=q1:=e1;subst e1';obtain⟨t',ek⟩:=Value.isInt_shape (k:=i) (v:=e.key) p1;have e2':q2=Value.int j t:=e2;obtain⟨r1,r2⟩:=iO (h:=h) k2 p3;have ev:e.val=Value.int j t:=by rw[p2];exact e2'
    refine%[?_|?_]
    ·simp only[J4];rw[ek];exact .cons (as:=[]) (.int i t') r1
    ·simp only[J4];rw[ev];exact .cons (as:=[]) (.int j t) r2
mutual
theorem Inv.readsD(I:Inv X OK σ H s)(sm:SysIn X.K):∀{v:V}{d:PyData},DatD X.K H v d->∀{u:F9},RelV v u->∃as,Reads s.heap u d as/\sysModules∉as
 | _,_,.non,u,r=>by cases(show u=Value.none from r);exact%[_,.none|by simp]
 | _,_,.bl b,u,r=>by cases(show u=Value.bool b from r);exact%[_,.bool b|by simp]
 | _,_,.int i,u,r=>by obtain⟨t,e⟩:=(show∃t,u=Value.int i t from r);subst e;exact%[_,.int i t|by simp]
 | _,_,.str x,u,r=>by obtain⟨t,e⟩:=(show∃t,u=Value.str x t from r);subst e;exact%[_,.str x t|by simp]
 | _,_,.lst (a:=a) h hs,u,r=>by
  cases(show u=Value.ref a from r);obtain⟨its,rv,⟨o,n,e,c,_,d⟩,_⟩:=I.list h;obtain⟨as,ra,na⟩:=I.readsAllD sm hs rv;refine%[_,.list e c d (by simpa using ra)|?_];intro z;rcases G6.mp z with z | z
  ·obtain⟨o',k1,k2⟩:=sm;have k3:=I.kIn _ _ k1;rw[z,e]at k3;cases k3;rw[c]at k2;simp at k2
  ·exact na z
 | _,_,.tup (a:=a) h hs,u,r=>by cases(show u=Value.ref a from r);obtain⟨its,rv,⟨o,e,c,n,d⟩,_⟩:=I.tuple h;obtain⟨as,ra,na⟩:=I.readsAllD sm hs rv;exact%[_,.tuple e c d (by simpa using ra)|na]
 | _,_,.dct (a:=a) (kv:=kv) h,u,r=>by
  cases(show u=Value.ref a from r);obtain⟨_,ne,vs,kv',o,es,ep,h1,h2,h3,_,h5,_⟩:=I.hok a _ h;obtain⟨r1,r2⟩:=iO (h:=s.heap) kv' h5;refine%[_,.dict h1 h2.1 h3 r1 r2|?_];intro z;have z':sysModules=a:=by simpa using z
  rw[z']at ne;simp at ne
theorem Inv.readsAllD(I:Inv X OK σ H s)(sm:SysIn X.K):∀{vs:OI V}{ds:OI PyData},DatDs X.K H vs ds->∀{us:OI F9},Vals vs us->∃as,ReadsAll s.heap us ds as/\sysModules∉as
 | _,_,.nil,_,.nil=>%[_,.nil|by simp]
 | _,_,.cons h hs,_,.cons r rs=>by obtain⟨as,ra,na⟩:=I.readsD sm h r;obtain⟨bs,rb,nb⟩:=I.readsAllD sm hs rs;exact%[_,.cons ra rb|λ z=>(C2.mp z).elim na nb]
end
inductive rz_call_reprD(K:C4)(xs:OI V)(H:Hp)(Q:VK):Prop
|mk(a d:_)(_:xs=[.ref a])(_:DatD K H (.ref a) d)(_:d.showable=true)(_:d.depth<=64)(_:d.shown.length<=sizeLine)(_:Q (.str d.shown) H)
theorem iP(sm:SysIn X.K)(hg:X.A.guards=some [])(hu:X.A.units+66 < cLine):ck X (.builtin "repr") (rz_call_reprD X.K):=by intro OK s σ H xs us Q I r h;obtain⟨a,d,rfl,hd,h1,h3,h4,q⟩:=h;obtain⟨u,rfl,rfl⟩:=gb r;obtain⟨as,ra,na⟩:=I.readsD sm hd (u:=.ref a) rfl;exact repr_of_reads' ra h1 (λ _=>na) hg ⋯ (λ _ _ e=>e) (λ h' u tk hk=>%[.str d.shown,H,I.kept hk,%[_|O]|q]) h4
end
end L2
namespace L2
open PySem PySem.Spec PyProof.Rows
section
variable{X:Cx}{k:Nat}{ps:OI Str}{sp:Sp}{x:Str}{p pos:Pos}{e:Expr}{es:OI Expr}{t:TA}
def DnX(P:F6)(w:F8)(K:C4)(mg:Str->OG F9)(base:Heap)(x:Str)(ps:OI Str)(k:Nat)(sp:Sp):Prop :=
 ∃(f:OE)(fd:F7),FnOk P w K mg base (CXx P w) k f fd ps sp/\Binds K fd ps []/\PySem.W.keepIn K (.ref f)=true/\mg x=↑f
def zm(sp:Sp)(t:TA):TX:=λ σ H Q E=>t σ H λ vs H1=>sp vs H1 Q E
theorem eS(D:DnX X.prog X.w X.K X.mg X.base x ps k sp)(hr:Room k X.A)(hg:Gl X x)(ha:PA X.nox (e :: es) t)
  (hdb:(x == ("__debug__" : Str))=false:=by decide) (he:starEach (e :: es) X.env=(false,eval e X.env) :: starEach es X.env:=by rfl) (hpl:(backTo pos (starEach es X.env)).any (·.1)=false:=by rfl) :
  PEx X (.Call (.Name x p) (e :: es) [] pos) (zm sp t):=by
 obtain⟨f,fd,F,hb,hk,hm⟩:=D;intro OK s σ H Q E I h;refine Oo (dB I hg hm ?_ hdb);refine PySem.W.callWith_K (h₀:=X.base) I.ok.mod.kin hk (OU (ha pos OK s σ H _ (I.wish _) h) (λ us s1 ⟨vs,H1,I1,r,q⟩=>%[I1.kIn|?_]) λ _ _ z=>E5 z) he hpl;exact wj F hr hb I1.unwish r q
end
theorem zn{X:Cx}(K:C4){x y:Str}{px py pos:Pos}{k:Nat}(hK:X.K=K)(hc:X.calm=true)(hN:X.N.Nodup)(h0:X.N[0]?=some x)(h1:X.N[1]?=some y)(l0:X.env.scope.names.lookup x=some .local)(l1:X.env.scope.names.lookup y=some .local) :
  PG X (.Tuple [.Name x px,.Name y py] k pos) (gTup K 2 (gCons (gU 0) (gCons (gU 1) yS))) :=
 hK ▸ bC hc (ao (ap hN h0 (.inl l0) (.inr l0)) (ao (ap hN h1 (.inl l1) (.inr l1)) aV))
section
variable{X:Cx}
inductive rz_call_maxI(K:C4)(xs:OI V)(H:Hp)(Q:VK):Prop
|mk(p:OE)(ns:OI Int)(_:xs=[.ref p])(_:SqL K H p (ns.map V.int))(_:ns≠[])(_:∀m,m∈ns->(∀x∈ns,x<=m)->Q (.int m) H)
end
abbrev TXS:=St->Hp->(Hp->Prop)->XK->Prop
def PSx(X:Cx)(b:OI Stmt)(t:TXS):Prop :=
 ∀(OK:OI (OE×Obj))(s:F5)(σ:St)(H:Hp)(N:Hp->Prop)(E:XK),Inv X OK σ H s->t σ H N E->wpAny (model X.prog X.w) X.A (execs b X.env) (λ fl s'=>fl=Flow.next/\∃H',Inv X OK σ H' s'/\N H') (XP X OK σ E) s
section
variable{X:Cx}{e c:Expr}{a b:OI Stmt}{tx:TX}{ta tb:TXS}{tt:TT}{pos:Pos}
theorem lK(he:PEx X e tx)(hs:swapsWith e none pos.line X.env=pure false:=by rfl):PSx X [.Expr e pos] (λ σ H N E=>tx σ H (λ _ H1=>N H1) E):=by intro OK s σ H N E I h;exact wpAny_execs_cons (wpAny_Expr_any (OU (he OK s σ H _ _ I h) (λ v s1 ⟨x,H1,I1,r1,q1⟩=>Op %[rfl,H1,I1|q1]) λ v s1 hx=>hx) I.quiet hs)
theorem zo(hc:PT X.nox c tt)(ha:PSx X a ta)(hb:PSx X b tb):PSx X [.If c a b pos] (λ σ H N E=>tt σ H λ d H1=>if d=true then ta σ H1 N E else tb σ H1 N E):=by
 intro OK s σ H N E I h;refine wpAny_execs_cons (wpAny_If (OU (hc OK s σ H _ (I.wish _) h) (?_) λ _ _ z=>E5 z));rintro d s1 ⟨H1,I1,q1⟩;cases d with
 | true=>exact OU (ha OK s1 σ H1 N E I1.unwish q1) (λ fl s2 ⟨e,r⟩=>by subst e;exact Op %[rfl|r]) λ _ _ z=>z
 | false=>exact OU (hb OK s1 σ H1 N E I1.unwish q1) (λ fl s2 ⟨e,r⟩=>by subst e;exact Op %[rfl|r]) λ _ _ z=>z
end
def En(K:C4)(i:Nat)(CE:OE)(tx:TXS)(ts:OE->TS):TS:=λ D σ H=>tx σ H (λ H1=>D.nx σ H1) (λ c _ H1=>PySem.W.exmOne K c (.ref CE)=some true/\∀ea,H1 ea=none ->
 ts ea { nx:=λ σ2 H2=>D.nx (σ2.set i none) H2,rt:=D.rt,bk:=λ σ2 H2=>D.bk (σ2.set i none) H2,ct:=λ σ2 H2=>D.ct (σ2.set i none) H2 } (σ.set i (↑ea)) (upd H1 ea (.ext (IsA ea c))))
section
variable{X:Cx}{body:OI Stmt}{tx:TXS}{ts:OE->TS}{i:Nat}{n y:Str}{CE:OE}{b₀:Stmt}{suite:OI Stmt}{np hpos epos pos:Pos}
theorem wn(hst:X.stack=X.env :: X.outer)(hfr:X.env.frame=some X.env.locals)(hex:X.ex=[])(he:PSx X body tx)(hN:X.N.Nodup)(hi:X.N[i]?=some n)(hk:X.env.scope.names.lookup n=some .local)(hg:Gl X y)(hm:X.mg y=↑CE)
  (hsu:∀ea,PSs (X.marked ea) (b₀ :: suite) (ts ea)) (hd:(y == ("__debug__" : Str))=false:=by decide) :
  PS X (.Try body [.ExceptHandler (some (.Name y np)) (some n) (b₀ :: suite) hpos] [] [] pos) (En X.K i CE tx ts):=by
 intro OK s σ H D I h;refine wpAny_Try_except (OU (he OK s σ H _ _ I h) (λ fl s1 ⟨e1,H1,I1,q1⟩=>?_) λ v s1 hx=>?_)
 ·subst e1;exact Op %[σ,H1,I1|q1]
 obtain⟨ea,c,H0,H',B,s0,rfl,I0,f,hm1,q⟩:=hx;obtain⟨a0,fl⟩:=f.fly;rw[hst]at fl;refine jF (by rw[<- hst];exact I.ok.frames) hfr fl f.ctx λ h4 held4 sm4 q4=>?_;refine tI held4 q4 λ h5 fl5 sm5 q5=>?_;have I5:Inv X OK σ H' { s1 with heap:=h5 }:=f.inv (t:=s1.toks) I0 fl5.1 (sm4.trans sm5);obtain⟨ob,hob,hobc⟩:=fl5.there;refine wpAny_handleBy_cons (codeAny_handlers_test (dB (X:=X.marked ea) (I5.mark ea) hg hm ?_ hd)) (by intro q;cases q);have LT:PySem.W.Looks (model X.prog X.w) h5 (typeOf (.ref ea)) c:=hobc ▸ (PySem.W.Looks.ld hob).andThen .now;refine(PySem.W.exm_one (M:=model X.prog X.w) I5.kIn LT hm1).here ?_;show codeAny _ _ _ _ _;refine codeAny_handlers_suite_as ?_;refine kB fl5 q5 λ h6 fl6 sm6 q6=>?_;have I6:Inv X OK σ H' { s1 with heap:=h6 }:=f.inv (t:=s1.toks) I0 fl6.1 ((sm4.trans sm5).trans sm6);have I7:Inv X OK σ (upd H' ea (.ext (IsA ea c))) { s1 with heap:=h6 }:=by
  refine I6.track2 f.new.2 (λ z=>?_) ?_ (λ x c' e z=>?_) (λ p hp z=>?_) (IsA.obj (IsA.of fl6.there q6))
  ·obtain⟨m,⟨o,_,_,ho,_⟩,_⟩:=I0.loc;have:=f.new.1;rw[z,ho]at this;cases this
  ·cases q':X.s₀.heap.get? ea with
   | none=>rfl
   | some o=>
    obtain⟨o',e1⟩:=I0.base.there ea o q' (by rw[hex];simp);have:=f.new.1;rw[e1]at this;cases this
  ·obtain⟨v,o,ho,_⟩:=I0.cell x c' e;have:=f.new.1;rw[<- z,ho]at this;cases this
  ·have:=(I0.pin p hp).1;rw[z,f.new.1]at this;cases this
 refine eJ (X:=X.marked ea) (I7.mark ea) hN hi (.inl hk) (v:=.ref ea) rfl (λ s7 I8=>?_) (.inr hk);refine OU (hsu ea OK s7 _ _ _ I8 (q ea f.new.2)) (λ fl s8 hq=>?_) λ _ _ z=>E5 z;cases fl with
 | next=>
  obtain⟨σ',H'',J,q'⟩:=hq;exact fk (J.unmark I.ok) hN hi hk λ s9 J9=>%[_,_,J9|q']
 | brk=>
  obtain⟨σ',H'',J,q'⟩:=hq;exact fk (J.unmark I.ok) hN hi hk λ s9 J9=>%[_,_,J9|q']
 | cont=>
  obtain⟨σ',H'',J,q'⟩:=hq;exact fk (J.unmark I.ok) hN hi hk λ s9 J9=>%[_,_,J9|q']
 | ret u=>
  obtain⟨v,σ',H'',J,r,q'⟩:=hq;exact fk (J.unmark I.ok) hN hi hk λ s9 J9=>%[_,_,_,J9,r|q']
end
section
variable{M:Model}{A:Around}{E:F9->F5->Prop}{s:F5}{base:Heap}{env:Env}{outer:OI Env}{L e:OE}{cls a0:F9}{Q:Unit->F5->Prop}
theorem mW(hfr:A.frames=some (env :: outer))(hf:env.frame=some L)(f:Heap.FlyingW base (env :: outer) e cls a0 s.heap)(q:Q2 e s.heap)
  (hQ:∀h',Heap.FlyingW base outer e cls a0 h'->s.heap.UpToSlots h'->Q2 e h'->Q () { s with heap:=h' }):wpAny M A (leaving env (.ref e)) Q E s :=
 wpAny_leaves_onW hfr hf f λ h' a b=>hQ h' a b trivial
end
section
variable{P:F6}{w:F8}{K:C4}{mg:Str->OG F9}{base:Heap}{N:OI Str}{qual:Str}{scope:Scope}{f:OE}{cd:F9}{A:Around}{outer:OI Env}{s₀:F5}{H₀:Hp}{E:XK}
theorem pf{OK:OI (OE×Obj)}{σ:St}{v:F9}{s1:F5}(hx:XP (bJ (CXx P w) P w K mg base N qual scope f cd A outer s₀ H₀ E) OK σ E v s1):(bJ (CXx P w) P w K mg base N qual scope f cd A outer s₀ H₀ E).xe v s1:=by
 obtain⟨ea,C,H0,H',B,s0,rfl,I0,fl,q⟩:=hx;obtain⟨a0,fw⟩:=fl.fly;have I0':=I0;show wpAny (model P w) (A.deeper (envOfC qual scope s₀.heap.objs.size f cd)) (leaving (envOfC qual scope s₀.heap.objs.size f cd) (.ref ea)) _ _ s1;refine mW I0.ok.frames rfl fw fl.ctx λ h' fw' sm q2=>%[ea,C,H',B,O,?_|q]
 have J:Inv (bJ (CXx P w) P w K mg base N qual scope f cd A outer s₀ H₀ E) OK σ H' { s1 with heap:=h' }:=fl.inv (t:=s1.toks) I0 fw'.1 sm;have newE:s₀.heap.get? ea=none:=by
  cases z:s₀.heap.get? ea with
  | none=>rfl
  | some o=>
   obtain⟨o',e1⟩:=I0.base.there ea o z (by show ea∉([]:OI OE);simp);have:=fl.new.1;rw[e1]at this;cases this
 refine%[J.os,J.bare,J.base,J.hok,%[a0|fw'],q2,λ b o nb hh e=>?_|%[newE|fl.new.2]];have nbs:b∉frs (envOfC qual scope s₀.heap.objs.size f cd :: outer):=λ z=>by
  have z':b=s₀.heap.objs.size\/b∈frs outer:=by unfold frs at z ⊢;rw[K5]at z;exact G6.mp z
  rcases z' with z | z
  ·subst z;rcases hh with hh | ⟨o',hh⟩
   ·exact hh J.free
   ·exact absurd (A8 hh) (C8 _)
  ·exact nb z
 have key:∃o1,s1.heap.get? b=some o1/\(H' b≠none\/∃o',s0.heap.get? b=some o'):=by
  rcases hh with hh | ⟨o',hh⟩
  ·cases z:H' b with
   | none=>exact absurd z hh
   | some u=>
    obtain⟨ob,eb⟩:=(fl.hok b u z).ex;exact%[ob,eb|.inl (by rw[<- z]at *;exact hh)]
  ·obtain⟨o1,e1⟩:=I0.base.there b o' hh (by show b∉([]:OI OE);simp);obtain⟨o2,e2⟩:=fl.un.there b o1 e1 (by simp);exact%[o2,e2|.inr %[o1|e1]]
 obtain⟨o1,e1,hh'⟩:=key;have eB:=fl.cov b o1 nbs hh' e1;have:=fw'.1 b o1 eB;rw[e]at this;cases this;exact eB
end
end L2
namespace PyProof.Rows
set_option autoImplicit false
open PySem
structure SBaseT(κ0:SortKind)(a₀:OH OF)(st:SortSt):Prop where
 perm:(arrOf st).Perm a₀
 kind:kindOf st=κ0
 failed:failedOf st=none
 pend:pendingOf st=#[]
theorem SBaseT.size{κ0:SortKind}{a₀:OH OF}{st:SortSt}(h:SBaseT κ0 a₀ st):(arrOf st).size=a₀.size:=h.perm.size_eq
theorem SBaseT.setArr{κ0:SortKind}{a₀:OH OF}{st:SortSt}(h:SBaseT κ0 a₀ st){xs:OH OF}(hp:xs.Perm (arrOf st)):SBaseT κ0 a₀ (setArr st xs) :=
 %[hp.trans h.perm,h.kind,h.failed|h.pend]
theorem SBaseT.atK{κ:KeyKind}{κ0:SortKind}{a₀:OH OF}{st:SortSt}(h:SBaseT κ0 a₀ st)(h0:KeysOf κ a₀){i:Nat}(hi:i < a₀.size) :
  ∃x p a,(arrOf st)[i]?=some (x,p)/\κ.keyOf x=some a/\KK κ (arrOf st) i=a:=by
 have hi':i < (arrOf st).size:=by rw[h.size];exact hi
 have hm:(arrOf st)[i]∈a₀.toList:=(Array.perm_iff_toList_perm.mp h.perm).mem_iff.mp (by simp);obtain⟨a,ha⟩:=h0 _ hm;have e:(arrOf st)[i]?=some (arrOf st)[i]:=getElem?_pos _ i hi';refine%[(arrOf st)[i].1,(arrOf st)[i].2,a,by rw[e],ha|?_];unfold KK;rw[e];simp[ha]
def cM(prog:F6)(w:F8)(A:Around)(s:F5)(κ0:SortKind)(κ:KeyKind):Prop :=
 ∀(E:F9->F5->Prop)(x y:F9)(a b:κ.α)(Q:Bool->F5->Prop),κ.keyOf x=some a->κ.keyOf y=some b->Q (κ.blt a b) s->wpAny (model prog w) A (keyLt' κ0 x y) Q E s
section
variable{prog:F6}{w:F8}{A:Around}{E:F9->F5->Prop}{s:F5}{a₀:OH OF}{κ:KeyKind}{κ0:SortKind}
theorem mX(hO:cM prog w A s κ0 κ){st:SortSt}{i j:Nat}{x y:F9}{a b:κ.α}{p q:F9}{Q:OG Bool->SortSt->Prop}(hk:kindOf st=κ0)
  (hi:(arrOf st)[i]?=some (x,p)) (hj:(arrOf st)[j]?=some (y,q)) (ha:κ.keyOf x=some a) (hb:κ.keyOf y=some b) (h:Q (some (κ.blt a b)) st) :
  wpS (model prog w) A E s (ltAt' i j) Q st:=by
 rw[ltAt'_eq];refine A2 (wpS_get ?_);show wpS _ _ _ _ (do let x<-elem' (arrOf st) i;let y<-elem' (arrOf st) j;lt' x y) Q st;rw[elem'_eq,elem'_eq,hi,hj];refine A2 (A3 (A2 (A3 ?_)));rw[lt'_eq];refine A2 (wpS_get ?_);rw[hk];refine A2 (wpS_lift (wpAny_attempt (hO _ x y a b _ ha hb %[rfl|?_])));exact A3 h
theorem dN{st:SortSt}{i j:Nat}{Q:OG Bool->SortSt->Prop}(hO:cM prog w A s κ0 κ)(hB:SBaseT κ0 a₀ st)(h0:KeysOf κ a₀)(hi:i < a₀.size)(hj:j < a₀.size)
  (h:Q (some (κ.blt (KK κ (arrOf st) i) (KK κ (arrOf st) j))) st):wpS (model prog w) A E s (ltAt' i j) Q st:=by
 obtain⟨x,p,a,e1,ha,ka⟩:=hB.atK h0 hi;obtain⟨y,q,b,e2,hb,kb⟩:=hB.atK h0 hj;rw[ka,kb]at h;exact mX hO hB.kind e1 e2 ha hb h
theorem gI{st:SortSt}{n ok:Nat}{Q:Bool->SortSt->Prop}(hO:cM prog w A s κ0 κ)(h0:KeysOf κ a₀)(hn:n<=a₀.size)(hok:ok<=n)(hB:SBaseT κ0 a₀ st)(hs:SortedToK κ (arrOf st) ok)
  (h:∀st',SBaseT κ0 a₀ st'->SortedToK κ (arrOf st') n->Q true st'):wpS (model prog w) A E s (binarySort' 0 n ok) Q st:=by
 rw[binarySort'_eq];simp only[Nat.zero_add];refine A2 (wpS_mono (wpS_forRange (I:=λ k c st'=>c=(none,())/\SBaseT κ0 a₀ st'/\SortedToK κ (arrOf st') (min k n))
  (Q:=λ c st'=>c=(none,())/\SBaseT κ0 a₀ st'/\SortedToK κ (arrOf st') n) ?step ?fin ?init) ?post)
 case post=>
  rintro c st' ⟨rfl,hB',hs'⟩;exact A3 (h st' hB' hs')
 case init=>
  refine%[O,hB|λ i j hij hj=>?_]
  by_cases h1:ok=0
  ·have:i=j:=⋯
   subst this;exact Ol _
  ·exact hs i j hij ⋯
 case fin=>
  rintro c st' ⟨hc,hB',hs'⟩;refine%[hc,hB'|?_];rwa [show min (max (max ok 1) n) n=n by lia]at hs'
 case step=>
  rintro k c st' hak hkn ⟨rfl,hB',hs'⟩;rw[show min k n=k by lia]at hs';have hk:k < a₀.size:=⋯
  refine A2 (wpS_mono (wpS_forRange (I:=λ x c st''=>st''=st'/\∃l r,c=(none,l,r)/\l<=r/\r<=k/\r - l<=k - x /\
    (∀i,i < l->κ.kle (KK κ (arrOf st') i) (KK κ (arrOf st') k))/\(∀i,r<=i->i < k->κ.klt (KK κ (arrOf st') k) (KK κ (arrOf st') i)))
   (Q:=λ c st''=>st''=st'/\∃l r,c=(none,l,r)/\l<=k /\
    (∀i,i < l->κ.kle (KK κ (arrOf st') i) (KK κ (arrOf st') k))/\(∀i,l<=i->i < k->κ.klt (KK κ (arrOf st') k) (KK κ (arrOf st') i))) ?istep ?ifin ?iinit) ?ipost)
  case iinit=>exact%[O,0,k,O,⋯,⋯,⋯,λ i hi=>⋯|λ i h1 h2=>⋯]
  case ifin=>
   rintro c st'' ⟨rfl,l,r,rfl,hlr,hrk,hm,hlo,hhi⟩;have:l=r:=⋯
   subst this;exact%[O,l,l,O,hrk,hlo|hhi]
  case istep=>
   rintro x c st'' _ hxk ⟨rfl,l,r,rfl,hlr,hrk,hm,hlo,hhi⟩;dsimp only
   by_cases hge:l≥r
   ·rw[OR hge];have:l=r:=⋯
    subst this;exact A3 %[rfl,l,l,rfl,hrk,hlo|hhi]
   ·rw[OQ hge];refine A2 (dN hO hB' h0 hk ⋯ ?_);cases hless:κ.blt (KK κ (arrOf st'') k) (KK κ (arrOf st'') ((l+r) / 2))
    case true=>
     simp only[O1];refine A3 %[rfl,l,(l+r) / 2,rfl,⋯,⋯,⋯,hlo|λ i h1 h2=>?_];exact KeyOrd.klt_of_klt_of_kle hless (hs' _ _ h1 h2)
    case false=>
     simp only[J5,Oq];refine A3 %[rfl,(l+r) / 2+1,r,rfl,⋯,⋯,⋯,λ i h1=>?_|hhi];exact KeyOrd.kle_trans (hs' i ((l+r) / 2) ⋯ ⋯) (show κ.kle _ _ from hless)
  case ipost=>
   rintro c st'' ⟨rfl,l,r,rfl,hlk,hlo,hhi⟩;show wpS _ _ _ _ (do moveDown' k l;pure (ForInStep.yield (none,()))) _ _;rw[moveDown'_eq];refine A2 (wpS_modify (A3 %[rfl,hB'.setArr (bubble_perm _ _ _)|?_]));rw[show min (k+1) n=k+1 by lia];have hks:k < (arrOf st'').size:=by rw[hB'.size];exact hk
   intro i j hij hj;show κ.kle (KK κ (bubble (arrOf st'') k (k - l)) i) (KK κ (bubble (arrOf st'') k (k - l)) j);rw[KK_bubble hks ⋯,KK_bubble hks ⋯,show k - (k - l)=l by lia]
   repeat' split
   all_goals first
    | (exfalso;lia)
    | exact Ol _
    | exact hlo _ ⋯
    | exact KeyOrd.kle_of_klt (hhi _ ⋯ ⋯)
    | exact hs' _ _ ⋯ ⋯
theorem fK{st:SortSt}{a nrem:Nat}{Q:AscSt->SortSt->Prop}(hO:cM prog w A s κ0 κ)(h0:KeysOf κ a₀)(hn:nrem<=a₀.size)(ha:1<=a)(han:a<=nrem)(hB:SBaseT κ0 a₀ st)
  (hs:SortedToK κ (arrOf st) a)
  (h:∀n,a<=n->n<=nrem->SortedToK κ (arrOf st) n->(n=nrem\/κ.klt (KK κ (arrOf st) n) (KK κ (arrOf st) (n - 1)))->Q (none,n) st) :
  wpS (model prog w) A E s (ascLoop a nrem) Q st:=by
 unfold ascLoop;refine wpS_forRange (I:=λ x c st'=>st'=st/\c=(none,x)/\SortedToK κ (arrOf st) x) ?step ?fin %[rfl,rfl|hs]
 case fin=>
  rintro c st' ⟨rfl,rfl,hs'⟩;rw[show max a nrem=nrem by lia]at hs' ⊢;exact h nrem han (B2 _) hs' (.inl rfl)
 case step=>
  rintro x c st' hax hxn ⟨rfl,rfl,hs'⟩;dsimp only;refine A2 (dN hO hB h0 ⋯ ⋯ ?_);cases hless:κ.blt (KK κ (arrOf st') x) (KK κ (arrOf st') (x - 1))
  case true=>
   simp only[O1];exact A3 (h x hax ⋯ hs' (.inr hless))
  case false=>
   simp only[J5,Oq];refine A3 %[rfl,rfl|λ i j hij hj=>?_]
   by_cases hjx:j < x
   ·exact hs' i j hij hjx
   ·have hj':j=x:=⋯
    subst hj'
    by_cases hi':i=j
    ·subst hi';exact Ol _
    ·exact KeyOrd.kle_trans (hs' i (j - 1) ⋯ ⋯) hless
theorem gZ{st:SortSt}{n nrem:Nat}{Q:OG Nat->SortSt->Prop}(hO:cM prog w A s κ0 κ)(h0:KeysOf κ a₀)(hn:nrem<=a₀.size)(h1:1<=n)(hnn:n<=nrem)(hB:SBaseT κ0 a₀ st)
  (hs:NonIncK κ (arrOf st) n) (h:∀m st',SBaseT κ0 a₀ st'->1<=m->m<=nrem->SortedToK κ (arrOf st') m->Q (some m) st') :
  wpS (model prog w) A E s (tail3 n nrem) Q st:=by
 unfold tail3;have hsz:n<=(arrOf st).size:=by rw[hB.size];lia
 refine A2 (wpS_reverse ?_);have hB':SBaseT κ0 a₀ (setArr st (mirror (arrOf st) 0 n ((n - 0) / 2))):=hB.setArr (mirror_perm _ _ _ _);refine A2 (fK hO h0 hn h1 hnn hB' ?_ λ m hm1 hm2 hsm _=>A3 (h m _ hB' ⋯ hm2 hsm));intro i j hij hj;show κ.kle (KK κ (mirror (arrOf st) 0 n ((n - 0) / 2)) i) (KK κ (mirror (arrOf st) 0 n ((n - 0) / 2)) j);rw[KK_mirror hsz,KK_mirror hsz,OR ⋯,OR ⋯];exact hs _ _ ⋯ ⋯
theorem iQ{st:SortSt}{n nrem:Nat}{Q:DescSt->SortSt->Prop}(hO:cM prog w A s κ0 κ)(h0:KeysOf κ a₀)(hn:nrem<=a₀.size)(h1:1<=n)(hnn:n<=nrem)(hB:SBaseT κ0 a₀ st)
  (hs:NonIncK κ (arrOf st) n)
  (h:∀m neq st',SBaseT κ0 a₀ st'->n<=m->m<=nrem->NonIncK κ (arrOf st') m->neq+1<=m->(∀i,m - (neq+1)<=i->i < m->KK κ (arrOf st') i=KK κ (arrOf st') (m - 1))->Q (none,m,neq) st') :
  wpS (model prog w) A E s (descLoop n nrem) Q st:=by
 unfold descLoop;refine wpS_forRange (I:=λ x c st'=>∃neq,c=(none,x,neq)/\SBaseT κ0 a₀ st'/\NonIncK κ (arrOf st') x/\neq+1<=x /\
   (∀i,x - (neq+1)<=i->i < x->KK κ (arrOf st') i=KK κ (arrOf st') (x - 1))) ?step ?fin %[0,rfl,hB,hs,⋯|λ i h1 h2=>by congr 1;lia]
 case fin=>
  rintro c st' ⟨neq,rfl,hB',hs',hq,he⟩;rw[show max n nrem=nrem by lia]at hs' hq he ⊢;exact h nrem neq st' hB' hnn (B2 _) hs' hq he
 case step=>
  rintro x c st' hax hxn ⟨neq,rfl,hB',hs',hq,he⟩;dsimp only;have hsz:x<=(arrOf st').size:=by rw[hB'.size];lia
  refine A2 (dN hO hB' h0 ⋯ ⋯ ?_);cases hless:κ.blt (KK κ (arrOf st') x) (KK κ (arrOf st') (x - 1))
  case true=>
   simp only[O1];have step1:∀xs:OH OF,(∀k,KK κ xs k=KK κ (arrOf st') k)->NonIncK κ xs (x+1):=by
    intro xs hk i j hij hj;rw[hk,hk]
    by_cases hjx:j < x
    ·exact hs' i j hij hjx
    ·have hj':j=x:=⋯
     subst hj'
     by_cases hi':i=j
     ·subst hi';exact Ol _
     ·exact KeyOrd.kle_trans (KeyOrd.kle_of_klt hless) (hs' i (j - 1) ⋯ ⋯)
   by_cases hneq:neq > 0
   ·rw[OR hneq];refine A2 (wpS_reverse (A3 %[0,rfl,hB'.setArr (mirror_perm _ _ _ _),step1 _ (KK_mirror_equal hsz he),⋯|λ i h1 h2=>by congr 1;lia]))
   ·rw[OQ hneq];exact A3 %[0,rfl,hB',step1 _ (λ _=>rfl),⋯|λ i h1 h2=>by congr 1;lia]
  case false=>
   simp only[J5,Oq];refine A2 (dN hO hB' h0 ⋯ ⋯ ?_);cases hlarger:κ.blt (KK κ (arrOf st') (x - 1)) (KK κ (arrOf st') x)
   case true=>
    simp only[O1];exact A3 (h x neq st' hB' hax ⋯ hs' hq he)
   case false=>
    simp only[J5,Oq];have heqx:KK κ (arrOf st') x=KK κ (arrOf st') (x - 1):=KeyOrd.kle_antisymm hlarger hless;refine A3 %[neq+1,rfl,hB',λ i j hij hj=>?_,⋯|λ i h1 h2=>?_]
    ·by_cases hjx:j < x
     ·exact hs' i j hij hjx
     ·have hj':j=x:=⋯
      subst hj'
      by_cases hi':i=j
      ·subst hi';exact Ol _
      ·rw[heqx];exact hs' i (j - 1) ⋯ ⋯
    ·rw[show x+1 - 1=x by lia]
     by_cases hix:i=x
     ·subst hix;rfl
     ·rw[heqx];exact he i ⋯ ⋯
theorem eU{st:SortSt}{n nrem:Nat}{Q:OG Nat->SortSt->Prop}(hO:cM prog w A s κ0 κ)(h0:KeysOf κ a₀)(hn:nrem<=a₀.size)(hnn:n+1<=nrem)(hB:SBaseT κ0 a₀ st)
  (hs:NonIncK κ (arrOf st) (n+1)) (h:∀m st',SBaseT κ0 a₀ st'->1<=m->m<=nrem->SortedToK κ (arrOf st') m->Q (some m) st') :
  wpS (model prog w) A E s (descPart n nrem) Q st:=by
 unfold descPart;refine A2 (wpS_lift (O2 %[rfl|?_]));refine A2 (iQ hO h0 hn ⋯ hnn hB hs λ m neq st' hB' hm1 hm2 hs' hq he=>?_);dsimp only;have hsz:m<=(arrOf st').size:=by rw[hB'.size];lia
 by_cases hneq:neq > 0
 ·rw[OR hneq];refine A2 (wpS_reverse (gZ hO h0 hn ⋯ hm2 (hB'.setArr (mirror_perm _ _ _ _)) ?_ h));intro i j hij hj;show κ.kle (KK κ (mirror (arrOf st') _ _ _) j) (KK κ (mirror (arrOf st') _ _ _) i);rw[KK_mirror_equal hsz he,KK_mirror_equal hsz he];exact hs' i j hij hj
 ·rw[OQ hneq];exact gZ hO h0 hn ⋯ hm2 hB' hs' h
theorem iR{st:SortSt}{nrem:Nat}{Q:OG Nat->SortSt->Prop}(hO:cM prog w A s κ0 κ)(h0:KeysOf κ a₀)(hn:nrem<=a₀.size)(h1:1<=nrem)(hB:SBaseT κ0 a₀ st)
  (h:∀m st',SBaseT κ0 a₀ st'->1<=m->m<=nrem->SortedToK κ (arrOf st') m->Q (some m) st') :
  wpS (model prog w) A E s (countRun' 0 nrem) Q st:=by
 rw[countRun0_eq];refine A2 (fK hO h0 hn (B2 1) h1 hB (λ i j hij hj=>by have:i=j:=⋯;subst this;exact Ol _) λ n hn1 hn2 hsn hor=>?_);dsimp only
 by_cases hnn:n=nrem
 ·rw[OR (by simpa using hnn)];exact A3 (h n st hB hn1 hn2 hsn)
 ·rw[OQ (by simpa using hnn)];have hlt:κ.klt (KK κ (arrOf st) n) (KK κ (arrOf st) (n - 1)):=hor.resolve_left hnn
  by_cases hgt:n > 1
  ·rw[OR hgt];refine A2 (dN hO hB h0 ⋯ ⋯ ?_);cases hrose:κ.blt (KK κ (arrOf st) 0) (KK κ (arrOf st) (n - 1))
   case true=>
    simp only[O1];exact A3 (h n st hB hn1 hn2 hsn)
   case false=>
    simp only[J5,Oq];have hsz:n<=(arrOf st).size:=by rw[hB.size];lia
    have hall:∀k,0<=k->k < n->KK κ (arrOf st) k=KK κ (arrOf st) (n - 1):=by intro k _ hk;have a1:=hsn 0 k ⋯ hk;have a2:=hsn k (n - 1) ⋯ ⋯;exact KeyOrd.kle_antisymm a2 (KeyOrd.kle_trans hrose a1)
    refine A2 (wpS_reverse (eU hO h0 hn ⋯ (hB.setArr (mirror_perm _ _ _ _)) ?_ h));intro i j hij hj;show κ.kle (KK κ (mirror (arrOf st) _ _ _) j) (KK κ (mirror (arrOf st) _ _ _) i);rw[KK_mirror_equal hsz hall,KK_mirror_equal hsz hall]
    by_cases hjn:j < n
    ·rw[hall i ⋯ ⋯,hall j ⋯ hjn];exact Ol _
    ·have hj':j=n:=⋯
     subst hj'
     by_cases hi':i=j
     ·subst hi';exact Ol _
     ·rw[hall i ⋯ ⋯];exact KeyOrd.kle_of_klt hlt
  ·rw[OQ hgt];have hn1':n=1:=⋯
   subst hn1';refine eU hO h0 hn ⋯ hB ?_ h;intro i j hij hj
   by_cases hi':i=j
   ·subst hi';exact Ol _
   ·have hi0:i=0:=⋯
    have hj1:j=1:=⋯
    subst hi0;subst hj1;exact KeyOrd.kle_of_klt hlt
theorem SBaseT.doneK{st:SortSt}(hB:SBaseT κ0 a₀ st)(hs:SortedToK κ (arrOf st) a₀.size):SDoneK κ a₀ (setPending st ((pendingOf st).push (0,a₀.size,0))) :=
 %[hB.perm,hB.failed,by show(pendingOf st).push _=_;rw[hB.pend];rfl|hs]
theorem iS{st:SortSt}{Q:Unit->SortSt->Prop}(hO:cM prog w A s κ0 κ)(h0:KeysOf κ a₀)(hB:SBaseT κ0 a₀ st)(h2:2<=a₀.size)(h64:a₀.size < 64)
  (h:∀st',(arrOf st').Perm a₀->failedOf st'=none->SortedToK κ (arrOf st') a₀.size->Q () st'):wpS (model prog w) A E s sortRuns' Q st:=by
 rw[sortRuns'_eq];refine A2 (wpS_get ?_);dsimp only;have hmr:minRun' a₀.size a₀.size 0=a₀.size:=by
  obtain⟨f,hf⟩:∃f,a₀.size=f+1:=%[a₀.size - 1|⋯]
  have:minRun' (f+1) a₀.size 0=a₀.size:=by rw[minRun'_succ,OR h64];rfl
  rwa [<- hf]at this
 simp only[hB.size,hmr];refine A2 (wpS_mono (wpS_forRange
  (I:=λ x c st'=>(x=0/\c=(none,0)/\SBaseT κ0 a₀ st')\/(1<=x/\c=(none,a₀.size)/\SDoneK κ a₀ st'))
  (Q:=λ c st'=>c=(none,a₀.size)/\SDoneK κ a₀ st') ?step ?fin (.inl %[O,O|hB])) ?post)
 case fin=>
  rintro c st' (⟨hx,_,_⟩ | ⟨_,hc,hD⟩)
  ·lia
  ·exact%[hc|hD]
 case step=>
  rintro x c st' _ hx (⟨rfl,rfl,hB'⟩ | ⟨hx1,rfl,hD⟩)
  ·dsimp only;rw[OQ ⋯];simp only[OC,Nat.min_self,Nat.zero_add];refine A2 (iR hO h0 (B2 _) ⋯ hB' λ m st2 hB2 hm1 hm2 hs2=>?_);dsimp only
   by_cases hlt:m < a₀.size
   ·rw[OR hlt];refine A2 (wpS_lift (O2 %[rfl|?_]));refine A2 (gI hO h0 (B2 _) hm2 hB2 hs2 λ st3 hB3 hs3=>?_);simp only[Bool.not_true,J5,Oq];refine A2 (wpS_get ?_);have hb:(pendingOf st3).back?=none:=by rw[hB3.pend];rfl
    rw[hb];dsimp only;exact A2 (wpS_modify (A3 (.inr %[⋯,O|hB3.doneK hs3])))
   ·rw[OQ hlt];have hm:m=a₀.size:=⋯
    subst hm;refine A2 (wpS_get ?_);have hb:(pendingOf st2).back?=none:=by rw[hB2.pend];rfl
    rw[hb];dsimp only;exact A2 (wpS_modify (A3 (.inr %[⋯,O|hB2.doneK hs2])))
  ·dsimp only;rw[OR (B2 _)];exact A3 %[rfl|hD]
 case post=>
  rintro c st' ⟨rfl,hD⟩;dsimp only;refine A2 (wpS_mono (wpS_forRange (I:=λ _ c st''=>st''=st'/\c=(none,())) (Q:=λ c st''=>st''=st'/\c=(none,())) ?_ (λ _ _ hh=>hh) %[rfl|rfl]) ?_)
  ·rintro x c st'' _ _ ⟨rfl,rfl⟩;refine A2 (wpS_get ?_);rw[OR (by rw[hD.2.2.1];exact B2 1)];exact A3 %[rfl|rfl]
  ·rintro c st'' ⟨rfl,rfl⟩;exact A3 (h _ hD.1 hD.2.1 hD.2.2.2)
end
section
variable{prog:F6}{w:F8}{A:Around}{E:F9->F5->Prop}{s:F5}
theorem hU{κ:KeyKind}{κ0:SortKind}{a:OE}{vs:OI F9}{n:Nat}{P:Fin->F5->Prop}(ho:s.heap.get? a=some (seqObj "list" vs.toArray n))
  (h0:KeysOf κ (pairsOf vs)) (hkk:∀s':F5,(∀b o,b≠a->s.heap.get? b=some o->s'.heap.get? b=some o)->cM prog w A s' κ0 κ/\∀v₁ v₂ rest,vs=v₁ :: v₂ :: rest->∀(Q:SortKind->F5->Prop),Q κ0 s'->wpAny (model prog w) A (keyKind' (v₁ :: v₂ :: rest).toArray) Q E s') (h64:vs.length < 64)
  (h:∀st':SortSt,(arrOf st').Perm (pairsOf vs)->SortedToK κ (arrOf st') (pairsOf vs).size->P (.done (.ret .none)) { s with heap:=sortedHeap s.heap a vs ((arrOf st').map (·.2)) }) :
  wpAny (model prog w) A (Builtin.«list.sort» %[[.ref a]|[]]) P E s:=by
 rw[list_sort_plain];have ha:a < s.heap.objs.size:=A8 ho;refine A0 (listItems_at ho rfl ?_);refine A0 (listUpdate_at ho rfl ?_);obtain⟨e1,ho1⟩:∃e1,(s.heap.update a (Obj.mapSeq λ _=>#[])).get? a=some (seqObj "list" #[] e1):=%[_|get?_update_seq ho (λ _=>#[])]
 refine A0 (seqEpoch_at ho1 rfl ?_);refine A0 (wpAny_newTuple ?_);refine A0 (wpAny_newList ?_);refine OV ?_;have ho6:(((s.heap.update a (Obj.mapSeq λ _=>#[])).push (seqObj "tuple" vs.toArray 0)).push (seqObj "list" #[] 0)).get? a=some (seqObj "list" #[] e1):=by rw[Heap.get?_push_ne _ _ _ (by rw[size_push',Heap.size_update];exact B9 (Nat.lt_succ_of_lt ha)),Heap.get?_push_ne _ _ _ (by rw[Heap.size_update];exact B9 ha)];exact ho1
 show wpAny (model prog w) A _ P E { s with heap:=((s.heap.update a (Obj.mapSeq λ _=>#[])).push (seqObj "tuple" vs.toArray 0)).push (seqObj "list" #[] 0) };dsimp only;have hsz:vs.toArray.size=vs.length:=by simp
 have fin:=h
 by_cases h2:vs.toArray.size < 2
 ·rw[OR h2,OR h2];refine A0 (A1 ?_);rw[StateT.run_pure];refine A0 (A1 ?_);dsimp only;refine A0 (seqEpoch_at ho6 rfl ?_);refine A0 (listUpdate_at ho6 rfl ?_ (hsz2:=by rw[Array.size_map];show(pairsOf vs).size<=_;rw[pairsOf_size,sizeLine_eq];lia));simp only[bne_self_eq_false,J5,Oq];refine A1 (fin (SortSt.mk' general' (vs.toArray.zip vs.toArray) #[] 7 none) (Array.Perm.refl _) ?_);intro i j hij hj;have:i=j:=by rw[pairsOf_size]at hj;lia
  subst this;exact Ol _
 ·rw[OQ h2,OQ h2];obtain⟨v₁,v₂,rest,rfl⟩:∃v₁ v₂ rest,vs=v₁ :: v₂ :: rest:=by
   match vs,hsz,h2 with
   | [],_,h2=>simp at h2
   | [_],_,h2=>simp at h2
   | v₁ :: v₂ :: rest,_,_=>exact%[v₁,v₂,rest|O]
  have kp:∀b o,b≠a->s.heap.get? b=some o->(((s.heap.update a (Obj.mapSeq λ _=>#[])).push (seqObj "tuple" (v₁ :: v₂ :: rest).toArray 0)).push (seqObj "list" #[] 0)).get? b=some o:=λ b o nb e=>
   A6 _ (A6 _ (by rw[Heap.get?_update_ne _ _ _ _ nb];exact e))
  obtain⟨hO,hK⟩:=hkk { s with heap:=((s.heap.update a (Obj.mapSeq λ _=>#[])).push (seqObj "tuple" (v₁ :: v₂ :: rest).toArray 0)).push (seqObj "list" #[] 0) } kp;refine A0 (hK _ _ _ rfl _ ?_);refine A0 (OU (iS (κ:=κ) (κ0:=κ0) hO (a₀:=pairsOf (v₁ :: v₂ :: rest)) (st:=SortSt.mk' κ0 ((v₁ :: v₂ :: rest).toArray.zip (v₁ :: v₂ :: rest).toArray) #[] 7 none)
   (Q:=λ _ st'=>(arrOf st').Perm (pairsOf (v₁ :: v₂ :: rest))/\failedOf st'=none/\SortedToK κ (arrOf st') (pairsOf (v₁ :: v₂ :: rest)).size)
   h0 %[Array.Perm.refl _,rfl,rfl|rfl] (by rw[pairsOf_size];simp) (by rw[pairsOf_size];exact h64) λ st' a1 a2 a3=>%[a1,a2|a3]) ?_ λ _ _ e=>e)
  rintro⟨⟨⟩,st'⟩ s' ⟨rfl,hp,hf,hs⟩;dsimp only;refine A0 (seqEpoch_at ho6 rfl ?_);refine A0 (listUpdate_at ho6 rfl ?_ (hsz2:=by refine C5 (Nat.le_of_eq ((Array.size_map ..).trans (hp.size_eq.trans (pairsOf_size _)))) ?_;rw[sizeLine_eq];lia));rw[hf];simp only[bne_self_eq_false,J5,Oq];exact A1 (fin st' hp hs)
end
end PyProof.Rows
namespace L2
open PySem PySem.Spec PyProof.Rows
def bq:OI Int->OI Int->Bool
 | [],[]=>false
 | [],_ :: _=>true
 | _ :: _,[]=>false
 | a :: r,b :: t=>if a=b then bq r t else decide (a < b)
theorem dh:∀a,bq a a=false
 | []=>rfl
 | a :: r=>by rw[bq,OR rfl];exact dh r
theorem gJ:∀a b c,bq a b=true->bq b c=true->bq a c=true
 | [],[],_,h,_=>by cases h
 | [],_ :: _,[],_,h=>by cases h
 | [],_ :: _,_ :: _,_,_=>rfl
 | _ :: _,[],_,h,_=>by cases h
 | _ :: _,_ :: _,[],_,h=>by cases h
 | a :: r,b :: t,c :: u,h1,h2=>by
  rw[bq]at h1 h2 ⊢
  by_cases e1:a=b
  ·rw[OR e1]at h1
   by_cases e2:b=c
   ·rw[OR e2]at h2;rw[OR (e1.trans e2)];exact gJ r t u h1 h2
   ·rw[OQ e2]at h2;rw[OQ (by rw[e1];exact e2),e1];exact h2
  ·rw[OQ e1]at h1;have h1:=C0 h1
   by_cases e2:b=c
   ·rw[OQ ⋯];exact A9 ⋯
   ·rw[OQ e2]at h2;have h2:=C0 h2;rw[OQ ⋯];exact A9 ⋯
theorem kF:∀a b c,bq a c=true->bq a b=true\/bq b c=true
 | [],[],_,h=>.inr h
 | [],_ :: _,_,_=>.inl rfl
 | _ :: _,_,[],h=>by cases h
 | _ :: _,[],_ :: _,_=>.inr rfl
 | a :: r,b :: t,c :: u,h=>by
  rw[bq]at h;rw[bq,bq]
  by_cases e1:a=b
  ·rw[OR e1]
   by_cases e2:b=c
   ·rw[OR (e1.trans e2)]at h;rw[OR e2];exact kF r t u h
   ·rw[OQ (by rw[e1];exact e2)]at h;rw[OQ e2];exact .inr (by rw[<- e1];exact h)
  ·rw[OQ e1]
   by_cases e3:a=c
   ·rw[OQ ⋯]
    by_cases z:a < b
    ·exact .inl (A9 z)
    ·exact .inr (A9 ⋯)
   ·rw[OQ e3]at h;have h:=C0 h
    by_cases z:a < b
    ·exact .inl (A9 z)
    ·rw[OQ ⋯];exact .inr (A9 ⋯)
theorem gK:∀a b,bq a b=false->bq b a=false->a=b
 | [],[],_,_=>rfl
 | [],_ :: _,h,_=>by cases h
 | _ :: _,[],_,h=>by cases h
 | a :: r,b :: t,h1,h2=>by
  rw[bq]at h1 h2
  by_cases e:a=b
  ·rw[OR e]at h1;rw[OR e.symm]at h2;rw[e,gK r t h1 h2]
  ·rw[OQ e]at h1;rw[OQ (Ne.symm e)]at h2;have:=of_decide_eq_false h1;have:=of_decide_eq_false h2;exact absurd (show a=b by lia) e
theorem jI:∀{as:OI OE}{its:OI F9},Vals (as.map V.ref) its->its=as.map Value.ref
 | [],_,r=>by cases r;rfl
 | a :: as,_,r=>by
  cases r with
  | cons r1 r2=>
   have e:_=Value.ref a:=r1;subst e;rw[J4,jI r2]
theorem jJ:∀as:OI OE,Vals (as.map V.ref) (as.map Value.ref)
 | []=>.nil
 | a :: as=>.cons rfl (jJ as)
theorem tP{α β:Type}{f:α->β}(g:β->OG α)(hg:∀a,g (f a)=some a){l:OI β}{as:OI α}(h:l.Perm (as.map f)):∃as':OI α,l=as'.map f/\as'.Perm as:=by
 refine%[l.filterMap g,?_|?_]
 ·have all:∀x∈l,∃a,f a=x:=λ x hx=>by obtain⟨a,_,e⟩:=M4.mp (h.mem_iff.mp hx);exact%[a|e]
  clear h
  induction l with
  | nil=>rfl
  | cons x r ih=>
   obtain⟨a,rfl⟩:=all x B7;rw[K5,hg a,J4,<- ih λ y hy=>all y (B3 _ hy)]
 ·have:=h.filterMap g;rw[List.filterMap_map,show(g∘f)=some from funext hg,List.filterMap_some]at this;exact this
section
variable{X:Cx}
inductive rz_call_sumT(K:C4)(xs:OI V)(H:Hp)(Q:VK):Prop
|mk(p:OE)(ns:OI Int)(_:xs=[.ref p])(_:SqT K H p (ns.map V.int))(_:Q (.int ns.sum) H)
inductive rz_mt_extendT(K:C4)(x:V)(vs:OI V)(H:Hp)(Q:VK):Prop
|mk(l b xs zs:_)(_:x=.ref l)(_:vs=[.ref b])(_:H l=↥xs)(_:SqT K H b zs)(_:xs.length+zs.length<=sizeLine)(_:Q .non (upd H l (.lst (xs ++ zs))))
end
end L2
namespace PySem
theorem Paired.getL{α β:Type}{F:α->β->Prop}:∀{l₁:OI α}{l₂:OI β}{i:Nat}{y:β},Paired F l₁ l₂->l₂[i]?=some y->∃x,l₁[i]?=some x/\F x y
 | _,_,_,_,.nil,e=>by simp at e
 | _,_,0,_,.cons h _,e=>by simp at e;subst e;exact%[_,O|h]
 | _,_,i+1,y,.cons _ t,e=>by obtain⟨x,h1,h2⟩:=Paired.getL (i:=i) t (by simpa using e);exact%[x,by simpa using h1|h2]
end PySem
namespace L2
open PySem PySem.Spec PyProof.Rows
def Itv(K:C4)(a:OE)(n:Nat):It :=
 %[λ i H=>i < n/\∃xs x,SqL K H a xs/\xs[n - 1 - i]?=some x,λ i H x H'=>H'=H/\∀xs,SqL K H a xs->xs[n - 1 - i]?=some x|λ i _=>n=i]
theorem tQ{P:F6}{w:F8}{K:C4}{tg:Expr}(a it:OE)(n:Nat):Turn P w K tg (Itv K a n) [it] it (λ i h=>h.IsRevIter it a ((n:Int) - 1 - (i:Int))) where
 mem:=by simp
 obj:=λ i h st b hb=>by
  have e:b=it:=by simpa using hb
  subst e;obtain⟨o,e,c,d⟩:=st;exact%[o,e|λ v z=>by rw[d]at z;cases z]
 keep:=λ i h h' st k=>st.at λ o e=>k it (by simp) o e
 item:=by
  intro X hP hw hK hc i OK s σ H E I hf st hg;subst hP hw hK;obtain⟨hi,xs,x,hq,hx⟩:=hg;obtain⟨its,rv,p,hz⟩:=I.list hq;obtain⟨u,hu,ru⟩:=rv.get hx;obtain⟨f0,f1,f2,f3,f4,f5⟩:=hf it (by simp);have ei:(n:Int) - 1 - (i:Int)=((n - 1 - i:Nat):Int):=⋯
  rw[ei]at st;refine wpAny_pyNext_rev_item st p.isList (x:=u) (by simpa using hu) λ h' st' sb=>?_;have I1:Inv X OK σ H { s with heap:=h' }:=I.turned (t':=s.toks) (λ b o hb e=>(sb.2 b hb).trans e) f0 f1 f3 f4 f5;rw[show((n - 1 - i:Nat):Int) - 1=(n:Int) - 1 - ((i+1:Nat):Int)by lia]at st';obtain⟨o,e,c,d⟩:=id st';exact%[u,O|oP (s:={ s with heap:=h' }) e c d ∅ %[x,H,I1,ru,%[O|λ ys hy=>by rw[I.list_inj hy hq];exact hx],st'|λ b hb=>(hf b hb).1]]
 done:=by intro X hP hw hK hc i OK s σ H E I hf st hg;subst hP hw hK;have hg:n=i:=hg;obtain⟨f0,f1,f2,f3,f4,f5⟩:=hf it (by simp);rw[show(n:Int) - 1 - (i:Int)=-1 by lia]at st;exact wpAny_pyNext_rev_end (I.ok.hd hc) st λ h' eb=>%[O|I.turned (t':=s.toks) (λ b o hb e=>eb b o hb e) f0 f1 f3 f4 f5]
 self:=λ _ _ _ _ _ st h=>wpAny_pyIter_revIter st h
section
variable{X:Cx}{tg:Expr}
def Ls(K:C4)(ta:TA):TI:=λ σ H R=>ta σ H λ vs H1=>∃a xs,vs=[V.ref a]/\SqL K H1 a xs/\R (Itv K a xs.length) H1
theorem zp{a:Expr}{ta:TA}{p pos:Pos}(hg:Gl X "reversed")(hm:X.mg "reversed" = none)(ha:PA X [a] ta)(hs:starEach [a] X.env=[(false,eval a X.env)]:=by rfl):PI X tg (.Call (.Name "reversed" p) [a] [] pos) (Ls X.K ta):=by
 intro OK s σ H R I h;refine Call_ (gx I hg hm boot_reversed (Os (thn (ha pos OK s σ H _ I h) ?_) hs rfl));rintro us s1 ⟨vs,H1,I1,r1,q1⟩;obtain⟨l,xs,e,hq,q⟩:=q1;subst e;cases r1 with
 | cons r rr=>
  cases rr;cases r;obtain⟨its,rv,pl,hz⟩:=I1.list hq;have hl:=rv.length;refine call_reversed_list pl.isList ?_;have st:(s1.heap.push (revObj l ((its.toArray.size:Int) - 1))).IsRevIter s1.heap.objs.size l ((xs.length:Int) - 1 - ((0:Nat):Int)):=by refine%[_,A7 _ rfl,O|?_];show Data.fields #[.ref l,rawInt ((its.toArray.size:Int) - 1)]=_;rw[G7,hl,show(its.length:Int) - 1 - ((0:Nat):Int)=(its.length:Int) - 1 by simp]
  refine wpAny_pyIter_revIter st %[s1.heap.objs.size,[s1.heap.objs.size],_,_,H1,rfl,I1.kept (t':=s1.toks) λ b o e=>A6 _ e,tQ l _ _,st,λ b hb=>?_|q];have e:b=s1.heap.objs.size:=by simpa using hb
  subst e;exact I1.fpOk (B2 _) (I1.hok.fresh (B2 _))
end
section
variable{P:F6}{w:F8}{K:C4}{mg:Str->OG F9}{base:Heap}
theorem FnOk.weak{k:Nat}{f:OE}{fd:F7}{ps:OI Str}{sp:Sp}(F:FnOk P w K mg base CX0 k f fd ps sp):FnOk P w K mg base (CXx P w) k f fd ps sp :=
 ⟨F.len,λ A outer s H args us vs Q E hr he hb hv hs=>Oz (F.run A outer s H args us vs Q E hr he hb hv hs) λ r s' h=>by
  cases r with
  | ok r=>cases r <;> exact h
  | error e=>exact E5 h⟩
theorem FnOk.or{CX:CXT}{k:Nat}{f:OE}{fd:F7}{ps:OI Str}{sp sp':Sp}(F:FnOk P w K mg base CX k f fd ps sp)(G:FnOk P w K mg base CX k f fd ps sp'):FnOk P w K mg base CX k f fd ps (λ vs H Q E=>sp vs H Q E\/sp' vs H Q E) :=
 %[λ vs H Q E h=>h.elim (F.len vs H Q E) (G.len vs H Q E)|λ A outer s H args us vs Q E hr he hb hv hs=>hs.elim (F.run A outer s H args us vs Q E hr he hb hv) (G.run A outer s H args us vs Q E hr he hb hv)]
variable{N:OI Str}{qual:Str}{scope:Scope}{f:OE}{cd:F9}{A:Around}{outer:OI Env}{s₀:F5}{H₀:Hp}{E:XK}
theorem ie{e:Expr}{tx:TX}(he:PEx (bJ (CXx P w) P w K mg base N qual scope f cd A outer s₀ H₀ E) e tx):PE (bJ (CXx P w) P w K mg base N qual scope f cd A outer s₀ H₀ E) e (λ σ H Q=>tx σ H Q E) :=
 λ OK s σ H Q I h=>OU (he OK s σ H Q E I h) (λ _ _ z=>z) λ v s1 hx=>pf hx
end
end L2
namespace L2
open PySem PySem.Spec PyProof.Rows PySem.SeqAt
section
variable{X:Cx}
def mY:F9->Bool
 | .bool b=>b
 | _=>false
theorem zq{b c:Bool}{its:OI F9}(r:Vals [V.bl b,V.bl c] its):its=[.bool b,.bool c]:=by
 cases r with
 | cons r1 r2=>
  cases r2 with
  | cons r3 r4=>
   cases r4;cases r1;cases r3
   rfl
theorem pi{A:Around}{s:F5}{b c:Bool}:∀y,y∈[Value.bool b,Value.bool c].toArray->EqAt A s y (.bool true) (mY y):=λ y hy=>by
 have hy:y∈[Value.bool b,Value.bool c]:=by simpa using hy
 have t:∀d:Bool,EqAt A s (.bool d) (.bool true) (mY (.bool d)):=λ d=>by have:=EqAt.bool_bool (A:=A) (s:=s) d true;rwa [show(d == true)=d by cases d <;> rfl]at this
 rcases G6.mp hy with rfl | hy
 ·exact t b
 ·rw[C9.mp hy];exact t c
inductive rz_mt_countT(x:V)(vs:OI V)(H:Hp)(Q:VK):Prop
|mk(l b c:_)(_:x=.ref l)(_:vs=[.bl true])(_:H l=↥[.bl b,.bl c])(_:Q (.int ((if b=true then 1 else 0)+(if c=true then 1 else 0))) H)
inductive rz_mt_indexT(x:V)(vs:OI V)(H:Hp)(Q:VK):Prop
|mk(l b c:_)(_:x=.ref l)(_:vs=[.bl true])(_:H l=↥[.bl b,.bl c])(_:((b=true/\Q (.int 0) H)\/(b=false/\c=true/\Q (.int 1) H)))
end
open PySem.AutoSeq1 (wpAny_loadPart')
theorem eV(l:OE)(es:OH DictEntry)(n:Nat)(dd:OG OE)(sl:OH (OG F9))(b:Int)(u:Tok) :
  Meets (Builtin.«dict.__eq__» %[[.ref l,.int b u]|[]]) (λ _ R s=>s.heap.get? l=some { cls:=.type "dict",dict:=dd,data:=.dict es n,slots:=sl }/\R (.ok (.ret .notImplemented)) s) :=
 .of_wp λ prog w A R s h=>by obtain⟨hp,g,d,tk,os⟩:=s;obtain⟨hl,h⟩:=h;have f1:=F.sub_int_dict;wp_walk using OY hl,wpAny_load hl;exact%[_,O|h]
theorem eF(l:OE)(es:OH DictEntry)(n:Nat)(dd:OG OE)(sl:OH (OG F9))(b:Bool) :
  Meets (Builtin.«dict.__eq__» %[[.ref l,.bool b]|[]]) (λ _ R s=>s.heap.get? l=some { cls:=.type "dict",dict:=dd,data:=.dict es n,slots:=sl }/\R (.ok (.ret .notImplemented)) s) :=
 .of_wp λ prog w A R s h=>by obtain⟨hp,g,d,tk,os⟩:=s;obtain⟨hl,h⟩:=h;have f1:=F.sub_bool_dict;wp_walk using OY hl,wpAny_load hl;exact%[_,O|h]
theorem dq(b:Bool)(l:OE)(c:F9)(es:OH DictEntry)(n:Nat)(dd:OG OE)(sl:OH (OG F9)) :
  Meets (Builtin.«int.__eq__» %[[.bool b,.ref l]|[]]) (λ _ R s=>s.heap.get? l=some { cls:=c,dict:=dd,data:=.dict es n,slots:=sl }/\R (.ok (.ret .notImplemented)) s) :=
 .of_wp λ prog w A R s h=>by obtain⟨hp,g,d,tk,os⟩:=s;obtain⟨hl,h⟩:=h;wp_walk using OY hl,wpAny_load hl;exact%[_,O|h]
theorem dG(b:Int)(u:Tok)(l:OE)(c:F9)(es:OH DictEntry)(n:Nat)(dd:OG OE)(sl:OH (OG F9)) :
  Meets (Builtin.«int.__eq__» %[[.int b u,.ref l]|[]]) (λ _ R s=>s.heap.get? l=some { cls:=c,dict:=dd,data:=.dict es n,slots:=sl }/\R (.ok (.ret .notImplemented)) s) :=
 .of_wp λ prog w A R s h=>by obtain⟨hp,g,d,tk,os⟩:=s;obtain⟨hl,h⟩:=h;wp_walk using OY hl,wpAny_load hl;exact%[_,O|h]
section
variable{A:Around}{s:F5}
theorem EqAt.int_dict{l:OE}{o:Obj}{es:OH DictEntry}{n:Nat}(b:Int)(u:Tok)(ho:s.heap.get? l=some o)(hc:o.cls=.type "dict")(hd:o.data=.dict es n)(hu:A.units < cLine):EqAt A s (.int b u) (.ref l) false:=λ prog w E Q h=>by
 obtain⟨cls,dd,data,sl⟩:=o;simp only at hc hd;subst hc hd;unfold eqBool;refine OV ?_;refine wpAny_ite_split (λ hab=>absurd (eq_of_beq hab) nofun) (λ _=>?_);exact A0 (rc_eq_decline_or (k:=false) (typeIs_int s b u) %[_,ho|rfl] ∅ F.sub_dict_int F.slot_int_eq F.slot_dict_eq_refl
  (λ _ hq=>O3 F.slot_int_eq (typeIs_int s b u) F.entry_int_eq (F.args_int_eq_2 _ _) (dG b u l (.type "dict") es n dd sl) %[ho|hq])
  (λ _ hq=>O3 F.slot_dict_eq_refl %[_,ho|O] F.entry_dict_eq (F.args_dict_eq_2 _ _) (eV l es n dd sl b u) %[ho|hq])
  (λ _ hq=>wpAny_of_eq (rfl:isSame (.int b u) (.ref l)=pure false) hq) (.inr hu) (F1 h))
theorem EqAt.bool_dict{l:OE}{o:Obj}{es:OH DictEntry}{n:Nat}(b:Bool)(ho:s.heap.get? l=some o)(hc:o.cls=.type "dict")(hd:o.data=.dict es n)(hu:A.units < cLine):EqAt A s (.bool b) (.ref l) false:=λ prog w E Q h=>by
 obtain⟨cls,dd,data,sl⟩:=o;simp only at hc hd;subst hc hd;unfold eqBool;refine OV ?_;refine wpAny_ite_split (λ hab=>absurd (eq_of_beq hab) nofun) (λ _=>?_);exact A0 (rc_eq_decline_or (k:=false) rfl %[_,ho|rfl] ∅ F.sub_dict_bool F.slot_bool_eq F.slot_dict_eq_refl
  (λ _ hq=>O3 F.slot_bool_eq rfl F.entry_int_eq (F.args_int_eq_2 _ _) (dq b l (.type "dict") es n dd sl) %[ho|hq])
  (λ _ hq=>O3 F.slot_dict_eq_refl %[_,ho|O] F.entry_dict_eq (F.args_dict_eq_2 _ _) (eF l es n dd sl b) %[ho|hq])
  (λ _ hq=>wpAny_of_eq (rfl:isSame (.bool b) (.ref l)=pure false) hq) (.inr hu) (F1 h))
end
section
variable{X:Cx}{OK:OI (OE×Obj)}{σ:St}{H:Hp}{s:F5}
def eI:V->Int->Bool
 | .int j,i=>i == j
 | .bl b,i=>i == (if b=true then 1 else 0)
 | _,_=>false
def eB:V->Bool->Bool
 | .bl b,c=>c == b
 | .int j,c=>(if c=true then 1 else 0) == j
 | _,_=>false
def OdV(K:C4)(H:Hp)(v:V):Prop:=v=.non\/(∃b,v=.bl b)\/(∃i,v=.int i)\/(∃z,v=.str z)\/∃a,v=.ref a/\((∃xs,SqL K H a xs)\/(∃xs,SqT K H a xs)\/H a=some (.dK []))
theorem Inv.dct(I:Inv X OK σ H s){a:OE}(h:H a=some (.dK [])):∃o es n,s.heap.get? a=some o/\o.cls=.type "dict" /\ o.data=.dict es n:=by obtain⟨_,ne,vs,kv',o,es,ep,h1,h2,h3,_⟩:=I.hok a _ h;exact%[o,es,ep,h1,h2.1|h3]
theorem Inv.eqI(I:Inv X OK σ H s){A:Around}(hu:A.units < cLine){v:V}(h:OdV X.K H v){u:F9}(r:RelV v u)(i:Int)(t:Tok):EqAt A s (.int i t) u (eI v i):=by
 rcases h with rfl | ⟨b,rfl⟩ | ⟨j,rfl⟩ | ⟨z,rfl⟩ | ⟨a,rfl,h⟩
 ·cases(show u=Value.none from r);exact EqAt.int_none i t
 ·cases(show u=Value.bool b from r);exact EqAt.int_bool i t b
 ·obtain⟨t',e⟩:=(show∃t,u=Value.int j t from r);subst e;exact EqAt.int_int i t j t'
 ·obtain⟨t',e⟩:=(show∃t,u=Value.str z t from r);subst e;exact EqAt.int_str i t z t'
 ·cases(show u=Value.ref a from r);rcases h with⟨xs,h⟩ | ⟨xs,h⟩ | h
  ·obtain⟨its,rv,⟨o,n,e,c,_,d⟩,_⟩:=I.list h;exact EqAt.int_list i t %[o,e,c,n|d] hu
  ·obtain⟨its,rv,⟨o,e,c,n,d⟩,_⟩:=I.tuple h;exact EqAt.int_tuple i t %[o,e,c,n|d] hu
  ·obtain⟨o,es,n,e,c,d⟩:=I.dct h;exact EqAt.int_dict i t e c d hu
theorem Inv.eqB(I:Inv X OK σ H s){A:Around}(hu:A.units < cLine){v:V}(h:OdV X.K H v){u:F9}(r:RelV v u)(c:Bool):EqAt A s (.bool c) u (eB v c):=by
 rcases h with rfl | ⟨b,rfl⟩ | ⟨j,rfl⟩ | ⟨z,rfl⟩ | ⟨a,rfl,h⟩
 ·cases(show u=Value.none from r);exact EqAt.bool_none c
 ·cases(show u=Value.bool b from r);exact EqAt.bool_bool c b
 ·obtain⟨t',e⟩:=(show∃t,u=Value.int j t from r);subst e;exact EqAt.bool_int c j t'
 ·obtain⟨t',e⟩:=(show∃t,u=Value.str z t from r);subst e;exact EqAt.bool_str c z t'
 ·cases(show u=Value.ref a from r);rcases h with⟨xs,h⟩ | ⟨xs,h⟩ | h
  ·obtain⟨its,rv,⟨o,n,e,c',_,d⟩,_⟩:=I.list h;exact EqAt.bool_list c %[o,e,c',n|d] hu
  ·obtain⟨its,rv,⟨o,e,c',n,d⟩,_⟩:=I.tuple h;exact EqAt.bool_tuple c %[o,e,c',n|d] hu
  ·obtain⟨o,es,n,e,c',d⟩:=I.dct h;exact EqAt.bool_dict c e c' d hu
def PrB(H:Hp)(z:V)(q:Int×Bool):Prop:=∃b,z=.ref b/\H b= ~~~[.int q.1,.bl q.2]
def eP(H:Hp)(v1 v2:V):F9->Bool
 | .ref b=>match H b with
  | some (.tup [.int i,.bl c])=>eI v1 i && eB v2 c
  | _=>false
 | _=>false
theorem yz{b:OE}{v1 v2:V}{i:Int}{c:Bool}(h:H b= ~~~[.int i,.bl c]):eP H v1 v2 (.ref b)=(eI v1 i && eB v2 c):=by
 show(match H b with
  | some (.tup [.int i,.bl c])=>eI v1 i && eB v2 c
  | _=>false)=_
 rw[h]
theorem tR{v1 v2:V}:∀{zs:OI V}{qs:OI (Int×Bool)}{its:OI F9},Paired (PrB H) zs qs->Vals zs its->its.any (eP H v1 v2)=qs.any λ q=>eI v1 q.1 && eB v2 q.2
 | _,_,_,.nil,.nil=>rfl
 | _,_,_,.cons ⟨b,e,h⟩ r,.cons r1 rs=>by subst e;cases r1;rw[List.any_cons,List.any_cons,yz h,tR r rs]
theorem pj{i:Int}:eI (.int i) i=true:=by show(i == i)=true;simp
theorem pk{c:Bool}:eB (.bl c) c=true:=by show(c == c)=true;simp
inductive rz_op_notInP(K:C4)(x:V)(y:V)(H:Hp)(Q:VK):Prop
|mk(a l v1 v2 zs qs:_)(_:x=.ref a)(_:y=.ref l)(_:H a= ~~~[v1,v2])(_:OdV K H v1)(_:OdV K H v2)(_:H l=↥zs)(_:Paired (PrB H) zs qs)(_:Q (.bl (!qs.any λ q=>eI v1 q.1 && eB v2 q.2)) H)
theorem qI(hu:X.A.units+65 < cLine):OpR X (compareOp .NotIn) (rz_op_notInP X.K):=by
 intro OK s σ H x y v u Q I rx ry h;obtain⟨a,l,v1,v2,zs,qs,rfl,rfl,ha,o1,o2,hl,pq,q⟩:=h;cases rx;cases ry;obtain⟨its,rv,⟨o,n,e,c,_,d⟩,_⟩:=I.list (G2 hl);obtain⟨ias,rva,⟨oa,ea,ca,na,da⟩,_⟩:=I.tuple (G1 ha);refine notIn_listAt (eP H v1 v2) %[o,e,c,n|d] (λ y hy=>?_) ?_
 ·have hy:y∈its:=by simpa using hy
  obtain⟨j,hj⟩:=List.mem_iff_getElem?.mp hy;obtain⟨z,hz⟩:∃z,zs[j]?=some z:=%[_|E9 (by have:=rv.length;have:=(A5.mp hj).1;lia)]
  obtain⟨y',hy',rz⟩:=rv.get hz;obtain rfl:y'=y:=by rw[hj]at hy';exact(B8 hy').symm
  obtain⟨q',hq,b,rfl,hb⟩:=Pc.Paired.getR pq hz;cases rz;rw[yz hb];obtain⟨ibs,rvb,⟨ob,eb,cb,nb,db⟩,_⟩:=I.tuple (G1 hb);cases rva with
  | cons ra1 ra=>cases ra with
   | cons ra2 ra=>cases ra with
    | nil=>
     cases rvb with
     | cons rb1 rb=>cases rb with
      | cons rb2 rb=>cases rb with
       | nil=>
        obtain⟨t,et⟩:=(show∃t,_=Value.int q'.1 t from rb1)
        subst et;cases rb2
        by_cases hab:b=a
        ·subst hab;obtain⟨k1,k2⟩:V.int q'.1=v1/\V.bl q'.2=v2:=by rw[ha]at hb;cases hb;exact%[O|O]
         subst k1;subst k2;rw[pj,pk];exact EqAt.same _
        ·refine EqAt.of_refs hab ?_;have:=RcAt.tuples (A:=X.A.in1) (s:=s) (e:=λ j=>if j=0 then eI v1 q'.1 else eB v2 q'.2) %[ob,eb,cb,nb|db] %[oa,ea,ca,na|da] (show X.A.units+1 < cLine by lia) (λ j h1 h2=>?_)
         ·have hh:∀p r:Bool,(((List.range (min 2 2)).all λ j=>if j=0 then p else r) && (2 == 2))=(p && r):=λ p r=>by cases p <;> cases r <;> rfl
          rw[<- hh];exact this
         ·have:j=0\/j=1:=by have:j < 2:=h1;lia
          rcases this with rfl | rfl
          ·exact I.eqI (show X.A.units+1+1 < cLine by lia) o1 ra1 _ _
          ·exact I.eqB (show X.A.units+1+1 < cLine by lia) o2 ra2 _
 ·rw[List.any_toArray,tR pq rv];exact%[.bl _,H,I,O|q]
end
end L2
namespace L2
open PySem PySem.Spec PyProof.Rows
section
variable{X:Cx}{tg:Expr}
def Eo(K:C4)(tl:TE):TI:=λ σ H R=>tl σ H λ x H1=>∃a,x=.ref a/\(((∃xs,SqL K H1 a xs)/\R (Itl K a) H1)\/((∃xs,SqT K H1 a xs)/\R (Itt K a) H1))
theorem kG{l:Expr}{tl:TE}(hl:PE X l tl):PI X tg l (Eo X.K tl):=by
 intro OK s σ H R I h;refine thn (hl OK s σ H _ I h) ?_;rintro v s1 ⟨x,H1,I1,r1,q1⟩;obtain⟨a,e,hq⟩:=q1;subst e;cases r1;have fr:∀b∈[s1.heap.objs.size],eK X OK H1 b:=λ b hb=>by
  have e:b=s1.heap.objs.size:=by simpa using hb
  subst e;exact I1.fpOk (B2 _) (I1.hok.fresh (B2 _))
 rcases hq with⟨⟨xs,hq⟩,q⟩ | ⟨⟨xs,hq⟩,q⟩
 ·obtain⟨its,rv,p,hz⟩:=I1.list hq;refine wpAny_pyIter_list p.isList ?_;exact%[s1.heap.objs.size,[s1.heap.objs.size],_,_,H1,O,I1.kept (t':=s1.toks) λ b o e=>A6 _ e,js a _,%[_,A7 _ rfl,O|O],fr|q]
 ·obtain⟨its,rv,p,hz⟩:=I1.tuple hq;refine wpAny_pyIter_tuple (show s1.heap.IsTuple a its.toArray from p) ?_;exact%[s1.heap.objs.size,[s1.heap.objs.size],_,_,H1,O,I1.kept (t':=s1.toks) λ b o e=>A6 _ e,iz a _,%[_,A7 _ rfl,O|O],fr|q]
end
mutual
inductive Tl where
 | rest
 | piece (i:Nat) (c:Bool) (x y:Int)
 | row (dn:Bool) (r:Tls)
inductive Tls where
 | nil
 | cons (n:Int) (t:Tl) (r:Tls)
end
def wyL(dn:Bool):Str:=if dn=true then "down" else "across"
def b01(c:Bool):Int:=if c=true then 1 else 0
theorem kH{a b:Bool}(h:b01 a=b01 b):a=b:=by cases a <;> cases b <;> first | rfl | exact absurd h ∅
mutual
noncomputable def enc:Tl->OI Int
 | .rest=>[3]
 | .piece i c x y=>[2,i,b01 c,x,y]
 | .row dn r=>b01 dn :: eG r
noncomputable def eG:Tls->OI Int
 | .nil=>[0]
 | .cons n t r=>1 :: n :: (enc t ++ eG r)
end
mutual
noncomputable def tlD:Tl->PyData
 | .rest=>.tuple [.str "rest"]
 | .piece i c x y=>.tuple [.str "piece",.int i,.bool c,.int x,.int y]
 | .row dn r=>.tuple [.str (wyL dn),.tuple (aF r)]
noncomputable def aF:Tls->OI PyData
 | .nil=>[]
 | .cons n t r=>.tuple [.int n,tlD t] :: aF r
end
mutual
theorem ig:∀(t u:Tl)(r r':OI Int),enc t ++ r=enc u ++ r'->t=u/\r=r'
 | .rest,.rest,r,r',h=>by simpa[enc]using h
 | .rest,.piece ..,r,r',h=>by simp[enc]at h
 | .rest,.row dn _,r,r',h=>by cases dn <;> simp[enc,b01]at h
 | .piece ..,.rest,r,r',h=>by simp[enc]at h
 | .piece i c x y,.piece i' c' x' y',r,r',h=>by simp only[enc,K8,List.cons.injEq,List.nil_append,true_and]at h;obtain⟨h1,h2,h3,h4,h5⟩:=h;rw[kH h2,h3,h4,show i=i' by lia];exact%[O|h5]
 | .piece ..,.row dn _,r,r',h=>by cases dn <;> simp[enc,b01]at h
 | .row dn _,.rest,r,r',h=>by cases dn <;> simp[enc,b01]at h
 | .row dn _,.piece ..,r,r',h=>by cases dn <;> simp[enc,b01]at h
 | .row dn a,.row dn' a',r,r',h=>by simp only[enc,K8,List.cons.injEq]at h;obtain⟨h1,h2⟩:=lL a a' r r' h.2;rw[kH h.1,h1];exact%[O|h2]
theorem lL:∀(t u:Tls)(r r':OI Int),eG t ++ r=eG u ++ r'->t=u/\r=r'
 | .nil,.nil,r,r',h=>by simpa[eG]using h
 | .nil,.cons ..,r,r',h=>by simp[eG]at h
 | .cons ..,.nil,r,r',h=>by simp[eG]at h
 | .cons n t a,.cons n' t' a',r,r',h=>by simp only[eG,K8,List.cons.injEq,true_and,N7]at h;obtain⟨h1,h2⟩:=ig t t' _ _ h.2;obtain⟨h3,h4⟩:=lL a a' r r' h2;rw[h.1,h1,h3];exact%[O|h4]
end
theorem wu{t u:Tl}(h:enc t=enc u):t=u:=(ig t u [] [] (by rw[h])).1
theorem pC:∀(l r r':OI Int),bq (l ++ r) (l ++ r')=bq r r'
 | [],_,_=>rfl
 | a :: l,r,r'=>by rw[K8,K8,bq,OR rfl];exact pC l r r'
theorem pE:∀(l l' r r':OI Int),(∀z,l ++ z≠l')->(∀z,l≠l' ++ z)->bq (l ++ r) (l' ++ r')=bq l l'
 | [],l',_,_,h,_=>absurd rfl (h l')
 | l,[],_,_,_,h=>absurd rfl (h l)
 | a :: l,b :: l',r,r',h1,h2=>by
  rw[K8,K8,bq,bq]
  by_cases e:a=b
  ·rw[OR e,OR e];exact pE l l' r r' (λ z hz=>h1 z (by rw[K8,e,hz])) (λ z hz=>h2 z (by rw[K8,e,hz]))
  ·rw[OQ e,OQ e]
theorem ww{t u:Tl}(h:t≠u)(r r':OI Int):bq (enc t ++ r) (enc u ++ r')=bq (enc t) (enc u) :=
 pE _ _ _ _ (λ z e=>h (ig t u z [] (by rw[J7];exact e)).1) (λ z e=>h (ig t u [] z (by rw[J7];exact e)).1)
theorem qJ(n n':Int)(t t':Tl)(r r':Tls):bq (eG (.cons n t r)) (eG (.cons n' t' r'))=bq (n :: (enc t ++ eG r)) (n' :: (enc t' ++ eG r')):=by rw[eG,eG,bq,OR rfl]
theorem Ep:(PyData.str "piece").canLay0=true:=∅
theorem zr(dn:Bool):(PyData.str (wyL dn)).canLay0=true:=by cases dn <;> decide +kernel
mutual
theorem fX:∀t:Tl,(tlD t).canLay0=true
 | .rest=>∅
 | .piece i c x y=>by have:=Ep;simp only[tlD,PyData.canLay0,PyData.canLayAll0,K1]at this ⊢;exact this
 | .row dn r=>by have h1:=zr dn;have h2:=fq r;simp only[tlD,PyData.canLay0,PyData.canLayAll0,K1]at h1 ⊢;rw[h1,h2];rfl
theorem fq:∀t:Tls,PyData.canLayAll0 (aF t)=true
 | .nil=>rfl
 | .cons n t r=>by have h1:=fX t;have h2:=fq r;simp only[aF,PyData.canLayAll0,PyData.canLay0,K1,J6];rw[h1,h2];rfl
end
mutual
theorem gL:∀t u:Tl,PyData.eqv (tlD t) (tlD u)=true↔t=u
 | .rest,.rest=>by simp[tlD,PyData.eqv,PyData.eqvAll]
 | .rest,.piece ..=>by simp[tlD,PyData.eqv,PyData.eqvAll]
 | .rest,.row dn _=>by simp[tlD,PyData.eqv,PyData.eqvAll]
 | .piece ..,.rest=>by simp[tlD,PyData.eqv,PyData.eqvAll]
 | .piece i c x y,.piece i' c' x' y'=>by
  simp only[tlD,PyData.eqv,PyData.eqvAll,G8,beq_iff_eq,true_and,and_true,Tl.piece.injEq];constructor
  ·rintro⟨h1,h2,h3,h4⟩;exact%[⋯,h2,h3|h4]
  ·rintro⟨h1,h2,h3,h4⟩;exact%[⋯,h2,h3|h4]
 | .piece ..,.row dn _=>by simp[tlD,PyData.eqv,PyData.eqvAll]
 | .row dn _,.rest=>by simp[tlD,PyData.eqv,PyData.eqvAll]
 | .row dn _,.piece ..=>by simp[tlD,PyData.eqv,PyData.eqvAll]
 | .row dn r,.row dn' r'=>by
  have h:=ii r r';simp only[tlD,PyData.eqv,PyData.eqvAll,G8,beq_iff_eq,and_true,Tl.row.injEq];rw[h];constructor
  ·rintro⟨h1,h2⟩;exact⟨by cases dn <;> cases dn' <;> first | rfl | exact absurd h1 ∅,h2⟩
  ·rintro⟨h1,h2⟩;rw[h1];exact%[O|h2]
theorem ii:∀t u:Tls,PyData.eqvAll (aF t) (aF u)=true↔t=u
 | .nil,.nil=>by simp[aF,PyData.eqvAll]
 | .nil,.cons ..=>by simp[aF,PyData.eqvAll]
 | .cons ..,.nil=>by simp[aF,PyData.eqvAll]
 | .cons n t r,.cons n' t' r'=>by have h1:=gL t t';have h2:=ii r r';simp only[aF,PyData.eqv,PyData.eqvAll,G8,beq_iff_eq,and_true,Tls.cons.injEq];rw[h1,h2,and_assoc]
end
theorem wA{t u:Tl}(h:tlD t=tlD u):t=u:=(gL t u).mp (by rw[h];exact(gL u u).mpr rfl)
end L2
namespace PySem.SeqAt
open AutoSeq1 (wpAny_loadPart')
open MeetsSeq MeetsSeq2 MeetsSeq3 SeqRoads2
def LtAt(A:Around)(s:F5)(y x:F9)(b:Bool):Prop :=
 ∀(prog:F6)(w:F8)(E Q:F9->F5->Prop),Q (.bool b) s->wpAny (model prog w) A (richCompare .Lt y x) Q E s
inductive LexAt(A:Around)(s:Shared)(fin:Bool):OI (Value×Value)->Bool->Prop
 | nil:LexAt A s fin [] fin
 | eq {x y:F9} {r:OI (F9×F9)} {c:Bool}:EqAt A s x y true->LexAt A s fin r c->LexAt A s fin ((x,y) :: r) c
 | ne {x y:F9} {r:OI (F9×F9)} {c:Bool}:EqAt A s x y false->LtAt A s x y c->LexAt A s fin ((x,y) :: r) c
theorem mZ(l b:OE)(items items2:OH F9)(n n2:Nat)(dd dd2:OG OE)(sl sl2:OH (OG F9))(c:Bool) :
  Meets (Builtin.«tuple.__lt__» %[[.ref l,.ref b]|[]])
   (λ A R s=>s.heap.get? l=some { cls:=.type "tuple",dict:=dd,data:=.seq items n,slots:=sl }/\s.heap.get? b=some { cls:=.type "tuple",dict:=dd2,data:=.seq items2 n2,slots:=sl2 } /\
    LexAt A.in1 s (decide (items.size < items2.size)) (items.toList.zip items2.toList) c/\R (.ok (.ret (.bool c))) s) :=
 .of_wp λ prog w A R s h=>by
  obtain⟨hp,g,d,tk,os⟩:=s;obtain⟨hl,hb,he,h⟩:=h;have f2:=AutoSeq1.sub_tuple_tuple
  wp_walk using OY hl,OY hb,wpAny_forIn_list _ (λ rest b s'=>b.1=none/\s'=%[hp,g,d,tk|os]/\LexAt A.in1 %[hp,g,d,tk|os] (decide (items.size < items2.size)) rest c) _
  case turn=>
   rintro⟨y,x⟩ rest b s' ⟨hb',rfl,hL⟩;cases hL with
   | eq h1 h2=>
    refine A0 (h1 prog w _ _ ?_)
    wp_walk
    exact%[O,O|h2]
   | ne h1 h2=>
    refine A0 (h1 prog w _ _ ?_);simp only[Bool.not_false,O1];refine A0 (O2 ?_);refine A0 (h2 prog w _ _ ?_)
    wp_walk
    exact%[_,O|h]
  case fin=>
   rintro⟨b1,b2⟩ s' ⟨hb',rfl,hL⟩;simp only at hb';subst hb';cases hL
   wp_walk
   exact%[_,O|by simpa[Builtin.Tuple.tupleCompareSizes]using h]
  case h=>
   exact%[O,O|he]
theorem LtAt.tuples{A:Around}{s:F5}{l b:OE}{items items2:OH F9}{c:Bool}(hl:s.heap.IsTuple l items)(hb:s.heap.IsTuple b items2)(hu:A.units < cLine)
  (he:LexAt A.in1 s (decide (items.size < items2.size)) (items.toList.zip items2.toList) c):LtAt A s (.ref l) (.ref b) c:=λ prog w E Q h=>by
 obtain⟨⟨cls,dd,data,sl⟩,ho,hc,n,hd⟩:=id hl;obtain⟨⟨cls2,dd2,data2,sl2⟩,ho2,hc2,n2,hd2⟩:=id hb;simp only at hc hd hc2 hd2;subst hc hd hc2 hd2;exact richCompare_meets_room (op:=.Lt) %[_,ho|rfl] %[_,ho2|rfl] F.slot_tuple_lt F.entry_tuple_lt (F.args_tuple_lt_2 _ _) (mZ l b items items2 n n2 dd dd2 sl sl2 c)
  %[ho,ho2,he|show Value.bool c≠Value.notImplemented/\Q (.bool c) s from%[(λ x=>nomatch x)|h]] hu
end PySem.SeqAt
namespace L2
open PySem PySem.Spec PyProof.Rows PySem.SeqAt
theorem bY{h:Heap}{a:F9}{ds:OI PyData}{as:OI OE}(r:Reads h a (.tuple ds) as):∃l vs bs,a=.ref l/\h.IsTuple l (List.toArray vs)/\ReadsAll h vs ds bs:=by
 cases r with
 | @tuple l o vs n xs as h1 h2 h3 h4=>exact%[l,vs.toList,_,O,%[o,h1,h2,n|by simpa using h3]|h4]
theorem aK{h:Heap}{vs:OI F9}{d:PyData}{ds:OI PyData}{as:OI OE}(r:ReadsAll h vs (d :: ds) as):∃v vs' bs cs,vs=v :: vs'/\Reads h v d bs/\ReadsAll h vs' ds cs:=by
 cases r with
 | cons h1 h2=>exact%[_,_,_,_,O,h1|h2]
theorem br{h:Heap}{vs:OI F9}{as:OI OE}(r:ReadsAll h vs [] as):vs=[]:=by cases r;rfl
theorem tS{A:Around}{s:F5}{x y:F9}{z z':Str}{as bs:OI OE}(hx:Reads s.heap x (.str z) as)(hy:Reads s.heap y (.str z') bs){c:Bool}(hne:(z == z')=false)(hc:decide (z.cps.toList < z'.cps.toList)=c){fin:Bool}{r:OI (F9×F9)}:LexAt A s fin ((x,y) :: r) c:=by
 cases hx;cases hy
 rename_i t u
 refine .ne ?_ λ prog w E Q h=>PyProof.Rows.lt_str (by rw[hc];exact h);have:=EqAt.str_str (A:=A) (s:=s) z t z' u;rw[hne]at this;exact this
theorem tT{A:Around}{s:F5}{x y:F9}{z:Str}{as bs:OI OE}(hx:Reads s.heap x (.str z) as)(hy:Reads s.heap y (.str z) bs):EqAt A s x y true:=by
 cases hx;cases hy
 rename_i t u
 have:=EqAt.str_str (A:=A) (s:=s) z t z u;rw[beq_self_eq_true]at this;exact this
theorem pF{A:Around}{s:F5}{x y:F9}{n m:Int}{as bs:OI OE}(hx:Reads s.heap x (.int n) as)(hy:Reads s.heap y (.int m) bs):EqAt A s x y (n == m):=by cases hx;cases hy;exact EqAt.int_int n _ m _
theorem wB{A:Around}{s:F5}{x y:F9}{n m:Int}{as bs:OI OE}(hx:Reads s.heap x (.int n) as)(hy:Reads s.heap y (.int m) bs):LtAt A s x y (decide (n < m)):=by cases hx;cases hy;exactλ prog w E Q h=>PyProof.Rows.lt_int h
theorem ij{A:Around}{s:F5}{x y:F9}{n m:Int}{as bs:OI OE}{fin:Bool}{r:OI (F9×F9)}{u v:OI Int}(hx:Reads s.heap x (.int n) as)(hy:Reads s.heap y (.int m) bs)(h:n=m->LexAt A s fin r (bq u v)):LexAt A s fin ((x,y) :: r) (bq (n :: u) (m :: v)):=by
 have e:=pF (A:=A) hx hy;rw[bq]
 by_cases c:n=m
 ·rw[OR c];rw[show(n == m)=true by simpa using c]at e;exact .eq e (h c)
 ·rw[OQ c];rw[show(n == m)=false by simpa using c]at e;exact .ne e (wB hx hy)
theorem tU{A:Around}{s:F5}{x y:F9}{n m:Bool}{as bs:OI OE}{fin:Bool}{r:OI (F9×F9)}{u v:OI Int}(hx:Reads s.heap x (.bool n) as)(hy:Reads s.heap y (.bool m) bs)(h:n=m->LexAt A s fin r (bq u v)):LexAt A s fin ((x,y) :: r) (bq (b01 n :: u) (b01 m :: v)):=by
 cases hx;cases hy;have e:=EqAt.bool_bool (A:=A) (s:=s) n m;rw[bq]
 by_cases c:n=m
 ·rw[OR (by rw[c])];rw[show(n == m)=true by simpa using c]at e;exact .eq e (h c)
 ·rw[OQ (λ z=>c (kH z))];rw[show(n == m)=false by simpa using c]at e;refine .ne e λ prog w E Q h=>PyProof.Rows.lt_bool ?_;have:decide (b2i n < b2i m)=decide (b01 n < b01 m):=by cases n <;> cases m <;> rfl
  show Q (.bool (decide (b2i n < b2i m))) s;rw[this];exact h
theorem pG{A:Around}{s:F5}{x y:F9}{fin c:Bool}{p:Prop}{k:Bool}(hp:k=true↔p)(h1:EqAt A s x y k)(h2:¬p->LtAt A s x y c)(h3:p->fin=c):LexAt A s fin [(x,y)] c:=by
 cases k with
 | true=>
  rw[<- h3 (hp.mp rfl)];exact .eq h1 .nil
 | false=>exact .ne h1 (h2 λ z=>absurd (hp.mpr z) ∅)
theorem ng(d:PyData)(ds:OI PyData):d.depth<=PyData.depthAll (d :: ds)/\PyData.depthAll ds<=PyData.depthAll (d :: ds):=by rw[PyData.depthAll];lia
def hdW:Tl->Str
 | .rest=>"rest"
 | .piece ..=>"piece"
 | .row dn _=>wyL dn
def hdI:Tl->Int
 | .rest=>3
 | .piece ..=>2
 | .row dn _=>b01 dn
def tlT:Tl->OI PyData
 | .rest=>[]
 | .piece i c x y=>[.int i,.bool c,.int x,.int y]
 | .row _ r=>[.tuple (aF r)]
def zt:Tl->OI Int
 | .rest=>[]
 | .piece i c x y=>[i,b01 c,x,y]
 | .row _ r=>eG r
theorem Er(t:Tl):tlD t=.tuple (.str (hdW t) :: tlT t):=by cases t <;> rw[tlD] <;> rfl
theorem tV(t:Tl):enc t=hdI t :: zt t:=by cases t <;> rw[enc] <;> rfl
theorem yA(t:Tl):(hdW t,hdI t)∈([("rest",3),("piece",2),("down",1),("across",0)]:OI (Str×Int)):=by
 cases t with
 | row dn r=>cases dn <;> simp[hdW,hdI,wyL,b01]
 | _=>simp[hdW,hdI]
theorem Es:∀p∈([("rest",3),("piece",2),("down",1),("across",0)]:OI (Str×Int)),∀q∈([("rest",3),("piece",2),("down",1),("across",0)]:OI (Str×Int)),(p.2=q.2->p.1=q.1)/\(p.2≠q.2->(p.1 == q.1)=false/\decide (p.1.cps.toList < q.1.cps.toList)=decide (p.2 < q.2)):=∅
theorem tW{t u:Tl}{A:Around}{s:F5}{a b:F9}{as bs:OI OE}(ra:Reads s.heap a (tlD t) as)(rb:Reads s.heap b (tlD u) bs)(hu:A.units < cLine)
  (k:∀vs ws as bs,hdI t=hdI u->ReadsAll s.heap vs (tlT t) as->ReadsAll s.heap ws (tlT u) bs->LexAt A.in1 s (decide (vs.length+1 < ws.length+1)) (vs.zip ws) (bq (zt t) (zt u))):LtAt A s a b (bq (enc t) (enc u)):=by
 rw[Er]at ra rb;obtain⟨l,vs,_,rfl,ta,ra⟩:=bY ra;obtain⟨v,vs,_,_,rfl,r1,ra⟩:=aK ra;obtain⟨l',ws,_,rfl,tb,rb⟩:=bY rb;obtain⟨w,ws,_,_,rfl,r2,rb⟩:=aK rb;obtain⟨h1,h2⟩:=Es _ (yA t) _ (yA u);refine .tuples ta tb hu ?_;rw[tV,tV,bq]
 by_cases e:hdI t=hdI u
 ·have h1:hdW t=hdW u:=h1 e;rw[h1]at r1;rw[OR e];exact .eq (tT r1 r2) (k _ _ _ _ e ra rb)
 ·rw[OQ e];obtain⟨h3,h4⟩:=h2 e;exact tS r1 r2 h3 h4
mutual
theorem yB:∀(t u:Tl)(A:Around)(s:F5)(a b:F9)(as bs:OI OE),Reads s.heap a (tlD t) as->Reads s.heap b (tlD u) bs->A.units+(tlD t).depth < cLine->LtAt A s a b (bq (enc t) (enc u))
 | .rest,u,A,s,a,b,as,bs,ra,rb,hu=>tW ra rb ⋯ λ vs ws _ _ e ra rb=>by
  cases br ra;cases u with
  | rest=>cases br rb;exact .nil
  | piece i c x y=>simp[hdI]at e
  | row dn r=>cases dn <;> simp[hdI,b01]at e
 | .piece i c x y,u,A,s,a,b,as,bs,ra,rb,hu=>tW ra rb ⋯ λ vs ws _ _ e ra rb=>by
  cases u with
  | rest=>simp[hdI]at e
  | piece i' c' x' y'=>
   obtain⟨v1,vs,_,_,rfl,a1,ra⟩:=aK ra;obtain⟨v2,vs,_,_,rfl,a2,ra⟩:=aK ra;obtain⟨v3,vs,_,_,rfl,a3,ra⟩:=aK ra;obtain⟨v4,vs,_,_,rfl,a4,ra⟩:=aK ra;cases br ra;obtain⟨w1,ws,_,_,rfl,c1,rb⟩:=aK rb;obtain⟨w2,ws,_,_,rfl,c2,rb⟩:=aK rb;obtain⟨w3,ws,_,_,rfl,c3,rb⟩:=aK rb;obtain⟨w4,ws,_,_,rfl,c4,rb⟩:=aK rb;cases br rb;exact ij a1 c1 λ _=>tU a2 c2 λ _=>ij a3 c3 λ _=>ij a4 c4 λ _=>.nil
  | row dn r=>cases dn <;> simp[hdI,b01]at e
 | .row dn r,u,A,s,a,b,as,bs,ra,rb,hu=>tW ra rb ⋯ λ vs ws _ _ e ra rb=>by
  cases u with
  | rest=>cases dn <;> simp[hdI,b01]at e
  | piece i c x y=>cases dn <;> simp[hdI,b01]at e
  | row dn' r'=>
   rw[tlD]at hu;obtain⟨v1,vs,_,_,rfl,a1,ra⟩:=aK ra;cases br ra;obtain⟨w1,ws,_,_,rfl,c1,rb⟩:=aK rb;cases br rb;have hu:A.units+(max 0 (max (PyData.depthAll (aF r)+1) 0)+1) < cLine:=hu;have k:PyData.eqv (.tuple (aF r)) (.tuple (aF r'))=true↔r=r':=ii r r';refine pG k (eqAt_reads _ _ _ s _ _ _ _ a1 c1 (fq r) (fq r') (by rw[PyData.depth];show A.units+1+_ < _;lia)) (λ _=>?_) (λ z=>by rw[z];exact(dh (eG r')).symm);obtain⟨p,ps,_,rfl,tp,rp⟩:=bY a1;obtain⟨q,qs,_,rfl,tq,rq⟩:=bY c1;refine .tuples tp tq (by show A.units+1 < _;lia) ?_;exact pH r r' _ s ps qs _ _ rp rq (by show A.units+1+1+_ < _;lia)
theorem pH:∀(r r':Tls)(A:Around)(s:F5)(vs ws:OI F9)(as bs:OI OE),ReadsAll s.heap vs (aF r) as->ReadsAll s.heap ws (aF r') bs->A.units+PyData.depthAll (aF r) < cLine->LexAt A s (decide (vs.length < ws.length)) (vs.zip ws) (bq (eG r) (eG r'))
 | .nil,.nil,A,s,vs,ws,as,bs,ra,rb,hu=>by cases br ra;cases br rb;exact .nil
 | .nil,.cons ..,A,s,vs,ws,as,bs,ra,rb,hu=>by cases br ra;rw[aF]at rb;obtain⟨w,ws,_,_,rfl,r2,rb⟩:=aK rb;exact .nil
 | .cons ..,.nil,A,s,vs,ws,as,bs,ra,rb,hu=>by cases br rb;rw[aF]at ra;obtain⟨w,ws,_,_,rfl,r2,ra⟩:=aK ra;exact .nil
 | .cons n t r,.cons m u r',A,s,vs,ws,as,bs,ra,rb,hu=>by
  rw[aF]at ra rb hu;obtain⟨v,vs,_,_,rfl,r1,ra9⟩:=aK ra;obtain⟨w,ws,_,_,rfl,r2,rb9⟩:=aK rb;have hd:=ng (.tuple [.int n,tlD t]) (aF r);have h0:(PyData.tuple [.int n,tlD t]).depth=max 0 (max (tlD t).depth 0)+1:=rfl;have k:PyData.eqv (.tuple [.int n,tlD t]) (.tuple [.int m,tlD u])=true↔n=m/\t=u:=by have:=gL t u;simp only[PyData.eqv,PyData.eqvAll,G8,beq_iff_eq,and_true];rw[this]
  have lay:∀(n:Int)(t:Tl),(PyData.tuple [.int n,tlD t]).canLay0=true:=λ n t=>by simp only[PyData.canLay0,PyData.canLayAll0,K1,J6];exact fX t
  have e:=eqAt_reads _ _ A s _ _ _ _ r1 r2 (lay n t) (lay m u) ⋯;rw[qJ,List.zip_cons_cons,show decide ((v :: vs).length < (w :: ws).length)=decide (vs.length < ws.length)by simp];cases z:PyData.eqv (.tuple [.int n,tlD t]) (.tuple [.int m,tlD u])with
  | true=>
   rw[z]at e;obtain⟨rfl,rfl⟩:=k.mp z;rw[bq,OR rfl,pC];exact .eq e (pH r r' A s vs ws _ _ ra9 rb9 ⋯)
  | false=>
   rw[z]at e;refine .ne e ?_;have nk:¬(n=m/\t=u):=λ y=>by rw[k.mpr y]at z;cases z
   obtain⟨p,ps,_,rfl,tp,rp⟩:=bY r1;obtain⟨q,qs,_,rfl,tq,rq⟩:=bY r2;obtain⟨v1,ps,_,_,rfl,a1,rp⟩:=aK rp;obtain⟨v2,ps,_,_,rfl,a2,rp⟩:=aK rp;cases br rp;obtain⟨w1,qs,_,_,rfl,c1,rq⟩:=aK rq;obtain⟨w2,qs,_,_,rfl,c2,rq⟩:=aK rq;cases br rq;refine .tuples tp tq ⋯ (ij a1 c1 λ hn=>?_);rw[ww (λ z=>nk %[hn|z])];exact pG (gL t u) (eqAt_reads _ _ _ s _ _ _ _ a2 c2 (fX t) (fX u) (by show A.units+1+_ < _;lia)) (λ _=>yB t u _ s _ _ _ _ a2 c2 (by show A.units+1+_ < _;lia)) (λ z=>absurd %[hn|z] nk)
end
end L2
namespace PyProof.Rows
open PySem
section
variable{prog:F6}{w:F8}{A:Around}{E:F9->F5->Prop}{s:F5}
theorem jk{l:OE}{vs:OI F9}{Q:OI F9->F5->Prop}(hl:s.heap.IsTuple l vs.toArray)
  (h:Q vs { s with heap:=(s.heap.push (seqObj "list" #[] 0)).update s.heap.objs.size (Obj.mapSeq (· ++ vs.toArray)) }) (hsz:vs.length<=sizeLine:=by size_fits) :
  wpAny (model prog w) A (collect (.ref l)) Q E s:=by
 obtain⟨o,ho,hc,n,hd⟩:=id hl;unfold collect;refine A0 (wpAny_runValue (codeAny_builtin entry_proto_collect' ?_));show wpAny _ _ (do again (.builtin "list.__iadd__" %[[<- newList [],.ref l]|[]])) _ _ s;refine A0 (wpAny_newList (A1 %[Code.quiet_builtin _ ∅|codeAny_builtin entry_list_iadd' ?_]));show wpAny _ _ (Builtin.List.listExtendWith (.ref s.heap.objs.size) (.ref l) (.ref s.heap.objs.size)) _ _ { s with heap:=s.heap.push (seqObj "list" #[] 0) };unfold Builtin.List.listExtendWith;have ho':(s.heap.push (seqObj "list" #[] 0)).get? l=some o:=A6 _ ho;refine A0 (wpAny_typeOf (T := "tuple") %[o,ho'|hc] ?_);rw[OR (by rw[show(Value.type "tuple" == Value.type "tuple")=true from rfl,Bool.or_true])];refine A0 (listItems_at ho' hd ?_);refine A0 (listItems_at (xs:=#[]) (n:=0) (A7 _ rfl) rfl ?_);rw[OQ (by simp)];refine A0 (listUpdate_at (xs:=#[]) (n:=0) (A7 _ rfl) rfl ?_ (E6 _) (by show(#[] ++ vs.toArray).size<=sizeLine+1;simp only[Array.size_append,G7,List.length_nil];lia));refine A1 ?_;show wpAny (model prog w) A (do
   let o<-load s.heap.objs.size
   match o.data with
   | .seq xs _=>pure xs.toList
   | _=>unsupported "internal:collect") Q E { s with heap:=(s.heap.push (seqObj "list" #[] 0)).update s.heap.objs.size (Obj.mapSeq (· ++ vs.toArray)) }
 refine A0 (wpAny_load (get?_update_seq (A7 _ rfl) _) ?_);show wpAny _ _ (pure ((#[]:OH F9) ++ vs.toArray).toList) Q E _;rw[show((#[]:OH F9) ++ vs.toArray).toList=vs by simp];exact A1 h
theorem iT{l:OE}{vs:OI F9}{Q:OI F9->F5->Prop}(hl:s.heap.IsList l vs.toArray\/s.heap.IsTuple l vs.toArray)
  (h:Q vs { s with heap:=(s.heap.push (seqObj "list" #[] 0)).update s.heap.objs.size (Obj.mapSeq (· ++ vs.toArray)) }) (hsz:vs.length<=sizeLine:=by size_fits) :
  wpAny (model prog w) A (collect (.ref l)) Q E s:=hl.elim (λ a=>collect_list a h hsz) λ a=>jk a h hsz
theorem tY{κ:KeyKind}{κ0:SortKind}{l:OE}{vs:OI F9}{Q:F9->F5->Prop}(hl:s.heap.IsList l vs.toArray\/s.heap.IsTuple l vs.toArray)(h0:KeysOf κ (pairsOf vs))(hkk:∀ (A':Around) (s':F5),A'.units<=A.units+4->(∀b o,s.heap.get? b=some o->s'.heap.get? b=some o)->cM prog w A' s' κ0 κ/\∀v₁ v₂ rest,vs=v₁ :: v₂ :: rest->∀ (Q:SortKind->F5->Prop) (E':F9->F5->Prop),Q κ0 s'->wpAny (model prog w) A' (keyKind' (v₁ :: v₂ :: rest).toArray) Q E' s')(h64:vs.length < 64)
  (h:∀st':SortSt,(arrOf st').Perm (pairsOf vs)->SortedToK κ (arrOf st') (pairsOf vs).size->Q (.ref (s.heap.objs.size+1)) { s with heap:=sortedAll s.heap vs ((arrOf st').map (·.2)) }) :
  wpAny (model prog w) A (call (.builtin "sorted") [.ref l]) Q E s:=by
 refine Calls.call_function_entry kind_sorted plain_sorted entry_sorted (args_sorted1 _) ?_;unfold Builtin.«sorted»;refine A0 (m:=checkCount "sorted" 1 1 _) (A1 ?_);refine A0 (iT hl ?_);refine A0 (wpAny_newList ?_);have hsz:((s.heap.push (seqObj "list" #[] 0)).update s.heap.objs.size (Obj.mapSeq (· ++ vs.toArray))).objs.size=s.heap.objs.size+1:=by rw[Heap.size_update,size_push']
 have hoL:(((s.heap.push (seqObj "list" #[] 0)).update s.heap.objs.size (Obj.mapSeq (· ++ vs.toArray))).push (seqObj "list" vs.toArray 0)).get? (s.heap.objs.size+1)=some (seqObj "list" vs.toArray 0):=by rw[<- hsz];exact A7 _ rfl
 show wpAny _ _ _ _ _ { s with heap:=((s.heap.push (seqObj "list" #[] 0)).update s.heap.objs.size (Obj.mapSeq (· ++ vs.toArray))).push (seqObj "list" vs.toArray 0) };rw[hsz];refine A0 (OV (F2 slot_list_sort %[_,hoL|rfl] entry_list_sort (hU hoL h0 (λ s' k=>by refine And.imp id (λ a2 v1 v2 r e Q q=>a2 v1 v2 r e Q _ q) (hkk _ s' ?_ (λ b o e=>k b o (B9 (Nat.lt_succ_of_lt (A8 e))) (A6 _ (by rw[Heap.get?_update_ne _ _ _ _ (B9 (Heap.lt_size e))];exact A6 _ e))));show A.units+1+1<=A.units+4;lia) h64 λ st' a1 a2=>%[_,O|?_]) (args_list_sort _)));exact A1 %[_,rfl|h st' a1 a2]
end
end PyProof.Rows
namespace L2
open PySem PySem.Spec PyProof.Rows PySem.SeqAt
mutual
theorem ik{h h':Heap}(k:∀b o,h.get? b=some o->h'.get? b=some o):∀{v:F9}{d:PyData}{as:OI OE},Reads h v d as->Reads h' v d as
 | _,_,_,.none=>.none
 | _,_,_,.bool b=>.bool b
 | _,_,_,.int i t=>.int i t
 | _,_,_,.str x t=>.str x t
 | _,_,_,.list h1 h2 h3 h4=>.list (k _ _ h1) h2 h3 (eW k h4)
 | _,_,_,.tuple h1 h2 h3 h4=>.tuple (k _ _ h1) h2 h3 (eW k h4)
 | _,_,_,.dict h1 h2 h3 h4 h5=>.dict (k _ _ h1) h2 h3 (eW k h4) (eW k h5)
theorem eW{h h':Heap}(k:∀b o,h.get? b=some o->h'.get? b=some o):∀{v:OI F9}{d:OI PyData}{as:OI OE},ReadsAll h v d as->ReadsAll h' v d as
 | _,_,_,.nil=>.nil
 | _,_,_,.cons a r=>.cons (ik k a) (eW k r)
end
def ItR(h:Heap)(m:Nat)(v:F9)(z:Int×Tl):Prop:=(∃as,Reads h v (.tuple [.int z.1,tlD z.2]) as)/\(tlD z.2).depth<=m
def cn(z:Int×Tl):OI Int:=z.1 :: enc z.2
theorem tZ{a b:Int×Tl}(h:cn a=cn b):a=b:=by
 obtain⟨n,t⟩:=a;obtain⟨m,u⟩:=b;have h:n :: enc t=m :: enc u:=h;injection h with h1 h2
 rw[h1,wu h2]
theorem zu(n:Int)(t:Tl):(PyData.tuple [.int n,tlD t]).canLay0=true:=by simp only[PyData.canLay0,PyData.canLayAll0,K1,J6];exact fX t
theorem ItR.uniq{h:Heap}{m:Nat}{v:F9}{a b:Int×Tl}(ha:ItR h m v a)(hb:ItR h m v b):a=b:=by obtain⟨⟨as,ra⟩,_⟩:=ha;obtain⟨⟨bs,rb⟩,_⟩:=hb;have:=Reads.unique _ _ v as bs (zu _ _) ra rb;obtain⟨n,t⟩:=a;obtain⟨n',t'⟩:=b;simp only[PyData.tuple.injEq,List.cons.injEq,PyData.int.injEq,and_true]at this;rw[this.1,wA this.2]
open Classical in
def lM(h:Heap)(m:Nat)(v:F9):OG (OI Int):=if e:∃z,ItR h m v z then some (cn e.choose)else none
theorem lN{h:Heap}{m:Nat}{v:F9}{k:OI Int}(e:lM h m v=some k):∃z,ItR h m v z/\k=cn z:=by
 unfold lM at e
 split at e
 ·rename_i x
  exact%[_,x.choose_spec|(B8 e).symm]
 ·cases e
theorem uh{h:Heap}{m:Nat}{v:F9}{z:Int×Tl}(hz:ItR h m v z):lM h m v=some (cn z):=by unfold lM;rw[dif_pos %[z|hz],(Exists.choose_spec (%[z|hz]:∃z,ItR h m v z)).uniq hz]
def tlK(h:Heap)(m:Nat):KeyKind where
 α:=OI Int
 blt:=bq
 irrefl:=dh
 trans:=gJ
 negTrans:=kF
 total:=gK
 keyOf:=lM h m
 dflt:=[]
section
variable{prog:F6}{w:F8}{A:Around}{E:F9->F5->Prop}{s:F5}
theorem ui{h:Heap}{m:Nat}(hu:A.units+m < cLine)(k:∀b o,h.get? b=some o->s.heap.get? b=some o):cM prog w A s (tuples' true) (tlK h m):=by
 intro E x y a b Q ha hb q;obtain⟨⟨n,t⟩,⟨⟨as,ra⟩,da⟩,rfl⟩:=lN ha;obtain⟨⟨n',t'⟩,⟨⟨bs,rb⟩,db⟩,rfl⟩:=lN hb;obtain⟨l,vs,_,rfl,⟨ox,hx,cx,nx,dx⟩,ra⟩:=bY (ik k ra);obtain⟨l',ws,_,rfl,⟨oy,hy,cy,ny,dy⟩,rb⟩:=bY (ik k rb);obtain⟨v1,vs,_,_,rfl,a1,ra⟩:=aK ra;obtain⟨v2,vs,_,_,rfl,a2,ra⟩:=aK ra;cases br ra;obtain⟨w1,ws,_,_,rfl,c1,rb⟩:=aK rb;obtain⟨w2,ws,_,_,rfl,c2,rb⟩:=aK rb;cases br rb;have q:Q (bq (n :: enc t) (n' :: enc t')) s:=q;rw[bq]at q;refine PySem.W.kat_lt hx dx hy dy (PySem.W.kat_cons (pF a1 c1 prog w _ _ (PySem.W.kat_go (λ e=>PySem.W.kat_yes (PySem.W.kat_cons ?_)) (λ e=>PySem.W.kat_no ?_))))
 ·have e:n=n':=by simpa using e
  rw[OR e]at q;have hd:A.units+min (tlD t).depth (tlD t').depth < cLine:=by have:(tlD t).depth<=m:=da;lia
  refine eqAt_reads _ _ A s _ _ _ _ a2 c2 (fX t) (fX t') hd prog w _ _ (PySem.W.kat_go (λ e=>PySem.W.kat_yes (PySem.W.kat_nil ?_)) (λ e=>PySem.W.kat_no (PySem.W.kat_one _ _ ?_)))
  ·rw[(gL t t').mp e,dh]at q;exact q
  ·have:(tlD t).depth<=m:=da;exact yB t t' A s _ _ _ _ a2 c2 ⋯ prog w _ _ q
 ·have e:¬n=n':=by simpa using e
  rw[OQ e]at q;cases a1;cases c1;exact oneLt_int q
end
section
variable{X:Cx}
inductive rSortL(K:C4)(xs:OI V)(H:Hp)(Q:VK):Prop
|mk(p:OE)(as:OI OE)(key:OE->Int×Tl)(_:xs=[.ref p])(_:SqL K H p (as.map V.ref)\/SqT K H p (as.map V.ref))(_:as.length < 64)(_:∀a∈as,DatV K H (.ref a) (.tuple [.int (key a).1,tlD (key a).2])/\(tlD (key a).2).depth<=200)
  (h4:∀(l:OE)(as':OI OE),H l=none->as'.Perm as->(as'.map key).Pairwise (λ x y=>bq (cn y) (cn x)=false)->Q (.ref l) (upd H l (.lst (as'.map V.ref)))):rSortL K xs H Q
theorem kI(hu:X.A.units+220 < cLine):ck X (.builtin "sorted") (rSortL X.K):=by
 intro OK s σ H xs us Q I r h;obtain⟨p,as,key,rfl,hs,h64,hk,q⟩:=h;obtain⟨u,rfl,rfl⟩:=gb r;obtain⟨its,rv,pl⟩:∃its:OI F9,Vals (as.map V.ref) its/\(s.heap.IsList p its.toArray\/s.heap.IsTuple p its.toArray):=hs.elim (λ a=>let ⟨its,r,pl,_⟩:=I.list a;%[its,r|.inl pl.isList]) λ a=>let ⟨its,r,pl,_⟩:=I.tuple a;%[its,r|.inr pl]
 have ei:=jI rv;subst ei;have tu:∀a∈as,ItR s.heap 200 (.ref a) (key a):=λ a ha=>by obtain⟨hd,d2⟩:=hk a ha;obtain⟨bs,rd⟩:=I.reads hd (u:=.ref a) rfl;exact%[%[bs|rd]|d2]
 have kof:∀a∈as,(tlK s.heap 200).keyOf (.ref a)=some (cn (key a)):=λ a ha=>uh (tu a ha);refine tY (κ:=tlK s.heap 200) (κ0:=tuples' true) pl ?keys ?kk (by rw[J1];exact h64) λ st' hp hs'=>?_
 case keys=>
  intro pr hpr;rw[pairsOf_toList]at hpr;obtain⟨a,ha,e⟩:=M4.mp (OA (show(pr.1,pr.2)∈_ from hpr)).1;exact%[cn (key a)|by rw[<- e];exact kof a ha]
 case kk=>
  intro A' s' ua k;refine%[ui ⋯ k|λ v1 v2 rest e Q E' q=>?_];have firsts:∀bs:OI OE,(∀a∈bs,a∈as)->∃fs,PySem.W.KatTups s'.heap (bs.map Value.ref) fs/\fs.length=bs.length/\∀v∈fs,∃i t,v=Value.int i t:=λ bs=>by
   induction bs with
   | nil=>exactλ _=>%[[],trivial,O|λ v hv=>by cases hv]
   | cons a bs ih=>
    intro hb;obtain⟨fs,f1,f2,f3⟩:=ih λ b hb'=>hb b (B3 _ hb');obtain⟨⟨cs,rd⟩,_⟩:=tu a (hb a B7);obtain⟨l,vs,_,el,⟨o,h1,h2,n,h3⟩,ra⟩:=bY (ik k rd);cases el;obtain⟨x1,vs,_,_,rfl,a1,ra⟩:=aK ra;cases a1 with
    | int _ t=>
     refine%[.int (key a).1 t :: fs,PySem.W.KatTups.cons h1 h2 h3 (by simp) f1,by rw[I9,I9,f2]|λ v hv=>?_];rcases G6.mp hv with z | z
     ·exact%[_,t|z]
     ·exact f3 v z
  obtain⟨fs,f1,f2,f3⟩:=firsts as λ _ h=>h;rw[e]at f1;have:(as.map Value.ref).length=rest.length+2:=by rw[e];rfl
  rw[J1]at this;refine PySem.W.kat_kind (T:=.type "int") f1 ⋯ (λ v hv=>?_) rfl q;obtain⟨i,t,rfl⟩:=f3 v hv;exact PySem.W.Looks.of_pure rfl
 have pz:∀l:OI OE,(l.map Value.ref).zip (l.map Value.ref)=l.map λ a=>(Value.ref a,Value.ref a):=λ l=>by
  induction l with
  | nil=>rfl
  | cons a l ih=>rw[J4,List.zip_cons_cons,ih,J4]
 have hp':=Array.perm_iff_toList_perm.mp hp;rw[pairsOf_toList,pz]at hp';obtain⟨as',ea,pa⟩:=tP (f:=λ a=>(Value.ref a,Value.ref a)) (λ pr=>match pr.1 with
  | .ref a=>some a
  | _=>none) (λ a=>rfl) hp'
 have eo:((arrOf st').map (·.2)).toList=as'.map Value.ref:=by rw[Array.toList_map,ea,List.map_map];rfl
 obtain⟨e,he⟩:=sortedAll_at s.heap (as.map Value.ref) ((arrOf st').map (·.2));have hn:H (s.heap.objs.size+1)=none:=I.hok.fresh (Nat.le_succ _);refine%[.ref (s.heap.objs.size+1),upd H (s.heap.objs.size+1) (.lst (as'.map V.ref)),I.laid (o:=.lst (as'.map V.ref)) (t':=s.toks) (λ _ _=>sortedAll_old) (Nat.le_succ _) (show ObjOk _ _ _ _ _ (.lst _)from%[?_,((arrOf st').map (·.2)).toList,e,?_|?_]),O|q _ as' hn pa ?_]
 ·rw[J1,pa.length_eq];have:(64:Nat)<=sizeLine:=∅
  lia
 ·rw[eo];exact jJ as'
 ·rw[he]
 ·rw[List.pairwise_iff_getElem];intro i j hi hj hij;rw[J1]at hi hj;have sz:(pairsOf (as.map Value.ref)).size=as.length:=by rw[pairsOf_size,J1]
  have kk:∀i (hi:i < as'.length),KK (tlK s.heap 200) (arrOf st') i=cn (key as'[i]):=λ i hi=>by
   have e:(arrOf st')[i]?=some (Value.ref as'[i],Value.ref as'[i]):=by rw[<- Array.getElem?_toList,ea,N6,E9 hi];rfl
   unfold KK;rw[e];show((tlK s.heap 200).keyOf (.ref as'[i])).getD _=_;rw[kof _ (pa.mem_iff.mp (List.getElem_mem hi))];rfl
  have:=hs' i j ⋯ (by rw[sz,<- pa.length_eq];exact hj);rw[kk i hi,kk j hj]at this;rw[List.getElem_map,List.getElem_map];exact this
inductive rSortG(K:C4)(xs:OI V)(H:Hp)(Q:VK):Prop
|mk(p:OE)(ps:OI (OE×(Int×Tl)))(_:xs=[.ref p])(_:SqL K H p (ps.map λ z=>V.ref z.1)\/SqT K H p (ps.map λ z=>V.ref z.1))(_:ps.length < 64)(_:∀z∈ps,DatV K H (.ref z.1) (.tuple [.int z.2.1,tlD z.2.2])/\(tlD z.2.2).depth<=200)
  (h4:∀(l:OE)(ps':OI (OE×(Int×Tl))),H l=none->ps'.Perm ps->(ps'.map (·.2)).Pairwise (λ x y=>bq (cn y) (cn x)=false)->Q (.ref l) (upd H l (.lst (ps'.map λ z=>V.ref z.1)))):rSortG K xs H Q
open Classical in
theorem gg(hu:X.A.units+220 < cLine):ck X (.builtin "sorted") (rSortG X.K):=by
 intro OK s σ H xs us Q I r h;obtain⟨p,ps,rfl,hs,h64,hk,q⟩:=h;have tu:∀z∈ps,ItR s.heap 200 (.ref z.1) z.2:=λ z hz=>by obtain⟨hd,d2⟩:=hk z hz;obtain⟨bs,rd⟩:=I.reads hd (u:=.ref z.1) rfl;exact%[%[bs|rd]|d2]
 have hkey:∃key:OE->Int×Tl,∀z∈ps,key z.1=z.2:=by
  refine%[λ a=>if e:∃z,ItR s.heap 200 (.ref a) z then e.choose else(0,.rest)|λ z hz=>?_];have e:∃y,ItR s.heap 200 (.ref z.1) y:=%[_|tu z hz]
  show(if e:∃y,ItR s.heap 200 (.ref z.1) y then e.choose else(0,.rest))=z.2;rw[dif_pos e];exact e.choose_spec.uniq (tu z hz)
 obtain⟨key,hkey⟩:=hkey;have eps:∀l:OI (OE×(Int×Tl)),(∀z∈l,key z.1=z.2)->(l.map (·.1)).map (λ a=>(a,key a))=l:=λ l=>by
  induction l with
  | nil=>exactλ _=>rfl
  | cons z l ih=>exactλ h=>by rw[J4,J4,ih λ y hy=>h y (B3 _ hy),h z B7]
 refine kI hu OK s σ H _ us Q I r %[p,ps.map (·.1),key,rfl,(by rw[List.map_map];exact hs),by rw[J1];exact h64,λ a ha=>?_|λ l as' hl pm pw=>?_]
 ·obtain⟨z,hz,rfl⟩:=M4.mp ha;rw[hkey z hz];exact hk z hz
 ·have:=q l (as'.map λ a=>(a,key a)) hl (by have:=pm.map λ a=>(a,key a);rw[eps ps hkey]at this;exact this) (by rw[List.map_map];exact pw);rw[List.map_map]at this;exact this
inductive rSortM(K:C4)(xs:OI V)(H:Hp)(Q:VK):Prop
|mk(p:OE)(ps:OI (OE×(Int×Tl)))(_:xs=[.ref p])(_:SqL K H p (ps.map λ z=>V.ref z.1))(_:ps.length < 64)(_:∀z∈ps,DatV K H (.ref z.1) (.tuple [.int z.2.1,tlD z.2.2])/\(tlD z.2.2).depth<=200)
  (h4:∀(l:OE)(ps':OI (OE×(Int×Tl))),H l=none->ps'.Perm ps->(ps'.map (·.2)).Pairwise (λ x y=>bq (cn y) (cn x)=false)->Q (.ref l) (upd H l (.lst (ps'.map λ z=>V.ref z.1)))):rSortM K xs H Q
theorem dW(hu:X.A.units+220 < cLine):ck X (.builtin "sorted") (rSortM X.K):=λ OK s σ H xs us Q I r ⟨p,ps,h0,h1,h2,h3,h4⟩=>gg hu OK s σ H xs us Q I r %[p,ps,h0,.inl h1,h2,h3|h4]
end
end L2
namespace L2
open PySem PySem.Spec PyProof.Rows PySem.SeqAt
section
variable{X:Cx}
inductive rz_op_neN(K:C4)(x:V)(y:V)(H:Hp)(Q:VK):Prop
|mk(da db:_)(_:DatV K H x da)(_:DatV K H y db)(_:da.canLay0=true)(_:db.canLay0=true)(_:da.depth<=210)(_:Q (.bl (!PyData.eqv da db)) H)
theorem zv(hu:X.A.units+220 < cLine):OpR X (compareOp .NotEq) (rz_op_neN X.K):=by intro OK s σ H x y v u Q I rx ry h;obtain⟨da,db,hx,hy,s1,s2,dz,q⟩:=h;obtain⟨as,ra⟩:=I.reads hx rx;obtain⟨bs,rb⟩:=I.reads hy ry;exact compareNe_reads ra rb s1 s2 (by have:min da.depth db.depth<=da.depth:=Nat.min_le_left _ _;lia) %[.bl _,H,I,rfl|q]
end
theorem wC{X:Cx}(K:C4){x y:Str}{px py pos:Pos}{k:Nat}(hK:X.K=K)(hc:X.calm=true)(hN:X.N.Nodup)(h0:X.N[0]?=some x)(h1:X.N[1]?=some y)(l0:X.env.scope.names.lookup x=some .local)(l1:X.env.scope.names.lookup y=some .local) :
  PG X (.Tuple [.Name x px,.Name y py] k pos) (Ei K 2 (gCons (gU 0) (gCons (gU 1) yS))) :=
 hK ▸ mI hc (ao (ap hN h0 (.inl l0) (.inr l0)) (ao (ap hN h1 (.inl l1) (.inr l1)) aV))
theorem gM{K:C4}{a:OE}{xs:OI V}{σ:St}{cap:OI Nat}{k:Nat}{g:TG}{tt:TT}{te:TE}{Q:OI V->Hp->Prop}{H:Hp}(hs:H a=↥xs\/H a= ~~~xs)(Pv:Nat->OI V->Hp->Prop)
  (hk:∀i ys H',i<=xs.length->Pv i ys H'->∀o,H a=some o->H' a=some o) (h0:Pv 0 [] H)
  (ht:∀i x ys H',xs[i]?=some x->Pv i ys H'->ys.length < sizeLine/\g x (cm σ cap k) H' λ σ2 H2=>leS (cm σ cap k) σ2/\tt σ2 H2 λ ok H3=>if ok=true then te σ2 H3 (λ v H4=>Nx xs.length Pv i (ys ++ [v]) H4)else Nx xs.length Pv i ys H3)
  (hd:∀ys H',Pv xs.length ys H'->ys.length<=sizeLine/\Q ys H') :
  ((∃ys,SqL K H a ys)/\∃W,(∃m,W 0 m [] H)/\iH σ cap k (Itl K a) g tt te Q W)\/((∃ys,SqT K H a ys)/\∃W,(∃m,W 0 m [] H)/\iH σ cap k (Itt K a) g tt te Q W):=by
 rcases hs with z | z
 ·exact .inl %[%[_|G2 z]|(eO (K:=K) (.inl z) Pv hk h0 ht hd).1 z]
 ·exact .inr %[%[_|G1 z]|(eO (K:=K) (.inr z) Pv hk h0 ht hd).2 z]
theorem wD{K:C4}{a:OE}{xs:OI V}{g:TG}{tb:TS}{D:Ends}{σ:St}{H:Hp}(Pv:Nat->St->Hp->Prop)(h0:Pv 0 σ H)(hl:∀i σ H,i<=xs.length->Pv i σ H->SqL K H a xs)
  (hs:∀i x σ H,i < xs.length->xs[xs.length - 1 - i]?=some x->Pv i σ H->g x σ H λ σ2 H2=>tb { D with nx:=Pv (i+1),ct:=Pv (i+1),bk:=D.nx } σ2 H2) (hd:∀σ H,Pv xs.length σ H->D.nx σ H) :
  ∃W:Nat->Nat->St->Hp->Prop,(∃m,W 0 m σ H)/\∀i m σ H,W i m σ H ->
   ((Itv K a xs.length).stop i H/\D.nx σ H)\/((Itv K a xs.length).go i H/\∃N:St->Hp->Prop,(∀σ' H',N σ' H'->∃m',m' < m/\W (i+1) m' σ' H')/\∀x H',(Itv K a xs.length).yld i H x H'->g x σ H' λ σ2 H2=>tb { D with nx:=N,ct:=N,bk:=D.nx } σ2 H2):=by
 refine%[λ i m σ H=>m=xs.length - i/\i<=xs.length/\Pv i σ H,%[xs.length,by simp,E6 _|h0]|?_];rintro i m σ H ⟨rfl,hi,p⟩;have q:=hl i σ H hi p
 by_cases hlt:i < xs.length
 ·have hj:xs.length - 1 - i < xs.length:=⋯
  refine .inr %[%[hlt,xs,xs[xs.length - 1 - i],q|E9 hj],Pv (i+1),λ σ' H' p'=>%[xs.length - (i+1),⋯,O,hlt|p']|λ x H' y=>?_];obtain⟨e,y⟩:=y;subst e;exact hs i x σ _ hlt (y xs q) p
 ·have e:i=xs.length:=⋯
  subst e;exact .inl %[O|hd σ H p]
end L2
namespace L2
open PySem PySem.Spec PyProof.Rows
section
variable{M:Model}{A:Around}{E:F9->F5->Prop}{s:F5}{env:Env}
def jK(M:Model)(A:Around)(E:F9->F5->Prop)(use:OG (F9->Sem Unit))(Q:F9->F5->Prop)(acc:F9)(cv:Env)(r:Result)(s':F5):Prop :=
 match r,use with
 | .ok _,none=>∃m,s'.heap.Ns cv.locals m/\∀h',Heap.SameBut cv.locals s'.heap h'->Q acc { s' with heap:=h' }
 | .ok _,some u=>wpAny M A (u acc) (λ _ s''=>∃m,s''.heap.Ns cv.locals m/\∀h',Heap.SameBut cv.locals s''.heap h'->Q .none { s'' with heap:=h' }) E s'
 | .error x,_=>∃m,s'.heap.Ns cv.locals m/\∀h',Heap.SameBut cv.locals s'.heap h'->wpAny M A (passOn "comprehension.variables-let-go" x cv:Sem F9) (λ _ _=>False) E { s' with heap:=h' }
theorem dw{e:Expr}{scope:Scope}{pos:Pos}{newAcc first:Sem F9}{g:Comprehension}{gs:OI Comprehension}{cl:OI (Str×OE)}{use:OG (F9->Sem Unit)}
  {Q:F9->F5->Prop}
  (hcl:clausesOf e=g :: gs) (hs:∀x,foldedSetIterable g.iter env x=pure x) (hclos:closureFor scope env=pure cl)
  (hkind:scope.kind=.function) (hnames:∀x∈scope.names,x.2=.local->scope.names.lookup x.1=some .local)
  (h:wpAny M A first (λ x s₁=>wpAny M A (pyIter x) (λ it s₂=>wpAny M A newAcc (λ acc s₃=>
   wpAny M A (newFunctionEnv scope env.globals cl [] env.qual none .none (some env)) (λ cenv s₄=>
    codeAny M A (.compStart e 0 it acc { cenv with scope:=relabel scope env }) (jK M A E use Q acc { cenv with scope:=relabel scope env }) s₄) E s₃) E s₂) E s₁) E s) :
  wpAny M A (comprehension e scope env pos newAcc false first use) Q E s:=by
 unfold comprehension;rw[hclos,hcl];refine A0 (OU h (λ x s₁ h₁=>A0 (O0 (A0 (wpAny_of_eq (hs x) (A0 (OV (OU h₁ (λ it s₂ h₂=>
  wpAny_standIf (A0 (OU h₂ (λ acc s₃ h₃=>A0 (A1 (A0 (OU h₃ (λ cenv s₄ h₄=>?_) λ _ _ h'=>h')))) λ _ _ h'=>h')))
   λ _ _ h'=>h'))))))) λ _ _ h'=>h')
 dsimp only;have hv:∀x∈(scope.names.filter λ x=>(x.2 == .local || x.2 == .cell) && x.1 != (".0" : Str)).reverse,x.2=.local ->
   Env.kindOf { cenv with scope:=relabel scope env } x.1=some .local:=λ x hx hl=>lookup_relabel_local (hnames x (List.mem_filter.mp (List.mem_reverse.mp hx)).1 hl)
 have hv':∀x∈(scope.names.filter λ x=>(x.2 == .local || x.2 == .cell) && x.1 != (".0" : Str)).reverse.drop 1 ++ (scope.names.filter λ x=>(x.2 == .local || x.2 == .cell) && x.1 != (".0" : Str)).reverse.take 1,
   x.2=.local->Env.kindOf { cenv with scope:=relabel scope env } x.1=some .local:=λ x hx hl=>by
  rcases C2.mp hx with h1 | h1
  ·exact hv x (M5 h1) hl
  ·exact hv x (M0 h1) hl
 refine OV (A0 (wpAny_attempt (OV (wpAny_run (Oz h₄ λ r s' hr=>?_)))));cases r with
 | ok f=>
  cases use with
  | none=>
   obtain⟨m,hn,hr⟩:=hr;exact A0 (OV (wpAny_comp_letGo (cenv:={ cenv with scope:=relabel scope env }) hkind _ s' m hv hn λ h' m' _ hs'=>A1 (hr h' hs')))
  | some u=>
   refine A0 (O2 (A0 (OV (OU hr (λ _ s'' hr'=>?_) λ _ _ h'=>h'))));obtain⟨m,hn,hr'⟩:=hr';exact A0 (wpAny_comp_letGo (cenv:={ cenv with scope:=relabel scope env }) hkind _ s'' m hv' hn λ h' m' _ hs'=>A1 (hr' h' hs'))
 | error x=>
  have hr':∃m,s'.heap.Ns cenv.locals m/\∀h',Heap.SameBut cenv.locals s'.heap h'->wpAny M A (passOn "comprehension.variables-let-go" x { cenv with scope:=relabel scope env }:Sem F9) (λ _ _=>False) E { s' with heap:=h' }:=by cases use <;> exact hr
  obtain⟨m,hn,hr⟩:=hr';exact A0 (OV (wpAny_comp_letGo (cenv:={ cenv with scope:=relabel scope env }) hkind _ s' m hv hn λ h' m' _ hs'=>OU (hr h' hs') (λ _ _ f=>f.elim) λ _ _ y=>y))
end
section
variable{M:Model}{A:Around}{E:F9->F5->Prop}{s:F5}{base:Heap}{env:Env}{l:OI Env}{L e:OE}{cls a0:F9}
theorem wE{Q:Unit->F5->Prop}(hh:Heap.HeldW base l e cls a0 L s.heap)(q:Q2 e s.heap)
  (hQ:∀h',Heap.HeldW base l e cls a0 L h'->s.heap.UpToSlots h'->Q2 e h'->Q () { s with heap:=h' }):wpAny M A (setFlight (.ref e) (some L)) Q E s:=by
 obtain⟨hkb,hen,hl,oe,vs,T,oT,ts,he,hcls,hd,h1,hnT,hTe,hT,hdT,h3⟩:=hh;have hsz3:3 < ts.size:=(Array.getElem?_eq_some_iff.mp h3).1;have other:∀b,b≠T->(s.heap.update T (Obj.mapFields (·.setIfInBounds 3 (rawInt L)))).get? b=s.heap.get? b:=λ b hb=>Heap.get?_update_other _ _ (Ne.symm hb);have nr:∀b o,s.heap.get? b=some o->(∀vs,o.data≠.fields vs)->b≠T:=λ b o hb hnf q=>by rw[q,hT]at hb;injection hb with hb;subst hb;exact hnf ts hdT
 unfold setFlight;refine A0 (Ou he hd h1 ?_);rw[OR (show(Value.ref T != Value.none)=true from by simp)];refine wpAny_setField hT hdT hsz3 (hQ _ ⟨λ b o hbo=>(other b λ q=>by rw[q,hnT]at hbo;cases hbo).trans (hkb b o hbo),hen,hl.of_keeps λ b o hb hnf=>%[o,(other b (nr b o hb hnf)).trans hb|rfl],?_⟩ (λ b o hb hnf=>%[o.slots|(other b (nr b o hb hnf)).trans hb]) (q.set ∅));exact%[oe,vs,T,_,_,(other e (Ne.symm hTe)).trans he,hcls,hd,h1,hnT,hTe,Heap.get?_update_self _ hT (Obj.isFreed_of_fields (Obj.data_mapFields hdT _)),Obj.data_mapFields hdT _|by simp[hsz3]]
theorem wF{α:Type}{what:String}{Q:α->F5->Prop}(hf:env.frame=some L)(hh:Heap.HeldW base l e cls a0 L s.heap)(q:Q2 e s.heap)
  (hE:∀h',Heap.HeldW base l e cls a0 L h'->s.heap.UpToSlots h'->Q2 e h'->E (.ref e) { s with heap:=h' }):wpAny M A (passOn what (.ref e) env:Sem α) Q E s:=by
 have hh':=hh;obtain⟨hkb,hen,hl,oe,vs,T,oT,ts,he,hcls,hd,h1,hnT,hTe,hT,hdT,h3⟩:=hh;unfold PySem.passOn;refine A0 (Ou he hd h1 ?_);rw[OQ (show¬ ((Value.ref T == Value.none)=true)from by simp),hf];exact A0 (wE hh' q λ h' a b c=>wpAny_throw (hE h' a b c))
theorem zx{outer:OI Env}{Q:Unit->F5->Prop}(hf:env.frame=some L)(hh:Heap.HeldW base (env :: outer) e cls a0 L s.heap)(q:Q2 e s.heap)
  (hQ:∀h',Heap.FlyingW base outer e cls a0 h'->s.heap.UpToSlots h'->Q2 e h'->Q () { s with heap:=h' }):wpAny M A (leaving env (.ref e)) Q E s:=by
 unfold leaving;refine A0 (wpAny_noteFrame_againW hf hh.2.2.2 ?_);refine tI hh q λ h' hfl sm q'=>?_;obtain⟨k1,k2,⟨_,_,k3⟩,k4⟩:=hfl;exact hQ h' %[k1,k2,k3|k4] sm q'
theorem eX{h B B':Heap}(k:∀b o,B'.get? b=some o->B.get? b=some o):∀{l:OI Env},h.FunFrames B l->h.FunFrames B' l
 | [],_=>trivial
 | _ :: _,⟨hk,⟨L,o,hf,hn,ho,hd⟩,hr⟩=>⟨hk,⟨L,o,hf,by cases z:B'.get? L with | none=>rfl | some u=>(have:=k _ _ z;rw[hn]at this;cases this),ho,hd⟩,eX k hr⟩
theorem uj{C:OE}{h h':Heap}(hh:Heap.HeldW base l e cls a0 L h)(q:Q2 e h)(sb:Heap.SameBut C h h'){m:Str->OG F9}(hn:h.Ns C m)(hl:C∉l.filterMap (·.frame)):Heap.HeldW (PySem.W.hideAll base [C]) l e cls a0 L h'/\Q2 e h':=by
 obtain⟨hkb,hen,hlf,oe,vs,T,oT,ts,he,hcls,hd,h1,hnT,hTe,hT,hdT,h3⟩:=hh;have nC:∀b o vs,h.get? b=some o->o.data=.fields vs->b≠C:=λ b o vs e1 e2 z=>by obtain⟨o',es,ep,ho,hd',_⟩:=hn;rw[z,ho]at e1;cases e1;rw[hd']at e2;cases e2
 have less:∀b o,(PySem.W.hideAll base [C]).get? b=some o->base.get? b=some o:=λ b o z=>PySem.W.of_hideAll _ z;have non:∀b,base.get? b=none->(PySem.W.hideAll base [C]).get? b=none:=λ b z=>by
  cases y:(PySem.W.hideAll base [C]).get? b with
  | none=>rfl
  | some u=>have:=less _ _ y;rw[z]at this;cases this
 have ne:∀b o,(PySem.W.hideAll base [C]).get? b=some o->b≠C:=λ b o z y=>by rw[y,PySem.W.hideAll_none [C] (C9.mpr rfl)]at z;cases z
 refine%[%[λ b o z=>(sb.2 b (ne b o z)).trans (hkb b o (less b o z)),non _ hen,?_,oe,vs,T,oT,ts,(sb.2 e (nC e _ _ he hd)).trans he,hcls,hd,h1,non _ hnT,hTe,(sb.2 T (nC T _ _ hT hdT)).trans hT,hdT|h3]|?_]
 ·have f1:h.FunFrames (PySem.W.hideAll base [C]) l:=eX less hlf;clear hlf
  induction l with
  | nil=>trivial
  | cons env rest ih=>
   obtain⟨hk,⟨L,o,hf,hn',ho,hd'⟩,hr⟩:=f1;rw[K5,hf]at hl;exact%[hk,%[L,o,hf,hn',(sb.2 L λ z=>hl (by rw[z];exact .head _)).trans ho|hd']|ih (λ z=>hl (.tail _ z)) hr]
 ·exact trivial
end
section
variable{X:Cx}{OK:OI (OE×Obj)}{σ:St}{H2:Hp}{s2:F5}{scope:Scope}{own cs N':OI Str}{cap:OI Nat}{fp:OI OE}{it:OE}{tn:Nat->Heap->Prop}
 {elt tg iter:Expr} {ifs:OI Expr} {pos:Pos} {J:It} {g:TG} {tt:TT} {tx:TX} {E:F9->F5->Prop} {EE:XK} {W:Nat->Nat->OI V->Hp->Prop} {Qf:OI V->Hp->Prop}
def zy(σ:St)(cap:OI Nat)(k:Nat)(J:It)(g:TG)(tt:TT)(tx:TX)(Q:OI V->Hp->Prop)(EE:XK)(W:Nat->Nat->OI V->Hp->Prop):Prop :=
 ∀i m ys H,W i m ys H->(J.stop i H/\ys.length<=sizeLine/\Q ys H) \/
  (J.go i H/\ys.length < sizeLine/\∀x H',J.yld i H x H'->g x (cm σ cap k) H' λ σ2 H2=>leS (cm σ cap k) σ2/\tt σ2 H2 λ ok H3=>
   if ok=true then tx σ2 H3 (λ v H4=>∃m',m' < m/\W (i+1) m' (ys ++ [v]) H4) EE else∃m',m' < m/\W (i+1) m' ys H3)
def zA(X:Cx)(OK:OI (OE×Obj))(s2:F5)(H2:Hp)(scope:Scope)(N':OI Str)(fp:OI OE)(EE:XK)(C:OE)(v:F9)(s':F5):Prop :=
 ∃(ea:OE)(c a0:F9)(H H':Hp)(B:Heap)(s0 s8:F5)(h1:Heap)(pins':OI (OE×Obj))(σ6:St),v=.ref ea/\s2.heap.objs.size<=C/\Inv (bA X OK s2 H2 scope C N' fp) pins' σ6 H s0/\Flew X.prog X.w X.stack H s0 ea c H' B s8/\EE c none H' /\
  Heap.HeldW B X.stack ea c a0 X.env.locals h1/\s8.heap.UpToSlots h1/\Q2 ea h1/\s'={ s8 with heap:=h1 }
theorem wG{C:OE}{v:F9}{s8:F5}{pins':OI (OE×Obj)}{σ6:St}{R:Result->F5->Prop}(hC:s2.heap.objs.size<=C)(hst:X.stack=X.env :: X.outer)(hfr:X.env.frame=some X.env.locals)(hx:XP (bA X OK s2 H2 scope C N' fp) pins' σ6 EE v s8)
  (hR:∀s',zA X OK s2 H2 scope N' fp EE C v s'->R (.error v) s') :
  notedBy (model X.prog X.w) X.A (compEnvC scope (bK X.env scope.names []) C X.env) (λ x s'=>R (.error x) s') v s8:=by
 obtain⟨ea,c,H,H',B,s0,rfl,I0,f,q⟩:=hx;obtain⟨a0,fl⟩:=f.fly;have fl':Heap.FlyingW B (X.env :: X.outer) ea c a0 s8.heap:=by rw[<- hst];exact fl
 have hA:X.A.frames=some (X.env :: X.outer):=by rw[<- hst];exact I0.ok.frames
 show wpAny _ X.A (noteFrame (.ref ea) X.env) _ _ s8;refine jF hA hfr fl' f.ctx λ h1 held sm q2=>hR _ %[ea,c,a0,H,H',B,s0,s8,h1,pins',σ6,rfl,hC,I0,f,q,by rw[hst];exact held,sm,q2|rfl]
theorem qK{RR:F9->Env->Result->F5->Prop}(I:Inv X OK σ H2 s2)(ok:CompOk X scope own cs cap)(hc:X.calm=true)(T:Turn X.prog X.w X.K tg J fp it tn)(st:tn 0 s2.heap)(hf:∀b∈fp,eK X OK H2 b)
  (hg:∀C,PG (bA X OK s2 H2 scope C (own ++ cs) fp) tg g) (hi:∀C,mH (bA X OK s2 H2 scope C (own ++ cs) fp) ifs tt) (he:∀C,PEx (bA X OK s2 H2 scope C (own ++ cs) fp) elt tx)
  (w0:∃m,W 0 m [] H2) (turn:zy σ cap own.length J g tt tx Qf EE W)
  (hRR:∀D C s',BlkEnd X OK σ Qf D C s'->RR (.ref D) (compEnvC scope (bK X.env scope.names []) C X.env) (.ok .next) s')
  (hst:X.stack=X.env :: X.outer) (hfr:X.env.frame=some X.env.locals) (hRX:∀D C v s',zA X OK s2 H2 scope (own ++ cs) fp EE C v s'->RR (.ref D) (compEnvC scope (bK X.env scope.names []) C X.env) (.error v) s') :
  wpAny (model X.prog X.w) X.A (newList []) (λ acc s₃=>wpAny (model X.prog X.w) X.A (newFunctionEnv scope X.env.globals (bK X.env scope.names []) [] X.env.qual none .none (some X.env)) (λ cenv s₄=>
   codeAny (model X.prog X.w) X.A (.compStart (.ListComp elt [%[tg,iter,ifs|0]] scope pos) 0 (.ref it) acc { cenv with scope:=relabel scope X.env }) (RR acc { cenv with scope:=relabel scope X.env }) s₄) E s₃) E s2 :=
 jC (te:=λ σ H Q=>tx σ H Q EE) (EX:=λ C pins' σ6 v s8=>XP (bA X OK s2 H2 scope C (own ++ cs) fp) pins' σ6 EE v s8) I ok hc T st hf hg hi (λ C p s σ H Q I q=>he C p s σ H Q EE I q) w0 turn hRR λ D C p σ v s8 hC hx=>wG hC hst hfr hx λ s' z=>hRX D C v s' z
end
section
variable{P:F6}{w:F8}{K:C4}{mg:Str->OG F9}{base:Heap}{N:OI Str}{qual:Str}{scope:Scope}{f0:OE}{cd:F9}{A:Around}{outer:OI Env}{s₀:F5}{H₀:Hp}{E:XK}
theorem nh{OK:OI (OE×Obj)}{σ:St}{H2:Hp}{s2 s':F5}{sc:Scope}{N':OI Str}{fp:OI OE}{C:OE}{v:F9}{h2:Heap}{cl:OI (Str×OE)}{Q:F9->F5->Prop}{what:String}
  (I2:Inv (bJ (CXx P w) P w K mg base N qual scope f0 cd A outer s₀ H₀ E) OK σ H2 s2) (hf:∀b∈fp,eK (bJ (CXx P w) P w K mg base N qual scope f0 cd A outer s₀ H₀ E) OK H2 b)
  (bx:zA (bJ (CXx P w) P w K mg base N qual scope f0 cd A outer s₀ H₀ E) OK s2 H2 sc N' fp E C v s') (sb:Heap.SameBut C s'.heap h2) :
  wpAny (model P w) (bJ (CXx P w) P w K mg base N qual scope f0 cd A outer s₀ H₀ E).A (PySem.passOn what v (compEnvC sc cl C (bJ (CXx P w) P w K mg base N qual scope f0 cd A outer s₀ H₀ E).env):Sem F9) Q (bJ (CXx P w) P w K mg base N qual scope f0 cd A outer s₀ H₀ E).xe { s' with heap:=h2 }:=by
 obtain⟨ea,c,a0,H,H',B,s0,s8,h1,pins',σ6,rfl,hC,I0,f,q,held,sm1,q1,rfl⟩:=bx;have Ih1:=f.inv (t:=s8.toks) I0 held.1 sm1;obtain⟨m,hn,_⟩:=Ih1.loc;have lt2:∀b o,s2.heap.get? b=some o->b≠C:=λ b o e=>B9 (C1 (A8 e) hC);have hCf:C∉frs (bJ (CXx P w) P w K mg base N qual scope f0 cd A outer s₀ H₀ E).stack:=λ z=>by obtain⟨_,o,ho,_⟩:=I2.stack.mem z;exact lt2 C o ho rfl
 obtain⟨held2,q2⟩:=uj held q1 sb hn hCf;refine wF (L:=(bJ (CXx P w) P w K mg base N qual scope f0 cd A outer s₀ H₀ E).env.locals) rfl held2 q2 λ h3 held3 sm3 q3=>?_;show wpAny (model P w) (A.deeper (envOfC qual scope s₀.heap.objs.size f0 cd)) (leaving (envOfC qual scope s₀.heap.objs.size f0 cd) (.ref ea)) _ _ _;refine zx rfl held3 q3 λ h4 fl4 sm4 q4=>%[ea,c,H',PySem.W.hideAll B [C],O,?_|q]
 have up:∀b o,b≠C->s8.heap.get? b=some o->(∀vs,o.data≠.fields vs)->∃sl,h4.get? b=some { o with slots:=sl }:=λ b o nb e nf=>by obtain⟨sl1,e1⟩:=sm1 b o e nf;obtain⟨sl3,e3⟩:=sm3 b _ ((sb.2 b nb).trans e1) nf;obtain⟨sl4,e4⟩:=sm4 b _ e3 nf;exact%[sl4|e4]
 have B4:∀b o,b≠C->B.get? b=some o->h4.get? b=some o:=λ b o nb e=>fl4.1 b o (PySem.W.hideAll_get [C] e (by simpa using nb));have u0:Un (frs (bJ (CXx P w) P w K mg base N qual scope f0 cd A outer s₀ H₀ E).stack) fp H2 H s2.heap s0.heap:=I0.base;have sC:∃o,s0.heap.get? C=some o:=by obtain⟨m',⟨o,_,_,ho,_⟩,_⟩:=I0.loc;exact%[o|ho]
 have HC:H' C=none:=by obtain⟨o,ho⟩:=sC;exact f.un.free C o ho I0.free (by simp)
 have trk:∀b u,H' b=some u->b∉frs (bJ (CXx P w) P w K mg base N qual scope f0 cd A outer s₀ H₀ E).stack:=λ b u e hb=>by obtain⟨_,o,ho,_⟩:=I0.stack.mem hb;have:=f.un.free b o ho (I0.stkFree b hb) (by simp);rw[this]at e;cases e
 have slot1:∀b o,b≠C->b∈frs (bJ (CXx P w) P w K mg base N qual scope f0 cd A outer s₀ H₀ E).stack->s8.heap.get? b=some o->∃sl,h4.get? b=some { o with slots:=sl }:=λ b o nb hb e=>by obtain⟨_,fl⟩:=f.fly;obtain⟨_,o',e',hd⟩:=fl.2.2.1.mem hb;rw[e]at e';cases e';exact up b o nb e hd
 have J:Inv (bJ (CXx P w) P w K mg base N qual scope f0 cd A outer s₀ H₀ E) OK σ H' { s8 with heap:=h4 }:=by
  refine I2.call' (ch:=fp) (f.os.trans I0.os) %[λ b o e n hb hx=>?_,λ b o e n hb hx=>?_,λ b o e n hx=>?_,λ b o e hx=>?_,λ b xs e=>f.un.tups b xs (u0.tups b xs e),λ b o u e=>f.un.frzs b o u (u0.frzs b o u e)|λ b ps e=>?_] (λ b u e=>?_) f.bare λ b hb=>%[(hf b hb).2.2.2.1,(hf b hb).2.1,(hf b hb).2.2.2.2.1|(hf b hb).2.2.2.2.2]
  ·have e0:=u0.keep b o e n hb hx;exact B4 b o (lt2 b o e) (f.cov b o hb (.inr %[o|e0]) (f.un.keep b o e0 (u0.free b o e n hx) hb (by simp)))
  ·obtain⟨sl,e0⟩:=u0.slot b o e n hb hx;obtain⟨sl',e8⟩:=f.un.slot b _ e0 (u0.free b o e n hx) hb (by simp);obtain⟨sl4,e4⟩:=slot1 b _ (lt2 b o e) hb e8;exact%[sl4|e4]
  ·obtain⟨o0,e0⟩:=u0.there b o e hx;exact f.un.free b o0 e0 (u0.free b o e n hx) (by simp)
  ·obtain⟨o0,e0⟩:=u0.there b o e hx;obtain⟨o8,e8⟩:=f.un.there b o0 e0 (by simp)
   by_cases hb:b∈frs (bJ (CXx P w) P w K mg base N qual scope f0 cd A outer s₀ H₀ E).stack
   ·obtain⟨sl4,e4⟩:=slot1 b _ (lt2 b o e) hb e8;exact%[_|e4]
   ·exact%[o8|B4 b o8 (lt2 b o e) (f.cov b o8 hb (.inr %[o0|e0]) e8)]
  ·obtain⟨m1,e1⟩:=u0.tbls b ps e;obtain⟨m2,e2⟩:=f.un.tbls b _ e1;exact%[m1 ++ m2|by rw[e2,Array.append_assoc]]
  ·refine(f.hok b u e).stay (λ c' v hc q=>?_) (λ _ q=>q) λ _ _ q=>q;have hc':H' c'≠none:=by
    rcases hc with z | z
    ·rw[z,e];exactλ z=>nomatch z
    ·rw[z];exactλ z=>nomatch z
   have nc:c'∉frs (bJ (CXx P w) P w K mg base N qual scope f0 cd A outer s₀ H₀ E).stack:=by
    cases q':H' c' with
    | none=>exact absurd q' hc'
    | some u'=>exact trk c' u' q'
   exact B4 c' v (λ z=>hc' (by rw[z];exact HC)) (f.cov c' v nc (.inl hc') q)
 have s02:∀b o,s₀.heap.get? b=some o->∃o0,s0.heap.get? b=some o0:=λ b o e=>by
  obtain⟨o2,e2⟩:=I2.base.there b o e (by show b∉([]:OI OE);simp);exact u0.there b o2 e2 λ z=>by
   rcases(hf b z).2.2.2.1 with y | y
   ·exact absurd y (by show b∉([]:OI OE);simp)
   ·exact absurd (A8 e) (Nat.not_lt.mpr y)
 refine%[J.os,J.bare,J.base,J.hok,%[a0|fl4],q4,λ b o nb hh e=>?_,?_|f.new.2]
 ·have nC:b≠C:=λ z=>by
   rcases hh with hh | ⟨o',hh⟩
   ·exact hh (by rw[z];exact HC)
   ·obtain⟨o2,e2⟩:=I2.base.there b o' hh (by show b∉([]:OI OE);simp);exact lt2 b o2 e2 z
  have nbs:b∉frs (envOfC qual scope s₀.heap.objs.size f0 cd :: outer):=λ z=>by
   have z':b=s₀.heap.objs.size\/b∈frs outer:=by unfold frs at z ⊢;rw[K5]at z;exact G6.mp z
   rcases z' with z | z
   ·subst z;rcases hh with hh | ⟨o',hh⟩
    ·exact hh J.free
    ·exact absurd (A8 hh) (C8 _)
   ·exact nb z
  have key:∃o1,s8.heap.get? b=some o1/\(H' b≠none\/∃o',s0.heap.get? b=some o'):=by
   rcases hh with hh | ⟨o',hh⟩
   ·cases z:H' b with
    | none=>exact absurd z hh
    | some u=>
     obtain⟨ob,eb⟩:=(f.hok b u z).ex;exact%[ob,eb|.inl (by rw[<- z]at *;exact hh)]
   ·obtain⟨o1,e1⟩:=s02 b o' hh;obtain⟨o2,e2⟩:=f.un.there b o1 e1 (by simp);exact%[o2,e2|.inr %[o1|e1]]
  obtain⟨o1,e1,hh'⟩:=key;have eB:=f.cov b o1 nbs hh' e1;have:=B4 b o1 nC eB;rw[e]at this;cases this;exact PySem.W.hideAll_get [C] eB (by simpa using nC)
 ·cases z:s₀.heap.get? ea with
  | none=>rfl
  | some o=>
   obtain⟨o',e1⟩:=s02 ea o z;have:=f.new.1;rw[e1]at this;cases this
theorem uk{X:Cx}{wi:TI}{i:Nat}{y:Str}{py spos pos:Pos}{elt tg iter:Expr}{ifs:OI Expr}{sc:Scope}{own cs:OI Str}{cap:OI Nat}{g:TG}{tt:TT}{tx:TX}
  (hX:X=bJ (CXx P w) P w K mg base N qual scope f0 cd A outer s₀ H₀ E) (hN:X.N.Nodup) (hiy:X.N[i]?=some y) (hy:X.env.scope.names.lookup y=some .local)
  (hsw:swapsWith (.ListComp elt [%[tg,iter,ifs|0]] sc pos) (some (.Name y py)) spos.line X.env=pure true) (hit:PI X tg iter wi) (ok:CompOk X sc own cs cap)
  (hg:∀OK s2 H2 C fp,PG (bA X OK s2 H2 sc C (own ++ cs) fp) tg g) (hi:∀OK s2 H2 C fp,mH (bA X OK s2 H2 sc C (own ++ cs) fp) ifs tt) (he:∀OK s2 H2 C fp,PEx (bA X OK s2 H2 sc C (own ++ cs) fp) elt tx)
  (hs:∀x,foldedSetIterable iter X.env x=pure x:=by intro _;rfl):PS X (.Assign [.Name y py] (.ListComp elt [%[tg,iter,ifs|0]] sc pos) spos) (vR (oX wi cap own.length g tt (λ σ H Q=>tx σ H Q E)) (gU i)):=by
 subst hX;intro OK s σ H D0 I h;rw[exec_Assign_Name_used _ _ _ _ hsw];refine A0 (O0 (A0 ?_));show wpAny _ (bJ (CXx P w) P w K mg base N qual scope f0 cd A outer s₀ H₀ E).A (do let _<-comprehension (.ListComp elt [%[tg,iter,ifs|0]] sc pos) sc (bJ (CXx P w) P w K mg base N qual scope f0 cd A outer s₀ H₀ E).env _ (newList []) false (eval iter (bJ (CXx P w) P w K mg base N qual scope f0 cd A outer s₀ H₀ E).env) (some (assign (.Name y py) (bJ (CXx P w) P w K mg base N qual scope f0 cd A outer s₀ H₀ E).env))) _ _ s;refine A0 (OU (dw (use:=some (assign (.Name y py) (bJ (CXx P w) P w K mg base N qual scope f0 cd A outer s₀ H₀ E).env)) (Q:=λ _ s'=>SP (bJ (CXx P w) P w K mg base N qual scope f0 cd A outer s₀ H₀ E) OK D0 .next s') rfl hs (fR λ y hy e=>I.ok.has y.1 (ok.free y hy e)) ok.kind ok.names
  (thn (hit OK s σ H _ I h) λ v s1 h1=>thn h1 λ itv s2 h2=>?_)) (λ _ s' hq=>A1 (A1 hq)) λ _ _ e=>e)
 obtain⟨it,fp,tn,J,H2,e,I2,T,st2,f2,W,w0,turn⟩:=h2;subst e;refine qK (RR:=λ acc cv=>jK (model P w) (bJ (CXx P w) P w K mg base N qual scope f0 cd A outer s₀ H₀ E).A (bJ (CXx P w) P w K mg base N qual scope f0 cd A outer s₀ H₀ E).xe (some (assign (.Name y py) (bJ (CXx P w) P w K mg base N qual scope f0 cd A outer s₀ H₀ E).env)) (λ _ s'=>SP (bJ (CXx P w) P w K mg base N qual scope f0 cd A outer s₀ H₀ E) OK D0 .next s') acc cv) I2 ok rfl T st2 f2 (λ C=>hg _ _ _ _ _) (λ C=>hi _ _ _ _ _) (λ C=>he _ _ _ _ _) w0 turn (λ D C s' B=>?_) rfl rfl λ D C v s' bx=>?_
 ·obtain⟨⟨ys,H',hD,q,I',fp'⟩,m,hn⟩:=B;obtain⟨f0,f1,f2',f3,f4,f5⟩:=fp';show wpAny _ _ (assign (.Name y py) _ (.ref D)) _ _ _;refine wpAny_assign_Name (gv I' hN hiy (.inl hy) (v:=.ref D) rfl (?_) (.inr hy));rintro s3 I3 ⟨a,sb,ha⟩;have hCa:C≠a:=by
   rcases ha with z | z
   ·rw[z];exact f1
   ·exactλ q=>f4 y a z q.symm
  refine%[m,hn.sameBut sb hCa|λ h' sb'=>%[_,_,I3.turned (t':=s3.toks) (λ b o hb e=>sb'.extBut b o hb e) f0 f1 f3 f4 f5|q D hD]]
 ·have bx':=bx;obtain⟨ea,c,a0,H,H',B,s0,s8,h1,pins',σ6,rfl,hC,I0,f,q,held,sm1,q1,rfl⟩:=bx;obtain⟨m,hn,_⟩:=(f.inv (t:=s8.toks) I0 held.1 sm1).loc;exact%[m,hn|λ h' sb=>nh I2 f2 bx' sb]
end
section
variable{X:Cx}{e1 e2:Expr}{te:TE}{tx:TX}{pos:Pos}
def Et(te:TE)(tx:TX):TX:=λ σ H Q E=>te σ H λ x H1=>tx σ H1 (λ y H2=>∀p,H2 p=none->Q (.ref p) (upd H2 p (.tup [x,y]))) E
theorem um{x1}(ha:PE X.nox e1 te)(hb:PEx X e2 tx)(hs:starEach [e1,e2] X.env=[(false,eval e1 X.env),(false,eval e2 X.env)]:=by rfl):PEx X (.Tuple [e1,e2] x1 pos) (Et te tx):=by intro OK s σ H Q E I h;refine wpAny_Tuple_spliced ?_;rw[hs];show wpAny _ _ (spliced ((false,eval e1 X.env) :: (false,eval e2 X.env) :: [])) _ _ s;refine Calls.spliced_cons (OU (ha OK s σ H _ (I.wish _) h) (?_) λ _ _ z=>E5 z);rintro u s1 ⟨x,H1,I1,r1,q1⟩;refine Calls.spliced_cons (OU (hb OK s1 σ H1 _ _ I1.unwish q1) (?_) λ _ _ z=>z);rintro u2 s2 ⟨y,H2,I2,r2,q2⟩;refine Calls.spliced_nil %[by show(2:Nat)<=_;decide|?_];have hf:H2 s2.heap.objs.size=none:=I2.hok.fresh (B2 _);refine%[.ref s2.heap.objs.size,upd H2 s2.heap.objs.size (.tup [x,y]),I2.laid (t':=s2.toks) (λ b u e=>A6 _ e) (B2 _) ?_,O|q2 _ hf];exact%[by show(2:Nat)<=_;decide,[u,u2],.cons r1 (.cons r2 .nil)|%[_,A7 _ rfl,O,_|O]]
end
section
variable{X:Cx}{k:Nat}{ps:OI Str}{sp:Sp}{x:Str}{p pos:Pos}{e:Expr}{tx:TX}
def wH(sp:Sp)(tx:TX):TX:=λ σ H Q E=>tx σ H (λ v H1=>sp [v] H1 Q E0) E
theorem zB(D:Dn X.prog X.w X.K X.mg X.base x ps k sp)(hr:Room k X.A)(hg:Gl X x)(ha:PEx X e tx)
  (hdb:(x == ("__debug__" : Str))=false:=by decide) (he:starEach [e] X.env=(false,eval e X.env) :: starEach [] X.env:=by rfl) (hpl:(backTo pos (starEach [] X.env)).any (·.1)=false:=by rfl) :
  PEx X (.Call (.Name x p) [e] [] pos) (wH sp tx):=by
 obtain⟨f,fd,F,hb,hk,hm⟩:=D;intro OK s σ H Q E I h;refine Oo (dB I hg hm ?_ hdb);refine PySem.W.callWith_K (h₀:=X.base) I.ok.mod.kin hk ?_ he hpl;rw[he];show wpAny _ _ (spliced ((false,eval e X.env) :: [])) _ _ s;refine Calls.spliced_cons (OU (ha OK s σ H _ _ I h) (?_) λ _ _ z=>z);rintro u s1 ⟨v,H1,I1,r1,q1⟩;refine Calls.spliced_nil %[I1.kIn|?_];exact OU (ki (X:=X.nox) F hr hb .nil lC (I1.wish _) (.cons r1 .nil) q1) (λ u s2 ⟨v,H2,I2,r2,q2⟩=>%[v,H2,I2.unwish,r2|q2]) λ _ _ z=>E5 z
end
section
variable{P:F6}{w:F8}{K:C4}{mg:Str->OG F9}{base:Heap}{N:OI Str}{qual:Str}{scope:Scope}{f:OE}{cd:F9}{A:Around}{outer:OI Env}{s₀:F5}{H₀:Hp}{E:XK}
theorem wI{e:Expr}{tx:TX}{pos:Pos}(he:PEx (bJ (CXx P w) P w K mg base N qual scope f cd A outer s₀ H₀ E) e tx) :
  PS (bJ (CXx P w) P w K mg base N qual scope f cd A outer s₀ H₀ E) (.Return (some e) pos) (λ D σ H=>tx σ H D.rt E):=by
 intro OK s σ H D I h;exact wpAny_Return_some (OU (he OK s σ H _ _ I h) (λ v s1 ⟨x,H1,I1,r1,q1⟩=>%[x,σ,H1,I1,r1|q1]) λ v s1 hx=>pf hx)
end
end L2
namespace L2
open PySem PySem.Spec PyProof.Rows PySem.SeqAt
section
variable{X:Cx}
inductive rSortMT(K:C4)(xs:OI V)(H:Hp)(Q:VK):Prop
|mk(p:OE)(ps:OI (OE×(Int×Tl)))(_:xs=[.ref p])(_:SqT K H p (ps.map λ z=>V.ref z.1))(_:ps.length < 64)(_:∀z∈ps,DatV K H (.ref z.1) (.tuple [.int z.2.1,tlD z.2.2])/\(tlD z.2.2).depth<=200)
  (h4:∀(l:OE)(ps':OI (OE×(Int×Tl))),H l=none->ps'.Perm ps->(ps'.map (·.2)).Pairwise (λ x y=>bq (cn y) (cn x)=false)->Q (.ref l) (upd H l (.lst (ps'.map λ z=>V.ref z.1)))):rSortMT K xs H Q
theorem jl(hu:X.A.units+220 < cLine):ck X (.builtin "sorted") (rSortMT X.K):=λ OK s σ H xs us Q I r ⟨p,ps,h0,h1,h2,h3,h4⟩=>gg hu OK s σ H xs us Q I r %[p,ps,h0,.inr h1,h2,h3|h4]
inductive rz_op_eqN(K:C4)(x:V)(y:V)(H:Hp)(Q:VK):Prop
|mk(da db:_)(_:DatV K H x da)(_:DatV K H y db)(_:da.canLay0=true)(_:db.canLay0=true)(_:da.depth<=210)(_:Q (.bl (PyData.eqv da db)) H)
theorem zC(hu:X.A.units+220 < cLine):OpR X (compareOp .Eq) (rz_op_eqN X.K):=by intro OK s σ H x y v u Q I rx ry h;obtain⟨da,db,hx,hy,s1,s2,dz,q⟩:=h;obtain⟨as,ra⟩:=I.reads hx rx;obtain⟨bs,rb⟩:=I.reads hy ry;exact compareEq_reads ra rb s1 s2 (by have:min da.depth db.depth<=da.depth:=Nat.min_le_left _ _;lia) %[.bl _,H,I,rfl|q]
end
end L2
namespace HT
open PySem PyProof.Rows
section
variable{prog:F6}{w:F8}{A:Around}{E:F9->F5->Prop}{s:F5}
theorem getItem_tuple_whole{t sl:OE}{items:OH F9}{vl vu:F9}{lo hi:OG Int}{Q:F9->F5->Prop}(ht:IsTup s.heap t items)(hs:s.heap.IsSliceOf sl vl vu .none)(pl:IsPart vl lo)(pu:IsPart vu hi)
  (hw:sIx items.size 0 lo=0/\sIx items.size items.size hi=items.size)
  (h:Q (.ref t) s)
  (hsz:items.size<=sizeLine):wpAny (model prog w) A (getItem (.ref t) (.ref sl)) Q E s:=by
 have hj:sIx items.size items.size hi<=items.size:=sV _ _ (B2 _) hi;obtain⟨os,hos,hcs,hds⟩:=id hs;have hTs:s.TypeIs (.ref sl) "slice" := %[os,hos|hcs]
 unfold getItem
 try with_reducible refine OV ?_
 first | refine A0 (A1 ?_) | skip
 refine A0 (wpAny_sequenceKey ht.typeIs ∅ ?_);refine A0 (wpAny_callSpecial?_slot (name:=Str.ofString "__getitem__") ht.typeIs Om
  (F2 Om ht.typeIs entry_tuple_getitem ?_ (args_tuple_getitem _ _)))
 show wpAny _ _ (Builtin.Tuple.tupleItemsOf (.ref t) >>= _) _ _ s;refine A0 (tupleItemsOf_ ht ?_);refine A0 (wpAny_typeOf hTs ?_);rw[OR ∅];refine A0 (dJ hs pl pu ?_);have hyes:(((sIx items.size 0 lo:Nat):Int) == 0 && (1:Int) == 1 && (sIx items.size items.size hi - sIx items.size 0 lo) == items.size)=true:=by rw[hw.1,hw.2];simp
 show wpAny _ _ (if (((sIx items.size 0 lo:Nat):Int) == 0 && (1:Int) == 1 && (sIx items.size items.size hi - sIx items.size 0 lo) == items.size)=true then _ else _) _ _ s;rw[OR hyes];unfold Builtin.Tuple.tupleIsExact;refine A0 (A0 (wpAny_typeOf ht.typeIs (A1 ?_)));rw[OR ∅]
 first
  | exact A0 (O2 (A1 ⟨_,rfl,A1 h⟩))
  | exact A0 (O2 (A0 (A1 ⟨_,rfl,A1 h⟩)))
  | exact A0 (A0 (O2 (A1 (A1 ⟨_,rfl,A1 h⟩))))
end
end HT
namespace L2
open PySem PySem.Spec PyProof.Rows PySem.SeqAt
inductive rz_op_eqT0(K:C4)(x:V)(y:V)(H:Hp)(Q:VK):Prop
|mk(a b xs:_)(_:x=.ref a)(_:y=.ref b)(_:SqT K H a xs)(_:SqT K H b [])(_:Q (.bl (decide (xs=[]))) H)
theorem wJ{X:Cx}(hu:X.A.units+220 < cLine):OpR X (compareOp .Eq) (rz_op_eqT0 X.K):=by
 intro OK s σ H x y v u Q I rx ry h;obtain⟨a,b,xs,rfl,rfl,ha,hb,q⟩:=h;obtain⟨its,r1,p1,_⟩:=I.tuple ha;obtain⟨its2,r2,p2,_⟩:=I.tuple hb;cases(show v=Value.ref a from rx);cases(show u=Value.ref b from ry);cases r2;have l1:=r1.length;have e:=RcAt.tuples (A:=X.A) (e:=λ _=>true) p1 p2 ⋯ (λ j h1 h2=>absurd h2 (by simp));refine e X.prog X.w _ _ %[.bl _,H,I,?_|q];cases xs with
 | nil=>cases its with
  | nil=>rfl
  | cons _ _=>simp at l1
 | cons x xs=>cases its with
  | nil=>simp at l1
  | cons _ _=>rfl
theorem ni{xs:OI V}{lo hi:OG Int}(h:HT.sIx xs.length 0 lo=0/\HT.sIx xs.length xs.length hi=xs.length):eE xs lo hi=xs:=by unfold eE;rw[h.1,h.2,N8,OC,K4]
def zD:V->OG Int->OG Int->Hp->VK->Prop:=λ x lo hi H Q=>∃a xs,x=.ref a/\H a= ~~~xs/\∀p H',H' p= ~~~(eE xs lo hi)->Same H H'->Q (.ref p) H'
theorem bz{X:Cx}:SlR X zD:=by
 intro OK s σ H x v vl vu lo hi sl Q I rx hs pl pu h;obtain⟨a,xs,rfl,hx,q⟩:=h
 by_cases hw:HT.sIx xs.length 0 lo=0/\HT.sIx xs.length xs.length hi=xs.length
 ·cases rx;obtain⟨its,r,ht,hz⟩:=I.tuple (G1 hx);have OM:its.toArray.size=xs.length:=by rw[G7];exact r.length.symm
  refine%["tuple",_,PyProof.Rows.slot_tuple_getitem.lookup,ht.typeIs|?_];refine HT.getItem_tuple_whole ht hs pl pu (by rw[OM];exact hw) ?_ (by rw[OM];exact hz);exact%[.ref a,H,I,O|q _ _ (by rw[ni hw];exact hx) (Same.refl _)]
 ·exact mB OK s σ H _ v vl vu lo hi sl Q I rx hs pl pu %[a,xs,rfl,G1 hx,hw|λ p hp=>q p _ aj λ b u e=>by rw[au (av e hp)];exact e]
section
variable{X:Cx}
theorem lO{b c d:Bool}{its:OI F9}(r:Vals [V.bl b,V.bl c,V.bl d] its):its=[.bool b,.bool c,.bool d]:=by
 cases r with
 | cons r1 r2=>
  cases zq r2;cases r1
  rfl
theorem lP{A:Around}{s:F5}{b c d:Bool}:∀y,y∈[Value.bool b,Value.bool c,Value.bool d].toArray->EqAt A s y (.bool true) (mY y):=λ y hy=>by
 have hy:y∈[Value.bool b,Value.bool c,Value.bool d]:=by simpa using hy
 rcases G6.mp hy with rfl | hy
 ·exact pi (b:=b) (c:=b) _ (by simp)
 ·exact pi (b:=c) (c:=d) _ (by simpa using hy)
inductive rz_mt_count3(x:V)(vs:OI V)(H:Hp)(Q:VK):Prop
|mk(l b c d:_)(_:x=.ref l)(_:vs=[.bl true])(_:H l=↥[.bl b,.bl c,.bl d])(_:Q (.int ((if b=true then 1 else 0)+(if c=true then 1 else 0)+(if d=true then 1 else 0))) H)
theorem qL:MtR X "list.count" (rz_mt_count3):=by intro OK s σ H x vs v us Q I rx rv h;obtain⟨l,b,c,d,rfl,rfl,hH,q⟩:=h;cases rx;obtain⟨u,rfl,ru⟩:=rv.one;cases ru;obtain⟨z,its,n,r,hl,e⟩:=I.lstM hH;obtain rfl:=lO r;refine O3 F.slot_list_count %[_,e|O] F.entry_list_count (F.args_list_count_2 _ _) (list_countAt l _ n none #[] (.bool true) mY) %[e,lP|?_];refine%[.int ((if b=true then 1 else 0)+(if c=true then 1 else 0)+(if d=true then 1 else 0)),H,I.tok _,%[s.toks|?_]|q];cases b <;> cases c <;> cases d <;> rfl
inductive rz_mt_index3(x:V)(vs:OI V)(H:Hp)(Q:VK):Prop
|mk(l:OE)(i:Nat)(_:x=.ref l)(_:vs=[.bl true])(_:i < 3)(_:H l=↥[.bl (decide (i=0)),.bl (decide (i=1)),.bl (decide (i=2))])(_:Q (.int i) H)
theorem qM:MtR X "list.index" (rz_mt_index3):=by
 intro OK s σ H x vs v us Q I rx rv h;obtain⟨l,i,rfl,rfl,i3,hH,q⟩:=h;cases rx;obtain⟨u,rfl,ru⟩:=rv.one;cases ru;obtain⟨z,its,n,r,hl,e⟩:=I.lstM hH;obtain rfl:=lO r;have lt:∀m (hm:m < [Value.bool (decide (i=0)),Value.bool (decide (i=1)),Value.bool (decide (i=2))].toArray.size),m < i->mY [Value.bool (decide (i=0)),Value.bool (decide (i=1)),Value.bool (decide (i=2))].toArray[m]=false:=λ m hm h=>by
  have:m=0\/m=1:=⋯
  rcases this with rfl | rfl
  ·show decide (i=0)=false;exact B0 ⋯
  ·show decide (i=1)=false;exact B0 ⋯
 have at':∀(hi:i < [Value.bool (decide (i=0)),Value.bool (decide (i=1)),Value.bool (decide (i=2))].toArray.size),mY [Value.bool (decide (i=0)),Value.bool (decide (i=1)),Value.bool (decide (i=2))].toArray[i]=true:=λ hi=>by
  have:i=0\/i=1\/i=2:=⋯
  rcases this with rfl | rfl | rfl <;> rfl
 have i63:(i:Int) < 2 ^ 63 - 1:=by
  have:(3:Int) < 2 ^ 63 - 1:=∅
  lia
 exact O3 F.slot_list_index %[_,e|O] F.entry_list_index (F.args_list_index_2 _ _) (list_indexAt l _ n none #[] (.bool true) mY i (by show i < 3;exact i3) i63 (at' _) lt) %[e,lP|%[.int i,H,I.tok _,%[_|rfl]|q]]
end
end L2
namespace Pc
open PySem L2
def top(i:Nat):Stmt:=PySem.Challenge.pw_platecuts_k84_tellings_refused.main.body.getD i (.Pass %[0,0,0|0])
abbrev Eu:Stmt:=top 0
abbrev kJ:Stmt:=top 17
abbrev kL:Stmt:=top 18
abbrev wK:Stmt:=top 19
abbrev cf:Stmt:=top 20
abbrev im:Stmt:=top 25
abbrev fu:Stmt:=top 26
abbrev dD:Stmt:=top 33
abbrev kM:Stmt:=top 34
abbrev io:Stmt:=top 35
abbrev cU:Stmt:=top 36
abbrev fv:Stmt:=top 37
abbrev cw:Stmt:=top 38
abbrev dY:Stmt:=top 42
abbrev dZ:Stmt:=top 43
abbrev bM:Stmt:=top 44
abbrev cz:Stmt:=top 45
abbrev kN:Stmt:=top 46
abbrev gh:Stmt:=top 47
abbrev cA:Stmt:=top 48
abbrev ce:Stmt:=top 49
abbrev bD:Stmt:=top 50
abbrev fz:Stmt:=top 51
abbrev ip:Stmt:=top 55
abbrev iq:Stmt:=top 56
abbrev dO:Stmt:=inClass (top 57) 0
abbrev eg:Stmt:=inClass (top 57) 1
abbrev nj:Stmt:=inClass (top 57) 2
abbrev lQ:Stmt:=inClass (top 57) 3
abbrev lR:Stmt:=inClass (top 57) 4
abbrev cV:Stmt:=inClass (top 57) 5
abbrev eh:Stmt:=inClass (top 57) 6
abbrev pI:Stmt:=top 59
abbrev wL:Stmt:=top 60
abbrev pJ:Stmt:=top 61
abbrev pK:Stmt:=top 62
abbrev pL:Stmt:=top 63
abbrev kO:Stmt:=top 64
abbrev pM:Stmt:=top 65
abbrev kP:Stmt:=top 66
abbrev ir:Stmt:=top 67
abbrev iu:Stmt:=top 68
abbrev pN:Stmt:=top 69
abbrev jL:Stmt:=top 70
abbrev jM:Stmt:=top 71
abbrev fY:Stmt:=top 72
abbrev kQ:Stmt:=top 73
abbrev gi:Stmt:=top 74
abbrev fA:Stmt:=top 75
abbrev wM:Stmt:=top 76
abbrev ej:Stmt:=top 77
abbrev fB:Stmt:=top 78
abbrev cg:Stmt:=top 79
abbrev kR:Stmt:=top 80
abbrev pO:Stmt:=top 81
abbrev lS:Stmt:=top 82
theorem pP{α:Type}:∀{xs:OI α},xs.length=5->∃a b c d e,xs=[a,b,c,d,e]
 | [a,b,c,d,e],_=>%[a,b,c,d,e|O]
theorem bW{CX:_}{P:F6}{w:F8}{K:C4}{mg:Str->OG F9}{base:Heap}{N:OI Str}{qual:Str}{scope:Scope}{f:OE}{cd:F9}{A:Around}{outer:OI Env}{s₀:F5}{H₀:Hp}{E:XK}:(bJ CX P w K mg base N qual scope f cd A outer s₀ H₀ E).nox.K=K:=rfl
@[elab_as_elim] theorem aU{H:Hp}{t:OE}{o:HO}{P:Hp->Prop}(ht:H t=none)(h:∀H',H' t=some o->Same H H'->P H'):P (upd H t o):=h _ aj (G0 ht)
section
variable{P:F6}{w:F8}{K:C4}{mg:Str->OG F9}{base:Heap}
structure Blt(mg:Str->OG Value):Prop where
 isi:mg "isinstance" = none
 int:mg "int" = none
 bool:mg "bool" = none
 list:mg "list" = none
 tuple:mg "tuple" = none
 len:mg "len" = none
 range:mg "range" = none
 max:mg "max" = none
 min:mg "min" = none
 abs:mg "abs" = none
 divmod:mg "divmod" = none
 sum:mg "sum" = none
 sorted:mg "sorted" = none
 all:mg "all" = none
 repr:mg "repr" = none
 zip:mg "zip" = none
 enumerate:mg "enumerate" = none
 mostk:∃t,mg "MOST_KINDS" = some (.int 8 t)
 fivek:∃t,mg "THINGS_OF_A_KIND" = some (.int 5 t)
end
theorem Lu{H H':Hp}{p:OE}(s:Same H H'):But p H H':=λ c o _ e=>s c o e
theorem bf{t u:TS}{D:Ends}{σ:St}{H:Hp}(C:(St->Hp->Prop)->Prop)(h1:∀R:St->Hp->Prop,C R->t { D with nx:=R } σ H)(h2:C (u D)):vQ t u D σ H:=h1 _ h2
theorem aw{t u:TS}{D:Ends}{σ:St}{H:Hp}(C:(St->Hp->Prop)->Prop)(h1:∀D':Ends,C D'.nx->t D' σ H)(h2:C (u D)):vQ t u D σ H:=h1 _ h2
theorem cN{P:Prop}(h:∀G:Prop,(P->G)->G):P:=h P id
theorem bO{t u:TS}{D:Ends}{σ:St}{H:Hp}(J:St->Hp->Prop)(h1:∀R:St->Hp->Prop,(∀σ' H',J σ' H'->R σ' H')->t { D with nx:=R } σ H)(h2:∀σ' H',J σ' H'->u D σ' H'):vQ t u D σ H:=h1 _ h2
section
variable{P:F6}{w:F8}{K:C4}{mg:Str->OG F9}{base:Heap}
theorem wN:FnScope ["thing","least"] ["thing","least"] (defScope kJ):=%[O,O,O,∅,O,∅|∅]
theorem uo{f:OE}{fd:F7}(F:Fun K "is_whole" "is_whole" kJ f fd)(B:Blt mg):FnOk P w K mg base CX0 1 f fd ["thing","least"] (cQ K):=by
 refine F.ok wN (λ vs H Q E h=>?_) (λ cdv A outer s H vs Q E hr h=>?_)
 ·obtain⟨x,T,l,rfl,_⟩:=h
  rfl
 obtain⟨x,T,l,rfl,⟨tn,ty⟩,q⟩:=h;refine⟨_,ag (am (bZ (aA be rfl B.isi OP (aa (pv 0) (aa (bN (v:=.ty "int") rfl B.int OX rfl) ad)))
  (bZ (mj (aA be rfl B.isi OP (aa (pv 0) (aa (bN (v:=.ty "bool") rfl B.bool PyProof.Rows.boot_bool rfl) ad))))
  (de (bh sM (pv 0) (pv 1) (aB _)))))),?_⟩
 refine%[_,O,x,_,_,_,_,O,ty,O,dC T tn,_,O|?_];have tb:=oZ ty;refine cj (λ c=>?_) (λ c=>?_)
 ·refine%[_,O,x,_,_,_,_,O,ty,O,bV T tn,_,O,_,O|?_];refine cj (λ c2=>?_) (λ c2=>?_)
  ·have hT:(T == "int")=true:=by
    have:(T == "bool")=false:=by simpa using c2
    rw[this,Bool.or_false]at c;exact c
   obtain⟨i,rfl⟩:=zh ty tn hT;exact%[_,O,_,O,_,_,O,O|q]
  ·have hT:qy x=true:=by
    rw[<- tb];cases e:(T == "bool")with
    | true=>rfl
    | false=>rw[e]at c2;exact absurd rfl c2
   cases x <;> first | exact q | (exact absurd hT B1)
 ·have hx:aR x l=false:=by
   cases x with
   | int i=>
    exfalso;have ty':=ty;generalize hv:Value.type T=tv at ty';cases ty' with
    | int=>cases hv;exact c rfl
   | _=>rfl
  rw[hx]at q;exact q
theorem wO:FnScope ["thing"] ["thing"] (defScope kL):=%[O,O,O,∅,O,∅|∅]
theorem uq{f:OE}{fd:F7}(F:Fun K "is_truth" "is_truth" kL f fd)(B:Blt mg):FnOk P w K mg base CX0 1 f fd ["thing"] (kz K):=by
 refine F.ok wO (λ vs H Q E h=>?_) (λ cdv A outer s H vs Q E hr h=>?_)
 ·obtain⟨x,T,rfl,_⟩:=h
  rfl
 obtain⟨x,T,rfl,⟨tn,ty⟩,q⟩:=h;refine%[_,ag (am (aA be rfl B.isi OP (aa (pv 0) (aa (bN (v:=.ty "bool") rfl B.bool PyProof.Rows.boot_bool rfl) ad))))|?_];refine%[_,O,x,_,_,_,_,O,ty,O,bV T tn|?_];rw[oZ ty];exact q
theorem Ev:FnScope ["thing"] ["thing"] (defScope wK):=%[O,O,O,∅,O,∅|∅]
theorem zE{f:OE}{fd:F7}(F:Fun K "is_row" "is_row" wK f fd)(B:Blt mg):FnOk P w K mg base CX0 1 f fd ["thing"] (jD K):=by
 refine F.ok Ev (λ vs H Q E h=>?_) (λ cdv A outer s H vs Q E hr h=>?_)
 ·obtain⟨x,T,rfl,_⟩:=h
  rfl
 obtain⟨x,T,rfl,ty,q⟩:=h;refine%[_,ag (am (aA ky rfl B.isi OP (aa (pv 0) (aa (ar (aa (bN (v:=.ty "list") rfl B.list PyProof.Rows.boot_list rfl) (aa (bN (v:=.ty "tuple") rfl B.tuple OT rfl) ad))) ad))))|?_];refine%[_,O,zS2|λ p hp=>?_];have s1:Same H (upd H p (.tup [.ty "list",.ty "tuple"])):=λ b o e=>by rw[au (av e hp)];exact e
 have t2:=Ty.same s1 ty;exact%[x,p,_,_,_,_,O,t2.2,aj,O,wg T ty.1|q _ s1]
theorem scIsKind:FnScope ["thing","wide","high","worth","wanted","turns"] ["thing"] (defScope ip):=%[O,O,O,∅,O,∅|∅]
theorem qN{f:OE}{fd:F7}(F:Fun K "is_kind" "is_kind" ip f fd)(B:Blt mg)(DW:Dn P w K mg base "is_whole" ["thing","least"] 1 (cQ K))(DT:Dn P w K mg base "is_truth" ["thing"] 1 (kz K))(DR:Dn P w K mg base "is_row" ["thing"] 1 (jD K)) :
  FnOk P w K mg base CX0 2 f fd ["thing"] (iK K):=by
 refine F.ok scIsKind (λ vs H Q E h=>?_) (λ cdv A outer s H vs Q E hr h=>?_)
 ·obtain⟨x,T,rfl,_⟩:=h
  rfl
 obtain⟨x,T,rfl,ty,q⟩:=h;obtain⟨tk,htk⟩:=B.fivek;have nd:=scIsKind.nd;refine⟨_,af (aL (PW.pt (bn (aS (aO (ah DR hr rfl (aa (pv 0) ad)))) (bG (ay cI (aA aN rfl B.len OW (aa (pv 0) ad)) (aP (v:=.int 5) rfl htk %[tk|O]) (aB _))))) (ag (am bF)) az)
  (af (bL (pv 0) (mI rfl (ao (ap (i:=1) nd rfl (Or.inl rfl)) (ao (ap (i:=2) nd rfl (Or.inl rfl)) (ao (ap (i:=3) nd rfl (Or.inl rfl)) (ao (ap (i:=4) nd rfl (Or.inl rfl)) (ao (ap (i:=5) nd rfl (Or.inl rfl)) aV)))))))
  (af (aL (PW.pt (bn (aS (aO (ah DW hr rfl (aa (pv 1) (aa ae ad))))) (bG (aS (aO (ah DW hr rfl (aa (pv 2) (aa ae ad)))))))) (ag (am bF)) az)
  (ag (am (bZ (ah DW hr rfl (aa (pv 3) (aa ae ad))) (bZ (ah DW hr rfl (aa (pv 4) (aa ae ad))) (de (ah DT hr rfl (aa (pv 5) ad))))))))),?_⟩
 refine%[_,O,x,T,O,ty|λ H1 s1=>%[_,O|?_]];rcases q with⟨n1,n2,q⟩ | ⟨a,xs,rfl,hx,its,q⟩
 ·have e:(T == "list" || T == "tuple")=false:=by simp[n1,n2]
  rw[e];refine aH (aH ?_);exact q H1 s1
 ·have e:(T == "list" || T == "tuple")=true:=by
   have t2:=ty.2;generalize hv:Value.type T=tv at t2;generalize hr:V.ref a=rv at t2;cases t2 with
   | lst _=>cases hv;rfl
   | frz _=>cases hv;rfl
   | tup _=>cases hv;rfl
   | dK e=>cases hr;rcases hx with z | z <;> (rw[z]at e;cases e)
   | dT e=>cases hr;rcases hx with z | z <;> (rw[z]at e;cases e)
   | ext e _=>cases hr;rcases hx with z | z <;> (rw[z]at e;cases e)
   | ins=>cases hv
   | _=>cases hr
  rw[e];have sq:SqL K H1 a xs\/SqT K H1 a xs:=by
   rcases hx with z | z
   ·exact .inl (G2 (s1 _ _ z))
   ·exact .inr (G1 (s1 _ _ z))
  refine aM %[_,rfl,a,xs,rfl,sq,rfl,_,rfl|?_];refine cj (λ c=>?_) (λ c=>?_)
  ·have hl:xs.length≠5:=λ z=>by rw[z]at c;exact absurd c ∅
   have:jE xs=false:=by
    unfold jE
    split
    ·exact absurd rfl hl
    ·rfl
   rw[this]at q;exact q H1 s1
  ·have hl:xs.length=5:=by
    by_cases z:xs.length=5
    ·exact z
    ·exfalso;refine c ?_;have:¬ (V.int (xs.length:Int)=V.int 5):=λ h=>z (by have:=V.int.inj h;lia);rw[OS this];rfl
   obtain⟨x1,x2,x3,x4,x5,rfl⟩:=pP hl;obtain⟨T1,t1⟩:=its x1 (by simp);obtain⟨T2,t2⟩:=its x2 (by simp);obtain⟨T3,t3⟩:=its x3 (by simp);obtain⟨T4,t4⟩:=its x4 (by simp);obtain⟨T5,t5⟩:=its x5 (by simp);refine%[_,O,a,_,O,sq,O,x1,_,O,x2,_,O,x3,_,O,x4,_,O,x5,_,O,O|?_];refine%[_,O,x1,T1,1,O,Ty.same s1 t1,_,O|?_];have q':∀b,jE [x1,x2,x3,x4,x5]=b->Q (.bl b) H1:=λ b e=>by rw[<- e];exact q H1 s1
   have k5:jE [x1,x2,x3,x4,x5]=(aR x1 1 && aR x2 1 && aR x3 0 && aR x4 0 && qy x5):=rfl;cases w1:aR x1 1 with
   | false=>
    refine aH (aH ?_);exact q' false (by rw[k5,w1];rfl)
   | true=>
    refine aM %[_,rfl,x2,T2,1,rfl,Ty.same s1 t2,_,rfl|?_];cases w2:aR x2 1 with
    | false=>
     refine aH ?_;exact q' false (by rw[k5,w1,w2];rfl)
    | true=>
     refine aM %[_,rfl,x3,T3,0,rfl,Ty.same s1 t3,_,rfl|?_];cases w3:aR x3 0 with
     | false=>
      refine aM ?_;exact q' false (by rw[k5,w1,w2,w3];rfl)
     | true=>
      refine aH %[_,rfl,x4,T4,0,rfl,Ty.same s1 t4,_,rfl|?_];cases w4:aR x4 0 with
      | false=>
       refine aM ?_;exact q' false (by rw[k5,w1,w2,w3,w4];rfl)
      | true=>
       refine aH %[_,rfl,x5,T5,rfl,Ty.same s1 t5|?_];exact q' _ (by rw[k5,w1,w2,w3,w4];rfl)
theorem scInit:FnScope ["self","blade","kinds","kind"] ["self","blade","kinds"] (defScope dO):=%[O,O,O,∅,O,∅|∅]
theorem wP{f C:OE}{fd:F7}(F:Fun K "__init__" "Shop.__init__" dO f fd)(B:Blt mg)(T:ShopTxt K C)(DW:Dn P w K mg base "is_whole" ["thing","least"] 1 (cQ K))(DR:Dn P w K mg base "is_row" ["thing"] 1 (jD K))
  (DK:Dn P w K mg base "is_kind" ["thing"] 2 (iK K)):FnOk P w K mg base CX0 3 f fd ["self","blade","kinds"] (mL C):=by
 refine F.ok scInit (λ vs H Q E h=>?_) (λ cdv A outer s H vs Q E hr h=>?_)
 ·obtain⟨x,dx,ks,b,rs,kds,rfl,_⟩:=h
  rfl
 obtain⟨x,dx,ks,b,rs,kds,rfl,hx,b0,hks,hrs,hgd,n1,n8,q⟩:=h;have hr1:=hr.mono (show 1<=2 by decide);obtain⟨tk,htk⟩:=B.mostk;have nd:=scInit.nd;have n8':(8:Nat) < sizeLine:=∅
 refine⟨_,af (aL (aS (aO (ah DW hr1 rfl (aa (pv 1) (aa ae ad))))) gy az)
  (af (aL (PW.pt (bn (aS (aO (ah DR hr1 rfl (aa (pv 2) ad)))) (bG (aS (sN gW gW ae (aA aN rfl B.len OW (aa (pv 2) ad)) (aP (v:=.int 8) rfl htk %[tk|rfl])))))) gy az)
  (af (df E2 rfl (tE (pv 2)) (ap (i:=3) nd rfl (Or.inl rfl)) (ag (aL (aS (aO (ah DK hr rfl (aa (pv 3) ad)))) gy az)))
  (af (sQ (pv 0) (pv 1) rfl)
  (ag (sQ (pv 0) (bg bB rfl B.tuple OT (aa (ib (own:=["kind"]) (cs:=[]) (cap:=[]) rfl (tE (pv 2))
   (cY (sc:=defScope dO) (N:=["self","blade","kinds","kind"]) rfl rfl ∅)
   (λ _ _ _ _ _=>ap (i:=0) (by show List.Nodup (["kind"]:OI Str);decide +kernel) rfl (Or.inl rfl) (Or.inr rfl)) (λ _ _ _ _ _=>dL)
   (λ _ _ _ _ _=>bg (r:=tG K) bB rfl B.tuple OT (aa (pv 0) ad))) ad)) rfl))))),?_⟩
 refine%[_,O,.int b,_,0,O,.int,_,O|?_];have wb:aR (.int b) 0=true:=A9 b0;rw[wb];refine aM ?_;have tyk:∃T,Ty K H (.ref ks) T/\(T == "list" || T == "tuple")=true:=by
  rcases hks with e | e
  ·exact%[_,.lst e|O]
  ·exact%[_,.tup e|O]
 obtain⟨T0,ty0,te0⟩:=tyk;refine%[_,O,.ref ks,T0,O,ty0|λ H1 s1=>%[_,O|?_]];rw[te0];have sq:∀{H2:Hp},Same H H2->SqL K H2 ks rs\/SqT K H2 ks rs:=λ s2=>by
  rcases hks with z | z
  ·exact .inl (G2 (s2 _ _ z))
  ·exact .inr (G1 (s2 _ _ z))
 refine aM %[_,rfl,ks,rs,rfl,sq s1,_,_,rfl,rfl,_,rfl|?_];rw[OO (show(1:Int)<=(rs.length:Int)by lia)];refine aH %[_,_,rfl,rfl,_,rfl|?_];rw[OO (show(rs.length:Int)<=8 by lia)];refine aM ?_;have zZ:=E1 hrs;refine tH (j:=2) (a:=ks) (xs:=rs) rfl (hks.imp (λ z=>s1 _ _ z) λ z=>s1 _ _ z) (λ i σ H2=>∃v,σ=[↑x,⇑b,↑ks,v]/\Same H1 H2) %[none,rfl|Same.refl _] (λ i σ H2 _ ⟨_,_,s2⟩ o e=>s2 _ _ e) ?_ ?_
 ·rintro i y σ H2 hi ⟨v,rfl,s2⟩;obtain⟨k,hk,rk⟩:=G4 hrs hi;refine%[_,O|?_];simp only[ji,J7];refine qA ((rk.same s1).same s2) (hgd k (B5 hk)) λ H3 s3=>%[_,O|aM ?_]
  exact%[_,O|s2.trans s3]
 rintro σ H2 ⟨v,rfl,s12⟩;have s2:Same H H2:=s1.trans s12;refine%[_,O,_,O,x,C,dx,[],O,s2 _ _ hx,T.cl,T.nB,(by show 0 < 1000;decide)|?_];have k3:∀c o,c≠x->H c=some o->(upd H2 x (.ins C dx (dk "blade_width" (.int b) []))) c=some o:=λ c o n e=>by rw[au n];exact s2 c o e
 have x3:(upd H2 x (.ins C dx (dk "blade_width" (.int b) []))) x=some (.ins C dx (dk "blade_width" (.int b) [])):=aj;generalize upd H2 x (.ins C dx (dk "blade_width" (.int b) []))=H3 at k3 x3 ⊢;have rx:∀c xs,H c=↥xs\/H c= ~~~xs->c≠x:=λ c xs e z=>by subst z;rcases e with e | e <;> (rw[hx]at e;cases e)
 dsimp only[Ed,tCB,sR];refine qz (j:=2) (a:=ks) (xs:=rs) rfl (hks.imp (λ z=>k3 _ _ (rx _ _ (.inl z)) z) λ z=>k3 _ _ (rx _ _ (.inr z)) z) (λ i ys H4=>ys.length=i/\Same H3 H4/\Tups H4 ys (kds.take i)) (λ i ys H4 _ ⟨_,s4,_⟩ o e=>s4 _ _ e) %[rfl,Same.refl _|.nil] ?_ ?_
 ·rintro i y ys H4 hi ⟨hy,s4,ty4⟩;have hin:i < rs.length:=(A5.mp hi).1;obtain⟨k,hk,rk⟩:=G4 hrs hi;have tk1:kds.take (i+1)=kds.take i ++ [k]:=by rw[K2,hk];rfl
  refine%[⋯,leS.set rfl|dM ?_];rcases rk with⟨a,rfl,h⟩ | ⟨a,rfl,h⟩
  ·have h4:=s4 _ _ (k3 _ _ (rx _ _ (.inr h)) h);exact%[_,O,a,_,O|.inr %[G1 h4|Nx.of hin %[by rw[G5,hy];rfl,s4|by rw[tk1];exact Paired.snoc ty4 %[a,O|h4]]]]
  ·have h4:=s4 _ _ (k3 _ _ (rx _ _ (.inl h)) h);refine%[_,O,a,_,O|.inl %[G2 h4|λ l hl=>Nx.of hin %[by rw[G5,hy];rfl,λ c o e=>?_|?_]]]
   ·have e4:=s4 c o e;rw[au (av e4 hl)];exact e4
   ·rw[tk1];exact Paired.snoc (Tups.keep (λ c xs e=>by rw[au (av e hl)];exact e) ty4) %[l,rfl|aj]
 rintro ys H4 ⟨hy,s4,ty4⟩;refine%[⋯|λ p hp=>?_];refine%[p,ys,O|.inl %[G2 aj|λ r hr'=>?_]];have hpr:r≠p:=λ z=>by rw[z,aj]at hr';cases hr'
 have hr4:H4 r=none:=by rw[au hpr]at hr';exact hr'
 have x4:=s4 _ _ x3;have xp:x≠p:=av x4 hp;have xr:x≠r:=av x4 hr4;refine%[_,O,x,C,dx,_,O,(by rw[au xr,au xp];exact x4),T.cl,T.nK,(C6 (eL _ _ _) ∅)|?_];rw[zZ,K4]at ty4;refine q _ %[dx,r,ys,aj,by rw[au (Ne.symm xr),aj]|?_] λ c o n e=>?_
 ·refine Tups.keep (λ c xs e=>?_) ty4;rw[au (λ z=>by rw[z,x4]at e;cases e),au (av e hr4),au (av e hp)];exact e
 ·have e4:=s4 _ _ (k3 c o n e);rw[au n,au (av e4 hr4),au (av e4 hp)];exact e4
theorem wQ:FnScope ["self"] ["self"] (defScope eg):=%[O,O,O,∅,O,∅|∅]
theorem ur{f C:OE}{fd:F7}(F:Fun K "blade" "Shop.blade" eg f fd)(T:ShopTxt K C):FnOk P w K mg base CX0 1 f fd ["self"] (fh C):=by
 refine F.ok wQ (λ vs H Q E h=>?_) (λ cdv A outer s H vs Q E hr h=>?_)
 ·obtain⟨x,b,ks,rfl,_⟩:=h
  rfl
 obtain⟨x,b,ks,rfl,⟨dx,r,rs,h1,h2,h3⟩,q⟩:=h;exact%[_,ag (am (kh (pv 0) rfl)),_,O,x,C,dx,_,_,O,h1,T.cl,T.nB,mK _ _|q]
theorem ut:FnScope ["kind"] ["kind"] (defScope iq):=%[O,O,O,∅,O,∅|∅]
theorem qO{f:OE}{fd:F7}(F:Fun K "can_lie_turned" "can_lie_turned" iq f fd):FnOk P w K mg base CX0 1 f fd ["kind"] (lH K):=by
 refine F.ok ut (λ vs H Q E h=>?_) (λ cdv A outer s H vs Q E hr h=>?_)
 ·obtain⟨a,k,rfl,_⟩:=h
  rfl
 obtain⟨a,k,rfl,ha,q⟩:=h;refine%[_,ag (am (bZ (ai ix_tup (pv 0) ae (λ _ _=>rfl)) (de (bh cI (ai ix_tup (pv 0) ae (λ _ _=>rfl)) (ai ix_tup (pv 0) ae (λ _ _=>rfl)) (aB _)))))|?_];refine%[_,O,a,_,4,_,O,O,G1 ha,O,_,O|?_];unfold bo at q;refine cj (λ c=>?_) (λ c=>?_)
 ·rw[c,J6]at q;refine%[_,O,a,_,0,_,O,O,G1 ha,O,_,O,a,_,1,_,O,O,G1 ha,O,O|?_];rw[jZ];rw[show(decide (k.w=k.h))=(k.w == k.h)from rfl]at q;exact q
 ·have c':k.tu=false:=by simpa using c
  rw[c',J8]at q;exact q
theorem qQ:FnScope ["self","kind","turned"] ["self","kind","turned"] (defScope cV):=%[O,O,O,∅,O,∅|∅]
theorem nq{f C:OE}{fd:F7}(F:Fun K "is_lying" "Shop.is_lying" cV f fd)(B:Blt mg)(T:ShopTxt K C)(DW:Dn P w K mg base "is_whole" ["thing","least"] 1 (cQ K))(DU:Dn P w K mg base "is_truth" ["thing"] 1 (kz K))(DT:Dn P w K mg base "can_lie_turned" ["kind"] 1 (lH K)) :
  FnOk P w K mg base CX0 2 f fd ["self","kind","turned"] (fm K C):=by
 refine F.ok qQ (λ vs H Q E h=>?_) (λ cdv A outer s H vs Q E hr h=>?_)
 ·obtain⟨s,b,ks,x,t,T0,U,rfl,_⟩:=h
  rfl
 obtain⟨s,b,ks,x,t,T0,U,rfl,⟨dx,r,rs,h1,h2,h3⟩,tx,tt,q⟩:=h;have Aa:=E1 h3;refine⟨_,af (aL (PW.pt (bn (aS (aO (ah DW hr rfl (aa (pv 1) (aa ae ad))))) (bn (ay sM (pv 1) (aA aN rfl B.len OW (aa (kh (pv 0) rfl) ad)) (aB _))
   (bG (aS (aO (ah DU hr rfl (aa (pv 2) ad)))))))) (ag (am bF)) az)
  (ag (am (DJ (mj (pv 2)) (de (ah DT hr rfl (aa (ai ix_tup (kh (pv 0) rfl) (pv 1) (λ _ _=>rfl)) ad)))))),?_⟩
 refine%[_,O,x,_,0,O,tx,_,O|?_];cases hw:aR x 0 with
 | false=>
  have e:dF ks x t=false:=by
   cases x with
   | int i=>
    have h0:decide (0<=i)=false:=hw;cases t <;> first | rfl | (show(decide (0<=i) && _)=false;rw[h0,J8])
   | _=>rfl
  rw[e]at q;exact aH (aH q)
 | true=>
  have ex:∃i,x=.int i/\0<=i:=by
   cases x with
   | int i=>exact%[i,O|C0 hw]
   | _=>cases hw
  obtain⟨i,rfl,i0⟩:=ex;refine aM %[_,rfl,_,rfl,s,C,dx,_,_,rfl,h1,T.cl,T.nK,gH _ _,r,rs,rfl,.inr (G1 h2),i,_,rfl,rfl,_,rfl|?_]
  by_cases hi:(rs.length:Int)<=i
  ·rw[OO hi];have e:dF ks (.int i) t=false:=by have hn:ks[i.toNat]?=none:=List.getElem?_eq_none ⋯;cases t <;> first | rfl | (show(decide (0<=i) && match ks[i.toNat]? with | some k=>_ | none=>false)=false;rw[hn,J3])
   rw[e]at q;exact aH (aH q)
  ·rw[OS hi];refine aM %[_,rfl,t,_,rfl,tt,_,rfl|?_];have hlt:i.toNat < ks.length:=⋯
   cases hb:qy t with
   | false=>
    have e:dF ks (.int i) t=false:=by cases t <;> first | rfl | cases hb
    rw[e]at q;exact aH q
   | true=>
    have ex:∃c,t=.bl c:=by cases t <;> first | exact%[_|O] | cases hb
    obtain⟨c,rfl⟩:=ex;obtain⟨y,hy⟩:∃y,rs[i.toNat]?=some y:=%[rs[i.toNat]'⋯|by simp[show i.toNat < rs.length by lia]]
    obtain⟨k,hk,a,rfl,ha⟩:=G4 h3 hy;have e:dF ks (.int i) (.bl c)=(!c || bo k):=by show(decide (0<=i) && match ks[i.toNat]? with | some k=>(!c || bo k) | none=>false)=_;rw[hk,OO i0,J6]
    rw[e]at q;refine aM %[_,rfl,c,rfl,_,rfl|?_];refine cj (λ d=>?_) (λ d=>?_)
    ·rw[d,Bool.true_or]at q;exact q
    ·have d':(!c)=false:=by simpa using d
     rw[d',Bool.false_or]at q;have at':atI rs i=↑a:=by
      have en:ixN rs.length i=some i.toNat:=by unfold ixN;rw[OR i0,OR ⋯]
      unfold atI;rw[en];exact hy
     exact%[_,O,s,C,dx,_,_,O,h1,T.cl,T.nK,gH _ _,_,O,r,rs,i,_,O,O,G1 h2,at',a,k,O,ha|q]
end
def uw(k:Kd)(c:Bool):OI V:=if c=true then[.int k.h,.int k.w]else[.int k.w,.int k.h]
inductive spSides(K:C4)(C:OE)(vs:OI V)(H:Hp)(Q:VK)(E_:XK):Prop
|mk(s:OE)(b:Int)(ks:OI Kd)(x t:V)(T U:String)(_:vs=[.ref s,x,t])(_:ShopAt C H s b ks)(_:Ty K H x T)(_:Ty K H t U)(_:dF ks x t=true)(_:∀(i:Int)(c:Bool)(k:Kd)(p:OE),x=.int i->t=.bl c->ks[i.toNat]?=some k->dF ks x t=true->H p=none->Q (.ref p) (upd H p (.tup (uw k c))))
theorem cB{ks:OI Kd}{x t:V}(h:dF ks x t=true):∃(i:Int)(c:Bool)(k:Kd),x=.int i/\t=.bl c/\0<=i/\ks[i.toNat]?=some k:=by
 unfold dF at h
 split at h
 ·rename_i i c
  rw[G8]at h;obtain⟨h1,h2⟩:=h
  split at h2
  ·rename_i k hk
   exact%[i,c,k,O,O,C0 h1|hk]
  ·cases h2
 ·cases h
theorem zF{rs:OI V}{i:Int}{v:V}(i0:0<=i)(h:rs[i.toNat]?=some v):atI rs i=some v:=by
 have en:ixN rs.length i=some i.toNat:=by unfold ixN;have:=(A5.mp h).1;rw[OR i0,OR ⋯]
 unfold atI;rw[en];exact h
section
variable{P:F6}{w:F8}{K:C4}{mg:Str->OG F9}{base:Heap}
theorem scSides:FnScope ["self","kind","turned","row"] ["self","kind","turned"] (defScope eh):=%[O,O,O,∅,O,∅|∅]
theorem ux{f C:OE}{fd:F7}(F:Fun K "sides" "Shop.sides" eh f fd)(T:ShopTxt K C)(ML:Mn P w K mg base C "is_lying" ["self","kind","turned"] 2 (fm K C)) :
  FnOk P w K mg base CX0 3 f fd ["self","kind","turned"] (spSides K C):=by
 refine F.ok scSides (λ vs H Q E h=>?_) (λ cdv A outer s H vs Q E hr h=>?_)
 ·obtain⟨s,b,ks,x,t,T0,U,rfl,_⟩:=h
  rfl
 obtain⟨s,b,ks,x,t,T0,U,rfl,S,tx,tt,he,hq⟩:=h;have nd:=scSides.nd;refine⟨_,af (aL (aS (aO (tL (pv 0) T.cl ML hr (aa (pv 1) (aa (pv 2) ad))))) (ag cH) az)
  (af (aG (i:=3) nd rfl (Or.inl rfl) (ai ix_tup (kh (pv 0) rfl) (pv 1) (λ _ _=>rfl)))
  (af (aL (aO (pv 2)) (ag (am (ar (aa (ai ix_tup (pv 3) ae (λ _ _=>rfl)) (aa (ai ix_tup (pv 3) ae (λ _ _=>rfl)) ad))))) az)
  (ag (am (ar (aa (ai ix_tup (pv 3) ae (λ _ _=>rfl)) (aa (ai ix_tup (pv 3) ae (λ _ _=>rfl)) ad))))))),?_⟩
 obtain⟨dx,r,rs,h1,h2,h3⟩:=id S;refine%[_,O,s,dx,_,O,h1,fg _ _ ∅ ∅,_,O,_,O,s,b,ks,x,t,T0,U,O,S,tx,tt,_,O|?_];cases hl:dF ks x t with
 | false=>rw[hl]at he;cases he
 | true=>
  obtain⟨i,c,k,rfl,rfl,i0,hk⟩:=cB hl;have Aa:=E1 h3;have hik:=(A5.mp hk).1;obtain⟨y,hy⟩:∃y,rs[i.toNat]?=some y:=%[rs[i.toNat]'⋯|by simp[show i.toNat < rs.length by lia]]
  obtain⟨k',hk',a,rfl,ha⟩:=G4 h3 hy;rw[hk]at hk';obtain rfl:=B8 hk';refine aM ?_;refine%[_,O,s,C,dx,_,_,O,h1,T.cl,T.nK,gH _ _,_,O,r,rs,i,_,O,O,G1 h2,zF i0 hy|?_];refine%[_,O,_,O|?_];cases c with
  | true=>
   refine aH ?_;refine%[_,O,a,_,1,_,O,O,G1 ha,O,_,O,a,_,0,_,O,O,G1 ha,O,zS2|λ p hp=>?_];exact hq i true k p rfl rfl hk hl hp
  | false=>
   refine aM ?_;refine%[_,O,a,_,0,_,O,O,G1 ha,O,_,O,a,_,1,_,O,O,G1 ha,O,zS2|λ p hp=>?_];exact hq i false k p rfl rfl hk hl hp
end
mutual
inductive Dt(p:OE)(H:Hp):V->PyData->Prop
 | non:Dt p H .non .none
 | bl (b:Bool):Dt p H (.bl b) (.bool b)
 | int (i:Int):Dt p H (.int i) (.int i)
 | str (z:Str):Dt p H (.str z) (.str z)
 | lst {a:OE} {xs:OI V} {ds:OI PyData}:a≠p->H a=↥xs->Dts p H xs ds->Dt p H (.ref a) (.list ds)
 | tup {a:OE} {xs:OI V} {ds:OI PyData}:H a= ~~~xs->Dts p H xs ds->Dt p H (.ref a) (.tuple ds)
 | emp {a:OE}:H a=some (.dK [])->Dt p H (.ref a) (.dict [])
inductive Dts(p:OE)(H:Hp):OI V->OI PyData->Prop
 | nil:Dts p H [] []
 | cons {x:V} {d:PyData} {xs:OI V} {ds:OI PyData}:Dt p H x d->Dts p H xs ds->Dts p H (x :: xs) (d :: ds)
end
mutual
theorem Dt.same{p:OE}{H H':Hp}(s:Same H H'):∀{v:V}{d:PyData},Dt p H v d->Dt p H' v d
 | _,_,.non=>.non
 | _,_,.bl b=>.bl b
 | _,_,.int i=>.int i
 | _,_,.str z=>.str z
 | _,_,.lst n h r=>.lst n (s _ _ h) (r.same s)
 | _,_,.tup h r=>.tup (s _ _ h) (r.same s)
 | _,_,.emp h=>.emp (s _ _ h)
theorem Dts.same{p:OE}{H H':Hp}(s:Same H H'):∀{vs:OI V}{ds:OI PyData},Dts p H vs ds->Dts p H' vs ds
 | _,_,.nil=>.nil
 | _,_,.cons a r=>.cons (a.same s) (r.same s)
end
theorem Dts.length{p:OE}{H:Hp}:∀{vs:OI V}{ds:OI PyData},Dts p H vs ds->vs.length=ds.length
 | _,_,.nil=>rfl
 | _,_,.cons _ r=>by rw[I9,I9,r.length]
theorem Dt.ty{K:C4}{p:OE}{H:Hp}{v:V}{d:PyData}(h:Dt p H v d):∃T,Ty K H v T:=by
 cases h with
 | non=>exact%[_|Ty.non]
 | bl b=>exact%[_|Ty.bl]
 | int i=>exact%[_|Ty.int]
 | str z=>exact%[_|Ty.str]
 | lst _ h _=>exact%[_|Ty.lst h]
 | tup h _=>exact%[_|Ty.tup h]
 | emp h=>exact%[_|Ty.dK h]
mutual
theorem Dt.but{p:OE}{H H':Hp}(hp:∃xs,H p=↥xs)(b:But p H H'):∀{v:V}{d:PyData},Dt p H v d->Dt p H' v d
 | _,_,.non=>.non
 | _,_,.bl b=>.bl b
 | _,_,.int i=>.int i
 | _,_,.str z=>.str z
 | _,_,.lst n h r=>.lst n (b _ _ n h) (r.but hp b)
 | _,_,.tup h r=>.tup (b _ _ (λ z=>by obtain⟨_,e⟩:=hp;rw[z,e]at h;cases h) h) (r.but hp b)
 | _,_,.emp h=>.emp (b _ _ (λ z=>by obtain⟨_,e⟩:=hp;rw[z,e]at h;cases h) h)
theorem Dts.but{p:OE}{H H':Hp}(hp:∃xs,H p=↥xs)(b:But p H H'):∀{vs:OI V}{ds:OI PyData},Dts p H vs ds->Dts p H' vs ds
 | _,_,.nil=>.nil
 | _,_,.cons a r=>.cons (a.but hp b) (r.but hp b)
end
mutual
noncomputable def wt:PyData->Nat
 | .str z=>z.length+1
 | .list ds=>wts ds+1
 | .tuple ds=>wts ds+1
 | _=>1
noncomputable def wts:OI PyData->Nat
 | []=>0
 | d :: r=>wt d+wts r
end
theorem pQ(d:PyData):1<=wt d:=by cases d <;> simp only[wt] <;> lia
def aI:PyData->OG (OI PyData)
 | .list ds=>some ds
 | .tuple ds=>some ds
 | _=>none
theorem uy{d x:PyData}{ds:OI PyData}(h:aI d=some ds)(hx:x∈ds):sizeOf x < sizeOf d:=by
 have:=List.sizeOf_lt_of_mem hx;cases d <;> simp only[aI,Option.some.injEq,reduceCtorEq]at h
 ·subst h;simp;lia
 ·subst h;simp;lia
theorem Dt.row{K:C4}{p:OE}{H:Hp}{v:V}{d:PyData}(h:Dt p H v d):(aI d=none/\∃T,Ty K H v T/\(T == "list" || T == "tuple")=false)\/∃a xs ds T,aI d=some ds/\v=.ref a/\(H a=↥xs\/H a= ~~~xs)/\Dts p H xs ds/\Ty K H v T/\(T == "list" || T == "tuple")=true:=by
 cases h with
 | non=>exact .inl %[O,_,Ty.non|O]
 | bl b=>exact .inl %[O,_,Ty.bl|O]
 | int i=>exact .inl %[O,_,Ty.int|O]
 | str z=>exact .inl %[O,_,Ty.str|O]
 | lst _ h r=>exact .inr %[_,_,_,_,O,O,.inl h,r,Ty.lst h|O]
 | tup h r=>exact .inr %[_,_,_,_,O,O,.inr h,r,Ty.tup h|O]
 | emp h=>exact .inl %[O,_,Ty.dK h|O]
def bw(d:PyData)(z:Str)(n:Nat):Bool:=match aI d with
 | some (.str y :: r)=>decide (r.length+1=n) && decide (y=z)
 | _=>false
section
variable{P:F6}{w:F8}{K:C4}{mg:Str->OG F9}{base:Heap}
inductive spBegins(vs:OI V)(H:Hp)(Q:VK)(E_:XK):Prop
|mk(pp:OE)(v:V)(d:PyData)(z:Str)(n:Nat)(_:vs=[v,.str z,.int n])(_:1<=n)(_:Dt pp H v d)(_:∀H',Same H H'->Q (.bl (bw d z n)) H')
theorem scbegins:FnScope ["thing","word","many"] ["thing","word","many"] (defScope dD):=%[O,O,O,∅,O,∅|∅]
theorem qR{f:OE}{fd:F7}(F:Fun K "begins_with" "begins_with" dD f fd)(B:Blt mg)(bs:mg "str" = none)(DR:Dn P w K mg base "is_row" ["thing"] 1 (jD K)):FnOk P w K mg base CX0 2 f fd ["thing","word","many"] (spBegins):=by
 refine F.ok scbegins (λ vs H Q E h=>?_) (λ cdv A outer s H vs Q E hr h=>?_)
 ·obtain⟨pp,v,d,z,n,rfl,_⟩:=h
  rfl
 obtain⟨pp,v,d,z,n,rfl,n1,hd,q⟩:=h;have nd:=scbegins.nd;refine%[_,(((PW.pt (bn (@aS _ _ _ _ (@aO _ _ _ (DR∪((pv 0)^^^ad)) (by intro _;rfl))) (bG ((@aA _ _ _ _ _ _ _ _ _ aN O B.len OW ((pv 0)^^^ad) ∅ ∅ O O)<*>cI<*>(pv 2)))))<|>(bF⁻¹)<|>az)<<<((bZ (@aA _ _ _ _ _ _ _ _ _ be O B.isi OP (((pv 0)&&&bQ&&&ae)^^^((bN (v:=.ty "str") O bs PyProof.Rows.boot_str O)^^^ad)) ∅ ∅ O O) (de (@bh _ _ _ _ _ _ _ _ bc ((pv 0)&&&bQ&&&ae) (pv 1) (aB _))))⁻¹))|?_];dsimp only[bW];rcases hd.row (K:=K)with⟨e,T,ty,hT⟩ | ⟨a,xs,ds,T,e,rfl,hx,dx,ty,hT⟩
 ·refine%[_,O,v,T,O,ty|λ H1 s1=>%[_,O|?_]];rw[hT];have q1:=q H1 s1;unfold bw at q1;rw[e]at q1;exact aH (aH q1)
 refine%[_,O,_,T,O,ty|λ H1 s1=>%[_,O|?_]];rw[hT];have sq:SqL K H1 a xs\/SqT K H1 a xs:=hx.imp (λ z=>G2 (s1 _ _ z)) λ z=>G1 (s1 _ _ z);refine aM %[_,rfl,a,_,rfl,sq,_,rfl,rfl,_,rfl|?_];have q1:=q H1 s1;have len:=dx.length;cases dx with
 | nil=>
  rw[show decide (V.int (([]:OI V).length:Int)=V.int (n:Int))=false from OS (λ z=>by have:=V.int.inj z;simp at this;lia)];unfold bw at q1;rw[e]at q1;exact aH q1
 | @cons x d1 xs ds hd1 dr=>
  have a0:atI (x :: xs) 0=some x:=aE (E3 _) rfl;have ixs:∀Q':VK,Q' x H1->rIx K (.ref a) (.int 0) H1 Q':=λ Q' h=>sq.elim (λ z=>.inl %[a,_,0,x,O,O,z,a0|h]) (λ z=>.inr (.inl %[a,_,0,x,O,O,z,a0|h]));rw[I9,I9]at len
  by_cases hn:ds.length+1=n
  ·rw[show decide (V.int ((x :: xs).length:Int)=V.int (n:Int))=true from OO (by rw[I9,len,hn])];refine aM %[_,rfl|ixs _ ?_];cases hd1 with
   | str y=>
    refine%[_,_,_,_,_,O,(Ty.str (K:=K)).2,O,bT "str" (by simp[ax]),_,O|aH ?_];refine%[_,O|ixs _ %[_,O,O|?_]];unfold bw at q1;rw[e]at q1;simp only[hn,decide_true,J6]at q1;rw[show decide (V.str y=V.str z)=decide (y=z)from decide_eq_decide.mpr %[V.str.inj|On _]];exact q1
   | non=>exact%[_,_,_,_,_,O,(Ty.non (K:=K)).2,O,bT "NoneType" (by simp[ax]),_,O|aM (by unfold bw at q1;rw[e]at q1;exact q1)]
   | bl b=>exact%[_,_,_,_,_,O,(Ty.bl (K:=K)).2,O,bT "bool" (by simp[ax]),_,O|aM (by unfold bw at q1;rw[e]at q1;exact q1)]
   | int i=>exact%[_,_,_,_,_,O,(Ty.int (K:=K)).2,O,bT "int" (by simp[ax]),_,O|aM (by unfold bw at q1;rw[e]at q1;exact q1)]
   | lst _ h r=>exact%[_,_,_,_,_,O,(Ty.lst (s1 _ _ h) (K:=K)).2,O,bT "list" (by simp[ax]),_,O|aM (by unfold bw at q1;rw[e]at q1;exact q1)]
   | tup h r=>exact%[_,_,_,_,_,O,(Ty.tup (s1 _ _ h) (K:=K)).2,O,bT "tuple" (by simp[ax]),_,O|aM (by unfold bw at q1;rw[e]at q1;exact q1)]
   | emp h=>exact%[_,_,_,_,_,O,(Ty.dK (s1 _ _ h) (K:=K)).2,O,bT "dict" (by simp[ax]),_,O|aM (by unfold bw at q1;rw[e]at q1;exact q1)]
  ·rw[show decide (V.int ((x :: xs).length:Int)=V.int (n:Int))=false from OS (λ z=>hn (by have:=V.int.inj z;rw[I9,len]at this;lia))];refine aH ?_;have z:bw d z n=false:=by unfold bw;rw[e];cases d1 <;> simp[hn]
   rw[z]at q1;exact q1
def sd1(k:Kd)(c:Bool):Int:=if c=true then k.h else k.w
def sd2(k:Kd)(c:Bool):Int:=if c=true then k.w else k.h
theorem uz(k:Kd)(c:Bool):uw k c=[.int (sd1 k c),.int (sd2 k c)]:=by cases c <;> rfl
def dP(ks:OI Kd)(w h:Int)(kv tv xv yv:V):Bool:=dF ks kv tv && aR xv 0 && aR yv 0 && (match kv,tv,xv,yv with
 | .int i,.bl c,.int x,.int y=>(match ks[i.toNat]? with
  | some k=>decide (x+sd1 k c<=w) && decide (y+sd2 k c<=h)
  | none=>false)
 | _,_,_,_=>false)
inductive spLiesG(K:C4)(C:OE)(vs:OI V)(H:Hp)(Q:VK)(E_:XK):Prop
|mk(s:OE)(b:Int)(ks:OI Kd)(w h:Int)(kv tv xv yv:V)(T1 T2 T3 T4:String)(_:vs=[.ref s,.int w,.int h,kv,tv,xv,yv])(_:ShopAt C H s b ks)(_:Ty K H kv T1)(_:Ty K H tv T2)(_:Ty K H xv T3)(_:Ty K H yv T4)(_:∀H',Same H H'->Q (.bl (dP ks w h kv tv xv yv)) H')
theorem scliesG:FnScope ["shop","wide","high","kind","turned","x","y","piece_wide","piece_high"] ["shop","wide","high","kind","turned","x","y"] (defScope im):=%[O,O,O,∅,O,∅|∅]
theorem uA{f C:OE}{fd:F7}(F:Fun K "lies_in" "lies_in" im f fd)(T:ShopTxt K C)(DW:Dn P w K mg base "is_whole" ["thing","least"] 1 (cQ K))(MI:Mn P w K mg base C "is_lying" ["self","kind","turned"] 2 (fm K C))(MS:Mn P w K mg base C "sides" ["self","kind","turned"] 3 (spSides K C)):FnOk P w K mg base CX0 4 f fd ["shop","wide","high","kind","turned","x","y"] (spLiesG K C):=by
 refine F.ok scliesG (λ vs H Q E h=>?_) (λ cdv A outer s H vs Q E hr h=>?_)
 ·obtain⟨s,b,ks,w1,h1,kv,tv,xv,yv,T1,T2,T3,T4,rfl,_⟩:=h
  rfl
 obtain⟨s,b,ks,w1,h1',kv,tv,xv,yv,T1,T2,T3,T4,rfl,S,t1,t2,t3,t4,q⟩:=h;have nd:=scliesG.nd;have hr1:=hr.mono (show 1<=3 by decide);have hr2:=hr.mono (show 2<=3 by decide);refine%[_,(((PW.pt (bn (@aS _ _ _ _ (@aO _ _ _ (tL (pv 0) T.cl MI hr2 ((pv 3)^^^((pv 4)^^^ad))) (by intro _;rfl))) (bn (@aS _ _ _ _ (@aO _ _ _ (@ah _ _ _ _ _ _ _ _ _ _ DW hr1 O ((pv 5)^^^(ae^^^ad)) ∅ O O) (by intro _;rfl))) (bG (@aS _ _ _ _ (@aO _ _ _ (@ah _ _ _ _ _ _ _ _ _ _ DW hr1 O ((pv 6)^^^(ae^^^ad)) ∅ O O) (by intro _;rfl)))))))<|>(bF⁻¹)<|>az)<<<((@bL _ _ _ _ _ _ (tL (pv 0) T.cl MS hr ((pv 3)^^^((pv 4)^^^ad))) (bC O (7•(8•aV))) O O O)<<<((bZ (@bh _ _ _ _ _ _ _ _ gW ((pv 5)|||aX|||(pv 7)) (pv 1) (aB _)) (de (@bh _ _ _ _ _ _ _ _ gW ((pv 6)|||aX|||(pv 8)) (pv 2) (aB _))))⁻¹)))|?_];dsimp only[bW];obtain⟨dx,r,rs,h1,h2,h3⟩:=id S;refine%[_,O,s,dx,_,O,h1,(fg _ _ ∅ ∅),_,O,_,O,s,b,ks,kv,tv,T1,T2,O,S,t1,t2,_,O|?_];cases ly:dF ks kv tv with
 | false=>
  have q1:=q H (Same.refl _);unfold dP at q1;rw[ly]at q1;exact aH (aH q1)
 | true=>
 refine aM %[_,rfl,xv,T3,0,rfl,t3,_,rfl|?_];cases hx:aR xv 0 with
 | false=>
  have q1:=q H (Same.refl _);unfold dP at q1;rw[ly,hx]at q1;exact aH (aH q1)
 | true=>
 refine aM %[_,rfl,yv,T4,0,rfl,t4,_,rfl|?_];cases hy:aR yv 0 with
 | false=>
  have q1:=q H (Same.refl _);unfold dP at q1;rw[ly,hx,hy]at q1;exact aH q1
 | true=>
 refine aM ?_;obtain⟨i,c,k,rfl,rfl,i0,hk⟩:=cB ly;obtain⟨x1,rfl⟩:∃i,xv=.int i:=by cases xv <;> first | exact%[_|O] | cases hx
 obtain⟨y1,rfl⟩:∃i,yv=.int i:=by cases yv <;> first | exact%[_|O] | cases hy
 refine%[_,O,s,dx,_,O,h1,(fg _ _ ∅ ∅),_,O,_,O,s,b,ks,.int i,.bl c,T1,T2,O,S,t1,t2,ly|λ i' c' k' p e1 e2 hk' _ hp=>?_];cases e1;cases e2;rw[hk]at hk';cases hk';rw[uz];have q1:=q _ (G0 hp (o:=.tup [.int (sd1 k c),.int (sd2 k c)]));refine%[p,_,O,G1 aj,O,_,_,O,_,_,O,O|?_];refine%[_,O,_,O,_,_,O,O,_,O,_,_,O,O,_,O|?_];unfold dP at q1;rw[ly,hx,hy]at q1;simp only[hk,J6]at q1;refine cj (λ cc=>?_) (λ cc=>?_)
 ·refine%[_,O,_,O,_,_,O,O,_,O,_,_,O,O|?_];rw[cc,J6]at q1;exact q1
 ·rw[show decide (x1+sd1 k c<=w1)=false by simpa using cc,J8]at q1;exact q1
end
theorem Dts.one{p:OE}{H:Hp}{xs:OI V}{ds:OI PyData}{n:Nat}(h:Dts p H xs ds)(hl:ds.length=n+1):∃x d xs' ds',xs=x :: xs'/\ds=d :: ds'/\Dt p H x d/\Dts p H xs' ds'/\ds'.length=n:=by
 cases h with
 | nil=>cases hl
 | cons a r=>exact%[_,_,_,_,O,O,a,r|Nat.succ.inj hl]
theorem Dts.zero{p:OE}{H:Hp}{xs:OI V}{ds:OI PyData}(h:Dts p H xs ds)(hl:ds.length=0):xs=[]/\ds=[]:=by
 cases h with
 | nil=>exact%[O|O]
 | cons a r=>cases hl
theorem Dts.three{p:OE}{H:Hp}{xs:OI V}{ds:OI PyData}(h:Dts p H xs ds)(hl:ds.length=3):∃x1 x2 x3 d1 d2 d3,xs=[x1,x2,x3]/\ds=[d1,d2,d3]/\Dt p H x1 d1/\Dt p H x2 d2/\Dt p H x3 d3:=by obtain⟨x1,d1,xs,ds,rfl,rfl,h1,h,hl⟩:=h.one hl;obtain⟨x2,d2,xs,ds,rfl,rfl,h2,h,hl⟩:=h.one hl;obtain⟨x3,d3,xs,ds,rfl,rfl,h3,h,hl⟩:=h.one hl;obtain⟨rfl,rfl⟩:=h.zero hl;exact%[_,_,_,_,_,_,O,O,h1,h2|h3]
theorem Dts.four{p:OE}{H:Hp}{xs:OI V}{ds:OI PyData}(h:Dts p H xs ds)(hl:ds.length=4):∃x1 x2 x3 x4 d1 d2 d3 d4,xs=[x1,x2,x3,x4]/\ds=[d1,d2,d3,d4]/\Dt p H x1 d1/\Dt p H x2 d2/\Dt p H x3 d3/\Dt p H x4 d4:=by obtain⟨x1,d1,xs,ds,rfl,rfl,h1,h,hl⟩:=h.one hl;obtain⟨x2,x3,x4,d2,d3,d4,rfl,rfl,h2,h3,h4⟩:=h.three hl;exact%[_,_,_,_,_,_,_,_,O,O,h1,h2,h3|h4]
section
variable{P:F6}{w:F8}{K:C4}{mg:Str->OG F9}{base:Heap}
structure TrC(K:C4)(mg:Str->OG Value)(wa:OE):Prop where
 dn:∃t,mg "DOWN" = some (.str "down" t)
 rs:∃t,mg "REST" = some (.str "rest" t)
 pc:∃t,mg "PIECE" = some (.str "piece" t)
 n1:∃t,mg "THINGS_OF_A_REST" = some (.int 1 t)
 n5:∃t,mg "THINGS_OF_A_PIECE" = some (.int 5 t)
 n4:∃t,mg "THINGS_OF_A_CUT" = some (.int 4 t)
 wy:mg "WAYS" = ↑wa
 wq:∀H,SqT K H wa [.str "down",.str "across"]
def wR(b side:Int):PyData->Bool
 | .int p=>decide (1<=p) && decide (p+b < side)
 | _=>false
def fL(b side:Int)(d:PyData):Bool:=match aI d with
 | some [_,p,_,_]=>wR b side p
 | _=>false
def isC(b w h:Int)(d:PyData):Bool:=if bw d "down" 4=true then fL b w d else if bw d "across" 4=true then fL b h d else false
def eA(ks:OI Kd)(w h:Int):PyData->PyData->PyData->PyData->Bool
 | .int i,.bool c,.int x,.int y=>dP ks w h (.int i) (.bl c) (.int x) (.int y)
 | _,_,_,_=>false
def isL(ks:OI Kd)(w h:Int)(d:PyData):Bool:=if bw d "piece" 5=true then(match aI d with
 | some [_,k,t,x,y]=>eA ks w h k t x y
 | _=>false)else bw d "rest" 1
inductive spParts2(vs:OI V)(H:Hp)(Q:VK)(E_:XK):Prop
|mk(b w h p:Int)(t:OE)(dn:Bool)(_:vs=[.int b,.ref t,.str (if dn=true then "down" else "across"),.int p])(_:H t= ~~~[.int w,.int h])(_:∀(u t1 t2:OE)(H':Hp),H' u= ~~~[.ref t1,.ref t2]->H' t1= ~~~(if dn=true then[.int p,.int h]else[.int w,.int p])->H' t2= ~~~(if dn=true then[.int (w - p - b),.int h]else[.int w,.int (h - p - b)])->Same H H'->Q (.ref u) H')
inductive spCut(vs:OI V)(H:Hp)(Q:VK)(E_:XK):Prop
|mk(pp:OE)(b x y w h:Int)(sp:OE)(v:V)(d:PyData)(_:vs=[.int b,.ref sp])(_:H sp= ~~~[.int x,.int y,.int w,.int h,v])(_:Dt pp H v d)(_:∀H',Same H H'->Q (.bl (isC b w h d)) H')
inductive spLeaf(C:OE)(vs:OI V)(H:Hp)(Q:VK)(E_:XK):Prop
|mk(pp:OE)(b' x y w h:Int)(s sp:OE)(ks:OI Kd)(v:V)(d:PyData)(_:vs=[.ref s,.ref sp])(_:ShopAt C H s b' ks)(_:H sp= ~~~[.int x,.int y,.int w,.int h,v])(_:Dt pp H v d)(_:∀H',Same H H'->Q (.bl (isL ks w h d)) H')
inductive spBehind(vs:OI V)(H:Hp)(Q:VK)(E_:XK):Prop
|mk(b x y w h p:Int)(sp a:OE)(dn:Bool)(l r:V)(_:vs=[.int b,.ref sp])(_:H sp= ~~~[.int x,.int y,.int w,.int h,.ref a])(_:(H a=some (.lst [.str (if dn=true then "down" else "across"),.int p,l,r])\/H a=some (.tup [.str (if dn=true then "down" else "across"),.int p,l,r])))(_:∀(u t1 t2:OE)(H':Hp),H u=none->H' u=↥[.ref t1,.ref t2]->H' t1= ~~~(if dn=true then[.int x,.int y,.int p,.int h,l]else[.int x,.int y,.int w,.int p,l])->H' t2= ~~~(if dn=true then[.int (x+(p+b)),.int y,.int (w - p - b),.int h,r]else[.int x,.int (y+(p+b)),.int w,.int (h - p - b),r])->Same H H'->Q (.ref u) H')
theorem scparts2:FnScope ["blade","part","way","p","wide","high"] ["blade","part","way","p"] (defScope fu):=%[O,O,O,∅,O,∅|∅]
theorem qS{f wa:OE}{fd:F7}(F:Fun K "cut_parts" "cut_parts" fu f fd)(Z:TrC K mg wa):FnOk P w K mg base CX0 1 f fd ["blade","part","way","p"] (spParts2):=by
 refine F.ok scparts2 (λ vs H Q E h=>?_) (λ cdv A outer s H vs Q E hr h=>?_)
 ·obtain⟨b,w1,h1,p1,t,dn,rfl,_⟩:=h
  rfl
 obtain⟨b,w1,h1,p1,t,dn,rfl,ht,q⟩:=h;have nd:=scparts2.nd;obtain⟨tdn,hdn⟩:=Z.dn;obtain⟨trs,hrs⟩:=Z.rs;obtain⟨tpc,hpc⟩:=Z.pc;obtain⟨tn1,hn1⟩:=Z.n1;obtain⟨tn5,hn5⟩:=Z.n5;obtain⟨tn4,hn4⟩:=Z.n4;refine%[_,((@bL _ _ _ _ _ _ (pv 1) (bC O (4•(5•aV))) O O O)<<<((((pv 2)<*>bc<*>(aP (v:=.str "down") O hdn %[tdn|O]))<|>((@ar _ _ _ _ _ ((@ar _ _ _ _ _ ((pv 3)^^^((pv 5)^^^ad)))^^^((@ar _ _ _ _ _ ((((pv 4)|||bH|||(pv 3))|||bH|||(pv 0))^^^((pv 5)^^^ad)))^^^ad)))⁻¹)<|>az)<<<((@ar _ _ _ _ _ ((@ar _ _ _ _ _ ((pv 4)^^^((pv 3)^^^ad)))^^^((@ar _ _ _ _ _ ((pv 4)^^^((((pv 5)|||bH|||(pv 3))|||bH|||(pv 0))^^^ad)))^^^ad)))⁻¹)))|?_];dsimp only[bW];refine%[_,O,t,_,O,G1 ht,O,_,_,O,_,_,O,O|?_];cases dn with
 | true=>
  refine%[_,O,O,_,O|aH ?_];refine%[_,O,_,O,zS2|λ t1 h1'=>?_];have sa:Same H (upd H t1 (.tup [.int p1,.int h1])):=G0 h1';have ka:(upd H t1 (.tup [.int p1,.int h1])) t1= ~~~[.int p1,.int h1]:=aj;generalize upd H t1 (.tup [.int p1,.int h1])=Ha at sa ka ⊢;refine%[_,O,_,O,_,_,O,O,_,O,_,_,O,O,_,O,zS2|λ t2 h2'=>?_];have sb:Same Ha (upd Ha t2 (.tup [.int (w1 - p1 - b),.int h1])):=G0 h2';have kb:(upd Ha t2 (.tup [.int (w1 - p1 - b),.int h1])) t2= ~~~[.int (w1 - p1 - b),.int h1]:=aj;generalize upd Ha t2 (.tup [.int (w1 - p1 - b),.int h1])=Hb at sb kb ⊢;refine%[zS2|λ u hu=>?_];have sc:Same Hb (upd Hb u (.tup [.ref t1,.ref t2])):=G0 hu;have kc:(upd Hb u (.tup [.ref t1,.ref t2])) u= ~~~[.ref t1,.ref t2]:=aj;generalize upd Hb u (.tup [.ref t1,.ref t2])=Hc at sc kc ⊢;exact q u t1 t2 Hc kc (sc _ _ (sb _ _ ka)) (sc _ _ kb) ((sa.trans sb).trans sc)
 | false=>
  refine%[_,O,O,_,O|aM ?_];refine%[_,O,_,O,zS2|λ t1 h1'=>?_];have sa:Same H (upd H t1 (.tup [.int w1,.int p1])):=G0 h1';have ka:(upd H t1 (.tup [.int w1,.int p1])) t1= ~~~[.int w1,.int p1]:=aj;generalize upd H t1 (.tup [.int w1,.int p1])=Ha at sa ka ⊢;refine%[_,O,_,O,_,O,_,_,O,O,_,O,_,_,O,O,zS2|λ t2 h2'=>?_];have sb:Same Ha (upd Ha t2 (.tup [.int w1,.int (h1 - p1 - b)])):=G0 h2';have kb:(upd Ha t2 (.tup [.int w1,.int (h1 - p1 - b)])) t2= ~~~[.int w1,.int (h1 - p1 - b)]:=aj;generalize upd Ha t2 (.tup [.int w1,.int (h1 - p1 - b)])=Hb at sb kb ⊢;refine%[zS2|λ u hu=>?_];have sc:Same Hb (upd Hb u (.tup [.ref t1,.ref t2])):=G0 hu;have kc:(upd Hb u (.tup [.ref t1,.ref t2])) u= ~~~[.ref t1,.ref t2]:=aj;generalize upd Hb u (.tup [.ref t1,.ref t2])=Hc at sc kc ⊢;exact q u t1 t2 Hc kc (sc _ _ (sb _ _ ka)) (sc _ _ kb) ((sa.trans sb).trans sc)
theorem iU{d:PyData}{z:Str}{n:Nat}(h:bw d z n=true):∃r,aI d=some (.str z :: r)/\r.length+1=n:=by
 unfold bw at h
 split at h
 ·rename_i y r e
  rw[G8]at h;have:=C0 h.2;subst this;exact%[r,e|C0 h.1]
 ·cases h
theorem Dt.ref_row{p:OE}{H:Hp}{v:V}{d:PyData}{ds:OI PyData}(h:Dt p H v d)(e:aI d=some ds):∃a xs,v=.ref a/\(H a=↥xs\/H a= ~~~xs)/\Dts p H xs ds:=by
 cases h <;> simp only[aI,Option.some.injEq,reduceCtorEq]at e
 ·subst e;exact%[_,_,O,.inl ‹_›|‹_›]
 ·subst e;exact%[_,_,O,.inr ‹_›|‹_›]
theorem ixR{H H1:Hp}{a:OE}{xs:OI V}(s1:Same H H1)(hx:H a=↥xs\/H a= ~~~xs){i:Int}{x:V}(e:atI xs i=some x){Q':VK}(h:Q' x H1):rIx K (.ref a) (.int i) H1 Q' :=
 hx.elim (λ z=>.inl %[a,_,i,x,O,O,G2 (s1 _ _ z),e|h]) (λ z=>.inr (.inl %[a,_,i,x,O,O,G1 (s1 _ _ z),e|h]))
theorem sccut:FnScope ["blade","spot","tree","way","side"] ["blade","spot"] (defScope kM):=%[O,O,O,∅,O,∅|∅]
theorem zG{f wa:OE}{fd:F7}(F:Fun K "is_cut" "is_cut" kM f fd)(Z:TrC K mg wa)(DB:Dn P w K mg base "begins_with" ["thing","word","many"] 2 spBegins)(DW:Dn P w K mg base "is_whole" ["thing","least"] 1 (cQ K)):FnOk P w K mg base CX0 3 f fd ["blade","spot"] (spCut):=by
 refine F.ok sccut (λ vs H Q E h=>?_) (λ cdv A outer s H vs Q E hr h=>?_)
 ·obtain⟨pp,b,x1,y1,w1,h1,sp,v,d,rfl,_⟩:=h
  rfl
 refine cN λ G9 k9=>?_;obtain⟨pp,b,x0',y0',w1,h1,sp,v,d,rfl,hsp,hd,q⟩:=h;refine k9 ?_;have nd:=sccut.nd;obtain⟨tdn,hdn⟩:=Z.dn;obtain⟨trs,hrs⟩:=Z.rs;obtain⟨tpc,hpc⟩:=Z.pc;obtain⟨tn1,hn1⟩:=Z.n1;obtain⟨tn5,hn5⟩:=Z.n5;obtain⟨tn4,hn4⟩:=Z.n4;have hr1:=hr.mono (show 1<=2 by decide);refine%[_,((2∣((pv 1)&&&ix_tup&&&ae))<<<((@df _ _ _ _ _ _ _ _ E2 O (gz (aP (v:=.ref wa) O Z.wy O)) (ap (i:=3) nd O (Or.inl O)) (@ag _ _ _ ((@aO _ _ _ (DB∪((pv 2)^^^((pv 3)^^^((aP (v:=.int 4) O hn4 %[tn4|O])^^^ad)))) (by intro _;rfl))<|>((4∣(fZ ((pv 3)<*>bc<*>(aP (v:=.str "down") O hdn ⟨tdn,O⟩)) ((pv 1)&&&ix_tup&&&ae) ((pv 1)&&&ix_tup&&&ae)))<<<((bZ (@ah _ _ _ _ _ _ _ _ _ _ DW hr1 O (((pv 2)&&&bQ&&&ae)^^^(ae^^^ad)) ∅ O O) (de (@bh _ _ _ _ _ _ _ _ jt (((pv 2)&&&bQ&&&ae)|||aX|||(pv 0)) (pv 4) (aB _))))⁻¹))<|>az)) (by intro _;rfl))<<<(bF⁻¹)))|?_];dsimp only[bW];refine%[_,O,sp,_,4,_,O,O,G1 hsp,O|?_];refine%[wa,O,%[_|Z.wq H]|ia (xs:=[.str "down",.str "across"]) (λ i σ H'=>(∃v3 v4,σ=[⇑b,↑sp,some v,v3,v4])/\Same H H'/\(1<=i->bw d "down" 4=false)/\(2<=i->bw d "across" 4=false)) %[%[_,_|O],Same.refl _,λ z=>absurd z ∅|λ z=>absurd z ∅] (λ i σ H' _ _=>Z.wq H') ?_ ?_]
 ·rintro i y σ H1 hi ⟨⟨v3,v4,rfl⟩,s1,g1,g2⟩
  match i,hi with
  | 0,hi=>
   cases hi;refine%[_,O,_,O,pp,v,d,"down",4,O,∅,hd.same s1|λ H2 s12=>%[_,O|?_]];have s2:=s1.trans s12;refine cj (λ hb=>?_) (λ hb=>%[%[_,_|O],s2,λ _=>by simpa using hb|λ z=>absurd z ∅]);obtain⟨r0,er,rl⟩:=iU hb;obtain⟨a,xs,rfl,hx,dx⟩:=hd.ref_row er;cases dx with
   | @cons x0 _ xs0 _ hd0 dx=>
   obtain⟨x1,x2,x3,d1,d2,d3,rfl,rfl,hd1,hd2,hd3⟩:=dx.three (by simpa using rl);have sp2:=s2 _ _ hsp;have co:fL b w1 d=wR b w1 d1:=by unfold fL;rw[er]
   refine%[_,O,O,_,O|aH %[_,O,sp,_,2,_,O,O,G1 sp2,O|?_]];have at1:atI [x0,x1,x2,x3] 1=some x1:=aE ∅ rfl;obtain⟨T1,t1⟩:=(hd1.same s2).ty (K:=K);refine%[_,O|ixR s2 hx at1 %[x1,T1,1,O,t1,_,O|?_]];have q1:=q H2 s2;unfold isC at q1;rw[OR hb,co]at q1;cases hd1 with
   | int p=>
    have q1:Q (.bl (decide (1<=p) && decide (p+b < w1))) H2:=q1;refine cj (λ cc=>?_) (λ cc=>?_)
    ·have cc:decide (1<=p)=true:=cc;refine%[_,O|ixR s2 hx at1 %[_,O,_,_,O,O,_,O,_,_,O,O|?_]];rw[cc,J6]at q1;exact q1
    ·have cc:¬ decide (1<=p)=true:=cc;rw[show decide (1<=p)=false by simpa using cc,J8]at q1;exact q1
   | _=>exact aM q1
  | 1,hi=>
   cases hi;have hb0:=g1 ∅;refine%[_,O,_,O,pp,v,d,"across",4,O,∅,hd.same s1|λ H2 s12=>%[_,O|?_]];have s2:=s1.trans s12;refine cj (λ hb=>?_) (λ hb=>%[%[_,_|O],s2,λ _=>hb0|λ _=>by simpa using hb]);obtain⟨r0,er,rl⟩:=iU hb;obtain⟨a,xs,rfl,hx,dx⟩:=hd.ref_row er;cases dx with
   | @cons x0 _ xs0 _ hd0 dx=>
   obtain⟨x1,x2,x3,d1,d2,d3,rfl,rfl,hd1,hd2,hd3⟩:=dx.three (by simpa using rl);have sp2:=s2 _ _ hsp;have co:fL b h1 d=wR b h1 d1:=by unfold fL;rw[er]
   refine%[_,O,O,_,O|aM %[_,O,sp,_,3,_,O,O,G1 sp2,O|?_]];have at1:atI [x0,x1,x2,x3] 1=some x1:=aE ∅ rfl;obtain⟨T1,t1⟩:=(hd1.same s2).ty (K:=K);refine%[_,O|ixR s2 hx at1 %[x1,T1,1,O,t1,_,O|?_]];have q1:=q H2 s2;unfold isC at q1;rw[OQ (by rw[hb0];decide),OR hb,co]at q1;cases hd1 with
   | int p=>
    have q1:Q (.bl (decide (1<=p) && decide (p+b < h1))) H2:=q1;refine cj (λ cc=>?_) (λ cc=>?_)
    ·have cc:decide (1<=p)=true:=cc;refine%[_,O|ixR s2 hx at1 %[_,O,_,_,O,O,_,O,_,_,O,O|?_]];rw[cc,J6]at q1;exact q1
    ·have cc:¬ decide (1<=p)=true:=cc;rw[show decide (1<=p)=false by simpa using cc,J8]at q1;exact q1
   | _=>exact aM q1
 ·rintro σ H1 ⟨⟨v3,v4,rfl⟩,s1,g1,g2⟩;have q1:=q H1 s1;unfold isC at q1;rw[OQ (by rw[g1 ∅];decide),OQ (by rw[g2 ∅];decide)]at q1;exact q1
theorem gj{C:OE}{H H':Hp}{s:OE}{b:Int}{ks:OI Kd}(k:Same H H')(S:ShopAt C H s b ks):ShopAt C H' s b ks:=S.keep (λ c o e=>k _ _ e) (λ c C' d fs e=>k _ _ e)
theorem scleaf:FnScope ["shop","spot","x","y","wide","high","tree"] ["shop","spot"] (defScope io):=%[O,O,O,∅,O,∅|∅]
theorem wS{f wa C:OE}{fd:F7}(F:Fun K "is_leaf" "is_leaf" io f fd)(Z:TrC K mg wa)(DB:Dn P w K mg base "begins_with" ["thing","word","many"] 2 spBegins)(DL:Dn P w K mg base "lies_in" ["shop","wide","high","kind","turned","x","y"] 4 (spLiesG K C)):FnOk P w K mg base CX0 5 f fd ["shop","spot"] (spLeaf C):=by
 refine F.ok scleaf (λ vs H Q E h=>?_) (λ cdv A outer s H vs Q E hr h=>?_)
 ·refine cN λ G9 k9=>?_;obtain⟨pp,b',x1,y1,w1,h1,s,sp,ks,v,d,rfl,_⟩:=h;refine k9 ?_
  rfl
 refine cN λ G9 k9=>?_;obtain⟨pp,b',x0',y0',w1,h1,s,sp,ks,v,d,rfl,S,hsp,hd,q⟩:=h;refine k9 ?_;have nd:=scleaf.nd;obtain⟨tdn,hdn⟩:=Z.dn;obtain⟨trs,hrs⟩:=Z.rs;obtain⟨tpc,hpc⟩:=Z.pc;obtain⟨tn1,hn1⟩:=Z.n1;obtain⟨tn5,hn5⟩:=Z.n5;obtain⟨tn4,hn4⟩:=Z.n4;have hr2:=hr.mono (show 2<=4 by decide);refine%[_,((@bL _ _ _ _ _ _ (pv 1) (bC O (2•(3•(4•(5•(6•aV)))))) O O O)<<<(((@aO _ _ _ (@ah _ _ _ _ _ _ _ _ _ _ DB hr2 O ((pv 6)^^^((aP (v:=.str "piece") O hpc %[tpc|O])^^^((aP (v:=.int 5) O hn5 %[tn5|O])^^^ad))) ∅ O O) (by intro _;rfl))<|>((DL∪((pv 0)^^^((pv 4)^^^((pv 5)^^^(((pv 6)&&&bQ&&&ae)^^^(((pv 6)&&&bQ&&&ae)^^^(((pv 6)&&&bQ&&&ae)^^^(((pv 6)&&&bQ&&&ae)^^^ad))))))))⁻¹)<|>az)<<<((@ah _ _ _ _ _ _ _ _ _ _ DB hr2 O ((pv 6)^^^((aP (v:=.str "rest") O hrs ⟨trs,O⟩)^^^((aP (v:=.int 1) O hn1 ⟨tn1,O⟩)^^^ad))) ∅ O O)⁻¹)))|?_];dsimp only[bW];refine%[_,O,sp,_,O,G1 hsp,O,_,_,O,_,_,O,_,_,O,_,_,O,_,_,O,O|?_];refine%[_,O,pp,v,d,"piece",5,O,∅,hd|λ H1 s1=>%[_,O|?_]];refine cj (λ hb=>?_) (λ hb=>?_)
 ·obtain⟨r0,er,rl⟩:=iU hb;obtain⟨a,xs,rfl,hx,dx⟩:=hd.ref_row er;cases dx with
  | @cons x0 _ xs0 _ hd0 dx=>
  refine cN λ G9 k9=>?_;obtain⟨x1,x2,x3,x4,d1,d2,d3,d4,rfl,rfl,hd1,hd2,hd3,hd4⟩:=dx.four (by simpa using rl);refine k9 ?_;have a1:atI [x0,x1,x2,x3,x4] 1=some x1:=aE ∅ rfl;have a2:atI [x0,x1,x2,x3,x4] 2=some x2:=aE ∅ rfl;have a3:atI [x0,x1,x2,x3,x4] 3=some x3:=aE ∅ rfl;have a4:atI [x0,x1,x2,x3,x4] 4=some x4:=aE ∅ rfl;obtain⟨T1,t1⟩:=(hd1.same s1).ty (K:=K);obtain⟨T2,t2⟩:=(hd2.same s1).ty (K:=K);obtain⟨T3,t3⟩:=(hd3.same s1).ty (K:=K);obtain⟨T4,t4⟩:=(hd4.same s1).ty (K:=K);refine%[_,O,_,O,_,O,_,O|ixR s1 hx a1 %[_,O|ixR s1 hx a2 %[_,O|ixR s1 hx a3 %[_,O|ixR s1 hx a4 ?_]]]];refine%[s,b',ks,w1,h1,x1,x2,x3,x4,T1,T2,T3,T4,O,gj s1 S,t1,t2,t3,t4|λ H2 s2=>?_];have q1:=q H2 (s1.trans s2);unfold isL at q1;rw[OR hb,er]at q1;have e:eA ks w1 h1 d1 d2 d3 d4=dP ks w1 h1 x1 x2 x3 x4:=by
   cases hd1 with
   | int i=>cases hd2 with
    | bl c=>cases hd3 with
     | int x=>cases hd4 with
      | int y=>rfl
      | _=>simp[eA,dP,aR]
     | _=>simp[eA,dP,aR]
    | _=>simp[eA,dP,dF]
   | _=>simp[eA,dP,dF]
  have q1:Q (.bl (eA ks w1 h1 d1 d2 d3 d4)) H2:=q1;rw[e]at q1;exact q1
 ·refine%[_,O,pp,v,d,"rest",1,O,∅,hd.same s1|λ H2 s2=>?_];have q1:=q H2 (s1.trans s2);unfold isL at q1;rw[OQ hb]at q1;exact q1
theorem scbehind:FnScope ["blade","spot","x","y","wide","high","tree","way","p","first","second","wide_ahead","high_ahead","wide_behind","high_behind","step","far_x","far_y"] ["blade","spot"] (defScope cU):=%[O,O,O,∅,O,∅|∅]
theorem qU{f wa:OE}{fd:F7}(F:Fun K "spots_behind" "spots_behind" cU f fd)(Z:TrC K mg wa)(DP:Dn P w K mg base "cut_parts" ["blade","part","way","p"] 1 spParts2):FnOk P w K mg base CX0 2 f fd ["blade","spot"] (spBehind):=by
 refine F.ok scbehind (λ vs H Q E h=>?_) (λ cdv A outer s H vs Q E hr h=>?_)
 ·refine cN λ G9 k9=>?_;obtain⟨b,x1,y1,w1,h1,p1,sp,a,dn,l,r,rfl,_⟩:=h;refine k9 ?_
  rfl
 refine cN λ G9 k9=>?_;obtain⟨b,x1,y1,w1,h1,p1,sp,a,dn,l,r,rfl,hsp,ha,q⟩:=h;refine k9 ?_;have nd:=scbehind.nd;obtain⟨tdn,hdn⟩:=Z.dn;obtain⟨trs,hrs⟩:=Z.rs;obtain⟨tpc,hpc⟩:=Z.pc;obtain⟨tn1,hn1⟩:=Z.n1;obtain⟨tn5,hn5⟩:=Z.n5;obtain⟨tn4,hn4⟩:=Z.n4;refine%[_,((@bL _ _ _ _ _ _ (pv 1) (bC O (2•(3•(4•(5•(6•aV)))))) O O O)<<<((@bL _ _ _ _ _ _ (pv 6) (mI O (7•(8•(9•(10•aV))))) O O O)<<<((@bL _ _ _ _ _ _ (DP∪((pv 0)^^^((@ar _ _ _ _ _ ((pv 4)^^^((pv 5)^^^ad)))^^^((pv 7)^^^((pv 8)^^^ad))))) (bC O (ao (bC O (11•(12•aV))) (ao (bC O (13•(14•aV))) aV))) O O O)<<<((15∣((pv 8)|||aX|||(pv 0)))<<<((@bL _ _ _ _ _ _ (fZ ((pv 7)<*>bc<*>(aP (v:=.str "down") O hdn %[tdn|O])) (@ar _ _ _ _ _ (((pv 2)|||aX|||(pv 15))^^^((pv 3)^^^ad))) (@ar _ _ _ _ _ ((pv 2)^^^(((pv 3)|||aX|||(pv 15))^^^ad)))) (bC O (16•(17•aV))) O O O)<<<((@aQ _ _ _ _ ((@ar _ _ _ _ _ ((pv 2)^^^((pv 3)^^^((pv 11)^^^((pv 12)^^^((pv 9)^^^ad))))))^^^((@ar _ _ _ _ _ ((pv 16)^^^((pv 17)^^^((pv 13)^^^((pv 14)^^^((pv 10)^^^ad))))))^^^ad)))⁻¹))))))|?_];dsimp only[bW];refine%[_,O,sp,_,O,G1 hsp,O,_,_,O,_,_,O,_,_,O,_,_,O,_,_,O,O|?_];have sq:SqL K H a [.str (if dn=true then "down" else "across"),.int p1,l,r]\/SqT K H a [.str (if dn=true then "down" else "across"),.int p1,l,r]:=ha.imp (λ z=>G2 z) λ z=>G1 z;refine%[_,O,a,_,O,sq,O,_,_,O,_,_,O,_,_,O,_,_,O,O|?_];clear sq;cases dn with
 | true=>
  refine%[_,O,_,O,_,O,zS2|λ tp htp=>?_];have sa:Same H (upd H tp (.tup [.int w1,.int h1])):=G0 htp;have ka:(upd H tp (.tup [.int w1,.int h1])) tp= ~~~[.int w1,.int h1]:=aj;generalize upd H tp (.tup [.int w1,.int h1])=Ha at sa ka ⊢;refine%[_,O,_,O,b,w1,h1,p1,tp,true,O,ka|λ u t1 t2 Hb ku k1 k2 sb=>?_];refine%[u,_,O,G1 ku,O,_,_,O,t1,_,O,G1 k1,O,_,_,O,_,_,O,O,_,_,O,t2,_,O,G1 k2,O,_,_,O,_,_,O,O,O|?_];refine bO (λ σ' H'=>σ'=[⇑b,↑sp,⇑x1,⇑y1,⇑w1,⇑h1,↑a,some (.str "down"),⇑p1,some l,some r,⇑p1,⇑h1,⇑(w1 - p1 - b),⇑h1,none,none,none]/\Hb=H') (λ R hR=>hR _ _ %[rfl|rfl]) ?_;rintro _ _ ⟨rfl,rfl⟩;refine%[_,O,_,O,_,_,O,O|?_];refine%[_,O,O,_,O|aH %[_,O,_,O,_,_,O,O,_,O,zS2|λ tf hf=>?_]];have sd:Same Hb (upd Hb tf (.tup [.int (x1+(p1+b)),.int y1])):=G0 hf;have kd:(upd Hb tf (.tup [.int (x1+(p1+b)),.int y1])) tf= ~~~[.int (x1+(p1+b)),.int y1]:=aj;generalize upd Hb tf (.tup [.int (x1+(p1+b)),.int y1])=Hd at sd kd ⊢;refine%[tf,_,O,G1 kd,O,_,_,O,_,_,O,O|?_];refine%[_,O,_,O,_,O,_,O,_,O,zS5|λ g1 hg1=>?_];have se:Same Hd (upd Hd g1 (.tup [.int x1,.int y1,.int p1,.int h1,l])):=G0 hg1;have ke:(upd Hd g1 (.tup [.int x1,.int y1,.int p1,.int h1,l])) g1= ~~~[.int x1,.int y1,.int p1,.int h1,l]:=aj;generalize upd Hd g1 (.tup [.int x1,.int y1,.int p1,.int h1,l])=He at se ke ⊢;refine%[_,O,_,O,_,O,_,O,_,O,zS5|λ g2 hg2=>?_];have sf:Same He (upd He g2 (.tup [.int (x1+(p1+b)),.int y1,.int (w1 - p1 - b),.int h1,r])):=G0 hg2;have kf:(upd He g2 (.tup [.int (x1+(p1+b)),.int y1,.int (w1 - p1 - b),.int h1,r])) g2= ~~~[.int (x1+(p1+b)),.int y1,.int (w1 - p1 - b),.int h1,r]:=aj;generalize upd He g2 (.tup [.int (x1+(p1+b)),.int y1,.int (w1 - p1 - b),.int h1,r])=Hf at sf kf ⊢;refine%[zS2|λ lu hlu=>?_];have sg:Same Hf (upd Hf lu (.lst [.ref g1,.ref g2])):=G0 hlu;have kg:(upd Hf lu (.lst [.ref g1,.ref g2])) lu=↥[.ref g1,.ref g2]:=aj;generalize upd Hf lu (.lst [.ref g1,.ref g2])=Hg at sg kg ⊢;have sA:=((((sa.trans sb).trans sd).trans se).trans sf)
  exact q lu g1 g2 Hg (sA.free hlu) kg (sg _ _ (sf _ _ ke)) (sg _ _ kf) (sA.trans sg)
 | false=>
  refine%[_,O,_,O,_,O,zS2|λ tp htp=>?_];have sa:Same H (upd H tp (.tup [.int w1,.int h1])):=G0 htp;have ka:(upd H tp (.tup [.int w1,.int h1])) tp= ~~~[.int w1,.int h1]:=aj;generalize upd H tp (.tup [.int w1,.int h1])=Ha at sa ka ⊢;refine%[_,O,_,O,b,w1,h1,p1,tp,false,O,ka|λ u t1 t2 Hb ku k1 k2 sb=>?_];refine%[u,_,O,G1 ku,O,_,_,O,t1,_,O,G1 k1,O,_,_,O,_,_,O,O,_,_,O,t2,_,O,G1 k2,O,_,_,O,_,_,O,O,O|?_];refine bO (λ σ' H'=>σ'=[⇑b,↑sp,⇑x1,⇑y1,⇑w1,⇑h1,↑a,some (.str "across"),⇑p1,some l,some r,⇑w1,⇑p1,⇑w1,⇑(h1 - p1 - b),none,none,none]/\Hb=H') (λ R hR=>hR _ _ %[rfl|rfl]) ?_;rintro _ _ ⟨rfl,rfl⟩;refine%[_,O,_,O,_,_,O,O|?_];refine%[_,O,O,_,O|aM %[_,O,_,O,_,O,_,_,O,O,zS2|λ tf hf=>?_]];have sd:Same Hb (upd Hb tf (.tup [.int x1,.int (y1+(p1+b))])):=G0 hf;have kd:(upd Hb tf (.tup [.int x1,.int (y1+(p1+b))])) tf= ~~~[.int x1,.int (y1+(p1+b))]:=aj;generalize upd Hb tf (.tup [.int x1,.int (y1+(p1+b))])=Hd at sd kd ⊢;refine%[tf,_,O,G1 kd,O,_,_,O,_,_,O,O|?_];refine%[_,O,_,O,_,O,_,O,_,O,zS5|λ g1 hg1=>?_];have se:Same Hd (upd Hd g1 (.tup [.int x1,.int y1,.int w1,.int p1,l])):=G0 hg1;have ke:(upd Hd g1 (.tup [.int x1,.int y1,.int w1,.int p1,l])) g1= ~~~[.int x1,.int y1,.int w1,.int p1,l]:=aj;generalize upd Hd g1 (.tup [.int x1,.int y1,.int w1,.int p1,l])=He at se ke ⊢;refine%[_,O,_,O,_,O,_,O,_,O,zS5|λ g2 hg2=>?_];have sf:Same He (upd He g2 (.tup [.int x1,.int (y1+(p1+b)),.int w1,.int (h1 - p1 - b),r])):=G0 hg2;have kf:(upd He g2 (.tup [.int x1,.int (y1+(p1+b)),.int w1,.int (h1 - p1 - b),r])) g2= ~~~[.int x1,.int (y1+(p1+b)),.int w1,.int (h1 - p1 - b),r]:=aj;generalize upd He g2 (.tup [.int x1,.int (y1+(p1+b)),.int w1,.int (h1 - p1 - b),r])=Hf at sf kf ⊢;refine%[zS2|λ lu hlu=>?_];have sg:Same Hf (upd Hf lu (.lst [.ref g1,.ref g2])):=G0 hlu;have kg:(upd Hf lu (.lst [.ref g1,.ref g2])) lu=↥[.ref g1,.ref g2]:=aj;generalize upd Hf lu (.lst [.ref g1,.ref g2])=Hg at sg kg ⊢;have sA:=((((sa.trans sb).trans sd).trans se).trans sf)
  exact q lu g1 g2 Hg (sA.free hlu) kg (sg _ _ (sf _ _ ke)) (sg _ _ kf) (sA.trans sg)
end
def isT(b:Int)(ks:OI Kd)(w h:Int)(d:PyData):Bool :=
 if isC b w h d=true then
  match e:aI d with
  | some [_,.int p,l,r]=>if bw d "down" 4=true then isT b ks p h l && isT b ks (w - p - b) h r else isT b ks w p l && isT b ks w (h - p - b) r
  | _=>false
 else isL ks w h d
termination_by sizeOf d
decreasing_by all_goals (apply uy e;simp)
theorem cJ{b:Int}{ks:OI Kd}{w h:Int}{d:PyData}(hc:isC b w h d=false):isT b ks w h d=isL ks w h d:=by rw[isT,OQ (by rw[hc];decide)]
theorem eC{b:Int}{ks:OI Kd}{w h:Int}{d:PyData}(hc:isC b w h d=true):∃(dn:Bool)(p:Int)(l r:PyData),aI d=some [.str (if dn=true then "down" else "across"),.int p,l,r]/\1<=p/\(dn=true->p+b < w)/\(dn=false->p+b < h) /\
  isT b ks w h d=(if dn=true then isT b ks p h l && isT b ks (w - p - b) h r else isT b ks w p l && isT b ks w (h - p - b) r):=by
 have key:∀side,fL b side d=true->∃x p l r,aI d=some [x,.int p,l,r]/\1<=p/\p+b < side:=λ side h=>by
  unfold fL at h
  split at h
  ·rename_i x p l r e
   unfold wR at h
   split at h
   ·rename_i p'
    rw[G8]at h;exact%[x,p',l,r,e,C0 h.1|C0 h.2]
   ·cases h
  ·cases h
 have hc':=hc;unfold isC at hc
 by_cases hb:bw d "down" 4=true
 ·rw[OR hb]at hc;obtain⟨x,p,l,r,e,p1,p2⟩:=key _ hc;obtain⟨r',e',_⟩:=iU hb;rw[e]at e';cases e';refine⟨true,p,l,r,e,p1,λ _=>p2,λ z=>(by cases z),?_⟩;rw[isT,OR hc']
  split
  ·rename_i y p' l' r' e2
   rw[e]at e2;cases e2;rw[OR hb];rfl
  ·rename_i z
   exact absurd e (z _ _ _ _)
 ·rw[OQ hb]at hc
  by_cases hb2:bw d "across" 4=true
  ·rw[OR hb2]at hc;obtain⟨x,p,l,r,e,p1,p2⟩:=key _ hc;obtain⟨r',e',_⟩:=iU hb2;rw[e]at e';cases e';refine⟨false,p,l,r,e,p1,λ z=>(by cases z),λ _=>p2,?_⟩;rw[isT,OR hc']
   split
   ·rename_i y p' l' r' e2
    rw[e]at e2;cases e2;rw[OQ hb];rfl
   ·rename_i z
    exact absurd e (z _ _ _ _)
  ·rw[OQ hb2]at hc;cases hc
structure Spot where
 x:Int
 y:Int
 w:Int
 h:Int
 d:PyData
def SpAt(p:OE)(H0 H:Hp)(v:V)(t:Spot):Prop:=∃a u,v=.ref a/\H a= ~~~[.int t.x,.int t.y,.int t.w,.int t.h,u]/\Dt p H0 u t.d
theorem SpAt.keep{p:OE}{H0 H H':Hp}(k:∀a xs,H a= ~~~xs->H' a= ~~~xs){v:V}{t:Spot}(h:SpAt p H0 H v t):SpAt p H0 H' v t:=by obtain⟨a,u,e,h1,h2⟩:=h;exact%[a,u,e,k _ _ h1|h2]
def gN(ts:OI Spot):Nat:=(ts.map λ t=>wt t.d).sum
theorem eY(a b:OI Spot):gN (a ++ b)=gN a+gN b:=by unfold gN;rw[N3,List.sum_append]
theorem lT:∀ts:OI Spot,ts.length<=gN ts
 | []=>B2 _
 | t :: r=>by have:=lT r;have:=pQ t.d;show r.length+1<=wt t.d+gN r;lia
theorem qV{d x y l r:PyData}(h:aI d=some [x,y,l,r]):wt l+wt r < wt d:=by
 cases d <;> simp only[aI,Option.some.injEq,reduceCtorEq]at h
 ·subst h;simp only[wt,wts];lia
 ·subst h;simp only[wt,wts];lia
theorem lU{α β:Type}{R:α->β->Prop}{x:α}:∀{xs:OI α}{zs:OI β},Paired R (xs ++ [x]) zs->∃ys y,zs=ys ++ [y]/\Paired R xs ys/\R x y
 | [],zs,h=>by
  cases h with
  | cons a t=>cases t;exact%[[],_,O,.nil|a]
 | z :: xs,zs,h=>by
  cases h with
  | cons a t=>
   obtain⟨ys,y,rfl,p,r⟩:=lU t;exact%[_ :: ys,y,O,.cons a p|r]
theorem hV{α β:Type}{R:α->β->Prop}:∀{xs:OI α}{ys:OI β}{xs':OI α}{ys':OI β},Paired R xs ys->Paired R xs' ys'->Paired R (xs ++ xs') (ys ++ ys')
 | _,_,_,_,.nil,h=>h
 | _,_,_,_,.cons a t,h=>.cons a (hV t h)
section
variable{P:F6}{w:F8}{K:C4}{mg:Str->OG F9}{base:Heap}
inductive spCP(vs:OI V)(H:Hp)(Q:VK)(E_:XK):Prop
|mk(w h:Int)(_:vs=[.int w,.int h])(_:1<=w)(_:1<=h)(_:Q .non H)
inductive spIsTree(C:OE)(vs:OI V)(H:Hp)(Q:VK)(E_:XK):Prop
|mk(pp s:OE)(b w h:Int)(ks:OI Kd)(v:V)(d:PyData)(_:vs=[.ref s,.int w,.int h,v])(_:ShopAt C H s b ks)(_:1<=w)(_:1<=h)(_:Dt pp H v d)(_:wt d<=30000)(_:∀H',Same H H'->Q (.bl (isT b ks w h d)) H')
theorem sccplate:FnScope ["wide","high"] ["wide","high"] (defScope cf):=%[O,O,O,∅,O,∅|∅]
theorem qW{f:OE}{fd:F7}(F:Fun K "check_plate" "check_plate" cf f fd)(DW:Dn P w K mg base "is_whole" ["thing","least"] 1 (cQ K)):FnOk P w K mg base CX0 2 f fd ["wide","high"] (spCP):=by
 refine F.ok sccplate (λ vs H Q E h=>?_) (λ cdv A outer s H vs Q E hr h=>?_)
 ·obtain⟨w1,h1,rfl,_⟩:=h
  rfl
 obtain⟨w1,h1,rfl,w0,h0,q⟩:=h;have nd:=sccplate.nd;refine%[_,(@ag _ _ _ ((PW.pt (bn (@aS _ _ _ _ (@aO _ _ _ (DW∪((pv 0)^^^(ae^^^ad))) (by intro _;rfl))) (bG (@aS _ _ _ _ (@aO _ _ _ (DW∪((pv 1)^^^(ae^^^ad))) (by intro _;rfl))))))<|>(@ag _ _ _ cH)<|>az))|?_];refine%[_,O,.int w1,"int",1,O,Ty.int,_,O|?_];rw[show aR (.int w1) 1=true from OO w0];refine aM %[_,rfl,.int h1,"int",1,rfl,Ty.int,_,rfl|?_];rw[show aR (.int h1) 1=true from OO h0];exact aM q
theorem scistree:FnScope ["shop","wide","high","thing","blade","waiting","spot"] ["shop","wide","high","thing"] (defScope fv):=%[O,O,O,∅,O,∅|∅]
theorem jN{f C:OE}{fd:F7}(F:Fun K "is_tree" "is_tree" fv f fd)(T:ShopTxt K C)(MB:Mn P w K mg base C "blade" ["self"] 1 (fh C))(DCP:Dn P w K mg base "check_plate" ["wide","high"] 2 (spCP))(DC:Dn P w K mg base "is_cut" ["blade","spot"] 3 (spCut))(DF:Dn P w K mg base "is_leaf" ["shop","spot"] 5 (spLeaf C))(DS:Dn P w K mg base "spots_behind" ["blade","spot"] 2 (spBehind)):FnOk P w K mg base CX0 6 f fd ["shop","wide","high","thing"] (spIsTree C):=by
 refine F.ok scistree (λ vs H Q E h=>?_) (λ cdv A outer s H vs Q E hr h=>?_)
 ·obtain⟨pp,s,b,w1,h1,ks,v,d,rfl,_⟩:=h
  rfl
 obtain⟨pp,s,b,w1,h1,ks,v,d,rfl,S,w0,h0,hd,dz,q⟩:=h;have nd:=scistree.nd;have hr1:=hr.mono (show 1<=5 by decide);have hr2:=hr.mono (show 2<=5 by decide);have hr3:=hr.mono (show 3<=5 by decide);refine%[_,((@bX _ _ _ _ (@ah _ _ _ _ _ _ _ _ _ _ DCP hr2 O ((pv 1)^^^((pv 2)^^^ad)) ∅ O O) O)<<<((4∣(mM (pv 0) T.cl MB hr1))<<<((5∣(@aQ _ _ _ _ ((@ar _ _ _ _ _ (ae^^^(ae^^^((pv 1)^^^((pv 2)^^^((pv 3)^^^ad))))))^^^ad)))<<<((iy E2 (lr (pv 5) (λ _=>O)) ((6∣(mD F4 PySem.F.slot_list_pop PySem.F.type_list_pop mF (pv 5)))>>>((@aO _ _ _ (@ah _ _ _ _ _ _ _ _ _ _ DC hr3 O ((pv 4)^^^((pv 6)^^^ad)) ∅ O O) (by intro _;rfl))<|>(@ag _ _ _ (@bX _ _ _ _ (@fI _ _ _ _ _ _ _ _ _ _ _ _ F4 PySem.F.slot_list_extend PySem.F.type_list_extend jA (pv 5) ((@ah _ _ _ _ _ _ _ _ _ _ DS hr2 O ((pv 4)^^^((pv 6)^^^ad)) ∅ O O)^^^ad) O O O O O) O))<|>(@ag _ _ _ ((@aS _ _ _ _ (@aO _ _ _ (DF∪((pv 0)^^^((pv 6)^^^ad))) (by intro _;rfl)))<|>(bF⁻¹)<|>az)))))<<<(bF⁻¹)))))|?_];dsimp only[bW];have sz:(40000:Nat)<=sizeLine:=∅
 refine%[_,O,_,O,w1,h1,O,w0,h0|?_];obtain⟨dx,r,rs,S1,S2,S3⟩:=id S;refine%[_,O,s,dx,_,O,S1,(fg _ _ ∅ ∅),s,b,ks,O,S|?_];refine%[_,O,_,O,_,O,zS5|λ t ht=>?_];have sa:Same H (upd H t (.tup [.int 0,.int 0,.int w1,.int h1,v])):=G0 ht;have ka:(upd H t (.tup [.int 0,.int 0,.int w1,.int h1,v])) t= ~~~[.int 0,.int 0,.int w1,.int h1,v]:=aj;generalize upd H t (.tup [.int 0,.int 0,.int w1,.int h1,v])=Ha at sa ka ⊢;refine%[zS1|λ wl hwl=>?_];have sb:Same Ha (upd Ha wl (.lst [.ref t])):=G0 hwl;have kb:(upd Ha wl (.lst [.ref t])) wl=↥[.ref t]:=aj;generalize upd Ha wl (.lst [.ref t])=Hb at sb kb ⊢;have fw:H wl=none:=sa.free hwl;have sab:=sa.trans sb;refine%[λ m σ H'=>∃(vs:OI V)(ts:OI Spot)(v6:OG V),σ=[↑s,⇑w1,⇑h1,some v,⇑b,↑wl,v6]/\m=gN ts/\H' wl=↥vs/\Paired (SpAt pp H H') vs ts/\gN ts<=30000/\isT b ks w1 h1 d=ts.all (λ t=>isT b ks t.w t.h t.d)/\Same H H',%[_,[.ref t],[%[0,0,w1,h1|d]],none,O,O,kb,.cons %[t,v,O,sb _ _ ka|hd] .nil,by show wt d+0<=30000;lia,by rw[N9,List.all_nil,K1]|sab]|?_];rintro m σ H1 ⟨vs,ts,v6,rfl,rfl,hw,pr,sz1,al,s1⟩;refine%[_,O,_,.inl %[vs,G2 hw|O]|?_];rcases N4 vs with rfl | ⟨vs',v0,rfl⟩
 ·have ets:ts=[]:=by
   have:=E1 pr;cases ts with
   | nil=>rfl
   | cons _ _=>simp at this
  subst ets;have q1:=q H1 s1;rw[al]at q1;exact aM q1
 rw[N5]at pr hw ⊢;obtain⟨ts',t0,rfl,prp,⟨sp,u,rfl,hsp,hdu⟩⟩:=lU pr;rw[show(!(vs' ++ [V.ref sp]).isEmpty)=true by cases vs' <;> rfl];have ssz:gN (ts' ++ [t0])=gN ts'+wt t0.d:=by rw[eY];show _+(wt t0.d+0)=_;lia
 rw[ssz]at sz1 ⊢;refine aH %[λ σ' H'=>∃(vs:OI V)(ts:OI Spot)(v6:OG V),σ'=[↑s,⇑w1,⇑h1,some v,⇑b,↑wl,v6]/\gN ts < gN ts'+wt t0.d/\H' wl=↥vs/\Paired (SpAt pp H H') vs ts/\gN ts<=30000/\isT b ks w1 h1 d=ts.all (λ t=>isT b ks t.w t.h t.d)/\Same H H',λ σ' H' ⟨vs,ts,v6,e,l,r⟩=>%[_,l,vs,ts,v6,e,rfl|r]|?_];rw[List.all_append,N9,List.all_nil,K1]at al;have ml:(vs' ++ [V.ref sp]).length=vs'.length+1:=by rw[G5];rfl
 have keep:∀{Hx:Hp}{o:HO},Same H Hx->Same H (upd Hx wl o):=λ {Hx o} sx c oo e=>by rw[au (λ z=>by rw[z,fw]at e;cases e)];exact sx _ _ e
 refine aw (λ R=>∀(H':Hp),H' wl=↥vs'->Paired (SpAt pp H H') vs' ts'->H' sp= ~~~[.int t0.x,.int t0.y,.int t0.w,.int t0.h,u]->Same H H'->R [↑s,⇑w1,⇑h1,some v,⇑b,↑wl,↑sp] H') (λ Dd hR=>?_) ?_
 ·refine%[_,O,.inl %[O,_|G2 hw],wl,_,.ref sp,O,O,hw,(by rw[ml];simp)|?_];rw[List.dropLast_concat];have kt:∀{c:OE}{xs:OI V},H1 c= ~~~xs->(upd H1 wl (.lst vs')) c= ~~~xs:=λ {c xs} e=>by rw[au (λ z=>by rw[z,hw]at e;cases e)];exact e
  exact hR _ aj (G3 prp λ v t h=>h.keep λ a xs e=>kt e) (kt hsp) (keep s1)
 rintro H2 hw2 pr2 hsp2 s2;refine%[_,O,_,O,pp,b,t0.x,t0.y,t0.w,t0.h,sp,u,t0.d,O,hsp2,hdu.same s2|λ H3 s3=>%[_,O|?_]];have s03:=s2.trans s3;refine cj (λ hc=>?_) (λ hc=>?_)
 ·obtain⟨dn,p,l,r,er,p1,pw,ph,eT⟩:=eC (ks:=ks) hc;obtain⟨a,xs,rfl,hx,dxs⟩:=hdu.ref_row er;cases dxs with
  | @cons x0 _ xs0 _ hd0 dxs=>
  cases dxs with
  | @cons x1 _ xs1 _ hd1 dxs=>
  cases dxs with
  | @cons lv _ xs2 _ hdl dxs=>
  cases dxs with
  | @cons rv _ xs3 _ hdr dxs=>
  cases dxs;cases hd0;cases hd1;refine%[_,O,.inl %[O,_|G2 (s3 _ _ hw2)],_,O,_,O|?_];refine%[b,t0.x,t0.y,t0.w,t0.h,p,sp,a,dn,lv,rv,O,s3 _ _ hsp2,hx.imp (s03 _ _) (s03 _ _)|λ lu t1 t2 H4 hlu ku k1 k2 s4=>?_];have hw4:=s4 _ _ (s3 _ _ hw2);have pl:=E1 pr2;have sl:=lT ts';have two:=qV er;refine%[wl,lu,_,_,O,O,hw4,ku,by show _+2<=_;lia|?_];have kt:∀{c:OE}{xs:OI V},H4 c= ~~~xs->(upd H4 wl (.lst (vs' ++ [.ref t1,.ref t2]))) c= ~~~xs:=λ {c xs} e=>by rw[au (λ z=>by rw[z,hw4]at e;cases e)];exact e
  have pr4:Paired (SpAt pp H (upd H4 wl (.lst (vs' ++ [.ref t1,.ref t2])))) vs' ts':=G3 pr2 λ v t h=>h.keep λ a xs e=>kt (s4 _ _ (s3 _ _ e));cases dn with
  | true=>
   have k1:H4 t1= ~~~[.int t0.x,.int t0.y,.int p,.int t0.h,lv]:=k1;have k2:H4 t2= ~~~[.int (t0.x+(p+b)),.int t0.y,.int (t0.w - p - b),.int t0.h,rv]:=k2;refine%[vs' ++ [.ref t1,.ref t2],ts' ++ [%[t0.x,t0.y,p,t0.h|l],%[t0.x+(p+b),t0.y,t0.w - p - b,t0.h|r]],_,O,?_,aj,hV pr4 (.cons %[t1,lv,O,kt k1|hdl] (.cons %[t2,rv,O,kt k2|hdr] .nil)),?_,?_|keep (s03.trans s4)]
   ·rw[eY];show _+(wt l+(wt r+0)) < _;lia
   ·rw[eY];show _+(wt l+(wt r+0))<=_;lia
   ·rw[al,eT,List.all_append];simp only[O1,N9,List.all_nil,K1]
  | false=>
   have k1:H4 t1= ~~~[.int t0.x,.int t0.y,.int t0.w,.int p,lv]:=k1;have k2:H4 t2= ~~~[.int t0.x,.int (t0.y+(p+b)),.int t0.w,.int (t0.h - p - b),rv]:=k2;refine%[vs' ++ [.ref t1,.ref t2],ts' ++ [%[t0.x,t0.y,t0.w,p|l],%[t0.x,t0.y+(p+b),t0.w,t0.h - p - b|r]],_,O,?_,aj,hV pr4 (.cons %[t1,lv,O,kt k1|hdl] (.cons %[t2,rv,O,kt k2|hdr] .nil)),?_,?_|keep (s03.trans s4)]
   ·rw[eY];show _+(wt l+(wt r+0)) < _;lia
   ·rw[eY];show _+(wt l+(wt r+0))<=_;lia
   ·rw[al,eT,List.all_append];simp only[J5,Oq,N9,List.all_nil,K1]
 ·have hc:isC b t0.w t0.h t0.d=false:=by simpa using hc
  have lf:=cJ (ks:=ks) hc;refine%[_,O,_,O,pp,b,t0.x,t0.y,t0.w,t0.h,s,sp,ks,u,t0.d,O,gj s03 S,s3 _ _ hsp2,hdu.same s03|λ H4 s4=>%[_,O|?_]];have s04:=s03.trans s4;have sp0:=pQ t0.d;cases hl:isL ks t0.w t0.h t0.d with
  | true=>
   rw[lf,hl,K1]at al;exact aM %[vs',ts',_,rfl,⋯,s4 _ _ (s3 _ _ hw2),G3 pr2 λ v t h=>h.keep λ a xs e=>s4 _ _ (s3 _ _ e),⋯,al|s04]
  | false=>
   rw[lf,hl,J3]at al;have q1:=q H4 s04;rw[al]at q1;exact aH q1
end
def pR(k:Kd):OI Bool:=if bo k=true then[false,true]else[false]
inductive Tr where
 | rest
 | piece (i:Nat) (c:Bool) (x y:Int)
 | cut (dn:Bool) (p:Int) (l r:Tr)
def toD:Tr->PyData
 | .rest=>.tuple [.str "rest"]
 | .piece i c x y=>.tuple [.str "piece",.int i,.bool c,.int x,.int y]
 | .cut dn p l r=>.tuple [.str (if dn=true then "down" else "across"),.int p,toD l,toD r]
def lvN:Tr->Nat
 | .cut _ _ l r=>lvN l+lvN r
 | _=>1
theorem KU:∀t:Tr,1<=(toD t).depth
 | .rest=>∅
 | .piece ..=>by show 1<=PyData.depthAll _+1;lia
 | .cut ..=>by show 1<=PyData.depthAll _+1;lia
def TrV(H:Hp):Tr->V->Prop
 | .rest,v=>∃a,v=.ref a/\H a=some (.tup [.str "rest"])
 | .piece i c x y,v=>∃a,v=.ref a/\H a=some (.tup [.str "piece",.int i,.bl c,.int x,.int y])
 | .cut dn p l r,v=>∃a x y,v=.ref a/\H a=some (.tup [.str (if dn=true then "down" else "across"),.int p,x,y])/\TrV H l x/\TrV H r y
theorem TrV.keep{H H':Hp}(k:∀a xs,H a= ~~~xs->H' a= ~~~xs):∀(t:Tr){v:V},TrV H t v->TrV H' t v
 | .rest,_,⟨a,e,h⟩=>%[a,e|k _ _ h]
 | .piece ..,_,⟨a,e,h⟩=>%[a,e|k _ _ h]
 | .cut _ _ l r,_,⟨a,x,y,e,h,h1,h2⟩=>%[a,x,y,e,k _ _ h,TrV.keep k l h1|TrV.keep k r h2]
theorem TrV.dt{p:OE}{H:Hp}:∀(t:Tr){v:V},TrV H t v->Dt p H v (toD t)
 | .rest,_,⟨a,e,h⟩=>by subst e;exact .tup h (.cons (.str _) .nil)
 | .piece ..,_,⟨a,e,h⟩=>by subst e;exact .tup h (.cons (.str _) (.cons (.int _) (.cons (.bl _) (.cons (.int _) (.cons (.int _) .nil)))))
 | .cut _ _ l r,_,⟨a,x,y,e,h,h1,h2⟩=>by subst e;exact .tup h (.cons (.str _) (.cons (.int _) (.cons (TrV.dt l h1) (.cons (TrV.dt r h2) .nil))))
def okT(b:Int)(ks:OI Kd):Int->Int->Tr->Prop
 | _,_,.rest=>True
 | w,h,.piece i c x y=>∃k,ks[i]?=some k/\c∈pR k/\0<=x/\0<=y/\x+sd1 k c<=w/\y+sd2 k c<=h
 | w,h,.cut dn p l r=>1<=p/\(if dn=true then p+b < w/\okT b ks p h l/\okT b ks (w - p - b) h r else p+b < h/\okT b ks w p l/\okT b ks w (h - p - b) r)
theorem wU{ks:OI Kd}{i:Nat}{c:Bool}{k:Kd}(hk:ks[i]?=some k)(hc:c∈pR k):dF ks (.int i) (.bl c)=true:=by
 unfold dF;simp only[M1,hk];rw[OO (show(0:Int)<=i by lia),J6];cases c with
 | false=>rfl
 | true=>
  unfold pR at hc;cases t:bo k with
  | true=>rfl
  | false=>rw[t]at hc;simp at hc
def But2(p q:OE)(H H':Hp):Prop:=∀c o,c≠p->c≠q->H c=some o->H' c=some o
theorem But2.trans{p q:OE}{H H' H'':Hp}(a:But2 p q H H')(b:But2 p q H' H''):But2 p q H H'':=λ c o n1 n2 e=>b c o n1 n2 (a c o n1 n2 e)
theorem But2.but{p q:OE}{H H':Hp}(a:But p H H'):But2 p q H H':=λ c o n1 _ e=>a c o n1 e
theorem hG{d:PyData}{y:Str}{r:OI PyData}(e:aI d=some (.str y :: r))(z:Str)(n:Nat):bw d z n=(decide (r.length+1=n) && decide (y=z)):=by unfold bw;rw[e]
def pcD(ks:OI Kd)(w h:Int):OI PyData->Bool
 | [k,t,x,y]=>eA ks w h k t x y
 | _=>false
theorem jO{b:Int}{ks:OI Kd}{w h:Int}{d:PyData}{y:Str}{r:OI PyData}(e:aI d=some (.str y :: r))(h1:(decide (y = "down"))=false)(h2:(decide (y = "across"))=false):isT b ks w h d=(if decide (y = "rest")=true then decide (r.length+1=1)else if decide (y = "piece")=true then pcD ks w h r else false):=by
 have hc:isC b w h d=false:=by
  unfold isC;rw[hG e,hG e,h1,h2];simp only[J3]
  rfl
 rw[cJ hc];unfold isL;rw[hG e,hG e,e]
 by_cases hr:y = "rest"
 ·subst hr;rw[show decide ((Str.ofString "rest")=(Str.ofString "piece"))=false by decide +kernel,J3,OQ B1,OO (rfl:(Str.ofString "rest")=Str.ofString "rest"),OR rfl,K1]
 ·rw[OS hr,OQ B1]
  by_cases hp:y = "piece"
  ·subst hp;rw[OO (rfl:(Str.ofString "piece")=Str.ofString "piece"),K1,OR (rfl:true=true),J3]
   match r with
   | []=>rfl
   | [_]=>rfl
   | [_,_]=>rfl
   | [_,_,_]=>rfl
   | [_,_,_,_]=>rfl
   | _ :: _ :: _ :: _ :: _ :: r=>simp[pcD]
  ·rw[OS hp,J3,J3,OQ B1,OQ B1]
theorem pS{b:Int}{ks:OI Kd}{w h:Int}{d:PyData}{dn:Bool}{r:OI PyData}(e:aI d=some (.str (if dn=true then "down" else "across") :: r)):isT b ks w h d=(match r with
  | [.int p,l,r']=>decide (1<=p) && (if dn=true then decide (p+b < w) && (isT b ks p h l && isT b ks (w - p - b) h r')else decide (p+b < h) && (isT b ks w p l && isT b ks w (h - p - b) r'))
  | _=>false):=by
 have leafF:isC b w h d=false->isT b ks w h d=false:=λ hc=>by
  rw[cJ hc];unfold isL;rw[hG e,hG e];cases dn
  ·rw[show decide ((if false=true then(Str.ofString "down")else Str.ofString "across")=Str.ofString "piece")=false by decide +kernel,show decide ((if false=true then(Str.ofString "down")else Str.ofString "across")=Str.ofString "rest")=false by decide +kernel,J3,J3,OQ B1]
  ·rw[show decide ((if true=true then(Str.ofString "down")else Str.ofString "across")=Str.ofString "piece")=false by decide +kernel,show decide ((if true=true then(Str.ofString "down")else Str.ofString "across")=Str.ofString "rest")=false by decide +kernel,J3,J3,OQ B1]
 cases hc:isC b w h d with
 | false=>
  rw[leafF hc]
  split
  ·rename_i p l r' e
   unfold isC at hc;rw[hG e,hG e]at hc;cases dn
   ·rw[show decide ((if false=true then(Str.ofString "down")else Str.ofString "across")=Str.ofString "down")=false by decide +kernel,show decide ((if false=true then(Str.ofString "down")else Str.ofString "across")=Str.ofString "across")=true by decide +kernel]at hc;unfold fL at hc;rw[e]at hc;have hc:(decide (1<=p) && decide (p+b < h))=false:=hc;rw[OQ B1,<- Bool.and_assoc,hc,J8]
   ·rw[show decide ((if true=true then(Str.ofString "down")else Str.ofString "across")=Str.ofString "down")=true by decide +kernel]at hc;unfold fL at hc;rw[e]at hc;have hc:(decide (1<=p) && decide (p+b < w))=false:=hc;rw[OR rfl,<- Bool.and_assoc,hc,J8]
  ·rfl
 | true=>
  obtain⟨dn',p,l,r',e',p1,pw,ph,eT⟩:=eC (ks:=ks) hc;rw[e]at e';have hdn:dn=dn':=by have:=PyData.str.inj (List.cons.inj (B8 e')).1;cases dn <;> cases dn' <;> first | rfl | exact absurd this ∅
  subst hdn;cases e';rw[eT];cases dn
  ·simp only[J5,Oq];rw[OO p1,OO (ph rfl)];rfl
  ·simp only[O1];rw[OO p1,OO (pw rfl)];rfl
def TrD:Tr->PyData->Prop
 | .rest,d=>aI d=some [.str "rest"]
 | .piece i c x y,d=>aI d=some [.str "piece",.int i,.bool c,.int x,.int y]
 | .cut dn p l r,d=>∃dl dr,aI d=some [.str (if dn=true then "down" else "across"),.int p,dl,dr]/\TrD l dl/\TrD r dr
theorem TrD.to:∀t:Tr,TrD t (toD t)
 | .rest=>rfl
 | .piece ..=>rfl
 | .cut _ _ l r=>%[toD l,toD r,O,TrD.to l|TrD.to r]
theorem TrD.good{b:Int}{ks:OI Kd}:∀(t:Tr)(d:PyData)(w h:Int),TrD t d->okT b ks w h t->isT b ks w h d=true
 | .rest,d,w,h,e,_=>by have e:aI d=some (.str "rest" :: []):=e;rw[jO e ∅ ∅,OR ∅];rfl
 | .piece i c x y,d,w,h,e,⟨k,hk,hc,x0,y0,hx,hy⟩=>by
  have e:aI d=some (.str "piece" :: [.int i,.bool c,.int x,.int y]):=e;rw[jO e ∅ ∅,OQ ∅,OR ∅];show dP ks w h (.int i) (.bl c) (.int x) (.int y)=true;unfold dP;rw[wU hk hc];simp only[M1,hk];rw[show aR (.int x) 0=true from OO x0,show aR (.int y) 0=true from OO y0,OO hx,OO hy]
  rfl
 | .cut true p l r,d,w,h,⟨dl,dr,e,tl,tr⟩,⟨p1,hp,hl,hr⟩=>by have eT:isT b ks w h d=(decide (1<=p) && (decide (p+b < w) && (isT b ks p h dl && isT b ks (w - p - b) h dr))):=pS (dn:=true) (r:=[.int p,dl,dr]) e;rw[eT,OO p1,OO hp,TrD.good l dl p h tl hl,TrD.good r dr _ h tr hr];rfl
 | .cut false p l r,d,w,h,⟨dl,dr,e,tl,tr⟩,⟨p1,hp,hl,hr⟩=>by have eT:isT b ks w h d=(decide (1<=p) && (decide (p+b < h) && (isT b ks w p dl && isT b ks w (h - p - b) dr))):=pS (dn:=false) (r:=[.int p,dl,dr]) e;rw[eT,OO p1,OO hp,TrD.good l dl w p tl hl,TrD.good r dr w _ tr hr];rfl
def dT:Tr->Nat
 | .cut _ _ l r=>max (dT l) (dT r)+1
 | _=>0
def szT:Tr->Nat
 | .cut _ _ l r=>szT l+szT r+1
 | _=>1
theorem uB(t:Tr):1<=szT t:=by cases t <;> simp only[szT] <;> lia
theorem jP{x:PyData}:∀{ds:OI PyData},x∈ds->x.depth<=PyData.depthAll ds
 | d :: r,h=>by
  rw[PyData.depthAll];rcases G6.mp h with h | h
  ·rw[h];lia
  ·have:=jP h;lia
theorem qX{C x dx:OE}{H:Hp}(hx:H x=none)(hd:H dx=none):Same H (upd (upd H dx (.own x)) x (.ins C dx [])):=λ c o e=>by rw[au (av e hx),au (av e hd)];exact e
def dpT:Tr->Nat
 | .cut _ _ l r=>max (dpT l) (dpT r)+1
 | _=>0
mutual
theorem Dt.fresh{p q:OE}{H:Hp}(hq:H q=none):∀{v:V}{d:PyData},Dt p H v d->Dt q H v d
 | _,_,.non=>.non
 | _,_,.bl b=>.bl b
 | _,_,.int i=>.int i
 | _,_,.str z=>.str z
 | _,_,.lst n h r=>.lst (av h hq) h (r.fresh hq)
 | _,_,.tup h r=>.tup h (r.fresh hq)
 | _,_,.emp h=>.emp h
theorem Dts.fresh{p q:OE}{H:Hp}(hq:H q=none):∀{vs:OI V}{ds:OI PyData},Dts p H vs ds->Dts q H vs ds
 | _,_,.nil=>.nil
 | _,_,.cons a r=>.cons (a.fresh hq) (r.fresh hq)
end
def okU(b:Int)(ks:OI Kd):Int->Int->Tr->Prop
 | _,_,.rest=>True
 | w,h,.piece i c x y=>∃k,ks[i]?=some k/\(i,c)∈lyK ks 0/\0<=x/\0<=y/\x+sd1 k c<=w/\y+sd2 k c<=h
 | w,h,.cut dn p l r=>1<=p/\(if dn=true then p+b < w/\okU b ks p h l/\okU b ks (w - p - b) h r else p+b < h/\okU b ks w p l/\okU b ks w (h - p - b) r)
theorem pT{k:Kd}{c:Bool}(hc:c=false\/bo k=true):∀{ks:OI Kd}{i j:Nat},ks[i]?=some k->(j+i,c)∈lyK ks j
 | [],i,j,h=>by simp at h
 | x :: ks,0,j,h=>by
  cases h;refine C2.mpr (.inl ?_);unfold lyT;cases c with
  | false=>exact B7
  | true=>
   rw[OR (hc.resolve_left ∅)];exact B3 _ (C9.mpr rfl)
 | x :: ks,i+1,j,h=>by have:=pT hc (ks:=ks) (i:=i) (j:=j+1) (by simpa using h);rw[show j+(i+1)=j+1+i by lia];exact C2.mpr (.inr this)
theorem uC{ks:OI Kd}{i:Nat}{c:Bool}{k:Kd}(h:dF ks (.int i) (.bl c)=true)(hk:ks[i]?=some k):(i,c)∈lyK ks 0:=by
 have h:(decide (0<=(i:Int)) && match ks[(i:Int).toNat]? with
  | some k=>!c || bo k
  | none=>false)=true:=h
 rw[M1,hk]at h;have h:=(C7.mp h).2;have h:(!c || bo k)=true:=h;have:=pT (c:=c) (k:=k) (by cases c <;> simp_all) (ks:=ks) (i:=i) (j:=0) hk;simpa using this
theorem kS:∀{ks:OI Kd}{i:Nat}{q:Nat×Bool},q∈lyK ks i->i<=q.1/\∃k,ks[q.1 - i]?=some k/\(q.2=false\/bo k=true)
 | [],_,_,h=>by simp[lyK]at h
 | x :: ks,i,q,h=>by
  rcases C2.mp (show q∈lyT i x ++ lyK ks (i+1)from h)with h | h
  ·unfold lyT at h;rcases G6.mp h with rfl | h
   ·exact%[B2 _,x,by simp|.inl rfl]
   ·split at h
    ·rename_i ht
     rw[C9.mp h];exact%[B2 _,x,by simp|.inr ht]
    ·simp at h
  ·obtain⟨h1,k,h2,h3⟩:=kS h;exact%[⋯,k,by rw[show q.1 - i=(q.1 - (i+1))+1 by lia,List.getElem?_cons_succ];exact h2|h3]
theorem zH{ds:OI PyData}(d3:PyData.canLayAll0 ds=true)(d4:PyData.depthAll ds<=1):SeqAt.shaped (.list ds)=true/\(ds=[]->PyData.eqv (.list ds) (.list [])=true)/\(ds≠[]->PyData.eqv (.list ds) (.list [])=false):=by
 refine%[?_,λ e=>by subst e;exact PySem.SeqAt.eqv_refl _ rfl|λ e=>?_]
 ·unfold SeqAt.shaped;rw[PyData.canLay0,d3,PyData.depth,OO (show PyData.depthAll ds+1<=64 by lia)];rfl
 ·cases ds with
  | nil=>exact absurd rfl e
  | cons d r=>rfl
def PotC(H:Hp)(p:OE):Prop:=∃a b:Int,0<=a/\0<=b/\b < 4294967296/\H p=↥[.int a,.int b]
theorem PotC.same{H H':Hp}{p:OE}(x:PotC H p)(s:Same H H'):PotC H' p:=by obtain⟨a,b,h1,h2,h3,e⟩:=x;exact%[a,b,h1,h2,h3|s _ _ e]
theorem PotC.new{H:Hp}{p q:OE}{o:HO}(x:PotC H p)(h:H q=none):PotC (upd H q o) p:=x.same (G0 h)
theorem PotC.some{H:Hp}{p:OE}(x:PotC H p):H p≠none:=by obtain⟨a,b,h1,h2,h3,e⟩:=x;rw[e];exactλ z=>by cases z
theorem PotC.ne{H:Hp}{p q:OE}(x:PotC H p)(h:H q=none):p≠q:=λ z=>x.some (z ▸ h)
theorem bR{H:Hp}{p:OE}(h:PotC H p):∃xs,H p=↥xs:=by obtain⟨_,_,_,_,_,e⟩:=h;exact%[_|e]
theorem PotC.put{H:Hp}{p l:OE}{o:HO}(x:PotC H p)(n:p≠l):PotC (upd H l o) p:=by obtain⟨a,b,h1,h2,h3,e⟩:=x;exact%[a,b,h1,h2,h3|by rw[au n];exact e]
theorem But.freeC{p q:OE}{H H':Hp}(b:But p H H')(x:PotC H' p)(h:H' q=none):q≠p/\H q=none:=by
 have n:q≠p:=λ z=>x.some (z ▸ h);refine%[n|?_];cases e:H q with
 | none=>rfl
 | some o=>rw[b q o n e]at h;cases h
theorem Lv{p c:OE}{H0 H:Hp}{o:HO}(b:But p H0 H)(pt:PotC H p)(h:H c=none):∃H',upd H c o=H'/\H' c=some o/\c≠p/\Same H H'/\But p H0 H'/\PotC H' p :=
 %[_,rfl,aj,Ne.symm (pt.ne h),G0 h,b.trans (But.new h)|pt.new h]
@[elab_as_elim] theorem bj{H H0:Hp}{p t:OE}{o:HO}{P:Hp->Prop}(ht:H t=none)(pt:PotC H p)(b:But p H0 H)(h:∀H',H' t=some o->t≠p->Same H H'->But p H0 H'->PotC H' p->P H'):P (upd H t o):=by obtain⟨H',e,k,n,s,b,q⟩:=Lv (o:=o) b pt ht;rw[e];exact h H' k n s b q
theorem bS{p:OE}{H H':Hp}(b:But p H H')(pt:PotC H p){c:OE}{xs:OI V}(e:H c= ~~~xs):H' c= ~~~xs:=by obtain⟨_,hp⟩:=bR pt;exact b _ _ (λ z=>by rw[z,hp]at e;cases e) e
theorem yC{p:OE}{rs:OI V}{ks:OI Kd}{H H':Hp}(b:But p H H')(pt:PotC H p)(h:Tups H rs ks):Tups H' rs ks:=Tups.keep (λ x xs e=>bS b pt e) h
theorem But.refl'{p:OE}{H:Hp}:But p H H:=λ _ _ _ e=>e
section
variable{P:F6}{w:F8}{K:C4}{mg:Str->OG F9}{base:Heap}
inductive spPotC(vs:OI V)(H:Hp)(Q:VK)(E_:XK):Prop
|mk(c k:Int)(_:vs=[.int c,.int k])(_:0<=k)(_:k<=63)(_:∀(p:OE)(H':Hp),H p=none->PotC H' p->Same H H'->Q (.ref p) H')
inductive spTake(vs:OI V)(H:Hp)(Q:VK)(E_:XK):Prop
|mk(p:OE)(m:Int)(_:vs=[.ref p,.int m])(_:PotC H p)(_:0 < m)(_:m<=10 ^ 60)(_:∀(r:Int)(H':Hp),0<=r->r < m->PotC H' p->But p H H'->Q (.int r) H')
inductive spUnit(vs:OI V)(H:Hp)(Q:VK)(E_:XK):Prop
|mk(p:OE)(_:vs=[.ref p])(_:PotC H p)(_:∀(r:Int)(H':Hp),1<=r->r < 2 * 10 ^ 56->PotC H' p->But p H H'->Q (.int r) H')
inductive spSideC(vs:OI V)(H:Hp)(Q:VK)(E_:XK):Prop
|mk(p:OE)(u m:Int)(_:vs=[.ref p,.int u,.int m])(_:PotC H p)(_:1<=u)(_:u < 2 * 10 ^ 56)(_:1<=m)(_:m<=40)(_:∀(r:Int)(H':Hp),1<=r->r < 10 ^ 58->PotC H' p->But p H H'->Q (.int r) H')
inductive spWorthC(vs:OI V)(H:Hp)(Q:VK)(E_:XK):Prop
|mk(p:OE)(_:vs=[.ref p])(_:PotC H p)(_:∀(r:Int)(H':Hp),0<=r->r < 10 ^ 60->PotC H' p->But p H H'->Q (.int r) H')
theorem sccell:FnScope ["_law_script","_law_k"] ["_law_script","_law_k"] (defScope pI):=%[O,O,O,∅,O,∅|∅]
theorem wV{f:OE}{fd:F7}(F:Fun K "_law_cell" "_law_cell" pI f fd)(B:Blt mg):FnOk P w K mg base CX0 1 f fd ["_law_script","_law_k"] (tO K):=by
 refine F.ok sccell (λ vs H Q E h=>?_) (λ cdv A outer s H vs Q E hr h=>?_)
 ·obtain⟨a,ns,n,rfl,_⟩:=h
  rfl
 obtain⟨a,ns,n,rfl,hS,n0,q⟩:=h;have nd:=sccell.nd;refine%[_,((((pv 1)<*>jt<*>(@aA _ _ _ _ _ _ _ _ _ aN O B.len OW ((pv 0)^^^ad) ∅ ∅ O O))<|>(((pv 0)&&&ix_list&&&(pv 1))⁻¹)<|>az)<<<(ae⁻¹))|?_];dsimp only[bW];have hl:(ns.map V.int).length=ns.length:=J1 _;refine%[_,O,_,O,a,_,O,.inl hS,_,_,O,O,_,O|?_];refine cj (λ c=>?_) (λ c=>?_)
 ·have c':n < ((ns.map V.int).length:Int):=C0 c;rw[hl]at c';have hk:n.toNat < ns.length:=⋯
  have hv:atI (ns.map V.int) n=some (.int ns[n.toNat]):=aE n0 (by rw[N6,E9 hk];rfl);exact%[_,O,_,O,a,_,_,_,O,O,hS,hv|q _]
 ·exact q _
theorem scpotc:FnScope ["_law_cell_here","_law_k"] ["_law_cell_here","_law_k"] (defScope wL):=%[O,O,O,∅,O,∅|∅]
theorem wW{f:OE}{fd:F7}(F:Fun K "_law_pot" "_law_pot" wL f fd)(B:Blt mg):FnOk P w K mg base CX0 1 f fd ["_law_cell_here","_law_k"] (spPotC):=by
 refine F.ok scpotc (λ vs H Q E h=>?_) (λ cdv A outer s H vs Q E hr h=>?_)
 ·obtain⟨c,k,rfl,_⟩:=h
  rfl
 obtain⟨c,k,rfl,k0,k1,q⟩:=h;have nd:=scpotc.nd;refine%[_,((@aQ _ _ _ _ ((@aA _ _ _ _ _ _ _ _ _ (ju O) O B.max PyProof.Rows.boot_max (ae^^^(((@aA _ _ _ _ _ _ _ _ _ lw O B.abs PyProof.Rows.boot_abs ((pv 0)^^^ad) ∅ ∅ O O)|||bH|||(ae|||fN|||ae))^^^ad)) ∅ ∅ O O)^^^(((((@aA _ _ _ _ _ _ _ _ _ lw O B.abs PyProof.Rows.boot_abs ((pv 0)^^^ad) ∅ ∅ O O)|||iC|||ae)|||aX|||(ae|||fM|||(pv 1)))|||aX|||ae)^^^ad)))⁻¹)|?_];refine%[_,O,_,O,_,_,O,O,%[∅,∅|∅],_,_,O,O,_,_,O,_,O,_,O,_,_,O,O,(by show(0:Int) < 2147483563;decide),_,O,_,_,O,O,.inl %[∅|∅],_,_,O,O,_,_,O,O,zS2|λ p hp=>?_];have e1:=Int.emod_nonneg (if c < 0 then -c else c) (show(2147483563:Int)≠0 by decide);have e2:=Int.emod_lt_of_pos (if c < 0 then -c else c) (show(0:Int) < 2147483563 by decide);refine q p _ hp %[_,_,?_,?_,?_|aj] (G0 hp)
 ·split <;> lia
 ·lia
 ·lia
theorem sctake:FnScope ["_law_pot_here","_law_many","_law_digit"] ["_law_pot_here","_law_many"] (defScope pJ):=%[O,O,O,∅,O,∅|∅]
theorem wX{f:OE}{fd:F7}(F:Fun K "_law_take" "_law_take" pJ f fd)(B:Blt mg):FnOk P w K mg base CX0 1 f fd ["_law_pot_here","_law_many"] (spTake):=by
 refine F.ok sctake (λ vs H Q E h=>?_) (λ cdv A outer s H vs Q E hr h=>?_)
 ·obtain⟨p,m,rfl,_⟩:=h
  rfl
 obtain⟨p,m,rfl,⟨a,b,a0,b0,b1,hp⟩,m0,m1,q⟩:=h;have nd:=sctake.nd;refine%[_,(((((pv 0)&&&ix_list&&&ae)<*>yr<*>ae)<|>((2∣(((pv 0)&&&ix_list&&&ae)|||iC|||(pv 1)))<<<((@bL _ _ _ _ _ _ (((pv 0)&&&ix_list&&&ae)|||iI|||(pv 1)) (mm (pv 0) ae iF) O O O)<<<((pv 2)⁻¹)))<|>az)<<<((@bL _ _ _ _ _ _ (((((pv 0)&&&ix_list&&&ae)|||fM|||ae)|||aX|||ae)|||iC|||ae) (mm (pv 0) ae iF) O O O)<<<(((((((pv 0)&&&ix_list&&&ae)|||fM|||((pv 0)&&&ix_list&&&ae))|||iC|||ae)|||iI|||ae)|||iC|||(pv 1))⁻¹)))|?_];dsimp only[bW];have at0:atI [V.int a,V.int b] 0=⇑a:=rfl;have at1:atI [V.int a,V.int b] 1=⇑b:=rfl;refine%[_,O,p,_,_,_,O,O,G2 hp,at0,_,_,O,O,_,O|?_];refine cj (λ c=>?_) (λ c=>?_)
 ·have c':0 < a:=C0 c;refine%[_,O,p,_,_,_,O,O,G2 hp,at0,_,O,_,_,O,O,m0|?_];refine%[_,O,p,_,_,_,O,O,G2 hp,at0,_,O,_,_,O,O,%[m0|m1],_,O,p,_,_,_,O,O,hp,O|?_];refine%[_,O|q _ _ (Int.emod_nonneg _ ⋯) (Int.emod_lt_of_pos _ m0) %[a / m,b,Int.ediv_nonneg a0 ⋯,b0,b1|aj] But.upd]
 ·refine%[_,O,p,_,_,_,O,O,G2 hp,at1,_,_,O,O,.inr %[∅|∅],_,_,O,O,_,_,O,O,(by show(0:Int) < 2147483629;decide),_,O,p,_,_,_,O,O,hp,O|?_];have n0:0<=(b * 39373+7919) % 2147483629:=Int.emod_nonneg _ ∅;have n1:(b * 39373+7919) % 2147483629 < 2147483629:=Int.emod_lt_of_pos _ ∅;refine%[_,O,p,_,_,_,O,O,G2 aj,O,_,O,p,_,_,_,O,O,G2 aj,O,_,_,O,O,.inl %[⋯|⋯],_,_,O,O,(by show(0:Int) < 2147483563;decide),_,_,O,O,%[∅|∅],_,O,_,_,O,O,m0|?_];exact q _ _ (Int.emod_nonneg _ ⋯) (Int.emod_lt_of_pos _ m0) %[a,_,a0,n0,⋯|aj] But.upd
theorem scunit:FnScope ["_law_pot_here","_law_some"] ["_law_pot_here"] (defScope pK):=%[O,O,O,∅,O,∅|∅]
theorem wY{f:OE}{fd:F7}(F:Fun K "_law_unit" "_law_unit" pK f fd)(B:Blt mg)(DD:Dn P w K mg base "_law_take" ["_law_pot_here","_law_many"] 1 (spTake)):FnOk P w K mg base CX0 2 f fd ["_law_pot_here"] (spUnit):=by
 refine F.ok scunit (λ vs H Q E h=>?_) (λ cdv A outer s H vs Q E hr h=>?_)
 ·obtain⟨p,rfl,_⟩:=h
  rfl
 obtain⟨p,rfl,pt,q⟩:=h;have nd:=scunit.nd;refine%[_,((1∣(@aQ _ _ _ _ (ae^^^(ae^^^((ae|||aX|||(DD∪((pv 0)^^^((ae|||fN|||ae)^^^ad))))^^^(((ae|||fN|||ae)|||aX|||(DD∪((pv 0)^^^((ae|||fN|||ae)^^^ad))))^^^ad))))))<<<(((pv 1)&&&ix_list&&&(DD∪((pv 0)^^^(ae^^^ad))))⁻¹))|?_];dsimp only[bW];have e56:(10:Int) ^ (56:Int).toNat=10 ^ 56:=rfl;have e66:(10:Int) ^ 6 < 10 ^ 56:=∅
 refine aw (λ R=>∀(l:OE)(c d:Int)(H':Hp),l≠p->H' l=↥[.int 1,.int 1,.int c,.int d]->1<=c->c < 2 * 10 ^ 56->1<=d->d < 2 * 10 ^ 56->PotC H' p->But p H H'->R [↑p,↑l] H') (λ Dd hR=>?_) ?_
 ·refine%[_,O,_,_,O,O,%[∅,∅|∅],p,_,O,pt,(by show(0:Int) < 10 ^ (6:Int).toNat;decide),(by show(10:Int) ^ (6:Int).toNat<=10 ^ 60;decide)|λ r H1 r0 r1 pt1 b1=>%[_,_,O,O,_,_,O,O,%[∅,∅|∅],_,O,_,_,O,O,%[∅,∅|∅],p,_,O,pt1,(by show(0:Int) < 10 ^ (56:Int).toNat;decide),(by show(10:Int) ^ (56:Int).toNat<=10 ^ 60;decide)|λ r2 H2 r20 r21 pt2 b2=>%[_,_,O,O,zS4|λ l hl=>?_]]];have r1:r < 10 ^ 6:=r1;rw[e56]at r21;refine bj hl pt2 (b1.trans b2) λ H3 k3 n3 s3 b3 pt3=>?_;exact hR l _ _ _ n3 k3 ⋯ ⋯ (by rw[e56];lia) (by rw[e56];lia) pt3 b3
 rintro l c d H1 nlp hl1 c0 c1 d0 d1 pt1 b1;refine%[_,O,_,O,p,4,O,pt1,∅,∅|λ r H2 r0 r1 pt2 b2=>?_];have hl2:=b2 _ _ nlp hl1;have one:(1:Int) < 2 * 10 ^ 56:=∅
 obtain⟨x,hx,x0,x1⟩:∃x:Int,atI [V.int 1,V.int 1,V.int c,V.int d] r=⇑x/\1<=x/\x < 2 * 10 ^ 56:=by
  have:r=0\/r=1\/r=2\/r=3:=⋯
  rcases this with rfl | rfl | rfl | rfl
  ·exact%[1,O,∅|one]
  ·exact%[1,O,∅|one]
  ·exact%[c,O,c0|c1]
  ·exact%[d,O,d0|d1]
 exact%[l,_,_,_,O,O,G2 hl2,hx|q x H2 x0 x1 pt2 (b1.trans b2)]
theorem scsidecc:FnScope ["_law_pot_here","_law_unit_here","_law_most"] ["_law_pot_here","_law_unit_here","_law_most"] (defScope pL):=%[O,O,O,∅,O,∅|∅]
theorem qY{f:OE}{fd:F7}(F:Fun K "_law_side" "_law_side" pL f fd)(B:Blt mg)(DD:Dn P w K mg base "_law_take" ["_law_pot_here","_law_many"] 1 (spTake)):FnOk P w K mg base CX0 2 f fd ["_law_pot_here","_law_unit_here","_law_most"] (spSideC):=by
 refine F.ok scsidecc (λ vs H Q E h=>?_) (λ cdv A outer s H vs Q E hr h=>?_)
 ·obtain⟨p,u,m,rfl,_⟩:=h
  rfl
 obtain⟨p,u,m,rfl,pt,u0,u1,m1,m40,q⟩:=h;have nd:=scsidecc.nd;refine%[_,((((DD∪((pv 0)^^^(ae^^^ad)))<*>bc<*>ae)<|>(((pv 1)|||fM|||(ae|||aX|||(DD∪((pv 0)^^^((pv 2)^^^ad)))))⁻¹)<|>az)<<<((ae|||aX|||(DD∪((pv 0)^^^(((pv 2)|||fM|||(pv 1))^^^ad))))⁻¹))|?_];have e58:40 * (2 * 10 ^ 56) < (10:Int) ^ 58:=∅
 have e60:40 * (2 * 10 ^ 56) < (10:Int) ^ 60:=∅
 have mu:m * u<=40 * (2 * 10 ^ 56):=Int.mul_le_mul m40 (Int.le_of_lt u1) ⋯ ∅;have mu1:1<=m * u:=by have:=Int.mul_le_mul m1 u0 ∅ ⋯;lia
 refine bf (λ R=>∀(H':Hp),PotC H' p->But p H H'->R [↑p,⇑u,⇑m] H') (λ R hR=>?_) ?_
 ·refine%[_,O,p,2,O,pt,∅,∅|λ z H1 z0 z1 pt1 b1=>%[O,_,O|?_]];refine cj (λ cc=>?_) (λ cc=>hR _ pt1 b1);refine%[_,O,_,O,_,O,p,m,O,pt1,⋯,⋯|λ r H2 r0 r1 pt2 b2=>%[_,_,O,O,_,_,O,O,.inr %[⋯|⋯]|q _ H2 ?_ ?_ pt2 (b1.trans b2)]]
  ·have:=Int.mul_le_mul u0 (show(1:Int)<=1+r by lia) ∅ ⋯;lia
  ·have:u * (1+r)<=u * m:=Int.mul_le_mul_of_nonneg_left ⋯ ⋯;rw[Int.mul_comm u m]at this;lia
 rintro H1 pt1 b1;exact%[_,O,_,O,_,O,_,_,O,O,.inl %[⋯|⋯],p,m * u,O,pt1,⋯,⋯|λ r H2 r0 r1 pt2 b2=>%[_,_,O,O|q _ H2 ⋯ ⋯ pt2 (b1.trans b2)]]
theorem scworthc:FnScope ["_law_pot_here","_law_some"] ["_law_pot_here"] (defScope kO):=%[O,O,O,∅,O,∅|∅]
theorem qZ{f:OE}{fd:F7}(F:Fun K "_law_worth" "_law_worth" kO f fd)(B:Blt mg)(DD:Dn P w K mg base "_law_take" ["_law_pot_here","_law_many"] 1 (spTake)):FnOk P w K mg base CX0 2 f fd ["_law_pot_here"] (spWorthC):=by
 refine F.ok scworthc (λ vs H Q E h=>?_) (λ cdv A outer s H vs Q E hr h=>?_)
 ·obtain⟨p,rfl,_⟩:=h
  rfl
 obtain⟨p,rfl,pt,q⟩:=h;have nd:=scworthc.nd;refine%[_,((1∣(@aQ _ _ _ _ ((DD∪((pv 0)^^^(ae^^^ad)))^^^((DD∪((pv 0)^^^((ae|||fN|||ae)^^^ad)))^^^((((ae|||fN|||ae)|||bH|||ae)|||bH|||(DD∪((pv 0)^^^(ae^^^ad))))^^^ad)))))<<<(((pv 1)&&&ix_list&&&(DD∪((pv 0)^^^(ae^^^ad))))⁻¹))|?_];dsimp only[bW];have e60:(10:Int) ^ (60:Int).toNat=10 ^ 60:=rfl;have e100:(100:Int) < 10 ^ 60:=∅
 refine aw (λ R=>∀(l:OE)(c d e:Int)(H':Hp),l≠p->H' l=↥[.int c,.int d,.int e]->0<=c->c < 10 ^ 60->0<=d->d < 10 ^ 60->0<=e->e < 10 ^ 60->PotC H' p->But p H H'->R [↑p,↑l] H') (λ Dd hR=>?_) ?_
 ·refine%[_,O,p,10,O,pt,∅,∅|λ r H1 r0 r1 pt1 b1=>%[_,O,_,_,O,O,%[∅,∅|∅],p,_,O,pt1,(by show(0:Int) < 10 ^ (60:Int).toNat;decide),(by show(10:Int) ^ (60:Int).toNat<=10 ^ 60;decide)|λ r2 H2 r20 r21 pt2 b2=>%[_,_,O,O,%[∅,∅|∅],_,_,O,O,_,O,p,10,O,pt2,∅,∅|λ r3 H3 r30 r31 pt3 b3=>%[_,_,O,O,zS3|λ l hl=>?_]]]];rw[e60]at r21;refine bj hl pt3 (b1.trans (b2.trans b3)) λ H4 k4 n4 s4 b4 pt4=>?_;exact hR l _ _ _ _ n4 k4 r0 ⋯ r20 r21 (by rw[e60];lia) (by rw[e60];lia) pt4 b4
 rintro l c d e H1 nlp hl1 c0 c1 d0 d1 e0 e1 pt1 b1;refine%[_,O,_,O,p,3,O,pt1,∅,∅|λ r H2 r0 r1 pt2 b2=>?_];have hl2:=b2 _ _ nlp hl1;obtain⟨x,hx,x0,x1⟩:∃x:Int,atI [V.int c,V.int d,V.int e] r=⇑x/\0<=x/\x < 10 ^ 60:=by
  have:r=0\/r=1\/r=2:=⋯
  rcases this with rfl | rfl | rfl
  ·exact%[c,O,c0|c1]
  ·exact%[d,O,d0|d1]
  ·exact%[e,O,e0|e1]
 exact%[l,_,_,_,O,O,G2 hl2,hx|q x H2 x0 x1 pt2 (b1.trans b2)]
end
def LS(H:Hp)(t:OE)(b:Int)(ks:OI Kd)(kl:OE):Prop:=∃rs,H t= ~~~[.int b,.ref kl]/\H kl=↥rs/\Tups H rs ks
theorem LS.same{H H':Hp}{t kl:OE}{b:Int}{ks:OI Kd}(x:LS H t b ks kl)(s:Same H H'):LS H' t b ks kl:=by obtain⟨rs,h1,h2,h3⟩:=x;exact%[rs,s _ _ h1,s _ _ h2|Tups.keep (λ c xs e=>s _ _ e) h3]
theorem LS.but{p:OE}{H H':Hp}{t kl:OE}{b:Int}{ks:OI Kd}(x:LS H t b ks kl)(n:kl≠p)(pt:PotC H p)(bt:But p H H'):LS H' t b ks kl:=by obtain⟨rs,h1,h2,h3⟩:=x;exact%[rs,bS bt pt h1,bt _ _ n h2|yC bt pt h3]
def LyC(H:Hp)(v:V)(q:Nat×Bool):Prop:=∃a,v=.ref a/\H a= ~~~[.int q.1,.bl q.2]
theorem LyC.keep{H H':Hp}(k:∀a xs,H a= ~~~xs->H' a= ~~~xs){v:V}{q:Nat×Bool}(h:LyC H v q):LyC H' v q:=by obtain⟨a,e,h⟩:=h;exact%[a,e|k _ _ h]
structure Pq where
 k:Nat
 c:Bool
 x:Int
 y:Int
def pqV(p:Pq):OI V:=[.int p.k,.bl p.c,.int p.x,.int p.y]
structure Bx where
 a:Int
 b:Int
 c:Int
 d:Int
def bxV(x:Bx):OI V:=[.int x.a,.int x.b,.int x.c,.int x.d]
def Lw(k:Kd)(p:Pq):Bx:=%[p.x,p.y,p.x+sd1 k p.c|p.y+sd2 k p.c]
def apB(o r:Bx):Bool:=decide (o.c<=r.a) || decide (r.c<=o.a) || decide (o.d<=r.b) || decide (r.d<=o.b)
def Sq(H:Hp)(a:OE)(xs:OI V):Prop:=H a=↥xs\/H a= ~~~xs
def uD(k:Kd):Prop:=Good k/\k.w < 10 ^ 58/\k.h < 10 ^ 58
section
variable{P:F6}{w:F8}{K:C4}{mg:Str->OG F9}{base:Heap}
inductive spShopC(vs:OI V)(H:Hp)(Q:VK)(E_:XK):Prop
|mk(p:OE)(u:Int)(_:vs=[.ref p,.int u])(_:PotC H p)(_:1<=u)(_:u < 2 * 10 ^ 56)(_:∀(t kl:OE)(b:Int)(ks:OI Kd)(H':Hp),LS H' t b ks kl->kl≠p->H kl=none->(∀k∈ks,uD k)->1<=ks.length->ks.length<=8->0<=b->b < 10 ^ 58->PotC H' p->But p H H'->Q (.ref t) H')
inductive spSidesC(vs:OI V)(H:Hp)(Q:VK)(E_:XK):Prop
|mk(t kl:OE)(b:Int)(ks:OI Kd)(i:Nat)(c:Bool)(k:Kd)(_:vs=[.ref t,.int i,.bl c])(_:LS H t b ks kl)(_:ks[i]?=some k)(_:∀(r:OE)(H':Hp),H' r= ~~~[.int (sd1 k c),.int (sd2 k c)]->Same H H'->Q (.ref r) H')
inductive spLyingsC(vs:OI V)(H:Hp)(Q:VK)(E_:XK):Prop
|mk(t kl:OE)(b:Int)(ks:OI Kd)(_:vs=[.ref t])(_:LS H t b ks kl)(_:ks.length<=8)(_:∀(l:OE)(ys:OI V)(H':Hp),H' l=↥ys->H l=none->Paired (LyC H') ys (lyK ks 0)->Same H H'->Q (.ref l) H')
inductive spBox(vs:OI V)(H:Hp)(Q:VK)(E_:XK):Prop
|mk(t kl a:OE)(b:Int)(ks:OI Kd)(p:Pq)(k:Kd)(_:vs=[.ref t,.ref a])(_:LS H t b ks kl)(_:Sq H a (pqV p))(_:ks[p.k]?=some k)(_:∀(r:OE)(H':Hp),H' r= ~~~(bxV (Lw k p))->Same H H'->Q (.ref r) H')
inductive spApart(vs:OI V)(H:Hp)(Q:VK)(E_:XK):Prop
|mk(a1 a2:OE)(o r:Bx)(_:vs=[.ref a1,.ref a2])(_:H a1= ~~~(bxV o))(_:H a2= ~~~(bxV r))(_:Q (.bl (apB o r)) H)
theorem scshopc:FnScope ["_law_pot_here","_law_unit_here","_law_blade","_law_kinds","_law_k","_law_wide","_law_high"] ["_law_pot_here","_law_unit_here"] (defScope pM):=%[O,O,O,∅,O,∅|∅]
theorem uE{f:OE}{fd:F7}(F:Fun K "_law_shop" "_law_shop" pM f fd)(B:Blt mg)(DD:Dn P w K mg base "_law_take" ["_law_pot_here","_law_many"] 1 (spTake))(DSi:Dn P w K mg base "_law_side" ["_law_pot_here","_law_unit_here","_law_most"] 2 (spSideC))(DWo:Dn P w K mg base "_law_worth" ["_law_pot_here"] 2 (spWorthC)):FnOk P w K mg base CX0 3 f fd ["_law_pot_here","_law_unit_here"] (spShopC):=by
 refine F.ok scshopc (λ vs H Q E h=>?_) (λ cdv A outer s H vs Q E hr h=>?_)
 ·obtain⟨p,u,rfl,_⟩:=h
  rfl
 obtain⟨p,u,rfl,pt,u0,u1,q⟩:=h;have nd:=scshopc.nd;refine%[_,((2∣((@aQ _ _ _ _ (ae^^^((pv 1)^^^((DD∩((pv 0)^^^(ae^^^ad)))^^^((DD∩((pv 0)^^^(((ae|||fM|||(pv 1))|||aX|||ae)^^^ad)))^^^ad)))))&&&ix_list&&&(DD∩((pv 0)^^^(ae^^^ad)))))<<<((3∣(@aQ _ _ _ _ ad))<<<((@df _ _ _ _ _ _ _ _ E2 O (gA O B.range ((ae|||aX|||(DD∩((pv 0)^^^(ae^^^ad))))^^^ad)) (ap (i:=4) nd O (Or.inl O)) ((5∣(DSi∪((pv 0)^^^((pv 1)^^^(ae^^^ad)))))<<<((6∣((@aQ _ _ _ _ ((pv 5)^^^((DSi∪((pv 0)^^^((pv 1)^^^(ae^^^ad))))^^^ad)))&&&ix_list&&&(@bg _ _ _ _ _ _ _ _ _ cu O B.int OX ((@bh _ _ _ _ _ _ _ _ yr (DD∩((pv 0)^^^(ae^^^ad))) ae (aB _))^^^ad) ∅ ∅ O O)))>>>(@bX _ _ _ _ (@fI _ _ _ _ _ _ _ _ _ _ _ _ F4 PySem.F.slot_list_append PySem.F.type_list_append cX (pv 3) ((@ar _ _ _ _ _ ((pv 5)^^^((pv 6)^^^((DWo∪((pv 0)^^^ad))^^^((DWo∪((pv 0)^^^ad))^^^((@bh _ _ _ _ _ _ _ _ bc (DD∩((pv 0)^^^(ae^^^ad))) ae (aB _))^^^ad))))))^^^ad) O O O O O) O))) (by intro _;rfl))<<<((@ar _ _ _ _ _ ((pv 2)^^^((pv 3)^^^ad)))⁻¹))))|?_];dsimp only[bW];have e60:(100:Int) < 10 ^ 60:=∅
 have e58:(10:Int) ^ 58 < 10 ^ 60:=∅
 have e59:2 * (2 * 10 ^ 56)+100 < (10:Int) ^ 58:=∅
 have e57:2 * (2 * 10 ^ 56)+1 < (10:Int) ^ 60:=∅
 have sz:(100:Nat) < sizeLine:=∅
 refine aw (λ R=>∀(b:Int)(H':Hp),0<=b->b < 10 ^ 58->PotC H' p->But p H H'->R [↑p,⇑u,⇑b,none,none,none,none] H') (λ Dd hR=>?_) ?_
 ·refine%[_,O,_,O,p,3,O,pt,∅,∅|λ r1 H1 r10 r11 pt1 b1=>%[_,O,_,O,_,_,O,O,.inl %[∅|∅],_,_,O,O,p,_,O,pt1,⋯,⋯|λ r2 H2 r20 r21 pt2 b2=>%[zS4|λ l hl=>?_]]];refine bj hl pt2 (b1.trans b2) λ H3 k3 n3 s3 b3 pt3=>?_;refine%[_,O,p,4,O,pt3,∅,∅|λ r H4 r0 r1' pt4 b4=>?_];have hl4:=b4 _ _ n3 k3;obtain⟨x,hx,x0,x1⟩:∃x:Int,atI [V.int 0,V.int u,V.int r1,V.int r2] r=⇑x/\0<=x/\x < 10 ^ 58:=by
   have:r=0\/r=1\/r=2\/r=3:=⋯
   rcases this with rfl | rfl | rfl | rfl
   ·exact%[0,O,∅|⋯]
   ·exact%[u,O,⋯|⋯]
   ·exact%[r1,O,r10|⋯]
   ·exact%[r2,O,r20|⋯]
  exact%[l,_,_,_,O,O,G2 hl4,hx|hR x _ x0 x1 pt4 (b3.trans b4)]
 rintro b H1 b0 b1' pt1 b1;refine aw (λ R=>∀(l:OE)(H':Hp),l≠p->H1 l=none->H' l=↥[]->PotC H' p->But p H H'->R [↑p,⇑u,⇑b,↑l,none,none,none] H') (λ Dd hR=>?_) ?_
 ·refine%[∅|λ l hl=>?_];refine bj hl pt1 b1 λ H2 k2 n2 s2 b2 pt2=>?_;exact hR l _ n2 hl k2 pt2 b2
 rintro l H2 nlp hl1 hl2 pt2 b2;have hl0:H l=none:=(b1.freeC pt1 hl1).2;refine bO (λ σ' H'=>(∃(v4 v5 v6:OG V)(rs:OI V)(ks:OI Kd),σ'=[↑p,⇑u,⇑b,↑l,v4,v5,v6]/\H' l=↥rs/\Tups H' rs ks/\(∀k∈ks,uD k)/\(1<=rs.length/\rs.length<=8)/\PotC H' p/\But p H H')) (λ R hR=>?_) ?_
 ·refine%[_,O,p,8,O,pt2,∅,∅|λ m H3 m0 m1 pt3 b3=>%[_,_,O,O,_,O,⋯,⋯|?_]];refine gB (n:=(1+m).toNat) (λ i σ' H'=>(∃(v4 v5 v6:OG V)(rs:OI V)(ks:OI Kd),σ'=[↑p,⇑u,⇑b,↑l,v4,v5,v6]/\H' l=↥rs/\Tups H' rs ks/\(∀k∈ks,uD k)/\rs.length=i/\PotC H' p/\But p H H')) %[_,_,_,[],[],rfl,b3 _ _ nlp hl2,.nil,λ k hk=>by simp at hk,rfl,pt3|b2.trans b3] ?_ ?_
  ·intro i _ H4 hi hI9;refine cN λ G9 k9=>?_;obtain⟨v4,v5,v6,rs,ks,rfl,hl4,tp4,gk4,rl4,pt4,bt4⟩:=hI9;refine k9 ?_;refine%[_,O,_,O,p,u,6,O,pt4,u0,u1,∅,∅|λ w1 H5 w0 w1' pt5 b5=>?_];refine%[_,O,_,O,_,O,p,u,6,O,pt5,u0,u1,∅,∅|λ h1 H6 h0 h1' pt6 b6=>%[zS2|λ l2 hl2'=>?_]];refine bj hl2' pt6 (b5.trans b6) λ H7 k7 n7 s7 b7 pt7=>?_;refine%[_,O,p,5,O,pt7,∅,∅|λ z H8 z0 z1 pt8 b8=>%[_,_,O,O|.inr %[_,O|?_]]];have l28:=b8 _ _ n7 k7;obtain⟨nn,hnn,nn0,nn1⟩:∃nn:Int,atI [V.int w1,V.int h1] (if decide (0 < z)=true then(1:Int)else 0)=⇑nn/\1<=nn/\nn < 10 ^ 58:=by
    by_cases c:(0:Int) < z
    ·exact%[h1,by rw[OO c];rfl,h0|h1']
    ·exact%[w1,by rw[OS c];rfl,w0|w1']
   refine%[l2,_,_,_,O,O,G2 l28,hnn|?_];have b48:=b7.trans b8;have hl8:=b48 _ _ nlp hl4;refine%[_,O,.inl %[O,_|G2 hl8],_,O,_,O,_,O,p,O,pt8|λ wo H9 wo0 wo1 pt9 b9=>?_];refine%[_,O,p,O,pt9|λ wa Ha wa0 wa1 pta ba=>?_];refine%[_,O,p,2,O,pta,∅,∅|λ tu Hb tu0 tu1 ptb bb=>%[O,zS5|λ t ht=>?_]];have b4b:=b48.trans (b9.trans (ba.trans bb));refine bj ht ptb (bt4.trans b4b) λ H12 k12 n12 s12 b12 pt12=>?_;have k12:H12 t= ~~~(kdV %[w1,nn,wo,wa|decide (V.int tu=V.int 0)]):=k12;have hlc:=s12 _ _ (b4b _ _ nlp hl4);refine%[l,_,_,O,O,hlc,(by have:i < (1+m).toNat:=hi;lia)|?_];have kt:∀{c:OE}{xs:OI V},H12 c= ~~~xs->(upd H12 l (.lst (rs ++ [.ref t]))) c= ~~~xs:=λ {c xs} e=>by rw[au (λ z=>by rw[z,hlc]at e;cases e)];exact e
   refine%[_,_,_,rs ++ [.ref t],ks ++ [%[w1,nn,wo,wa|decide (V.int tu=V.int 0)]],O,aj,?_,λ k hk=>?_,by rw[G5,rl4];rfl,pt12.put (Ne.symm nlp)|λ c o n e=>?_]
   ·exact hV (Tups.keep (λ c xs e=>kt (s12 _ _ e)) (yC b4b pt4 tp4)) (.cons %[t,O|kt k12] .nil)
   ·rcases C2.mp hk with hk | hk
    ·exact gk4 k hk
    ·rw[C9.mp hk];exact%[%[by show(1:Int)<=w1;lia,by show(1:Int)<=nn;lia,wo0,wa0,by show w1 < _;lia,by show nn < _;lia,wo1|wa1],w1'|nn1]
   ·rw[au (λ z=>by rw[z,hl0]at e;cases e)];exact b12 _ _ n e
  ·intro _ H4 hI9;refine cN λ G9 k9=>?_;obtain⟨v4,v5,v6,rs,ks,rfl,hl4,tp4,gk4,rl4,pt4,bt4⟩:=hI9;refine k9 ?_;exact hR _ _ %[_,_,_,rs,ks,rfl,hl4,tp4,gk4,%[⋯|⋯],pt4|bt4]
 intro _ H3 hI9;refine cN λ G9 k9=>?_;obtain⟨v4,v5,v6,rs,ks,rfl,hl3,tp3,gk3,⟨r1,r8⟩,pt3,bt3⟩:=hI9;refine k9 ?_;refine%[_,O,_,O,zS2|λ t ht=>?_];refine bj ht pt3 bt3 λ H6 k6 n6 s6 b6 pt6=>?_;have rl:=E1 tp3;exact q t l b ks H6 %[rs,k6,s6 _ _ hl3|Tups.keep (λ c xs e=>s6 _ _ e) tp3] nlp hl0 gk3 ⋯ ⋯ b0 b1' pt6 b6
theorem scsidesc:FnScope ["_law_shop_here","_law_kind","_law_turned","_law_wide","_law_high"] ["_law_shop_here","_law_kind","_law_turned"] (defScope kP):=%[O,O,O,∅,O,∅|∅]
theorem rc{f:OE}{fd:F7}(F:Fun K "_law_sides" "_law_sides" kP f fd)(B:Blt mg):FnOk P w K mg base CX0 1 f fd ["_law_shop_here","_law_kind","_law_turned"] (spSidesC):=by
 refine F.ok scsidesc (λ vs H Q E h=>?_) (λ cdv A outer s H vs Q E hr h=>?_)
 ·obtain⟨t,kl,b,ks,i,c,k,rfl,_⟩:=h
  rfl
 obtain⟨t,kl,b,ks,i,c,k,rfl,sh,hi,q⟩:=h;have nd:=scsidesc.nd;refine%[_,((@bL _ _ _ _ _ _ (@aT _ _ _ _ _ _ _ _ _ _ mB (((pv 0)&&&ix_tup&&&ae)&&&ix_list&&&(pv 1)) bi (aW ae)) (bC O (3•(4•aV))) O O O)<<<(((@aQ _ _ _ _ ((@ar _ _ _ _ _ ((pv 3)^^^((pv 4)^^^ad)))^^^((@ar _ _ _ _ _ ((pv 4)^^^((pv 3)^^^ad)))^^^ad)))&&&ix_list&&&(@bg _ _ _ _ _ _ _ _ _ cu O B.int OX ((pv 2)^^^ad) ∅ ∅ O O))⁻¹))|?_];dsimp only[bW];have sz:(100:Nat) < sizeLine:=∅
 obtain⟨rs,h1,h2,h3⟩:=id sh;obtain⟨vv,hvv,ak,rfl,hak⟩:=Paired.getL h3 hi;have hak:H ak= ~~~[.int k.w,.int k.h,.int k.wo,.int k.wa,.bl k.tu]:=hak;have hat:atI rs (i:Int)=↑ak:=aE ⋯ (by rw[M1];exact hvv);refine aw (λ R=>∀(H':Hp),Same H H'->R [↑t,⇑i,some (.bl c),⇑k.w,⇑k.h] H') (λ Dd hR=>?_) ?_
 ·refine%[_,O,t,_,1,_,O,O,G1 h1,O,_,O,kl,_,_,_,O,O,G2 h2,hat,_,O,ak,_,O,G1 hak,(λ z=>absurd z.2 (show¬ HT.sIx 5 5 (some 2)=5 by decide))|λ a ha=>?_];refine aU ha λ H1 k1 s1=>?_;exact%[a,_,O,G1 (show H1 a= ~~~[.int k.w,.int k.h]from k1),O,_,_,O,_,_,O,O|hR _ s1]
 rintro H1 s1;refine%[_,O,_,O,zS2|λ a ha=>?_];refine aU ha λ H2 k2 s2=>?_;refine%[_,O,_,O,zS2|λ a2 ha2=>?_];refine aU ha2 λ H3 k3 s3=>?_;refine%[zS2|λ l hl=>?_];refine aU hl λ H4 k4 s4=>?_;refine%[_,O|.inr %[_,O|?_]];cases c with
 | true=>exact%[l,_,_,_,O,O,G2 k4,O|q a2 H4 (s4 _ _ k3) (s1.trans (s2.trans (s3.trans s4)))]
 | false=>exact%[l,_,_,_,O,O,G2 k4,O|q a H4 (s4 _ _ (s3 _ _ k2)) (s1.trans (s2.trans (s3.trans s4)))]
theorem sclyingsc:FnScope ["_law_shop_here","_law_found","_law_k","_law_kind"] ["_law_shop_here"] (defScope ir):=%[O,O,O,∅,O,∅|∅]
theorem nu{f:OE}{fd:F7}(F:Fun K "_law_lyings" "_law_lyings" ir f fd)(B:Blt mg):FnOk P w K mg base CX0 1 f fd ["_law_shop_here"] (spLyingsC):=by
 refine F.ok sclyingsc (λ vs H Q E h=>?_) (λ cdv A outer s H vs Q E hr h=>?_)
 ·obtain⟨t,kl,b,ks,rfl,_⟩:=h
  rfl
 obtain⟨t,kl,b,ks,rfl,sh,k8,q⟩:=h;have nd:=sclyingsc.nd;refine%[_,((1∣(@aQ _ _ _ _ ad))<<<((@df _ _ _ _ _ _ _ _ E2 O (wk O B.enumerate (((pv 0)&&&ix_tup&&&ae)^^^ad)) (bC O (2•(3•aV))) ((@bX _ _ _ _ (@fI _ _ _ _ _ _ _ _ _ _ _ _ F4 PySem.F.slot_list_append PySem.F.type_list_append cX (pv 1) ((@ar _ _ _ _ _ ((pv 2)^^^(bF^^^ad)))^^^ad) O O O O O) O)>>>((PW.pt (sI (@aO _ _ _ ((pv 3)&&&ix_tup&&&ae) (by intro _;rfl)) (oO (((pv 3)&&&ix_tup&&&ae)<*>cI<*>((pv 3)&&&ix_tup&&&ae)))))<|>(@ag _ _ _ (@bX _ _ _ _ (@fI _ _ _ _ _ _ _ _ _ _ _ _ F4 PySem.F.slot_list_append PySem.F.type_list_append cX (pv 1) ((@ar _ _ _ _ _ ((pv 2)^^^(bF^^^ad)))^^^ad) O O O O O) O))<|>az)) (by intro _;rfl))<<<((pv 1)⁻¹)))|?_];dsimp only[bW];have sz:(100:Nat) < sizeLine:=∅
 obtain⟨rs,h1,h2,h3⟩:=id sh;have rl:=E1 h3;refine aw (λ R=>∀(l:OE)(H':Hp),H l=none->H' l=↥[]->Same H H'->R [↑t,↑l,none,none] H') (λ Dd hR=>?_) ?_
 ·refine%[∅|λ l hl=>?_];refine aU hl λ H1 k1 s1=>?_;exact hR l _ hl k1 s1
 rintro l H1 hl hl1 s1;have nkl:kl≠l:=av h2 hl;refine bO (λ σ' H'=>(∃v2 v3:OG V,σ'=[↑t,↑l,v2,v3])/\(∃ys,H' l=↥ys/\Paired (LyC H') ys (lyK ks 0))/\But l H1 H') (λ R hR=>?_) ?_
 ·refine%[_,O,t,_,1,_,O,O,G1 (s1 _ _ h1),O,kl,rs,O|.inl %[s1 _ _ h2|tK (f:=.lst) (λ _ _ e=>by cases e;rfl) (l:=kl) (xs:=rs) (λ i σ' H'=>(∃(v2 v3:OG V)(ys:OI V),σ'=[↑t,↑l,v2,v3]/\H' l=↥ys/\Paired (LyC H') ys (lyK (ks.take i) 0)/\But l H1 H')) %[_,_,[],O,hl1,.nil|λ _ _ _ e=>e] (λ i σ Hx ⟨v2,v3,ys,_,_,_,b⟩=>b _ _ nkl (s1 _ _ h2)) ?_ (λ σ Hx ⟨v2,v3,ys,e,hy,py,b⟩=>hR _ _ %[%[v2,v3|e],%[ys,hy|by rw[rl,K4]at py;exact py]|b])]];intro i x pp σ H2 hx hp hI9;refine cN λ G9 k9=>?_;obtain⟨v2,v3,ys,rfl,l2,py,b2⟩:=hI9;refine k9 ?_;obtain⟨k,hk',ka,rfl,hka⟩:=G4 h3 hx;have hin:i < rs.length:=(A5.mp hx).1;refine aU hp λ H3 k3 s3=>?_;have nka:ka≠l:=av hka hl;have ka3:H3 ka= ~~~[.int k.w,.int k.h,.int k.wo,.int k.wa,.bl k.tu]:=s3 _ _ (b2 _ _ nka (s1 _ _ hka));have yl:=E1 py;have yl2:=kD (ks.take i) 0;rw[J2]at yl2;have lt:lyK (ks.take (i+1)) 0=lyK (ks.take i) 0 ++ lyT i k:=by rw[K2,hk'];show lyK (ks.take i ++ [k]) 0=_;rw[lG,J2,Nat.zero_add,OB ⋯]
  refine%[pp,_,O,G1 k3,O,_,_,O,_,_,O,O|?_];have app:∀(Hx:Hp)(a:OE)(zs:OI V)(q:Nat×Bool)(L:OI (Nat×Bool)),Hx l=↥zs->Paired (LyC Hx) zs L->Hx a= ~~~[.int q.1,.bl q.2]->But l H1 Hx->Paired (LyC (upd Hx l (.lst (zs ++ [.ref a])))) (zs ++ [.ref a]) (L ++ [q])/\But l H1 (upd Hx l (.lst (zs ++ [.ref a]))):=λ Hx a zs q L hx pz ha bx=>by
   have kt:∀c xs,Hx c= ~~~xs->(upd Hx l (.lst (zs ++ [.ref a]))) c= ~~~xs:=λ c xs e=>by rw[au (λ z=>by rw[z,hx]at e;cases e)];exact e
   exact%[hV (G3 pz λ v q h=>h.keep kt) (.cons %[a,O|kt _ _ ha] .nil)|λ c o n e=>by rw[au n];exact bx _ _ n e]
  refine aw (λ R=>∀(H':Hp),(∃ys,H' l=↥ys/\ys.length<=2 * i+1/\Paired (LyC H') ys (lyK (ks.take i) 0 ++ [(i,false)]))->But l H1 H'->R [↑t,↑l,⇑i,↑ka] H') (λ Dd hR=>?_) ?_
  ·refine%[_,O,.inl %[O,_|G2 (s3 _ _ l2)],_,O,zS2|λ a ha=>?_];refine aU ha λ H4 k4 s4=>?_;have l4:=s4 _ _ (s3 _ _ l2);obtain⟨a1,a2⟩:=app H4 a ys (i,false) _ l4 (G3 py λ v q h=>h.keep λ c xs e=>s4 _ _ (s3 _ _ e)) k4 (λ c o n e=>s4 _ _ (s3 _ _ (b2 _ _ n e)));exact%[l,_,_,O,O,l4,⋯|hR _ %[_,aj,by rw[G5];show ys.length+1<=_;lia|a1] a2]
  rintro H4 ⟨zs,l4,zl,py4⟩ b4;have ka4:H4 ka= ~~~[.int k.w,.int k.h,.int k.wo,.int k.wa,.bl k.tu]:=b4 _ _ nka (s1 _ _ hka);have no:bo k=false->(∃(v2 v3:OG V)(ys:OI V),([↑t,↑l,⇑i,↑ka]:St)=[↑t,↑l,v2,v3]/\H4 l=↥ys/\Paired (LyC H4) ys (lyK (ks.take (i+1)) 0)/\But l H1 H4):=λ ht=>%[_,_,zs,O,l4,by rw[lt];unfold lyT;rw[ht];exact py4|b4]
  refine%[_,O,ka,_,4,_,O,O,G1 ka4,O,_,O|?_];cases htu:k.tu with
  | false=>exact aM (no (by unfold bo;rw[htu];rfl))
  | true=>
   refine aH %[_,rfl,ka,_,0,_,rfl,rfl,G1 ka4,rfl,_,rfl,ka,_,1,_,rfl,rfl,G1 ka4,rfl,rfl,_,rfl|?_]
   by_cases hwh:k.w=k.h
   ·rw[show(!decide (V.int k.w=V.int k.h))=false by rw[OO (by rw[hwh])];rfl];exact aM (no (by unfold bo;rw[OO hwh];simp))
   ·rw[show(!decide (V.int k.w=V.int k.h))=true by rw[OS (λ z=>hwh (V.int.inj z))];rfl];have ht:bo k=true:=by unfold bo;rw[htu,OS hwh];rfl
    refine aH %[_,rfl,.inl %[rfl,_|G2 l4],_,rfl,zS2|λ a ha=>?_];refine aU ha λ H5 k5 s5=>?_;have l5:=s5 _ _ l4;obtain⟨a1,a2⟩:=app H5 a zs (i,true) _ l5 (G3 py4 λ v q h=>h.keep λ c xs e=>s5 _ _ e) k5 (λ c o n e=>s5 _ _ (b4 _ _ n e));exact%[l,_,_,O,O,l5,⋯,_,_,_,O,aj,by rw[lt];unfold lyT;rw[OR ht];rw[N7]at a1;exact a1|a2]
 rintro _ H2 ⟨⟨v2,v3,rfl⟩,⟨ys,hy,py⟩,b2⟩;exact%[_,O|q l ys H2 hy hl py (λ c o e=>b2 _ _ (av e hl) (s1 _ _ e))]
end
def wyS(dn:Bool):Str:=if dn=true then "down" else "across"
theorem Ew{K:C4}{H:Hp}:∀{ys:OI V}{qs:OI (Nat×Bool)},Paired (LyC H) ys qs->∃ds,DatVs K H ys ds/\ds.length=ys.length/\PyData.canLayAll0 ds=true/\PyData.depthAll ds<=1
 | _,_,.nil=>%[[],.nil,O,O|E6 _]
 | _,_,.cons ⟨a,e,ha⟩ r=>by
  subst e;obtain⟨ds,d1,d2,d3,d4⟩:=Ew (K:=K) r;refine%[_ :: ds,.cons (.tup (G1 ha) (.cons (.int _) (.cons (.bl _) .nil))) d1,by rw[I9,I9,d2],?_|?_]
  ·simp[PyData.canLayAll0,PyData.canLay0,d3]
  ·simp only[PyData.depthAll,PyData.depth];lia
theorem LS.keep2{H H':Hp}{t kl p rm:OE}{b:Int}{ks:OI Kd}{xs ys:OI V}(x:LS H t b ks kl)(hp:H p=↥xs)(hr:H rm=↥ys)(n1:kl≠p)(n2:kl≠rm)(bt:But2 p rm H H'):LS H' t b ks kl:=by obtain⟨rs,h1,h2,h3⟩:=x;have k:∀a zs,H a= ~~~zs->H' a= ~~~zs:=λ a zs e=>bt _ _ (λ z=>by rw[z,hp]at e;cases e) (λ z=>by rw[z,hr]at e;cases e) e;exact%[rs,k _ _ h1,bt _ _ n1 n2 h2|Tups.keep k h3]
def FtL(ks:OI Kd)(W h:Int)(q:Nat×Bool):Prop:=q∈lyK ks 0/\∃k,ks[q.1]?=some k/\sd1 k q.2<=W/\sd2 k q.2<=h
theorem cK{c:Bool}{a b:Prop}(h:c=true)(x:a):if c=true then a else b:=by rw[OR h];exact x
theorem cL{c:Bool}{a b:Prop}(h:c=false)(x:b):if c=true then a else b:=by rw[OQ (by rw[h];exact B1)];exact x
section
variable{P:F6}{w:F8}{K:C4}{mg:Str->OG F9}{base:Heap}
inductive spBeh(vs:OI V)(H:Hp)(Q:VK)(E_:XK):Prop
|mk(t kl:OE)(b W h p:Int)(ks:OI Kd)(dn:Bool)(_:vs=[.ref t,.int W,.int h,.str (wyS dn),.int p])(_:LS H t b ks kl)(_:∀(r r1 r2:OE)(H':Hp),H' r= ~~~[.ref r1,.ref r2]->H' r1= ~~~[.int (if dn=true then p else W),.int (if dn=true then h else p)]->H' r2= ~~~[.int (if dn=true then W - p - b else W),.int (if dn=true then h else h - p - b)]->Same H H'->Q (.ref r) H')
inductive spLeafC(vs:OI V)(H:Hp)(Q:VK)(E_:XK):Prop
|mk(p t kl:OE)(b W h:Int)(ks:OI Kd)(_:vs=[.ref p,.ref t,.int W,.int h])(_:PotC H p)(_:LS H t b ks kl)(_:kl≠p)(_:ks.length<=8)(_:(∀k∈ks,Good k))(_:W < (9 * 10 ^ 59))(_:h < (9 * 10 ^ 59))(_:∀(v:V)(T:Tr)(H':Hp),TrV H' T v->(∀b,okU b ks W h T)->lvN T=1->dT T=0->PotC H' p->But p H H'->Q v H')
inductive spTreeC(n:Nat)(vs:OI V)(H:Hp)(Q:VK)(E_:XK):Prop
|mk(p t kl rm:OE)(b W h r:Int)(ks:OI Kd)(deep:Nat)(_:vs=[.ref p,.ref t,.int W,.int h,.int deep,.ref rm])(_:PotC H p)(_:LS H t b ks kl)(_:kl≠p)(_:kl≠rm)(_:rm≠p)(_:ks.length<=8)(_:(∀k∈ks,Good k))(_:0<=b)(_:W < (9 * 10 ^ 59))(_:h < (9 * 10 ^ 59))(_:H rm=↥[.int r])(_:0<=r)(_:deep < n)(_:∀(v:V)(T:Tr)(r':Int)(H':Hp),TrV H' T v->okU b ks W h T->0<=r'->(lvN T:Int)<=r - r'+1->dT T<=deep->H' rm=↥[.int r']->PotC H' p->But2 p rm H H'->Q v H')
theorem scbeh:FnScope ["_law_shop_here","_law_wide","_law_high","_law_way","_law_p"] ["_law_shop_here","_law_wide","_law_high","_law_way","_law_p"] (defScope iu):=%[O,O,O,∅,O,∅|∅]
theorem zI{f:OE}{fd:F7}(F:Fun K "_law_behind" "_law_behind" iu f fd)(B:Blt mg):FnOk P w K mg base CX0 1 f fd ["_law_shop_here","_law_wide","_law_high","_law_way","_law_p"] (spBeh):=by
 refine F.ok scbeh (λ vs H Q E h=>?_) (λ cdv A outer s H vs Q E hr h=>?_)
 ·obtain⟨t,kl,b,W,h1,p,ks,dn,rfl,_⟩:=h
  rfl
 obtain⟨t,kl,b,W,h1,p,ks,dn,rfl,sh,q⟩:=h;have nd:=scbeh.nd;refine%[_,((((pv 3)<*>bc<*>aJ)<|>((@ar _ _ _ _ _ ((@ar _ _ _ _ _ ((pv 4)^^^((pv 2)^^^ad)))^^^((@ar _ _ _ _ _ ((((pv 1)|||bH|||(pv 4))|||bH|||((pv 0)&&&ix_tup&&&ae))^^^((pv 2)^^^ad)))^^^ad)))⁻¹)<|>az)<<<((@ar _ _ _ _ _ ((@ar _ _ _ _ _ ((pv 1)^^^((pv 4)^^^ad)))^^^((@ar _ _ _ _ _ ((pv 1)^^^((((pv 2)|||bH|||(pv 4))|||bH|||((pv 0)&&&ix_tup&&&ae))^^^ad)))^^^ad)))⁻¹))|?_];dsimp only[bW];obtain⟨kr,ht,_⟩:=id sh;refine bf (λ R=>dn=false->R [↑t,⇑W,⇑h1,some (.str (wyS dn)),⇑p] H) (λ R hR=>?_) ?_
 ·refine%[_,O,O,_,O|?_];cases dn with
  | false=>exact cL ∅ (hR rfl)
  | true=>
   refine cK ∅ ?_;refine%[_,O,_,O,zS2|λ r1 hr1=>?_];refine aU hr1 λ H1 k1 s1=>?_;refine%[_,O,_,O,_,_,O,O,_,O,t,_,0,_,O,O,G1 (s1 _ _ ht),O,_,_,O,O,_,O,zS2|λ r2 hr2=>?_];refine aU hr2 λ H2 k2 s2=>?_;refine%[zS2|λ r hr=>?_];refine aU hr λ H3 k3 s3=>?_;exact q r r1 r2 H3 k3 (s3 _ _ (s2 _ _ k1)) (s3 _ _ k2) (s1.trans (s2.trans s3))
 rintro rfl;refine%[_,O,_,O,zS2|λ r1 hr1=>?_];refine aU hr1 λ H1 k1 s1=>?_;refine%[_,O,_,O,_,O,_,_,O,O,_,O,t,_,0,_,O,O,G1 (s1 _ _ ht),O,_,_,O,O,zS2|λ r2 hr2=>?_];refine aU hr2 λ H2 k2 s2=>?_;refine%[zS2|λ r hr=>?_];refine aU hr λ H3 k3 s3=>?_;exact q r r1 r2 H3 k3 (s3 _ _ (s2 _ _ k1)) (s3 _ _ k2) (s1.trans (s2.trans s3))
theorem scleafc:FnScope ["_law_pot_here","_law_shop_here","_law_wide","_law_high","_law_some","_law_kind","_law_turned","_law_own"] ["_law_pot_here","_law_shop_here","_law_wide","_law_high"] (defScope pN):=%[O,O,O,∅,O,∅|∅]
theorem uF{f:OE}{fd:F7}(F:Fun K "_law_leaf" "_law_leaf" pN f fd)(B:Blt mg)(DD:Dn P w K mg base "_law_take" ["_law_pot_here","_law_many"] 1 (spTake))(DSd:Dn P w K mg base "_law_sides" ["_law_shop_here","_law_kind","_law_turned"] 1 (spSidesC))(DLy:Dn P w K mg base "_law_lyings" ["_law_shop_here"] 1 (spLyingsC)):FnOk P w K mg base CX0 2 f fd ["_law_pot_here","_law_shop_here","_law_wide","_law_high"] (spLeafC):=by
 refine F.ok scleafc (λ vs H Q E h=>?_) (λ cdv A outer s H vs Q E hr h=>?_)
 ·obtain⟨p,t,kl,b,W,h1,ks,rfl,_⟩:=h
  rfl
 refine cN λ G9 k9=>?_;obtain⟨p,t,kl,b,W,h1,ks,rfl,pt,sh,nk,k8,gk,w58,h58,q⟩:=h;refine k9 ?_;have nd:=scleafc.nd;have hu:=hr.units;refine%[_,((4∣(@aQ _ _ _ _ ad))<<<((@df _ _ _ _ _ _ _ _ E2 O (jX (DLy∩((pv 1)^^^ad))) (bC O (5•(6•aV))) ((7∣(DSd∩((pv 1)^^^((pv 5)^^^((pv 6)^^^ad)))))>>>((PW.pt (sI (((pv 7)&&&ix_tup&&&ae)<*>gW<*>(pv 2)) (oO (((pv 7)&&&ix_tup&&&ae)<*>gW<*>(pv 3)))))<|>(@ag _ _ _ (@bX _ _ _ _ (@fI _ _ _ _ _ _ _ _ _ _ _ _ F4 PySem.F.slot_list_append PySem.F.type_list_append cX (pv 4) ((@ar _ _ _ _ _ ((pv 5)^^^((pv 6)^^^ad)))^^^ad) O O O O O) O))<|>az)) (by intro _;rfl))<<<(((PW.pt (bn ((pv 4)<*>(zf hu)<*>(@aQ _ _ _ _ ad)) (bG ((DD∩((pv 0)^^^(ae^^^ad)))<*>bc<*>ae))))<|>((@ar _ _ _ _ _ (aJ^^^ad))⁻¹)<|>az)<<<((@bL _ _ _ _ _ _ ((pv 4)&&&ix_list&&&(DD∩((pv 0)^^^((@aA _ _ _ _ _ _ _ _ _ aN O B.len PySem.boot_len ((pv 4)^^^ad) ∅ ∅ O O)^^^ad)))) (bC O (5•(6•aV))) O O O)<<<((7∣(DSd∩((pv 1)^^^((pv 5)^^^((pv 6)^^^ad)))))<<<((@ar _ _ _ _ _ (aJ^^^((pv 5)^^^((pv 6)^^^((DD∩((pv 0)^^^((((pv 2)|||bH|||((pv 7)&&&ix_tup&&&ae))|||aX|||ae)^^^ad)))^^^((DD∩((pv 0)^^^((((pv 3)|||bH|||((pv 7)&&&ix_tup&&&ae))|||aX|||ae)^^^ad)))^^^ad))))))⁻¹))))))|?_];dsimp only[bW];have sz:(1000:Nat) < sizeLine:=∅
 have e58:(10:Int) ^ 58+10 < 10 ^ 60:=∅
 have e60:(100:Int) < 10 ^ 60:=∅
 have ly8:=kD ks 0;refine aw (λ R=>∀(so:OE)(H':Hp),H so=none->H' so=↥[]->Same H H'->R [↑p,↑t,⇑W,⇑h1,↑so,none,none,none] H') (λ Dd hR=>?_) ?_
 ·refine%[∅|λ so hso=>?_];refine aU hso λ H1 k1 s1=>?_;exact hR so _ hso k1 s1
 rintro so H1 hso0 hso1 s1;have sh1:=sh.same s1;have pt1:=pt.same s1;have nsp:so≠p:=Ne.symm (pt.ne hso0);obtain⟨kr,lst1,lst2,lst3⟩:=id sh;have nks:kl≠so:=av lst2 hso0;have shk:∀{Hx:Hp},But so H1 Hx->LS Hx t b ks kl:=λ bx=>by have k:∀a zs,H a= ~~~zs->_:=λ a zs e=>bx _ _ (av e hso0) (s1 _ _ e);exact%[kr,k _ _ lst1,bx _ _ nks (s1 _ _ lst2)|Tups.keep k lst3]
 have tks:∀{Hx Hy:Hp}{us:OI V},Hx so=↥us->But so Hx Hy->∀a zs,Hx a= ~~~zs->Hy a= ~~~zs:=λ h bx a zs e=>bx _ _ (λ z=>by rw[z,h]at e;cases e) e;refine bO (λ σ' H'=>∃(v5 v6 v7:OG V)(us:OI V)(qs:OI (Nat×Bool)),σ'=[↑p,↑t,⇑W,⇑h1,↑so,v5,v6,v7]/\H' so=↥us/\Paired (LyC H') us qs/\(∀q∈qs,FtL ks W h1 q)/\us.length<=16/\But so H1 H') (λ R hR=>?_) ?_
 ·refine%[_,O,t,kl,b,ks,O,sh1,k8|λ l ys H2 hl hl0 pl s2=>?_];have yl:=E1 pl;have nls:l≠so:=λ z=>by rw[z,hso1]at hl0;cases hl0
  refine%[l,O,%[_|G2 hl]|iA (xs:=ys) (λ i σ' H'=>(∃(v5 v6 v7:OG V)(us:OI V)(qs:OI (Nat×Bool)),σ'=[↑p,↑t,⇑W,⇑h1,↑so,v5,v6,v7]/\H' so=↥us/\Paired (LyC H') us qs/\(∀q∈qs,FtL ks W h1 q)/\us.length<=i/\But so H1 H')/\But so H2 H') %[%[_,_,_,[],[],O,s2 _ _ hso1,.nil,(λ q hq=>by simp at hq),B2 _|Lu s2]|But.refl'] (λ i σ H' _ h=>G2 (h.2 _ _ nls hl)) ?_ (λ σ H' h=>hR _ _ (by obtain⟨v5,v6,v7,us,qs,h1,h2,h3,h4,h5,h6⟩:=h.1;exact%[v5,v6,v7,us,qs,h1,h2,h3,h4,⋯|h6]))];rintro i x _ H3 hi ⟨⟨v5,v6,v7,us,qs,rfl,hu3,pu3,ft3,ul3,b13⟩,b23⟩;obtain⟨q0,hq0,aq,rfl,haq⟩:=G4 pl hi;have hin:i < ys.length:=(A5.mp hi).1;have hly:=B5 hq0;obtain⟨_,kk,hkk,_⟩:=kS hly;have hkk:ks[q0.1]?=some kk:=by simpa using hkk
  have haq3:=tks (s2 _ _ hso1) b23 _ _ haq;refine%[aq,_,O,G1 haq3,O,_,_,O,_,_,O,O|?_];refine aw (λ R=>∀(ow:OE)(H':Hp),H' ow= ~~~[.int (sd1 kk q0.2),.int (sd2 kk q0.2)]->Same H3 H'->R [↑p,↑t,⇑W,⇑h1,↑so,⇑q0.1,some (.bl q0.2),↑ow] H') (λ Dd hR=>?_) ?_
  ·exact%[_,O,_,O,_,O,t,kl,b,ks,q0.1,q0.2,kk,O,shk b13,hkk|λ r H4 hr s4=>hR r _ hr s4]
  rintro ow H4 how s34;have hu4:=s34 _ _ hu3;have pu4:Paired (LyC H4) us qs:=G3 pu3 λ v q h=>h.keep λ a xs e=>s34 _ _ e;have b14:But so H1 H4:=λ c o n e=>s34 _ _ (b13 _ _ n e);have b24:But so H2 H4:=λ c o n e=>s34 _ _ (b23 _ _ n e);have skip:(∃(v5 v6 v7:OG V)(us':OI V)(qs':OI (Nat×Bool)),[↑p,↑t,⇑W,⇑h1,↑so,⇑q0.1,some (.bl q0.2),↑ow]=[↑p,↑t,⇑W,⇑h1,↑so,v5,v6,v7]/\H4 so=↥us'/\Paired (LyC H4) us' qs'/\(∀q∈qs',FtL ks W h1 q)/\us'.length<=i+1/\But so H1 H4)/\But so H2 H4:=%[%[_,_,_,us,qs,O,hu4,pu4,ft3,⋯|b14]|b24]
  refine%[_,O,ow,_,0,_,O,O,G1 how,O,_,O,_,_,O,O,_,O|?_];refine cj (λ c1=>?_) (λ c1=>skip);refine%[_,O,ow,_,1,_,O,O,G1 how,O,_,O,_,_,O,O,_,O|?_];refine cj (λ c2=>?_) (λ c2=>skip);refine%[_,O,.inl %[O,_|G2 hu4],_,O,_,O,zS2|λ tp htp=>?_];refine aU htp λ H5 k5 s5=>?_;have hu5:=s5 _ _ hu4;have bu:But so H5 (upd H5 so (.lst (us ++ [.ref tp]))):=λ c o n e=>by rw[au n];exact e
  refine%[so,_,_,O,O,hu5,⋯,%[_,_,_,us ++ [.ref tp],qs ++ [q0],O,aj,?_,λ q hq=>?_,by rw[G5];show us.length+1<=_;lia|λ c o n e=>bu _ _ n (s5 _ _ (b14 _ _ n e))]|λ c o n e=>bu _ _ n (s5 _ _ (b24 _ _ n e))]
  ·exact hV (G3 pu4 λ v q h=>h.keep λ a xs e=>tks hu5 bu _ _ (s5 _ _ e)) (.cons %[tp,O|tks hu5 bu _ _ k5] .nil)
  ·rcases C2.mp hq with hq | hq
   ·exact ft3 q hq
   ·rw[C9.mp hq];exact%[hly,kk,hkk,C0 c1|C0 c2]
 intro _ H2 hI9;refine cN λ G9 k9=>?_;obtain⟨v5,v6,v7,us,qs,rfl,hu2,pu2,ft,ul,b12⟩:=hI9;refine k9 ?_;have pt2:PotC H2 p:=by obtain⟨a,b,h1,h2,h3,e⟩:=pt1;exact%[a,b,h1,h2,h3|b12 _ _ (Ne.symm nsp) e]
 have b02:But p H H2:=λ c o n e=>b12 _ _ (av e hso0) (s1 _ _ e);have sh2:=shk b12;have rest:∀Hx,But p H Hx->PotC Hx p->∀r,Hx r=none->Q (.ref r) (upd Hx r (.tup [.str "rest"])):=λ Hx bx px r hr=>by refine bj hr px bx λ H9 k9 n9 s9 b9 pt9=>?_;exact q _ .rest H9 %[r,rfl|k9] (λ _=>trivial) rfl rfl pt9 b9
 refine bf (λ R=>∀(H':Hp),us≠[]->H' so=↥us->Paired (LyC H') us qs->LS H' t b ks kl->PotC H' p->But p H H'->R [↑p,↑t,⇑W,⇑h1,↑so,v5,v6,v7] H') (λ R hR=>?_) ?_
 ·refine%[_,O,∅|λ e he=>?_];refine bj he pt2 b02 λ H3 k3 n3 s3 b3 pt3=>?_;obtain⟨ds,d1,d2,d3,d4⟩:=Ew (K:=K) (G3 pu2 λ v q h=>h.keep λ a xs e=>s3 _ _ e);obtain⟨sh1,sh2',sh3⟩:=zH d3 d4;refine%[.list ds,.list [],.lst (G2 (s3 _ _ hu2)) d1,.lst (G2 k3) .nil,sh1,∅,_,O|?_]
  by_cases hz0:us=[]
  ·rw[sh2' (by rw[hz0]at d2;exact List.eq_nil_of_length_eq_zero d2)];exact aH (aH %[zS1|λ r hr=>rest _ b3 pt3 r hr])
  rw[sh3 (λ z=>hz0 (by rw[z]at d2;exact List.eq_nil_of_length_eq_zero d2.symm))];refine aM %[_,rfl,p,5,rfl,pt3,∅,∅|λ z H4 z0 z1 pt4 b4=>%[rfl,_,rfl|?_]];refine cj (λ cc=>%[zS1|λ r hr=>rest _ (b3.trans b4) pt4 r hr]) (λ cc=>?_);exact hR _ hz0 (b4 _ _ nsp (s3 _ _ hu2)) (G3 pu2 (λ v q h=>h.keep λ a xs e=>bS b4 pt3 (s3 _ _ e))) ((sh2.same s3).but nk pt3 b4) pt4 (b3.trans b4)
 rintro H3 une hu3 pu3 sh3 pt3 b03;have u1:1<=us.length:=Nat.pos_of_ne_zero λ z=>une (List.eq_nil_of_length_eq_zero z);refine aw (λ R=>∀(i:Nat)(c:Bool)(k:Kd)(H':Hp),(i,c)∈lyK ks 0->ks[i]?=some k->sd1 k c<=W->sd2 k c<=h1->LS H' t b ks kl->PotC H' p->But p H H'->R [↑p,↑t,⇑W,⇑h1,↑so,⇑i,some (.bl c),v7] H') (λ Dd hR=>?_) ?_
 ·refine%[_,O,_,O,_,O,so,_,O,.inl (G2 hu3),p,_,O,pt3,⋯,⋯|λ r H4 r0 r1 pt4 b4=>?_];obtain⟨v,hv⟩:∃v,us[r.toNat]?=some v:=%[_|E9 (show r.toNat < us.length by lia)]
  obtain⟨q0,hq0,aq,rfl,haq⟩:=G4 pu3 hv;obtain⟨f1,k,hk,f2,f3⟩:=ft q0 (B5 hq0);exact%[so,_,_,_,O,O,G2 (b4 _ _ nsp hu3),aE r0 hv,aq,_,O,G1 (bS b4 pt3 haq),O,_,_,O,_,_,O,O|hR q0.1 q0.2 k _ f1 hk f2 f3 (sh3.but nk pt3 b4) pt4 (b03.trans b4)]
 rintro i c k H4 hly hk f2 f3 sh4 pt4 b04;refine aw (λ R=>∀(ow:OE)(H':Hp),H' ow= ~~~[.int (sd1 k c),.int (sd2 k c)]->PotC H' p->But p H H'->R [↑p,↑t,⇑W,⇑h1,↑so,⇑i,some (.bl c),↑ow] H') (λ Dd hR=>?_) ?_
 ·exact%[_,O,_,O,_,O,t,kl,b,ks,i,c,k,O,sh4,hk|λ r H5 hr s5=>hR r _ hr (pt4.same s5) (λ c o n e=>s5 _ _ (b04 _ _ n e))]
 rintro ow H5 how pt5 b05;have g:=gk k (B5 hk);have sp:1<=sd1 k c/\1<=sd2 k c:=by have:=g.w;have:=g.h;cases c <;> exact%[by assumption|by assumption]
 refine%[_,O,_,O,_,O,_,O,_,O,ow,_,0,_,O,O,G1 how,O,_,_,O,O,_,_,O,O,p,W - sd1 k c+1,O,pt5,⋯,⋯|λ x H6 x0 x1 pt6 b6=>?_];have how6:=bS b6 pt5 how;refine%[_,O,_,O,_,O,ow,_,1,_,O,O,G1 how6,O,_,_,O,O,_,_,O,O,p,h1 - sd2 k c+1,O,pt6,⋯,⋯|λ y H7 y0 y1 pt7 b7=>?_];refine%[zS5|λ r hr=>?_];refine bj hr pt7 ((b05.trans b6).trans b7) λ H8 k8 n8 s8 b8 pt8=>?_;exact q _ (.piece i c x y) H8 %[r,rfl|k8] (λ _=>%[k,hk,hly,x0,y0,⋯|⋯]) rfl rfl pt8 b8
theorem sctreec:FnScope ["_law_pot_here","_law_shop_here","_law_wide","_law_high","_law_deep","_law_room","_law_way","_law_side_here","_law_p","_law_one","_law_other","_law_first"] ["_law_pot_here","_law_shop_here","_law_wide","_law_high","_law_deep","_law_room"] (defScope jL):=%[O,O,O,∅,O,∅|∅]
theorem uG{f:OE}{fd:F7}(F:Fun K "_law_tree" "_law_tree" jL f fd)(B:Blt mg)(n:Nat)(DD:Dn P w K mg base "_law_take" ["_law_pot_here","_law_many"] 1 (spTake))(DBh:Dn P w K mg base "_law_behind" ["_law_shop_here","_law_wide","_law_high","_law_way","_law_p"] 1 (spBeh))(DLf:Dn P w K mg base "_law_leaf" ["_law_pot_here","_law_shop_here","_law_wide","_law_high"] 2 (spLeafC))(DT:Dn P w K mg base "_law_tree" ["_law_pot_here","_law_shop_here","_law_wide","_law_high","_law_deep","_law_room"] (3+n) (spTreeC n)):FnOk P w K mg base CX0 (3+(n+1)) f fd ["_law_pot_here","_law_shop_here","_law_wide","_law_high","_law_deep","_law_room"] (spTreeC (n+1)):=by
 refine F.ok sctreec (λ vs H Q E h=>?_) (λ cdv A outer s H vs Q E hr h=>?_)
 ·obtain⟨p,t,kl,rm,b,W,h1,r,ks,deep,rfl,_⟩:=h
  rfl
 obtain⟨p,t,kl,rm,b,W,h1,r,ks,deep,rfl,pt,sh,nk,nkr,nrp,k8,gk,b0,w58,h58,hrm,r0,dn0,q⟩:=h;have nd:=sctreec.nd;refine%[_,((6∣((@aQ _ _ _ _ (aJ^^^(aJ^^^ad)))&&&ix_list&&&(@ah _ _ _ _ _ _ _ _ _ _ DD (hr.mono (show 1<=3+n by lia)) O ((pv 0)^^^(ae^^^ad)) ∅ O O)))<<<((7∣((((@aQ _ _ _ _ ((pv 2)^^^((pv 3)^^^ad)))&&&ix_list&&&(@bg _ _ _ _ _ _ _ _ _ cu O B.int OX ((@bh _ _ _ _ _ _ _ _ bc (pv 6) aJ (aB _))^^^ad) ∅ ∅ O O))|||bH|||((pv 1)&&&ix_tup&&&ae))|||bH|||ae))<<<(((PW.pt (bn ((pv 4)<*>bc<*>ae) (bn (((pv 5)&&&ix_list&&&ae)<*>bc<*>ae) (bn ((pv 7)<*>jt<*>ae) (bG ((@ah _ _ _ _ _ _ _ _ _ _ DD (hr.mono (show 1<=3+n by lia)) O ((pv 0)^^^(ae^^^ad)) ∅ O O)<*>bc<*>ae))))))<|>((@ah _ _ _ _ _ _ _ _ _ _ DLf (hr.mono (show 2<=3+n by lia)) O ((pv 0)^^^((pv 1)^^^((pv 2)^^^((pv 3)^^^ad)))) ∅ O O)⁻¹)<|>az)<<<((@bL _ _ _ _ _ _ (((pv 5)&&&ix_list&&&ae)|||bH|||ae) (mm (pv 5) ae iF) O O O)<<<((8∣(ae|||aX|||((@aQ _ _ _ _ ((@ah _ _ _ _ _ _ _ _ _ _ DD (hr.mono (show 1<=3+n by lia)) O ((pv 0)^^^((pv 7)^^^ad)) ∅ O O)^^^(((pv 7)|||iI|||ae)^^^((@ah _ _ _ _ _ _ _ _ _ _ DD (hr.mono (show 1<=3+n by lia)) O ((pv 0)^^^((@aA _ _ _ _ _ _ _ _ _ (gD O) O B.min PyProof.Rows.boot_min ((pv 7)^^^(ae^^^ad)) ∅ ∅ O O)^^^ad)) ∅ O O)^^^ad))))&&&ix_list&&&(@ah _ _ _ _ _ _ _ _ _ _ DD (hr.mono (show 1<=3+n by lia)) O ((pv 0)^^^(ae^^^ad)) ∅ O O))))<<<((8∣(@aA _ _ _ _ _ _ _ _ _ (gD O) O B.min PyProof.Rows.boot_min ((pv 8)^^^((pv 7)^^^ad)) ∅ ∅ O O))<<<((@bL _ _ _ _ _ _ (@ah _ _ _ _ _ _ _ _ _ _ DBh (hr.mono (show 1<=3+n by lia)) O ((pv 1)^^^((pv 2)^^^((pv 3)^^^((pv 6)^^^((pv 8)^^^ad))))) ∅ O O) (bC O (9•(10•aV))) O O O)<<<((11∣(DT∪((pv 0)^^^((pv 1)^^^(((pv 9)&&&ix_tup&&&ae)^^^(((pv 9)&&&ix_tup&&&ae)^^^(((pv 4)|||bH|||ae)^^^((pv 5)^^^ad))))))))<<<((@ar _ _ _ _ _ ((pv 6)^^^((pv 8)^^^((pv 11)^^^((DT∪((pv 0)^^^((pv 1)^^^(((pv 10)&&&ix_tup&&&ae)^^^(((pv 10)&&&ix_tup&&&ae)^^^(((pv 4)|||bH|||ae)^^^((pv 5)^^^ad)))))))^^^ad)))))⁻¹)))))))))|?_];dsimp only[bW];have e58:(10:Int) ^ 58+10 < 10 ^ 60:=∅
 have e60:(100:Int) < 10 ^ 60:=∅
 have sz:(1000:Nat) < sizeLine:=∅
 obtain⟨_,hp0⟩:=bR pt;refine aw (λ R=>∀(dn:Bool)(H':Hp),PotC H' p->But p H H'->R [↑p,↑t,⇑W,⇑h1,⇑deep,↑rm,some (.str (wyS dn)),none,none,none,none,none] H') (λ Dd hR=>?_) ?_
 ·refine%[zS2|λ l hl=>?_];refine bj hl pt But.refl' λ H1 k1 n1 s1 b1 pt1=>?_;refine%[_,O,p,2,O,pt1,∅,∅|λ z H2 z0 z1 pt2 b2=>?_];have:z=0\/z=1:=⋯
  rcases this with rfl | rfl
  ·exact%[l,_,_,_,O,O,G2 (b2 _ _ n1 k1),O|hR true _ pt2 (b1.trans b2)]
  ·exact%[l,_,_,_,O,O,G2 (b2 _ _ n1 k1),O|hR false _ pt2 (b1.trans b2)]
 rintro dn H1 pt1 b1;have sh1:=sh.but nk pt b1;have hrm1:=b1 _ _ nrp hrm;refine aw (λ R=>∀(sd:Int)(H':Hp),sd=(if dn=true then W else h1) - b - 1->Same H1 H'->R [↑p,↑t,⇑W,⇑h1,⇑deep,↑rm,some (.str (wyS dn)),⇑sd,none,none,none,none] H') (λ Dd hR=>?_) ?_
 ·refine%[_,O,_,O,zS2|λ rl hrl=>?_];refine aU hrl λ H2 k2 s2=>?_;obtain⟨kr,ht,_⟩:=id (sh1.same s2);refine%[_,O,O|.inr %[_,O,rl,_,_,.int (if dn=true then W else h1),O,O,G2 k2,?_,_,O,t,_,0,_,O,O,G1 ht,O,_,_,O,O,_,_,O,O|hR _ _ rfl s2]];cases dn with
  | true=>
   rw[show decide (V.str (wyS true)=V.str "across")=false by decide +kernel]
   rfl
  | false=>
   rw[show decide (V.str (wyS false)=V.str "across")=true by decide +kernel]
   rfl
 rintro sd H2 esd s12;have pt2:=pt1.same s12;have sh2:=sh1.same s12;have hrm2:=s12 _ _ hrm1;have b2:But p H H2:=λ c o n e=>s12 _ _ (b1 _ _ n e);have leaf:∀Hx,But p H Hx->PotC Hx p->spLeafC [.ref p,.ref t,.int W,.int h1] Hx Q E0:=λ Hx bx px=>
  %[p,t,kl,b,W,h1,ks,rfl,px,sh.but nk pt bx,nk,k8,gk,w58,h58|λ v T H' tv ok ln d0 pt' b'=>q v T r H' tv (ok b) r0 ⋯ ⋯ (b' _ _ nrp (bx _ _ nrp hrm)) pt' (But2.but (bx.trans b'))]
 refine bf (λ R=>∀(H':Hp),1<=r->1<=deep->1<=sd->PotC H' p->But p H H'->R [↑p,↑t,⇑W,⇑h1,⇑deep,↑rm,some (.str (wyS dn)),⇑sd,none,none,none,none] H') (λ R hR=>?_) ?_
 ·refine%[_,O,O,_,O|?_]
  by_cases c1:deep=0
  ·rw[show decide (V.int (deep:Int)=V.int 0)=true from OO (by rw[c1];rfl)];exact aH (aH %[_,rfl,_,rfl,_,rfl,_,rfl|leaf _ b2 pt2])
  rw[show decide (V.int (deep:Int)=V.int 0)=false from OS (λ z=>c1 (by have:=V.int.inj z;lia))];refine aM %[_,rfl,rm,_,0,_,rfl,rfl,G2 hrm2,rfl,rfl,_,rfl|?_]
  by_cases c2:r=0
  ·rw[show decide (V.int r=V.int 0)=true from OO (by rw[c2])];exact aH (aH %[_,rfl,_,rfl,_,rfl,_,rfl|leaf _ b2 pt2])
  rw[show decide (V.int r=V.int 0)=false from OS (λ z=>c2 (V.int.inj z))];refine aM %[_,rfl,_,_,rfl,rfl,_,rfl|?_]
  by_cases c3:sd < 1
  ·rw[OO c3];exact aH (aH %[_,rfl,_,rfl,_,rfl,_,rfl|leaf _ b2 pt2])
  rw[OS c3];refine aM %[_,rfl,p,4,rfl,pt2,∅,∅|λ z H3 z0 z1 pt3 b3=>%[rfl,_,rfl|?_]];refine cj (λ cc=>%[_,O,_,O,_,O,_,O|leaf _ (b2.trans b3) pt3]) (λ cc=>hR _ ⋯ ⋯ ⋯ pt3 (b2.trans b3))
 clear leaf sh2 pt2 b2 hrm2 s12 sh1 hrm1 b1 pt1;clear H2 H1;rintro H3 r1 deep1 sd1' pt3 b3;have hrm3:=b3 _ _ nrp hrm;obtain⟨d',hd'⟩:∃d',deep=d'+1:=%[deep - 1|⋯]
 have ed:((deep:Int) - 1)=(d':Int):=⋯
 refine aw (λ R=>∀(H':Hp),H' rm=↥[.int (r - 1)]->PotC H' p->But2 p rm H H'->R [↑p,↑t,⇑W,⇑h1,⇑deep,↑rm,some (.str (wyS dn)),⇑sd,none,none,none,none] H') (λ Dd hR=>?_) ?_
 ·exact%[_,O,rm,_,0,_,O,O,G2 hrm3,O,_,_,O,O,_,O,rm,_,0,0,O,O,hrm3,O|hR _ aj (pt3.put (Ne.symm nrp)) (λ c o n1 n2 e=>by rw[au n2];exact b3 _ _ n1 e)]
 rintro H4 hrm4 pt4 b4;have sdm:sd < (9 * 10 ^ 59):=by rw[esd];cases dn <;> simp only[O1,J5,Oq] <;> lia
 refine aw (λ R=>∀(pl:Int)(H':Hp),1<=pl->PotC H' p->But p H4 H'->R [↑p,↑t,⇑W,⇑h1,⇑deep,↑rm,some (.str (wyS dn)),⇑sd,⇑pl,none,none,none] H') (λ Dd hR=>?_) ?_
 ·refine%[_,O,_,O,p,sd,O,pt4,⋯,⋯|λ z1 H5 z10 z11 pt5 b5=>%[_,O,_,_,O,O,%[∅|∅],_,O,_,O,_,_,O,p,_,O,pt5,?_,?_|λ z2 H6 z20 z21 pt6 b6=>%[zS3|λ l hl=>?_]]]
  ·show 0 < (if (9:Int) < sd then 9 else sd)
   split <;> lia
  ·show(if (9:Int) < sd then 9 else sd)<=_
   split <;> lia
  refine bj hl pt6 (b5.trans b6) λ H7 k7 n7 s7 b7 pt7=>?_;refine%[_,O,p,3,O,pt7,∅,∅|λ z H8 z0 z1' pt8 b8=>?_];have d0:0<=sd / 2:=Int.ediv_nonneg ⋯ ∅;obtain⟨xx,hxx,xx0⟩:∃xx:Int,atI [V.int z1,V.int (sd / 2),V.int z2] z=⇑xx/\0<=xx:=by
   have:z=0\/z=1\/z=2:=⋯
   rcases this with rfl | rfl | rfl
   ·exact%[_,O|z10]
   ·exact%[_,O|d0]
   ·exact%[_,O|z20]
  exact%[l,_,_,_,O,O,G2 (b8 _ _ n7 k7),hxx,_,_,O,O|hR (1+xx) _ ⋯ pt8 (b7.trans b8)]
 rintro pl0 H5 pl01 pt5 b45;refine aw (λ R=>∀(pl:Int),1<=pl->pl<=sd->R [↑p,↑t,⇑W,⇑h1,⇑deep,↑rm,some (.str (wyS dn)),⇑sd,⇑pl,none,none,none] H5) (λ Dd hR=>?_) ?_
 ·refine%[_,O,_,O,_,_,O|hR _ ?_ ?_]
  ·split <;> lia
  ·split <;> lia
 rintro pl pl1 pls;have b05:But2 p rm H H5:=b4.trans (But2.but b45);have hrm5:=b45 _ _ nrp hrm4;have sh5:LS H5 t b ks kl:=sh.keep2 hp0 hrm nk nkr b05;refine aw (λ R=>∀(o1 o2:OE)(H':Hp),H' o1= ~~~[.int (if dn=true then pl else W),.int (if dn=true then h1 else pl)]->H' o2= ~~~[.int (if dn=true then W - pl - b else W),.int (if dn=true then h1 else h1 - pl - b)]->Same H5 H'->R [↑p,↑t,⇑W,⇑h1,⇑deep,↑rm,some (.str (wyS dn)),⇑sd,⇑pl,↑o1,↑o2,none] H') (λ Dd hR=>?_) ?_
 ·exact%[_,O,_,O,_,O,_,O,_,O,t,kl,b,W,h1,pl,ks,dn,O,sh5|λ rr r1 r2 H6 e1 e2 e3 s6=>%[rr,_,O,G1 e1,O,_,_,O,_,_,O,O|hR r1 r2 _ e2 e3 s6]]
 rintro o1 o2 H6 ho1 ho2 s56;have pt6:=pt5.same s56;have hrm6:=s56 _ _ hrm5;have sh6:=sh5.same s56;obtain⟨_,hp6⟩:=bR pt6;have a1:(if dn=true then pl else W) < (9 * 10 ^ 59):=by split <;> lia
 have a2:(if dn=true then h1 else pl) < (9 * 10 ^ 59):=by cases dn <;> simp only[O1,J5,Oq]at * <;> lia
 have a3:(if dn=true then W - pl - b else W) < (9 * 10 ^ 59):=by split <;> lia
 have a4:(if dn=true then h1 else h1 - pl - b) < (9 * 10 ^ 59):=by split <;> lia
 refine aw (λ R=>∀(v1:V)(T1:Tr)(r1:Int)(H':Hp),TrV H' T1 v1->okU b ks (if dn=true then pl else W) (if dn=true then h1 else pl) T1->0<=r1->(lvN T1:Int)<=r - 1 - r1+1->dT T1<=d'->H' rm=↥[.int r1]->PotC H' p->But2 p rm H6 H'->R [↑p,↑t,⇑W,⇑h1,⇑deep,↑rm,some (.str (wyS dn)),⇑sd,⇑pl,↑o1,↑o2,some v1] H') (λ Dd hR=>?_) ?_
 ·exact%[_,O,_,O,_,O,o1,_,0,_,O,O,G1 ho1,O,_,O,o1,_,1,_,O,O,G1 ho1,O,_,O,_,_,O,O,_,O,p,t,kl,rm,b,_,_,r - 1,ks,d',(by rw[<- ed];rfl),pt6,sh6,nk,nkr,nrp,k8,gk,b0,a1,a2,hrm6,⋯,⋯|λ v T r' H7 tv ok r0' ln dp hrm7 pt7 b7=>hR v T r' _ tv ok r0' ln dp hrm7 pt7 b7]
 rintro v1 T1 q1 H7 tv1 ok1 q10 ln1 dp1 hrm7 pt7 b67;have sh7:=sh6.keep2 hp6 hrm6 nk nkr b67;have kt:∀{Ha Hb:Hp}{xs ys:OI V},Ha p=↥xs->Ha rm=↥ys->But2 p rm Ha Hb->∀a zs,Ha a= ~~~zs->Hb a= ~~~zs:=λ e1 e2 bb a zs e=>bb _ _ (λ z=>by rw[z,e1]at e;cases e) (λ z=>by rw[z,e2]at e;cases e) e;have ho2':=kt hp6 hrm6 b67 _ _ ho2;refine%[_,O,_,O,_,O,_,O,_,O,_,O,o2,_,0,_,O,O,G1 ho2',O,_,O,o2,_,1,_,O,O,G1 ho2',O,_,O,_,_,O,O,_,O,p,t,kl,rm,b,_,_,q1,ks,d',(by rw[<- ed];rfl),pt7,sh7,nk,nkr,nrp,k8,gk,b0,a3,a4,hrm7,q10,⋯|λ v2 T2 q2 H8 tv2 ok2 q20 ln2 dp2 hrm8 pt8 b78=>?_];obtain⟨_,hp7⟩:=bR pt7;refine%[zS4|λ tt htt=>?_];refine aU htt λ H9 k9 s9=>?_;refine q _ (.cut dn pl T1 T2) q2 H9 %[tt,v1,v2,rfl,k9,TrV.keep (λ a xs e=>s9 _ _ (kt hp7 hrm7 b78 _ _ e)) T1 tv1|TrV.keep (λ a xs e=>s9 _ _ e) T2 tv2] %[pl1|?_] q20 (by show((lvN T1+lvN T2:Nat):Int)<=_;lia) (by show max (dT T1) (dT T2)+1<=_;lia) (s9 _ _ hrm8) (pt8.same s9) (λ c o n1 n2 e=>s9 _ _ (b78 _ _ n1 n2 (b67 _ _ n1 n2 (s56 _ _ (b05 _ _ n1 n2 e)))));cases dn with
 | true=>
  have esd:sd=W - b - 1:=esd;exact%[⋯,ok1|ok2]
 | false=>
  have esd:sd=h1 - b - 1:=esd;exact%[⋯,ok1|ok2]
theorem re{f:OE}{fd:F7}(F:Fun K "_law_tree" "_law_tree" jL f fd):FnOk P w K mg base CX0 3 f fd ["_law_pot_here","_law_shop_here","_law_wide","_law_high","_law_deep","_law_room"] (spTreeC 0):=by
 refine F.ok sctreec (λ vs H Q E h=>?_) (λ cdv A outer s H vs Q E hr h=>?_)
 ·obtain⟨p,t,kl,rm,b,W,h1,r,ks,deep,rfl,_⟩:=h
  rfl
 ·obtain⟨p,t,kl,rm,b,W,h1,r,ks,deep,_,_,_,_,_,_,_,_,_,_,_,_,_,z,_⟩:=h;exact absurd z (E7 _)
theorem jQ{f:OE}{fd:F7}(F:Fun K "_law_tree" "_law_tree" jL f fd)(B:Blt mg)(DD:Dn P w K mg base "_law_take" ["_law_pot_here","_law_many"] 1 (spTake))(DBh:Dn P w K mg base "_law_behind" ["_law_shop_here","_law_wide","_law_high","_law_way","_law_p"] 1 (spBeh))(DLf:Dn P w K mg base "_law_leaf" ["_law_pot_here","_law_shop_here","_law_wide","_law_high"] 2 (spLeafC))(mk:∀n,FnOk P w K mg base CX0 (3+n) f fd ["_law_pot_here","_law_shop_here","_law_wide","_law_high","_law_deep","_law_room"] (spTreeC n)->Dn P w K mg base "_law_tree" ["_law_pot_here","_law_shop_here","_law_wide","_law_high","_law_deep","_law_room"] (3+n) (spTreeC n)):∀n,FnOk P w K mg base CX0 (3+n) f fd ["_law_pot_here","_law_shop_here","_law_wide","_law_high","_law_deep","_law_room"] (spTreeC n)
 | 0=>re F
 | n+1=>uG F B n DD DBh DLf (mk n (jQ F B DD DBh DLf mk n))
end
def ofL:OI (Int×Tl)->Tls
 | []=>.nil
 | z :: r=>.cons z.1 z.2 (ofL r)
def srt(l:OI (Int×Tl)):OI (Int×Tl):=l.mergeSort λ a b=>Bool.not (bq (cn b) (cn a))
theorem di(l:OI (Int×Tl)):(srt l).Perm l:=List.mergeSort_perm _ _
theorem zJ(l:OI (Int×Tl)):(srt l).Pairwise λ x y=>bq (cn y) (cn x)=false:=by
 refine(List.pairwise_mergeSort (λ a b c h1 h2=>?_) (λ a b=>?_) l).imp (λ h=>by simpa using h)
 ·simp only[Bool.not_eq_true']at h1 h2 ⊢;cases e:bq (cn c) (cn a)with
  | false=>rfl
  | true=>
   rcases kF _ (cn b) _ e with z | z
   ·rw[z]at h2;cases h2
   ·rw[z]at h1;cases h1
 ·cases e:bq (cn b) (cn a)with
  | false=>rfl
  | true=>
   cases e2:bq (cn a) (cn b)with
   | false=>rfl
   | true=>
    have:=gJ _ _ _ e e2;rw[dh]at this;cases this
theorem kT{l l':OI (Int×Tl)}(h:l'.Perm l)(h1:l'.Pairwise λ x y=>bq (cn y) (cn x)=false):l'=srt l :=
 (h.trans (di l).symm).eq_of_pairwise (λ a c _ _ x y=>tZ (gK _ _ y x)) h1 (zJ l)
def tel(b:Int):Tr->Int->Int->Tl×OI (Int×Tl)×OI (Int×Tl)
 | .rest,w,h=>(.rest,[(w,.rest)],[(h,.rest)])
 | .piece i c x y,w,h=>(.piece i c x y,[(w,.piece i c x y)],[(h,.piece i c x y)])
 | .cut true p l r,w,h=>(.row true (ofL (srt ((tel b l p h).2.1 ++ (tel b r (w - p - b) h).2.1))),(tel b l p h).2.1 ++ (tel b r (w - p - b) h).2.1,[(h,.row true (ofL (srt ((tel b l p h).2.1 ++ (tel b r (w - p - b) h).2.1))))])
 | .cut false p l r,w,h=>(.row false (ofL (srt ((tel b l w p).2.2 ++ (tel b r w (h - p - b)).2.2))),[(w,.row false (ofL (srt ((tel b l w p).2.2 ++ (tel b r w (h - p - b)).2.2))))],(tel b l w p).2.2 ++ (tel b r w (h - p - b)).2.2)
def gm(b:Int)(t:Tr)(w h:Int):Tl:=(tel b t w h).1
def fH(b:Int)(dn:Bool)(t:Tr)(w h:Int):OI (Int×Tl):=if dn=true then(tel b t w h).2.1 else(tel b t w h).2.2
def isW(dn:Bool):Tr->Bool
 | .cut d _ _ _=>d == dn
 | _=>false
theorem uH(b:Int)(dn:Bool)(p:Int)(l r:Tr)(w h:Int):fH b dn (.cut dn p l r) w h=fH b dn l (if dn=true then p else w) (if dn=true then h else p) ++ fH b dn r (if dn=true then w - p - b else w) (if dn=true then h else h - p - b):=by cases dn <;> rfl
theorem uI{b:Int}{dn:Bool}{t:Tr}(e:isW dn t=false)(w h:Int):fH b dn t w h=[(if dn=true then w else h,gm b t w h)]:=by
 cases t with
 | rest=>cases dn <;> rfl
 | piece=>cases dn <;> rfl
 | cut d=>cases d <;> cases dn <;> first | rfl | cases e
theorem uJ(b:Int)(dn:Bool)(p:Int)(l r:Tr)(w h:Int):gm b (.cut dn p l r) w h=.row dn (ofL (srt (fH b dn (.cut dn p l r) w h))):=by cases dn <;> rfl
theorem cC(b:Int):∀(t:Tr)(w h:Int),(tel b t w h).2.1.length<=lvN t/\(tel b t w h).2.2.length<=lvN t/\1<=lvN t
 | .rest,_,_=>%[B2 _,B2 _|B2 _]
 | .piece ..,_,_=>%[B2 _,B2 _|B2 _]
 | .cut true p l r,w,h=>by have h1:=cC b l p h;have h2:=cC b r (w - p - b) h;show List.length (_ ++ _)<=lvN l+lvN r/\1<=lvN l+lvN r/\1<=lvN l+lvN r;rw[G5];lia
 | .cut false p l r,w,h=>by have h1:=cC b l w p;have h2:=cC b r w (h - p - b);show 1<=lvN l+lvN r/\List.length (_ ++ _)<=lvN l+lvN r/\1<=lvN l+lvN r;rw[G5];lia
theorem gn(b:Int)(dn:Bool)(t:Tr)(w h:Int):(fH b dn t w h).length<=lvN t:=by
 have:=cC b t w h;cases dn
 ·exact this.2.1
 ·exact this.1
theorem jR{m:Nat}:∀{l:OI (Int×Tl)},(∀z∈l,(tlD z.2).depth<=m)->PyData.depthAll (aF (ofL l))<=m+1
 | [],_=>E6 _
 | z :: l,h=>by have h1:=h z B7;have h2:=jR (l:=l) λ y hy=>h y (B3 _ hy);show max (max 0 (max (tlD z.2).depth 0)+1) (PyData.depthAll (aF (ofL l)))<=m+1;rw[M6,N1];exact Nat.max_le.mpr %[K9 h1|h2]
theorem jS{m:Nat}{dn:Bool}{l:OI (Int×Tl)}(h:∀z∈l,(tlD z.2).depth<=m):(tlD (.row dn (ofL (srt l)))).depth<=m+3:=by have:=jR (l:=srt l) λ z hz=>h z ((di l).mem_iff.mp hz);show max 0 (max (PyData.depthAll (aF (ofL (srt l)))+1) 0)+1<=m+3;rw[M6,N1];exact K9 (K9 this)
theorem cZ(b:Int):∀(t:Tr)(w h:Int),(tlD (tel b t w h).1).depth<=3 * dT t+1/\(∀z∈(tel b t w h).2.1,(tlD z.2).depth<=3 * dT t+1)/\(∀z∈(tel b t w h).2.2,(tlD z.2).depth<=3 * dT t+1)
 | .rest,_,_=>%[B2 _,λ z hz=>by rw[C9.mp hz];exact B2 _|λ z hz=>by rw[C9.mp hz];exact B2 _]
 | .piece ..,_,_=>%[B2 _,λ z hz=>by rw[C9.mp hz];exact B2 _|λ z hz=>by rw[C9.mp hz];exact B2 _]
 | .cut true p l r,w,h=>by
  have h1:=(cZ b l p h).2.1;have h2:=(cZ b r (w - p - b) h).2.1;have all:∀z∈(tel b l p h).2.1 ++ (tel b r (w - p - b) h).2.1,(tlD z.2).depth<=3 * max (dT l) (dT r)+1:=λ z hz=>by
   rcases C2.mp hz with hz | hz
   ·have:=h1 z hz;lia
   ·have:=h2 z hz;lia
  have k:=jS (dn:=true) all;refine%[by show(tlD (.row true _)).depth<=3 * (max (dT l) (dT r)+1)+1;lia,λ z hz=>?_|λ z hz=>?_]
  ·have:=all z hz;show _<=3 * (max (dT l) (dT r)+1)+1;lia
  ·rw[C9.mp hz];show(tlD (.row true _)).depth<=3 * (max (dT l) (dT r)+1)+1;lia
 | .cut false p l r,w,h=>by
  have h1:=(cZ b l w p).2.2;have h2:=(cZ b r w (h - p - b)).2.2;have all:∀z∈(tel b l w p).2.2 ++ (tel b r w (h - p - b)).2.2,(tlD z.2).depth<=3 * max (dT l) (dT r)+1:=λ z hz=>by
   rcases C2.mp hz with hz | hz
   ·have:=h1 z hz;lia
   ·have:=h2 z hz;lia
  have k:=jS (dn:=false) all;refine%[by show(tlD (.row false _)).depth<=3 * (max (dT l) (dT r)+1)+1;lia,λ z hz=>?_|λ z hz=>?_]
  ·rw[C9.mp hz];show(tlD (.row false _)).depth<=3 * (max (dT l) (dT r)+1)+1;lia
  ·have:=all z hz;show _<=3 * (max (dT l) (dT r)+1)+1;lia
theorem iV{b:Int}{dn:Bool}{t:Tr}{w h:Int}{z:Int×Tl}(hz:z∈fH b dn t w h):(tlD z.2).depth<=3 * dT t+1:=by
 have:=cZ b t w h;cases dn
 ·exact this.2.2 z hz
 ·exact this.2.1 z hz
mutual
def TlV(H:Hp):Tl->V->Prop
 | .rest,v=>∃a,v=.ref a/\H a=some (.tup [.str "rest"])
 | .piece i c x y,v=>∃a,v=.ref a/\H a=some (.tup [.str "piece",.int i,.bl c,.int x,.int y])
 | .row dn r,v=>∃a q xs,v=.ref a/\H a= ~~~[.str (wyL dn),.ref q]/\H q= ~~~xs/\TlsV H r xs
def TlsV(H:Hp):Tls->OI V->Prop
 | .nil,xs=>xs=[]
 | .cons n t r,xs=>∃a u ys,xs=.ref a :: ys/\H a= ~~~[.int n,u]/\TlV H t u/\TlsV H r ys
end
mutual
theorem TlV.keep{H H':Hp}(k:∀a xs,H a= ~~~xs->H' a= ~~~xs):∀(t:Tl){v:V},TlV H t v->TlV H' t v
 | .rest,_,h=>by rw[TlV]at h ⊢;obtain⟨a,e,h⟩:=h;exact%[a,e|k _ _ h]
 | .piece ..,_,h=>by rw[TlV]at h ⊢;obtain⟨a,e,h⟩:=h;exact%[a,e|k _ _ h]
 | .row dn r,_,h=>by rw[TlV]at h ⊢;obtain⟨a,q,xs,e,h1,h2,h3⟩:=h;exact%[a,q,xs,e,k _ _ h1,k _ _ h2|TlsV.keep k r h3]
theorem TlsV.keep{H H':Hp}(k:∀a xs,H a= ~~~xs->H' a= ~~~xs):∀(t:Tls){v:OI V},TlsV H t v->TlsV H' t v
 | .nil,_,h=>by rw[TlsV]at h ⊢;exact h
 | .cons n t r,_,h=>by rw[TlsV]at h ⊢;obtain⟨a,u,ys,e,h1,h2,h3⟩:=h;exact%[a,u,ys,e,k _ _ h1,TlV.keep k t h2|TlsV.keep k r h3]
end
mutual
theorem TlV.dat{K:C4}{H:Hp}:∀(t:Tl){v:V},TlV H t v->DatV K H v (tlD t)
 | .rest,_,h=>by rw[TlV]at h;obtain⟨a,e,h⟩:=h;subst e;exact .tup (G1 h) (.cons (.str _) .nil)
 | .piece ..,_,h=>by rw[TlV]at h;obtain⟨a,e,h⟩:=h;subst e;exact .tup (G1 h) (.cons (.str _) (.cons (.int _) (.cons (.bl _) (.cons (.int _) (.cons (.int _) .nil)))))
 | .row dn r,_,h=>by rw[TlV]at h;obtain⟨a,q,xs,e,h1,h2,h3⟩:=h;subst e;exact .tup (G1 h1) (.cons (.str _) (.cons (.tup (G1 h2) (TlsV.dat r h3)) .nil))
theorem TlsV.dat{K:C4}{H:Hp}:∀(t:Tls){v:OI V},TlsV H t v->DatVs K H v (aF t)
 | .nil,_,h=>by rw[TlsV]at h;subst h;exact .nil
 | .cons n t r,_,h=>by rw[TlsV]at h;obtain⟨a,u,ys,e,h1,h2,h3⟩:=h;subst e;exact .cons (.tup (G1 h1) (.cons (.int _) (.cons (TlV.dat t h2) .nil))) (TlsV.dat r h3)
end
def ItV(H:Hp)(v:V)(z:Int×Tl):Prop:=∃a u,v=.ref a/\H a= ~~~[.int z.1,u]/\TlV H z.2 u
theorem ItV.keep{H H':Hp}(k:∀a xs,H a= ~~~xs->H' a= ~~~xs){v:V}{z:Int×Tl}(h:ItV H v z):ItV H' v z:=by obtain⟨a,u,e,h1,h2⟩:=h;exact%[a,u,e,k _ _ h1|TlV.keep k _ h2]
theorem ItV.dat{K:C4}{H:Hp}{a:OE}{z:Int×Tl}(h:ItV H (.ref a) z):DatV K H (.ref a) (.tuple [.int z.1,tlD z.2]):=by obtain⟨c,u,e,h1,h2⟩:=h;cases e;exact .tup (G1 h1) (.cons (.int _) (.cons (TlV.dat _ h2) .nil))
theorem iw{H:Hp}:∀{vs:OI V}{zs:OI (Int×Tl)},Paired (ItV H) vs zs->TlsV H (ofL zs) vs
 | _,_,.nil=>by rw[ofL,TlsV]
 | _,_,.cons ⟨a,u,e,h1,h2⟩ r=>by rw[ofL,TlsV];exact%[a,u,_,by rw[e],h1,h2|iw r]
theorem iW{H:Hp}:∀{vs:OI V}{zs:OI (Int×Tl)},Paired (ItV H) vs zs->∃ps:OI (OE×(Int×Tl)),vs=ps.map (λ z=>V.ref z.1)/\zs=ps.map (·.2)/\∀z∈ps,ItV H (.ref z.1) z.2
 | _,_,.nil=>%[[],O,O|λ z hz=>by cases hz]
 | _,_,.cons (b:=z) ⟨a,u,e,h1,h2⟩ r=>by
  obtain⟨ps,e1,e2,h⟩:=iW r;refine%[(a,z) :: ps,by rw[e,e1];rfl,by rw[e2];rfl|λ y hy=>?_];rcases G6.mp hy with hy | hy
  ·rw[hy];exact%[a,u,O,h1|h2]
  ·exact h y hy
theorem iX{H:Hp}:∀{ps:OI (OE×(Int×Tl))},(∀z∈ps,ItV H (.ref z.1) z.2)->Paired (ItV H) (ps.map λ z=>V.ref z.1) (ps.map (·.2))
 | [],_=>.nil
 | z :: ps,h=>.cons (h z B7) (iX λ y hy=>h y (B3 _ hy))
theorem fC:∀t:Tr,szT t+1=2 * lvN t
 | .rest=>rfl
 | .piece ..=>rfl
 | .cut _ _ l r=>by have h1:=fC l;have h2:=fC r;show szT l+szT r+1+1=2 * (lvN l+lvN r);lia
theorem iY:∀t:Tr,dT t+1<=lvN t
 | .rest=>B2 _
 | .piece ..=>B2 _
 | .cut _ _ l r=>by have h1:=iY l;have h2:=iY r;show max (dT l) (dT r)+1+1<=lvN l+lvN r;lia
theorem Room.units220{k:Nat}{A:Around}(r:Room k A)(h:2<=k):A.units+220 < cLine:=by have:=r.un;lia
structure Wa where
 w:Int
 h:Int
 t:Tr
def WaAt(p:OE)(H0 H:Hp)(v:V)(z:Wa):Prop:=∃a c u d,v=.ref a/\H a= ~~~[.ref c,u]/\H c= ~~~[.int z.w,.int z.h]/\Dt p H0 u d/\TrD z.t d
theorem WaAt.keep{p:OE}{H0 H H':Hp}(k:∀a xs,H a= ~~~xs->H' a= ~~~xs){v:V}{z:Wa}(h:WaAt p H0 H v z):WaAt p H0 H' v z:=by obtain⟨a,c,u,d,e,h1,h2,h3,h4⟩:=h;exact%[a,c,u,d,e,k _ _ h1,k _ _ h2,h3|h4]
def wsz(ts:OI Wa):Nat:=(ts.map λ t=>szT t.t).sum
theorem cF(a b:OI Wa):wsz (a ++ b)=wsz a+wsz b:=by unfold wsz;rw[N3,List.sum_append]
theorem kU:∀ts:OI Wa,ts.length<=wsz ts
 | []=>B2 _
 | t :: r=>by have:=kU r;have:=uB t.t;show r.length+1<=szT t.t+wsz r;lia
def wrw(b:Int)(dn:Bool)(ts:OI Wa):OI (Int×Tl):=ts.flatMap λ z=>fH b dn z.t z.w z.h
theorem fD(b:Int)(dn:Bool)(s t:OI Wa):wrw b dn (s ++ t)=wrw b dn s ++ wrw b dn t:=List.flatMap_append
theorem dE(b:Int)(dn:Bool)(z:Wa):wrw b dn [z]=fH b dn z.t z.w z.h:=by show fH b dn z.t z.w z.h ++ []=_;rw[J7]
theorem yD(dn:Bool):inV (V.str (wyL dn)) [V.str "down",V.str "across"]=true:=by cases dn <;> decide +kernel
theorem Ex(d dn:Bool):decide (V.str (wyL d)=V.str (wyL dn))=(d == dn):=by cases d <;> cases dn <;> decide +kernel
def hdW:Tr->Str
 | .rest=>"rest"
 | .piece ..=>"piece"
 | .cut dn _ _ _=>wyL dn
theorem kW(t:Tr)(dn:Bool):decide (V.str (hdW t)=V.str (wyL dn))=isW dn t:=by
 cases t with
 | rest=>cases dn <;> decide +kernel
 | piece=>
  show decide (V.str "piece" = V.str (wyL dn))=false;cases dn <;> decide +kernel
 | cut d=>exact Ex d dn
theorem TrD.head{t:Tr}{d:PyData}(h:TrD t d):∃ys,aI d=some (.str (hdW t) :: ys):=by
 cases t with
 | rest=>exact%[_|h]
 | piece=>exact%[_|h]
 | cut dn p l r=>
  obtain⟨dl,dr,e,_⟩:=h;exact%[_|e]
theorem Dt.head{p:OE}{H:Hp}{v:V}{d:PyData}{y:Str}{ys:OI PyData}(h:Dt p H v d)(er:aI d=some (.str y :: ys)):∃a xs,v=.ref a/\(H a=↥(.str y :: xs)\/H a= ~~~(.str y :: xs))/\Dts p H xs ys:=by
 obtain⟨a,xs,e,hx,dxs⟩:=h.ref_row er;cases dxs with
 | cons hd0 dxs=>
  cases hd0;exact%[a,_,e,hx|dxs]
theorem nv(dn:Bool)(p:Int)(l r:Tr):dT l < dT (.cut dn p l r)/\dT r < dT (.cut dn p l r)/\szT (.cut dn p l r)=szT l+szT r+1/\lvN (.cut dn p l r)=lvN l+lvN r:=by
 refine%[?_,?_,O|O]
 ·show dT l < max (dT l) (dT r)+1;lia
 ·show dT r < max (dT l) (dT r)+1;lia
section
variable{P:F6}{w:F8}{K:C4}{mg:Str->OG F9}{base:Heap}
inductive spCheckT(C:OE)(vs:OI V)(H:Hp)(Q:VK)(E_:XK):Prop
|mk(pp s:OE)(b w h:Int)(ks:OI Kd)(v:V)(d:PyData)(_:vs=[.ref s,.int w,.int h,v])(_:ShopAt C H s b ks)(_:1<=w)(_:1<=h)(_:Dt pp H v d)(_:wt d<=30000)(_:isT b ks w h d=true)(_:∀H',Same H H'->Q .non H')
inductive spSideA(vs:OI V)(H:Hp)(Q:VK)(E_:XK):Prop
|mk(c:OE)(w h:Int)(dn:Bool)(_:vs=[.ref c,.str (wyL dn)])(_:H c= ~~~[.int w,.int h])(_:Q (.int (if dn=true then w else h)) H)
inductive spTell(n:Nat)(vs:OI V)(H:Hp)(Q:VK)(E_:XK):Prop
|mk(pp c:OE)(b w h:Int)(v:V)(d:PyData)(t:Tr)(_:vs=[.int b,.ref c,v])(_:H c= ~~~[.int w,.int h])(_:Dt pp H v d)(_:TrD t d)(_:lvN t<=63)(_:dT t < n)(_:∀(u:V)(H':Hp),TlV H' (gm b t w h) u->Same H H'->Q u H')
inductive spTellO(C:OE)(vs:OI V)(H:Hp)(Q:VK)(E_:XK):Prop
|mk(pp s:OE)(b w h:Int)(ks:OI Kd)(v:V)(d:PyData)(t:Tr)(_:vs=[.ref s,.int w,.int h,v])(_:ShopAt C H s b ks)(_:1<=w)(_:1<=h)(_:Dt pp H v d)(_:wt d<=30000)(_:TrD t d)(_:okT b ks w h t)(_:lvN t<=63)(_:dT t < 50)(_:∀(u:V)(H':Hp),TlV H' (gm b t w h) u->Same H H'->Q u H')
theorem sccheckt:FnScope ["shop","wide","high","thing"] ["shop","wide","high","thing"] (defScope cw):=%[O,O,O,∅,O,∅|∅]
theorem rf{f C:OE}{fd:F7}(F:Fun K "check_tree" "check_tree" cw f fd)(DI:Dn P w K mg base "is_tree" ["shop","wide","high","thing"] 6 (spIsTree C)):FnOk P w K mg base CX0 7 f fd ["shop","wide","high","thing"] (spCheckT C):=by
 refine F.ok sccheckt (λ vs H Q E h=>?_) (λ cdv A outer s H vs Q E hr h=>?_)
 ·obtain⟨pp,s,b,w1,h1,ks,v,d,rfl,_⟩:=h
  rfl
 refine cN λ G9 k9=>?_;obtain⟨pp,s,b,w1,h1,ks,v,d,rfl,SH,w0,h0,hd,dz,ht,q⟩:=h;refine k9 ?_;have nd:=sccheckt.nd;refine%[_,(@ag _ _ _ ((@aS _ _ _ _ (@aO _ _ _ (DI∪((pv 0)^^^((pv 1)^^^((pv 2)^^^((pv 3)^^^ad))))) (by intro _;rfl)))<|>(@ag _ _ _ cH)<|>az))|?_];refine%[_,O,_,O,_,O,_,O,pp,s,b,w1,h1,ks,v,d,O,SH,w0,h0,hd,dz|λ H1 s1=>%[_,O|?_]];rw[ht];exact aM (q _ s1)
theorem scsidea:FnScope ["part","way"] ["part","way"] (defScope dY):=%[O,O,O,∅,O,∅|∅]
theorem uK{f wa:OE}{fd:F7}(F:Fun K "side_along" "side_along" dY f fd)(Z:TrC K mg wa):FnOk P w K mg base CX0 1 f fd ["part","way"] (spSideA):=by
 refine F.ok scsidea (λ vs H Q E h=>?_) (λ cdv A outer s H vs Q E hr h=>?_)
 ·obtain⟨c,w1,h1,dn,rfl,_⟩:=h
  rfl
 obtain⟨c,w1,h1,dn,rfl,hc,q⟩:=h;have nd:=scsidea.nd;obtain⟨tdn,hdn⟩:=Z.dn;refine%[_,((fZ ((pv 1)<*>bc<*>(aP (v:=.str "down") O hdn %[tdn|O])) ((pv 0)&&&ix_tup&&&ae) ((pv 0)&&&ix_tup&&&ae))⁻¹)|?_];dsimp only[bW];refine%[_,O,O,_,O|?_];cases dn with
 | true=>exact cK ∅ %[_,rfl,c,_,0,_,rfl,rfl,G1 hc,rfl|q]
 | false=>exact cL ∅ %[_,rfl,c,_,1,_,rfl,rfl,G1 hc,rfl|q]
theorem sctell:FnScope ["blade","part","tree","way","row","waiting","inner_part","inner_tree","first","second"] ["blade","part","tree"] (defScope bM):=%[O,O,O,∅,O,∅|∅]
theorem wZ{f wa:OE}{fd:F7}(F:Fun K "telling_of_part" "telling_of_part" bM f fd)(B:Blt mg)(Z:TrC K mg wa)(n:Nat)(n60:n<=60)(DC:Dn P w K mg base "cut_parts" ["blade","part","way","p"] 1 (spParts2))(DSA:Dn P w K mg base "side_along" ["part","way"] 1 (spSideA))(DT:Dn P w K mg base "telling_of_part" ["blade","part","tree"] (3+n) (spTell n)):FnOk P w K mg base CX0 (3+(n+1)) f fd ["blade","part","tree"] (spTell (n+1)):=by
 refine F.ok sctell (λ vs H Q E h=>?_) (λ cdv A outer s H vs Q E hr h=>?_)
 ·obtain⟨pp,c,b,w1,h1,v,d,t,rfl,_⟩:=h
  rfl
 refine cN λ G9 k9=>?_;obtain⟨pp,c,b,w1,h1,v,d,t,rfl,hc,hd,td,l63,dn0,q⟩:=h;refine k9 ?_;have nd:=sctell.nd;have hu:=Room.units220 hr (show 2<=3+n by lia);refine%[_,((3∣((pv 2)&&&bQ&&&ae))<<<(((@ay _ _ _ _ _ _ _ _ dS (pv 3) (aP (v:=.ref wa) O Z.wy O) O)<|>((@bg _ _ _ _ _ _ _ _ _ bB O B.tuple OT ((pv 2)^^^ad) ∅ ∅ O O)⁻¹)<|>az)<<<((4∣(@aQ _ _ _ _ ad))<<<((5∣(@aQ _ _ _ _ ((@ar _ _ _ _ _ ((pv 1)^^^((pv 2)^^^ad)))^^^ad)))<<<((iy E2 (lr (pv 5) (λ _=>O)) ((@bL _ _ _ _ _ _ (mD F4 PySem.F.slot_list_pop PySem.F.type_list_pop mF (pv 5)) (bC O (6•(7•aV))) O O O)>>>((((pv 7)&&&bQ&&&ae)<*>bc<*>(pv 3))<|>((@bL _ _ _ _ _ _ (@ah _ _ _ _ _ _ _ _ _ _ DC (hr.mono (show 1<=3+n by lia)) O ((pv 0)^^^((pv 6)^^^((pv 3)^^^(((pv 7)&&&bQ&&&ae)^^^ad)))) ∅ O O) (bC O (8•(9•aV))) O O O)>>>(@bX _ _ _ _ (@fI _ _ _ _ _ _ _ _ _ _ _ _ F4 PySem.F.slot_list_extend PySem.F.type_list_extend jA (pv 5) ((@aQ _ _ _ _ ((@ar _ _ _ _ _ ((pv 8)^^^(((pv 7)&&&bQ&&&ae)^^^ad)))^^^((@ar _ _ _ _ _ ((pv 9)^^^(((pv 7)&&&bQ&&&ae)^^^ad)))^^^ad)))^^^ad) O O O O O) O))<|>(@ag _ _ _ (@bX _ _ _ _ (@fI _ _ _ _ _ _ _ _ _ _ _ _ F4 PySem.F.slot_list_append PySem.F.type_list_append cX (pv 4) ((@ar _ _ _ _ _ ((@ah _ _ _ _ _ _ _ _ _ _ DSA (hr.mono (show 1<=3+n by lia)) O ((pv 6)^^^((pv 3)^^^ad)) ∅ O O)^^^((@ah _ _ _ _ _ _ _ _ _ _ DT (hr.mono (show 3+n<=3+n by lia)) O ((pv 0)^^^((pv 6)^^^((pv 7)^^^ad))) ∅ O O)^^^ad)))^^^ad) O O O O O) O)))))<<<((@ar _ _ _ _ _ ((pv 3)^^^((@bg _ _ _ _ _ _ _ _ _ bB O B.tuple PyProof.Rows.boot_tuple ((@aA _ _ _ _ _ _ _ _ _ (dW hu) O B.sorted PyProof.Rows.boot_sorted ((pv 4)^^^ad) ∅ ∅ O O)^^^ad) ∅ ∅ O O)^^^ad)))⁻¹))))))|?_];dsimp only[bW];have sz:(40000:Nat)<=sizeLine:=∅
 obtain⟨ys,er⟩:=TrD.head td;obtain⟨a,xs,rfl,hx,dxs⟩:=hd.head er;refine%[_,O|ixR (Same.refl _) hx (aE (E3 _) rfl) ?_];cases t with
 | rest=>
  have td:aI d=some [.str "rest"]:=td;rw[td]at er;cases er;cases dxs;refine%[_,O,wa,_,O,.inr (Z.wq _),O,O,_,O|?_];refine cK (show(!inV (V.str "rest") [V.str "down",V.str "across"])=true by rw[show inV (V.str "rest") [V.str "down",V.str "across"]=false by decide +kernel];rfl) ?_;rcases hx with hx | hx
  ·refine%[_,O,a,_,O|.inl %[G2 hx|λ l hl=>q _ _ ?_ (G0 hl)]];show TlV _ (.rest) _;rw[TlV];exact%[l,O|aj]
  ·refine%[_,O,a,_,O|.inr %[G1 hx|q _ _ ?_ (Same.refl _)]];show TlV _ (.rest) _;rw[TlV];exact%[a,O|hx]
 | piece i cc x y=>
  have td:aI d=some [.str "piece",.int i,.bool cc,.int x,.int y]:=td;rw[td]at er;cases er;cases dxs with
  | cons g1 dxs=>
  cases dxs with
  | cons g2 dxs=>
  cases dxs with
  | cons g3 dxs=>
  cases dxs with
  | cons g4 dxs=>
  cases dxs;cases g1;cases g2;cases g3;cases g4;refine%[_,O,wa,_,O,.inr (Z.wq _),O,O,_,O|?_];refine cK (show(!inV (V.str "piece") [V.str "down",V.str "across"])=true by rw[show inV (V.str "piece") [V.str "down",V.str "across"]=false by decide +kernel];rfl) ?_;rcases hx with hx | hx
  ·refine%[_,O,a,_,O|.inl %[G2 hx|λ l hl=>q _ _ ?_ (G0 hl)]];show TlV _ (.piece i cc x y) _;rw[TlV];exact%[l,O|aj]
  ·refine%[_,O,a,_,O|.inr %[G1 hx|q _ _ ?_ (Same.refl _)]];show TlV _ (.piece i cc x y) _;rw[TlV];exact%[a,O|hx]
 | cut dn pl tl tr=>
  obtain⟨t,et⟩:∃t,t=Tr.cut dn pl tl tr:=%[_|O]
  rw[<- et]at td l63 dn0 q er;have szt:=fC t;have dl:=iY t;refine%[_,O,wa,_,O,.inr (Z.wq _),O,O,_,O|?_];refine cL (show(!inV (V.str (wyL dn)) [V.str "down",V.str "across"])=false by rw[yD];rfl) %[∅|λ rl hrl=>?_];refine aU hrl λ H0 k0 s0=>?_;refine%[_,O,_,O,zS2|λ t' ht=>?_];refine aU ht λ Ha ka sa=>?_;refine%[zS1|λ wl hwl=>?_];refine aU hwl λ Hb kb sb=>?_;have fw:H wl=none:=(s0.trans sa).free hwl;have nrw:rl≠wl:=λ z=>by rw[<- z,sa _ _ k0]at hwl;cases hwl
  have sab:=(s0.trans sa).trans sb;obtain⟨v,ev⟩:∃v,v=V.ref a:=%[_|O]
  rw[<- ev]at hd ka ⊢;clear ev hx dxs;refine%[λ m σ H'=>∃(vs us:OI V)(ts:OI Wa)(L:OI (Int×Tl))(v6 v7 v8 v9:OG V),σ=[⇑b,↑c,some v,some (.str (wyL dn)),↑rl,↑wl,v6,v7,v8,v9]/\m=wsz ts/\H' wl=↥vs/\H' rl=↥us/\Paired (WaAt pp H H') vs ts/\Paired (ItV H') us L/\(L ++ wrw b dn ts).Perm (fH b dn t w1 h1)/\(∀z∈ts,(z.t=t\/dT z.t < dT t)/\lvN z.t<=63)/\wsz ts<=10000/\Same H H',%[_,[.ref t'],[],[%[w1,h1|t]],[],none,none,none,none,O,O,kb,sb _ _ (sa _ _ k0),.cons %[t',c,v,d,O,sb _ _ ka,sab _ _ hc,hd|td] .nil,.nil,?_,?_,(by show szT t+0<=10000;lia)|sab]|?_]
  ·rw[dE];exact .refl _
  ·intro z hz;rw[C9.mp hz];exact%[.inl rfl|l63]
  intro m σ H1 hI9;refine cN λ G9 k9=>?_;obtain⟨vs,us,ts,L,v6,v7,v8,v9,rfl,rfl,hw,hl,pr,pu,pm,dz,sz1,s1⟩:=hI9;refine k9 ?_;refine%[_,O,_,.inl %[vs,G2 hw|O]|?_];rcases N4 vs with rfl | ⟨vs',v0,rfl⟩
  ·have ets:ts=[]:=by
    have:=E1 pr;cases ts with
    | nil=>rfl
    | cons _ _=>simp at this
   subst ets;rw[show wrw b dn []=[]from rfl,J7]at pm;obtain⟨ps,rfl,rfl,ips⟩:=iW pu;have ll:=gn b dn t w1 h1;have pl':=pm.length_eq;rw[J1]at pl';refine aM %[_,rfl,_,rfl,rl,ps,rfl,G2 hl,⋯,λ z hz=>%[(ips z hz).dat|?_]|λ l ps' hl' pm' pw=>?_]
   ·have:=iV (pm.mem_iff.mp (M4.mpr %[z,hz|O]));lia
   refine aU hl' λ H2 k2 s2=>?_;refine%[l,_,O|.inl %[G2 k2|λ tq htq=>?_]];refine aU htq λ H3 k3 s3=>?_;refine%[zS2|λ fr hfr=>?_];refine aU hfr λ H4 k4 s4=>?_;have s14:=s2.trans (s3.trans s4);refine q _ H4 ?_ (s1.trans s14);rw[et,uJ,<- et,TlV];refine%[fr,tq,_,O,k4,s4 _ _ k3|?_];have ee:ps'.map (·.2)=srt (fH b dn t w1 h1):=kT ((pm'.map _).trans pm) pw;rw[<- ee];exact iw (iX λ z hz=>(ips z (pm'.mem_iff.mp hz)).keep λ a xs e=>s14 _ _ e)
  rw[N5]at pr hw ⊢;obtain⟨ts',t0,rfl,prp,⟨sp,c0,u,du,rfl,hsp,hc0,hdu,tdu⟩⟩:=lU pr;have ssz:wsz (ts' ++ [t0])=wsz ts'+szT t0.t:=by rw[cF];show _+(szT t0.t+0)=_;lia
  rw[ssz]at sz1;refine cK (show(!(vs' ++ [V.ref sp]).isEmpty)=true by cases vs' <;> rfl) ⟨λ σ' H'=>∃(vs us:OI V)(ts:OI Wa)(L:OI (Int×Tl))(v6 v7 v8 v9:OG V),σ'=[⇑b,↑c,some v,some (.str (wyL dn)),↑rl,↑wl,v6,v7,v8,v9]/\wsz ts < wsz (ts' ++ [t0])/\H' wl=↥vs/\H' rl=↥us/\Paired (WaAt pp H H') vs ts/\Paired (ItV H') us L/\(L ++ wrw b dn ts).Perm (fH b dn t w1 h1)/\(∀z∈ts,(z.t=t\/dT z.t < dT t)/\lvN z.t<=63)/\wsz ts<=10000/\Same H H',(by rintro σ' H' ⟨vs,us,ts,L,v6,v7,v8,v9,e,l,r⟩;exact%[_,l,vs,us,ts,L,v6,v7,v8,v9,e,rfl|r]),?_⟩;rw[fD,dE]at pm;have ml:(vs' ++ [V.ref sp]).length=vs'.length+1:=by rw[G5];rfl
  have keep:∀{Hx:Hp}{o:HO},Same H Hx->Same H (upd Hx wl o):=λ {Hx o} sx c oo e=>by rw[au (λ z=>by rw[z,fw]at e;cases e)];exact sx _ _ e
  have keepL:∀{Hx:Hp}{o:HO},Same H Hx->Same H (upd Hx rl o):=λ {Hx o} sx c oo e=>by rw[au (λ z=>by rw[z,hrl]at e;cases e)];exact sx _ _ e
  refine aw (λ R=>∀(H':Hp),H' wl=↥vs'->H' rl=↥us->Paired (WaAt pp H H') vs' ts'->Paired (ItV H') us L->H' c0= ~~~[.int t0.w,.int t0.h]->Same H H'->R [⇑b,↑c,some v,some (.str (wyL dn)),↑rl,↑wl,↑c0,some u,v8,v9] H') (λ Dd hR=>?_) ?_
  ·refine%[_,O,.inl %[O,_|G2 hw],wl,_,.ref sp,O,O,hw,(by rw[ml];simp)|?_];rw[List.dropLast_concat];have kt:∀{c:OE}{xs:OI V},H1 c= ~~~xs->(upd H1 wl (.lst vs')) c= ~~~xs:=λ {c xs} e=>by rw[au (λ z=>by rw[z,hw]at e;cases e)];exact e
   refine%[sp,_,O,G1 (kt hsp),O,_,_,O,_,_,O,O|?_];exact hR _ aj (by rw[au nrw];exact hl) (G3 prp λ v t h=>h.keep λ a xs e=>kt e) (G3 pu λ v t h=>h.keep λ a xs e=>kt e) (kt hc0) (keep s1)
  clear hw hl pr prp pu hsp hc0;rintro H2 hw2 hl2 pr2 pu2 hc2 s02;obtain⟨ys0,er0⟩:=TrD.head tdu;obtain⟨a0,xs0,rfl,hx0,dx0⟩:=hdu.head er0;have sl:=kU ts';have pl2:=E1 pr2;refine%[_,O|ixR s02 hx0 (aE (E3 _) rfl) %[_,O,O,_,O|?_]];have dz0:=dz t0 (C2.mpr (.inr (C9.mpr rfl)));have dz':∀z∈ts',(z.t=t\/dT z.t < dT t)/\lvN z.t<=63:=λ z hz=>dz z (C2.mpr (.inl hz));cases hw0:isW dn t0.t with
  | false=>
   have nt:t0.t≠t:=λ z=>by rw[z,et]at hw0;simp[isW]at hw0
   have dlt:=dz0.1.resolve_left nt;have sp0:=uB t0.t;have pul:=E1 pu2;have l0:=iY t0.t;rw[uI hw0]at pm;have lml:=gn b dn t w1 h1;have pml:=pm.length_eq;rw[G5,G5,K6]at pml;refine cL (show decide (V.str (hdW t0.t)=V.str (wyL dn))=false by rw[kW];exact hw0) %[_,rfl,.inl %[rfl,_|G2 hl2],_,rfl,_,rfl,c0,t0.w,t0.h,dn,rfl,hc2,_,rfl,_,rfl,_,rfl,pp,c0,b,t0.w,t0.h,.ref a0,du,t0.t,rfl,hc2,hdu.same s02,tdu,dz0.2,⋯|λ uu H3 tv s3=>%[zS2|λ it hit=>?_]];refine aU hit λ H4 k4 s4=>?_;have s24:=s3.trans s4;have hl4:=s24 _ _ hl2;refine%[rl,us,_,O,O,hl4,⋯|?_];have kt:∀{c:OE}{xs:OI V},H4 c= ~~~xs->(upd H4 rl (.lst (us ++ [.ref it]))) c= ~~~xs:=λ {c xs} e=>by rw[au (λ z=>by rw[z,hl4]at e;cases e)];exact e
   refine%[vs',us ++ [.ref it],ts',L ++ [(if dn=true then t0.w else t0.h,gm b t0.t t0.w t0.h)],_,_,_,_,O,by rw[ssz];lia,by rw[au (Ne.symm nrw)];exact s24 _ _ hw2,aj,G3 pr2 λ v t h=>h.keep λ a xs e=>kt (s24 _ _ e),hV (G3 pu2 λ v t h=>h.keep λ a xs e=>kt (s24 _ _ e)) (.cons %[it,uu,O,kt k4|TlV.keep (λ a xs e=>kt (s4 _ _ e)) _ tv] .nil),?_,dz',⋯|keepL (s02.trans s24)];refine List.Perm.trans ?_ pm;rw[N7];exact(List.Perm.append_left _ List.perm_append_comm)
  | true=>
   obtain⟨p0,l0,r0,e0⟩:∃p0 l0 r0,t0.t=.cut dn p0 l0 r0:=by
    cases z:t0.t with
    | rest=>rw[z]at hw0;cases hw0
    | piece=>rw[z]at hw0;cases hw0
    | cut d p0 l0 r0=>
     rw[z]at hw0;have:d=dn:=by simpa[isW]using hw0
     rw[this];exact%[_,_,_|O]
   rw[e0]at tdu er0 hx0 dz0;obtain⟨q1,q2,q3,q4⟩:=nv dn p0 l0 r0;have szt0:szT t0.t=szT l0+szT r0+1:=by rw[e0];exact q3
   obtain⟨dl0,dr0,er1,tdl,tdr⟩:=tdu;rw[er1]at er0;cases er0;cases dx0 with
   | @cons x1 _ xs1 _ g1 dx0=>
   cases dx0 with
   | @cons lv _ xs2 _ gl dx0=>
   cases dx0 with
   | @cons rv _ xs3 _ gr dx0=>
   cases dx0;cases g1;have hx0:H a0=↥[.str (wyL dn),.int p0,lv,rv]\/H a0= ~~~[.str (wyL dn),.int p0,lv,rv]:=hx0;refine cK (show decide (V.str (hdW t0.t)=V.str (wyL dn))=true by rw[kW];exact hw0) ?_;refine aw (λ R=>∀t1 t2 (H':Hp),H' t1= ~~~[.int (if dn=true then p0 else t0.w),.int (if dn=true then t0.h else p0)]->H' t2= ~~~[.int (if dn=true then t0.w - p0 - b else t0.w),.int (if dn=true then t0.h else t0.h - p0 - b)]->Same H2 H'->R [⇑b,↑c,some v,some (.str (wyL dn)),↑rl,↑wl,↑c0,↑a0,↑t1,↑t2] H') (λ Dd hR=>?_) ?_
   ·refine%[_,O,_,O,_,O,_,O|ixR s02 hx0 (aE ∅ rfl) %[b,t0.w,t0.h,p0,c0,dn,O,hc2|λ u t1 t2 H3 ku k1 k2 s3=>%[u,_,O,G1 ku,O,_,_,O,_,_,O,O|hR t1 t2 _ ?_ ?_ s3]]]
    ·rw[k1];cases dn <;> rfl
    ·rw[k2];cases dn <;> rfl
   rintro t1 t2 H3 k1 k2 s23;have s03:=s02.trans s23;refine%[_,O,.inl %[O,_|G2 (s23 _ _ hw2)],_,O,_,O|ixR s03 hx0 (aE ∅ rfl) %[zS2|λ i1 hi1=>?_]];refine aU hi1 λ H4 k4 s4=>?_;refine%[_,O,_,O|ixR (s03.trans s4) hx0 (aE ∅ rfl) %[zS2|λ i2 hi2=>?_]];refine aU hi2 λ H5 k5 s5=>?_;refine%[zS2|λ lu hlu=>?_];refine aU hlu λ H6 k6 s6=>?_;have s36:=s4.trans (s5.trans s6);have s26:=s23.trans s36;have hw6:=s26 _ _ hw2;refine%[wl,lu,_,_,O,O,hw6,k6,by show _+2<=_;lia|?_];have kt:∀{c:OE}{xs:OI V},H6 c= ~~~xs->(upd H6 wl (.lst (vs' ++ [.ref i1,.ref i2]))) c= ~~~xs:=λ {c xs} e=>by rw[au (λ z=>by rw[z,hw6]at e;cases e)];exact e
   have dl9:dT l0 < dT t/\dT r0 < dT t:=by
    rcases dz0.1 with z | z
    ·rw[<- z];exact%[q1|q2]
    ·exact%[OD q1 z|OD q2 z]
   refine%[vs' ++ [.ref i1,.ref i2],us,ts' ++ ([%[if dn=true then p0 else t0.w,if dn=true then t0.h else p0|l0]] ++ [%[if dn=true then t0.w - p0 - b else t0.w,if dn=true then t0.h else t0.h - p0 - b|r0]]),L,_,_,_,_,O,?_,aj,by rw[au nrw];exact s26 _ _ hl2,hV (G3 pr2 λ v t h=>h.keep λ a xs e=>kt (s26 _ _ e)) (.cons %[i1,t1,lv,dl0,O,kt (s6 _ _ (s5 _ _ k4)),kt (s36 _ _ k1),gl|tdl] (.cons %[i2,t2,rv,dr0,O,kt (s6 _ _ k5),kt (s36 _ _ k2),gr|tdr] .nil)),G3 pu2 λ v t h=>h.keep λ a xs e=>kt (s26 _ _ e),?_,λ z hz=>?_,?_|keep (s02.trans s26)]
   ·rw[ssz,cF,cF];show _+((szT l0+0)+(szT r0+0)) < _;lia
   ·rw[fD,fD,dE,dE];rw[e0,uH]at pm;exact pm
   ·rcases C2.mp hz with hz | hz
    ·exact dz' z hz
    ·rcases C2.mp hz with hz | hz
     ·rw[C9.mp hz];exact%[.inr dl9.1|by show lvN l0<=63;have:=dz0.2;have:=(cC b r0 0 0).2.2;lia]
     ·rw[C9.mp hz];exact%[.inr dl9.2|by show lvN r0<=63;have:=dz0.2;have:=(cC b l0 0 0).2.2;lia]
   ·rw[cF,cF];show _+((szT l0+0)+(szT r0+0))<=_;lia
theorem uL{f:OE}{fd:F7}(F:Fun K "telling_of_part" "telling_of_part" bM f fd):FnOk P w K mg base CX0 3 f fd ["blade","part","tree"] (spTell 0):=by
 refine F.ok sctell (λ vs H Q E h=>?_) (λ cdv A outer s H vs Q E hr h=>?_)
 ·obtain⟨pp,c,b,w1,h1,v,d,t,rfl,_⟩:=h
  rfl
 ·refine cN λ G9 k9=>?_;obtain⟨pp,c,b,w1,h1,v,d,t,rfl,_,_,_,_,z,_⟩:=h;refine k9 ?_;exact absurd z (E7 _)
theorem lV{f wa:OE}{fd:F7}(F:Fun K "telling_of_part" "telling_of_part" bM f fd)(B:Blt mg)(Z:TrC K mg wa)(DC:Dn P w K mg base "cut_parts" ["blade","part","way","p"] 1 (spParts2))(DSA:Dn P w K mg base "side_along" ["part","way"] 1 (spSideA))(mk:∀n,FnOk P w K mg base CX0 (3+n) f fd ["blade","part","tree"] (spTell n)->Dn P w K mg base "telling_of_part" ["blade","part","tree"] (3+n) (spTell n)):∀n,n<=60->FnOk P w K mg base CX0 (3+n) f fd ["blade","part","tree"] (spTell n)
 | 0,_=>uL F
 | n+1,h=>wZ F B Z n ⋯ DC DSA (mk n (lV F B Z DC DSA mk n ⋯))
theorem sctello:FnScope ["shop","wide","high","tree"] ["shop","wide","high","tree"] (defScope cz):=%[O,O,O,∅,O,∅|∅]
theorem uM{f C:OE}{fd:F7}(F:Fun K "telling_of" "telling_of" cz f fd)(T:ShopTxt K C)(MB:Mn P w K mg base C "blade" ["self"] 1 (fh C))(DCt:Dn P w K mg base "check_tree" ["shop","wide","high","thing"] 7 (spCheckT C))(DT:Dn P w K mg base "telling_of_part" ["blade","part","tree"] 53 (spTell 50)):FnOk P w K mg base CX0 54 f fd ["shop","wide","high","tree"] (spTellO C):=by
 refine F.ok sctello (λ vs H Q E h=>?_) (λ cdv A outer s H vs Q E hr h=>?_)
 ·obtain⟨pp,s,b,w1,h1,ks,v,d,t,rfl,_⟩:=h
  rfl
 refine cN λ G9 k9=>?_;obtain⟨pp,s,b,w1,h1,ks,v,d,t,rfl,SH,w0,h0,hd,dz,td,okt,l63,dlt,q⟩:=h;refine k9 ?_;have nd:=sctello.nd;refine%[_,((@bX _ _ _ _ (DCt∩((pv 0)^^^((pv 1)^^^((pv 2)^^^((pv 3)^^^ad))))) O)<<<((DT∪((mM (pv 0) T.cl MB (hr.mono ∅))^^^((@ar _ _ _ _ _ ((pv 1)^^^((pv 2)^^^ad)))^^^((pv 3)^^^ad))))⁻¹))|?_];obtain⟨dx,r,rs,S1,S2,S3⟩:=id SH;refine%[_,O,_,O,_,O,_,O,pp,s,b,w1,h1,ks,v,d,O,SH,w0,h0,hd,dz,TrD.good t d w1 h1 td okt|λ H1 s1=>?_];have SH1:=gj s1 SH;obtain⟨dx',r',rs',S1',S2',S3'⟩:=id SH1;refine%[_,O,s,dx',_,O,S1',(fg _ _ ∅ ∅),s,b,ks,O,SH1,_,O,_,O,zS2|λ c hc=>?_];refine aU hc λ H2 k2 s2=>?_;exact%[_,O,pp,c,b,w1,h1,v,d,t,O,k2,hd.same (s1.trans s2),td,l63,dlt|λ u H3 tv s3=>q u H3 tv (s1.trans (s2.trans s3))]
end
theorem TrV.dat{K:C4}{H:Hp}:∀(t:Tr){v:V},TrV H t v->DatV K H v (toD t)
 | .rest,_,⟨a,e,h⟩=>by subst e;exact .tup (G1 h) (.cons (.str _) .nil)
 | .piece ..,_,⟨a,e,h⟩=>by subst e;exact .tup (G1 h) (.cons (.str _) (.cons (.int _) (.cons (.bl _) (.cons (.int _) (.cons (.int _) .nil)))))
 | .cut _ _ l r,_,⟨a,x,y,e,h,h1,h2⟩=>by subst e;exact .tup (G1 h) (.cons (.str _) (.cons (.int _) (.cons (TrV.dat l h1) (.cons (TrV.dat r h2) .nil))))
theorem nz:∀t:Tr,(toD t).canLay0=true/\(toD t).depth=dT t+1
 | .rest=>%[∅|O]
 | .piece ..=>%[by simp[toD,PyData.canLay0,PyData.canLayAll0];decide +kernel|O]
 | .cut dn p l r=>by
  obtain⟨l1,l2⟩:=nz l;obtain⟨r1,r2⟩:=nz r;refine%[?_|?_]
  ·simp[toD,PyData.canLay0,PyData.canLayAll0,l1,r1];cases dn <;> decide +kernel
  ·simp only[toD,PyData.depth,PyData.depthAll,l2,r2,dT,N1,M6,Nat.add_max_add_right]
theorem TrV.head{H:Hp}:∀(t:Tr){v:V},TrV H t v->∃a xs,v=.ref a/\H a= ~~~(.str (hdW t) :: xs)
 | .rest,_,⟨a,e,h⟩=>%[a,_,e|h]
 | .piece ..,_,⟨a,e,h⟩=>%[a,_,e|h]
 | .cut ..,_,⟨a,x,y,e,h,_⟩=>%[a,_,e|h]
def WtV(H:Hp)(v:V)(z:Wa):Prop:=∃a u,v=.ref a/\H a= ~~~[.int z.w,.int z.h,u]/\TrV H z.t u
theorem WtV.keep{H H':Hp}(k:∀a xs,H a= ~~~xs->H' a= ~~~xs){v:V}{z:Wa}(h:WtV H v z):WtV H' v z:=by obtain⟨a,u,e,h1,h2⟩:=h;exact%[a,u,e,k _ _ h1|TrV.keep k _ h2]
theorem uN{K:C4}{H:Hp}:∀{vs:OI V}{ts:OI Wa},Paired (WtV H) vs ts->(∀z∈ts,dT z.t<=55)->∃ds,DatVs K H vs ds/\ds.length=vs.length/\PyData.canLayAll0 ds=true/\PyData.depthAll ds<=60
 | _,_,.nil,_=>%[[],.nil,O,O|E6 _]
 | _,_,.cons (b:=z) ⟨a,u,e,h,tv⟩ r,hz=>by
  subst e;obtain⟨ds,d1,d2,d3,d4⟩:=uN (K:=K) r λ y hy=>hz y (B3 _ hy);obtain⟨l1,l2⟩:=nz z.t;have:=hz z B7;refine%[_ :: ds,.cons (.tup (G1 h) (.cons (.int _) (.cons (.int _) (.cons (TrV.dat _ tv) .nil)))) d1,by rw[I9,I9,d2],?_|?_]
  ·simp only[PyData.canLayAll0,PyData.canLay0,l1,d3,K1]
  ·simp only[PyData.depthAll,PyData.depth,l2,N1,M6];lia
theorem zK{ds:OI PyData}(d3:PyData.canLayAll0 ds=true)(d4:PyData.depthAll ds<=60):SeqAt.shaped (.list ds)=true:=by
 unfold SeqAt.shaped;rw[show(PyData.list ds).canLay0=true by simpa[PyData.canLay0]using d3,OO (show(PyData.list ds).depth<=64 by show PyData.depthAll ds+1<=64;lia)]
 rfl
section
variable{P:F6}{w:F8}{K:C4}{mg:Str->OG F9}{base:Heap}
inductive spToldL(n:Nat)(vs:OI V)(H:Hp)(Q:VK)(E_:XK):Prop
|mk(t kl:OE)(b W h:Int)(ks:OI Kd)(v:V)(T:Tr)(_:vs=[.ref t,.int W,.int h,v])(_:LS H t b ks kl)(_:TrV H T v)(_:lvN T<=63)(_:dT T < n)(_:∀(u:V)(H':Hp),TlV H' (gm b T W h) u->Same H H'->Q u H')
theorem sctold:FnScope ["_law_shop_here","_law_wide","_law_high","_law_tree_here","_law_way","_law_things","_law_waiting","_law_own_wide","_law_own_high","_law_part","_law_one","_law_other","_law_size"] ["_law_shop_here","_law_wide","_law_high","_law_tree_here"] (defScope jM):=%[O,O,O,∅,O,∅|∅]
theorem xa{f:OE}{fd:F7}(F:Fun K "_law_told" "_law_told" jM f fd)(B:Blt mg)(n:Nat)(n55:n<=55)(DBh:Dn P w K mg base "_law_behind" ["_law_shop_here","_law_wide","_law_high","_law_way","_law_p"] 1 (spBeh))(DT:Dn P w K mg base "_law_told" ["_law_shop_here","_law_wide","_law_high","_law_tree_here"] (3+n) (spToldL n)):FnOk P w K mg base CX0 (3+(n+1)) f fd ["_law_shop_here","_law_wide","_law_high","_law_tree_here"] (spToldL (n+1)):=by
 refine F.ok sctold (λ vs H Q E h=>?_) (λ cdv A outer s H vs Q E hr h=>?_)
 ·obtain⟨t,kl,b,W,h1,ks,v,T,rfl,_⟩:=h
  rfl
 refine cN λ G9 k9=>?_;obtain⟨t,kl,b,W,h1,ks,v,T,rfl,sh,tv,l63,dn0,q⟩:=h;refine k9 ?_;have nd:=sctold.nd;have hu:=Room.units220 hr (show 2<=3+n by lia);have hu6:=hr.units;refine%[_,(((@ay _ _ _ _ _ _ _ _ gF ((pv 3)&&&ix_tup&&&ae) (@ar _ _ _ _ _ (aJ^^^(aJ^^^ad))) O)<|>((pv 3)⁻¹)<|>az)<<<((4∣((pv 3)&&&ix_tup&&&ae))<<<((5∣(@aQ _ _ _ _ ad))<<<((6∣(@aQ _ _ _ _ ((@ar _ _ _ _ _ ((pv 1)^^^((pv 2)^^^((pv 3)^^^ad))))^^^ad)))<<<((iy E2 ((pv 6)<*>(ze hu6)<*>(@aQ _ _ _ _ ad)) ((@bL _ _ _ _ _ _ (mD F4 PySem.F.slot_list_pop PySem.F.type_list_pop mF (pv 6)) (bC O (7•(8•(9•aV)))) O O O)>>>((((pv 9)&&&ix_tup&&&ae)<*>bc<*>(pv 4))<|>((@bL _ _ _ _ _ _ (@ah _ _ _ _ _ _ _ _ _ _ DBh (hr.mono (show 1<=3+n by lia)) O ((pv 0)^^^((pv 7)^^^((pv 8)^^^((pv 4)^^^(((pv 9)&&&ix_tup&&&ae)^^^ad))))) ∅ O O) (bC O (10•(11•aV))) O O O)>>>(6∣((pv 6)|||zb|||(@aQ _ _ _ _ (((pv 10)|||km|||(@ar _ _ _ _ _ (((pv 9)&&&ix_tup&&&ae)^^^ad)))^^^(((pv 11)|||km|||(@ar _ _ _ _ _ (((pv 9)&&&ix_tup&&&ae)^^^ad)))^^^ad))))))<|>((12∣((@aQ _ _ _ _ ((pv 7)^^^((pv 8)^^^ad)))&&&ix_list&&&(@bg _ _ _ _ _ _ _ _ _ cu O B.int OX ((@bh _ _ _ _ _ _ _ _ bc (pv 4) aJ (aB _))^^^ad) ∅ ∅ O O)))>>>(@bX _ _ _ _ (@fI _ _ _ _ _ _ _ _ _ _ _ _ F4 PySem.F.slot_list_append PySem.F.type_list_append cX (pv 5) ((@ar _ _ _ _ _ ((pv 12)^^^((@ah _ _ _ _ _ _ _ _ _ _ DT (hr.mono (show 3+n<=3+n by lia)) O ((pv 0)^^^((pv 7)^^^((pv 8)^^^((pv 9)^^^ad)))) ∅ O O)^^^ad)))^^^ad) O O O O O) O)))))<<<((@ar _ _ _ _ _ ((pv 4)^^^((@bg _ _ _ _ _ _ _ _ _ bB O B.tuple PyProof.Rows.boot_tuple ((@aA _ _ _ _ _ _ _ _ _ (dW hu) O B.sorted PyProof.Rows.boot_sorted ((pv 5)^^^ad) ∅ ∅ O O)^^^ad) ∅ ∅ O O)^^^ad)))⁻¹))))))|?_];dsimp only[bW];have sz:(40000:Nat)<=sizeLine:=∅
 obtain⟨a,xs,ev,hx⟩:=TrV.head T tv;subst ev;refine%[_,O,a,_,0,_,O,O,G1 hx,aE (E3 _) rfl,zS2|λ q0 hq0=>?_];refine aU hq0 λ H0 k0 s0=>?_;refine%[q0,_,O,.inr (G1 k0),O,O,_,O|?_];show(if (inV (V.str (hdW T)) [V.str "rest",V.str "piece"])=true then _ else _);cases T with
 | rest=>
  rw[show inV (V.str (hdW (.rest))) [V.str "rest",V.str "piece"]=true by show inV (V.str "rest") [V.str "rest",V.str "piece"]=true;decide +kernel];refine aH %[_,rfl|q _ _ ?_ s0];obtain⟨a',e',h'⟩:=id tv;show TlV _ (.rest) _;rw[TlV];exact%[a',e'|s0 _ _ h']
 | piece i cc x y=>
  rw[show inV (V.str (hdW (.piece i cc x y))) [V.str "rest",V.str "piece"]=true by show inV (V.str "piece") [V.str "rest",V.str "piece"]=true;decide +kernel];refine aH %[_,rfl|q _ _ ?_ s0];obtain⟨a',e',h'⟩:=id tv;show TlV _ (.piece i cc x y) _;rw[TlV];exact%[a',e'|s0 _ _ h']
 | cut dn pl tl tr=>
  obtain⟨T,et⟩:∃t,t=Tr.cut dn pl tl tr:=%[_|O]
  rw[<- et]at tv l63 dn0 q;rw[<- et]at hx;have szt:=fC T;have dl:=iY T;rw[show inV (V.str (hdW (.cut dn pl tl tr))) [V.str "rest",V.str "piece"]=false by show inV (V.str (wyL dn)) [V.str "rest",V.str "piece"]=false;cases dn <;> decide +kernel];refine aM %[_,rfl,a,_,0,_,rfl,rfl,G1 (s0 _ _ hx),aE (E3 _) rfl|?_];rw[show hdW T=wyL dn by rw[et];rfl];refine%[∅|λ rl hrl=>?_];refine aU hrl λ Hr kr sr=>?_;refine%[_,O,_,O,_,O,zS3|λ t' ht=>?_];refine aU ht λ Ha ka sa=>?_;refine%[zS1|λ wl hwl=>?_];refine aU hwl λ Hb kb sb=>?_;have fr:H rl=none:=s0.free hrl;have fw:H wl=none:=(s0.trans (sr.trans sa)).free hwl;have nrw:rl≠wl:=λ z=>by rw[<- z,sa _ _ kr]at hwl;cases hwl
  have sab:=s0.trans (sr.trans (sa.trans sb));obtain⟨v,ev⟩:∃v,v=V.ref a:=%[_|O]
  rw[<- ev]at tv ka ⊢;clear ev hx;refine%[λ m σ H'=>∃(wl:OE)(vs us:OI V)(ts:OI Wa)(L:OI (Int×Tl))(v7 v8 v9 va vb vc:OG V),σ=[↑t,⇑W,⇑h1,some v,some (.str (wyL dn)),↑rl,↑wl,v7,v8,v9,va,vb,vc]/\H wl=none/\rl≠wl/\m=wsz ts/\H' wl=↥vs/\H' rl=↥us/\Paired (WtV H') vs ts/\Paired (ItV H') us L/\(L ++ wrw b dn ts).Perm (fH b dn T W h1)/\(∀z∈ts,(z.t=T\/dT z.t < dT T)/\lvN z.t<=63)/\wsz ts<=10000/\Same H H',%[_,wl,[.ref t'],[],[%[W,h1|T]],[],none,none,none,none,none,none,O,fw,nrw,O,kb,sb _ _ (sa _ _ kr),.cons %[t',v,O,sb _ _ ka|TrV.keep (λ a xs e=>sab _ _ e) T tv] .nil,.nil,?_,?_,(by show szT T+0<=10000;lia)|sab]|?_]
  ·rw[dE];exact .refl _
  ·intro z hz;rw[C9.mp hz];exact%[.inl rfl|l63]
  clear kb nrw fw hwl sb sab;clear Hb;intro m σ H1 hI9;refine cN λ G9 k9=>?_;obtain⟨wl,vs,us,ts,L,v7,v8,v9,va,vb,vc,rfl,fw,nrw,rfl,hw,hl,pr,pu,pm,dz,sz1,s1⟩:=hI9;refine k9 ?_;refine%[_,O,∅|λ eo heo=>?_];refine aU heo λ Hn kn sn=>?_;have hwn:=sn _ _ hw;have hln:=sn _ _ hl;have prn:Paired (WtV Hn) vs ts:=G3 pr λ v t h=>h.keep λ a xs e=>sn _ _ e;have pun:Paired (ItV Hn) us L:=G3 pu λ v t h=>h.keep λ a xs e=>sn _ _ e;have s1n:=s1.trans sn;obtain⟨ds,d1,d2,d3,d4⟩:=uN (K:=K) prn λ z hz=>by
   have:=(dz z hz).1;rcases this with e | e
   ·rw[e];lia
   ·lia
  refine%[_,_,.lst (G2 hwn) d1,.lst (G2 kn) .nil,zK d3 d4,∅,_,O|?_];clear hw hl pr pu s1 heo;rcases N4 vs with rfl | ⟨vs',v0,rfl⟩
  ·have ets:ts=[]:=by
    have:=E1 prn;cases ts with
    | nil=>rfl
    | cons _ _=>simp at this
   subst ets;have:ds=[]:=List.length_eq_zero_iff.mp d2;subst this;rw[show wrw b dn []=[]from rfl,J7]at pm;obtain⟨ps,rfl,rfl,ips⟩:=iW pun;have ll:=gn b dn T W h1;have pl':=pm.length_eq;rw[J1]at pl';refine cL rfl %[_,rfl,_,rfl,rl,ps,rfl,G2 hln,⋯,λ z hz=>%[(ips z hz).dat|?_]|λ l ps' hl' pm' pw=>?_]
   ·have:=iV (pm.mem_iff.mp (M4.mpr %[z,hz|O]));lia
   refine aU hl' λ H2 k2 s2=>?_;refine%[l,_,O|.inl %[G2 k2|λ tq htq=>?_]];refine aU htq λ H3 k3 s3=>?_;refine%[zS2|λ fr hfr=>?_];refine aU hfr λ H4 k4 s4=>?_;have s14:=s2.trans (s3.trans s4);refine q _ H4 ?_ (s1n.trans s14);rw[et,uJ,<- et,TlV];refine%[fr,tq,_,O,k4,s4 _ _ k3|?_];have ee:ps'.map (·.2)=srt (fH b dn T W h1):=kT ((pm'.map _).trans pm) pw;rw[<- ee];exact iw (iX λ z hz=>(ips z (pm'.mem_iff.mp hz)).keep λ a xs e=>s14 _ _ e)
  rw[N5]at prn hwn d2;obtain⟨ts',t0,rfl,prp,⟨sp,u,rfl,hsp,tu⟩⟩:=lU prn;have dne:PyData.eqv (.list ds) (.list [])=false:=by
   cases ds with
   | nil=>simp at d2
   | cons d ds=>rfl
  have ssz:wsz (ts' ++ [t0])=wsz ts'+szT t0.t:=by rw[cF];show _+(szT t0.t+0)=_;lia
  rw[ssz]at sz1;refine cK (by rw[dne];rfl) ⟨λ σ' H'=>∃(wl:OE)(vs us:OI V)(ts:OI Wa)(L:OI (Int×Tl))(v7 v8 v9 va vb vc:OG V),σ'=[↑t,⇑W,⇑h1,some v,some (.str (wyL dn)),↑rl,↑wl,v7,v8,v9,va,vb,vc]/\H wl=none/\rl≠wl/\wsz ts < wsz (ts' ++ [t0])/\H' wl=↥vs/\H' rl=↥us/\Paired (WtV H') vs ts/\Paired (ItV H') us L/\(L ++ wrw b dn ts).Perm (fH b dn T W h1)/\(∀z∈ts,(z.t=T\/dT z.t < dT T)/\lvN z.t<=63)/\wsz ts<=10000/\Same H H',(by rintro σ' H' ⟨wl,vs,us,ts,L,v7,v8,v9,va,vb,vc,e,e1,e2,l,r⟩;exact%[_,l,wl,vs,us,ts,L,v7,v8,v9,va,vb,vc,e,e1,e2,rfl|r]),?_⟩;rw[fD,dE]at pm;have ml:(vs' ++ [V.ref sp]).length=vs'.length+1:=by rw[G5];rfl
  have keepL:∀{Hx:Hp}{o:HO},Same H Hx->Same H (upd Hx rl o):=λ {Hx o} sx c oo e=>by rw[au (λ z=>by rw[z,fr]at e;cases e)];exact sx _ _ e
  refine aw (λ R=>∀(H':Hp),H' wl=↥vs'->H' rl=↥us->Paired (WtV H') vs' ts'->Paired (ItV H') us L->TrV H' t0.t u->Same H H'->R [↑t,⇑W,⇑h1,some v,some (.str (wyL dn)),↑rl,↑wl,⇑t0.w,⇑t0.h,some u,va,vb,vc] H') (λ Dd hR=>?_) ?_
  ·refine%[_,O,.inl %[O,_|G2 hwn],wl,_,.ref sp,O,O,hwn,(by rw[ml];simp)|?_];rw[List.dropLast_concat];have kt:∀{c:OE}{xs:OI V},Hn c= ~~~xs->(upd Hn wl (.lst vs')) c= ~~~xs:=λ {c xs} e=>by rw[au (λ z=>by rw[z,hwn]at e;cases e)];exact e
   refine%[sp,_,O,G1 (kt hsp),O,_,_,O,_,_,O,_,_,O,O|?_];refine hR _ aj (by rw[au nrw];exact hln) (G3 prp λ v t h=>h.keep λ a xs e=>kt e) (G3 pun λ v t h=>h.keep λ a xs e=>kt e) (TrV.keep (λ a xs e=>kt e) _ tu) (λ c o e=>?_);rw[au (λ z=>by rw[z,fw]at e;cases e)];exact s1n _ _ e
  clear hwn hln prn prp pun hsp tu d1 d2 d3 d4 dne kn sn s1n;clear Hn;rintro H2 hw2 hl2 pr2 pu2 tu2 s02;obtain⟨a0,xs0,eu,hx0⟩:=TrV.head _ tu2;subst eu;have sl:=kU ts';have pl2:=E1 pr2;have ls2:=sh.same s02;refine%[_,O,a0,_,0,_,O,O,G1 hx0,aE (E3 _) rfl,_,O,O,_,O|?_];have dz0:=dz t0 (C2.mpr (.inr (C9.mpr rfl)));have dz':∀z∈ts',(z.t=T\/dT z.t < dT T)/\lvN z.t<=63:=λ z hz=>dz z (C2.mpr (.inl hz));cases hw0:isW dn t0.t with
  | false=>
   have nt:t0.t≠T:=λ z=>by rw[z,et]at hw0;simp[isW]at hw0
   have dlt:=dz0.1.resolve_left nt;have sp0:=uB t0.t;have pul:=E1 pu2;rw[uI hw0]at pm;have lml:=gn b dn T W h1;have pml:=pm.length_eq;rw[G5,G5,K6]at pml;refine cL (show decide (V.str (hdW t0.t)=V.str (wyL dn))=false by rw[kW];exact hw0) ?_;refine aw (λ R=>∀(H':Hp),Same H2 H'->R [↑t,⇑W,⇑h1,some v,some (.str (wyL dn)),↑rl,↑wl,⇑t0.w,⇑t0.h,↑a0,va,vb,⇑(if dn=true then t0.w else t0.h)] H') (λ Dd hR=>?_) ?_
   ·refine%[_,O,_,O,zS2|λ ol hol=>?_];refine aU hol λ H3 k3 s3=>?_;refine%[_,O,O|.inr %[_,O,ol,_,_,.int (if dn=true then t0.w else t0.h),O,O,G2 k3,?_|hR _ s3]];cases dn with
    | true=>
     rw[show decide (V.str (wyL true)=V.str "across")=false by decide +kernel]
     rfl
    | false=>
     rw[show decide (V.str (wyL false)=V.str "across")=true by decide +kernel]
     rfl
   rintro H3 s23;have hl3:=s23 _ _ hl2;refine%[_,O,.inl %[O,_|G2 hl3],_,O,_,O,_,O,_,O,_,O,t,kl,b,t0.w,t0.h,ks,.ref a0,t0.t,O,ls2.same s23,TrV.keep (λ a xs e=>s23 _ _ e) _ tu2,dz0.2,⋯|λ uu H4 tv4 s4=>%[zS2|λ it hit=>?_]];refine aU hit λ H5 k5 s5=>?_;have s25:=s23.trans (s4.trans s5);have hl5:=s25 _ _ hl2;refine%[rl,us,_,O,O,hl5,⋯|?_];have kt:∀{c:OE}{xs:OI V},H5 c= ~~~xs->(upd H5 rl (.lst (us ++ [.ref it]))) c= ~~~xs:=λ {c xs} e=>by rw[au (λ z=>by rw[z,hl5]at e;cases e)];exact e
   refine%[wl,vs',us ++ [.ref it],ts',L ++ [(if dn=true then t0.w else t0.h,gm b t0.t t0.w t0.h)],_,_,_,_,_,_,O,fw,nrw,by rw[ssz];lia,by rw[au (Ne.symm nrw)];exact s25 _ _ hw2,aj,G3 pr2 λ v t h=>h.keep λ a xs e=>kt (s25 _ _ e),hV (G3 pu2 λ v t h=>h.keep λ a xs e=>kt (s25 _ _ e)) (.cons %[it,uu,O,kt k5|TlV.keep (λ a xs e=>kt (s5 _ _ e)) _ tv4] .nil),?_,dz',⋯|keepL (s02.trans s25)];refine List.Perm.trans ?_ pm;rw[N7];exact(List.Perm.append_left _ List.perm_append_comm)
  | true=>
   obtain⟨p0,l0,r0,e0⟩:∃p0 l0 r0,t0.t=.cut dn p0 l0 r0:=by
    cases z:t0.t with
    | rest=>rw[z]at hw0;cases hw0
    | piece=>rw[z]at hw0;cases hw0
    | cut d p0 l0 r0=>
     rw[z]at hw0;have:d=dn:=by simpa[isW]using hw0
     rw[this];exact%[_,_,_|O]
   rw[e0]at tu2 dz0;obtain⟨q1,q2,q3,q4⟩:=nv dn p0 l0 r0;have szt0:szT t0.t=szT l0+szT r0+1:=by rw[e0];exact q3
   obtain⟨a1,lv,rv,e1,hx1,tvl,tvr⟩:=id tu2;cases e1;have hx1:H2 a0= ~~~[.str (wyL dn),.int p0,lv,rv]:=hx1;refine cK (show decide (V.str (hdW t0.t)=V.str (wyL dn))=true by rw[kW];exact hw0) ?_;refine aw (λ R=>∀t1 t2 (H':Hp),H' t1= ~~~[.int (if dn=true then p0 else t0.w),.int (if dn=true then t0.h else p0)]->H' t2= ~~~[.int (if dn=true then t0.w - p0 - b else t0.w),.int (if dn=true then t0.h else t0.h - p0 - b)]->Same H2 H'->R [↑t,⇑W,⇑h1,some v,some (.str (wyL dn)),↑rl,↑wl,⇑t0.w,⇑t0.h,↑a0,↑t1,↑t2,vc] H') (λ Dd hR=>?_) ?_
   ·exact%[_,O,_,O,_,O,_,O,_,O,a0,_,1,_,O,O,G1 hx1,O,t,kl,b,t0.w,t0.h,p0,ks,dn,O,ls2|λ u t1 t2 H3 ku k1 k2 s3=>%[u,_,O,G1 ku,O,_,_,O,_,_,O,O|hR t1 t2 _ k1 k2 s3]]
   rintro t1 t2 H3 k1 k2 s23;have s03:=s02.trans s23;refine%[_,O,_,O,_,O,a0,_,2,_,O,O,G1 (s23 _ _ hx1),O,zS1|λ i0 hi0=>?_];refine aU hi0 λ H4 k4 s4=>?_;refine%[t1,i0,_,_,O,O,G1 (s4 _ _ k1),G1 k4,by simp,zS3,λ z=>absurd z (by simp)|λ _ i1 hi1=>?_];refine aU hi1 λ H5 k5 s5=>?_;have s35:=s4.trans s5;refine%[_,O,_,O,a0,_,3,_,O,O,G1 (s35 _ _ (s23 _ _ hx1)),O,zS1|λ j0 hj0=>?_];refine aU hj0 λ H6 k6 s6=>?_;refine%[t2,j0,_,_,O,O,G1 (s6 _ _ (s35 _ _ k2)),G1 k6,by simp,zS3,λ z=>absurd z (by simp)|λ _ i2 hi2=>?_];refine aU hi2 λ H7 k7 s7=>?_;refine%[zS2|λ lu hlu=>?_];refine aU hlu λ H8 k8 s8=>?_;have s38:=s35.trans (s6.trans (s7.trans s8));have s28:=s23.trans s38;have hw8:=s28 _ _ hw2;refine%[wl,lu,_,_,O,O,hw8,k8,by show _+2<=_;lia|λ nw hnw=>?_];refine aU hnw λ H9 k9 s9=>?_;have s29:=s28.trans s9;have s09:=s02.trans s29;have fn:H nw=none:=(s02.trans s28).free hnw;have nrn:rl≠nw:=λ z=>by rw[<- z,s28 _ _ hl2]at hnw;cases hnw
   have k29:∀a xs,H2 a= ~~~xs->H9 a= ~~~xs:=λ a xs e=>s29 _ _ e;have dl9:dT l0 < dT T/\dT r0 < dT T:=by
    rcases dz0.1 with z | z
    ·rw[<- z];exact%[q1|q2]
    ·exact%[OD q1 z|OD q2 z]
   refine%[nw,vs' ++ [.ref i1,.ref i2],us,ts' ++ ([%[if dn=true then p0 else t0.w,if dn=true then t0.h else p0|l0]] ++ [%[if dn=true then t0.w - p0 - b else t0.w,if dn=true then t0.h else t0.h - p0 - b|r0]]),L,_,_,_,_,_,_,O,fn,nrn,?_,k9,s29 _ _ hl2,hV (G3 pr2 λ v t h=>h.keep k29) (.cons %[i1,lv,O,s9 _ _ (s8 _ _ (s7 _ _ (s6 _ _ k5)))|TrV.keep k29 _ tvl] (.cons %[i2,rv,O,s9 _ _ (s8 _ _ k7)|TrV.keep k29 _ tvr] .nil)),G3 pu2 λ v t h=>h.keep k29,?_,λ z hz=>?_,?_|s09]
   ·rw[ssz,cF,cF];show _+((szT l0+0)+(szT r0+0)) < _;lia
   ·rw[fD,fD,dE,dE];rw[e0,uH]at pm;exact pm
   ·rcases C2.mp hz with hz | hz
    ·exact dz' z hz
    ·rcases C2.mp hz with hz | hz
     ·rw[C9.mp hz];exact%[.inr dl9.1|by show lvN l0<=63;have:=dz0.2;have:=(cC b r0 0 0).2.2;lia]
     ·rw[C9.mp hz];exact%[.inr dl9.2|by show lvN r0<=63;have:=dz0.2;have:=(cC b l0 0 0).2.2;lia]
   ·rw[cF,cF];show _+((szT l0+0)+(szT r0+0))<=_;lia
theorem uO{f:OE}{fd:F7}(F:Fun K "_law_told" "_law_told" jM f fd):FnOk P w K mg base CX0 3 f fd ["_law_shop_here","_law_wide","_law_high","_law_tree_here"] (spToldL 0):=by
 refine F.ok sctold (λ vs H Q E h=>?_) (λ cdv A outer s H vs Q E hr h=>?_)
 ·obtain⟨t,kl,b,W,h1,ks,v,T,rfl,_⟩:=h
  rfl
 ·refine cN λ G9 k9=>?_;obtain⟨t,kl,b,W,h1,ks,v,T,rfl,_,_,_,z,_⟩:=h;refine k9 ?_;exact absurd z (E7 _)
theorem lW{f:OE}{fd:F7}(F:Fun K "_law_told" "_law_told" jM f fd)(B:Blt mg)(DBh:Dn P w K mg base "_law_behind" ["_law_shop_here","_law_wide","_law_high","_law_way","_law_p"] 1 (spBeh))(mk:∀n,FnOk P w K mg base CX0 (3+n) f fd ["_law_shop_here","_law_wide","_law_high","_law_tree_here"] (spToldL n)->Dn P w K mg base "_law_told" ["_law_shop_here","_law_wide","_law_high","_law_tree_here"] (3+n) (spToldL n)):∀n,n<=55->FnOk P w K mg base CX0 (3+n) f fd ["_law_shop_here","_law_wide","_law_high","_law_tree_here"] (spToldL n)
 | 0,_=>uO F
 | n+1,h=>xa F B n ⋯ DBh (mk n (lW F B DBh mk n ⋯))
end
theorem pU:∀ds:OI PyData,ds.length<=wts ds
 | []=>B2 _
 | d :: r=>by have:=pU r;have:=pQ d;rw[I9,wts];lia
theorem pV{x:PyData}:∀{ds:OI PyData},x∈ds->wt x<=wts ds
 | d :: r,h=>by
  rw[wts];rcases G6.mp h with h | h
  ·rw[h];lia
  ·have:=pV h;lia
theorem Dts.get{p:OE}{H:Hp}:∀{vs:OI V}{ds:OI PyData}{i:Nat}{x:V},Dts p H vs ds->vs[i]?=some x->∃d,ds[i]?=some d/\Dt p H x d
 | _,_,0,_,.cons a _,e=>%[_,O|by cases e;exact a]
 | _,_,i+1,_,.cons _ r,e=>by obtain⟨d,h1,h2⟩:=r.get (i:=i) (by simpa using e);exact%[d,by simpa using h1|h2]
theorem Dts.app{p:OE}{H:Hp}:∀{vs us:OI V}{ds es:OI PyData},Dts p H vs ds->Dts p H us es->Dts p H (vs ++ us) (ds ++ es)
 | _,_,_,_,.nil,h=>h
 | _,_,_,_,.cons a r,h=>.cons a (r.app h)
mutual
inductive Lsd:PyData->PyData->Prop
 | same (d:PyData):Lsd d d
 | row {ds ds':OI PyData}:Lsds ds ds'->Lsd (.tuple ds) (.list ds')
inductive Lsds:OI PyData->OI PyData->Prop
 | nil:Lsds [] []
 | cons {d d':PyData} {ds ds':OI PyData}:Lsd d d'->Lsds ds ds'->Lsds (d :: ds) (d' :: ds')
end
theorem Lsds.snoc:∀{ds ds':OI PyData}{d d':PyData},Lsds ds ds'->Lsd d d'->Lsds (ds ++ [d]) (ds' ++ [d'])
 | _,_,_,_,.nil,h=>.cons h .nil
 | _,_,_,_,.cons a r,h=>.cons a (r.snoc h)
theorem Lsds.length:∀{ds ds':OI PyData},Lsds ds ds'->ds'.length=ds.length
 | _,_,.nil=>rfl
 | _,_,.cons _ r=>by rw[I9,I9,r.length]
mutual
theorem Lsd.wt:∀{d d':PyData},Lsd d d'->wt d'=wt d
 | _,_,.same _=>rfl
 | _,_,.row r=>by simp only[Pc.wt];rw[r.wts]
theorem Lsds.wts:∀{d d':OI PyData},Lsds d d'->wts d'=wts d
 | _,_,.nil=>rfl
 | _,_,.cons a r=>by simp only[Pc.wts];rw[a.wt,r.wts]
end
mutual
theorem Lsd.depth:∀{d d':PyData},Lsd d d'->d'.depth=d.depth
 | _,_,.same _=>rfl
 | _,_,.row r=>by simp only[PyData.depth];rw[r.depth]
theorem Lsds.depth:∀{d d':OI PyData},Lsds d d'->PyData.depthAll d'=PyData.depthAll d
 | _,_,.nil=>rfl
 | _,_,.cons a r=>by simp only[PyData.depthAll];rw[a.depth,r.depth]
end
section
variable{P:F6}{w:F8}{K:C4}{mg:Str->OG F9}{base:Heap}
inductive spLists(n:Nat)(vs:OI V)(H:Hp)(Q:VK)(E_:XK):Prop
|mk(p:OE)(v:V)(d:PyData)(_:vs=[.ref p,v])(_:PotC H p)(_:Dt p H v d)(_:d.depth < n)(_:wt d<=30000)(_:∀(v':V)(d':PyData)(H':Hp),Dt p H' v' d'->Lsd d d'->((v'=v/\d'=d)\/∃a xs,v'=.ref a/\H a=none/\H' a=↥xs)->PotC H' p->But p H H'->Q v' H')
theorem sclists:FnScope ["_law_pot_here","_law_thing"] ["_law_pot_here","_law_thing"] (defScope fY):=%[O,O,O,∅,O,∅|∅]
theorem uP{f:OE}{fd:F7}(F:Fun K "_law_lists" "_law_lists" fY f fd)(B:Blt mg)(n:Nat)(DD:Dn P w K mg base "_law_take" ["_law_pot_here","_law_many"] 1 (spTake))(DLs:Dn P w K mg base "_law_lists" ["_law_pot_here","_law_thing"] (2+n) (spLists n)):FnOk P w K mg base CX0 (2+(n+1)) f fd ["_law_pot_here","_law_thing"] (spLists (n+1)):=by
 refine F.ok sclists (λ vs H Q E h=>?_) (λ cdv A outer s H vs Q E hr h=>?_)
 ·obtain⟨p,v,d,rfl,_⟩:=h
  rfl
 obtain⟨p,v,d,rfl,pt,hd,hn,dz,q⟩:=h;have nd:=sclists.nd;refine%[_,(((PW.pt (bn (@aS _ _ _ _ (@aO _ _ _ (@aA _ _ _ _ _ _ _ _ _ be O B.isi OP ((pv 1)^^^((bN (v:=.ty "tuple") O B.tuple OT O)^^^ad)) ∅ ∅ O O) (by intro _;rfl))) (bG ((@ah _ _ _ _ _ _ _ _ _ _ DD (hr.mono (show 1<=2+n by lia)) O ((pv 0)^^^(ae^^^ad)) ∅ O O)<*>bc<*>ae))))<|>((pv 1)⁻¹)<|>az)<<<((ib (own:=["_law_one"]) (cs:=["_law_pot_here"]) (cap:=[0]) O (gz (pv 1)) (cY (sc:=defScope fY) (N:=["_law_pot_here","_law_thing"]) O O ∅) (λ _ _ _ _ _=>ap (i:=0) (by show List.Nodup (["_law_one","_law_pot_here"]:OI Str) ;decide +kernel) O (Or.inl O) (Or.inr O)) (λ _ _ _ _ _=>dL) (λ _ _ _ _ _=>(DLs∪((pv 1)^^^((pv 0)^^^ad)))))⁻¹))|?_];dsimp only[bW];obtain⟨_,hp0⟩:=bR pt;cases hd with
 | non=>exact%[_,O,_,_,_,_,_,O,(Ty.non (K:=K)).2,O,aZ "NoneType" (by simp[ax]),_,O|aH (aH %[_,O|q _ _ _ (.non) (.same _) (.inl %[O|O]) pt But.refl'])]
 | bl b=>exact%[_,O,_,_,_,_,_,O,(Ty.bl (K:=K)).2,O,aZ "bool" (by simp[ax]),_,O|aH (aH %[_,O|q _ _ _ (.bl b) (.same _) (.inl %[O|O]) pt But.refl'])]
 | int i=>exact%[_,O,_,_,_,_,_,O,(Ty.int (K:=K)).2,O,aZ "int" (by simp[ax]),_,O|aH (aH %[_,O|q _ _ _ (.int i) (.same _) (.inl %[O|O]) pt But.refl'])]
 | str z=>exact%[_,O,_,_,_,_,_,O,(Ty.str (K:=K)).2,O,aZ "str" (by simp[ax]),_,O|aH (aH %[_,O|q _ _ _ (.str z) (.same _) (.inl %[O|O]) pt But.refl'])]
 | lst n h r=>exact%[_,O,_,_,_,_,_,O,(Ty.lst h (K:=K)).2,O,aZ "list" (by simp[ax]),_,O|aH (aH %[_,O|q _ _ _ (.lst n h r) (.same _) (.inl %[O|O]) pt But.refl'])]
 | emp h=>exact%[_,O,_,_,_,_,_,O,(Ty.dK h (K:=K)).2,O,aZ "dict" (by simp[ax]),_,O|aH (aH %[_,O|q _ _ _ (.emp h) (.same _) (.inl %[O|O]) pt But.refl'])]
 | @tup a xs ds h r=>
  refine%[_,O,_,_,_,_,_,O,(Ty.tup h (K:=K)).2,O,aZ "tuple" (by simp[ax]),_,O|aM %[_,O,p,3,O,pt,∅,∅|λ z H1 z0 z1 pt1 b1=>%[O,_,O|?_]]];have np:a≠p:=λ z=>by rw[z,hp0]at h;cases h
  have h1:=b1 _ _ np h;have r1:=r.but %[_|hp0] b1;refine cj (λ c=>%[_,O|q _ _ _ (.tup h1 r1) (.same _) (.inl %[O|O]) pt1 b1]) (λ c=>?_);have hl:=r1.length;have wl:=pU ds;have dz:wts ds+1<=30000:=dz;have hn:PyData.depthAll ds+1 < n+1:=hn;have sz:40000 < sizeLine:=∅
  refine%[_,O,a,O,%[_|G1 h1]|(eO (K:=K) (.inr h1) (λ i ys Hx=>PotC Hx p/\But p H1 Hx/\∃ds',Dts p Hx ys ds'/\Lsds (ds.take i) ds') (λ i ys Hx _ e o ho=>e.2.1 _ _ np ho) %[pt1,But.refl',[],.nil|.nil] ?_ ?_).2 h1]
  ·rintro i x ys Hx hi ⟨ptx,bx,ds',dy,ly⟩;have hin:i < xs.length:=(A5.mp hi).1;obtain⟨d,hd,hx⟩:=r1.get hi;have yl:=dy.length;have yl2:=ly.length;rw[J2]at yl2;have dm:=B5 hd;have d1:=jP dm;have w1:=pV dm;obtain⟨_,hp1⟩:=bR pt1;refine%[⋯,leS.set rfl|dM %[_,O,_,O,p,x,d,O,ptx,hx.but %[_|hp1] bx,⋯,⋯|λ v' d' H2 dv ld _ pt2 b2=>?_]];obtain⟨_,hpx⟩:=bR ptx;refine Nx.of hin %[pt2,bx.trans b2,ds' ++ [d'],(dy.but %[_|hpx] b2).app (.cons dv .nil)|?_];rw[K2,hd];exact ly.snoc ld
  ·rintro ys Hx ⟨ptx,bx,ds',dy,ly⟩;have yl:=dy.length;have yl2:=ly.length;rw[J2]at yl2;refine%[⋯|λ t ht=>?_];obtain⟨n1,n2⟩:=(b1.trans bx).freeC ptx ht;rw[hl,K4]at ly;exact q _ _ _ (.lst n1 aj (dy.same (G0 ht))) (.row ly) (.inr %[t,ys,O,n2|aj]) (ptx.new ht) (b1.trans (bx.trans (But.new ht)))
theorem rg{f:OE}{fd:F7}(F:Fun K "_law_lists" "_law_lists" fY f fd):FnOk P w K mg base CX0 2 f fd ["_law_pot_here","_law_thing"] (spLists 0):=by
 refine F.ok sclists (λ vs H Q E h=>?_) (λ cdv A outer s H vs Q E hr h=>?_)
 ·obtain⟨p,v,d,rfl,_⟩:=h
  rfl
 ·obtain⟨p,v,d,rfl,_,_,z,_⟩:=h;exact absurd z (E7 _)
theorem jT{f:OE}{fd:F7}(F:Fun K "_law_lists" "_law_lists" fY f fd)(B:Blt mg)(DD:Dn P w K mg base "_law_take" ["_law_pot_here","_law_many"] 1 (spTake))(mk:∀n,FnOk P w K mg base CX0 (2+n) f fd ["_law_pot_here","_law_thing"] (spLists n)->Dn P w K mg base "_law_lists" ["_law_pot_here","_law_thing"] (2+n) (spLists n)):∀n,FnOk P w K mg base CX0 (2+n) f fd ["_law_pot_here","_law_thing"] (spLists n)
 | 0=>rg F
 | n+1=>uP F B n DD (mk n (jT F B DD mk n))
end
def tlW(dn:Bool):Tl->Bool
 | .row d _=>d == dn
 | _=>false
def toL:Tls->OI (Int×Tl)
 | .nil=>[]
 | .cons n t r=>(n,t) :: toL r
theorem kX:∀r:Tls,ofL (toL r)=r
 | .nil=>rfl
 | .cons n t r=>by rw[toL,ofL,kX r]
theorem gp:∀l:OI (Int×Tl),toL (ofL l)=l
 | []=>rfl
 | z :: l=>by rw[ofL,toL,gp l]
mutual
noncomputable def hW:Tl->Tr
 | .rest=>.rest
 | .piece i c x y=>.piece i c x y
 | .row dn r=>trs dn r
noncomputable def trs(dn:Bool):Tls->Tr
 | .nil=>.rest
 | .cons n t r=>match r with
  | .nil=>hW t
  | .cons ..=>.cut dn n (hW t) (trs dn r)
end
theorem xb(dn:Bool)(n:Int)(t:Tl):trs dn (.cons n t .nil)=hW t:=by rw[trs]
theorem xc(dn:Bool)(n m:Int)(t u:Tl)(r:Tls):trs dn (.cons n t (.cons m u r))=.cut dn n (hW t) (trs dn (.cons m u r)):=by rw[trs]
theorem uQ(dn:Bool)(r:Tls):hW (.row dn r)=trs dn r:=by rw[hW]
def wyO:Tl->V
 | .row dn _=>.str (wyL dn)
 | _=>.non
theorem Dt.rowT{K:C4}{p:OE}{H:Hp}{v:V}{d:PyData}{ds:OI PyData}(h:Dt p H v d)(er:aI d=some ds):∃a xs T,v=.ref a/\(H a=↥xs\/H a= ~~~xs)/\Dts p H xs ds/\Ty K H v T/\(T == "list" || T == "tuple")=true:=by
 rcases h.row (K:=K)with⟨e,_⟩ | ⟨a,xs,ds',T,e,e2,hx,dx,ty,hT⟩
 ·rw[e]at er;cases er
 ·rw[e]at er;cases er;exact%[a,xs,T,e2,hx,dx,ty|hT]
def wyD(d:PyData):OG Bool:=if bw d (wyL true) 2=true then some true else if bw d (wyL false) 2=true then some false else none
def wyV:OG Bool->V
 | none=>.non
 | some dn=>.str (wyL dn)
def whD:PyData->Int->Bool
 | .int n,l=>decide (l<=n)
 | _,_=>false
def szD(dn:Bool)(d:PyData):Bool:=match aI d with
 | some [x,y]=>whD x 1 && decide (wyD y≠some dn)
 | _=>false
def fsI(d:PyData):Int:=match aI d with
 | some (.int n :: _)=>n
 | _=>0
def dvD(b s:Int)(dn:Bool)(d:PyData):Bool:=match aI d with
 | some es=>decide (2<=es.length) && (es.all (szD dn) && decide ((es.map fsI).sum+b * ((es.length:Int) - 1)=s))
 | none=>false
theorem kY{dn:Bool}{d:PyData}(h:szD dn d=true):∃n y,aI d=some [.int n,y]/\1<=n/\wyD y≠some dn/\fsI d=n:=by
 unfold szD at h
 split at h
 ·rename_i x y e
  rw[G8]at h;obtain⟨h1,h2⟩:=h;cases x with
  | int n=>exact%[n,y,e,C0 h1,C0 h2|by unfold fsI;rw[e]]
  | _=>cases h1
 ·cases h
theorem zL(o:OG Bool)(dn:Bool):(!decide (wyV o=.str (wyL dn)))=decide (o≠some dn):=by
 cases o with
 | none=>rfl
 | some e=>cases e <;> cases dn <;> decide +kernel
theorem Dt.wh{p:OE}{H:Hp}{v:V}{d:PyData}(h:Dt p H v d)(l:Int):aR v l=whD d l:=by cases h <;> rfl
section
variable{P:F6}{w:F8}{K:C4}{mg:Str->OG F9}{base:Heap}
inductive spWayX(vs:OI V)(H:Hp)(Q:VK)(E_:XK):Prop
|mk(pp:OE)(v:V)(d:PyData)(_:vs=[v])(_:Dt pp H v d)(_:∀(H':Hp),Same H H'->Q (wyV (wyD d)) H')
inductive spSizX(vs:OI V)(H:Hp)(Q:VK)(E_:XK):Prop
|mk(pp:OE)(v:V)(d:PyData)(dn:Bool)(_:vs=[.str (wyL dn),v])(_:Dt pp H v d)(_:∀(H':Hp),Same H H'->Q (.bl (szD dn d)) H')
inductive spDivX(vs:OI V)(H:Hp)(Q:VK)(E_:XK):Prop
|mk(pp:OE)(v:V)(d:PyData)(b s:Int)(dn:Bool)(_:vs=[.int b,.int s,.str (wyL dn),v])(_:Dt pp H v d)(_:(∀es,aI d=some es->es.length<=900))(_:∀(H':Hp),Same H H'->Q (.bl (dvD b s dn d)) H')
inductive spPartA(vs:OI V)(H:Hp)(Q:VK)(E_:XK):Prop
|mk(c:OE)(w h n:Int)(dn:Bool)(_:vs=[.ref c,.str (wyL dn),.int n])(_:H c= ~~~[.int w,.int h])(_:∀(r:OE)(H':Hp),H' r= ~~~[.int (if dn=true then n else w),.int (if dn=true then h else n)]->Same H H'->Q (.ref r) H')
theorem scparta:FnScope ["part","way","size"] ["part","way","size"] (defScope dZ):=%[O,O,O,∅,O,∅|∅]
theorem uR{f wa:OE}{fd:F7}(F:Fun K "part_along" "part_along" dZ f fd)(Z:TrC K mg wa):FnOk P w K mg base CX0 1 f fd ["part","way","size"] (spPartA):=by
 refine F.ok scparta (λ vs H Q E h=>?_) (λ cdv A outer s H vs Q E hr h=>?_)
 ·obtain⟨c,w1,h1,n,dn,rfl,_⟩:=h
  rfl
 obtain⟨c,w1,h1,n,dn,rfl,hc,q⟩:=h;have nd:=scparta.nd;obtain⟨tdn,hdn⟩:=Z.dn;refine%[_,((fZ ((pv 1)<*>bc<*>(aP (v:=.str "down") O hdn %[tdn|O])) (@ar _ _ _ _ _ ((pv 2)^^^(((pv 0)&&&ix_tup&&&ae)^^^ad))) (@ar _ _ _ _ _ (((pv 0)&&&ix_tup&&&ae)^^^((pv 2)^^^ad))))⁻¹)|?_];dsimp only[bW];refine%[_,O,O,_,O|?_];cases dn with
 | true=>exact cK ∅ %[_,rfl,_,rfl,c,_,1,_,rfl,rfl,G1 hc,rfl,zS2|λ r hr=>q r _ aj (G0 hr)]
 | false=>exact cL ∅ %[_,rfl,c,_,0,_,rfl,rfl,G1 hc,rfl,_,rfl,zS2|λ r hr=>q r _ aj (G0 hr)]
theorem scwayof:FnScope ["thing","way"] ["thing"] (defScope kN):=%[O,O,O,∅,O,∅|∅]
theorem uS{f wa:OE}{fd:F7}(F:Fun K "way_of" "way_of" kN f fd)(Z:TrC K mg wa)(hc2:∃t,mg "THINGS_OF_A_CUT_TELLING" = some (.int 2 t))(DB:Dn P w K mg base "begins_with" ["thing","word","many"] 2 (spBegins)):FnOk P w K mg base CX0 3 f fd ["thing"] (spWayX):=by
 refine F.ok scwayof (λ vs H Q E h=>?_) (λ cdv A outer s H vs Q E hr h=>?_)
 ·obtain⟨pp,v,d,rfl,_⟩:=h
  rfl
 obtain⟨pp,v,d,rfl,hd,q⟩:=h;have nd:=scwayof.nd;obtain⟨tt2,ht2⟩:=hc2;refine%[_,((@df _ _ _ _ _ _ _ _ E2 O (gz (aP (v:=.ref wa) O Z.wy O)) (ap (i:=1) nd O (Or.inl O)) (@ag _ _ _ ((@aO _ _ _ (DB∪((pv 0)^^^((pv 1)^^^((aP (v:=.int 2) O ht2 %[tt2|O])^^^ad)))) (by intro _;rfl))<|>((pv 1)⁻¹)<|>az)) (by intro _;rfl))<<<(dR⁻¹))|?_];dsimp only[bW];refine%[wa,O,%[_|Z.wq H]|ia (xs:=[.str "down",.str "across"]) (λ i σ H'=>(∃v1,σ=[some v,v1])/\Same H H'/\(1<=i->bw d (wyL true) 2=false)/\(2<=i->bw d (wyL false) 2=false)) %[%[_|O],Same.refl _,λ z=>absurd z ∅|λ z=>absurd z ∅] (λ i σ H' _ _=>Z.wq H') ?_ ?_]
 ·rintro i y σ H1 hi ⟨⟨v1,rfl⟩,s1,g1,g2⟩
  match i,hi with
  | 0,hi=>
   cases hi;refine%[_,O,_,O,pp,v,d,wyL true,2,O,∅,hd.same s1|λ H2 s12=>%[_,O|?_]];have s2:=s1.trans s12;have q1:=q H2 s2;unfold wyD at q1;refine cj (λ hb=>%[_,O|?_]) (λ hb=>%[%[_|O],s2,λ _=>by simpa using hb|λ z=>absurd z ∅]);rw[OR hb]at q1;exact q1
  | 1,hi=>
   cases hi;refine%[_,O,_,O,pp,v,d,wyL false,2,O,∅,hd.same s1|λ H2 s12=>%[_,O|?_]];have s2:=s1.trans s12;have q1:=q H2 s2;unfold wyD at q1;rw[g1 ∅,OQ B1]at q1;refine cj (λ hb=>%[_,O|?_]) (λ hb=>%[%[_|O],s2,λ _=>g1 ∅|λ _=>by simpa using hb]);rw[OR hb]at q1;exact q1
 ·rintro σ H1 ⟨⟨v1,rfl⟩,s1,g1,g2⟩;have q1:=q H1 s1;unfold wyD at q1;rw[g1 ∅,g2 ∅,OQ B1]at q1;exact q1
theorem scsized:FnScope ["way","thing"] ["way","thing"] (defScope gh):=%[O,O,O,∅,O,∅|∅]
theorem uT{f:OE}{fd:F7}(F:Fun K "is_sized" "is_sized" gh f fd)(B:Blt mg)(DR:Dn P w K mg base "is_row" ["thing"] 1 (jD K))(DW:Dn P w K mg base "is_whole" ["thing","least"] 1 (cQ K))(DWo:Dn P w K mg base "way_of" ["thing"] 3 (spWayX)):FnOk P w K mg base CX0 4 f fd ["way","thing"] (spSizX):=by
 refine F.ok scsized (λ vs H Q E h=>?_) (λ cdv A outer s H vs Q E hr h=>?_)
 ·obtain⟨pp,v,d,dn,rfl,_⟩:=h
  rfl
 obtain⟨pp,v,d,dn,rfl,hd,q⟩:=h;have nd:=scsized.nd;refine%[_,((bZ (DR∩((pv 1)^^^ad)) (bZ (@bh _ _ _ _ _ _ _ _ bc (@aA _ _ _ _ _ _ _ _ _ aN O B.len OW ((pv 1)^^^ad) ∅ ∅ O O) ae (aB _)) (bZ (DW∩(((pv 1)&&&bQ&&&ae)^^^(ae^^^ad))) (de (@bh _ _ _ _ _ _ _ _ cI (DWo∪(((pv 1)&&&bQ&&&ae)^^^ad)) (pv 0) (aB _))))))⁻¹)|?_];dsimp only[bW];rcases hd.row (K:=K)with⟨e,T0,t0,rT⟩ | ⟨a,xs,ds,T0,er,rfl,hx,dx,t0,rT⟩
 ·refine%[_,O,v,T0,O,t0|λ H1 s1=>%[_,O|?_]];rw[rT];have q1:=q H1 s1;unfold szD at q1;rw[e]at q1;exact aM q1
 refine%[_,O,.ref a,T0,O,t0|λ H1 s1=>%[_,O|?_]];rw[rT];have sq:SqL K H1 a xs\/SqT K H1 a xs:=hx.imp (λ z=>G2 (s1 _ _ z)) λ z=>G1 (s1 _ _ z);have xl:=dx.length;refine aH %[_,rfl,a,_,rfl,sq,rfl,_,rfl|?_];have q1:=q H1 s1;unfold szD at q1;rw[er]at q1;cases dx with
 | nil=>exact cL rfl q1
 | @cons x0 d0 xs0 ds0 g0 dx=>
 cases dx with
 | nil=>exact cL rfl q1
 | @cons x1 d1 xs1 ds1 g1 dx=>
 cases dx with
 | @cons x2 d2 xs2 ds2 g2 dx=>
  refine cL (B0 λ z=>?_) q1;have:=V.int.inj z;simp only[I9]at this;lia
 | nil=>
 obtain⟨U,tu⟩:=(g0.same s1).ty (K:=K);refine cK rfl %[_,rfl|ixR s1 hx (aE (E3 _) rfl) %[x0,U,1,rfl,tu,_,rfl|?_]];rw[g0.wh 1];refine cj (λ hw=>?_) (λ hw=>?_)
 ·refine%[_,O|ixR s1 hx (aE ∅ rfl) %[pp,x1,d1,O,g1.same s1|λ H2 s2=>⟨_,O,by cases wyD d1 <;> rfl,?_⟩]];have q2:=q H2 (s1.trans s2);unfold szD at q2;rw[er]at q2;dsimp only at q2;rw[hw,J6]at q2;rw[zL];exact q2
 ·dsimp only at q1;have hf:whD d0 1=false:=by simpa using hw
  rw[hf,J8]at q1;exact q1
theorem scdivd:FnScope ["blade","side","way","row"] ["blade","side","way","row"] (defScope cA):=%[O,O,O,∅,O,∅|∅]
theorem xf{f:OE}{fd:F7}(F:Fun K "is_divided" "is_divided" cA f fd)(B:Blt mg)(hc2:∃t,mg "LEAST_IN_A_ROW" = some (.int 2 t))(DR:Dn P w K mg base "is_row" ["thing"] 1 (jD K))(DSz:Dn P w K mg base "is_sized" ["way","thing"] 4 (spSizX)):FnOk P w K mg base CX0 5 f fd ["blade","side","way","row"] (spDivX):=by
 refine F.ok scdivd (λ vs H Q E h=>?_) (λ cdv A outer s H vs Q E hr h=>?_)
 ·obtain⟨pp,v,d,b,s,dn,rfl,_⟩:=h
  rfl
 obtain⟨pp,v,d,b,s,dn,rfl,hd,l9,q⟩:=h;have nd:=scdivd.nd;obtain⟨tl2,hl2⟩:=hc2;refine%[_,(((PW.pt (bn (@aS _ _ _ _ (@aO _ _ _ (DR∩((pv 3)^^^ad)) (by intro _;rfl))) (bn ((@aA _ _ _ _ _ _ _ _ _ aN O B.len OW ((pv 3)^^^ad) ∅ ∅ O O)<*>jt<*>(aP (v:=.int 2) O hl2 ⟨tl2,O⟩)) (bG (@aS _ _ _ _ (@aO _ _ _ (@aA _ _ _ _ _ _ _ _ _ (qH O) O B.all PyProof.Rows.boot_all ((ib (own:=["thing"]) (cs:=["way"]) (cap:=[2]) O (kG (pv 3)) (cY (sc:=defScope cA) (N:=["blade","side","way","row"]) O O ∅) (λ _ _ _ _ _=>ap (i:=0) (by show List.Nodup (["thing","way"]:OI Str) ;decide +kernel) O (Or.inl O) (Or.inr O)) (λ _ _ _ _ _=>dL) (λ _ _ _ _ _=>(DSz∪((pv 1)^^^((pv 0)^^^ad)))))^^^ad) ∅ ∅ O O) (by intro _;rfl)))))))<|>(bF⁻¹)<|>az)<<<((@bh _ _ _ _ _ _ _ _ bc ((@aA _ _ _ _ _ _ _ _ _ (qF O) O B.sum PyProof.Rows.boot_sum ((ib (own:=["thing"]) (cs:=[]) (cap:=[]) O (kG (pv 3)) (cY (sc:=defScope cA) (N:=["blade","side","way","row"]) O O ∅) (λ _ _ _ _ _=>ap (i:=0) (by show List.Nodup (["thing"]:OI Str) ;decide +kernel) O (Or.inl O) (Or.inr O)) (λ _ _ _ _ _=>dL) (λ _ _ _ _ _=>(ai (r:=rIx K) bQ (pv 0) ae (λ _ _=>O))))^^^ad) ∅ ∅ O O)|||aX|||((pv 0)|||fM|||((@aA _ _ _ _ _ _ _ _ _ aN O B.len OW ((pv 3)^^^ad) ∅ ∅ O O)|||bH|||ae))) (pv 1) (aB _))⁻¹))|?_];dsimp only[bW];have sz:(1000:Nat) < sizeLine:=∅
 rcases hd.row (K:=K)with⟨e,T0,t0,rT⟩ | ⟨a,xs,es,T0,er,rfl,hx,dx,t0,rT⟩
 ·refine%[_,O,v,T0,O,t0|λ H1 s1=>%[_,O|?_]];rw[rT];have q1:=q H1 s1;unfold dvD at q1;rw[e]at q1;exact aH (aH q1)
 have xl:=dx.length;have l9:=l9 es er;have dv:dvD b s dn d=(decide (2<=es.length) && (es.all (szD dn) && decide ((es.map fsI).sum+b * ((es.length:Int) - 1)=s))):=by unfold dvD;rw[er]
 refine bf (λ R=>∀(H':Hp),Same H H'->2<=es.length->es.all (szD dn)=true->R [⇑b,⇑s,some (.str (wyL dn)),↑a] H') (λ R hR=>?_) ?_
 ·refine%[_,O,.ref a,T0,O,t0|λ H1 s1=>%[_,O|?_]];rw[rT];have hx1:=hx.imp (s1 _ _) (s1 _ _);have sq:SqL K H1 a xs\/SqT K H1 a xs:=hx1.imp (λ z=>G2 z) λ z=>G1 z;refine aM %[_,rfl,a,_,rfl,sq,_,_,rfl,rfl,_,rfl|?_];refine cj (λ hl=>?_) (λ hl=>?_)
  ·have q1:=q H1 s1;have hl':¬ 2<=es.length:=by have:=C0 hl;lia
   rw[dv,OS hl',J8]at q1;exact aH q1
  have hl':2<=es.length:=by
   have:decide ((xs.length:Int) < 2)=false:=by simpa using hl
   have:=of_decide_eq_false this;lia
  refine%[_,O,a,O|gM (K:=K) hx1 (λ i us Hx=>Same H1 Hx/\us=((es.take i).map (szD dn)).map V.bl) (λ i us Hx _ e o h=>e.1 _ _ h) %[Same.refl _|O] ?_ ?_]
  ·rintro i x us Hx hi ⟨sx,rfl⟩;have hin:i < xs.length:=(A5.mp hi).1;obtain⟨e,he,hxe⟩:=dx.get hi;refine%[by rw[J1,J1,J2];lia,leS.set rfl|dM %[_,O,_,O,pp,x,e,dn,O,hxe.same (s1.trans sx)|λ H3 s3=>Nx.of hin %[sx.trans s3|?_]]];rw[K2,he];simp only[Option.toList_some,N3,J4,List.map_nil]
  ·rintro us Hx ⟨sx,rfl⟩;rw[show es.take xs.length=es by rw[show xs.length=es.length by lia,K4]];refine%[by rw[J1,J1];lia|λ l' hl'=>%[l',_,O,G2 aj,_,O|?_]];have ea:(es.map (szD dn)).all id=es.all (szD dn):=by rw[List.all_map];rfl
   rw[ea];have s9:=s1.trans (sx.trans (G0 (o:=.lst ((es.map (szD dn)).map V.bl)) hl'));cases hz:es.all (szD dn)with
   | true=>exact aM (hR _ s9 (by assumption) hz)
   | false=>
    have q1:=q _ s9;rw[dv,hz,J8,J3]at q1;exact aH q1
 rintro H1 s1 l2 al;have hx1:=hx.imp (s1 _ _) (s1 _ _);refine%[_,O,a,O|gM (K:=K) hx1 (λ i us Hx=>Same H1 Hx/\us=((es.take i).map fsI).map V.int) (λ i us Hx _ e o h=>e.1 _ _ h) %[Same.refl _|O] ?_ ?_]
 ·rintro i x us Hx hi ⟨sx,rfl⟩;have hin:i < xs.length:=(A5.mp hi).1;obtain⟨e,he,hxe⟩:=dx.get hi;obtain⟨n,y,er2,n1,_,ef⟩:=kY (M9.mp al e (B5 he));obtain⟨a2,xs2,rfl,hx2,dx2⟩:=hxe.ref_row er2;cases dx2 with
  | cons g0 dx2=>
  cases g0;refine%[by rw[J1,J1,J2];lia,leS.set rfl|dM %[_,O|ixR (s1.trans sx) hx2 (aE (E3 _) rfl) (Nx.of hin %[sx|?_])]];rw[K2,he];simp only[Option.toList_some,N3,J4,List.map_nil,ef]
 ·rintro us Hx ⟨sx,rfl⟩;have hx3:=hx1.imp (sx _ _) (sx _ _);rw[show es.take xs.length=es by rw[show xs.length=es.length by lia,K4]];refine%[by rw[J1,J1];lia|λ l' hl'=>%[l',_,O,G2 aj|?_]];have s4:=G0 hl' (o:=.lst ((es.map fsI).map V.int));have sq:SqL K _ a xs\/SqT K _ a xs:=(hx3.imp (s4 _ _) (s4 _ _)).imp (λ z=>G2 z) λ z=>G1 z;refine%[_,O,_,O,a,_,O,sq,_,_,O,O,_,_,O,O,.inr %[⋯|⋯],_,_,O,O,_,O,O|?_];have q1:=q _ (s1.trans (sx.trans s4));rw[dv,OO l2,al,J6,J6]at q1;rw[show(xs.length:Int)=(es.length:Int)by lia,show decide (V.int ((es.map fsI).sum+b * ((es.length:Int) - 1))=V.int s)=decide ((es.map fsI).sum+b * ((es.length:Int) - 1)=s)from decide_eq_decide.mpr %[λ z=>V.int.inj z|λ z=>by rw[z]]];exact q1
end
inductive Wd:PyData->Prop
|mk{d:PyData}(_:∀es,aI d=some es->es.length<=63)(_:∀es e,aI d=some es->e∈es->Wd e):Wd d
theorem Wd.len{d:PyData}{es:OI PyData}(h:Wd d)(e:aI d=some es):es.length<=63:=by
 cases h with
 | mk h _=>exact h es e
theorem Wd.mem{d x:PyData}{es:OI PyData}(h:Wd d)(e:aI d=some es)(hx:x∈es):Wd x:=by
 cases h with
 | mk _ h=>exact h es x e hx
def cW{α β:Type}(f:α->OG β):OI α->OG (OI β)
 | []=>some []
 | a :: l=>match f a with
  | some b=>(cW f l).map (b :: ·)
  | none=>none
theorem gO{α β:Type}{f:α->OG β}{a:α}{b:β}:∀{l:OI α}{r:OI β},cW f l=some r->f a=some b->cW f (l ++ [a])=some (r ++ [b])
 | [],r,h,e=>by cases h;show cW f [a]=some [b];unfold cW;rw[e];rfl
 | x :: l,r,h,e=>by
  show cW f (x :: (l ++ [a]))=_;unfold cW at h ⊢
  split at h
  ·rename_i y ey
   obtain⟨r',hr,rfl⟩:=M3.mp h;rw[gO hr e];rfl
  ·cases h
theorem gP{α β:Type}{f:α->OG β}{a:α}:∀{l:OI α},a∈l->f a=none->cW f l=none
 | x :: l,h,e=>by
  unfold cW;rcases G6.mp h with z | z
  ·rw[<- z,e]
  ·split
   ·rw[gP z e];rfl
   ·rfl
theorem eZ{α β:Type}{f:α->OG β}:∀{l:OI α}{r:OI β},cW f l=some r->r.length=l.length
 | [],r,h=>by cases h;rfl
 | x :: l,r,h=>by
  unfold cW at h
  split at h
  ·obtain⟨r',hr,rfl⟩:=M3.mp h;rw[I9,I9,eZ hr]
  ·cases h
theorem fb{α β:Type}{f:α->OG β}{b:β}:∀{l:OI α}{r:OI β},cW f l=some r->b∈r->∃a∈l,f a=some b
 | [],r,h,hb=>by cases h;cases hb
 | x :: l,r,h,hb=>by
  unfold cW at h
  split at h
  ·rename_i y ey
   obtain⟨r',hr,rfl⟩:=M3.mp h;rcases G6.mp hb with z | z
   ·exact%[x,B7|by rw[z];exact ey]
   ·obtain⟨a,ha,e⟩:=fb hr z;exact%[a,B3 _ ha|e]
  ·cases h
def lfR:OI PyData->OG Tl
 | []=>some .rest
 | [.int i,.bool c,.int x,.int y]=>some (.piece i.toNat c x y)
 | _=>none
def lfD(d:PyData):OG Tl:=match aI d with
 | some (_ :: r)=>lfR r
 | _=>none
def rdI(f:Int->Int->PyData->OG Tl)(dn:Bool)(w h:Int)(x:PyData):OG (Int×Tl):=match aI x with
 | some [.int s,y]=>(f (if dn=true then s else w) (if dn=true then h else s) y).map λ t=>(s,t)
 | _=>none
def rdS(dn:Bool)(l:OI (Int×Tl)):OG Tl:=if PyData.eqvAll (aF (ofL l)) (aF (ofL (srt l)))=true then some (.row dn (ofL l))else none
def rdT(b:Int)(ks:OI Kd):Nat->Int->Int->PyData->OG Tl
 | 0,_,_,_=>none
 | n+1,w,h,d=>match wyD d with
  | none=>if isL ks w h d=true then lfD d else none
  | some dn=>match aI d with
   | some [_,e]=>if dvD b (if dn=true then w else h) dn e=true then(match aI e with
     | some es=>(cW (rdI (rdT b ks n) dn w h) es).bind (rdS dn)
     | none=>none)else none
   | _=>none
theorem dj{b:Int}{ks:OI Kd}{n:Nat}{w h:Int}{d:PyData}(e:wyD d=none):rdT b ks (n+1) w h d=if isL ks w h d=true then lfD d else none:=by rw[rdT,e]
theorem fE{b:Int}{ks:OI Kd}{n:Nat}{w h:Int}{d x e:PyData}{es:OI PyData}{dn:Bool}(e1:wyD d=some dn)(e2:aI d=some [x,e])(e3:aI e=some es):rdT b ks (n+1) w h d=if dvD b (if dn=true then w else h) dn e=true then(cW (rdI (rdT b ks n) dn w h) es).bind (rdS dn)else none:=by rw[rdT,e1];dsimp only;rw[e2];dsimp only;rw[e3]
theorem cD{b:Int}{ks:OI Kd}{n:Nat}{w h:Int}{d x e:PyData}{dn:Bool}(e1:wyD d=some dn)(e2:aI d=some [x,e])(e3:dvD b (if dn=true then w else h) dn e=false):rdT b ks (n+1) w h d=none:=by rw[rdT,e1];dsimp only;rw[e2];dsimp only;rw[e3,OQ B1]
theorem iZ{d:PyData}{dn:Bool}(h:wyD d=some dn):∃e,aI d=some [.str (wyL dn),e]:=by
 have hb:bw d (wyL dn) 2=true:=by
  unfold wyD at h
  split at h
  ·cases h;assumption
  ·split at h
   ·cases h;assumption
   ·cases h
 unfold bw at hb
 split at hb
 ·rename_i y r er
  simp only[G8,Ov]at hb;obtain⟨h1,h2⟩:=hb
  match r,h1 with
  | [e],_=>exact%[e|by rw[er,h2]]
 ·cases hb
theorem gQ{b s:Int}{dn:Bool}{d:PyData}(h:dvD b s dn d=true):∃es,aI d=some es/\2<=es.length/\(∀e∈es,szD dn e=true)/\(es.map fsI).sum+b * ((es.length:Int) - 1)=s:=by
 unfold dvD at h
 split at h
 ·rename_i es er
  rw[G8,G8]at h;exact%[es,er,C0 h.1,M9.mp h.2.1|C0 h.2.2]
 ·cases h
theorem gR{d x:PyData}{es:OI PyData}(h:aI d=some es)(hx:x∈es):x.depth+1<=d.depth:=by
 have:∀es:OI PyData,x∈es->x.depth<=PyData.depthAll es:=λ es=>by
  induction es with
  | nil=>intro h;cases h
  | cons y es ih=>
   intro h;show _<=max y.depth (PyData.depthAll es);rcases G6.mp h with e | h
   ·rw[e];lia
   ·have:=ih h;lia
 have e:=this es hx;cases d with
 | list ds=>cases h;show _<=PyData.depthAll es+1;lia
 | tuple ds=>cases h;show _<=PyData.depthAll es+1;lia
 | _=>cases h
theorem yE{d:PyData}{es:OI PyData}(h:aI d=some es):d.depth=PyData.depthAll es+1:=by
 cases d with
 | list ds=>cases h;rfl
 | tuple ds=>cases h;rfl
 | _=>cases h
theorem uU{d:PyData}{t:Tl}(h:lfD d=some t):(tlD t).depth<=d.depth:=by
 unfold lfD at h
 split at h
 ·rename_i x0 r e
  rw[yE e];unfold lfR at h
  split at h
  ·cases h;exact K9 (E6 _)
  ·cases h;exact K9 (E6 _)
  ·cases h
 ·cases h
theorem dQ{f:Int->Int->PyData->OG Tl}{dn:Bool}{w h:Int}{x:PyData}{z:Int×Tl}(e:rdI f dn w h x=some z):∃y,aI x=some [.int z.1,y]/\f (if dn=true then z.1 else w) (if dn=true then h else z.1) y=some z.2:=by
 unfold rdI at e
 split at e
 ·rename_i s y er
  obtain⟨t,ht,rfl⟩:=M3.mp e;exact%[y,er|ht]
 ·cases e
theorem fF{m:Nat}:∀{l:OI (Int×Tl)},(∀z∈l,(tlD z.2).depth+1<=m)->PyData.depthAll (aF (ofL l))<=m
 | [],_=>by rw[ofL,aF];exact E6 _
 | z :: l,h=>by rw[ofL,aF];have h1:=h z B7;have h2:=fF (l:=l) λ y hy=>h y (B3 _ hy);show max (max 0 (max (tlD z.2).depth 0)+1) _<=m;lia
theorem ja{dn:Bool}{l:OI (Int×Tl)}{t:Tl}(h:rdS dn l=some t):t=.row dn (ofL l)/\srt l=l:=by
 unfold rdS at h
 split at h
 ·rename_i e
  cases h;have:=(ii _ _).mp e;refine%[O|?_];have z:=On toL this;rw[gp,gp]at z;exact z.symm
 ·cases h
theorem fG{b:Int}{ks:OI Kd}:∀{n:Nat}{w h:Int}{d:PyData}{t:Tl},rdT b ks n w h d=some t->(tlD t).depth<=d.depth
 | 0,_,_,_,_,e=>by rw[rdT]at e;cases e
 | n+1,w,h,d,t,e=>by
  cases hw:wyD d with
  | none=>
   rw[dj hw]at e
   split at e
   ·exact uU e
   ·cases e
  | some dn=>
   obtain⟨e2,er⟩:=iZ hw;cases hv:dvD b (if dn=true then w else h) dn e2 with
   | false=>rw[cD hw er hv]at e;cases e
   | true=>
    obtain⟨es,er2,_⟩:=gQ hv;rw[fE hw er er2,OR hv]at e;obtain⟨l,hl,e⟩:=Option.bind_eq_some_iff.mp e;obtain⟨rfl,_⟩:=ja e;rw[tlD];have:=fF (m:=e2.depth - 1) (l:=l) λ z hz=>by obtain⟨x,hx,ex⟩:=fb hl hz;obtain⟨y,ey,ez⟩:=dQ ex;have d1:=fG ez;have d2:=gR ey (B3 _ B7);have d3:=gR er2 hx;lia
    have d4:=gR er (B3 _ B7);have d5:=yE er2;show max 0 (max (PyData.depthAll (aF (ofL l))+1) 0)+1<=_;rw[M6,N1];clear hl e er er2 hw hv;lia
theorem Ey{ks:OI Kd}{w h:Int}{d:PyData}(e:isL ks w h d=true):∃t ys,lfD d=some t/\aI d=some ys/\∀{p:OE}{H H':Hp}{xs:OI V}{a:OE},Dts p H xs ys->H' a= ~~~xs->TlV H' t (.ref a):=by
 unfold isL at e
 split at e
 ·rename_i hb
  unfold bw at hb
  split at hb
  ·rename_i y r er
   simp only[G8,Ov]at hb;obtain⟨h1,h2⟩:=hb
   match r,h1 with
   | [k,t,x,z],_=>
    rw[er]at e;dsimp only at e;unfold eA at e
    split at e
    ·rename_i i c x z _
     have i0:0<=i:=by unfold dP at e;rw[G8,G8,G8]at e;obtain⟨i',_,_,ei,_,g,_⟩:=cB e.1.1.1;cases ei;exact g
     refine%[.piece i.toNat c x z,_,by unfold lfD;rw[er];rfl,er|λ {p H H' xs a} dx ha=>?_];cases dx with
     | cons g0 dx=>
     cases dx with
     | cons g1 dx=>
     cases dx with
     | cons g2 dx=>
     cases dx with
     | cons g3 dx=>
     cases dx with
     | cons g4 dx=>
     cases dx;cases g0;cases g1;cases g2;cases g3;cases g4;rw[TlV,M8 i0,<- h2];exact%[a,O|ha]
    ·cases e
  ·cases hb
 ·unfold bw at e
  split at e
  ·rename_i y r er
   simp only[G8,Ov]at e;obtain⟨h1,h2⟩:=e
   match r,h1 with
   | [],_=>
    refine%[.rest,_,by unfold lfD;rw[er];rfl,er|λ {p H H' xs a} dx ha=>?_];cases dx with
    | cons g0 dx=>
    cases dx;cases g0;rw[TlV,<- h2];exact%[a,O|ha]
  ·cases e
theorem Ez{a b c:St}(h1:leS a b)(h2:leS b c):leS a c:=%[h2.1.trans h1.1|λ i v e=>h2.2 i v (h1.2 i v e)]
theorem gq{K:C4}{H:Hp}:∀{vs:OI V}{zs:OI (Int×Tl)},Paired (ItV H) vs zs->DatVs K H vs (aF (ofL zs))
 | _,_,.nil=>by rw[ofL,aF];exact .nil
 | _,_,.cons ⟨a,u,e,h1,h2⟩ r=>by rw[ofL,aF];subst e;exact .cons (.tup (G1 h1) (.cons (.int _) (.cons (TlV.dat _ h2) .nil))) (gq r)
theorem rh(l l':OI (Int×Tl)):PyData.eqv (.list (aF (ofL l))) (.list (aF (ofL l')))=PyData.eqvAll (aF (ofL l)) (aF (ofL l')):=by simp only[PyData.eqv]
section
variable{P:F6}{w:F8}{K:C4}{mg:Str->OG F9}{base:Heap}
inductive spAsX(C NT:OE)(n:Nat)(vs:OI V)(H:Hp)(Q:VK)(E:XK):Prop
|mk(pp s c:OE)(b w h:Int)(ks:OI Kd)(v:V)(d:PyData)(_:vs=[.ref s,.ref c,v])(_:ShopAt C H s b ks)(_:H c= ~~~[.int w,.int h])(_:Dt pp H v d)(_:Wd d)(_:d.depth < n)(_:d.depth<=200)(_:(∀t,rdT b ks n w h d=some t->∀(u:V)(H':Hp),TlV H' t u->Same H H'->Q u H'))(_:(rdT b ks n w h d=none->∀(H':Hp),Same H H'->E (.ref NT) none H'))
theorem scast:FnScope ["shop","part","thing","way","row"] ["shop","part","thing"] (defScope ce):=%[O,O,O,∅,O,∅|∅]
theorem zM{f C NT:OE}{fd:F7}(F:Fun K "as_telling" "as_telling" ce f fd)(B:Blt mg)(T:ShopTxt K C)(n:Nat)(mN:mg "NoTelling" = ↑NT)(eN:ExcC K NT)(MB:Mn P w K mg base C "blade" ["self"] 1 (fh C))(DF:Dn P w K mg base "is_leaf" ["shop","spot"] 5 (spLeaf C))(DWo:Dn P w K mg base "way_of" ["thing"] 3 (spWayX))(DSA:Dn P w K mg base "side_along" ["part","way"] 1 (spSideA))(DPA:Dn P w K mg base "part_along" ["part","way","size"] 1 (spPartA))(DDv:Dn P w K mg base "is_divided" ["blade","side","way","row"] 5 (spDivX))(DT:DnX P w K mg base "as_telling" ["shop","part","thing"] (6+n) (spAsX C NT n)):FnOk P w K mg base (CXx P w) (6+(n+1)) f fd ["shop","part","thing"] (spAsX C NT (n+1)):=by
 refine F.okX scast (λ vs H Q E h=>?_) (λ cdv A outer s H vs Q E hr h=>?_)
 ·obtain⟨pp,s,c,b,w1,h1,ks,v,d,rfl,_⟩:=h
  rfl
 obtain⟨pp,s,c,b,w1,h1,ks,v,d,rfl,SH,hc,hd,wd,dn0,d200,qT,qE⟩:=h;have nd:=scast.nd;have hu:=Room.units220 hr (show 2<=6+n by lia);refine%[_,((@aG _ _ 3 _ _ _ _ nd O (Or.inr O) (@ah _ _ _ _ _ _ _ _ _ _ DWo (hr.mono (show 3<=6+n by lia)) O ((pv 2)^^^ad) ∅ O O) O (Or.inl O))<<<((((pv 3)<*>yW<*>dR)<|>(((@aS _ _ _ _ (@aO _ _ _ (@ah _ _ _ _ _ _ _ _ _ _ DF (hr.mono (show 5<=6+n by lia)) O ((pv 0)^^^((@ar _ _ _ _ _ (ae^^^(ae^^^(((pv 1)&&&ix_tup&&&ae)^^^(((pv 1)&&&ix_tup&&&ae)^^^((pv 2)^^^ad))))))^^^ad)) ∅ O O) (by intro _;rfl)))<|>(@ag _ _ _ (eQ (R:=λ c H=>E c none H) O O mN eN (aJ^^^ad) dg))<|>az)<<<((@bg _ _ _ _ _ _ _ _ _ bB O B.tuple OT ((pv 2)^^^ad) ∅ ∅ O O)⁻¹))<|>az)<<<(((@aS _ _ _ _ (@aO _ _ _ (@ah _ _ _ _ _ _ _ _ _ _ DDv (hr.mono (show 5<=6+n by lia)) O ((mM (pv 0) T.cl MB (hr.mono (show 1<=6+n by lia)))^^^((@ah _ _ _ _ _ _ _ _ _ _ DSA (hr.mono (show 1<=6+n by lia)) O ((pv 1)^^^((pv 3)^^^ad)) ∅ O O)^^^((pv 3)^^^(((pv 2)&&&bQ&&&ae)^^^ad)))) ∅ O O) (by intro _;rfl)))<|>(@ag _ _ _ (eQ (R:=λ c H=>E c none H) O O mN eN (aJ^^^ad) dg))<|>az)<<<((uk (i:=4) (own:=["size","inner"]) (cs:=["shop","part","way"]) (cap:=[0,1,3]) O nd O O O (kG ((pv 2)&&&bQ&&&ae)) (cY (sc:=defScope ce) (N:=["shop","part","thing","way","row"]) O O ∅) (λ _ _ _ _ _=>wC K O O (by show List.Nodup (["size","inner","shop","part","way"]:OI Str) ;decide +kernel) O O O O) (λ _ _ _ _ _=>dL) (λ _ _ _ _ _=>(um (pv 0) (eS DT hr O ((pv 2)^^^((@ah _ _ _ _ _ _ _ _ _ _ DPA (hr.mono (show 1<=6+n by lia)) O ((pv 3)^^^((pv 4)^^^((pv 0)^^^ad))) ∅ O O)^^^((pv 1)^^^ad)))))))<<<((((pv 4)<*>(zv hu)<*>(@aA _ _ _ _ _ _ _ _ _ (dW hu) O B.sorted Ow ((pv 4)^^^ad) ∅ ∅ O O))<|>(@ag _ _ _ (eQ (R:=λ c H=>E c none H) O O mN eN (aJ^^^ad) dg))<|>az)<<<((@ar _ _ _ _ _ ((pv 3)^^^((@bg _ _ _ _ _ _ _ _ _ bB O B.tuple OT ((pv 4)^^^ad) ∅ ∅ O O)^^^ad)))⁻¹))))))|?_];have sz:(1000:Nat) < sizeLine:=∅
 refine aw (λ R=>∀(H':Hp),Same H H'->R [↑s,↑c,some v,some (wyV (wyD d)),none] H') (λ Dd hR=>?_) ?_
 ·exact%[_,O,pp,v,d,O,hd|λ H1 s1=>hR _ s1]
 rintro H1 s1;refine bf (λ R=>∀dn (H':Hp),wyD d=some dn->Same H H'->R [↑s,↑c,some v,some (.str (wyL dn)),none] H') (λ R hR=>?_) ?_
 ·cases e:wyD d with
  | none=>
   refine%[_,O,O,_,O|cK rfl ?_];refine%[_,O,_,O,c,_,0,_,O,O,G1 (s1 _ _ hc),O,_,O,c,_,1,_,O,O,G1 (s1 _ _ hc),O,_,O,zS5|λ sp hsp=>?_];refine aU hsp λ H2 k2 s2=>?_;have s02:=s1.trans s2;refine%[pp,b,0,0,w1,h1,s,sp,ks,v,d,O,gj s02 SH,k2,hd.same s02|λ H3 s3=>%[_,O|?_]];have s03:=s02.trans s3;rw[dj e]at qT qE;cases hl:isL ks w1 h1 d with
   | false=>
    rw[hl,OQ B1]at qE;exact aH %[zS1|qE rfl _ s03]
   | true=>
    rw[hl,OR rfl]at qT;obtain⟨t,ys,et,er,tv⟩:=Ey hl;obtain⟨a,xs,T0,rfl,hx,dx,_,_⟩:=hd.rowT (K:=K) er;refine aM ?_;rcases hx with hx | hx
    ·exact%[_,O,a,_,O|.inl %[G2 (s03 _ _ hx)|λ l hl=>qT t et _ _ (tv dx aj) (s03.trans (G0 hl))]]
    ·exact%[_,O,a,_,O|.inr %[G1 (s03 _ _ hx)|qT t et _ _ (tv dx (s03 _ _ hx)) s03]]
  | some dn=>exact%[_,O,O,_,O|cL rfl (hR dn _ e s1)]
 clear s1;clear H1;rintro dn H1 ew s1;obtain⟨e2,er⟩:=iZ ew;obtain⟨a,xs,T0,rfl,hx,dx,_,_⟩:=hd.rowT (K:=K) er;cases dx with
 | @cons x0 _ xs0 _ g0 dx=>
 cases dx with
 | @cons x1 _ xs1 _ g1 dx=>
 cases dx;cases g0;have m2:e2∈[PyData.str (wyL dn),e2]:=B3 _ B7;have wd2:Wd e2:=wd.mem er m2;have dp2:=gR er m2;refine aw (λ R=>∀(H':Hp),dvD b (if dn=true then w1 else h1) dn e2=true->Same H H'->R [↑s,↑c,↑a,some (.str (wyL dn)),none] H') (λ Dd hR=>?_) ?_
 ·have SH1:=gj s1 SH;obtain⟨dx',r',rs',S1',S2',S3'⟩:=id SH1;refine%[_,O,s,dx',_,O,S1',(fg _ _ ∅ ∅),s,b,ks,O,SH1,_,O,_,O,c,w1,h1,dn,O,s1 _ _ hc,_,O,_,O|ixR s1 hx (aE ∅ rfl) %[pp,x1,e2,b,_,dn,O,g1.same s1,λ es z=>by have:=wd2.len z;lia|λ H2 s2=>%[_,O|?_]]];cases hv:dvD b (if dn=true then w1 else h1) dn e2 with
  | true=>exact aM (hR _ hv (s1.trans s2))
  | false=>exact aH %[zS1|qE (cD ew er hv) _ (s1.trans s2)]
 clear s1;clear H1;rintro H1 hv s1;obtain⟨es,er2,l2,al,_⟩:=gQ hv;obtain⟨a2,xs2,T2,rfl,hx2,dx2,_,_⟩:=g1.rowT (K:=K) er2;have xl:=dx2.length;have l63:=wd2.len er2;rw[fE ew er er2,OR hv]at qT qE;refine aw (λ R=>∀(rl:OE)(us:OI V)(l:OI (Int×Tl))(H':Hp),cW (rdI (rdT b ks n) dn w1 h1) es=some l->H' rl=↥us->Paired (ItV H') us l->Same H H'->R [↑s,↑c,↑a,some (.str (wyL dn)),↑rl] H') (λ Dd hR=>?_) ?_
 ·have hx3:=hx2.imp (s1 _ _) (s1 _ _);refine%[_,O|ixR s1 hx (aE ∅ rfl) %[a2,O|gM (K:=K) hx3 (λ i us Hx=>Same H1 Hx/\∃l,cW (rdI (rdT b ks n) dn w1 h1) (es.take i)=some l/\Paired (ItV Hx) us l) (λ i us Hx _ e o h=>e.1 _ _ h) %[Same.refl _,[],O|.nil] ?_ ?_]]
  ·rintro i x us Hx hi ⟨sx,l,el,pu⟩;have hin:i < xs2.length:=(A5.mp hi).1;obtain⟨e,he,hxe⟩:=dx2.get hi;have hm:=B5 he;obtain⟨n0,y,er3,n1,_,_⟩:=kY (al e hm);obtain⟨a3,xs3,rfl,hx3',dx3⟩:=hxe.ref_row er3;cases dx3 with
   | @cons y0 _ ys0 _ g0 dx3=>
   cases dx3 with
   | @cons y1 _ ys1 _ g3 dx3=>
   cases dx3;cases g0;have ul:=E1 pu;have ll:=eZ el;rw[J2]at ll;have s0x:=s1.trans sx;have sq:=(hx3'.imp (s0x _ _) (s0x _ _)).imp (λ z=>G2 (K:=K) z) λ z=>G1 (K:=K) z;have my:y∈[PyData.int n0,y]:=B3 _ B7;have dp3:=gR er2 hm;have dp4:=gR er3 my;have ei:rdI (rdT b ks n) dn w1 h1 e=(rdT b ks n (if dn=true then n0 else w1) (if dn=true then h1 else n0) y).map λ t=>(n0,t):=by unfold rdI;rw[er3]
   refine%[⋯,a3,_,O,sq,O,_,_,O,_,_,O,O,Ez (leS.set rfl) (leS.set rfl)|dM ?_];refine%[_,O,_,O,_,O,_,O,_,O,c,w1,h1,n0,dn,O,s0x _ _ hc|λ c' H3 hc' s3=>?_];refine%[_,O,pp,s,c',b,_,_,ks,y1,y,O,gj (s0x.trans s3) SH,hc',g3.same (s0x.trans s3),(wd2.mem er2 hm).mem er3 my,⋯,⋯,λ t et u H4 tv s4=>?_|λ en H4 s4=>?_]
   ·intro it hit;refine aU hit λ H5 k5 s5=>?_;have sx5:=s3.trans (s4.trans s5);refine Nx.of hin %[sx.trans sx5,l ++ [(n0,t)],?_|?_]
    ·rw[K2,he];exact gO el (by rw[ei,et];rfl)
    ·exact hV (G3 pu λ v t h=>h.keep λ a xs e=>sx5 _ _ e) (.cons %[it,u,O,k5|TlV.keep (λ a xs e=>s5 _ _ e) _ tv] .nil)
   ·refine qE ?_ _ (s0x.trans (s3.trans s4));rw[gP hm (by rw[ei,en];rfl)];rfl
  ·rintro us Hx ⟨sx,l,el,pu⟩;rw[show es.take xs2.length=es by rw[show xs2.length=es.length by lia,K4]]at el;have ul:=E1 pu;have ll:=eZ el;refine%[⋯|λ rl hrl=>?_];refine aU hrl λ H5 k5 s5=>?_;exact hR rl us l _ el k5 (G3 pu (λ v t h=>h.keep λ a xs e=>s5 _ _ e)) (s1.trans (sx.trans s5))
 clear s1;clear H1;rintro rl us l H1 el hrl pu s1;have ul:=E1 pu;have ll:=eZ el;rw[el]at qT qE;have dz:∀z∈l,(tlD z.2).depth+3<=d.depth:=λ z hz=>by obtain⟨x,hx,ex⟩:=fb el hz;obtain⟨y,ey,ez⟩:=dQ ex;have d1:=fG ez;have d2:=gR ey (B3 _ B7);have d3:=gR er2 hx;lia
 have rd:∀l':OI (Int×Tl),(∀z∈l',z∈l)->(PyData.list (aF (ofL l'))).canLay0=true/\(PyData.list (aF (ofL l'))).depth<=210:=λ l' hl'=>by
  refine%[by simp only[PyData.canLay0];exact fq _|?_];have:=fF (m:=200) (l:=l') λ z hz=>by have:=dz z (hl' z hz);lia
  show PyData.depthAll (aF (ofL l'))+1<=210;lia
 refine aw (λ R=>∀(H':Hp),rdS dn l=some (.row dn (ofL l))->Same H1 H'->R [↑s,↑c,↑a,some (.str (wyL dn)),↑rl] H') (λ Dd hR=>?_) ?_
 ·obtain⟨ps,rfl,eps,ips⟩:=iW pu;have pl:ps.length=l.length:=by rw[eps,J1]
  refine%[_,O,_,O,rl,ps,O,G2 hrl,⋯,λ z hz=>%[(ips z hz).dat|?_]|λ l9 ps' hl9 pm pw=>?_]
  ·have:=dz z.2 (by rw[eps];exact M4.mpr %[z,hz|O]);lia
  refine aU hl9 λ H2 k2 s2=>?_;have e9:ps'.map (·.2)=srt l:=by rw[kT (pm.map _) pw,<- eps]
  have p1:Paired (ItV H2) (ps.map λ z=>V.ref z.1) l:=G3 pu λ v t h=>h.keep λ a xs e=>s2 _ _ e;have p2:Paired (ItV H2) (ps'.map λ z=>V.ref z.1) (srt l):=by rw[<- e9];exact iX λ z hz=>(ips z (pm.mem_iff.mp hz)).keep λ a xs e=>s2 _ _ e
  have d1:=gq (K:=K) p1;have d2:=gq (K:=K) p2;have r1:=rd l λ z hz=>hz;have r2:=rd (srt l) λ z hz=>(di l).mem_iff.mp hz;refine%[.list (aF (ofL l)),.list (aF (ofL (srt l))),.lst (G2 (s2 _ _ hrl)) d1,.lst (G2 k2) d2,r1.1,r2.1,r1.2,_,O|?_];rw[rh];cases hz:PyData.eqvAll (aF (ofL l)) (aF (ofL (srt l)))with
  | true=>exact cL rfl (hR _ (by unfold rdS;rw[OR hz]) s2)
  | false=>
   refine cK rfl %[zS1|qE ?_ _ (s1.trans s2)];show rdS dn l=none;unfold rdS;rw[hz,OQ B1]
 rintro H2 hs s2;refine%[_,O,_,O,rl,_,O|.inl %[G2 (s2 _ _ hrl)|λ tq htq=>?_]];refine aU htq λ H3 k3 s3=>?_;refine%[zS2|λ fr hfr=>?_];refine aU hfr λ H4 k4 s4=>?_;have s14:=s2.trans (s3.trans s4);refine qT _ hs _ H4 ?_ (s1.trans s14);rw[TlV];exact%[fr,tq,_,O,k4,s4 _ _ k3|iw (G3 pu λ v t h=>h.keep λ a xs e=>s14 _ _ e)]
theorem xg{f C NT:OE}{fd:F7}(F:Fun K "as_telling" "as_telling" ce f fd):FnOk P w K mg base (CXx P w) 6 f fd ["shop","part","thing"] (spAsX C NT 0):=by
 refine F.okX scast (λ vs H Q E h=>?_) (λ cdv A outer s H vs Q E hr h=>?_)
 ·obtain⟨pp,s,c,b,w1,h1,ks,v,d,rfl,_⟩:=h
  rfl
 ·obtain⟨pp,s,c,b,w1,h1,ks,v,d,rfl,_,_,_,_,z,_⟩:=h;exact absurd z (E7 _)
theorem pW{f C NT:OE}{fd:F7}(F:Fun K "as_telling" "as_telling" ce f fd)(B:Blt mg)(T:ShopTxt K C)(mN:mg "NoTelling" = ↑NT)(eN:ExcC K NT)(MB:Mn P w K mg base C "blade" ["self"] 1 (fh C))(DF:Dn P w K mg base "is_leaf" ["shop","spot"] 5 (spLeaf C))(DWo:Dn P w K mg base "way_of" ["thing"] 3 (spWayX))(DSA:Dn P w K mg base "side_along" ["part","way"] 1 (spSideA))(DPA:Dn P w K mg base "part_along" ["part","way","size"] 1 (spPartA))(DDv:Dn P w K mg base "is_divided" ["blade","side","way","row"] 5 (spDivX))(mk:∀n,FnOk P w K mg base (CXx P w) (6+n) f fd ["shop","part","thing"] (spAsX C NT n)->DnX P w K mg base "as_telling" ["shop","part","thing"] (6+n) (spAsX C NT n)):∀n,FnOk P w K mg base (CXx P w) (6+n) f fd ["shop","part","thing"] (spAsX C NT n)
 | 0=>xg F
 | n+1=>zM F B T n mN eN MB DF DWo DSA DPA DDv (mk n (pW F B T mN eN MB DF DWo DSA DPA DDv mk n))
end
def lfT:Tl->OG Tr
 | .rest=>some .rest
 | .piece i c x y=>some (.piece i c x y)
 | .row ..=>none
theorem uV{n:Int}{t:Tl}{dn:Bool}{r:Tls}{z:Int×Tl}(h:z∈toL r):(tlD z.2).depth+3<=(tlD (.row dn r)).depth:=by
 have:∀r:Tls,z∈toL r->(tlD z.2).depth+1<=PyData.depthAll (aF r):=λ r=>by
  induction r using Tls.rec (motive_1:=λ _=>True)with
  | rest=>trivial
  | piece=>trivial
  | row=>trivial
  | nil=>intro h;rw[toL]at h;cases h
  | cons n t r _ ih=>
   intro h;rw[toL]at h;show _<=max (max 0 (max (tlD t).depth 0)+1) (PyData.depthAll (aF r));rw[M6,N1];rcases G6.mp h with e | h
   ·rw[e];exact Nat.le_max_left _ _
   ·exact C5 (ih h) (N0 _ _)
 have:=this r h;show _<=max 0 (max (PyData.depthAll (aF r)+1) 0)+1;rw[M6,N1];exact K9 (K9 this)
def TmV(H:Hp)(v:V)(z:Int×Tl):Prop:=∃a u,v=.ref a/\H a= ~~~[.int z.1,u]/\TrV H (hW z.2) u
theorem TmV.keep{H H':Hp}(k:∀a xs,H a= ~~~xs->H' a= ~~~xs){v:V}{z:Int×Tl}(h:TmV H v z):TmV H' v z:=by obtain⟨a,u,e,h1,h2⟩:=h;exact%[a,u,e,k _ _ h1|TrV.keep k _ h2]
theorem pX{H:Hp}:∀{r:Tls}{vs:OI V},TlsV H r vs->Paired (ItV H) vs (toL r)
 | .nil,vs,h=>by rw[TlsV]at h;subst h;rw[toL];exact .nil
 | .cons n t r,vs,h=>by rw[TlsV]at h;obtain⟨a,u,ys,e,h1,h2,h3⟩:=h;subst e;rw[toL];exact .cons %[a,u,O,h1|h2] (pX h3)
mutual
def wtT:Tl->Prop
 | .rest=>True
 | .piece _ _ _ _=>True
 | .row _ r=>2<=(toL r).length/\(toL r).length<=63/\wtS r
def wtS:Tls->Prop
 | .nil=>True
 | .cons _ t r=>wtT t/\wtS r
end
theorem pY:∀{r:Tls},wtS r->∀z∈toL r,wtT z.2
 | .nil,_,z,hz=>by rw[toL]at hz;cases hz
 | .cons n t r,h,z,hz=>by
  rw[wtS]at h;rw[toL]at hz;rcases G6.mp hz with e | hz
  ·rw[e];exact h.1
  ·exact pY h.2 z hz
theorem uW:∀{l:OI (Int×Tl)},(∀z∈l,wtT z.2)->wtS (ofL l)
 | [],_=>by rw[ofL,wtS];trivial
 | z :: l,h=>by rw[ofL,wtS];exact%[h z B7|uW λ y hy=>h y (B3 _ hy)]
theorem uX{b:Int}{ks:OI Kd}:∀{n:Nat}{w h:Int}{d:PyData}{t:Tl},rdT b ks n w h d=some t->Wd d->wtT t
 | 0,_,_,_,_,e,_=>by rw[rdT]at e;cases e
 | n+1,w,h,d,t,e,wd=>by
  cases hw:wyD d with
  | none=>
   rw[dj hw]at e
   split at e
   ·unfold lfD at e
    split at e
    ·unfold lfR at e
     split at e
     ·cases e;rw[wtT];trivial
     ·cases e;rw[wtT];trivial
     ·cases e
    ·cases e
   ·cases e
  | some dn=>
   obtain⟨e2,er⟩:=iZ hw;cases hv:dvD b (if dn=true then w else h) dn e2 with
   | false=>rw[cD hw er hv]at e;cases e
   | true=>
    obtain⟨es,er2,l2,_⟩:=gQ hv;rw[fE hw er er2,OR hv]at e;obtain⟨l,hl,e⟩:=Option.bind_eq_some_iff.mp e;obtain⟨rfl,_⟩:=ja e;have wd2:=wd.mem er (B3 _ B7);have ll:=eZ hl;have l6:=wd2.len er2;rw[wtT,gp];refine%[⋯,⋯|uW λ z hz=>?_];obtain⟨x,hx,ex⟩:=fb hl hz;obtain⟨y,ey,ez⟩:=dQ ex;exact uX ez ((wd2.mem er2 hx).mem ey (B3 _ B7))
section
variable{P:F6}{w:F8}{K:C4}{mg:Str->OG F9}{base:Heap}
inductive spTbt(n:Nat)(vs:OI V)(H:Hp)(Q:VK)(E_:XK):Prop
|mk(v:V)(t:Tl)(_:vs=[v])(_:TlV H t v)(_:wtT t)(_:(tlD t).depth < n)(_:∀(u:V)(H':Hp),TrV H' (hW t) u->Same H H'->Q u H')
theorem sctbt:FnScope ["telling","way","trees","tree","size","ahead"] ["telling"] (defScope bD):=%[O,O,O,∅,O,∅|∅]
theorem zN{f wa:OE}{fd:F7}(F:Fun K "tree_by_telling" "tree_by_telling" bD f fd)(B:Blt mg)(Z:TrC K mg wa)(rv:mg "reversed" = none)(n:Nat)(DT:Dn P w K mg base "tree_by_telling" ["telling"] (1+n) (spTbt n)):FnOk P w K mg base CX0 (1+(n+1)) f fd ["telling"] (spTbt (n+1)):=by
 refine F.ok sctbt (λ vs H Q E h=>?_) (λ cdv A outer s H vs Q E hr h=>?_)
 ·obtain⟨v,t,rfl,_⟩:=h
  rfl
 obtain⟨v,t,rfl,tv,okt,dn0,q⟩:=h;have nd:=sctbt.nd;refine%[_,((1∣((pv 0)&&&ix_tup&&&ae))<<<(((@ay _ _ _ _ _ _ _ _ dS (pv 1) (aP (v:=.ref wa) O Z.wy O) O)<|>((pv 0)⁻¹)<|>az)<<<((wf (i:=2) (own:=["size","inner"]) (cs:=[]) (cap:=[]) O nd O O O (gz ((pv 0)&&&ix_tup&&&ae)) (cY (sc:=defScope bD) (N:=["telling","way","trees","tree","size","ahead"]) O O ∅) (λ _ _ _ _ _=>zn K O O (by show List.Nodup (["size","inner"]:OI Str) ;decide +kernel) O O O O) (λ _ _ _ _ _=>dL) (λ _ _ _ _ _=>(@ar _ _ _ _ _ ((pv 0)^^^((DT∪((pv 1)^^^ad))^^^ad)))))<<<((3∣(((pv 2)&&&ix_list&&&(@iB _ _ _ _ _ _ fO ae))&&&ix_tup&&&ae))<<<((@df _ _ _ _ _ _ _ _ E2 O (zp O rv ((@aT _ _ _ _ _ _ _ _ _ _ wc (pv 2) bi (aW (@iB _ _ _ _ _ _ fO ae)))^^^ad)) (bC O (4•(5•aV))) (@ag _ _ _ (3∣(@ar _ _ _ _ _ ((pv 1)^^^((pv 4)^^^((pv 5)^^^((pv 3)^^^ad))))))) (by intro _;rfl))<<<((pv 3)⁻¹))))))|?_];dsimp only[bW];have sz:(1000:Nat) < sizeLine:=∅
 cases e:lfT t with
 | some T=>
  have hh:∃a xs y,v=.ref a/\H a= ~~~(.str y :: xs)/\inV (V.str y) [V.str "down",V.str "across"]=false/\TrV H (hW t) v:=by
   cases t with
   | rest=>
    rw[TlV]at tv;obtain⟨a,ea,ha⟩:=tv;rw[hW];exact%[a,_,_,ea,ha,∅,a,ea|ha]
   | piece i cc x y=>
    rw[TlV]at tv;obtain⟨a,ea,ha⟩:=tv;rw[hW];exact%[a,_,_,ea,ha,∅,a,ea|ha]
   | row=>cases e
  obtain⟨a,xs,y,rfl,ha,iv,tr⟩:=hh;refine%[_,O,a,_,0,_,O,O,G1 ha,aE (E3 _) rfl,_,O,wa,_,O,.inr (Z.wq _),O,O,_,O|?_];show(if (!inV (V.str y) [V.str "down",V.str "across"])=true then _ else _);rw[iv];exact aH %[_,rfl|q _ _ tr (Same.refl _)]
 | none=>
 cases t with
 | rest=>cases e
 | piece=>cases e
 | row dn r=>
 rw[TlV]at tv;obtain⟨a,qa,xs,rfl,ha,hq,tvs⟩:=tv;have its:=pX tvs;have xl:=E1 its;rw[wtT]at okt;obtain⟨o1,l63,o4⟩:=okt;have items:=pY o4;refine aw (λ R=>R [↑a,some (.str (wyL dn)),none,none,none,none] H) (λ Dd hR=>?_) ?_
 ·exact%[_,O,a,_,0,_,O,O,G1 ha,O|hR]
 skip
 refine aw (λ R=>R [↑a,some (.str (wyL dn)),none,none,none,none] H) (λ Dd hR=>?_) ?_
 ·refine%[_,O,wa,_,O,.inr (Z.wq _),O,O,_,O|?_];show(if (!inV (V.str (wyL dn)) [V.str "down",V.str "across"])=true then _ else _);rw[yD];exact aM (hR)
 skip
 refine aw (λ R=>∀(tl:OE)(us:OI V)(H':Hp),H' tl=↥us->Paired (TmV H') us (toL r)->Same H H'->R [↑a,some (.str (wyL dn)),↑tl,none,none,none] H') (λ Dd hR=>?_) ?_
 ·refine%[_,O,a,_,1,_,O,O,G1 ha,O,qa,O,%[_|G1 hq]|(eO (K:=K) (.inr hq) (λ i us Hx=>Same H Hx/\Paired (TmV Hx) us ((toL r).take i)) (λ i us Hx _ e o h=>e.1 _ _ h) %[Same.refl _|.nil] ?_ ?_).2 hq]
  ·rintro i x us Hx hi ⟨sx,pu⟩;have hin:i < xs.length:=(A5.mp hi).1;obtain⟨z,hz,a3,u3,rfl,h3,tv3⟩:=G4 its hi;have ul:=E1 pu;rw[J2]at ul;have hm:=B5 hz;have m3:=items z hm;have dpt:=uV (n:=0) (t:=.rest) (dn:=dn) hm;refine%[⋯,a3,_,O,G1 (sx _ _ h3),O,_,_,O,_,_,O,O,Ez (leS.set rfl) (leS.set rfl)|dM ?_];refine%[_,O,_,O,u3,z.2,O,TlV.keep (λ a xs e=>sx _ _ e) _ tv3,m3,⋯|λ u H4 tv s4=>%[zS2|λ it hit=>?_]];refine aU hit λ H5 k5 s5=>?_;have sx5:=s4.trans s5;refine Nx.of hin %[sx.trans sx5|?_];rw[K2,hz];exact hV (G3 pu λ v t h=>h.keep λ a xs e=>sx5 _ _ e) (.cons %[it,u,O,k5|TrV.keep (λ a xs e=>s5 _ _ e) _ tv] .nil)
  ·rintro us Hx ⟨sx,pu⟩;rw[show(toL r).take xs.length=toL r by rw[xl,K4]]at pu;have ul:=E1 pu;refine%[⋯|λ rl hrl=>?_];refine aU hrl λ H5 k5 s5=>?_;exact hR rl us _ k5 (G3 pu (λ v t h=>h.keep λ a xs e=>s5 _ _ e)) (sx.trans s5)
 rintro tl us H1 htl pu s1;rcases N4 us with rfl | ⟨us',u0,rfl⟩
 ·have:=E1 pu;rw[<- this]at o1;exact absurd o1 (by simp)
 rw[N5]at pu htl;obtain⟨l',z0,el,pu',a0,t0,rfl,h0,tv0⟩:=lU pu;have pl':=E1 pu';have erow:r=ofL (l' ++ [z0]):=by rw[<- el,kX]
 have l1:(toL r).length=l'.length+1:=by rw[el,G5];rfl
 refine aw (λ R=>R [↑a,some (.str (wyL dn)),↑tl,some t0,none,none] H1) (λ Dd hR=>?_) ?_
 ·exact%[_,O,1,O,tl,_,_,_,O,O,G2 htl,sY _ _,a0,_,1,_,O,O,G1 h0,O|hR]
 skip
 refine aw (λ R=>∀(v3:V)(v4 v5:OG V)(H':Hp),TrV H' (trs dn r) v3->Same H H'->R [↑a,some (.str (wyL dn)),↑tl,some v3,v4,v5] H') (λ Dd hR=>?_) ?_
 ·refine%[_,O,1,O,_,O,tl,_,O,G2 htl|λ sl hsl=>?_];have ecut:eE (us' ++ [V.ref a0]) none (some (-1))=us':=by unfold eE;rw[show HT.sIx (us' ++ [V.ref a0]).length 0 none=0 from rfl,N8,OC];rw[show HT.sIx (us' ++ [V.ref a0]).length (us' ++ [V.ref a0]).length (some (-1))=us'.length by rw[G5];unfold HT.sIx;simp;try lia];rw[List.take_left]
  rw[ecut];refine aU hsl λ H2 k2 s2=>?_;have k12:∀a xs,H1 a= ~~~xs->H2 a= ~~~xs:=λ a xs e=>s2 _ _ e;refine%[sl,_,O,G2 k2|wD (xs:=us') (λ i σ' H'=>(∃(v3:V)(v4 v5:OG V),σ'=[↑a,some (.str (wyL dn)),↑tl,some v3,v4,v5]/\TrV H' (trs dn (ofL ((toL r).drop (l'.length - i)))) v3)/\Same H2 H') %[%[_,_,_,O|?_]|Same.refl _] (λ i σ H' _ h=>G2 (h.2 _ _ k2)) ?_ ?_]
  ·rw[el,OC,List.drop_left,ofL,ofL,xb];exact TrV.keep k12 _ tv0
  ·rintro i x σ H3 hi hx ⟨⟨v3,v4,v5,rfl,tv3⟩,s3⟩;obtain⟨z,hz,a3,u3,rfl,h3,tvz⟩:=G4 pu' hx;have h3':=s3 _ _ (s2 _ _ h3);refine%[a3,_,O,G1 h3',O,_,_,O,_,_,O,O|?_];refine%[_,O,_,O,_,O,_,O,zS4|λ nt hnt=>?_];refine aU hnt λ H4 k4 s4=>?_;refine%[%[_,_,_,O|?_]|s3.trans s4];have k34:∀a xs,H3 a= ~~~xs->H4 a= ~~~xs:=λ a xs e=>s4 _ _ e;have hzr:(toL r)[l'.length - (i+1)]?=some z:=by rw[el,List.getElem?_append_left ⋯];rw[pl']at hz;rw[show l'.length - (i+1)=l'.length - 1 - i by lia];exact hz
   have hlt:l'.length - (i+1) < (toL r).length:=⋯
   have dd:(toL r).drop (l'.length - (i+1))=z :: (toL r).drop (l'.length - i):=by rw[List.drop_eq_getElem_cons hlt,show l'.length - (i+1)+1=l'.length - i by lia];congr 1;rw[E9 hlt]at hzr;exact B8 hzr
   rw[dd];obtain⟨y,ys,ey⟩:∃y ys,(toL r).drop (l'.length - i)=y :: ys:=by
    cases hd:(toL r).drop (l'.length - i)with
    | nil=>
     have:=On List.length hd;rw[K0]at this;have:(toL r).length - (l'.length - i)=0:=this;lia
    | cons y ys=>exact%[y,ys|O]
   rw[ey]at tv3 ⊢;rw[ofL,ofL,xc];rw[ofL]at tv3;exact%[nt,u3,v3,O,k4,TrV.keep (λ a xs e=>k34 _ _ (s3 _ _ (s2 _ _ e))) _ tvz|TrV.keep k34 _ tv3]
  ·rintro σ H3 ⟨⟨v3,v4,v5,rfl,tv3⟩,s3⟩;rw[pl',Nat.sub_self,N8,kX]at tv3;exact hR v3 v4 v5 _ tv3 (s1.trans (s2.trans s3))
 rintro v3 v4 v5 H2 tv3 s2;exact%[_,O|q _ _ (by rw[uQ];exact tv3) s2]
theorem xh{f:OE}{fd:F7}(F:Fun K "tree_by_telling" "tree_by_telling" bD f fd):FnOk P w K mg base CX0 1 f fd ["telling"] (spTbt 0):=by
 refine F.ok sctbt (λ vs H Q E h=>?_) (λ cdv A outer s H vs Q E hr h=>?_)
 ·obtain⟨v,t,rfl,_⟩:=h
  rfl
 ·obtain⟨v,t,rfl,_,_,z,_⟩:=h;exact absurd z (E7 _)
theorem pZ{f wa:OE}{fd:F7}(F:Fun K "tree_by_telling" "tree_by_telling" bD f fd)(B:Blt mg)(Z:TrC K mg wa)(rv:mg "reversed" = none)(mk:∀n,FnOk P w K mg base CX0 (1+n) f fd ["telling"] (spTbt n)->Dn P w K mg base "tree_by_telling" ["telling"] (1+n) (spTbt n)):∀n,FnOk P w K mg base CX0 (1+n) f fd ["telling"] (spTbt n)
 | 0=>xh F
 | n+1=>zN F B Z rv n (mk n (pZ F B Z rv mk n))
end
def qb(K:C4)(H:Hp)(wv hv:V):Prop:=(∃T,Ty K H wv T)/\(∃T,Ty K H hv T)/\(aR wv 1 && aR hv 1)=false
section
variable{P:F6}{w:F8}{K:C4}{mg:Str->OG F9}{base:Heap}
inductive spCPX(K:C4)(NP:OE)(vs:OI V)(H:Hp)(Q:VK)(E:XK):Prop
|mk(wv hv:V)(_:vs=[wv,hv])(_:(∃T,Ty K H wv T))(_:(∃T,Ty K H hv T))(_:((aR wv 1 && aR hv 1)=false->E (.ref NP) none H))(_:((aR wv 1 && aR hv 1)=true->Q .non H))
inductive spNoPl(K:C4)(NP:OE)(vs:OI V)(H:Hp)(Q:VK)(E:XK):Prop
|mk(s:OE)(wv hv v:V)(_:vs=[.ref s,wv,hv,v])(_:qb K H wv hv)(_:E (.ref NP) none H)
inductive spRef(K:C4)(C NP NT:OE):OI V->Hp->VK->XK->Prop
 | pl {s:OE} {wv hv v:V} {H:Hp} {Q:VK} {E:XK} (b:qb K H wv hv) (e:E (.ref NP) none H):spRef K C NP NT [.ref s,wv,hv,v] H Q E
 | tr {pp s:OE} {b w h:Int} {ks:OI Kd} {v:V} {d:PyData} {H:Hp} {Q:VK} {E:XK} (sh:ShopAt C H s b ks) (w1:1<=w) (h1:1<=h) (dt:Dt pp H v d) (wd:wt d<=30000) (no:isT b ks w h d=false) (e:∀H',Same H H'->E (.ref NT) none H'):spRef K C NP NT [.ref s,.int w,.int h,v] H Q E
theorem spRef.to{C NP NT:OE}{vs:OI V}{H:Hp}{Q Q':VK}{E:XK}(h:spRef K C NP NT vs H Q E):spRef K C NP NT vs H Q' E:=by
 cases h with
 | pl b e=>exact .pl b e
 | tr a b c d e f g=>exact .tr a b c d e f g
theorem spRef.four{C NP NT:OE}{vs:OI V}{H:Hp}{Q:VK}{E:XK}(h:spRef K C NP NT vs H Q E):∃a b c d,vs=[a,b,c,d]:=by cases h <;> exact%[_,_,_,_|O]
theorem sccplateX:FnScope ["wide","high"] ["wide","high"] (defScope cf):=%[O,O,O,∅,O,∅|∅]
theorem nA{f NP:OE}{fd:F7}(F:Fun K "check_plate" "check_plate" cf f fd)(mP:mg "NoPlate" = ↑NP)(eP:ExcC K NP)(DW:Dn P w K mg base "is_whole" ["thing","least"] 1 (cQ K)):FnOk P w K mg base (CXx P w) 2 f fd ["wide","high"] (spCPX K NP):=by
 refine F.okX sccplateX (λ vs H Q E h=>?_) (λ cdv A outer s H vs Q E hr h=>?_)
 ·obtain⟨wv,hv,rfl,_⟩:=h
  rfl
 obtain⟨wv,hv,rfl,⟨Tw,tw⟩,⟨Th,th⟩,qe,q⟩:=h;have nd:=sccplateX.nd;refine%[_,(@ag _ _ _ ((PW.pt (bn (@aS _ _ _ _ (@aO _ _ _ (DW∪((pv 0)^^^(ae^^^ad))) (by intro _;rfl))) (bG (@aS _ _ _ _ (@aO _ _ _ (DW∪((pv 1)^^^(ae^^^ad))) (by intro _;rfl))))))<|>(@ag _ _ _ (eQ (R:=λ c H=>E c none H) O O mP eP (aJ^^^ad) dg))<|>az))|?_];refine%[_,O,wv,_,1,O,tw,_,O|?_];cases hw:aR wv 1 with
 | false=>exact aH (aH %[zS1|qe (by rw[hw];rfl)])
 | true=>
  refine aM %[_,rfl,hv,_,1,rfl,th,_,rfl|?_];cases hh:aR hv 1 with
  | false=>exact aH %[zS1|qe (by rw[hw,hh];rfl)]
  | true=>exact aM (q (by rw[hw,hh];rfl))
theorem scistreeP:FnScope ["shop","wide","high","thing","blade","waiting","spot"] ["shop","wide","high","thing"] (defScope fv):=%[O,O,O,∅,O,∅|∅]
theorem nD{f NP:OE}{fd:F7}(F:Fun K "is_tree" "is_tree" fv f fd)(DCP:DnX P w K mg base "check_plate" ["wide","high"] 2 (spCPX K NP)):FnOk P w K mg base (CXx P w) 3 f fd ["shop","wide","high","thing"] (spNoPl K NP):=by
 refine F.okX scistreeP (λ vs H Q E h=>?_) (λ cdv A outer s H vs Q E hr h=>?_)
 ·obtain⟨s,wv,hv,v,rfl,_⟩:=h
  rfl
 obtain⟨s,wv,hv,v,rfl,bp,e⟩:=h;have nd:=scistreeP.nd;refine%[_,((@bX _ _ _ _ (ie (eS DCP (hr.mono ∅) O ((pv 1)^^^((pv 2)^^^ad)))) O)<<<(cH<<<(cH<<<(cH>>>cH))))|?_];refine bO (λ σ' H'=>False) (λ R hR=>?_) (λ _ _ z=>z.elim);exact%[_,O,_,O,wv,hv,O,bp.1,bp.2.1,λ _=>e|λ g=>by rw[bp.2.2]at g;cases g]
theorem scchecktR:FnScope ["shop","wide","high","thing"] ["shop","wide","high","thing"] (defScope cw):=%[O,O,O,∅,O,∅|∅]
theorem nE{f C NP NT:OE}{fd:F7}(F:Fun K "check_tree" "check_tree" cw f fd)(mT:mg "NoTree" = ↑NT)(eT:ExcC K NT)(DI:DnX P w K mg base "is_tree" ["shop","wide","high","thing"] 6 (λ vs H Q E=>spIsTree C vs H Q E\/spNoPl K NP vs H Q E)):FnOk P w K mg base (CXx P w) 7 f fd ["shop","wide","high","thing"] (spRef K C NP NT):=by
 refine F.okX scchecktR (λ vs H Q E h=>?_) (λ cdv A outer s H vs Q E hr h=>?_)
 ·obtain⟨_,_,_,_,rfl⟩:=h.four
  rfl
 obtain⟨v1,v2,v3,v4,rfl⟩:=h.four;have nd:=scchecktR.nd;refine%[_,(@ag _ _ _ ((@aS _ _ _ _ (@aO _ _ _ (ie (eS DI hr O ((pv 0)^^^((pv 1)^^^((pv 2)^^^((pv 3)^^^ad)))))) (by intro _;rfl)))<|>(@ag _ _ _ (eQ (R:=λ c H=>E c none H) O O mT eT (aJ^^^ad) dg))<|>az))|?_];refine%[_,O,_,O,_,O,_,O|?_];cases h with
 | pl b e=>exact .inr %[_,_,_,_,O,b|e]
 | tr sh w1 h1 dt wd no e=>
  refine .inl %[_,_,_,_,_,_,_,_,O,sh,w1,h1,dt,wd|λ H1 s1=>%[_,O|?_]];rw[no];exact aH %[zS1|e _ s1]
theorem sctellR:FnScope ["shop","wide","high","tree"] ["shop","wide","high","tree"] (defScope cz):=%[O,O,O,∅,O,∅|∅]
theorem uY{f C NP NT:OE}{fd:F7}(F:Fun K "telling_of" "telling_of" cz f fd)(DC:DnX P w K mg base "check_tree" ["shop","wide","high","thing"] 7 (spRef K C NP NT)):FnOk P w K mg base (CXx P w) 8 f fd ["shop","wide","high","tree"] (spRef K C NP NT):=by
 refine F.okX sctellR (λ vs H Q E h=>?_) (λ cdv A outer s H vs Q E hr h=>?_)
 ·obtain⟨_,_,_,_,rfl⟩:=h.four
  rfl
 obtain⟨v1,v2,v3,v4,rfl⟩:=h.four;have nd:=sctellR.nd;refine%[_,((@bX _ _ _ _ (ie (eS DC hr O ((pv 0)^^^((pv 1)^^^((pv 2)^^^((pv 3)^^^ad)))))) O)>>>cH)|?_];refine bO (λ σ' H'=>False) (λ R hR=>?_) (λ _ _ z=>z.elim);exact%[_,O,_,O,_,O,_,O|h.to]
inductive spTreeX(K:C4)(C NP NT:OE)(vs:OI V)(H:Hp)(Q:VK)(E:XK):Prop
|mk(s:OE)(wv hv v:V)(_:vs=[.ref s,wv,hv,v])(_:((qb K H wv hv/\E (.ref NP) none H)\/∃(pp:OE)(b w h:Int)(ks:OI Kd)(d:PyData),wv=.int w/\hv=.int h/\1<=w/\1<=h/\ShopAt C H s b ks/\Dt pp H v d/\Wd d/\d.depth<=150/\(∀t,rdT b ks 151 w h d=some t->∀(u:V)(H':Hp),TrV H' (hW t) u->Same H H'->Q u H')/\(rdT b ks 151 w h d=none->∀(H':Hp),Same H H'->E (.ref NT) none H')))
theorem sctreetoX:FnScope ["shop","wide","high","telling"] ["shop","wide","high","telling"] (defScope fz):=%[O,O,O,∅,O,∅|∅]
theorem nF{f C NP NT:OE}{fd:F7}(F:Fun K "tree_told" "tree_told" fz f fd)(B:Blt mg)(DCP:DnX P w K mg base "check_plate" ["wide","high"] 2 (spCPX K NP))(DA:DnX P w K mg base "as_telling" ["shop","part","thing"] 157 (spAsX C NT 151))(DT:Dn P w K mg base "tree_by_telling" ["telling"] 152 (spTbt 151)):FnOk P w K mg base (CXx P w) 160 f fd ["shop","wide","high","telling"] (spTreeX K C NP NT):=by
 refine F.okX sctreetoX (λ vs H Q E h=>?_) (λ cdv A outer s H vs Q E hr h=>?_)
 ·obtain⟨s,wv,hv,v,rfl,_⟩:=h
  rfl
 obtain⟨s,wv,hv,v,rfl,cs⟩:=h;have nd:=sctreetoX.nd;refine%[_,((@bX _ _ _ _ (ie (eS DCP (hr.mono ∅) O ((pv 1)^^^((pv 2)^^^ad)))) O)>>>(wI (zB DT (hr.mono ∅) O (eS DA (hr.mono ∅) O ((pv 0)^^^((@ar _ _ _ _ _ ((pv 1)^^^((pv 2)^^^ad)))^^^((pv 3)^^^ad)))))))|?_];rcases cs with⟨bp,e⟩ | ⟨pp,b,w1,h1,ks,d,rfl,rfl,w0,h0,SH,hd,wd,d150,qT,qE⟩
 ·refine bO (λ σ' H'=>False) (λ R hR=>?_) (λ _ _ z=>z.elim);exact%[_,O,_,O,wv,hv,O,bp.1,bp.2.1,λ _=>e|λ g=>by rw[bp.2.2]at g;cases g]
 have gw:(aR (.int w1) 1 && aR (.int h1) 1)=true:=by rw[show aR (.int w1) 1=true from OO w0,show aR (.int h1) 1=true from OO h0];rfl
 refine aw (λ R=>R [↑s,⇑w1,⇑h1,some v] H) (λ Dd hR=>?_) ?_
 ·exact⟨_,O,_,O,.int w1,.int h1,O,%[_|Ty.int],%[_|Ty.int],(λ z=>by rw[gw]at z;cases z),λ _=>hR⟩
 skip
 refine%[_,O,_,O,_,O,zS2|λ c hc=>?_];refine aU hc λ H2 k2 s2=>?_;refine%[_,O,pp,s,c,b,w1,h1,ks,v,d,O,gj s2 SH,k2,hd.same s2,wd,⋯,⋯,λ t et u H3 tv s3=>?_|λ en H3 s3=>qE en _ (s2.trans s3)];have dt:=fG et;exact%[u,t,O,tv,uX et wd,⋯|λ u2 H4 tr s4=>qT t et u2 H4 tr (s2.trans (s3.trans s4))]
end
theorem uZ{H:Hp}:∀{ys:OI V}{qs:OI (Nat×Bool)},Paired (LyC H) ys qs->Paired (PrB H) ys (qs.map λ q=>((q.1:Int),q.2))
 | _,_,.nil=>.nil
 | _,_,.cons h r=>.cons h (uZ r)
def lf5(ks:OI Kd)(w h:Int):OI PyData->Bool
 | [_,k,t,x,y]=>eA ks w h k t x y
 | _=>false
theorem xi(ks:OI Kd){i:Int}{c:Bool}(i0:0<=i):(((lyK ks 0).map λ q=>((q.1:Int),q.2)).any λ q=>eI (.int i) q.1 && eB (.bl c) q.2)=dF ks (.int i) (.bl c):=by
 rw[N2,List.any_eq_true];constructor
 ·rintro⟨q,hq,e⟩;obtain⟨⟨j,c'⟩,hm,rfl⟩:=M4.mp hq;rw[G8]at e;have e1:((j:Int) == i)=true:=e.1;have e2:(c' == c)=true:=e.2;have e1:=eq_of_beq e1;have e2:=eq_of_beq e2;subst e1 e2;obtain⟨_,k,hk,hc⟩:=kS hm;unfold dF;dsimp only at hk hc ⊢;rw[OO i0,J6,show((j:Int)).toNat=j - 0 by lia,hk];dsimp only;rcases hc with hc | hc
  ·rw[hc];rfl
  ·rw[hc,Bool.or_true]
 ·intro h;obtain⟨i',c',k,ei,ec,_,hk⟩:=cB h;cases ei;cases ec;have hm:=uC (i:=i.toNat) (c:=c) (k:=k) (by rw[M8 i0];exact h) hk;exact%[(i,c),M4.mpr %[(i.toNat,c),hm|by rw[M8 i0]]|by rw[pj,pk];rfl]
theorem nG{ks:OI Kd}{w h:Int}{k t x y:PyData}(e:(whD k 0 && (whD x 0 && whD y 0))=false):eA ks w h k t x y=false:=by
 cases hl:eA ks w h k t x y with
 | false=>rfl
 | true=>
  unfold eA at hl
  split at hl
  ·rename_i i c x y
   unfold dP at hl;rw[G8,G8,G8]at hl;obtain⟨i',_,_,ei,_,g,_⟩:=cB hl.1.1.1;cases ei;have e1:whD (.int i) 0=true:=A9 g;have e2:whD (.int x) 0=true:=hl.1.1.2;have e3:whD (.int y) 0=true:=hl.1.2;rw[e1,e2,e3]at e;cases e
  ·cases hl
theorem Dts.uc{p:OE}{H:Hp}{x:V}{xs:OI V}{ds:OI PyData}(h:Dts p H (x :: xs) ds):∃d ds',ds=d :: ds'/\Dt p H x d/\Dts p H xs ds':=by
 cases h with
 | cons a r=>exact%[_,_,O,a|r]
theorem Dts.ucr{p:OE}{H:Hp}{d:PyData}{xs:OI V}{ds:OI PyData}(h:Dts p H xs (d :: ds)):∃x xs',xs=x :: xs'/\Dt p H x d/\Dts p H xs' ds:=by
 cases h with
 | cons a r=>exact%[_,_,O,a|r]
theorem Dts.no{p:OE}{H:Hp}{ds:OI PyData}(h:Dts p H [] ds):ds=[]:=by cases h;rfl
theorem Dts.five{p:OE}{H:Hp}{x0 x1 x2 x3 x4:V}{ds:OI PyData}(h:Dts p H [x0,x1,x2,x3,x4] ds):∃d0 d1 d2 d3 d4,ds=[d0,d1,d2,d3,d4]/\Dt p H x1 d1/\Dt p H x2 d2/\Dt p H x3 d3/\Dt p H x4 d4:=by obtain⟨d0,t0,rfl,_,h⟩:=h.uc;obtain⟨d1,t1,rfl,h1,h⟩:=h.uc;obtain⟨d2,t2,rfl,h2,h⟩:=h.uc;obtain⟨d3,t3,rfl,h3,h⟩:=h.uc;obtain⟨d4,t4,rfl,h4,h⟩:=h.uc;rw[h.no];exact%[_,_,_,_,_,O,h1,h2,h3|h4]
section
variable{P:F6}{w:F8}{K:C4}{mg:Str->OG F9}{base:Heap}
inductive spPlain(vs:OI V)(H:Hp)(Q:VK)(E_:XK):Prop
|mk(pp:OE)(v:V)(d:PyData)(l:Int)(_:vs=[v,.int l])(_:Dt pp H v d)(_:Q (.bl (whD d l)) H)
inductive spIsLf(vs:OI V)(H:Hp)(Q:VK)(E_:XK):Prop
|mk(pp t kl a:OE)(b W h:Int)(ks:OI Kd)(xs:OI V)(ds:OI PyData)(_:vs=[.ref t,.int W,.int h,.ref a])(_:LS H t b ks kl)(_:ks.length<=8)(_:H a= ~~~xs)(_:Dts pp H xs ds)(_:∀H',Same H H'->Q (.bl (lf5 ks W h ds)) H')
theorem scplain:FnScope ["_law_thing","_law_least"] ["_law_thing","_law_least"] (defScope kQ):=%[O,O,O,∅,O,∅|∅]
theorem vd{f:OE}{fd:F7}(F:Fun K "_law_plain" "_law_plain" kQ f fd)(B:Blt mg):FnOk P w K mg base CX0 1 f fd ["_law_thing","_law_least"] (spPlain):=by
 refine F.ok scplain (λ vs H Q E h=>?_) (λ cdv A outer s H vs Q E hr h=>?_)
 ·obtain⟨pp,v,d,l,rfl,_⟩:=h
  rfl
 obtain⟨pp,v,d,l,rfl,hd,q⟩:=h;have nd:=scplain.nd;refine%[_,((bZ (@aA _ _ _ _ _ _ _ _ _ be O B.isi OP ((pv 0)^^^((bN (v:=.ty "int") O B.int OX O)^^^ad)) ∅ ∅ O O) (bZ (mj (@aA _ _ _ _ _ _ _ _ _ be O B.isi OP ((pv 0)^^^((bN (v:=.ty "bool") O B.bool PyProof.Rows.boot_bool O)^^^ad)) ∅ ∅ O O)) (de (@bh _ _ _ _ _ _ _ _ sM (pv 0) (pv 1) (aB _)))))⁻¹)|?_];dsimp only[bW];cases hd with
 | non=>exact%[_,O,_,_,_,_,_,O,(Ty.non (K:=K)).2,O,dC "NoneType" (by simp[ax]),_,O|aM q]
 | str z=>exact%[_,O,_,_,_,_,_,O,(Ty.str (K:=K)).2,O,dC "str" (by simp[ax]),_,O|aM q]
 | lst n h r=>exact%[_,O,_,_,_,_,_,O,(Ty.lst h (K:=K)).2,O,dC "list" (by simp[ax]),_,O|aM q]
 | tup h r=>exact%[_,O,_,_,_,_,_,O,(Ty.tup h (K:=K)).2,O,dC "tuple" (by simp[ax]),_,O|aM q]
 | emp h=>exact%[_,O,_,_,_,_,_,O,(Ty.dK h (K:=K)).2,O,dC "dict" (by simp[ax]),_,O|aM q]
 | bl b=>exact%[_,O,_,_,_,_,_,O,(Ty.bl (K:=K)).2,O,dC "bool" (by simp[ax]),_,O|aH %[_,O,_,_,_,_,_,O,(Ty.bl (K:=K)).2,O,bV "bool" (by simp[ax]),_,O,_,O|aM q]]
 | int i=>exact%[_,O,_,_,_,_,_,O,(Ty.int (K:=K)).2,O,dC "int" (by simp[ax]),_,O|aH %[_,O,_,_,_,_,_,O,(Ty.int (K:=K)).2,O,bV "int" (by simp[ax]),_,O,_,O|aH %[_,O,_,O,_,_,O,O|q]]]
theorem scislf:FnScope ["_law_shop_here","_law_wide","_law_high","_law_told_here","_law_own"] ["_law_shop_here","_law_wide","_law_high","_law_told_here"] (defScope gi):=%[O,O,O,∅,O,∅|∅]
theorem xj{f:OE}{fd:F7}(F:Fun K "_law_is_leaf" "_law_is_leaf" gi f fd)(B:Blt mg)(DPl:Dn P w K mg base "_law_plain" ["_law_thing","_law_least"] 1 (spPlain))(DSd:Dn P w K mg base "_law_sides" ["_law_shop_here","_law_kind","_law_turned"] 1 (spSidesC))(DLy:Dn P w K mg base "_law_lyings" ["_law_shop_here"] 1 (spLyingsC)):FnOk P w K mg base CX0 2 f fd ["_law_shop_here","_law_wide","_law_high","_law_told_here"] (spIsLf):=by
 refine F.ok scislf (λ vs H Q E h=>?_) (λ cdv A outer s H vs Q E hr h=>?_)
 ·refine cN λ G9 k9=>?_;obtain⟨pp,t,kl,a,b,W,h1,ks,xs,ds,rfl,_⟩:=h;refine k9 ?_
  rfl
 refine cN λ G9 k9=>?_;obtain⟨pp,t,kl,a,b,W,h1,ks,xs,ds,rfl,sh,k8,ha,dx,q⟩:=h;refine k9 ?_;have nd:=scislf.nd;have hu65:=Nat.lt_of_succ_lt hr.units66;refine%[_,(((PW.pt (bn ((@aA _ _ _ _ _ _ _ _ _ aN O B.len OW ((pv 3)^^^ad) ∅ ∅ O O)<*>cI<*>ae) (bn (@aS _ _ _ _ (@aO _ _ _ (DPl∩(((pv 3)&&&ix_tup&&&ae)^^^(ae^^^ad))) (by intro _;rfl))) (bG (@aS _ _ _ _ (@aO _ _ _ (@aA _ _ _ _ _ _ _ _ _ be O B.isi OP (((pv 3)&&&ix_tup&&&ae)^^^((bN (v:=.ty "bool") O B.bool PyProof.Rows.boot_bool O)^^^ad)) ∅ ∅ O O) (by intro _;rfl)))))))<|>(bF⁻¹)<|>az)<<<(((PW.pt (bn (@ay _ _ _ _ _ _ _ _ (qI hu65) (@aT _ _ _ _ _ _ _ _ _ _ mB (pv 3) (aW ae) (aW ae)) (DLy∩((pv 0)^^^ad)) O) (bn (@aS _ _ _ _ (@aO _ _ _ (DPl∩(((pv 3)&&&ix_tup&&&ae)^^^(ae^^^ad))) (by intro _;rfl))) (bG (@aS _ _ _ _ (@aO _ _ _ (DPl∩(((pv 3)&&&ix_tup&&&ae)^^^(ae^^^ad))) (by intro _;rfl)))))))<|>(bF⁻¹)<|>az)<<<((4∣(DSd∩((pv 0)^^^(((pv 3)&&&ix_tup&&&ae)^^^(((pv 3)&&&ix_tup&&&ae)^^^ad)))))<<<((bZ (@bh _ _ _ _ _ _ _ _ gW (((pv 3)&&&ix_tup&&&ae)|||aX|||((pv 4)&&&ix_tup&&&ae)) (pv 1) (aB _)) (de (@bh _ _ _ _ _ _ _ _ gW (((pv 3)&&&ix_tup&&&ae)|||aX|||((pv 4)&&&ix_tup&&&ae)) (pv 2) (aB _))))⁻¹))))|?_];dsimp only[bW];have xl:=dx.length
 by_cases h5:xs.length=5
 case neg=>
  refine bO (λ σ' H'=>False) (λ R hR=>?_) (λ _ _ z=>z.elim);have q0:=q H (Same.refl _);rw[show lf5 ks W h1 ds=false by unfold lf5;split;(· exact absurd (by rw[xl];rfl) h5);(· rfl)]at q0;exact%[_,O,a,_,O,.inr (G1 ha),O,_,O|cK (by simp;lia) q0]
 obtain⟨x0,x1,x2,x3,x4,rfl⟩:=pP h5;obtain⟨d0,d1,d2,d3,d4,rfl,g1,g2,g3,g4⟩:=dx.five;clear xl;have lfe:lf5 ks W h1 [d0,d1,d2,d3,d4]=eA ks W h1 d1 d2 d3 d4:=rfl;refine bf (λ R=>(∃(i:Int)(c:Bool),0<=i/\d1=.int i/\d2=.bool c/\x1=.int i/\x2=.bl c)->R [↑t,⇑W,⇑h1,↑a,none] H) (λ R hR=>?_) ?_
 ·refine%[_,O,a,_,O,.inr (G1 ha),O,_,O|?_];refine aM %[_,rfl,a,_,1,_,rfl,rfl,G1 ha,rfl,pp,_,d1,0,rfl,g1,_,rfl|?_];cases hw:whD d1 0 with
  | false=>
   have q0:=q H (Same.refl _);rw[lfe,nG (by rw[hw];rfl)]at q0
   first | exact aH q0 | exact aH (aH q0)
  | true=>
   refine aM ?_;cases g2 with
   | non=>
    have q0:Q (.bl false) H:=by have:=q H (Same.refl _);cases d1 <;> exact this
    exact%[_,O,a,_,2,_,O,O,G1 ha,O,_,_,_,_,_,O,(Ty.non (K:=K)).2,O,bV "NoneType" (by simp[ax]),_,O|(by first | exact aH q0 | exact aH (aH q0))]
   | int z=>
    have q0:Q (.bl false) H:=by have:=q H (Same.refl _);cases d1 <;> exact this
    exact%[_,O,a,_,2,_,O,O,G1 ha,O,_,_,_,_,_,O,(Ty.int (K:=K)).2,O,bV "int" (by simp[ax]),_,O|(by first | exact aH q0 | exact aH (aH q0))]
   | str z=>
    have q0:Q (.bl false) H:=by have:=q H (Same.refl _);cases d1 <;> exact this
    exact%[_,O,a,_,2,_,O,O,G1 ha,O,_,_,_,_,_,O,(Ty.str (K:=K)).2,O,bV "str" (by simp[ax]),_,O|(by first | exact aH q0 | exact aH (aH q0))]
   | lst n h r=>
    have q0:Q (.bl false) H:=by have:=q H (Same.refl _);cases d1 <;> exact this
    exact%[_,O,a,_,2,_,O,O,G1 ha,O,_,_,_,_,_,O,(Ty.lst h (K:=K)).2,O,bV "list" (by simp[ax]),_,O|(by first | exact aH q0 | exact aH (aH q0))]
   | tup h r=>
    have q0:Q (.bl false) H:=by have:=q H (Same.refl _);cases d1 <;> exact this
    exact%[_,O,a,_,2,_,O,O,G1 ha,O,_,_,_,_,_,O,(Ty.tup h (K:=K)).2,O,bV "tuple" (by simp[ax]),_,O|(by first | exact aH q0 | exact aH (aH q0))]
   | emp h=>
    have q0:Q (.bl false) H:=by have:=q H (Same.refl _);cases d1 <;> exact this
    exact%[_,O,a,_,2,_,O,O,G1 ha,O,_,_,_,_,_,O,(Ty.dK h (K:=K)).2,O,bV "dict" (by simp[ax]),_,O|(by first | exact aH q0 | exact aH (aH q0))]
   | bl c=>
    refine%[_,O,a,_,2,_,O,O,G1 ha,O,_,_,_,_,_,O,(Ty.bl (K:=K)).2,O,bV "bool" (by simp[ax]),_,O|aM (hR ?_)];cases g1 with
    | int i=>exact%[i,c,C0 hw,O,O,O|O]
    | _=>cases hw
 intro hI9;refine cN λ G9 k9=>?_;obtain⟨i,c,i0,rfl,rfl,rfl,rfl⟩:=hI9;refine k9 ?_;clear g1 g2;refine bf (λ R=>∀(H':Hp),Same H H'->dF ks (.int i) (.bl c)=true->(∃x y:Int,0<=x/\0<=y/\d3=.int x/\d4=.int y/\x3=.int x/\x4=.int y)->R [↑t,⇑W,⇑h1,↑a,none] H') (λ R hR=>?_) ?_
 ·refine%[_,O,_,O,_,O,a,_,O,G1 ha,(λ z=>absurd z.1 (show¬ HT.sIx 5 0 (some 1)=0 by decide))|λ s2 hs2=>?_];refine aU hs2 λ H1 k1 s1=>?_;have k1:H1 s2= ~~~[.int i,.bl c]:=k1;refine%[_,O,t,kl,b,ks,O,sh.same s1,k8|λ l ys H2 hl hl0 pl s12=>?_];refine%[s2,l,.int i,.bl c,ys,_,O,O,s12 _ _ k1,(.inr (.inr (.inl %[i|O]))),(.inr (.inl %[c|O])),hl,uZ pl,_,O|?_];have s02:=s1.trans s12;have ha2:=s02 _ _ ha;have q0:=q H2 s02;rw[lfe]at q0;rw[xi ks i0];cases hy:dF ks (.int i) (.bl c)with
  | false=>
   rw[show eA ks W h1 (.int i) (.bool c) d3 d4=false by cases d3 <;> cases d4 <;> first | rfl | (show dP ks W h1 (.int i) (.bl c) _ _=false;unfold dP;rw[hy];rfl)]at q0
   first | exact aH q0 | exact aH (aH q0)
  | true=>
   refine aM %[_,rfl,a,_,3,_,rfl,rfl,G1 ha2,rfl,pp,_,d3,0,rfl,g3.same s02,_,rfl|?_];cases hw:whD d3 0 with
   | false=>
    rw[nG (by rw[hw];cases whD (.int i) 0 <;> rfl)]at q0
    first | exact aH q0 | exact aH (aH q0)
   | true=>
    refine aM %[_,rfl,a,_,4,_,rfl,rfl,G1 ha2,rfl,pp,_,d4,0,rfl,g4.same s02,_,rfl|?_];cases hv:whD d4 0 with
    | false=>
     rw[nG (by rw[hw,hv];cases whD (.int i) 0 <;> rfl)]at q0
     first | exact aH q0 | exact aH (aH q0)
    | true=>
     refine aM (hR _ s02 hy ?_);cases g3 with
     | int x=>
      cases g4 with
      | int y=>exact%[x,y,C0 hw,C0 hv,O,O,O|O]
      | _=>cases hv
     | _=>cases hw
 intro H2 s2 hy hI9;refine cN λ G9 k9=>?_;obtain⟨x,y,x0',y0',rfl,rfl,rfl,rfl⟩:=hI9;refine k9 ?_;obtain⟨i',c',k,ei,ec,_,hk⟩:=cB hy;cases ei;cases ec;have ha2:=s2 _ _ ha;refine aw (λ R=>∀(ow:OE)(H':Hp),H' ow= ~~~[.int (sd1 k c),.int (sd2 k c)]->Same H2 H'->R [↑t,⇑W,⇑h1,↑a,↑ow] H') (λ Dd hR=>?_) ?_
 ·refine%[_,O,_,O,a,_,1,_,O,O,G1 ha2,O,_,O,a,_,2,_,O,O,G1 ha2,O,t,kl,b,ks,i.toNat,c,k,?_,sh.same s2,hk|λ r H3 hr s3=>hR r _ hr s3];rw[M8 i0]
  rfl
 rintro ow H3 how s23;have ha3:=s23 _ _ ha2;have q0:=q H3 (s2.trans s23);rw[lfe,show eA ks W h1 (.int i) (.bool c) (.int x) (.int y)=(decide (x+sd1 k c<=W) && decide (y+sd2 k c<=h1))by
  show dP ks W h1 (.int i) (.bl c) (.int x) (.int y)=_;unfold dP;rw[hy,show aR (V.int x) 0=true from OO x0',show aR (V.int y) 0=true from OO y0'];dsimp only;rw[hk]
  rfl]at q0
 refine%[_,O,a,_,3,_,O,O,G1 ha3,O,_,O,ow,_,0,_,O,O,G1 how,O,_,_,O,O,_,O,_,_,O,O,_,O|?_];cases hx:decide (x+sd1 k c<=W)with
 | false=>
  rw[hx,J8]at q0;exact aM q0
 | true=>
  rw[hx,J6]at q0;exact aH %[_,rfl,a,_,4,_,rfl,rfl,G1 ha3,rfl,_,rfl,ow,_,1,_,rfl,rfl,G1 how,rfl,_,_,rfl,rfl,_,rfl,_,_,rfl,rfl|q0]
end
inductive NL:PyData->Prop
|mk{d:PyData}(_:∀ds,d≠.list ds)(_:∀ds x,d=.tuple ds->x∈ds->NL x):NL d
theorem NL.tup{d:PyData}{ds:OI PyData}(h:NL d)(e:aI d=some ds):d=.tuple ds:=by
 cases h with
 | mk h1 h2=>
  cases d with
  | list xs=>exact absurd rfl (h1 xs)
  | tuple xs=>cases e;rfl
  | _=>cases e
theorem NL.mem{d x:PyData}{ds:OI PyData}(h:NL d)(e:aI d=some ds)(hx:x∈ds):NL x:=by
 have e':=h.tup e;cases h with
 | mk h1 h2=>exact h2 ds x e' hx
theorem ve{ks:OI Kd}{w h:Int}{d:PyData}(e:isL ks w h d=true):∃t ys,lfD d=some t/\aI d=some ys/\tlD t=.tuple ys:=by
 unfold isL at e
 split at e
 ·rename_i hb
  unfold bw at hb
  split at hb
  ·rename_i y r er
   simp only[G8,Ov]at hb;obtain⟨h1,h2⟩:=hb
   match r,h1 with
   | [k,t,x,z],_=>
    rw[er]at e;dsimp only at e;unfold eA at e
    split at e
    ·rename_i i c x z _
     have i0:0<=i:=by unfold dP at e;rw[G8,G8,G8]at e;obtain⟨i',_,_,ei,_,g,_⟩:=cB e.1.1.1;cases ei;exact g
     refine%[.piece i.toNat c x z,_,by unfold lfD;rw[er];rfl,er|?_];rw[tlD,M8 i0,<- h2]
    ·cases e
  ·cases hb
 ·unfold bw at e
  split at e
  ·rename_i y r er
   simp only[G8,Ov]at e;obtain⟨h1,h2⟩:=e
   match r,h1 with
   | [],_=>
    refine%[.rest,_,by unfold lfD;rw[er];rfl,er|?_];rw[tlD,<- h2]
  ·cases e
theorem jb{f:PyData->OG (Int×Tl)}:∀{es:OI PyData}{l:OI (Int×Tl)},cW f es=some l->(∀x∈es,∀z,f x=some z->x=.tuple [.int z.1,tlD z.2])->es=aF (ofL l)
 | [],l,h,_=>by cases h;rw[ofL,aF]
 | x :: es,l,h,hf=>by
  unfold cW at h
  split at h
  ·rename_i z ez
   obtain⟨l',hl,rfl⟩:=M3.mp h;rw[ofL,aF,<- jb hl λ y hy=>hf y (B3 _ hy),hf x B7 z ez]
  ·cases h
theorem nH{b:Int}{ks:OI Kd}:∀{n:Nat}{w h:Int}{d:PyData}{t:Tl},rdT b ks n w h d=some t->NL d->d=tlD t
 | 0,_,_,_,_,e,_=>by rw[rdT]at e;cases e
 | n+1,w,h,d,t,e,nl=>by
  cases hw:wyD d with
  | none=>
   rw[dj hw]at e
   split at e
   ·rename_i hl
    obtain⟨t',ys,e1,e2,e3⟩:=ve hl;rw[e1]at e;cases e;rw[e3];exact nl.tup e2
   ·cases e
  | some dn=>
   obtain⟨e2,er⟩:=iZ hw;cases hv:dvD b (if dn=true then w else h) dn e2 with
   | false=>rw[cD hw er hv]at e;cases e
   | true=>
    obtain⟨es,er2,l2,_⟩:=gQ hv;rw[fE hw er er2,OR hv]at e;obtain⟨l,hl,e⟩:=Option.bind_eq_some_iff.mp e;obtain⟨rfl,_⟩:=ja e;have nl2:=nl.mem er (B3 _ B7);have ee:=jb hl λ x hx z ez=>by obtain⟨y,ey,ez⟩:=dQ ez;have nx:=nl2.mem er2 hx;rw[nx.tup ey,<- nH ez (nx.mem ey (B3 _ B7))]
    rw[tlD,<- ee,nl.tup er,nl2.tup er2]
theorem Lsds.refl:∀ds:OI PyData,Lsds ds ds
 | []=>.nil
 | d :: ds=>.cons (.same d) (Lsds.refl ds)
theorem bP{d d':PyData}(h:Lsd d d'):(aI d=none/\d'=d)\/∃ds ds',aI d=some ds/\aI d'=some ds'/\Lsds ds ds':=by
 cases h with
 | same d=>
  cases e:aI d with
  | none=>exact .inl %[O|O]
  | some ds=>exact .inr %[ds,ds,O,O|Lsds.refl ds]
 | row r=>exact .inr %[_,_,O,O|r]
theorem kZ{d d':PyData}(h:Lsd d d')(z:Str)(n:Nat):bw d' z n=bw d z n:=by
 rcases bP h with⟨_,rfl⟩ | ⟨ds,ds',e,e',r⟩
 ·rfl
 ·unfold bw;rw[e,e'];cases r with
  | nil=>rfl
  | @cons x x' xs xs' hx r=>
   have rl:=r.length;cases hx with
   | same x=>
    cases x with
    | str y=>show(decide (xs'.length+1=n) && _)=(decide (xs.length+1=n) && _);rw[rl]
    | _=>rfl
   | row _=>rfl
theorem qc{d d':PyData}(h:Lsd d d'):wyD d'=wyD d:=by unfold wyD;rw[kZ h,kZ h]
theorem qd{d d':PyData}(h:Lsd d d')(l:Int):whD d' l=whD d l:=by
 cases h with
 | same=>rfl
 | row _=>rfl
theorem xk{d d':PyData}(h:Lsd d d')(dn:Bool):szD dn d'=szD dn d:=by
 rcases bP h with⟨_,rfl⟩ | ⟨ds,ds',e,e',r⟩
 ·rfl
 ·unfold szD;rw[e,e'];cases r with
  | nil=>rfl
  | cons hx r=>
   cases r with
   | nil=>rfl
   | cons hy r=>
    cases r with
    | nil=>dsimp only;rw[qd hx,qc hy]
    | cons _ _=>rfl
theorem xn{d d':PyData}(h:Lsd d d'):fsI d'=fsI d:=by
 rcases bP h with⟨_,rfl⟩ | ⟨ds,ds',e,e',r⟩
 ·rfl
 ·unfold fsI;rw[e,e'];cases r with
  | nil=>rfl
  | @cons x x' xs xs' hx r=>
   cases hx with
   | same=>cases x <;> rfl
   | row _=>rfl
theorem jc{α:Type}{f:PyData->α}(hf:∀ {d d':PyData},Lsd d d'->f d'=f d):∀{ds ds':OI PyData},Lsds ds ds'->ds'.map f=ds.map f
 | _,_,.nil=>rfl
 | _,_,.cons h r=>by rw[J4,J4,hf h,jc hf r]
theorem xo{d d':PyData}(h:Lsd d d')(b s:Int)(dn:Bool):dvD b s dn d'=dvD b s dn d:=by
 rcases bP h with⟨_,rfl⟩ | ⟨ds,ds',e,e',r⟩
 ·rfl
 ·unfold dvD;rw[e,e'];dsimp only;have h1:=jc (f:=szD dn) (λ h=>xk h dn) r;have h2:=jc (f:=fsI) (λ h=>xn h) r;have h3:ds'.all (szD dn)=ds.all (szD dn):=by have:=On (λ l:OI Bool=>l.all id) h1;simpa[List.all_map,Function.comp_def]using this
  rw[r.length,h2,h3]
theorem vf{ks:OI Kd}{w h:Int}{a b c e a' b' c' e':PyData}(h1:Lsd a a')(h2:Lsd b b')(h3:Lsd c c')(h4:Lsd e e'):eA ks w h a' b' c' e'=eA ks w h a b c e:=by
 cases h1 with
 | row _=>rfl
 | same a=>
  cases h2 with
  | row _=>cases a <;> rfl
  | same b=>
   cases h3 with
   | row _=>cases a <;> cases b <;> rfl
   | same c=>
    cases h4 with
    | row _=>cases a <;> cases b <;> cases c <;> rfl
    | same e=>rfl
theorem xq{ks:OI Kd}{w h:Int}{d d':PyData}(hd:Lsd d d'):isL ks w h d'=isL ks w h d:=by
 unfold isL;rw[kZ hd,kZ hd]
 split
 ·rcases bP hd with⟨_,rfl⟩ | ⟨ds,ds',e,e',r⟩
  ·rfl
  ·rw[e,e'];cases r with
   | nil=>rfl
   | cons h0 r=>cases r with
    | nil=>rfl
    | cons h1 r=>cases r with
     | nil=>rfl
     | cons h2 r=>cases r with
      | nil=>rfl
      | cons h3 r=>cases r with
       | nil=>rfl
       | cons h4 r=>cases r with
        | nil=>exact vf h1 h2 h3 h4
        | cons _ _=>rfl
 ·rfl
theorem xt{r r':OI PyData}(h:Lsds r r'):lfR r'=lfR r:=by
 cases h with
 | nil=>rfl
 | @cons x1 x1' _ _ h1 r=>cases r with
  | nil=>cases h1 with
   | same=>rfl
   | row _=>rfl
  | @cons x2 x2' _ _ h2 r=>cases r with
   | nil=>simp[lfR]
   | @cons x3 x3' _ _ h3 r=>cases r with
    | nil=>simp[lfR]
    | @cons x4 x4' _ _ h4 r=>cases r with
     | cons _ _=>simp[lfR]
     | nil=>
      cases h1 with
      | row _=>simp[lfR]
      | same=>cases h2 with
       | row _=>simp[lfR]
       | same=>cases h3 with
        | row _=>simp[lfR]
        | same=>cases h4 with
         | row _=>simp[lfR]
         | same=>rfl
theorem xu{d d':PyData}(hd:Lsd d d'):lfD d'=lfD d:=by
 rcases bP hd with⟨_,rfl⟩ | ⟨ds,ds',e,e',r⟩
 ·rfl
 ·unfold lfD;rw[e,e'];cases r with
  | nil=>rfl
  | cons h0 r=>exact xt r
theorem lX{β:Type}{f:PyData->OG β}(hf:∀ {d d':PyData},Lsd d d'->f d'=f d):∀{ds ds':OI PyData},Lsds ds ds'->cW f ds'=cW f ds
 | _,_,.nil=>rfl
 | _,_,.cons h r=>by unfold cW;rw[hf h,lX hf r]
theorem xw{f:Int->Int->PyData->OG Tl}(hf:∀ {w h:Int} {d d':PyData},Lsd d d'->f w h d'=f w h d){dn:Bool}{w h:Int}{d d':PyData}(hd:Lsd d d'):rdI f dn w h d'=rdI f dn w h d:=by
 rcases bP hd with⟨_,rfl⟩ | ⟨ds,ds',e,e',r⟩
 ·rfl
 ·unfold rdI;rw[e,e'];cases r with
  | nil=>rfl
  | @cons x x' xs xs' hx r=>
   cases r with
   | nil=>cases hx with
    | same=>cases x <;> rfl
    | row _=>rfl
   | @cons y y' ys ys' hy r=>
    cases r with
    | nil=>cases hx with
     | row _=>rfl
     | same=>cases x with
      | int s=>dsimp only;rw[hf hy]
      | _=>rfl
    | cons _ _=>cases hx with
     | same=>cases x <;> rfl
     | row _=>rfl
theorem qg{b:Int}{ks:OI Kd}:∀(n:Nat){w h:Int}{d d':PyData},Lsd d d'->rdT b ks n w h d'=rdT b ks n w h d
 | 0,_,_,_,_,_=>by rw[rdT,rdT]
 | n+1,w,h,d,d',hd=>by
  rw[rdT,rdT,qc hd,xq hd,xu hd]
  split
  ·rfl
  ·rename_i dn _
   rcases bP hd with⟨_,rfl⟩ | ⟨ds,ds',e,e',r⟩
   ·rfl
   ·rw[e,e'];cases r with
    | nil=>rfl
    | cons h0 r=>cases r with
     | nil=>rfl
     | cons h1 r=>cases r with
      | cons _ _=>rfl
      | nil=>
       dsimp only;rw[xo h1];rcases bP h1 with⟨_,rfl⟩ | ⟨es,es',g,g',rr⟩
       ·rfl
       ·rw[g,g'];dsimp only;rw[lX (f:=rdI (rdT b ks n) dn w h) (λ h=>xw (f:=rdT b ks n) (λ h=>qg n h) h) rr]
theorem cq{d:PyData}{z:Str}{r:OI PyData}(e:aI d=some (.str z :: r))(y:Str)(n:Nat):bw d y n=(decide (r.length+1=n) && decide (z=y)):=by unfold bw;rw[e]
theorem gt{b:Int}{ks:OI Kd}{n:Nat}{w h:Int}{d:PyData}(e:wyD d=none)(l:isL ks w h d=false):rdT b ks (n+1) w h d=none:=by rw[dj e,l,OQ B1]
theorem jU{b:Int}{ks:OI Kd}{n:Nat}{w h:Int}{d:PyData}(hb:∀y m,bw d y m=false):rdT b ks (n+1) w h d=none:=by
 refine gt ?_ ?_
 ·unfold wyD;rw[hb,hb,OQ B1,OQ B1]
 ·unfold isL;rw[hb,hb,OQ B1]
theorem vg{b:Int}{ks:OI Kd}{n:Nat}{w h:Int}{d:PyData}(e:aI d=none):rdT b ks (n+1) w h d=none :=
 jU λ y m=>by unfold bw;rw[e]
theorem lY{b:Int}{ks:OI Kd}{n:Nat}{w h:Int}{d:PyData}{ds:OI PyData}(e:aI d=some ds)(hs:∀z r,ds≠.str z :: r):rdT b ks (n+1) w h d=none :=
 jU λ y m=>by
  unfold bw;rw[e]
  split
  ·rename_i z r ez
   exact absurd (B8 ez) (hs z r)
  ·rfl
theorem xy{b:Int}{ks:OI Kd}{n:Nat}{w h:Int}{d:PyData}{r:OI PyData}(e:aI d=some (.str "rest" :: r)):(rdT b ks (n+1) w h d).isSome=decide (r.length+1=1):=by
 have n1:wyD d=none:=by unfold wyD;rw[cq e,cq e,OS (show¬ ((("rest" : Str))=wyL true)by decide +kernel),OS (show¬ ((("rest" : Str))=wyL false)by decide +kernel),J3,OQ B1,OQ B1]
 have n2:isL ks w h d=decide (r.length+1=1):=by unfold isL;rw[cq e,cq e,OS (show¬ ((("rest" : Str)) = "piece")by decide +kernel),J3,OQ B1,OO (show((("rest" : Str)) = "rest")from rfl),K1]
 cases hl:isL ks w h d with
 | false=>rw[gt n1 hl,<- n2,hl];rfl
 | true=>
  obtain⟨t,ys,e1,_,_⟩:=ve hl;rw[dj n1,hl,OR rfl,e1,<- n2,hl];rfl
theorem vh{b:Int}{ks:OI Kd}{n:Nat}{w h:Int}{d:PyData}{r:OI PyData}(e:aI d=some (.str "piece" :: r)):(rdT b ks (n+1) w h d).isSome=lf5 ks w h (.str "piece" :: r):=by
 have n1:wyD d=none:=by unfold wyD;rw[cq e,cq e,OS (show¬ ((("piece" : Str))=wyL true)by decide +kernel),OS (show¬ ((("piece" : Str))=wyL false)by decide +kernel),J3,OQ B1,OQ B1]
 have n2:isL ks w h d=lf5 ks w h (.str "piece" :: r):=by
  unfold isL;rw[cq e,cq e,OS (show¬ ((("piece" : Str)) = "rest")by decide +kernel),J3,OO (show((("piece" : Str)) = "piece")from rfl),K1]
  split
  ·rename_i hl
   rw[e]
   match r,C0 hl with
   | [k,t,x,y],_=>rfl
  ·rename_i hl
   unfold lf5
   split
   ·rename_i k t x y ez
    cases ez;exact absurd (A9 (by rfl)) hl
   ·rfl
 cases hl:isL ks w h d with
 | false=>rw[gt n1 hl,<- n2,hl];rfl
 | true=>
  obtain⟨t,ys,e1,_,_⟩:=ve hl;rw[dj n1,hl,OR rfl,e1,<- n2,hl];rfl
theorem qh{b:Int}{ks:OI Kd}{n:Nat}{w h:Int}{d:PyData}{z:Str}{r:OI PyData}(e:aI d=some (.str z :: r))(h1:z ≠ "rest")(h2:z ≠ "piece")(h3:(z≠wyL true/\z≠wyL false)\/r.length≠1):rdT b ks (n+1) w h d=none:=by
 refine gt ?_ ?_
 ·unfold wyD;rw[cq e,cq e];rcases h3 with⟨h3,h4⟩ | h3
  ·rw[OS h3,OS h4,J3,OQ B1,OQ B1]
  ·rw[OS (show¬ (r.length+1=2)by lia),J8,J8,OQ B1,OQ B1]
 ·unfold isL;rw[cq e,cq e,OS h1,OS h2,J3,J3,OQ B1]
theorem vi{d e:PyData}{dn:Bool}(er:aI d=some [.str (wyL dn),e]):wyD d=some dn:=by
 unfold wyD;rw[cq er,cq er];cases dn with
 | true=>rw[OO (rfl:wyL true=wyL true)];rfl
 | false=>rw[OS (show¬ (wyL false=wyL true)by decide +kernel),OO (rfl:wyL false=wyL false)];rfl
mutual
theorem yF{p:OE}{H:Hp}:∀(t:Tl){v:V},Dt p H v (tlD t)->TlV H t v
 | .rest,v,h=>by
  rw[tlD]at h;rw[TlV];cases h with
  | tup ha r=>cases r with
   | cons g r=>cases r;cases g;exact%[_,O|ha]
 | .piece i c x y,v,h=>by
  rw[tlD]at h;rw[TlV];cases h with
  | tup ha r=>cases r with
   | cons g0 r=>cases r with
    | cons g1 r=>cases r with
     | cons g2 r=>cases r with
      | cons g3 r=>cases r with
       | cons g4 r=>cases r;cases g0;cases g1;cases g2;cases g3;cases g4;exact%[_,O|ha]
 | .row dn r,v,h=>by
  rw[tlD]at h;rw[TlV];cases h with
  | tup ha r=>cases r with
   | cons g0 r=>cases r with
    | cons g1 r=>
     cases r;cases g0;cases g1 with
     | tup hb r2=>exact%[_,_,_,O,ha,hb|la _ r2]
theorem la{p:OE}{H:Hp}:∀(r:Tls){xs:OI V},Dts p H xs (aF r)->TlsV H r xs
 | .nil,xs,h=>by rw[aF]at h;rw[TlsV];cases h;rfl
 | .cons n t r,xs,h=>by
  rw[aF]at h;rw[TlsV];cases h with
  | cons g r2=>cases g with
   | tup ha r3=>cases r3 with
    | cons g0 r4=>cases r4 with
     | cons g1 r5=>cases r5;cases g0;exact%[_,_,_,O,ha,yF t g1|la r r2]
end
theorem qi{H:Hp}:∀{l:OI (Int×Tl)}{xs:OI V},TlsV H (ofL l) xs->Paired (ItV H) xs l
 | [],xs,h=>by rw[ofL,TlsV]at h;rw[h];exact .nil
 | z :: l,xs,h=>by rw[ofL,TlsV]at h;obtain⟨a,u,ys,rfl,h1,h2,h3⟩:=h;exact .cons %[a,u,O,h1|h2] (qi h3)
def tlH:Tl->Str
 | .rest=>"rest"
 | .piece ..=>"piece"
 | .row dn _=>wyL dn
theorem TlV.hd{H:Hp}{t:Tl}{v:V}(h:TlV H t v):∃a ys,v=.ref a/\H a= ~~~(.str (tlH t) :: ys):=by
 cases t with
 | rest=>rw[TlV]at h;obtain⟨a,e,h⟩:=h;exact%[a,_,e|h]
 | piece i c x y=>rw[TlV]at h;obtain⟨a,e,h⟩:=h;exact%[a,_,e|h]
 | row dn r=>rw[TlV]at h;obtain⟨a,q,xs,e,h,_⟩:=h;exact%[a,_,e|h]
theorem xz{a b:Bool}(h:wyL a=wyL b):a=b:=by
 cases a <;> cases b
 ·rfl
 ·exact absurd h ∅
 ·exact absurd h ∅
 ·rfl
theorem tlH_wy{t:Tl}{dn:Bool}:wyD (tlD t)=some dn↔tlH t=wyL dn:=by
 constructor
 ·intro h;obtain⟨e,he⟩:=iZ h;cases t with
  | rest=>rw[tlD]at he;exact absurd (On List.length (B8 he)) (by simp)
  | piece i c x y=>rw[tlD]at he;exact absurd (On List.length (B8 he)) (by simp)
  | row d' r=>
   rw[tlD]at he;have he:some [PyData.str (wyL d'),.tuple (aF r)]=some [.str (wyL dn),e]:=he;injection he with he
   injection he with he _
   injection he with he
 ·intro h;cases t with
  | rest=>cases dn <;> exact absurd h ∅
  | piece i c x y=>cases dn <;> exact absurd (show("piece" : Str)=wyL _ from h) ∅
  | row d' r=>
   rw[<- xz h,tlD];exact vi rfl
theorem zO{b:Int}{ks:OI Kd}{n:Nat}{w h:Int}{d x e2 e:PyData}{es:OI PyData}{dn:Bool}(ew:wyD d=some dn)(er:aI d=some [x,e2])(er2:aI e2=some es)(hm:e∈es)(hb:szD dn e=false\/rdI (rdT b ks n) dn w h e=none):rdT b ks (n+1) w h d=none:=by
 cases hv:dvD b (if dn=true then w else h) dn e2 with
 | false=>exact cD ew er hv
 | true=>
  rw[fE ew er er2,OR hv];rcases hb with hb | hb
  ·obtain⟨es',g,_,al,_⟩:=gQ hv;rw[er2]at g;cases g;rw[al e hm]at hb;cases hb
  ·rw[gP hm hb];rfl
theorem zP{dn:Bool}{e:PyData}{ds:OI PyData}(er:aI e=some ds)(h:ds.length≠2):szD dn e=false:=by
 cases hz:szD dn e with
 | false=>rfl
 | true=>
  obtain⟨n,y,g,_⟩:=kY hz;rw[er]at g;cases g;exact absurd rfl h
theorem xA{dn:Bool}{e:PyData}(er:aI e=none):szD dn e=false:=by unfold szD;rw[er]
theorem vj{dn:Bool}{e x y:PyData}(er:aI e=some [x,y]):szD dn e=(whD x 1 && decide (wyD y≠some dn)):=by unfold szD;rw[er]
theorem zQ{d:PyData}{l:Int}(h:whD d l=true):∃n,d=.int n/\l<=n:=by
 cases d with
 | int n=>exact%[n,O|C0 h]
 | _=>cases h
def lfS(b s:Int)(es:OI PyData):Int:=s+b - (es.map λ e=>fsI e+b).sum
theorem vk(b s:Int)(es:OI PyData)(e:PyData):lfS b s (es ++ [e])=lfS b s es - fsI e - b:=by unfold lfS;rw[N3,List.sum_append,J4,List.map_nil,List.sum_cons,List.sum_nil];lia
theorem yG(b:Int):∀es:OI PyData,(es.map λ e=>fsI e+b).sum=(es.map fsI).sum+b * (es.length:Int)
 | []=>by simp
 | e :: es=>by
  rw[J4,List.sum_cons,J4,List.sum_cons,yG b es,I9,Int.natCast_add,Int.mul_add];have:b * (((1:Nat)):Int)=b:=by rw[show(((1:Nat)):Int)=1 from rfl,Int.mul_one]
  lia
theorem zR{b s:Int}{dn:Bool}{d:PyData}{es:OI PyData}(er:aI d=some es)(l2:2<=es.length)(al:∀e∈es,szD dn e=true):dvD b s dn d=decide (lfS b s es=0):=by unfold dvD lfS;rw[er,yG];dsimp only;rw[OO l2,M9.mpr al,J6,J6,Int.mul_sub,Int.mul_one];refine decide_eq_decide.mpr ?_;lia
theorem Dt.tupD{p:OE}{H:Hp}{v:V}{ds:OI PyData}(h:Dt p H v (.tuple ds)):∃a xs,v=.ref a/\H a= ~~~xs/\Dts p H xs ds:=by
 cases h with
 | tup h r=>exact%[_,_,O,h|r]
theorem Dt.kt{K:C4}{p:OE}{H:Hp}{v:V}{d:PyData}(h:Dt p H v d):(∃a xs ds,v=.ref a/\d=.tuple ds/\H a= ~~~xs/\Dts p H xs ds)\/(∃ds,d=.list ds)\/(aI d=none/\∃T,TyOf K H v T/\PySem.W.kitOne K T (.type "tuple")=some false):=by
 cases h with
 | non=>exact .inr (.inr %[O,_,(Ty.non (K:=K)).2|aZ "NoneType" (by simp[ax])])
 | bl b=>exact .inr (.inr %[O,_,(Ty.bl (K:=K)).2|aZ "bool" (by simp[ax])])
 | int i=>exact .inr (.inr %[O,_,(Ty.int (K:=K)).2|aZ "int" (by simp[ax])])
 | str z=>exact .inr (.inr %[O,_,(Ty.str (K:=K)).2|aZ "str" (by simp[ax])])
 | emp h=>exact .inr (.inr %[O,_,(Ty.dK h (K:=K)).2|aZ "dict" (by simp[ax])])
 | lst n h r=>exact .inr (.inl %[_|O])
 | tup h r=>exact .inl %[_,_,_,O,O,h|r]
theorem Dt.ks{K:C4}{p:OE}{H:Hp}{v:V}{d:PyData}(h:Dt p H v d):(∃z,v=.str z/\d=.str z)\/((∀z,d≠.str z)/\∃T,TyOf K H v T/\PySem.W.kitOne K T (.type "str")=some false):=by
 cases h with
 | non=>exact .inr ⟨λ _ e=>(by cases e),_,(Ty.non (K:=K)).2,bT "NoneType" (by simp[ax])⟩
 | bl b=>exact .inr ⟨λ _ e=>(by cases e),_,(Ty.bl (K:=K)).2,bT "bool" (by simp[ax])⟩
 | int i=>exact .inr ⟨λ _ e=>(by cases e),_,(Ty.int (K:=K)).2,bT "int" (by simp[ax])⟩
 | str z=>exact .inl %[_,O|O]
 | emp h=>exact .inr ⟨λ _ e=>(by cases e),_,(Ty.dK h (K:=K)).2,bT "dict" (by simp[ax])⟩
 | lst n h r=>exact .inr ⟨λ _ e=>(by cases e),_,(Ty.lst h (K:=K)).2,bT "list" (by simp[ax])⟩
 | tup h r=>exact .inr ⟨λ _ e=>(by cases e),_,(Ty.tup h (K:=K)).2,bT "tuple" (by simp[ax])⟩
theorem Dts.pick{p:OE}{H:Hp}{xs:OI V}{ds:OI PyData}(D:Dts p H xs ds){r:Int}(r0:0<=r)(r1:r < (xs.length:Int)):∃x d,atI xs r=some x/\Dt p H x d/\d∈ds:=by
 obtain⟨n,rfl⟩:=K3 r0;have hn:n < xs.length:=⋯
 obtain⟨d,hd,dt⟩:=D.get (E9 hn);exact%[_,d,ff (E9 hn),dt|B5 hd]
theorem Dts.one1{p:OE}{H:Hp}{ys:OI V}{e:PyData}:Dts p H ys [e]->∃x,ys=[x]/\Dt p H x e:=λ h=>by
 cases h with
 | cons h r=>cases r;exact%[_,O|h]
section
variable{P:F6}{w:F8}{K:C4}{mg:Str->OG F9}{base:Heap}
inductive spIsTold(n:Nat)(vs:OI V)(H:Hp)(Q:VK)(E_:XK):Prop
|mk(pp t kl:OE)(b w h:Int)(ks:OI Kd)(v:V)(d:PyData)(_:vs=[.ref t,.int w,.int h,v])(_:LS H t b ks kl)(_:ks.length<=8)(_:Dt pp H v d)(_:NL d)(_:Wd d)(_:d.depth < n)(_:d.depth<=200)(_:∀H',Same H H'->Q (.bl (rdT b ks n w h d).isSome) H')
theorem scistold:FnScope ["_law_shop_here","_law_wide","_law_high","_law_told_here","_law_left","_law_thing","_law_sides_here"] ["_law_shop_here","_law_wide","_law_high","_law_told_here"] (defScope fA):=%[O,O,O,∅,O,∅|∅]
theorem rj{f:OE}{fd:F7}(F:Fun K "_law_is_told" "_law_is_told" fA f fd)(B:Blt mg)(bs:mg "str" = none)(n:Nat)(DPl:Dn P w K mg base "_law_plain" ["_law_thing","_law_least"] 1 (spPlain))(DIL:Dn P w K mg base "_law_is_leaf" ["_law_shop_here","_law_wide","_law_high","_law_told_here"] 2 (spIsLf))(DT:Dn P w K mg base "_law_is_told" ["_law_shop_here","_law_wide","_law_high","_law_told_here"] (3+n) (spIsTold n)):FnOk P w K mg base CX0 (3+(n+1)) f fd ["_law_shop_here","_law_wide","_law_high","_law_told_here"] (spIsTold (n+1)):=by
 refine F.ok scistold (λ vs H Q E h=>?_) (λ cdv A outer s H vs Q E hr h=>?_)
 ·obtain⟨pp,t,kl,b,w1,h1,ks,v,d,rfl,_⟩:=h
  rfl
 obtain⟨pp,t,kl,b,w1,h1,ks,v,d,rfl,sh,k8,hd,nl,wd,dn0,d200,q⟩:=h;have nd:=scistold.nd;have hu:=Room.units220 hr (show 2<=3+n by lia);have hu6:=C6 (Nat.add_le_add_left (show 64<=220 by decide) _) hu;refine%[_,(((PW.pt (bn (@aS _ _ _ _ (@aO _ _ _ (@aA _ _ _ _ _ _ _ _ _ be O B.isi OP ((pv 3)^^^((bN (v:=.ty "tuple") O B.tuple OT O)^^^ad)) ∅ ∅ O O) (by intro _;rfl))) (bn ((pv 3)<*>(wJ hu)<*>(@ar _ _ _ _ _ ad)) (bG (@aS _ _ _ _ (@aO _ _ _ (@aA _ _ _ _ _ _ _ _ _ be O B.isi OP (((pv 3)&&&ix_tup&&&ae)^^^((bN (v:=.ty "str") O bs PyProof.Rows.boot_str O)^^^ad)) ∅ ∅ O O) (by intro _;rfl)))))))<|>(bF⁻¹)<|>az)<<<(((((pv 3)&&&ix_tup&&&ae)<*>bc<*>aJ)<|>((@bh _ _ _ _ _ _ _ _ bc (@aA _ _ _ _ _ _ _ _ _ aN O B.len OW ((pv 3)^^^ad) ∅ ∅ O O) ae (aB _))⁻¹)<|>az)<<<(((((pv 3)&&&ix_tup&&&ae)<*>bc<*>aJ)<|>((@ah _ _ _ _ _ _ _ _ _ _ DIL (hr.mono (show 2<=3+n by lia)) O ((pv 0)^^^((pv 1)^^^((pv 2)^^^((pv 3)^^^ad)))) ∅ O O)⁻¹)<|>az)<<<(((PW.pt (bn (@ay _ _ _ _ _ _ _ _ dS ((pv 3)&&&ix_tup&&&ae) (@ar _ _ _ _ _ (aJ^^^(aJ^^^ad))) O) (bn ((@aA _ _ _ _ _ _ _ _ _ aN O B.len OW ((pv 3)^^^ad) ∅ ∅ O O)<*>cI<*>ae) (bn (@aS _ _ _ _ (@aO _ _ _ (@aA _ _ _ _ _ _ _ _ _ be O B.isi OP (((pv 3)&&&ix_tup&&&ae)^^^((bN (v:=.ty "tuple") O B.tuple OT O)^^^ad)) ∅ ∅ O O) (by intro _;rfl))) (bG ((@aA _ _ _ _ _ _ _ _ _ aN O B.len OW (((pv 3)&&&ix_tup&&&ae)^^^ad) ∅ ∅ O O)<*>jt<*>ae))))))<|>(bF⁻¹)<|>az)<<<((4∣(((@aQ _ _ _ _ ((pv 1)^^^((pv 2)^^^ad)))&&&ix_list&&&(@bg _ _ _ _ _ _ _ _ _ cu O B.int OX ((@bh _ _ _ _ _ _ _ _ bc ((pv 3)&&&ix_tup&&&ae) aJ (aB _))^^^ad) ∅ ∅ O O))|||aX|||((pv 0)&&&ix_tup&&&ae)))<<<((@df _ _ _ _ _ _ _ _ E2 O (gz ((pv 3)&&&ix_tup&&&ae)) (ap (i:=5) nd O (Or.inl O)) (((PW.pt (bn (@aS _ _ _ _ (@aO _ _ _ (@aA _ _ _ _ _ _ _ _ _ be O B.isi OP ((pv 5)^^^((bN (v:=.ty "tuple") O B.tuple OT O)^^^ad)) ∅ ∅ O O) (by intro _;rfl))) (bn ((@aA _ _ _ _ _ _ _ _ _ aN O B.len OW ((pv 5)^^^ad) ∅ ∅ O O)<*>cI<*>ae) (bG (@aS _ _ _ _ (@aO _ _ _ (@ah _ _ _ _ _ _ _ _ _ _ DPl (hr.mono (show 1<=3+n by lia)) O (((pv 5)&&&ix_tup&&&ae)^^^(ae^^^ad)) ∅ O O) (by intro _;rfl)))))))<|>(bF⁻¹)<|>az)<<<((4∣(((pv 4)|||bH|||((pv 5)&&&ix_tup&&&ae))|||bH|||((pv 0)&&&ix_tup&&&ae)))<<<((6∣((@aQ _ _ _ _ ((@ar _ _ _ _ _ (((pv 5)&&&ix_tup&&&ae)^^^((pv 2)^^^ad)))^^^((@ar _ _ _ _ _ ((pv 1)^^^(((pv 5)&&&ix_tup&&&ae)^^^ad)))^^^ad)))&&&ix_list&&&(@bg _ _ _ _ _ _ _ _ _ cu O B.int OX ((@bh _ _ _ _ _ _ _ _ bc ((pv 3)&&&ix_tup&&&ae) aJ (aB _))^^^ad) ∅ ∅ O O)))>>>((PW.pt (bn (@aS _ _ _ _ (@aO _ _ _ (DT∪((pv 0)^^^(((pv 6)&&&ix_tup&&&ae)^^^(((pv 6)&&&ix_tup&&&ae)^^^(((pv 5)&&&ix_tup&&&ae)^^^ad))))) (by intro _;rfl))) (bG ((((pv 5)&&&ix_tup&&&ae)&&&ix_tup&&&ae)<*>bc<*>((pv 3)&&&ix_tup&&&ae)))))<|>(bF⁻¹)<|>az)))) (by intro _;rfl))<<<((bZ (@bh _ _ _ _ _ _ _ _ bc (pv 4) ae (aB _)) (de (@bh _ _ _ _ _ _ _ _ (zC hu) ((pv 3)&&&ix_tup&&&ae) (@bg _ _ _ _ _ _ _ _ _ bB O B.tuple OT ((@aA _ _ _ _ _ _ _ _ _ (jl hu) O B.sorted Ow (((pv 3)&&&ix_tup&&&ae)^^^ad) ∅ ∅ O O)^^^ad) ∅ ∅ O O) (aB _))))⁻¹)))))))|?_]
 dsimp only[bW];rcases hd.kt (K:=K)with⟨a,xs,ds,rfl,rfl,ha,r⟩ | ⟨ds,rfl⟩ | ⟨nr,T,ty,kt⟩
 case inr.inl=>
  cases nl with
  | mk n1 _=>exact absurd rfl (n1 _)
 case inr.inr=>
  refine bO (λ σ' H'=>False) (λ R hR=>?_) (λ _ _ z=>z.elim);exact%[_,O,_,_,_,_,_,O,ty,O,kt,_,O|aH (aH (by have:=q H (Same.refl _);rw[vg nr]at this;exact this))]
 refine bf (λ R=>∀(H':Hp),Same H H'->(∃z ys es,xs=.str z :: ys/\ds=.str z :: es/\Dts pp H ys es)->R [↑t,⇑w1,⇑h1,↑a,none,none,none] H') (λ R hR=>?_) ?_
 ·refine%[_,O,_,_,_,_,_,O,(Ty.tup ha (K:=K)).2,O,aZ "tuple" (by simp[ax]),_,O|aM ?_];refine%[_,O,zS0|λ e0 he0=>?_];refine aU he0 λ H1 k1 s1=>?_;have ha1:=s1 _ _ ha;refine%[a,e0,xs,O,O,G1 ha1,G1 k1,_,O|?_];cases r with
  | nil=>
   exact cK (A9 rfl) (aH (by have:=q H1 s1;rw[lY (ds:=[]) rfl (λ z r=>by simp)]at this;exact this))
  | @cons x0 d0 ys es g0 r=>
   refine cL (B0 (by simp)) ?_;rcases(g0.same s1).ks (K:=K)with⟨z,rfl,rfl⟩ | ⟨ns,T,ty,kt⟩
   ·exact%[_,O,a,_,0,_,O,O,G1 ha1,aE (E3 _) rfl,_,_,_,_,_,O,(Ty.str (K:=K)).2,O,bT "str" (by simp[ax]),_,O|aM (hR _ s1 %[z,ys,es,O,O|r])]
   ·exact%[_,O,a,_,0,_,O,O,G1 ha1,aE (E3 _) rfl,_,_,_,_,_,O,ty,O,kt,_,O|aH (by have:=q H1 s1;rw[lY (ds:=_ :: _) rfl (λ z r e=>ns z (List.cons.inj e).1)]at this;exact this)]
 rintro H1 s1 ⟨z,ys,es,rfl,rfl,r2⟩;have ha1:=s1 _ _ ha;have rl:=r2.length;refine bf (λ R=>z ≠ "rest" -> R [↑t,⇑w1,⇑h1,↑a,none,none,none] H1) (λ R hR=>?_) ?_
 ·refine%[_,O,a,_,0,_,O,O,G1 ha1,aE (E3 _) rfl,O,_,O|?_];refine cj (λ hz=>?_) (λ hz=>?_)
  ·have ez:z = "rest" := V.str.inj (C0 hz);subst ez;have q1:=q H1 s1;rw[xy rfl]at q1;refine%[_,O,a,_,O,.inr (G1 ha1),O|?_];rw[show decide (V.int ((V.str "rest" :: ys).length:Int)=V.int 1)=decide (es.length+1=1)from decide_eq_decide.mpr %[λ e=>by have:=V.int.inj e;rw[I9]at this;lia|λ e=>by rw[I9,show ys.length+1=1 by lia];rfl]];exact q1
  ·exact hR (λ e=>hz (A9 (by rw[e])))
 rintro z1;refine bf (λ R=>z ≠ "piece" -> R [↑t,⇑w1,⇑h1,↑a,none,none,none] H1) (λ R hR=>?_) ?_
 ·refine%[_,O,a,_,0,_,O,O,G1 ha1,aE (E3 _) rfl,O,_,O|?_];refine cj (λ hz=>?_) (λ hz=>?_)
  ·have ez:z = "piece" := V.str.inj (C0 hz);subst ez;exact%[_,O,_,O,_,O,_,O,pp,t,kl,a,b,w1,h1,ks,_,_,O,sh.same s1,k8,ha1,r.same s1|λ H2 s2=>by have q1:=q H2 (s1.trans s2);rw[vh rfl]at q1;exact q1]
  ·exact hR (λ e=>hz (A9 (by rw[e])))
 rintro z2;refine bf (λ R=>∀(dn:Bool)(a2:OE)(xs2:OI V)(es2:OI PyData)(H':Hp),z=wyL dn->ys=[.ref a2]->es=[.tuple es2]->Same H H'->H a2= ~~~xs2->Dts pp H xs2 es2->2<=es2.length->R [↑t,⇑w1,⇑h1,↑a,none,none,none] H') (λ R hR=>?_) ?_
 ·refine%[_,O,a,_,0,_,O,O,G1 ha1,aE (E3 _) rfl,zS2|λ e0 he0=>?_];refine aU he0 λ H2 k2 s2=>?_;have s02:=s1.trans s2;have ha2:=s02 _ _ ha;refine%[e0,_,O,.inr (G1 k2),O,O,_,O|?_]
  by_cases hz:∃dn,z=wyL dn
  case neg=>
   have q1:=q H2 s02;rw[qh rfl z1 z2 (.inl %[λ e=>hz %[_|e]|λ e=>hz %[_|e]])]at q1;rw[show inV (V.str z) [V.str "down",V.str "across"]=false by
    have h1:z ≠ "down" := λ e=>hz %[true|e];have h2:z ≠ "across" := λ e=>hz %[false|e];simp[inV,eqV];exact%[λ e=>h1 e.symm|λ e=>h2 e.symm]]
   exact aH (aH q1)
  obtain⟨dn,rfl⟩:=hz;rw[show inV (V.str (wyL dn)) [V.str "down",V.str "across"]=true by cases dn <;> decide +kernel];refine aM %[_,rfl,a,_,rfl,.inr (G1 ha2),rfl,_,rfl|?_]
  by_cases hl1:es.length=1
  case neg=>
   have q1:=q H2 s02;rw[qh rfl z1 z2 (.inr hl1)]at q1;exact cK (by simp;lia) (aH q1)
  obtain⟨e2',rfl⟩:∃e,es=[e]:=List.length_eq_one_iff.mp hl1;obtain⟨x1,rfl,g1⟩:=r2.one1;refine cL rfl ?_;have ew:=vi (d:=.tuple [.str (wyL dn),e2']) rfl;have nr:aI e2'=none\/(∃es2,aI e2'=some es2/\es2.length < 2)->Q (.bl false) H2:=λ hn=>by
   have q1:=q H2 s02;rw[cD ew rfl (by
    cases hv:dvD b (if dn=true then w1 else h1) dn e2' with
    | false=>rfl
    | true=>
     obtain⟨es3,g,l2,_⟩:=gQ hv;rcases hn with hn | ⟨es2,hn,hl⟩
     ·rw[hn]at g;cases g
     ·rw[hn]at g;cases g;lia)]at q1
   exact q1
  rcases g1.kt (K:=K)with⟨a2,xs2,es2,rfl,rfl,h2,r3⟩ | ⟨ds,rfl⟩ | ⟨nw,_⟩
  case inr.inl=>
   have nl2:=nl.mem (x:=.list _) rfl (B3 _ B7);cases nl2 with
   | mk n1 _=>exact absurd rfl (n1 _)
  case inr.inr=>
   rcases(g1.same s02).kt (K:=K)with⟨_,_,_,_,rfl,_⟩ | ⟨_,rfl⟩ | ⟨_,T,ty,kt⟩
   ·cases nw
   ·cases nw
   ·exact%[_,O,a,_,1,_,O,O,G1 ha2,aE ∅ rfl,_,_,_,_,_,O,ty,O,kt,_,O|aH (aH (nr (.inl nw)))]
  case inl=>
   have rl3:=r3.length;refine%[_,O,a,_,1,_,O,O,G1 ha2,aE ∅ rfl,_,_,_,_,_,O,(Ty.tup (s02 _ _ h2) (K:=K)).2,O,aZ "tuple" (by simp[ax]),_,O|aM %[_,O,a,_,1,_,O,O,G1 ha2,aE ∅ rfl,a2,_,O,.inr (G1 (s02 _ _ h2)),_,_,O,O,_,O|?_]];refine cj (λ hl=>?_) (λ hl=>?_)
   ·have:=C0 hl;exact nr (.inr %[es2,O|⋯])
   ·refine hR dn a2 xs2 es2 _ rfl rfl rfl s02 h2 r3 ?_;have:decide ((xs2.length:Int) < 2)=false:=by simpa using hl
    have:=of_decide_eq_false this;lia
 clear ha1 s1;clear H1;rintro dn a2 xs2 es2 H1 rfl rfl rfl s1 h2 r3 l2;have ha1:=s1 _ _ ha;obtain⟨rs,L1,L2',L3⟩:=id sh;refine aw (λ R=>∀(H':Hp),Same H H'->R [↑t,⇑w1,⇑h1,↑a,⇑((if dn=true then w1 else h1)+b),none,none] H') (λ Dd hR=>?_) ?_
 ·refine%[_,O,_,O,zS2|λ e0 he0=>?_];refine aU he0 λ H2 k2 s2=>?_;have ha2:=s2 _ _ ha1;refine%[_,O,a,_,0,_,O,O,G1 ha2,aE (E3 _) rfl,O|?_];have L12:=s2 _ _ (s1 _ _ L1);cases dn with
  | true=>
   rw[show decide (V.str (wyL true)=V.str "across")=false by decide +kernel];exact .inr %[_,O,e0,_,0,_,O,O,G2 k2,aE (E3 _) rfl,_,O,t,_,0,_,O,O,G1 L12,O,_,_,O,O|hR _ (s1.trans s2)]
  | false=>
   rw[show decide (V.str (wyL false)=V.str "across")=true by decide +kernel];exact .inr %[_,O,e0,_,1,_,O,O,G2 k2,aE ∅ rfl,_,O,t,_,0,_,O,O,G1 L12,O,_,_,O,O|hR _ (s1.trans s2)]
 rintro H1' s1;clear ha1;have ew:=vi (d:=.tuple [.str (wyL dn),.tuple es2]) (e:=.tuple es2) rfl;have m2:PyData.tuple es2∈[PyData.str (wyL dn),.tuple es2]:=B3 _ B7;have nl2:NL (.tuple es2):=nl.mem rfl m2;have wd2:Wd (.tuple es2):=wd.mem rfl m2;have l63:=wd2.len rfl;have dp2:=gR (d:=.tuple [.str (wyL dn),.tuple es2]) rfl m2;have rl3:=r3.length;have bad:∀e∈es2,(szD dn e=false\/rdI (rdT b ks n) dn w1 h1 e=none)->∀H',Same H H'->Q (.bl false) H':=λ e he hb H' s'=>by have q1:=q H' s';rw[zO ew rfl rfl he hb]at q1;exact q1
 refine bO (λ σ' H'=>∃(v5 v6:OG V)(l:OI (Int×Tl)),cW (rdI (rdT b ks n) dn w1 h1) es2=some l/\(∀e∈es2,szD dn e=true)/\σ'=[↑t,⇑w1,⇑h1,↑a,⇑(lfS b (if dn=true then w1 else h1) es2),v5,v6]/\Same H H') (λ R hR=>?_) ?_
 ·refine%[_,O,a,_,1,_,O,O,G1 (s1 _ _ ha),aE ∅ rfl,a2,O,%[_|G1 (s1 _ _ h2)]|ia (xs:=xs2) (λ i σ' H'=>∃(v5 v6:OG V)(l:OI (Int×Tl)),cW (rdI (rdT b ks n) dn w1 h1) (es2.take i)=some l/\(∀e∈es2.take i,szD dn e=true)/\σ'=[↑t,⇑w1,⇑h1,↑a,⇑(lfS b (if dn=true then w1 else h1) (es2.take i)),v5,v6]/\Same H H') ⟨none,none,[],O,(λ e he=>by cases he),by rw[show lfS b (if dn=true then w1 else h1) (es2.take 0)=(if dn=true then w1 else h1)+b by simp[lfS]],s1⟩ (λ i σ H' _ ⟨_,_,_,_,_,_,sx⟩=>G1 (sx _ _ h2)) ?_ ?_]
  ·rintro i x _ Hx hi ⟨v5,v6,l,el,al,rfl,sx⟩;obtain⟨e,he,hxe⟩:=r3.get hi;have hm:=B5 he;have nle:=nl2.mem rfl hm;have wde:=wd2.mem rfl hm;have dp3:=gR (d:=.tuple es2) rfl hm;refine bf (λ R=>∀(n0:Int)(y1:V)(y:PyData)(a3:OE)(H':Hp),x=.ref a3->e=.tuple [.int n0,y]->1<=n0->H a3= ~~~[.int n0,y1]->Dt pp H y1 y->Same H H'->R [↑t,⇑w1,⇑h1,↑a,⇑(lfS b (if dn=true then w1 else h1) (es2.take i)),some x,v6] H') (λ R hR=>?_) ?_
   ·rcases(hxe.same sx).kt (K:=K)with⟨a3,xs3,ds3,rfl,rfl,_,_⟩ | ⟨ds,rfl⟩ | ⟨nw,T,ty,kt⟩
    case inr.inr=>exact%[_,O,_,_,_,_,_,O,ty,O,kt,_,O|aH (aH (bad _ hm (.inl (xA nw)) _ sx))]
    case inr.inl=>
     cases nle with
     | mk n1 _=>exact absurd rfl (n1 _)
    case inl=>
     obtain⟨a3',xs3,e3,h3,r4⟩:=hxe.tupD;cases e3;have rl4:=r4.length;refine%[_,O,_,_,_,_,_,O,(Ty.tup (sx _ _ h3) (K:=K)).2,O,aZ "tuple" (by simp[ax]),_,O|aM %[_,O,a3,_,O,.inr (G1 (sx _ _ h3)),O,_,O|?_]]
     by_cases hl:ds3.length=2
     case neg=>exact cK (by simp;lia) (aH (bad _ hm (.inl (zP rfl hl)) _ sx))
     obtain⟨d0,t,rfl⟩:=List.exists_cons_of_length_pos (show 0 < ds3.length by lia);obtain⟨d1,rfl⟩:=List.length_eq_one_iff.mp (Nat.succ.inj hl);obtain⟨x0,t0,rfl,g0,r4⟩:=r4.ucr;obtain⟨x1,t1,rfl,g1,r4⟩:=r4.ucr;cases r4
     case nil=>
      refine cL rfl %[_,rfl,a3,_,0,_,rfl,rfl,G1 (sx _ _ h3),aE (E3 _) rfl,pp,x0,d0,1,rfl,g0.same sx,_,rfl|?_];cases hw:whD d0 1 with
      | false=>exact aH (bad _ hm (.inl (by rw[vj rfl,hw];rfl)) _ sx)
      | true=>
       obtain⟨n0,rfl,n1⟩:=zQ hw;cases g0;exact aM (hR n0 x1 d1 a3 _ rfl rfl n1 h3 g1 sx)
   clear sx hxe;rintro n0 y1 y a3 Hy rfl rfl n1 h3 g1 sx;obtain⟨rs,L1,L2',L3⟩:=id sh;refine aw (λ R=>R [↑t,⇑w1,⇑h1,↑a,⇑(lfS b (if dn=true then w1 else h1) (es2.take i) - n0 - b),↑a3,v6] Hy) (λ Dd hR=>?_) ?_
   ·exact%[_,O,_,O,a3,_,0,_,O,O,G1 (sx _ _ h3),aE (E3 _) rfl,_,_,O,O,_,O,t,_,0,_,O,O,G1 (sx _ _ L1),O,_,_,O,O|hR]
   skip
   refine aw (λ R=>∀(sd:OE)(H':Hp),H' sd= ~~~[.int (if dn=true then n0 else w1),.int (if dn=true then h1 else n0)]->Same H H'->R [↑t,⇑w1,⇑h1,↑a,⇑(lfS b (if dn=true then w1 else h1) (es2.take i) - n0 - b),↑a3,↑sd] H') (λ Dd hR=>?_) ?_
   ·refine%[_,O,a3,_,0,_,O,O,G1 (sx _ _ h3),aE (E3 _) rfl,_,O,zS2|λ t1 ht1=>?_];refine aU ht1 λ H2 k2 s2=>?_;refine%[_,O,_,O,a3,_,0,_,O,O,G1 (s2 _ _ (sx _ _ h3)),aE (E3 _) rfl,zS2|λ t2 ht2=>?_];refine aU ht2 λ H3 k3 s3=>?_;refine%[zS2|λ e0 he0=>?_];refine aU he0 λ H4 k4 s4=>?_;have s24:=s2.trans (s3.trans s4);have sx4:=sx.trans s24;refine%[_,O,a,_,0,_,O,O,G1 (sx4 _ _ ha),aE (E3 _) rfl,O|?_];cases dn with
    | true=>
     rw[show decide (V.str (wyL true)=V.str "across")=false by decide +kernel];exact .inr %[_,O,e0,_,0,_,O,O,G2 k4,aE (E3 _) rfl|hR t1 _ (s4 _ _ (s3 _ _ k2)) sx4]
    | false=>
     rw[show decide (V.str (wyL false)=V.str "across")=true by decide +kernel];exact .inr %[_,O,e0,_,1,_,O,O,G2 k4,aE ∅ rfl|hR t2 _ (s4 _ _ k3) sx4]
   clear sx;rintro sd Hz hsd sx;have my:y∈[PyData.int n0,y]:=B3 _ B7;have nly:=nle.mem rfl my;have dp4:=gR (d:=.tuple [.int n0,y]) rfl my;have ei:rdI (rdT b ks n) dn w1 h1 (.tuple [.int n0,y])=(rdT b ks n (if dn=true then n0 else w1) (if dn=true then h1 else n0) y).map λ t=>(n0,t):=rfl;refine%[_,O,_,O,sd,_,0,_,O,O,G1 hsd,aE (E3 _) rfl,_,O,sd,_,1,_,O,O,G1 hsd,aE ∅ rfl,_,O,a3,_,1,_,O,O,G1 (sx _ _ h3),aE ∅ rfl,pp,t,kl,b,_,_,ks,y1,y,O,sh.same sx,k8,g1.same sx,nly,wde.mem rfl my,⋯,⋯|λ H2 s2=>%[_,O|?_]];cases hr9:rdT b ks n (if dn=true then n0 else w1) (if dn=true then h1 else n0) y with
   | none=>exact aH (aH (bad _ hm (.inr (by rw[ei,hr9];rfl)) _ (sx.trans s2)))
   | some t9=>
    have e9:=nH hr9 nly;subst e9;obtain⟨a4,ys4,rfl,h4⟩:=(yF t9 g1).hd;have sx2:=sx.trans s2;refine aM %[_,rfl,a3,_,1,_,rfl,rfl,G1 (sx2 _ _ h3),aE ∅ rfl,a4,_,0,_,rfl,rfl,G1 (sx2 _ _ h4),aE (E3 _) rfl,_,rfl,a,_,0,_,rfl,rfl,G1 (sx2 _ _ ha),aE (E3 _) rfl,rfl,_,rfl|?_];refine cj (λ hz=>?_) (λ hz=>?_)
    ·have ez:=V.str.inj (C0 hz);exact bad _ hm (.inl (by rw[vj rfl,tlH_wy.mpr ez,OS (λ z=>z rfl),J3])) _ sx2
    ·refine%[↑a3,↑sd,l ++ [(n0,t9)],?_,?_,?_|sx2]
     ·rw[K2,he];exact gO el (by rw[ei,hr9];rfl)
     ·rw[K2,he];intro e' he';rcases C2.mp he' with he' | he'
      ·exact al e' he'
      ·rw[C9.mp he',vj rfl,G8];exact%[A9 n1|A9 (show wyD (tlD t9)≠some dn fromλ z=>hz (A9 (On V.str (tlH_wy.mp z))))]
     ·rw[K2,he];rw[show lfS b (if dn=true then w1 else h1) (es2.take i ++ (some (PyData.tuple [.int n0,tlD t9])).toList)=lfS b (if dn=true then w1 else h1) (es2.take i) - n0 - b from vk _ _ _ _]
  ·rintro _ Hx ⟨v5,v6,l,el,al,rfl,sx⟩;rw[show es2.take xs2.length=es2 by rw[rl3,K4]]at el al;rw[show es2.take xs2.length=es2 by rw[rl3,K4]];exact hR _ _ %[v5,v6,l,el,al,rfl|sx]
 clear s1;rintro _ Hx ⟨v5,v6,l,el,al,rfl,s1⟩;have ee:es2=aF (ofL l):=jb el λ x hx z ez=>by obtain⟨y,ey,ez⟩:=dQ ez;have nx:=nl2.mem rfl hx;rw[nx.tup ey,<- nH ez (nx.mem ey (B3 _ B7))]
 have dz:∀z∈l,(tlD z.2).depth+3<=200:=λ z hz=>by obtain⟨x,hx,ex⟩:=fb el hz;obtain⟨y,ey,ez⟩:=dQ ex;have d1:=fG ez;have d2:=gR ey (B3 _ B7);have d3:=gR (d:=.tuple es2) rfl hx;lia
 have rd:∀l':OI (Int×Tl),(∀z∈l',z∈l)->(PyData.tuple (aF (ofL l'))).canLay0=true/\(PyData.tuple (aF (ofL l'))).depth<=210:=λ l' hl'=>by
  refine%[by simp only[PyData.canLay0];exact fq _|?_];have:=fF (m:=200) (l:=l') λ z hz=>by have:=dz z (hl' z hz);lia
  show PyData.depthAll (aF (ofL l'))+1<=210;lia
 have qq:∀H',Same H H'->(lfS b (if dn=true then w1 else h1) es2=0->Q (.bl (PyData.eqvAll (aF (ofL l)) (aF (ofL (srt l))))) H')/\(lfS b (if dn=true then w1 else h1) es2≠0->Q (.bl false) H'):=λ H' s'=>by
  have q1:=q H' s';have dv:=zR (b:=b) (s:=if dn=true then w1 else h1) (d:=.tuple es2) rfl l2 al;refine%[λ h0=>?_|λ h0=>?_]
  ·rw[fE ew rfl rfl,dv,OR (OO h0),el]at q1;have e9:(Option.bind (some l) (rdS dn)).isSome=PyData.eqvAll (aF (ofL l)) (aF (ofL (srt l))):=by show(rdS dn l).isSome=_;unfold rdS;cases PyData.eqvAll (aF (ofL l)) (aF (ofL (srt l))) <;> rfl
   rw[e9]at q1;exact q1
  ·rw[cD ew rfl (by rw[dv,OS h0])]at q1;exact q1
 have pu:Paired (ItV H) xs2 l:=qi (la _ (by rw[<- ee];exact r3));refine%[_,O,O,_,O|?_];refine cj (λ hz=>?_) (λ hz=>?_)
 case refine_2=>exact(qq Hx s1).2 (λ e=>hz (A9 (by rw[e])))
 have h0:=V.int.inj (C0 hz);have ul:=E1 pu;obtain⟨ps,rfl,eps,ips⟩:=iW pu;have pl:ps.length=l.length:=by rw[eps,J1]
 refine%[_,O,a,_,1,_,O,O,G1 (s1 _ _ ha),aE ∅ rfl,_,O,a,_,1,_,O,O,G1 (s1 _ _ ha),aE ∅ rfl,a2,ps,O,G1 (s1 _ _ h2),⋯,λ z hz=>%[((ips z hz).keep λ a xs e=>s1 _ _ e).dat|?_]|λ l9 ps' hl9 pm pw=>?_]
 ·have:=dz z.2 (by rw[eps];exact M4.mpr %[z,hz|O]);lia
 refine aU hl9 λ H2 k2 s2=>?_;refine%[l9,_,O|.inl %[G2 k2|λ t9 ht9=>?_]];refine aU ht9 λ H3 k3 s3=>?_;have e9:ps'.map (·.2)=srt l:=by rw[kT (pm.map _) pw,<- eps]
 have sx3:=s1.trans (s2.trans s3);have p1:Paired (ItV H3) (ps.map λ z=>V.ref z.1) l:=G3 pu λ v t h=>h.keep λ a xs e=>sx3 _ _ e;have p2:Paired (ItV H3) (ps'.map λ z=>V.ref z.1) (srt l):=by rw[<- e9];exact iX λ z hz=>(ips z (pm.mem_iff.mp hz)).keep λ a xs e=>sx3 _ _ e
 have d1:=gq (K:=K) p1;have d2:=gq (K:=K) p2;have r1:=rd l λ z hz=>hz;have r2':=rd (srt l) λ z hz=>(di l).mem_iff.mp hz;refine%[.tuple (aF (ofL l)),.tuple (aF (ofL (srt l))),.tup (G1 (sx3 _ _ h2)) d1,.tup (G1 k3) d2,r1.1,r2'.1,r1.2|?_];have q9:=(qq H3 sx3).1 h0;rw[show PyData.eqv (.tuple (aF (ofL l))) (.tuple (aF (ofL (srt l))))=PyData.eqvAll (aF (ofL l)) (aF (ofL (srt l)))by rw[PyData.eqv]];exact q9
theorem nI{f:OE}{fd:F7}(F:Fun K "_law_is_told" "_law_is_told" fA f fd):FnOk P w K mg base CX0 3 f fd ["_law_shop_here","_law_wide","_law_high","_law_told_here"] (spIsTold 0):=by
 refine F.ok scistold (λ vs H Q E h=>?_) (λ cdv A outer s H vs Q E hr h=>?_)
 ·obtain⟨pp,t,kl,b,w1,h1,ks,v,d,rfl,_⟩:=h
  rfl
 ·obtain⟨pp,t,kl,b,w1,h1,ks,v,d,rfl,_,_,_,_,_,z,_⟩:=h;exact absurd z (E7 _)
theorem jd{f:OE}{fd:F7}(F:Fun K "_law_is_told" "_law_is_told" fA f fd)(B:Blt mg)(bs:mg "str" = none)(DPl:Dn P w K mg base "_law_plain" ["_law_thing","_law_least"] 1 (spPlain))(DIL:Dn P w K mg base "_law_is_leaf" ["_law_shop_here","_law_wide","_law_high","_law_told_here"] 2 (spIsLf))(mk:∀n,FnOk P w K mg base CX0 (3+n) f fd ["_law_shop_here","_law_wide","_law_high","_law_told_here"] (spIsTold n)->Dn P w K mg base "_law_is_told" ["_law_shop_here","_law_wide","_law_high","_law_told_here"] (3+n) (spIsTold n)):∀n,FnOk P w K mg base CX0 (3+n) f fd ["_law_shop_here","_law_wide","_law_high","_law_told_here"] (spIsTold n)
 | 0=>nI F
 | n+1=>rj F B bs n DPl DIL (mk n (jd F B bs DPl DIL mk n))
end
inductive Fx(m:Nat):PyData->Prop
 | non:Fx m .none
 | bool (b:Bool):Fx m (.bool b)
 | int {i:Int}:-(10 ^ m) < i->i < 10 ^ m->Fx m (.int i)
 | str {z:Str}:(PyData.str z).showable=true->(PyData.str z).shown.length<=90->Fx m (.str z)
 | emp:Fx m (.dict [])
 | tuple {ds:OI PyData}:ds.length<=m->(∀d∈ds,Fx m d)->Fx m (.tuple ds)
theorem cO(m:Nat)(z:Str)(h:((PyData.str z).showable && decide ((PyData.str z).shown.length<=90))=true):Fx m (.str z):=by rw[G8]at h;exact .str h.1 (C0 h.2)
theorem EA(m:Nat)(dn:Bool):Fx m (.str (wyL dn)):=by cases dn <;> exact cO m _ ∅
theorem xB:(10:Int) ^ 60 < 10 ^ 61:=∅
theorem Fx.up{d:PyData}(h:Fx 60 d):Fx 61 d:=by
 have:=xB
 induction h with
 | non=>exact .non
 | bool b=>exact .bool b
 | int h1 h2=>exact .int ⋯ ⋯
 | str h1 h2=>exact .str h1 h2
 | emp=>exact .emp
 | tuple l _ ih=>exact .tuple ⋯ ih
theorem nJ:∀{ds:OI PyData},(∀d∈ds,d.showable=true/\d.shown.length+2<=100 * wt d)->PyData.showableAll ds=true/\((PyData.shownAll ds).map (·.length)).sum+2 * ds.length<=100 * wts ds/\(PyData.shownAll ds).length=ds.length
 | [],_=>%[O,B2 _|O]
 | d :: ds,h=>by obtain⟨d1,d3⟩:=h d B7;obtain⟨e1,e3,e4⟩:=nJ λ x hx=>h x (B3 _ hx);refine%[by simp only[PyData.showableAll,d1,e1,Bool.and_self],?_|by simp only[PyData.shownAll,I9];lia];show _<=100 * (wt d+wts ds);simp only[PyData.shownAll,J4,List.sum_cons,I9];lia
theorem Fx.sh{d:PyData}(h:Fx 61 d):d.showable=true/\d.shown.length+2<=100 * wt d:=by
 induction h with
 | non=>exact%[∅|∅]
 | bool b=>cases b <;> exact%[∅|∅]
 | @int i h1 h2=>
  have hs:Short i:=by
   have:(10:Int) ^ 61 < 10 ^ 62:=∅
   have e:((10 ^ 62:Nat):Int)=10 ^ 62:=∅
   unfold Short;lia
  have:=hs.len;exact%[by simp[PyData.showable,hs.log]|by show _<=100 * 1;lia]
 | @str z h1 h2=>exact%[h1|by show _<=100 * (z.length+1);lia]
 | emp=>exact%[∅|∅]
 | @tuple ds l _ ih=>
  obtain⟨h1,h3,h4⟩:=nJ ih;have:=tupleText_len_le (PyData.shownAll ds);refine%[by simp only[PyData.showable,h1]|?_];show(PyData.tuple ds).shown.length+2<=100 * (wts ds+1);simp only[PyData.shown];lia
theorem Fx.nl{m:Nat}{d:PyData}(h:Fx m d):NL d:=by
 induction h with
 | tuple l _ ih=>exact .mk (λ ds e=>by cases e) λ ds x e hx=>by cases e;exact ih x hx
 | _=>exact .mk (λ ds e=>by cases e) λ ds x e=>by cases e
theorem Fx.wd{d:PyData}(h:Fx 61 d):Wd d:=by
 induction h with
 | tuple l _ ih=>exact .mk (λ es e=>by cases e;lia) λ es x e hx=>by cases e;exact ih x hx
 | _=>exact .mk (λ ds e=>by cases e) λ ds x e=>by cases e
mutual
def TlK(m:Nat):Tl->Prop
 | .rest=>True
 | .piece i _ x y=>(i:Int) < 10 ^ m/\-(10 ^ m) < x/\x < 10 ^ m/\-(10 ^ m) < y/\y < 10 ^ m
 | .row _ r=>1<=(toL r).length/\(toL r).length<=m/\TlsK m r
def TlsK(m:Nat):Tls->Prop
 | .nil=>True
 | .cons n t r=>-(10 ^ m) < n/\n < 10 ^ m/\TlK m t/\TlsK m r
end
theorem lb:∀r:Tls,(aF r).length=(toL r).length
 | .nil=>by rw[aF,toL];rfl
 | .cons n t r=>by rw[aF,toL,I9,I9,lb r]
mutual
theorem TlK.fx{m:Nat}(h5:5<=m):∀(t:Tl),TlK m t->Fx m (tlD t)
 | .rest,_=>by rw[tlD];exact .tuple (by show 1<=m;lia) λ d hd=>by rw[C9.mp hd];exact cO m _ ∅
 | .piece i c x y,h=>by
  rw[TlK]at h;rw[tlD];have p:(0:Int) < 10 ^ m:=Int.pow_pos ∅;refine .tuple (by show 5<=m;lia) λ d hd=>?_;simp only[G6,J0,OZ]at hd;rcases hd with rfl | rfl | rfl | rfl | rfl
  ·exact cO m _ ∅
  ·exact .int ⋯ ⋯
  ·exact .bool c
  ·exact .int h.2.1 h.2.2.1
  ·exact .int h.2.2.2.1 h.2.2.2.2
 | .row dn r,h=>by
  rw[TlK]at h;rw[tlD];refine .tuple (by show 2<=m;lia) λ d hd=>?_;simp only[G6,J0,OZ]at hd;rcases hd with rfl | rfl
  ·exact EA m dn
  ·exact .tuple (by rw[lb];exact h.2.1) (TlsK.fx h5 r h.2.2)
theorem TlsK.fx{m:Nat}(h5:5<=m):∀(r:Tls),TlsK m r->∀d∈aF r,Fx m d
 | .nil,_,d,hd=>by rw[aF]at hd;cases hd
 | .cons n t r,h,d,hd=>by
  rw[TlsK]at h;rw[aF]at hd;rcases G6.mp hd with e | hd
  ·rw[e];refine .tuple (by show 2<=m;lia) λ d hd=>?_;simp only[G6,J0,OZ]at hd;rcases hd with rfl | rfl
   ·exact .int h.1 h.2.1
   ·exact TlK.fx h5 t h.2.2.1
  ·exact TlsK.fx h5 r h.2.2.2 d hd
end
theorem TlsK.of{m:Nat}:∀{l:OI (Int×Tl)},(∀z∈l,-(10 ^ m) < z.1/\z.1 < 10 ^ m/\TlK m z.2)->TlsK m (ofL l)
 | [],_=>by rw[ofL,TlsK];trivial
 | z :: l,h=>by rw[ofL,TlsK];have:=h z B7;exact%[this.1,this.2.1,this.2.2|TlsK.of λ y hy=>h y (B3 _ hy)]
theorem TlsK.mem{m:Nat}:∀{r:Tls},TlsK m r->∀z∈toL r,-(10 ^ m) < z.1/\z.1 < 10 ^ m/\TlK m z.2
 | .nil,_,z,hz=>by rw[toL]at hz;cases hz
 | .cons n t r,h,z,hz=>by
  rw[TlsK]at h;rw[toL]at hz;rcases G6.mp hz with e | hz
  ·rw[e];exact%[h.1,h.2.1|h.2.2.1]
  ·exact TlsK.mem h.2.2.2 z hz
theorem yH{m:Nat}{dn:Bool}{l:OI (Int×Tl)}(h:∀z∈l,-(10 ^ m) < z.1/\z.1 < 10 ^ m/\TlK m z.2)(l1:1<=l.length)(lm:l.length<=m):TlK m (.row dn (ofL (srt l))):=by have sl:=(di l).length_eq;rw[TlK,gp];exact%[⋯,⋯|TlsK.of λ z hz=>h z ((di l).mem_iff.mp hz)]
theorem lc(b:Int):∀(t:Tr)(w h:Int),1<=(tel b t w h).2.1.length/\1<=(tel b t w h).2.2.length
 | .rest,_,_=>%[B2 _|B2 _]
 | .piece ..,_,_=>%[B2 _|B2 _]
 | .cut true p l r,w,h=>by have:=(lc b l p h).1;exact%[by show 1<=(_ ++ _:OI (Int×Tl)).length;rw[G5];lia|B2 _]
 | .cut false p l r,w,h=>by have:=(lc b l w p).2;exact%[B2 _|by show 1<=(_ ++ _:OI (Int×Tl)).length;rw[G5];lia]
theorem lZ{b:Int}{ks:OI Kd}(b0:0<=b)(gk:∀k∈ks,Good k)(k8:ks.length<=8):∀(t:Tr){w h:Int},okU b ks w h t->0<=w->0<=h->w < 10 ^ 60->h < 10 ^ 60->lvN t<=60->TlK 60 (tel b t w h).1/\(∀z∈(tel b t w h).2.1,-(10 ^ 60) < z.1/\z.1 < 10 ^ 60/\TlK 60 z.2)/\(∀z∈(tel b t w h).2.2,-(10 ^ 60) < z.1/\z.1 < 10 ^ 60/\TlK 60 z.2)
 | .rest,w,h,ok,w0,h0,w6,h6,_=>by
  have f:TlK 60 .rest:=by rw[TlK];trivial
  exact%[f,λ z hz=>by rw[C9.mp hz];exact%[by show _ < w;lia,w6|f]|λ z hz=>by rw[C9.mp hz];exact%[by show _ < h;lia,h6|f]]
 | .piece i c x y,w,h,⟨k,hk,_,x0,y0,hx,hy⟩,w0,h0,w6,h6,_=>by
  have e2:(100:Int) < 10 ^ 60:=∅
  have hg:=gk k (B5 hk);have hi:=(A5.mp hk).1;have s1:1<=sd1 k c/\1<=sd2 k c:=by
   obtain⟨g1,g2,_⟩:=hg;cases c
   ·exact%[g1|g2]
   ·exact%[g2|g1]
  have f:TlK 60 (.piece i c x y):=by rw[TlK];exact%[⋯,⋯,⋯,⋯|⋯]
  exact%[f,λ z hz=>by rw[C9.mp hz];exact%[by show _ < w;lia,w6|f]|λ z hz=>by rw[C9.mp hz];exact%[by show _ < h;lia,h6|f]]
 | .cut true p l r,w,h,⟨p1,hp,hl,hr⟩,w0,h0,w6,h6,lv=>by have lv:lvN l+lvN r<=60:=lv;have a1:=cC b l p h;have a2:=cC b r (w - p - b) h;have c1:=(lc b l p h).1;have h1:=(lZ b0 gk k8 l hl ⋯ h0 ⋯ h6 ⋯).2.1;have h2:=(lZ b0 gk k8 r hr ⋯ h0 ⋯ h6 ⋯).2.1;have all:∀z∈(tel b l p h).2.1 ++ (tel b r (w - p - b) h).2.1,-(10 ^ 60) < z.1/\z.1 < 10 ^ 60/\TlK 60 z.2:=λ z hz=>(C2.mp hz).elim (h1 z) (h2 z);have f:=yH (dn:=true) all (by rw[G5];lia) (by rw[G5];lia);exact%[f,all|λ z hz=>by rw[C9.mp hz];exact%[by show _ < h;lia,h6|f]]
 | .cut false p l r,w,h,⟨p1,hp,hl,hr⟩,w0,h0,w6,h6,lv=>by have lv:lvN l+lvN r<=60:=lv;have a1:=cC b l w p;have a2:=cC b r w (h - p - b);have c1:=(lc b l w p).2;have h1:=(lZ b0 gk k8 l hl w0 ⋯ w6 ⋯ ⋯).2.2;have h2:=(lZ b0 gk k8 r hr w0 ⋯ w6 ⋯ ⋯).2.2;have all:∀z∈(tel b l w p).2.2 ++ (tel b r w (h - p - b)).2.2,-(10 ^ 60) < z.1/\z.1 < 10 ^ 60/\TlK 60 z.2:=λ z hz=>(C2.mp hz).elim (h1 z) (h2 z);have f:=yH (dn:=false) all (by rw[G5];lia) (by rw[G5];lia);exact%[f,λ z hz=>by rw[C9.mp hz];exact%[by show _ < w;lia,w6|f]|all]
def wtR(l:OI (Int×Tl)):Nat:=(l.map λ z=>wt (tlD z.2)+2).sum
theorem qj(a b:OI (Int×Tl)):wtR (a ++ b)=wtR a+wtR b:=by unfold wtR;rw[N3,List.sum_append]
theorem vm{a b:OI (Int×Tl)}(h:a.Perm b):wtR a=wtR b:=(h.map _).sum_nat
theorem vn:∀l:OI (Int×Tl),wts (aF (ofL l))=wtR l
 | []=>rfl
 | z :: l=>by have:=vn l;show(1+(wt (tlD z.2)+0)+1)+wts (aF (ofL l))=(wt (tlD z.2)+2)+wtR l;lia
theorem vo(dn:Bool)(l:OI (Int×Tl)):wt (tlD (.row dn (ofL (srt l))))<=wtR l+9:=by
 have h1:wt (.str (wyL dn))<=7:=by cases dn <;> decide +kernel
 have h2:=vn (srt l);rw[vm (di l)]at h2;show wt (.str (wyL dn))+((wts (aF (ofL (srt l)))+1)+0)+1<=_;lia
theorem je(b:Int):∀(t:Tr)(w h:Int),wt (tlD (tel b t w h).1)+7<=20 * szT t/\wtR (tel b t w h).2.1+5<=20 * szT t/\wtR (tel b t w h).2.2+5<=20 * szT t
 | .rest,_,_=>%[by show wt (.tuple [.str "rest"])+7<=20;decide +kernel,by show wt (.tuple [.str "rest"])+2+0+5<=20;decide +kernel|by show wt (.tuple [.str "rest"])+2+0+5<=20;decide +kernel]
 | .piece i c x y,_,_=>by
  have e:wt (tlD (.piece i c x y))=11:=by
   have:wt (.str "piece")=6:=∅
   show wt (.str "piece")+(1+(1+(1+(1+0))))+1=11;lia
  refine%[?_,?_|?_]
  ·show wt (tlD (.piece i c x y))+7<=20;lia
  ·show wt (tlD (.piece i c x y))+2+0+5<=20;lia
  ·show wt (tlD (.piece i c x y))+2+0+5<=20;lia
 | .cut true p l r,w,h=>by
  have h1:=(je b l p h).2.1;have h2:=(je b r (w - p - b) h).2.1;have h3:=vo true ((tel b l p h).2.1 ++ (tel b r (w - p - b) h).2.1);have h4:=qj (tel b l p h).2.1 (tel b r (w - p - b) h).2.1;refine%[?_,?_|?_]
  ·show wt (tlD (.row true _))+7<=20 * (szT l+szT r+1);lia
  ·show wtR (_ ++ _)+5<=20 * (szT l+szT r+1);lia
  ·show wt (tlD (.row true _))+2+0+5<=20 * (szT l+szT r+1);lia
 | .cut false p l r,w,h=>by
  have h1:=(je b l w p).2.2;have h2:=(je b r w (h - p - b)).2.2;have h3:=vo false ((tel b l w p).2.2 ++ (tel b r w (h - p - b)).2.2);have h4:=qj (tel b l w p).2.2 (tel b r w (h - p - b)).2.2;refine%[?_,?_|?_]
  ·show wt (tlD (.row false _))+7<=20 * (szT l+szT r+1);lia
  ·show wt (tlD (.row false _))+2+0+5<=20 * (szT l+szT r+1);lia
  ·show wtR (_ ++ _)+5<=20 * (szT l+szT r+1);lia
mutual
theorem TlV.dt{p:OE}{H:Hp}:∀(t:Tl){v:V},TlV H t v->Dt p H v (tlD t)
 | .rest,_,h=>by rw[TlV]at h;obtain⟨a,e,h⟩:=h;subst e;exact .tup h (.cons (.str _) .nil)
 | .piece ..,_,h=>by rw[TlV]at h;obtain⟨a,e,h⟩:=h;subst e;exact .tup h (.cons (.str _) (.cons (.int _) (.cons (.bl _) (.cons (.int _) (.cons (.int _) .nil)))))
 | .row dn r,_,h=>by rw[TlV]at h;obtain⟨a,q,xs,e,h1,h2,h3⟩:=h;subst e;exact .tup h1 (.cons (.str _) (.cons (.tup h2 (TlsV.dt r h3)) .nil))
theorem TlsV.dt{p:OE}{H:Hp}:∀(t:Tls){v:OI V},TlsV H t v->Dts p H v (aF t)
 | .nil,_,h=>by rw[TlsV]at h;subst h;exact .nil
 | .cons n t r,_,h=>by rw[TlsV]at h;obtain⟨a,u,ys,e,h1,h2,h3⟩:=h;subst e;exact .cons (.tup h1 (.cons (.int _) (.cons (TlV.dt t h2) .nil))) (TlsV.dt r h3)
end
theorem Dts.take{p:OE}{H:Hp}:∀(n:Nat){vs:OI V}{ds:OI PyData},Dts p H vs ds->Dts p H (vs.take n) (ds.take n)
 | 0,_,_,_=>by rw[List.take_zero,List.take_zero];exact .nil
 | n+1,_,_,.nil=>.nil
 | n+1,_,_,.cons a r=>.cons a (r.take n)
theorem Dts.drop{p:OE}{H:Hp}:∀(n:Nat){vs:OI V}{ds:OI PyData},Dts p H vs ds->Dts p H (vs.drop n) (ds.drop n)
 | 0,_,_,h=>h
 | n+1,_,_,.nil=>.nil
 | n+1,_,_,.cons a r=>r.drop n
theorem ci{H H':Hp}{m a b:OE}{o:HO}(h:(H'=H/\(m=a\/m=b))\/(H m=none/\H'=upd H m o)):Same H H':=by
 rcases h with⟨rfl,_⟩ | ⟨hm,rfl⟩
 ·exact Same.refl _
 ·exact G0 hm
theorem cG:∀a b:OI PyData,wts (a ++ b)=wts a+wts b
 | [],b=>by show wts b=0+wts b;lia
 | x :: a,b=>by show wt x+wts (a ++ b)=wt x+wts a+wts b;rw[cG a b];lia
theorem nL(i:Nat)(es:OI PyData):wts (es.take i)+wts (es.drop i)=wts es:=by rw[<- cG,List.take_append_drop]
theorem le:∀{i:Nat}{es:OI PyData}{e:PyData},es[i]?=some e->wts (es.take i)+wt e+wts (es.drop (i+1))=wts es
 | 0,x :: es,e,h=>by cases h;show 0+wt x+wts es=wt x+wts es;lia
 | i+1,x :: es,e,h=>by have:=le (i:=i) (es:=es) (e:=e) h;show wt x+wts (es.take i)+wt e+wts (es.drop (i+1))=wt x+wts es;lia
theorem ma{n:Nat}:∀{ds:OI PyData},(∀d∈ds,d.depth<=n)->PyData.depthAll ds<=n
 | [],_=>E6 _
 | d :: ds,h=>by have h1:=h d B7;have h2:=ma λ x hx=>h x (B3 _ hx);show max d.depth (PyData.depthAll ds)<=n;lia
theorem fc{d:PyData}:∀{ds:OI PyData},d∈ds->d.depth<=PyData.depthAll ds
 | x :: ds,h=>by
  show _<=max x.depth (PyData.depthAll ds);rcases G6.mp h with e | h
  ·rw[e];lia
  ·have:=fc h;lia
structure Sz(W D:Nat)(d:PyData):Prop where
 fx:Fx 61 d
 w:wt d<=W
 d:d.depth<=D
theorem Sz.mono{W W' D D':Nat}{d:PyData}(h:Sz W D d)(hw:W<=W')(hd:D<=D'):Sz W' D' d:=%[h.fx,C5 h.w hw|C5 h.d hd]
theorem Sz.tup{D:Nat}{ds:OI PyData}{W:Nat}(l:ds.length<=61)(h:∀d∈ds,Fx 61 d/\d.depth<=D)(hw:wts ds<=W):Sz (W+1) (D+1) (.tuple ds) :=
 %[.tuple l λ d hd=>(h d hd).1,by show wts ds+1<=_;lia|by have:=ma λ d hd=>(h d hd).2;show PyData.depthAll ds+1<=_;lia]
def rn:OI PyData:=[.none,.bool true,.bool false,.int 0,.int 1,.str "rest",.str "",.tuple [],.tuple [.int 0],.dict [],.int (-1),.tuple [.str "rest"],.tuple [.str "rest",.int 0],.int (10 ^ 60 - 1)]
theorem xC{P:PyData->Prop}{d:PyData}(h:d∈rn)(h0:P (.none))(h1:P (.bool true))(h2:P (.bool false))(h3:P (.int 0))(h4:P (.int 1))(h5:P (.str "rest"))(h6:P (.str ""))(h7:P (.tuple []))(h8:P (.tuple [.int 0]))(h9:P (.dict []))(h10:P (.int (-1)))(h11:P (.tuple [.str "rest"]))(h12:P (.tuple [.str "rest",.int 0]))(h13:P (.int (10 ^ 60 - 1))):P d:=by simp only[rn,G6,J0,OZ]at h;rcases h with rfl | rfl | rfl | rfl | rfl | rfl | rfl | rfl | rfl | rfl | rfl | rfl | rfl | rfl <;> assumption
theorem fe{d:PyData}(h:d∈rn):Sz 8 1 d:=by
 have e:(0:Int) < 10 ^ 60:=∅
 have e1:=xB;have fr:Fx 61 (.str "rest"):=cO 61 _ ∅;refine xC (P:=Sz 8 1) h %[.non,∅|∅] %[.bool _,∅|∅] %[.bool _,∅|∅] %[.int ⋯ ⋯,∅|∅] %[.int ⋯ ⋯,∅|∅] %[fr,∅|∅] %[cO 61 _ ∅,∅|∅] ⟨.tuple ∅ (λ d hd=>by cases hd),∅,∅⟩ %[.tuple (by show 1<=61;decide) (λ d hd=>by rw[C9.mp hd];exact .int ⋯ ⋯),∅|∅] %[.emp,∅|∅] %[.int ⋯ ⋯,∅|∅] %[.tuple (by show 1<=61;decide) (λ d hd=>by rw[C9.mp hd];exact fr),∅|∅] %[.tuple (by show 2<=61;decide) (λ d hd=>?_),∅|∅] %[.int ⋯ ⋯,by show 1<=8;decide|by show 0<=1;decide];simp only[G6,J0,OZ]at hd;rcases hd with rfl | rfl
 ·exact fr
 ·exact .int ⋯ ⋯
theorem lg{es:OI PyData}{i:Nat}{e x:PyData}{W D:Nat}(he:es[i]?=some e)(l:es.length<=60)(h:∀d∈es,Fx 60 d/\d.depth<=D)(hx:Sz (wt e+W) D x):Sz (wts es+W+1) (D+1) (.tuple (es.take i ++ [x] ++ es.drop (i+1))):=by
 have hi:=(A5.mp he).1;refine Sz.tup (by rw[G5,G5,J2,K0,K6];lia) (λ d hd=>?_) ?_
 ·rcases C2.mp hd with hd | hd
  ·rcases C2.mp hd with hd | hd
   ·have:=h d (M0 hd);exact%[this.1.up|this.2]
   ·rw[C9.mp hd];exact%[hx.fx|hx.d]
  ·have:=h d (M5 hd);exact%[this.1.up|this.2]
 ·have:=le he;have:=hx.w;rw[cG,cG];show wts (es.take i)+(wt x+0)+_<=_;lia
theorem nM{H:Hp}:∀{r:Tls}{xs:OI V}{i:Nat}{x:V},TlsV H r xs->xs[i]?=some x->∃(s:Int)(t:Tl)(a3:OE)(u:V),x=.ref a3/\H a3= ~~~[.int s,u]/\TlV H t u/\(aF r)[i]?=some (.tuple [.int s,tlD t])/\(s,t)∈toL r
 | .nil,xs,i,x,h,hx=>by rw[TlsV]at h;subst h;cases hx
 | .cons n t r,xs,i,x,h,hx=>by
  rw[TlsV]at h;obtain⟨a,u,ys,rfl,h1,h2,h3⟩:=h
  match i,hx with
  | 0,hx=>
   cases hx;exact%[n,t,a,u,O,h1,h2,by rw[aF];rfl|by rw[toL];exact B7]
  | i+1,hx=>
   obtain⟨s,t',a3,u',e1,e2,e3,e4,e5⟩:=nM h3 (i:=i) hx;exact%[s,t',a3,u',e1,e2,e3,by rw[aF];exact e4|by rw[toL];exact B3 _ e5]
theorem TlsV.dts{p:OE}{H:Hp}{r:Tls}{xs:OI V}(h:TlsV H r xs):Dts p H xs (aF r):=TlsV.dt r h
def Lx(rv iv:Nat)(tX:TE):TE:=tOp tN (tOp tN (tSl zD (tVar rv) kj (sX (tVar iv))) (Ee (sR tX ji))) (tSl zD (tVar rv) (sX (tOp (rI0 λ i j=>V.int (i+j)) (tVar iv) (tC (V.int 1)))) kj)
theorem gS{rv iv:Nat}{tX:TE}{σ:St}{H:Hp}{Q:VK}{p a:OE}{xs:OI V}{es:OI PyData}{i W D:Nat}(pt:PotC H p)(ha:H a= ~~~xs)(D0:Dts p H xs es)(l:xs.length<=200)
  (v1:∀(H:Hp)(Q:VK),Q (.ref a) H->tVar rv σ H Q) (v2:∀(H:Hp)(Q:VK),Q (.int (i:Int)) H->tVar iv σ H Q)
  (hX:∀(H1:Hp)(R:VK),Same H H1->PotC H1 p->(∀(x:V)(d:PyData)(H2:Hp),Dt p H2 x d->Sz W D d->PotC H2 p->But p H1 H2->R x H2)->tX σ H1 R)
  (hq:∀(d:PyData)(v:V)(H':Hp),Sz W D d->Dt p H' v (.tuple (es.take i ++ [d] ++ es.drop (i+1)))->PotC H' p->But p H H'->Q v H'):Lx rv iv tX σ H Q:=by
 have sz:(1000:Nat) < sizeLine:=∅
 have l1:(xs.take i).length<=200:=by rw[J2];lia
 have l2:(xs.drop (i+1)).length<=200:=by rw[K0];lia
 refine v1 _ _ (v2 _ _ %[_,rfl,a,xs,rfl,ha|λ t1 H1 k1 s1=>?_]);rw[fj]at k1;have pt1:=pt.same s1;refine hX H1 _ s1 pt1 λ x d H2 hd zd pt2 b2=>%[by show 1<=sizeLine;lia|λ t2 ht2=>?_]
 have b02:But p H H2:=λ c o n e=>b2 _ _ n (s1 _ _ e);have k12:=bS b2 pt1 k1;refine aU ht2 λ H3 k3 s3=>?_;refine%[t1,t2,_,_,O,O,s3 _ _ k12,k3,by show(xs.take i).length+1<=sizeLine;lia|λ t4 H4 c4 k4=>?_];have s4:=ci c4;have ha2:=bS b02 pt ha;refine v1 _ _ (v2 _ _ %[_,_,rfl,rfl|%[_,rfl,a,xs,rfl,s4 _ _ (s3 _ _ ha2)|λ t5 H5 k5 s5=>?_]]);rw[show((i:Int)+1)=((i+1:Nat):Int)from rfl,fo]at k5;refine%[t4,t5,_,_,O,O,s5 _ _ k4,k5,by rw[G5];show(xs.take i).length+1+_<=_;lia|λ t6 H6 c6 k6=>?_];have s6:=ci c6;have s26:=s3.trans (s4.trans (s5.trans s6));have D6:Dts p H6 xs es:=(D0.but (bR pt) b02).same s26;exact hq d _ H6 zd (.tup k6 (((D6.take i).app (.cons (hd.same s26) .nil)).app (D6.drop (i+1)))) (pt2.same s26) (λ c o n e=>s26 _ _ (b02 _ _ n e))
theorem vp{xs:OI V}{i:Nat}{x:V}(h:xs[i]?=some x):eE xs (some (i:Int)) (some ((i:Int)+1))=[x]:=by
 have hi:=(A5.mp h).1;unfold eE;rw[show((i:Int)+1)=((i+1:Nat):Int)from rfl,HT.sIx_nat,HT.sIx_nat,OB (Nat.le_of_lt hi),OB hi,show i+1 - i=1 by lia,List.drop_eq_getElem_cons hi];rw[E9 hi]at h;cases h
 rfl
section
variable{P:F6}{w:F8}{K:C4}{mg:Str->OG F9}{base:Heap}
def md:Sp:=λ vs H Q _=>∃p,vs=[.ref p]/\PotC H p/\∀(v:V)(d:PyData)(H':Hp),Dt p H' v d->d∈rn->PotC H' p->But p H H'->Q v H'
inductive spRowS(vs:OI V)(H:Hp)(Q:VK)(E_:XK):Prop
|mk(p a:OE)(r:Tls)(xs:OI V)(_:vs=[.ref p,.ref a])(_:PotC H p)(_:H a= ~~~xs)(_:TlsV H r xs)(_:TlsK 60 r)(_:1<=xs.length)(_:xs.length<=60)(_:∀(v:V)(d:PyData)(H':Hp),Dt p H' v d->Sz (2 * wts (aF r)+12) (PyData.depthAll (aF r)+3) d->PotC H' p->But p H H'->Q v H')
inductive spSpoil(n:Nat)(vs:OI V)(H:Hp)(Q:VK)(E_:XK):Prop
|mk(p:OE)(v:V)(t:Tl)(_:vs=[.ref p,v])(_:PotC H p)(_:TlV H t v)(_:TlK 60 t)(_:(tlD t).depth < n)(_:∀(v':V)(d:PyData)(H':Hp),Dt p H' v' d->Sz (2 * wt (tlD t)+20) ((tlD t).depth+4) d->PotC H' p->But p H H'->Q v' H')
theorem scoddc:FnScope ["_law_pot_here","_law_some"] ["_law_pot_here"] (defScope wM):=%[O,O,O,∅,O,∅|∅]
theorem xD{f:OE}{fd:F7}(F:Fun K "_law_odd" "_law_odd" wM f fd)(B:Blt mg)(DD:Dn P w K mg base "_law_take" ["_law_pot_here","_law_many"] 1 (spTake)):FnOk P w K mg base CX0 2 f fd ["_law_pot_here"] (md):=by
 refine F.ok scoddc (λ vs H Q E h=>?_) (λ cdv A outer s H vs Q E hr h=>?_)
 ·obtain⟨p,rfl,_⟩:=h
  rfl
 obtain⟨p,rfl,pt,q⟩:=h;have nd:=scoddc.nd;refine%[_,((1∣(@aQ _ _ _ _ (dR^^^(bF^^^(bF^^^(ae^^^(ae^^^(aJ^^^(aJ^^^((@ar _ _ _ _ _ ad)^^^((@ar _ _ _ _ _ (ae^^^ad))^^^(fV^^^((@iB _ _ _ _ _ _ fO ae)^^^((@ar _ _ _ _ _ (aJ^^^ad))^^^((@ar _ _ _ _ _ (aJ^^^(ae^^^ad)))^^^(((ae|||fN|||ae)|||bH|||ae)^^^ad))))))))))))))))<<<(((pv 1)&&&ix_list&&&(DD∪((pv 0)^^^(ae^^^ad))))⁻¹))|?_];dsimp only[bW];have sz:(1000:Nat) < sizeLine:=∅
 refine aw (λ R=>∀(l ta tb em tc td:OE)(H':Hp),l≠p->H' l=some (.lst [.non,.bl true,.bl false,.int 0,.int 1,.str "rest",.str "",.ref ta,.ref tb,.ref em,.int (-1),.ref tc,.ref td,.int (10 ^ 60 - 1)])->H' ta= ~~~[]->H' tb= ~~~[.int 0]->H' em=some (.dK [])->H' tc=some (.tup [.str "rest"])->H' td=some (.tup [.str "rest",.int 0])->PotC H' p->But p H H'->R [↑p,↑l] H') (λ Dd hR=>?_) ?_
 ·refine%[zS0|λ ta hta=>?_];refine bj hta pt But.refl' λ H1 k1 n1 s1 b1 pt1=>?_;refine%[zS1|λ tb htb=>?_];refine bj htb pt1 b1 λ H2 k2 n2 s2 b2 pt2=>?_;refineλ em hem=>?_;refine bj hem pt2 b2 λ H3 k3 n3 s3 b3 pt3=>?_;refine%[_,O,zS1|λ tc htc=>?_];refine bj htc pt3 b3 λ H4 k4 n4 s4 b4 pt4=>?_;refine%[zS2|λ td htd=>?_];refine bj htd pt4 b4 λ H5 k5 n5 s5 b5 pt5=>?_;refine%[_,_,O,O,%[∅,∅|∅],_,_,O,O,zS14|λ l hl=>?_];refine bj hl pt5 b5 λ H6 k6 n6 s6 b6 pt6=>?_;exact hR l ta tb em tc td _ n6 k6 (s6 _ _ (s5 _ _ (s4 _ _ (s3 _ _ (s2 _ _ k1))))) (s6 _ _ (s5 _ _ (s4 _ _ (s3 _ _ k2)))) (s6 _ _ (s5 _ _ (s4 _ _ k3))) (s6 _ _ (s5 _ _ k4)) (s6 _ _ k5) pt6 b6
 rintro l ta tb em tc td H2 nl hl hta htb hem htc htd pt2 b2;refine%[_,O,_,O,p,14,O,pt2,∅,∅|λ r H3 r0 r1 pt3 b3=>?_];have hl3:=b3 _ _ nl hl;have ta3:=bS b3 pt2 hta;have tb3:=bS b3 pt2 htb;have tc3:=bS b3 pt2 htc;have td3:=bS b3 pt2 htd;have em3:=b3 _ _ (λ z=>by obtain⟨_,e⟩:=bR pt2;rw[z,e]at hem;cases hem) hem;have D:Dts p H3 [.non,.bl true,.bl false,.int 0,.int 1,.str "rest",.str "",.ref ta,.ref tb,.ref em,.int (-1),.ref tc,.ref td,.int (10 ^ 60 - 1)] rn:=(.cons (.non) (.cons (.bl true) (.cons (.bl false) (.cons (.int 0) (.cons (.int 1) (.cons (.str "rest") (.cons (.str "") (.cons (.tup ta3 .nil) (.cons (.tup tb3 (.cons (.int 0) .nil)) (.cons (.emp em3) (.cons (.int (-1)) (.cons (.tup tc3 (.cons (.str _) .nil)) (.cons (.tup td3 (.cons (.str _) (.cons (.int 0) .nil))) (.cons (.int (10 ^ 60 - 1)) .nil))))))))))))))
 obtain⟨x,d,hx,hd,hm⟩:=D.pick r0 r1;exact%[l,_,_,_,O,O,G2 hl3,hx|q x d H3 hd hm pt3 (b2.trans b3)]
theorem scrows:FnScope ["_law_pot_here","_law_row","_law_at","_law_size","_law_inner","_law_way"] ["_law_pot_here","_law_row"] (defScope ej):=%[O,O,O,∅,O,∅|∅]
theorem xE{f:OE}{fd:F7}(F:Fun K "_law_row_spoilt" "_law_row_spoilt" ej f fd)(B:Blt mg)(DD:Dn P w K mg base "_law_take" ["_law_pot_here","_law_many"] 1 (spTake))(DO:Dn P w K mg base "_law_odd" ["_law_pot_here"] 2 (md)):FnOk P w K mg base CX0 3 f fd ["_law_pot_here","_law_row"] (spRowS):=by
 refine F.ok scrows (λ vs H Q E h=>?_) (λ cdv A outer s H vs Q E hr h=>?_)
 ·obtain⟨p,a,r,xs,rfl,_⟩:=h
  rfl
 obtain⟨p,a,r,xs,rfl,pt,ha,tv,tk,l1,l60,q⟩:=h;have nd:=scrows.nd;refine%[_,((2∣(DD∩((pv 0)^^^((@aA _ _ _ _ _ _ _ _ _ aN O B.len OW ((pv 1)^^^ad) ∅ ∅ O O)^^^ad))))<<<((@bL _ _ _ _ _ _ ((pv 1)&&&ix_tup&&&(pv 2)) (bC O (3•(4•aV))) O O O)<<<((5∣(DD∩((pv 0)^^^(ae^^^ad))))<<<((((pv 5)<*>jt<*>ae)<|>((((@aT _ _ _ _ _ _ _ _ _ _ bz (pv 1) bi (aW (pv 2)))|||bE|||(@ar _ _ _ _ _ ((@ar _ _ _ _ _ (((pv 3)|||aX|||((@aQ _ _ _ _ (ae^^^((@iB _ _ _ _ _ _ fO ae)^^^ad)))&&&ix_list&&&(pv 5)))^^^((pv 4)^^^ad)))^^^ad)))|||bE|||(@aT _ _ _ _ _ _ _ _ _ _ bz (pv 1) (aW ((pv 2)|||aX|||ae)) bi))⁻¹)<|>az)<<<((((pv 5)<*>bc<*>ae)<|>(((@aT _ _ _ _ _ _ _ _ _ _ bz (pv 1) (aW (pv 2)) bi)|||bE|||(@aT _ _ _ _ _ _ _ _ _ _ bz (pv 1) bi (aW (pv 2))))⁻¹)<|>az)<<<((((pv 5)<*>bc<*>ae)<|>(((@aT _ _ _ _ _ _ _ _ _ _ bz (pv 1) bi (aW (pv 2)))|||bE|||(@aT _ _ _ _ _ _ _ _ _ _ bz (pv 1) (aW ((pv 2)|||aX|||ae)) bi))⁻¹)<|>az)<<<((((pv 5)<*>bc<*>ae)<|>((((@aT _ _ _ _ _ _ _ _ _ _ bz (pv 1) bi (aW (pv 2)))|||bE|||(@aT _ _ _ _ _ _ _ _ _ _ bz (pv 1) (aW (pv 2)) (aW ((pv 2)|||aX|||ae))))|||bE|||(@aT _ _ _ _ _ _ _ _ _ _ bz (pv 1) (aW (pv 2)) bi))⁻¹)<|>az)<<<((((pv 5)<*>bc<*>ae)<|>((((@aT _ _ _ _ _ _ _ _ _ _ bz (pv 1) bi (aW (pv 2)))|||bE|||(@ar _ _ _ _ _ ((DO∪((pv 0)^^^ad))^^^ad)))|||bE|||(@aT _ _ _ _ _ _ _ _ _ _ bz (pv 1) (aW ((pv 2)|||aX|||ae)) bi))⁻¹)<|>az)<<<((((@aT _ _ _ _ _ _ _ _ _ _ bz (pv 1) bi (aW (pv 2)))|||bE|||(@ar _ _ _ _ _ ((@ar _ _ _ _ _ ((DO∪((pv 0)^^^ad))^^^((pv 4)^^^ad)))^^^ad)))|||bE|||(@aT _ _ _ _ _ _ _ _ _ _ bz (pv 1) (aW ((pv 2)|||aX|||ae)) bi))⁻¹)))))))))|?_];dsimp only[bW];have sz:(1000:Nat) < sizeLine:=∅
 have e60:(100:Int) < 10 ^ 60:=∅
 have e61:=xB;have D0:Dts p H xs (aF r):=tv.dts;have xl:=D0.length;have fxs:=TlsK.fx (m:=60) ∅ r tk;refine aw (λ R=>∀(i:Nat)(H':Hp),i < xs.length->PotC H' p->But p H H'->R [↑p,↑a,⇑(i:Int),none,none,none] H') (λ Dd hR=>?_) ?_
 ·refine%[_,O,_,O,a,_,O,.inr (G1 ha),p,_,O,pt,⋯,⋯|λ r H1 r0 r1 pt1 b1=>?_];obtain⟨i,rfl⟩:=K3 r0;exact hR i _ ⋯ pt1 b1
 rintro i H1 il pt1 b1;obtain⟨s,t,a3,u,ex,h3,tu,he,hm⟩:=nM tv (E9 il);obtain⟨s0,s1,tkt⟩:=tk.mem _ hm;have hx:xs[i]? = ↑a3:=by rw[E9 il,ex]
 refine aw (λ R=>R [↑p,↑a,⇑(i:Int),⇑s,some u,none] H1) (λ Dd hR=>?_) ?_
 ·exact%[_,O,_,O,a,_,_,_,O,O,G1 (bS b1 pt ha),ff hx,a3,_,O,G1 (bS b1 pt h3),O,_,_,O,_,_,O,O|hR]
 skip
 refine aw (λ R=>∀(k:Nat)(H':Hp),k < 7->PotC H' p->But p H H'->R [↑p,↑a,⇑(i:Int),⇑s,some u,⇑(k:Int)] H') (λ Dd hR=>?_) ?_
 ·refine%[_,O,p,7,O,pt1,∅,∅|λ r H2 r0 r1 pt2 b2=>?_];obtain⟨k,rfl⟩:=K3 r0;exact hR k _ ⋯ pt2 (b1.trans b2)
 rintro k H3 k7 pt3 b3;have ha3:=bS b3 pt ha;have D3:=D0.but (bR pt) b3;have Du:Dt p H3 u (tlD t):=(TlV.dt (p:=p) t tu).but (bR pt) b3;have kk:∀j:Int,(k:Int)≠j->decide (V.int (k:Int)=V.int j)=false:=λ j z=>B0 (λ e=>z (V.int.inj e));have dpe:(PyData.tuple [.int s,tlD t]).depth<=PyData.depthAll (aF r):=fc (B5 he);have dpe':(PyData.tuple [.int s,tlD t]).depth=(tlD t).depth+1:=by show max 0 (max (tlD t).depth 0)+1=_;lia
 have wte:wt (.tuple [.int s,tlD t])=wt (tlD t)+2:=by show 1+(wt (tlD t)+0)+1=_;lia
 have wtle:=le he;have all:∀d∈aF r,Fx 60 d/\d.depth<=PyData.depthAll (aF r)+2:=λ d hd=>%[fxs d hd|by have:=fc hd;lia]
 have fin:∀{d:PyData}{v:V}{H':Hp},Sz (wt (.tuple [.int s,tlD t])+11) (PyData.depthAll (aF r)+2) d->Dt p H' v (.tuple ((aF r).take i ++ [d] ++ (aF r).drop (i+1)))->PotC H' p->But p H3 H'->Q v H':=λ z hd pt' b'=>q _ _ _ hd ((lg he ⋯ all z).mono ⋯ ⋯) pt' (b3.trans b');have two:∀{x:PyData},Fx 61 x->wt x<=8->x.depth<=1->Sz (wt (.tuple [.int s,tlD t])+11) (PyData.depthAll (aF r)+2) (.tuple [x,tlD t]):=λ {x} hx hw hd=>by
  refine(Sz.tup (D:=max 1 (tlD t).depth) (W:=wt x+wt (tlD t)) (by show 2<=61;decide) (λ d hd'=>?_) (by show wt x+(wt (tlD t)+0)<=_;lia)).mono ⋯ ⋯;simp only[G6,J0,OZ]at hd';rcases hd' with rfl | rfl
  ·exact%[hx|⋯]
  ·exact%[(TlK.fx ∅ t tkt).up|⋯]
 refine bf (λ R=>2<=k->R [↑p,↑a,⇑(i:Int),⇑s,some u,⇑(k:Int)] H3) (λ R hR=>?_) ?_
 ·refine%[_,O,_,_,O,O,_,O|?_]
  by_cases c:(k:Int) < 2
  ·rw[OO c];refine aH ?_;refine gS (p:=p) (W:=wt (.tuple [.int s,tlD t])+11) (D:=PyData.depthAll (aF r)+2) pt3 ha3 D3 ⋯ (λ _ _ q=>%[_,O|q]) (λ _ _ q=>%[_,O|q]) (λ H4 R4 s4 pt4 q4=>?_) (λ d v H' z hd pt' b'=>fin z hd pt' b');obtain⟨g,hg,gs⟩:∃g:Int,atI [V.int 1,.int (-1)] (k:Int)=⇑g/\(g=1\/g=-1):=by
    have:k=0\/k=1:=⋯
    rcases this with rfl | rfl
    ·exact%[1,O|.inl rfl]
    ·exact%[-1,O|.inr rfl]
   refine%[_,O,_,O,zS2|λ l hl=>?_];refine bj hl pt4 But.refl' λ H5 k5 n5 s5 b5 pt5=>?_;refine%[_,O,l,_,_,_,O,O,G2 k5,hg,_,_,O,O,_,O,zS2|λ t6 ht6=>?_];refine bj ht6 pt5 b5 λ H6 k6 n6 s6 b6 pt6=>?_;exact q4 _ (.tuple [.int (s+g),tlD t]) H6 (.tup k6 (.cons (.int _) (.cons ((Du.same s4).same (s5.trans s6)) .nil))) (two (.int ⋯ ⋯) (by show 1<=8;decide) (by show 0<=1;decide)) pt6 b6
  ·rw[OS c];exact aM (hR ⋯)
 rintro k2;refine bf (λ R=>k≠2->R [↑p,↑a,⇑(i:Int),⇑s,some u,⇑(k:Int)] H3) (λ R hR=>?_) ?_
 ·refine%[_,O,O,_,O|?_]
  by_cases c:k=2
  ·subst c;refine aH ?_;refine%[_,O,_,O,_,O,a,xs,O,ha3|λ t1 H4 k4 s4=>?_];rw[fo]at k4;refine%[_,O,_,O,_,O,a,xs,O,s4 _ _ ha3|λ t2 H5 k5 s5=>?_];rw[fj]at k5;refine%[t1,t2,_,_,O,O,s5 _ _ k4,k5,by rw[J2,K0];lia|λ t6 H6 c6 k6=>?_];have s6:=s4.trans (s5.trans (ci c6));have D6:=D3.same s6;refine q _ (.tuple ((aF r).drop i ++ (aF r).take i)) H6 (.tup k6 ((D6.drop i).app (D6.take i))) ((Sz.tup (D:=PyData.depthAll (aF r)+2) (W:=wts (aF r)) (by rw[G5,J2,K0];lia) (λ d hd=>?_) ?_).mono ⋯ ⋯) (pt3.same s6) (λ c o n e=>s6 _ _ (b3 _ _ n e))
   ·rcases C2.mp hd with hd | hd
    ·have:=all d (M5 hd);exact%[this.1.up|this.2]
    ·have:=all d (M0 hd);exact%[this.1.up|this.2]
   ·have:=nL i (aF r);rw[cG];lia
  ·rw[kk 2 ⋯];exact aM (hR c)
 rintro c2;refine bf (λ R=>k≠3->R [↑p,↑a,⇑(i:Int),⇑s,some u,⇑(k:Int)] H3) (λ R hR=>?_) ?_
 ·refine%[_,O,O,_,O|?_]
  by_cases c:k=3
  ·subst c;refine aH ?_;refine%[_,O,_,O,_,O,a,xs,O,ha3|λ t1 H4 k4 s4=>?_];rw[fj]at k4;refine%[_,O,_,O,_,_,O,O,_,O,a,xs,O,s4 _ _ ha3|λ t2 H5 k5 s5=>?_];rw[show((i:Int)+1)=((i+1:Nat):Int)from rfl,fo]at k5;refine%[t1,t2,_,_,O,O,s5 _ _ k4,k5,by rw[J2,K0];lia|λ t6 H6 c6 k6=>?_];have s6:=s4.trans (s5.trans (ci c6));have D6:=D3.same s6;refine q _ (.tuple ((aF r).take i ++ (aF r).drop (i+1))) H6 (.tup k6 ((D6.take i).app (D6.drop (i+1)))) ((Sz.tup (D:=PyData.depthAll (aF r)+2) (W:=wts (aF r)) (by rw[G5,J2,K0];lia) (λ d hd=>?_) ?_).mono ⋯ ⋯) (pt3.same s6) (λ c o n e=>s6 _ _ (b3 _ _ n e))
   ·rcases C2.mp hd with hd | hd
    ·have:=all d (M0 hd);exact%[this.1.up|this.2]
    ·have:=all d (M5 hd);exact%[this.1.up|this.2]
   ·rw[cG];lia
  ·rw[kk 3 ⋯];exact aM (hR c)
 rintro c3;refine bf (λ R=>k≠4->R [↑p,↑a,⇑(i:Int),⇑s,some u,⇑(k:Int)] H3) (λ R hR=>?_) ?_
 ·refine%[_,O,O,_,O|?_]
  by_cases c:k=4
  ·subst c;refine aH ?_;refine%[_,O,_,O,_,O,a,xs,O,ha3|λ t1 H4 k4 s4=>?_];rw[fj]at k4;refine%[_,O,_,O,_,O,_,O,_,_,O,O,_,O,a,xs,O,s4 _ _ ha3|λ t2 H5 k5 s5=>?_];rw[vp hx]at k5;refine%[t1,t2,_,_,O,O,s5 _ _ k4,k5,by rw[J2];show _+1<=_;lia|λ t6 H6 c6 k6=>?_];have s6:=ci c6;refine%[_,O,_,O,_,O,a,xs,O,s6 _ _ (s5 _ _ (s4 _ _ ha3))|λ t7 H7 k7' s7=>?_];rw[fo]at k7';refine%[t6,t7,_,_,O,O,s7 _ _ k6,k7',by rw[G5,J2,K0];show _+1+_<=_;lia|λ t8 H8 c8 k8=>?_];have s8:=s4.trans (s5.trans (s6.trans (s7.trans (ci c8))));have D8:=D3.same s8;obtain⟨e',he',De⟩:=D8.get hx;rw[he]at he';cases he';refine q _ (.tuple ((aF r).take i ++ [.tuple [.int s,tlD t]] ++ (aF r).drop i)) H8 (.tup k8 (((D8.take i).app (.cons De .nil)).app (D8.drop i))) ((Sz.tup (D:=PyData.depthAll (aF r)+2) (W:=2 * wts (aF r)) (by rw[G5,G5,J2,K0,K6];lia) (λ d hd=>?_) ?_).mono ⋯ ⋯) (pt3.same s8) (λ c o n e=>s8 _ _ (b3 _ _ n e))
   ·rcases C2.mp hd with hd | hd
    ·rcases C2.mp hd with hd | hd
     ·have:=all d (M0 hd);exact%[this.1.up|this.2]
     ·rw[C9.mp hd];have:=all _ (B5 he);exact%[this.1.up|this.2]
    ·have:=all d (M5 hd);exact%[this.1.up|this.2]
   ·have:=nL i (aF r);rw[cG,cG];show wts ((aF r).take i)+(wt (.tuple [.int s,tlD t])+0)+_<=_;lia
  ·rw[kk 4 ⋯];exact aM (hR c)
 rintro c4;refine bf (λ R=>k≠5->R [↑p,↑a,⇑(i:Int),⇑s,some u,⇑(k:Int)] H3) (λ R hR=>?_) ?_
 ·refine%[_,O,O,_,O|?_]
  by_cases c:k=5
  ·subst c;refine aH ?_;refine gS (p:=p) (W:=wt (.tuple [.int s,tlD t])+11) (D:=PyData.depthAll (aF r)+2) pt3 ha3 D3 ⋯ (λ _ _ q=>%[_,O|q]) (λ _ _ q=>%[_,O|q]) (λ H4 R4 s4 pt4 q4=>?_) (λ d v H' z hd pt' b'=>fin z hd pt' b');exact%[_,O,p,O,pt4|λ v d H5 hd hm pt5 b5=>q4 v d H5 hd ((fe hm).mono ⋯ ⋯) pt5 b5]
  ·rw[kk 5 ⋯];exact aM (hR c)
 rintro c5;refine gS (p:=p) (W:=wt (.tuple [.int s,tlD t])+11) (D:=PyData.depthAll (aF r)+2) pt3 ha3 D3 ⋯ (λ _ _ q=>%[_,O|q]) (λ _ _ q=>%[_,O|q]) (λ H4 R4 s4 pt4 q4=>?_) (λ d v H' z hd pt' b'=>fin z hd pt' b');refine%[_,O,p,O,pt4|λ v d H5 hd hm pt5 b5=>%[_,O,zS2|λ t6 ht6=>?_]];refine bj ht6 pt5 b5 λ H6 k6 n6 s6 b6 pt6=>?_;have zd:=fe hm;exact q4 _ (.tuple [d,tlD t]) H6 (.tup k6 (.cons (hd.same s6) (.cons (((Du.same s4).but (bR pt4) b5).same s6) .nil))) (two zd.fx zd.w zd.d) pt6 b6
end
theorem zS:∀d∈[PyData.str "across",.str "down",.str "rest",.str "acros",.str "downs",.str "d",.str "Across"],Fx 61 d/\wt d<=8/\d.depth<=1:=by simp only[M7];exact%[%[cO 61 _ ∅,∅|∅],%[cO 61 _ ∅,∅|∅],%[cO 61 _ ∅,∅|∅],%[cO 61 _ ∅,∅|∅],%[cO 61 _ ∅,∅|∅],%[cO 61 _ ∅,∅|∅],%[cO 61 _ ∅,∅|∅]|λ _ h=>by cases h]
theorem vq{H:Hp}{t:Tl}{v:V}(h:TlV H t v):(∃(a:OE)(z:Str)(ys:OI V)(es:OI PyData),v=.ref a/\H a= ~~~(.str z :: ys)/\(z = "rest" \/ z = "piece")/\tlD t=.tuple es/\es.length<=5)\/∃(a q:OE)(xs:OI V)(dn:Bool)(r:Tls),t=.row dn r/\v=.ref a/\H a= ~~~[.str (wyL dn),.ref q]/\H q= ~~~xs/\TlsV H r xs:=by
 cases t with
 | rest=>rw[TlV]at h;obtain⟨a,e,h⟩:=h;exact .inl %[a,_,_,_,e,h,.inl rfl,by rw[tlD]|by show 1<=5;decide]
 | piece i c x y=>rw[TlV]at h;obtain⟨a,e,h⟩:=h;exact .inl %[a,_,_,_,e,h,.inr rfl,by rw[tlD]|B2 _]
 | row dn r=>rw[TlV]at h;obtain⟨a,q,xs,e,h1,h2,h3⟩:=h;exact .inr %[a,q,xs,dn,r,O,e,h1,h2|h3]
theorem Fx.all{m:Nat}{ds:OI PyData}(h:Fx m (.tuple ds)):∀d∈ds,Fx m d:=by
 cases h with
 | tuple _ h=>exact h
section
variable{P:F6}{w:F8}{K:C4}{mg:Str->OG F9}{base:Heap}
theorem scspoil:FnScope ["_law_pot_here","_law_told_here","_law_at","_law_way","_law_row","_law_turn","_law_words"] ["_law_pot_here","_law_told_here"] (defScope fB):=%[O,O,O,∅,O,∅|∅]
theorem vt{f:OE}{fd:F7}(F:Fun K "_law_spoilt" "_law_spoilt" fB f fd)(B:Blt mg)(n:Nat)(DD:Dn P w K mg base "_law_take" ["_law_pot_here","_law_many"] 1 (spTake))(DO:Dn P w K mg base "_law_odd" ["_law_pot_here"] 2 (md))(DRS:Dn P w K mg base "_law_row_spoilt" ["_law_pot_here","_law_row"] 3 (spRowS))(DS:Dn P w K mg base "_law_spoilt" ["_law_pot_here","_law_told_here"] (3+n) (spSpoil n)):FnOk P w K mg base CX0 (3+(n+1)) f fd ["_law_pot_here","_law_told_here"] (spSpoil (n+1)):=by
 refine F.ok scspoil (λ vs H Q E h=>?_) (λ cdv A outer s H vs Q E hr h=>?_)
 ·obtain⟨p,v,t,rfl,_⟩:=h
  rfl
 obtain⟨p,v,t,rfl,pt,tv,tk,dn0,q⟩:=h;have nd:=scspoil.nd;refine%[_,(((@ay _ _ _ _ _ _ _ _ gF ((pv 1)&&&ix_tup&&&ae) (@ar _ _ _ _ _ (aJ^^^(aJ^^^ad))) O)<|>((2∣(@ah _ _ _ _ _ _ _ _ _ _ DD (hr.mono (show 1<=3+n by lia)) O ((pv 0)^^^((@aA _ _ _ _ _ _ _ _ _ aN O B.len OW ((pv 1)^^^ad) ∅ ∅ O O)^^^ad)) ∅ O O))<<<(((@aQ _ _ _ _ ((((@aT _ _ _ _ _ _ _ _ _ _ bz (pv 1) bi (aW (pv 2)))|||bE|||(@ar _ _ _ _ _ ((@ah _ _ _ _ _ _ _ _ _ _ DO (hr.mono (show 2<=3+n by lia)) O ((pv 0)^^^ad) ∅ O O)^^^ad)))|||bE|||(@aT _ _ _ _ _ _ _ _ _ _ bz (pv 1) (aW ((pv 2)|||aX|||ae)) bi))^^^(((pv 1)|||bE|||(@ar _ _ _ _ _ (ae^^^ad)))^^^((@ah _ _ _ _ _ _ _ _ _ _ DO (hr.mono (show 2<=3+n by lia)) O ((pv 0)^^^ad) ∅ O O)^^^ad))))&&&ix_list&&&(@ah _ _ _ _ _ _ _ _ _ _ DD (hr.mono (show 1<=3+n by lia)) O ((pv 0)^^^(ae^^^ad)) ∅ O O))⁻¹))<|>az)<<<((@bL _ _ _ _ _ _ (pv 1) (bC O (3•(4•aV))) O O O)<<<((2∣(@ah _ _ _ _ _ _ _ _ _ _ DD (hr.mono (show 1<=3+n by lia)) O ((pv 0)^^^((@aA _ _ _ _ _ _ _ _ _ aN O B.len OW ((pv 4)^^^ad) ∅ ∅ O O)^^^ad)) ∅ O O))<<<((5∣(@ah _ _ _ _ _ _ _ _ _ _ DD (hr.mono (show 1<=3+n by lia)) O ((pv 0)^^^(ae^^^ad)) ∅ O O))<<<((((pv 5)<*>bc<*>ae)<|>((6∣(@aQ _ _ _ _ ((@ah _ _ _ _ _ _ _ _ _ _ DO (hr.mono (show 2<=3+n by lia)) O ((pv 0)^^^ad) ∅ O O)^^^(aJ^^^(aJ^^^(aJ^^^(aJ^^^(aJ^^^(aJ^^^(aJ^^^ad))))))))))<<<((@ar _ _ _ _ _ (((pv 6)&&&ix_list&&&(@ah _ _ _ _ _ _ _ _ _ _ DD (hr.mono (show 1<=3+n by lia)) O ((pv 0)^^^(ae^^^ad)) ∅ O O))^^^((pv 4)^^^ad)))⁻¹))<|>az)<<<((((pv 5)<*>bc<*>ae)<|>((@ar _ _ _ _ _ ((pv 3)^^^((((@aT _ _ _ _ _ _ _ _ _ _ bz (pv 4) bi (aW (pv 2)))|||bE|||(@ar _ _ _ _ _ ((@ar _ _ _ _ _ ((((pv 4)&&&ix_tup&&&(pv 2))&&&ix_tup&&&ae)^^^((@ar _ _ _ _ _ ((pv 3)^^^((pv 4)^^^ad)))^^^ad)))^^^ad)))|||bE|||(@aT _ _ _ _ _ _ _ _ _ _ bz (pv 4) (aW ((pv 2)|||aX|||ae)) bi))^^^ad)))⁻¹)<|>az)<<<((((pv 5)<*>bc<*>ae)<|>((@ar _ _ _ _ _ ((pv 3)^^^((@ah _ _ _ _ _ _ _ _ _ _ DRS (hr.mono (show 3<=3+n by lia)) O ((pv 0)^^^((pv 4)^^^ad)) ∅ O O)^^^ad)))⁻¹)<|>az)<<<((@ar _ _ _ _ _ ((pv 3)^^^((((@aT _ _ _ _ _ _ _ _ _ _ bz (pv 4) bi (aW (pv 2)))|||bE|||(@ar _ _ _ _ _ ((@ar _ _ _ _ _ ((((pv 4)&&&ix_tup&&&(pv 2))&&&ix_tup&&&ae)^^^((DS∪((pv 0)^^^((((pv 4)&&&ix_tup&&&(pv 2))&&&ix_tup&&&ae)^^^ad)))^^^ad)))^^^ad)))|||bE|||(@aT _ _ _ _ _ _ _ _ _ _ bz (pv 4) (aW ((pv 2)|||aX|||ae)) bi))^^^ad)))⁻¹))))))))|?_];dsimp only[bW];have sz:(1000:Nat) < sizeLine:=∅
 have e60:(100:Int) < 10 ^ 60:=∅
 have e61:=xB;have fx0:=TlK.fx ∅ t tk;rcases vq tv with⟨a,z,ys,es,rfl,ha,hz,et,l5⟩ | ⟨a,qa,xs,dn,r,rfl,rfl,ha,hqa,tvs⟩
 ·refine bO (λ σ' H'=>False) (λ R hR=>?_) (λ _ _ z=>z.elim);rw[et]at fx0 q;have D0:Dt p H (.ref a) (.tuple es):=by have:=TlV.dt (p:=p) t tv;rw[et]at this;exact this
  obtain⟨a',xs',e',ha',D0⟩:=D0.tupD;cases e';rw[ha]at ha';cases ha';have xl:=D0.length;refine%[_,O,a,_,0,_,O,O,G1 ha,aE (E3 _) rfl,zS2|λ e0 he0=>?_];refine bj he0 pt But.refl' λ H1 k1 n1 s1 b1 pt1=>?_;refine%[e0,_,O,.inr (G1 k1),O,O,_,O|?_];rw[show inV (V.str z) [V.str "rest",V.str "piece"]=true by rcases hz with rfl | rfl <;> decide +kernel];refine aH ?_;refine aw (λ R=>∀(i:Nat)(H':Hp),i < es.length->PotC H' p->But p H H'->R [↑p,↑a,⇑(i:Int),none,none,none,none] H') (λ Dd hR=>?_) ?_
  ·refine%[_,O,_,O,a,_,O,.inr (G1 (s1 _ _ ha)),p,_,O,pt1,by show(0:Int) < ((ys.length+1:Nat):Int);lia,by rw[xl];lia|λ r H2 r0 r1 pt2 b2=>?_];obtain⟨i,rfl⟩:=K3 r0;exact hR i _ (by rw[xl]at r1;lia) pt2 (b1.trans b2)
  rintro i H2 il pt2 b2;have he:=E9 il;have dpa:∀d∈es,d.depth<=PyData.depthAll es:=λ d hd=>fc hd;have hwt:wt (.tuple es)=wts es+1:=rfl;have hdp:(PyData.tuple es).depth=PyData.depthAll es+1:=rfl;have wtp:=pQ es[i];refine gS (p:=p) (W:=wt es[i]+8) (D:=PyData.depthAll es+1) pt2 (bS b2 pt ha) (D0.but (bR pt) b2) ⋯ (λ _ _ q=>%[_,O|q]) (λ _ _ q=>%[_,O|q]) (λ H4 R4 s4 pt4 q4=>?_) (λ d v H3 zd hd3 pt3 b3=>?_)
  ·exact%[_,O,p,O,pt4|λ v d H5 hd hm pt5 b5=>q4 v d H5 hd ((fe hm).mono ⋯ ⋯) pt5 b5]
  have z1:Sz (2 * wt (.tuple es)+20) ((PyData.tuple es).depth+4) (.tuple (es.take i ++ [d] ++ es.drop (i+1))):=(lg he ⋯ (λ d hd=>%[fx0.all d hd|by have:=dpa d hd;lia]) zd).mono ⋯ ⋯;have b03:=b2.trans b3;have ha3:=bS b03 pt ha;refine%[_,O,zS1|λ t4 ht4=>?_];refine bj ht4 pt3 b03 λ H4 k4 n4 s4 b4 pt4=>?_;refine%[a,t4,_,_,O,O,s4 _ _ ha3,k4,by rw[xl];show _+1<=_;lia|λ t5 H5 c5 k5=>?_];have s5:=ci c5;have D5:Dt p H5 (.ref t5) (.tuple (es ++ [.int 0])):=.tup k5 ((((D0.but (bR pt) b03).same s4).same s5).app (.cons (.int 0) .nil));have z2:Sz (2 * wt (.tuple es)+20) ((PyData.tuple es).depth+4) (.tuple (es ++ [.int 0])):=by
   refine(Sz.tup (D:=PyData.depthAll es) (W:=wts es+1) (by rw[G5,K6];lia) (λ d hd=>?_) (by rw[cG];exact B2 _)).mono ⋯ ⋯;rcases C2.mp hd with hd | hd
   ·exact%[(fx0.all d hd).up|dpa d hd]
   ·rw[C9.mp hd];exact%[.int ⋯ ⋯|E6 _]
  have pt5:=pt4.same s5;refine%[_,O,p,O,pt5|λ v6 d6 H6 hd6 hm6 pt6 b6=>%[zS3|λ l7 hl7=>?_]];have b06:But p H H6:=(show But p H H5 fromλ c o n e=>s5 _ _ (b4 _ _ n e)).trans b6;have D61:=((hd3.same s4).same s5).but (bR pt5) b6;have D62:=D5.but (bR pt5) b6;refine bj hl7 pt6 b06 λ H7 k7 n7 s7 b7 pt7=>?_;refine%[_,O,p,3,O,pt7,∅,∅|λ r H8 r0 r1 pt8 b8=>?_];have hl8:=b8 _ _ n7 k7;have g1:=(D61.same s7).but (bR pt7) b8;have g2:=(D62.same s7).but (bR pt7) b8;have g3:=(hd6.same s7).but (bR pt7) b8;have:r=0\/r=1\/r=2:=⋯
  rcases this with rfl | rfl | rfl
  ·exact%[l7,_,_,_,O,O,G2 hl8,O|q _ _ H8 g1 z1 pt8 (b7.trans b8)]
  ·exact%[l7,_,_,_,O,O,G2 hl8,O|q _ _ H8 g2 z2 pt8 (b7.trans b8)]
  ·exact%[l7,_,_,_,O,O,G2 hl8,O|q _ _ H8 g3 ((fe hm6).mono ⋯ ⋯) pt8 (b7.trans b8)]
 have D0:Dts p H xs (aF r):=tvs.dts;have xl:=D0.length;have tk0:=tk;rw[TlK]at tk;obtain⟨r1,r60,tks⟩:=tk;rw[<- lb r]at r1 r60;have fxs:=TlsK.fx (m:=60) ∅ r tks;have hwt:wt (tlD (.row dn r))=wt (.str (wyL dn))+(wts (aF r)+1)+1:=by rw[tlD];show wt (.str (wyL dn))+((wts (aF r)+1)+0)+1=_;lia
 have hdp:(tlD (.row dn r)).depth=PyData.depthAll (aF r)+2:=by rw[tlD];show max 0 (max (PyData.depthAll (aF r)+1) 0)+1=_;lia
 have w7:wt (.str (wyL dn))<=7:=by cases dn <;> decide +kernel
 have w5:5<=wt (.str (wyL dn)):=by cases dn <;> decide +kernel
 refine aw (λ R=>∀(H':Hp),PotC H' p->But p H H'->R [↑p,↑a,none,none,none,none,none] H') (λ Dd hR=>?_) ?_
 ·refine%[_,O,a,_,0,_,O,O,G1 ha,aE (E3 _) rfl,zS2|λ e0 he0=>?_];refine bj he0 pt But.refl' λ H1 k1 n1 s1 b1 pt1=>?_;refine%[e0,_,O,.inr (G1 k1),O,O,_,O|?_];rw[show inV (V.str (wyL dn)) [V.str "rest",V.str "piece"]=false by cases dn <;> decide +kernel];exact aM (hR _ pt1 b1)
 rintro H1 pt1 b1;refine aw (λ R=>R [↑p,↑a,none,some (.str (wyL dn)),↑qa,none,none] H1) (λ Dd hR=>?_) ?_
 ·exact%[_,O,a,_,O,G1 (bS b1 pt ha),O,_,_,O,_,_,O,O|hR]
 skip
 refine aw (λ R=>∀(i:Nat)(H':Hp),i < xs.length->PotC H' p->But p H H'->R [↑p,↑a,⇑(i:Int),some (.str (wyL dn)),↑qa,none,none] H') (λ Dd hR=>?_) ?_
 ·refine%[_,O,_,O,qa,_,O,.inr (G1 (bS b1 pt hqa)),p,_,O,pt1,⋯,⋯|λ r H2 r0 r1 pt2 b2=>?_];obtain⟨i,rfl⟩:=K3 r0;exact hR i _ ⋯ pt2 (b1.trans b2)
 rintro i H2 il pt2 b2;obtain⟨s,t,a3,u,ex,h3,tu,he,hm⟩:=nM tvs (E9 il);obtain⟨s0,s1,tkt⟩:=tks.mem _ hm;have hx:xs[i]? = ↑a3:=by rw[E9 il,ex]
 refine aw (λ R=>∀(k:Nat)(H':Hp),k < 5->PotC H' p->But p H H'->R [↑p,↑a,⇑(i:Int),some (.str (wyL dn)),↑qa,⇑(k:Int),none] H') (λ Dd hR=>?_) ?_
 ·refine%[_,O,p,5,O,pt2,∅,∅|λ r H3 r0 r1 pt3 b3=>?_];obtain⟨k,rfl⟩:=K3 r0;exact hR k _ ⋯ pt3 (b2.trans b3)
 rintro k H3 k5 pt3 b3;have kk:∀j:Int,(k:Int)≠j->decide (V.int (k:Int)=V.int j)=false:=λ j z=>B0 (λ e=>z (V.int.inj e));have hq3:=bS b3 pt hqa;have D3:=D0.but (bR pt) b3;have dpe:(PyData.tuple [.int s,tlD t]).depth<=PyData.depthAll (aF r):=fc (B5 he);have dpe':(PyData.tuple [.int s,tlD t]).depth=(tlD t).depth+1:=by show max 0 (max (tlD t).depth 0)+1=_;lia
 have wte:wt (.tuple [.int s,tlD t])=wt (tlD t)+2:=by show 1+(wt (tlD t)+0)+1=_;lia
 have wtle:=le he;have all:∀{D:Nat},PyData.depthAll (aF r)<=D->∀d∈aF r,Fx 60 d/\d.depth<=D:=λ hD d hd=>%[fxs d hd|by have:=fc hd;lia]
 have two:∀{x y:PyData}{W D:Nat},Fx 61 x->Fx 61 y->wt x+wt y<=W->x.depth<=D->y.depth<=D->Sz (W+1) (D+1) (.tuple [x,y]):=λ {x y W D} hx hy hw h1 h2=>by
  refine Sz.tup (by show 2<=61;decide) (λ d hd'=>?_) (by show wt x+(wt y+0)<=_;lia);simp only[G6,J0,OZ]at hd';rcases hd' with rfl | rfl
  ·exact%[hx|h1]
  ·exact%[hy|h2]
 have fw:Fx 61 (.str (wyL dn)):=EA 61 dn;have fr:Fx 61 (.tuple (aF r)):=.tuple ⋯ λ d hd=>(fxs d hd).up;refine bO (λ σ' H'=>σ'=[↑p,↑a,⇑(i:Int),some (.str (wyL dn)),↑qa,⇑(k:Int),none]/\H3=H'/\k≠0) (λ R hR=>?_) ?_
 ·refine%[_,O,O,_,O|?_]
  by_cases c:k=0
  ·subst c;refine aH ?_;refine aw (λ R=>∀(l:OE)(d:PyData)(v:V)(H':Hp),l≠p->H' l=some (.lst [v,.str "across",.str "down",.str "rest",.str "acros",.str "downs",.str "d",.str "Across"])->Dt p H' v d->d∈rn->PotC H' p->But p H H'->R [↑p,↑a,⇑(i:Int),some (.str (wyL dn)),↑qa,⇑((0:Nat):Int),↑l] H') (λ Dd hR=>?_) ?_
   ·refine%[_,O,p,O,pt3|λ v d H4 hd hm pt4 b4=>%[zS8|λ l hl=>?_]];refine bj hl pt4 (b3.trans b4) λ H5 k5 n5 s5 b5 pt5=>?_;exact hR l d v _ n5 k5 (hd.same s5) hm pt5 b5
   rintro l d v H4 nl hl hd hm pt4 b4;refine%[_,O,_,O,p,8,O,pt4,∅,∅|λ j H5 j0 j1 pt5 b5=>?_];have hd5:=hd.but (bR pt4) b5;have b05:=b4.trans b5;have D:Dts p H5 [v,.str "across",.str "down",.str "rest",.str "acros",.str "downs",.str "d",.str "Across"] [d,.str "across",.str "down",.str "rest",.str "acros",.str "downs",.str "d",.str "Across"]:=.cons hd5 (.cons (.str _) (.cons (.str _) (.cons (.str _) (.cons (.str _) (.cons (.str _) (.cons (.str _) (.cons (.str _) .nil)))))));obtain⟨x,dx,hx',hdx,mx⟩:=D.pick j0 j1;have⟨fx,wx,px⟩:Fx 61 dx/\wt dx<=8/\dx.depth<=1:=by
    rcases G6.mp mx with rfl | mx
    ·exact%[(fe hm).fx,(fe hm).w|(fe hm).d]
    ·exact zS dx mx
   refine%[l,_,_,_,O,O,G2 (b5 _ _ nl hl),hx',_,O,zS2|λ t6 ht6=>?_];refine bj ht6 pt5 b05 λ H6 k6 n6 s6 b6 pt6=>?_;refine q _ (.tuple [dx,.tuple (aF r)]) H6 (.tup k6 (.cons (hdx.same s6) (.cons (.tup (bS b6 pt hqa) (D0.but (bR pt) b6)) .nil))) ((two (W:=8+(wts (aF r)+1)) (D:=PyData.depthAll (aF r)+1) fx fr (by show _+(wts (aF r)+1)<=_;lia) ⋯ (B2 _)).mono ⋯ ⋯) pt6 b6
  ·rw[kk 0 ⋯];exact aM (hR _ _ %[rfl,rfl|c])
 rintro _ _ ⟨rfl,rfl,c0⟩;refine bf (λ R=>k≠1->R [↑p,↑a,⇑(i:Int),some (.str (wyL dn)),↑qa,⇑(k:Int),none] H3) (λ R hR=>?_) ?_
 ·refine%[_,O,O,_,O|?_]
  by_cases c:k=1
  ·subst c;refine aH ?_;refine%[_,O|?_];refine gS (p:=p) (W:=wt (.tuple [.int s,tlD t])+wt (tlD (.row dn r))) (D:=PyData.depthAll (aF r)+3) pt3 hq3 D3 ⋯ (λ _ _ q=>%[_,O|q]) (λ _ _ q=>%[_,O|q]) (λ H4 R4 s4 pt4 q4=>?_) (λ d v H5 zd hd5 pt5 b5=>?_)
   ·refine%[_,O,_,O,qa,_,_,_,O,O,G1 (s4 _ _ hq3),ff hx,a3,_,0,_,O,O,G1 (s4 _ _ (bS b3 pt h3)),O,_,O,_,O,zS2|λ t5 ht5=>?_];refine bj ht5 pt4 But.refl' λ H5 k5 n5 s5 b5 pt5=>?_;refine%[zS2|λ t6 ht6=>?_];refine bj ht6 pt5 b5 λ H6 k6 n6 s6 b6 pt6=>?_;have s46:=s4.trans (s5.trans s6);refine q4 _ (.tuple [.int s,tlD (.row dn r)]) H6 (.tup k6 (.cons (.int s) (.cons ?_ .nil))) ((two (W:=1+wt (tlD (.row dn r))) (D:=PyData.depthAll (aF r)+2) (.int ⋯ ⋯) (TlK.fx ∅ (.row dn r) tk0).up (B2 _) (E6 _) ⋯).mono ⋯ ⋯) pt6 b6;rw[tlD];exact .tup (s6 _ _ k5) (.cons (.str _) (.cons (.tup (s46 _ _ hq3) (D3.same s46)) .nil))
   ·refine%[zS2|λ t6 ht6=>?_];refine bj ht6 pt5 (b3.trans b5) λ H6 k6 n6 s6 b6 pt6=>?_;have zz:=lg he ⋯ (all ⋯) zd;exact q _ (.tuple [.str (wyL dn),.tuple ((aF r).take i ++ [d] ++ (aF r).drop (i+1))]) H6 (.tup k6 (.cons (.str _) (.cons (hd5.same s6) .nil))) ((two fw zz.fx (Nat.add_le_add w7 zz.w) (E6 _) zz.d).mono ⋯ ⋯) pt6 b6
  ·rw[kk 1 ⋯];exact aM (hR c)
 rintro c1;refine bf (λ R=>k≠2->R [↑p,↑a,⇑(i:Int),some (.str (wyL dn)),↑qa,⇑(k:Int),none] H3) (λ R hR=>?_) ?_
 ·refine%[_,O,O,_,O|?_]
  by_cases c:k=2
  ·subst c;refine aH ?_;refine%[_,O,_,O,_,O,p,qa,r,xs,O,pt3,hq3,TlsV.keep (λ c ys e=>bS b3 pt e) r tvs,tks,⋯,⋯|λ v d H4 hd zd pt4 b4=>%[zS2|λ t6 ht6=>?_]];refine bj ht6 pt4 (b3.trans b4) λ H6 k6 n6 s6 b6 pt6=>?_;exact q _ (.tuple [.str (wyL dn),d]) H6 (.tup k6 (.cons (.str _) (.cons (hd.same s6) .nil))) ((two fw zd.fx (Nat.add_le_add w7 zd.w) (E6 _) zd.d).mono ⋯ ⋯) pt6 b6
  ·rw[kk 2 ⋯];exact aM (hR c)
 rintro c2;refine%[_,O|?_];refine gS (p:=p) (W:=wt (.tuple [.int s,tlD t])+(wt (tlD t)+20)) (D:=PyData.depthAll (aF r)+4) pt3 hq3 D3 ⋯ (λ _ _ q=>%[_,O|q]) (λ _ _ q=>%[_,O|q]) (λ H4 R4 s4 pt4 q4=>?_) (λ d v H5 zd hd5 pt5 b5=>?_)
 ·refine%[_,O,_,O,qa,_,_,_,O,O,G1 (s4 _ _ hq3),ff hx,a3,_,0,_,O,O,G1 (s4 _ _ (bS b3 pt h3)),O,_,O,_,O,_,O,qa,_,_,_,O,O,G1 (s4 _ _ hq3),ff hx,a3,_,1,_,O,O,G1 (s4 _ _ (bS b3 pt h3)),O,p,u,t,O,pt4,TlV.keep (λ c ys e=>s4 _ _ (bS b3 pt e)) t tu,tkt,⋯|λ v d H5 hd zd pt5 b5=>%[zS2|λ t6 ht6=>?_]];refine bj ht6 pt5 b5 λ H6 k6 n6 s6 b6 pt6=>?_;have zw:=zd.w;have zdp:=zd.d;exact q4 _ (.tuple [.int s,d]) H6 (.tup k6 (.cons (.int s) (.cons (hd.same s6) .nil))) ((two (W:=1+wt d) (D:=PyData.depthAll (aF r)+3) (.int ⋯ ⋯) zd.fx (B2 _) (E6 _) ⋯).mono ⋯ ⋯) pt6 b6
 ·refine%[zS2|λ t6 ht6=>?_];refine bj ht6 pt5 (b3.trans b5) λ H6 k6 n6 s6 b6 pt6=>?_;have zz:=lg he ⋯ (all ⋯) zd;exact q _ (.tuple [.str (wyL dn),.tuple ((aF r).take i ++ [d] ++ (aF r).drop (i+1))]) H6 (.tup k6 (.cons (.str _) (.cons (hd5.same s6) .nil))) ((two fw zz.fx (Nat.add_le_add w7 zz.w) (E6 _) zz.d).mono ⋯ ⋯) pt6 b6
theorem rA{f:OE}{fd:F7}(F:Fun K "_law_spoilt" "_law_spoilt" fB f fd):FnOk P w K mg base CX0 3 f fd ["_law_pot_here","_law_told_here"] (spSpoil 0):=by
 refine F.ok scspoil (λ vs H Q E h=>?_) (λ cdv A outer s H vs Q E hr h=>?_)
 ·obtain⟨p,v,t,rfl,_⟩:=h
  rfl
 ·obtain⟨p,v,t,rfl,_,_,_,z,_⟩:=h;exact absurd z (E7 _)
theorem jV{f:OE}{fd:F7}(F:Fun K "_law_spoilt" "_law_spoilt" fB f fd)(B:Blt mg)(DD:Dn P w K mg base "_law_take" ["_law_pot_here","_law_many"] 1 (spTake))(DO:Dn P w K mg base "_law_odd" ["_law_pot_here"] 2 (md))(DRS:Dn P w K mg base "_law_row_spoilt" ["_law_pot_here","_law_row"] 3 (spRowS))(mk:∀n,FnOk P w K mg base CX0 (3+n) f fd ["_law_pot_here","_law_told_here"] (spSpoil n)->Dn P w K mg base "_law_spoilt" ["_law_pot_here","_law_told_here"] (3+n) (spSpoil n)):∀n,FnOk P w K mg base CX0 (3+n) f fd ["_law_pot_here","_law_told_here"] (spSpoil n)
 | 0=>rA F
 | n+1=>vt F B n DD DO DRS (mk n (jV F B DD DO DRS mk n))
end
theorem rB(x:V)(ys:OI V):eE (x :: ys) none (some (-1))=(x :: ys).take ys.length:=by
 have e:HT.sIx (ys.length+1) (ys.length+1) (some (-1))=ys.length:=by unfold HT.sIx;dsimp only;rw[OR ∅];lia
 show((x :: ys).drop 0).take (HT.sIx (ys.length+1) (ys.length+1) (some (-1)) - 0)=_;rw[e,N8,OC]
inductive Bt:PyData->Prop
 | norow {d:PyData}:aI d=none->Bt d
 | head {d:PyData} {ds:OI PyData}:aI d=some ds->(∀y r,ds=.str y :: r->(y = "down" -> r.length≠3)/\(y = "across" -> r.length≠3)/\(y = "piece" -> r.length≠4)/\(y = "rest" -> r.length≠0))->Bt d
 | size {d x z l r:PyData}:aI d=some [x,z,l,r]->whD z 1=false->Bt d
 | left {d x z l r:PyData}:aI d=some [x,z,l,r]->Bt l->Bt d
 | right {d x z l r:PyData}:aI d=some [x,z,l,r]->Bt r->Bt d
theorem yI{d:PyData}{y:Str}{n:Nat}(h:bw d y n=true):∃r,aI d=some (.str y :: r)/\r.length+1=n:=by
 unfold bw at h
 split at h
 ·rename_i z r e
  rw[G8]at h;exact%[r,by rw[e,of_decide_eq_true h.2]|C0 h.1]
 ·cases h
theorem lh{ks:OI Kd}{w h:Int}{d:PyData}(hl:isL ks w h d=true):(∃r,aI d=some (.str "piece" :: r)/\r.length+1=5)\/∃r,aI d=some (.str "rest" :: r)/\r.length+1=1:=by
 unfold isL at hl
 split at hl
 ·rename_i hb;exact .inl (yI hb)
 ·exact .inr (yI hl)
theorem jf{ks:OI Kd}{w h:Int}{d x z l r:PyData}(e:aI d=some [x,z,l,r]):isL ks w h d=false:=by
 cases hl:isL ks w h d with
 | false=>rfl
 | true=>
  rcases lh hl with⟨r,e',h⟩ | ⟨r,e',h⟩
  ·rw[e]at e';cases e';simp at h
  ·rw[e]at e';cases e';simp at h
theorem Bt.no{d:PyData}(hb:Bt d):∀(b:Int)(ks:OI Kd)(w h:Int),isT b ks w h d=false:=by
 induction hb with
 | @norow d e=>
  intro b ks w h;cases hc:isC b w h d with
  | true=>obtain⟨dn,p,l,r,e',_⟩:=eC (ks:=ks) hc;rw[e]at e';cases e'
  | false=>
   rw[cJ hc];cases hl:isL ks w h d with
   | false=>rfl
   | true=>rcases lh hl with⟨r,e',_⟩ | ⟨r,e',_⟩ <;> rw[e]at e' <;> cases e'
 | @head d ds e hh=>
  intro b ks w h;cases hc:isC b w h d with
  | true=>
   obtain⟨dn,p,l,r,e',_⟩:=eC (ks:=ks) hc;rw[e]at e';cases e';have:=hh _ _ rfl;cases dn with
   | true=>exact absurd rfl (this.1 rfl)
   | false=>exact absurd rfl (this.2.1 rfl)
  | false=>
   rw[cJ hc];cases hl:isL ks w h d with
   | false=>rfl
   | true=>
    rcases lh hl with⟨r,e',h⟩ | ⟨r,e',h⟩
    ·rw[e]at e';cases e';exact absurd ⋯ ((hh _ _ rfl).2.2.1 rfl)
    ·rw[e]at e';cases e';exact absurd ⋯ ((hh _ _ rfl).2.2.2 rfl)
 | @size d x z l r e hz=>
  intro b ks w h;cases hc:isC b w h d with
  | true=>
   obtain⟨dn,p,l,r,e',p1,_⟩:=eC (ks:=ks) hc;rw[e]at e';cases e';rw[show whD (.int p) 1=true from OO p1]at hz;cases hz
  | false=>rw[cJ hc];exact jf e
 | @left d x z l r e _ ih=>
  intro b ks w h;cases hc:isC b w h d with
  | true=>
   obtain⟨dn,p,l',r',e',p1,_,_,e2⟩:=eC (ks:=ks) hc;rw[e]at e';cases e';rw[e2,ih,ih]
   split <;> rfl
  | false=>rw[cJ hc];exact jf e
 | @right d x z l r e _ ih=>
  intro b ks w h;cases hc:isC b w h d with
  | true=>
   obtain⟨dn,p,l',r',e',p1,_,_,e2⟩:=eC (ks:=ks) hc;rw[e]at e';cases e';rw[e2,ih,ih,J3,J3]
   split <;> rfl
  | false=>rw[cJ hc];exact jf e
theorem vw{x z l r:PyData}{ds:OI PyData}(h:Lsds [x,z,l,r] ds):∃x' z' l' r',ds=[x',z',l',r']/\Lsd x x'/\Lsd z z'/\Lsd l l'/\Lsd r r':=by
 cases h with
 | cons h0 h=>cases h with
  | cons h1 h=>cases h with
   | cons h2 h=>cases h with
    | cons h3 h=>cases h;exact%[_,_,_,_,O,h0,h1,h2|h3]
theorem Bt.lsd{d:PyData}(hb:Bt d):∀{d':PyData},Lsd d d'->Bt d':=by
 induction hb with
 | @norow d e=>
  intro d' h;rcases bP h with⟨_,rfl⟩ | ⟨ds,ds',e',_⟩
  ·exact .norow e
  ·rw[e]at e';cases e'
 | @head d ds e hh=>
  intro d' h;rcases bP h with⟨_,rfl⟩ | ⟨ds2,ds',e2,e',r⟩
  ·exact .head e hh
  ·rw[e]at e2;cases e2;refine .head e' λ y r' ey=>?_;subst ey;cases r with
   | @cons x _ xs _ hx r=>
    have rl:=r.length;cases hx with
    | same _=>
     have:=hh _ _ rfl;rw[rl];exact this
 | @size d x z l r e hz=>
  intro d' h;rcases bP h with⟨_,rfl⟩ | ⟨ds2,ds',e2,e',r⟩
  ·exact .size e hz
  ·rw[e]at e2;cases e2;obtain⟨x',z',l',r',rfl,h0,h1,h2,h3⟩:=vw r;exact .size e' (by rw[qd h1];exact hz)
 | @left d x z l r e _ ih=>
  intro d' h;rcases bP h with⟨_,rfl⟩ | ⟨ds2,ds',e2,e',r⟩
  ·exact .left e (ih (.same _))
  ·rw[e]at e2;cases e2;obtain⟨x',z',l',r',rfl,h0,h1,h2,h3⟩:=vw r;exact .left e' (ih h2)
 | @right d x z l r e _ ih=>
  intro d' h;rcases bP h with⟨_,rfl⟩ | ⟨ds2,ds',e2,e',r⟩
  ·exact .right e (ih (.same _))
  ·rw[e]at e2;cases e2;obtain⟨x',z',l',r',rfl,h0,h1,h2,h3⟩:=vw r;exact .right e' (ih h3)
theorem dp4{d0 d1 d2 d3:PyData}{D:Nat}(h0:d0.depth<=D)(h1:d1.depth<=D)(h2:d2.depth<=D)(h3:d3.depth<=D):(PyData.tuple [d0,d1,d2,d3]).depth<=D+1:=K9 (Nat.max_le.mpr %[h0|Nat.max_le.mpr %[h1|Nat.max_le.mpr %[h2|Nat.max_le.mpr %[h3|E6 _]]]])
theorem li{d:PyData}{z:Str}{r:OI PyData}(e:aI d=some (.str z :: r))(h:(z = "rest" /\ r.length≠0)\/(z = "piece" /\ r.length≠4)):Bt d:=by
 refine .head e λ y r' ey=>?_;cases ey;rcases h with⟨rfl,h⟩ | ⟨rfl,h⟩
 ·exact%[λ z=>absurd z ∅,λ z=>absurd z ∅,λ z=>absurd z ∅|λ _=>h]
 ·exact%[λ z=>absurd z ∅,λ z=>absurd z ∅,λ _=>h|λ z=>absurd z ∅]
theorem xF{d a b c:PyData}{z:Str}(e:aI d=some [.str z,a,b,c])(h1:z ≠ "down")(h2:z ≠ "across"):Bt d:=by refine .head e λ y r' ey=>?_;cases ey;exact%[λ z=>absurd z h1,λ z=>absurd z h2,λ _=>by show 3≠4;decide|λ _=>by show 3≠0;decide]
theorem gT:∀t:Tr,wt (toD t)<=11 * szT t
 | .rest=>∅
 | .piece ..=>by
  have:wt (.str "piece")=6:=∅
  show wt (.str "piece")+(1+(1+(1+(1+0))))+1<=11 * 1;lia
 | .cut dn p l r=>by
  have h1:=gT l;have h2:=gT r;have h3:wt (.str (if dn=true then "down" else "across"))<=7:=by cases dn <;> decide +kernel
  show wt (.str (if dn=true then "down" else "across"))+(1+(wt (toD l)+(wt (toD r)+0)))+1<=11 * (szT l+szT r+1);lia
theorem nN:∀t:Tr,(toD t).depth=dT t+1
 | .rest=>∅
 | .piece ..=>by show max 0 (max 0 (max 0 (max 0 (max 0 0))))+1=1;decide
 | .cut dn p l r=>by show max 0 (max 0 (max (toD l).depth (max (toD r).depth 0)))+1=max (dT l) (dT r)+1+1;rw[nN l,nN r,M6,M6,N1,Nat.succ_max_succ]
theorem vy{H:Hp}{T:Tr}{v:V}(h:TrV H T v):(∃(a:OE)(z:Str)(ys:OI V)(es:OI PyData),v=.ref a/\H a= ~~~(.str z :: ys)/\((z = "rest" /\ es.length=0)\/(z = "piece" /\ es.length=4))/\toD T=.tuple (.str z :: es))\/∃(a:OE)(dn:Bool)(p:Int)(l r:Tr)(x y:V),T=.cut dn p l r/\v=.ref a/\H a=some (.tup [.str (if dn=true then "down" else "across"),.int p,x,y])/\TrV H l x/\TrV H r y:=by
 cases T with
 | rest=>obtain⟨a,e,h⟩:=h;exact .inl %[a,_,_,_,e,h,.inl %[O|O]|O]
 | piece i c x y=>obtain⟨a,e,h⟩:=h;exact .inl %[a,_,_,_,e,h,.inr %[O|O]|O]
 | cut dn p l r=>obtain⟨a,x,y,e,h1,h2,h3⟩:=h;exact .inr %[a,dn,p,l,r,x,y,O,e,h1,h2|h3]
theorem zT:∀d∈[PyData.int 0,.int (-1),.none,.bool true,.str "1"],wt d<=2/\d.depth=0/\whD d 1=false:=by simp only[M7];exact%[%[∅,O|∅],%[∅,O|∅],%[∅,O|∅],%[∅,O|∅],%[∅,O|∅]|λ _ h=>by cases h]
theorem xG:∀d∈[PyData.none,.str "",.str "up",.str "downs",.str "dow",.str "acros",.str "across ",.str "Down",.str "rest",.str "d"],wt d<=8/\d.depth=0/\(d=.none\/∃z:Str,d=.str z/\z ≠ "down" /\ z ≠ "across"):=by simp only[M7];exact%[%[∅,O|.inl trivial],%[∅,O|.inr %[_,O,∅|∅]],%[∅,O|.inr %[_,O,∅|∅]],%[∅,O|.inr %[_,O,∅|∅]],%[∅,O|.inr %[_,O,∅|∅]],%[∅,O|.inr %[_,O,∅|∅]],%[∅,O|.inr %[_,O,∅|∅]],%[∅,O|.inr %[_,O,∅|∅]],%[∅,O|.inr %[_,O,∅|∅]],%[∅,O|.inr %[_,O,∅|∅]]|λ _ h=>by cases h]
section
variable{P:F6}{w:F8}{K:C4}{mg:Str->OG F9}{base:Heap}
inductive spTrS(n:Nat)(vs:OI V)(H:Hp)(Q:VK)(E_:XK):Prop
|mk(p:OE)(v:V)(T:Tr)(_:vs=[.ref p,v])(_:PotC H p)(_:TrV H T v)(_:dT T < n)(_:∀(v':V)(d:PyData)(H':Hp),Dt p H' v' d->Bt d->wt d<=wt (toD T)+20->d.depth<=(toD T).depth->PotC H' p->But p H H'->Q v' H')
theorem sctrs:FnScope ["_law_pot_here","_law_tree_here","_law_way","_law_size","_law_first","_law_second","_law_turn","_law_words"] ["_law_pot_here","_law_tree_here"] (defScope cg):=%[O,O,O,∅,O,∅|∅]
theorem zU{f:OE}{fd:F7}(F:Fun K "_law_tree_spoilt" "_law_tree_spoilt" cg f fd)(B:Blt mg)(n:Nat)(DD:Dn P w K mg base "_law_take" ["_law_pot_here","_law_many"] 1 (spTake))(DS:Dn P w K mg base "_law_tree_spoilt" ["_law_pot_here","_law_tree_here"] (2+n) (spTrS n)):FnOk P w K mg base CX0 (2+(n+1)) f fd ["_law_pot_here","_law_tree_here"] (spTrS (n+1)):=by
 refine F.ok sctrs (λ vs H Q E h=>?_) (λ cdv A outer s H vs Q E hr h=>?_)
 ·obtain⟨p,v,T,rfl,_⟩:=h
  rfl
 obtain⟨p,v,T,rfl,pt,tv,dn0,q⟩:=h;have nd:=sctrs.nd;refine%[_,(((@ay _ _ _ _ _ _ _ _ gF ((pv 1)&&&ix_tup&&&ae) (@ar _ _ _ _ _ (aJ^^^(aJ^^^ad))) O)<|>(((@aQ _ _ _ _ ((@aT _ _ _ _ _ _ _ _ _ _ bz (pv 1) bi (aW (@iB _ _ _ _ _ _ fO ae)))^^^(((pv 1)|||bE|||(@ar _ _ _ _ _ (ae^^^ad)))^^^(dR^^^(aJ^^^ad)))))&&&ix_list&&&(@ah _ _ _ _ _ _ _ _ _ _ DD (hr.mono (show 1<=2+n by lia)) O ((pv 0)^^^(ae^^^ad)) ∅ O O))⁻¹)<|>az)<<<((@bL _ _ _ _ _ _ (pv 1) (bC O (2•(3•(4•(5•aV))))) O O O)<<<((6∣(@ah _ _ _ _ _ _ _ _ _ _ DD (hr.mono (show 1<=2+n by lia)) O ((pv 0)^^^(ae^^^ad)) ∅ O O))<<<((((pv 6)<*>bc<*>ae)<|>((@ar _ _ _ _ _ ((pv 2)^^^(((@aQ _ _ _ _ (ae^^^((@iB _ _ _ _ _ _ fO ae)^^^(dR^^^(bF^^^(aJ^^^ad))))))&&&ix_list&&&(@ah _ _ _ _ _ _ _ _ _ _ DD (hr.mono (show 1<=2+n by lia)) O ((pv 0)^^^(ae^^^ad)) ∅ O O))^^^((pv 4)^^^((pv 5)^^^ad)))))⁻¹)<|>az)<<<((((pv 6)<*>bc<*>ae)<|>((7∣(@aQ _ _ _ _ (dR^^^(aJ^^^(aJ^^^(aJ^^^(aJ^^^(aJ^^^(aJ^^^(aJ^^^(aJ^^^(aJ^^^ad))))))))))))<<<((@ar _ _ _ _ _ (((pv 7)&&&ix_list&&&(@ah _ _ _ _ _ _ _ _ _ _ DD (hr.mono (show 1<=2+n by lia)) O ((pv 0)^^^(ae^^^ad)) ∅ O O))^^^((pv 3)^^^((pv 4)^^^((pv 5)^^^ad)))))⁻¹))<|>az)<<<((((pv 6)<*>bc<*>ae)<|>((@ar _ _ _ _ _ ((pv 2)^^^((pv 3)^^^((DS∪((pv 0)^^^((pv 4)^^^ad)))^^^((pv 5)^^^ad)))))⁻¹)<|>az)<<<((@ar _ _ _ _ _ ((pv 2)^^^((pv 3)^^^((pv 4)^^^((DS∪((pv 0)^^^((pv 5)^^^ad)))^^^ad)))))⁻¹)))))))|?_];dsimp only[bW];have sz:(1000:Nat) < sizeLine:=∅
 have e60:(100:Int) < 10 ^ 60:=∅
 rcases vy tv with⟨a,z,ys,es,rfl,ha,hz,et⟩ | ⟨a,dn,z,l,r,x,y,rfl,rfl,ha,hl,hr2⟩
 ·refine bO (λ σ' H'=>False) (λ R hR=>?_) (λ _ _ z=>z.elim);rw[et]at q;have D0:Dt p H (.ref a) (.tuple (.str z :: es)):=by have:=TrV.dt (p:=p) T tv;rw[et]at this;exact this
  obtain⟨a',xs',e',ha',D0⟩:=D0.tupD;cases e';rw[ha]at ha';cases ha';have xl:ys.length+1=es.length+1:=D0.length;refine%[_,O,a,_,0,_,O,O,G1 ha,aE (E3 _) rfl,zS2|λ e0 he0=>?_];refine bj he0 pt But.refl' λ H1 k1 n1 s1 b1 pt1=>?_;refine%[e0,_,O,.inr (G1 k1),O,O,_,O|?_];rw[show inV (V.str z) [V.str "rest",V.str "piece"]=true by rcases hz with⟨rfl,_⟩ | ⟨rfl,_⟩ <;> decide +kernel];refine aH ?_;have ha1:=bS b1 pt ha;refine%[_,O,_,O,_,O,a,_,O,ha1|λ t2 H2 k2 s2=>?_];rw[rB,show ys.length=es.length by lia]at k2;have pt2:=pt1.same s2;have b02:But p H H2:=λ c o n e=>s2 _ _ (b1 _ _ n e);refine%[_,O,zS1|λ t3 ht3=>?_];refine bj ht3 pt2 b02 λ H3 k3 n3 s3 b3 pt3=>?_;refine⟨a,t3,_,_,O,O,s3 _ _ (s2 _ _ ha1),k3,by rw[I9];show _+1+1<=_;rcases hz with⟨_,h⟩ | ⟨_,h⟩ <;> lia,λ t4 H4 c4 k4=>?_⟩;have s4:=ci c4;have b4:But p H H4:=λ c o n e=>s4 _ _ (b3 _ _ n e);have pt4:=pt3.same s4;have D4:=D0.but (bR pt) b4;have g1:Dt p H4 (.ref t2) (.tuple ((PyData.str z :: es).take es.length)):=.tup (s4 _ _ (s3 _ _ k2)) (D4.take es.length);have g2:Dt p H4 (.ref t4) (.tuple ((PyData.str z :: es) ++ [.int 0])):=.tup k4 (D4.app (.cons (.int 0) .nil));refine%[zS4|λ l5 hl5=>?_];refine bj hl5 pt4 b4 λ H5 k5 n5 s5 b5 pt5=>?_;refine%[_,O,p,4,O,pt5,∅,∅|λ r H6 r0 r1 pt6 b6=>?_];have hl6:=b6 _ _ n5 k5;have g1':=(g1.same s5).but (bR pt5) b6;have g2':=(g2.same s5).but (bR pt5) b6;have hwt:wt (.tuple (.str z :: es))=wts (.str z :: es)+1:=rfl;have hdp:(PyData.tuple (.str z :: es)).depth=PyData.depthAll (.str z :: es)+1:=rfl;have wr:wt (.str "rest")=5:=∅
  have:r=0\/r=1\/r=2\/r=3:=⋯
  rcases this with rfl | rfl | rfl | rfl
  ·refine%[l5,_,_,_,O,O,G2 hl6,O|q _ _ H6 g1' ?_ ?_ ?_ pt6 (b5.trans b6)]
   ·rcases hz with⟨rfl,h⟩ | ⟨rfl,h⟩
    ·rw[h];exact .head rfl λ y r e=>by cases e
    ·rw[h];exact li rfl (.inr %[O|by rw[J2,h];decide])
   ·have:=nL es.length (PyData.str z :: es);show wts _+1<=_;lia
   ·have:=ma (ds:=(PyData.str z :: es).take es.length) λ d hd=>fc (M0 hd);show PyData.depthAll _+1<=_;lia
  ·refine%[l5,_,_,_,O,O,G2 hl6,O|q _ _ H6 g2' ?_ ?_ ?_ pt6 (b5.trans b6)]
   ·refine li (z:=z) (r:=es ++ [.int 0]) rfl ?_;rw[G5,K6];rcases hz with⟨rfl,h⟩ | ⟨rfl,h⟩
    ·exact .inl %[O|⋯]
    ·exact .inr %[O|⋯]
   ·show wts _+1<=_;rw[cG];show _+(1+0)+1<=_;lia
   ·have:=ma (n:=PyData.depthAll (PyData.str z :: es)) (ds:=(PyData.str z :: es) ++ [.int 0]) λ d hd=>by
     rcases C2.mp hd with hd | hd
     ·exact fc hd
     ·rw[C9.mp hd];exact E6 _
    show PyData.depthAll _+1<=_;lia
  ·exact%[l5,_,_,_,O,O,G2 hl6,O|q _ _ H6 .non (.norow rfl) (by show 1<=_;lia) (E6 _) pt6 (b5.trans b6)]
  ·exact%[l5,_,_,_,O,O,G2 hl6,O|q _ _ H6 (.str _) (.norow rfl) ⋯ (E6 _) pt6 (b5.trans b6)]
 have dl:=TrV.dt (p:=p) l hl;have dr:=TrV.dt (p:=p) r hr2;have hwt:wt (toD (.cut dn z l r))=wt (.str (if dn=true then "down" else "across"))+wt (toD l)+wt (toD r)+2:=by show wt (.str (if dn=true then "down" else "across"))+(1+(wt (toD l)+(wt (toD r)+0)))+1=_;lia
 obtain⟨D,hD,hDl,hDr⟩:∃D,(toD (.cut dn z l r)).depth=D+1/\(toD l).depth<=D/\(toD r).depth<=D:=%[_,O,C5 (Nat.le_max_left _ _) (C5 (N0 _ _) (N0 _ _))|C5 (C5 (Nat.le_max_left _ _) (N0 _ _)) (C5 (N0 _ _) (N0 _ _))]
 have dTs:=nv dn z l r;have w5:5<=wt (.str (if dn=true then "down" else "across")):=by cases dn <;> decide +kernel
 have four:∀{d0 d1 d2 d3:PyData},wt (.tuple [d0,d1,d2,d3])=wt d0+wt d1+wt d2+wt d3+1:=λ {d0 d1 d2 d3}=>by show wt d0+(wt d1+(wt d2+(wt d3+0)))+1=_;lia
 rw[hD]at q;refine aw (λ R=>∀(H':Hp),PotC H' p->But p H H'->R [↑p,↑a,none,none,none,none,none,none] H') (λ Dd hR=>?_) ?_
 ·refine%[_,O,a,_,0,_,O,O,G1 ha,aE (E3 _) rfl,zS2|λ e0 he0=>?_];refine bj he0 pt But.refl' λ H1 k1 n1 s1 b1 pt1=>?_;refine%[e0,_,O,.inr (G1 k1),O,O,_,O|?_];rw[show inV (V.str (if dn=true then "down" else "across")) [V.str "rest",V.str "piece"]=false by cases dn <;> decide +kernel];exact aM (hR _ pt1 b1)
 rintro H1 pt1 b1;refine aw (λ R=>R [↑p,↑a,some (.str (if dn=true then "down" else "across")),⇑z,some x,some y,none,none] H1) (λ Dd hR=>?_) ?_
 ·exact%[_,O,a,_,O,G1 (bS b1 pt ha),O,_,_,O,_,_,O,_,_,O,_,_,O,O|hR]
 skip
 refine aw (λ R=>∀(k:Nat)(H':Hp),k < 4->PotC H' p->But p H H'->R [↑p,↑a,some (.str (if dn=true then "down" else "across")),⇑z,some x,some y,⇑(k:Int),none] H') (λ Dd hR=>?_) ?_
 ·refine%[_,O,p,4,O,pt1,∅,∅|λ r H3 r0 r1 pt3 b3=>?_];obtain⟨k,rfl⟩:=K3 r0;exact hR k _ ⋯ pt3 (b1.trans b3)
 rintro k H3 k5 pt3 b3;have kk:∀j:Int,(k:Int)≠j->decide (V.int (k:Int)=V.int j)=false:=λ j z=>B0 (λ e=>z (V.int.inj e));refine bf (λ R=>k≠0->R [↑p,↑a,some (.str (if dn=true then "down" else "across")),⇑z,some x,some y,⇑(k:Int),none] H3) (λ R hR=>?_) ?_
 ·refine%[_,O,O,_,O|?_]
  by_cases c:k=0
  ·subst c;refine aH ?_;refine%[_,O,_,O,zS5|λ l4 hl4=>?_];refine bj hl4 pt3 b3 λ H4 k4 n4 s4 b4 pt4=>?_;refine%[_,O,p,5,O,pt4,∅,∅|λ j H5 j0 j1 pt5 b5=>?_];have hl5:=b5 _ _ n4 k4;have b05:=b4.trans b5;have D5:Dts p H5 [V.int 0,.int (-1),.non,.bl true,.str "1"] [.int 0,.int (-1),.none,.bool true,.str "1"]:=(.cons (.int _) (.cons (.int _) (.cons (.non) (.cons (.bl _) (.cons (.str _) .nil)))))
   obtain⟨x9,dx,hx',hdx,mx⟩:=D5.pick j0 j1;obtain⟨wx,px,nx⟩:=zT dx mx;refine%[l4,_,_,_,O,O,G2 hl5,hx',_,O,_,O,zS4|λ t6 ht6=>?_];refine bj ht6 pt5 b05 λ H6 k6 n6 s6 b6 pt6=>?_;have f1:=four (d0:=.str (if dn=true then "down" else "across")) (d1:=dx) (d2:=toD l) (d3:=toD r);exact q _ (.tuple [.str (if dn=true then "down" else "across"),dx,toD l,toD r]) H6 (.tup k6 (.cons (.str _) (.cons (hdx.same s6) (.cons (dl.but (bR pt) b6) (.cons (dr.but (bR pt) b6) .nil))))) (.size rfl nx) ⋯ (dp4 (E6 _) (px ▸ E6 _) hDl hDr) pt6 b6
  ·rw[kk 0 ⋯];exact aM (hR c)
 rintro c0;refine bO (λ σ' H'=>σ'=[↑p,↑a,some (.str (if dn=true then "down" else "across")),⇑z,some x,some y,⇑(k:Int),none]/\H3=H'/\k≠1) (λ R hR=>?_) ?_
 ·refine%[_,O,O,_,O|?_]
  by_cases c:k=1
  ·subst c;refine aH ?_;refine aw (λ R=>∀(l:OE)(H':Hp),l≠p->H' l=some (.lst [.non,.str "",.str "up",.str "downs",.str "dow",.str "acros",.str "across ",.str "Down",.str "rest",.str "d"])->PotC H' p->But p H H'->R [↑p,↑a,some (.str (if dn=true then "down" else "across")),⇑z,some x,some y,⇑((1:Nat):Int),↑l] H') (λ Dd hR=>?_) ?_
   ·refine%[zS10|λ l hl=>?_];refine bj hl pt3 b3 λ H5 k5 n5 s5 b5 pt5=>?_;exact hR l _ n5 k5 pt5 b5
   rintro l4 H4 nl hl4 pt4 b4;refine%[_,O,_,O,p,10,O,pt4,∅,∅|λ j H5 j0 j1 pt5 b5=>?_];have hl5:=b5 _ _ nl hl4;have b05:=b4.trans b5;have D5:Dts p H5 [.non,.str "",.str "up",.str "downs",.str "dow",.str "acros",.str "across ",.str "Down",.str "rest",.str "d"] [.none,.str "",.str "up",.str "downs",.str "dow",.str "acros",.str "across ",.str "Down",.str "rest",.str "d"]:=.cons .non (.cons (.str _) (.cons (.str _) (.cons (.str _) (.cons (.str _) (.cons (.str _) (.cons (.str _) (.cons (.str _) (.cons (.str _) (.cons (.str _) .nil)))))))));obtain⟨x9,dx,hx',hdx,mx⟩:=D5.pick j0 j1;obtain⟨wx,px,nx⟩:=xG dx mx;refine%[l4,_,_,_,O,O,G2 hl5,hx',_,O,_,O,_,O,zS4|λ t6 ht6=>?_];refine bj ht6 pt5 b05 λ H6 k6 n6 s6 b6 pt6=>?_;have f1:=four (d0:=dx) (d1:=.int z) (d2:=toD l) (d3:=toD r);have wi:wt (.int z)=1:=rfl;refine q _ (.tuple [dx,.int z,toD l,toD r]) H6 (.tup k6 (.cons (hdx.same s6) (.cons (.int _) (.cons (dl.but (bR pt) b6) (.cons (dr.but (bR pt) b6) .nil))))) ?_ ⋯ (dp4 (px ▸ E6 _) (E6 _) hDl hDr) pt6 b6;rcases nx with rfl | ⟨z9,rfl,h1,h2⟩
   ·exact .head rfl λ y r e=>by cases e
   ·exact xF rfl h1 h2
  ·rw[kk 1 ⋯];exact aM (hR _ _ %[rfl,rfl|c])
 rintro _ _ ⟨rfl,rfl,c1⟩;refine bf (λ R=>k≠2->R [↑p,↑a,some (.str (if dn=true then "down" else "across")),⇑z,some x,some y,⇑(k:Int),none] H3) (λ R hR=>?_) ?_
 ·refine%[_,O,O,_,O|?_]
  by_cases c:k=2
  ·subst c;refine aH ?_;refine%[_,O,_,O,_,O,_,O,p,x,l,O,pt3,TrV.keep (λ c ys e=>bS b3 pt e) l hl,⋯|λ v d H4 hd bt wd dd pt4 b4=>%[_,O,zS4|λ t6 ht6=>?_]];refine bj ht6 pt4 (b3.trans b4) λ H6 k6 n6 s6 b6 pt6=>?_;have f1:=four (d0:=.str (if dn=true then "down" else "across")) (d1:=.int z) (d2:=d) (d3:=toD r);have wi:wt (.int z)=1:=rfl;exact q _ (.tuple [.str (if dn=true then "down" else "across"),.int z,d,toD r]) H6 (.tup k6 (.cons (.str _) (.cons (.int _) (.cons (hd.same s6) (.cons (dr.but (bR pt) b6) .nil))))) (.left rfl bt) ⋯ (dp4 (E6 _) (E6 _) (C5 dd hDl) hDr) pt6 b6
  ·rw[kk 2 ⋯];exact aM (hR c)
 rintro c2;refine%[_,O,_,O,_,O,_,O,_,O,p,y,r,O,pt3,TrV.keep (λ c ys e=>bS b3 pt e) r hr2,⋯|λ v d H4 hd bt wd dd pt4 b4=>%[zS4|λ t6 ht6=>?_]];refine bj ht6 pt4 (b3.trans b4) λ H6 k6 n6 s6 b6 pt6=>?_;have f1:=four (d0:=.str (if dn=true then "down" else "across")) (d1:=.int z) (d2:=toD l) (d3:=d);have wi:wt (.int z)=1:=rfl;exact q _ (.tuple [.str (if dn=true then "down" else "across"),.int z,toD l,d]) H6 (.tup k6 (.cons (.str _) (.cons (.int _) (.cons (dl.but (bR pt) b6) (.cons (hd.same s6) .nil))))) (.right rfl bt) ⋯ (dp4 (E6 _) (E6 _) hDl (C5 dd hDr)) pt6 b6
theorem xH{f:OE}{fd:F7}(F:Fun K "_law_tree_spoilt" "_law_tree_spoilt" cg f fd):FnOk P w K mg base CX0 2 f fd ["_law_pot_here","_law_tree_here"] (spTrS 0):=by
 refine F.ok sctrs (λ vs H Q E h=>?_) (λ cdv A outer s H vs Q E hr h=>?_)
 ·obtain⟨p,v,t,rfl,_⟩:=h
  rfl
 ·obtain⟨p,v,t,rfl,_,_,z,_⟩:=h;exact absurd z (E7 _)
theorem qk{f:OE}{fd:F7}(F:Fun K "_law_tree_spoilt" "_law_tree_spoilt" cg f fd)(B:Blt mg)(DD:Dn P w K mg base "_law_take" ["_law_pot_here","_law_many"] 1 (spTake))(mk:∀n,FnOk P w K mg base CX0 (2+n) f fd ["_law_pot_here","_law_tree_here"] (spTrS n)->Dn P w K mg base "_law_tree_spoilt" ["_law_pot_here","_law_tree_here"] (2+n) (spTrS n)):∀n,FnOk P w K mg base CX0 (2+n) f fd ["_law_pot_here","_law_tree_here"] (spTrS n)
 | 0=>xH F
 | n+1=>zU F B n DD (mk n (qk F B DD mk n))
end
theorem me{b:Int}{ks:OI Kd}:∀(t:Tr){w h:Int},okU b ks w h t->okT b ks w h t
 | .rest,_,_,_=>trivial
 | .piece i c x y,w,h,⟨k,hk,hm,x0,y0,hx,hy⟩=>by
  refine%[k,hk,?_,x0,y0,hx|hy];obtain⟨_,k',hk',hc⟩:=kS hm;have hk':ks[i]?=some k':=hk';rw[hk]at hk';cases hk';unfold pR;rcases hc with hc | hc
  ·have hc:c=false:=hc;rw[hc]
   split <;> simp
  ·rw[OR hc];cases c <;> simp
 | .cut true p l r,w,h,⟨p1,hp,hl,hr⟩=>%[p1,hp,me l hl|me r hr]
 | .cut false p l r,w,h,⟨p1,hp,hl,hr⟩=>%[p1,hp,me l hl|me r hr]
def vz:Nat->Str
 | 0=>"plate"
 | 1=>"telling"
 | _=>"tree"
section
variable{P:F6}{w:F8}{K:C4}{mg:Str->OG F9}{base:Heap}
theorem FnH.or{k:Nat}{f:OE}{fd:F7}{ps:OI Str}{sp sp':Sp}(a:FnH P w K mg base k f fd ps sp)(b:FnH P w K mg base k f fd ps sp') :
  FnH P w K mg base k f fd ps (λ vs H Q E=>sp vs H Q E\/sp' vs H Q E) :=
 %[λ vs H Q E h=>h.elim (a.len vs H Q E) (b.len vs H Q E)|λ A outer s H args us vs Q E hr e0 hb r hsp=>hsp.elim (a.run A outer s H args us vs Q E hr e0 hb r) (b.run A outer s H args us vs Q E hr e0 hb r)]
theorem zV:bootBuiltins "ValueError" = some (.type "ValueError"):=∅
structure Cl(mg:Str->OG Value)(x0 x1 x2 x3 x4 x5 x6 x7 x8 x9 x10 x11 x12:OE):Prop where
 m0:mg "NoPlate" = ↑x0
 m1:mg "NoTelling" = ↑x1
 m2:mg "NoTree" = ↑x2
 m3:mg "NoBlade" = ↑x3
 m4:mg "NoKind" = ↑x4
 m5:mg "NoKinds" = ↑x5
 m6:mg "NoLaying" = ↑x6
 m7:mg "NoLying" = ↑x7
 m8:mg "NoNumber" = ↑x8
 m9:mg "NoTable" = ↑x9
 m10:mg "NoText" = ↑x10
 m11:mg "NoWeights" = ↑x11
 m12:mg "TooLarge" = ↑x12
 mv:mg "ValueError" = none
structure Ec(K:C4)(CE c x0 x1 x2 x3 x4 x5 x6 x7 x8 x9 x10 x11 x12:OE)(i:Nat):Prop where
 F0:ExK K c
 k0:PySem.W.kitOne K (.ref c) (.ref x0)=some (decide (i=0))
 k1:PySem.W.kitOne K (.ref c) (.ref x1)=some (decide (i=1))
 k2:PySem.W.kitOne K (.ref c) (.ref x2)=some (decide (i=2))
 kv:PySem.W.kitOne K (.ref c) (.type "ValueError")=some true
 a1:PySem.W.kitAny K (.ref c) [.ref x3,.ref x4,.ref x5,.ref x6,.ref x7,.ref x8,.ref x9,.ref x10]=some false
 a2:PySem.W.kitAny K (.ref c) [.ref x11,.ref x12]=some false
 xm:PySem.W.exmOne K (.ref c) (.ref CE)=some true
def ql(c:OE)(ans:Str):Sp:=λ vs H Q _=>∃a,vs=[.ref a]/\H a=some (.ext (IsA a (.ref c)))/\∀H',Same H H'->Q (.str ans) H'
inductive spSaid(K:C4)(C:OE)(vs:OI V)(H:Hp)(Q:VK)(E_:XK):Prop
|mk(r:Int)(s:OE)(wv hv v:V)(_:vs=[.int r,.ref s,wv,hv,v])(_:((qb K H wv hv/\∀H',Same H H'->Q (.str "plate") H')\/(∃(pp:OE)(b w h:Int)(ks:OI Kd)(d:PyData),r=0/\wv=.int w/\hv=.int h/\1<=w/\1<=h/\ShopAt C H s b ks/\Dt pp H v d/\Wd d/\d.depth<=150/\∀H',Same H H'->Q (.str (if (rdT b ks 151 w h d).isSome=true then "told" else "telling")) H')\/(∃(pp:OE)(b w h:Int)(ks:OI Kd)(d:PyData),r≠0/\wv=.int w/\hv=.int h/\1<=w/\1<=h/\ShopAt C H s b ks/\Dt pp H v d/\wt d<=30000/\isT b ks w h d=false/\∀H',Same H H'->Q (.str "tree") H')\/∃(b w h:Int)(ks:OI Kd)(t:Tr),r≠0/\wv=.int w/\hv=.int h/\1<=w/\1<=h/\ShopAt C H s b ks/\TrV H t v/\okU b ks w h t/\lvN t<=63/\dT t < 50/\∀H',Same H H'->Q (.str "told") H'))
theorem scclass:FnScope ["_law_e","_law_kinds","_law_others"] ["_law_e"] (defScope kR):=%[O,O,O,∅,O,∅|∅]
theorem jg{f c CE x0 x1 x2 x3 x4 x5 x6 x7 x8 x9 x10 x11 x12:OE}{i:Nat}{fd:F7}(F:Fun K "_law_class" "_law_class" kR f fd)(B:Blt mg)(Z:Cl mg x0 x1 x2 x3 x4 x5 x6 x7 x8 x9 x10 x11 x12)(Y:Ec K CE c x0 x1 x2 x3 x4 x5 x6 x7 x8 x9 x10 x11 x12 i)(i3:i < 3):FnH P w K mg base 1 f fd ["_law_e"] (ql c (vz i)):=by
 refine zj F scclass (λ vs H Q E h=>?_) (λ cdv A outer s H vs Q E hr h=>?_)
 ·obtain⟨a,rfl,_⟩:=h
  rfl
 obtain⟨a,rfl,ha,q⟩:=h;have nd:=scclass.nd;refine%[_,((1∣(@aQ _ _ _ _ ((@aA _ _ _ _ _ _ _ _ _ (cT Y.F0) O B.isi OP ((pv 0)^^^((aP (v:=.ref x0) O Z.m0 O)^^^ad)) ∅ ∅ O O)^^^((@aA _ _ _ _ _ _ _ _ _ (cT Y.F0) O B.isi OP ((pv 0)^^^((aP (v:=.ref x1) O Z.m1 O)^^^ad)) ∅ ∅ O O)^^^((@aA _ _ _ _ _ _ _ _ _ (cT Y.F0) O B.isi OP ((pv 0)^^^((aP (v:=.ref x2) O Z.m2 O)^^^ad)) ∅ ∅ O O)^^^ad)))))<<<((2∣(@aA _ _ _ _ _ _ _ _ _ (fJ Y.F0) O B.isi OP ((pv 0)^^^((@ar _ _ _ _ _ ((aP (v:=.ref x3) O Z.m3 O)^^^((aP (v:=.ref x4) O Z.m4 O)^^^((aP (v:=.ref x5) O Z.m5 O)^^^((aP (v:=.ref x6) O Z.m6 O)^^^((aP (v:=.ref x7) O Z.m7 O)^^^((aP (v:=.ref x8) O Z.m8 O)^^^((aP (v:=.ref x9) O Z.m9 O)^^^((aP (v:=.ref x10) O Z.m10 O)^^^ad)))))))))^^^ad)) ∅ ∅ O O))<<<(((PW.pt (bn (@aO _ _ _ (pv 2) (by intro _;rfl)) (bn (@aO _ _ _ (@aA _ _ _ _ _ _ _ _ _ (fJ Y.F0) O B.isi OP ((pv 0)^^^((@ar _ _ _ _ _ ((aP (v:=.ref x11) O Z.m11 O)^^^((aP (v:=.ref x12) O Z.m12 O)^^^ad)))^^^ad)) ∅ ∅ O O) (by intro _;rfl)) (bn ((@fI _ _ _ _ _ _ _ _ _ _ _ _ F4 PySem.F.slot_list_count PySem.F.type_list_count qL (pv 1) (bF^^^ad) O O O O O)<*>cI<*>ae) (bG (@aS _ _ _ _ (@aO _ _ _ (@aA _ _ _ _ _ _ _ _ _ (cT Y.F0) O B.isi OP ((pv 0)^^^((bN (v:=.ty "ValueError") O Z.mv zV O)^^^ad)) ∅ ∅ O O) (by intro _;rfl))))))))<|>(aJ⁻¹)<|>az)<<<(((@aQ _ _ _ _ (aJ^^^(aJ^^^(aJ^^^ad))))&&&ix_list&&&(@fI _ _ _ _ _ _ _ _ _ _ _ _ F4 PySem.F.slot_list_index PySem.F.type_list_index qM (pv 1) (bF^^^ad) O O O O O))⁻¹))))|?_];refine%[_,O,a,_,_,_,O,ha,O,Y.k0,_,O,a,_,_,_,O,ha,O,Y.k1,_,O,a,_,_,_,O,ha,O,Y.k2,zS3|λ l hl=>?_];refine aU hl λ H1 k1 s1=>?_;refine%[_,O,zS8|λ t ht=>?_];refine aU ht λ H2 k2 s2=>?_;refine%[a,t,_,_,_,O,s2 _ _ (s1 _ _ ha),k2,O,Y.a1,_,O,_,O|aM ?_];refine%[_,O,zS2|λ u hu=>?_];refine aU hu λ H3 k3 s3=>?_;refine%[a,u,_,_,_,O,s3 _ _ (s2 _ _ (s1 _ _ ha)),k3,O,Y.a2,_,O|aM ?_];have s03:=s1.trans (s2.trans s3);have k13:=s3 _ _ (s2 _ _ k1);refine%[_,O,.inl %[O,_|G2 k13],l,_,_,_,O,O,k13|?_];rw[show(((if decide (i=0)=true then(1:Int)else 0)+(if decide (i=1)=true then 1 else 0))+(if decide (i=2)=true then 1 else 0))=1 by
  have:i=0\/i=1\/i=2:=⋯
  rcases this with rfl | rfl | rfl <;> rfl]
 refine%[O,_,O|aM ?_];refine%[_,O,a,_,_,_,O,(s03 _ _ ha),O,Y.kv,_,O|aM ?_];refine%[zS3|λ l2 hl2=>?_];refine aU hl2 λ H4 k4 s4=>?_;refine%[_,O,.inl %[O,_|G2 (s4 _ _ k13)],l,i,O,O,i3,s4 _ _ k13,l2,_,_,.str (vz i),O,O,G2 k4,?_|q H4 (s03.trans s4)];have:i=0\/i=1\/i=2:=⋯
 rcases this with rfl | rfl | rfl <;> rfl
theorem scsaid:FnScope ["_law_road","_law_made","_law_wide","_law_high","_law_thing","_law_said_here","_law_e"] ["_law_road","_law_made","_law_wide","_law_high","_law_thing"] (defScope pO):=%[O,O,O,∅,O,∅|∅]
theorem xI{f C CE x0 x1 x2 x3 x4 x5 x6 x7 x8 x9 x10 x11 x12:OE}{fd:F7}(F:Fun K "_law_said" "_law_said" pO f fd)(Y0:Ec K CE x0 x0 x1 x2 x3 x4 x5 x6 x7 x8 x9 x10 x11 x12 0)(Y1:Ec K CE x1 x0 x1 x2 x3 x4 x5 x6 x7 x8 x9 x10 x11 x12 1)(Y2:Ec K CE x2 x0 x1 x2 x3 x4 x5 x6 x7 x8 x9 x10 x11 x12 2)(mp:mg "PlateError" = ↑CE)(DW:DnH P w K mg base "_law_class" ["_law_e"] 1 (λ vs H Q E=>ql x0 (vz 0) vs H Q E\/ql x1 (vz 1) vs H Q E\/ql x2 (vz 2) vs H Q E))(DT1:DnX P w K mg base "tree_told" ["shop","wide","high","telling"] 160 (spTreeX K C x0 x1))(DT2:DnX P w K mg base "telling_of" ["shop","wide","high","tree"] 54 (λ vs H Q E=>spTellO C vs H Q E\/spRef K C x0 x2 vs H Q E)):FnOk P w K mg base CX0 161 f fd ["_law_road","_law_made","_law_wide","_law_high","_law_thing"] (spSaid K C):=by
 refine F.ok scsaid (λ vs H Q E h=>?_) (λ cdv A outer s0 H vs Q E hr h=>?_)
 ·obtain⟨r,s,wv,hv,v,rfl,_⟩:=h
  rfl
 obtain⟨r,s,wv,hv,v,rfl,h⟩:=h;have nd:=scsaid.nd;have hr1:=hr.mono (show 1<=160 by decide);refine%[_,((5∣aJ)<<<((wn (i:=6) O O O (zo ((pv 0)<*>bc<*>ae) (lK (eS DT1 hr O ((pv 1)^^^((pv 2)^^^((pv 3)^^^((pv 4)^^^ad)))))) (lK (eS DT2 (hr.mono ∅) O ((pv 1)^^^((pv 2)^^^((pv 3)^^^((pv 4)^^^ad))))))) nd O O O mp (λ ea=>(@ag _ _ _ (5∣(El DW (hr1.h _) O ((pv 6)^^^ad))))))<<<((pv 5)⁻¹)))|?_];dsimp only[bW];refine%[_,O,O,_,O|?_];rcases h with⟨bp,q⟩ | ⟨pp,b,w1,h1,ks,d,rfl,rfl,rfl,w0,h0,SH,hd,wd,d150,q⟩ | ⟨pp,b,w1,h1,ks,d,r0,rfl,rfl,w0,h0,SH,hd,wd,no,q⟩ | ⟨b,w1,h1,ks,t,r0,rfl,rfl,w0,h0,SH,tv,ok,l63,d50,q⟩
 ·refine cj (λ hz=>?_) (λ hz=>?_)
  ·refine%[_,O,_,O,_,O,_,O|?_];dsimp only[ji];exact%[s,wv,hv,v,O|.inl %[bp,Y0.xm|λ ea hea=>%[_,O|.inl %[ea,O,aj|λ H2 s2=>%[_,O|q H2 ((G0 hea).trans s2)]]]]]
  ·refine%[_,O,_,O,_,O,_,O|?_];dsimp only[ji];exact .inr (.pl bp %[Y0.xm|λ ea hea=>%[_,rfl|.inl %[ea,rfl,aj|λ H2 s2=>%[_,rfl|q H2 ((G0 hea).trans s2)]]]])
 ·refine cK (A9 rfl) %[_,rfl,_,rfl,_,rfl,_,rfl|?_];dsimp only[ji];refine%[s,_,_,v,O|.inr %[pp,b,w1,h1,ks,d,O,O,w0,h0,SH,hd,wd,d150,λ t et u H1 tr s1=>%[_,O|?_]|λ en H1 s1=>%[Y1.xm|λ ea hea=>%[_,O|.inr (.inl %[ea,O,aj|λ H2 s2=>%[_,O|?_]])]]]]
  ·have:=q H1 s1;rw[et]at this;exact this
  ·have:=q H2 (s1.trans ((G0 hea).trans s2));rw[en]at this;exact this
 ·refine cL (B0 λ e=>r0 (V.int.inj e)) %[_,rfl,_,rfl,_,rfl,_,rfl|?_];dsimp only[ji];exact .inr (.tr SH w0 h0 hd wd no λ H1 s1=>%[Y2.xm|λ ea hea=>%[_,O|.inr (.inr %[ea,O,aj|λ H2 s2=>%[_,O|q H2 (s1.trans ((G0 hea).trans s2))]])]])
 ·refine cL (B0 λ e=>r0 (V.int.inj e)) %[_,rfl,_,rfl,_,rfl,_,rfl|?_];dsimp only[ji];have h1':=gT t;have h2':=fC t;exact .inl %[s,s,b,w1,h1,ks,v,toD t,t,O,SH,w0,h0,TrV.dt t tv,⋯,TrD.to t,me t ok,l63,d50|λ u H1 _ s1=>%[_,O|q H1 s1]]
end
mutual
theorem Dt.datD{K:C4}{p:OE}{H:Hp}:∀{v:V}{d:PyData},Dt p H v d->DatD K H v d
 | _,_,.non=>.non
 | _,_,.bl b=>.bl b
 | _,_,.int i=>.int i
 | _,_,.str z=>.str z
 | _,_,.lst n h r=>.lst (G2 h) r.datD
 | _,_,.tup h r=>.tup (G1 h) r.datD
 | _,_,.emp h=>.dct (kv:=[]) h
theorem Dts.datD{K:C4}{p:OE}{H:Hp}:∀{vs:OI V}{ds:OI PyData},Dts p H vs ds->DatDs K H vs ds
 | _,_,.nil=>.nil
 | _,_,.cons a r=>.cons a.datD r.datD
end
theorem Lsds.mem{x:PyData}:∀{ds ds':OI PyData},Lsds ds ds'->x∈ds'->∃y∈ds,Lsd y x
 | _,_,.nil,h=>by cases h
 | _,_,.cons a r,h=>by
  rcases G6.mp h with e | h
  ·rw[e];exact%[_,B7|a]
  ·obtain⟨y,hy,l⟩:=Lsds.mem r h;exact%[y,B3 _ hy|l]
theorem Wd.lsd{d:PyData}(h:Wd d):∀{d':PyData},Lsd d d'->Wd d':=by
 induction h with
 | @mk d h1 h2 ih=>
  intro d' l;rcases bP l with⟨_,rfl⟩ | ⟨ds,ds',e,e',r⟩
  ·exact .mk h1 h2
  ·refine .mk (λ es z=>?_) λ es x z hx=>?_
   ·rw[e']at z;cases z;rw[r.length];exact h1 _ e
   ·rw[e']at z;cases z;obtain⟨y,hy,ly⟩:=r.mem hx;exact ih _ _ e hy ly
theorem qm{n:Nat}:∀{ds:OI PyData},(∀d∈ds,wt d<=n)->wts ds<=ds.length * n
 | [],_=>E6 _
 | d :: ds,h=>by have h1:=h d B7;have h2:=qm λ x hx=>h x (B3 _ hx);show wt d+wts ds<=(ds.length+1) * n;rw[Nat.add_mul];lia
theorem xJ{ds:OI PyData}{n:Nat}(h:∀d∈ds,Sz n 60 d)(hn:ds.length * n<=50000):(PyData.list ds).showable=true/\(PyData.list ds).depth<=64/\(PyData.list ds).shown.length<=sizeLine:=by
 obtain⟨h1,h3,h4⟩:=nJ λ d hd=>(h d hd).fx.sh;have:=listText_len_le (PyData.shownAll ds);have w:=qm λ d hd=>(h d hd).w;have dp:=ma λ d hd=>(h d hd).d;have sz:(10000000:Nat)<=sizeLine:=∅
 refine%[by simp only[PyData.showable,h1],by show PyData.depthAll ds+1<=64;lia|?_];simp only[PyData.shown];lia
structure LX(C p t kl x:OE)(b:Int)(ks:OI Kd)(v:V)(T:Tr)(H:Hp):Prop where
 ls:LS H t b ks kl
 sh:ShopAt C H x b ks
 tv:TrV H T v
 po:PotC H p
theorem LX.same{C p t kl x:OE}{b:Int}{ks:OI Kd}{v:V}{T:Tr}{H H':Hp}(h:LX C p t kl x b ks v T H)(s:Same H H'):LX C p t kl x b ks v T H' :=
 %[h.ls.same s,gj s h.sh,TrV.keep (λ a xs e=>s _ _ e) T h.tv|h.po.same s]
theorem vA{C p s:OE}{b':Int}{ks:OI Kd}{H H':Hp}(pt:PotC H p)(b:But p H H')(h:ShopAt C H s b' ks):ShopAt C H' s b' ks:=by obtain⟨_,hp⟩:=bR pt;exact h.keep (λ x xs e=>b _ _ (λ z=>by rw[z,hp]at e;cases e) e) (λ x C' d fs e=>b _ _ (λ z=>by rw[z,hp]at e;cases e) e)
theorem LX.but{C p t kl x:OE}{b:Int}{ks:OI Kd}{v:V}{T:Tr}{H H':Hp}(h:LX C p t kl x b ks v T H)(nk:kl≠p)(pt:PotC H' p)(bb:But p H H'):LX C p t kl x b ks v T H' :=
 %[h.ls.but nk h.po bb,vA h.po bb h.sh,TrV.keep (λ a xs e=>bS bb h.po e) T h.tv|pt]
structure LZ(C p t kl x th:OE)(b:Int)(ks:OI Kd)(v:V)(T:Tr)(vs:OI V)(ds:OI PyData)(H:Hp):Prop where
 lx:LX C p t kl x b ks v T H
 nt:th≠p
 hl:H th=↥vs
 dt:Dts p H vs ds
theorem LZ.same{C p t kl x th:OE}{b:Int}{ks:OI Kd}{v:V}{T:Tr}{vs:OI V}{ds:OI PyData}{H H':Hp}(h:LZ C p t kl x th b ks v T vs ds H)(s:Same H H'):LZ C p t kl x th b ks v T vs ds H' :=
 %[h.lx.same s,h.nt,s _ _ h.hl|h.dt.same s]
theorem LZ.but{C p t kl x th:OE}{b:Int}{ks:OI Kd}{v:V}{T:Tr}{vs:OI V}{ds:OI PyData}{H H':Hp}(h:LZ C p t kl x th b ks v T vs ds H)(nk:kl≠p)(pt:PotC H' p)(bb:But p H H'):LZ C p t kl x th b ks v T vs ds H' :=
 %[h.lx.but nk pt bb,h.nt,bb _ _ h.nt h.hl|h.dt.but (bR h.lx.po) bb]
theorem EB{w s l:Nat}(h1:w+7<=20 * s)(h2:s+1=2 * l)(h3:l<=16):w<=640:=⋯
theorem Ly{w d:Nat}(h1:w<=3 * d+1)(h2:d<=6):w<=19:=⋯
theorem EC{w s l:Nat}(h1:w<=11 * s)(h2:s+1=2 * l)(h3:l<=16):w<=341:=⋯
theorem yJ{w:Nat}(h:w<=640):2 * w+20<=2000:=⋯
theorem d30{d:Nat}(h:d<=19):d+4<=30:=⋯
theorem ED{a b d:Nat}(h1:a<=b)(h2:b=d+1)(h3:d<=6):a < 152:=⋯
theorem yK{a b:Nat}(h1:a<=b+20)(h2:b<=341):a<=30000:=⋯
def zW:OI PyData:=[.none,.bool true,.int 0,.str "4",.tuple [.int 4],.dict [],.int (-1)]
theorem xK:∀d∈zW,whD d 1=false:=by unfold zW;simp only[M7];exact%[O,O,∅,O,O,O,∅|λ _ h=>by cases h]
def zX(t:PyData):OI PyData:=[.none,.bool true,.int 0,.str "rest",.dict [],.tuple [],.tuple [.str "rest",.int 0],.tuple [.str "down",.int 0,t,t]]
theorem xL{t:PyData}(ht:wt t<=10000):∀d∈zX t,Bt d/\wt d<=30000:=by
 unfold zX;simp only[M7];have w5:wt (.str "down")=5:=∅
 exact⟨%[.norow rfl|∅],%[.norow rfl|∅],%[.norow rfl|∅],%[.norow rfl|∅],%[.norow rfl|∅],⟨.head rfl λ y r e=>(by cases e),∅⟩,%[li rfl (.inl %[O|by show 1≠0;decide])|∅],%[.size rfl ∅|by show wt (.str "down")+(1+(wt t+(wt t+0)))+1<=30000;lia],λ _ h=>by cases h⟩
section
variable{P:F6}{w:F8}{K:C4}{mg:Str->OG F9}{base:Heap}
inductive spLaw(K:C4)(vs:OI V)(H:Hp)(Q:VK)(E_:XK):Prop
|mk(a:OE)(ns:OI Int)(_:vs=[.ref a])(_:SqL K H a (ns.map V.int))(_:ns.length<=63)(_:∀H',Q (.bl true) H')
theorem sclaw:FnScope ["_law_script","_law_k","_law_pot_here","_law_unit_here","_law_shop_here","_law_made","_law_wide","_law_high","_law_tree_here","_law_told_here","_law_things","_law_kept","_law_thing","_law_due","_law_odd_here","_law_road","_law_bad"] ["_law_script"] (defScope lS):=%[O,O,O,∅,O,∅|∅]
theorem zY{f C:OE}{fd:F7}(F:Fun K "law" "law" lS f fd)(B:Blt mg)(SM:SysIn K)(DC:Dn P w K mg base "_law_cell" ["_law_script","_law_k"] 1 (tO K))(DP:Dn P w K mg base "_law_pot" ["_law_cell_here","_law_k"] 1 (spPotC))(DD:Dn P w K mg base "_law_take" ["_law_pot_here","_law_many"] 1 (spTake))(DU:Dn P w K mg base "_law_unit" ["_law_pot_here"] 2 (spUnit))(DSp:Dn P w K mg base "_law_shop" ["_law_pot_here","_law_unit_here"] 3 (spShopC))(DSi:Dn P w K mg base "_law_side" ["_law_pot_here","_law_unit_here","_law_most"] 2 (spSideC))(DT:Dn P w K mg base "_law_tree" ["_law_pot_here","_law_shop_here","_law_wide","_law_high","_law_deep","_law_room"] 14 (spTreeC 11))(DTo:Dn P w K mg base "_law_told" ["_law_shop_here","_law_wide","_law_high","_law_tree_here"] 53 (spToldL 50))(DSo:Dn P w K mg base "_law_spoilt" ["_law_pot_here","_law_told_here"] 63 (spSpoil 60))(DO:Dn P w K mg base "_law_odd" ["_law_pot_here"] 2 (md))(DIt:Dn P w K mg base "_law_is_told" ["_law_shop_here","_law_wide","_law_high","_law_told_here"] 154 (spIsTold 151))(DSa:Dn P w K mg base "_law_said" ["_law_road","_law_made","_law_wide","_law_high","_law_thing"] 161 (spSaid K C))(DLi:Dn P w K mg base "_law_lists" ["_law_pot_here","_law_thing"] 154 (spLists 152))(DTs:Dn P w K mg base "_law_tree_spoilt" ["_law_pot_here","_law_tree_here"] 52 (spTrS 50))(DSh:Kn P w K mg base "Shop" C ["self","blade","kinds"] 3 (mL C)):FnOk P w K mg base CX0 162 f fd ["_law_script"] (spLaw K):=by
 refine F.ok sclaw (λ vs H Q E h=>?_) (λ cdv A outer s H vs Q E hr h=>?_)
 ·obtain⟨a,ns,rfl,_⟩:=h
  rfl
 obtain⟨a,ns,rfl,hS,n63,q⟩:=h;have nd:=sclaw.nd;have hg:=hr.gd;have hu6:=hr.units66;refine%[_,((@df _ _ _ _ _ _ _ _ E2 O (gA O B.range ((@aA _ _ _ _ _ _ _ _ _ (ju O) O B.max PyProof.Rows.boot_max (ae^^^((@aA _ _ _ _ _ _ _ _ _ (gD O) O B.min PyProof.Rows.boot_min (ae^^^((@aA _ _ _ _ _ _ _ _ _ aN O B.len OW ((pv 0)^^^ad) ∅ ∅ O O)^^^ad)) ∅ ∅ O O)^^^ad)) ∅ ∅ O O)^^^ad)) (ap (i:=1) nd O (Or.inl O)) ((2∣(DP∩((DC∩((pv 0)^^^((pv 1)^^^ad)))^^^((pv 1)^^^ad))))<<<((3∣(DU∩((pv 2)^^^ad)))<<<((4∣(DSp∩((pv 2)^^^((pv 3)^^^ad))))<<<((5∣(Ek DSh (hr.mono ∅) O (((pv 4)&&&ix_tup&&&ae)^^^(((pv 4)&&&ix_tup&&&ae)^^^ad))))<<<((yT O nd O O (i:=6) (j:=7) ∅ O O ((DSi∩((pv 2)^^^((pv 3)^^^(ae^^^ad))))^^^((DSi∩((pv 2)^^^((pv 3)^^^(ae^^^ad))))^^^ad)) O)<<<((8∣(DT∩((pv 2)^^^((pv 4)^^^((pv 6)^^^((pv 7)^^^(ae^^^((@aQ _ _ _ _ (ae^^^ad))^^^ad))))))))<<<((9∣(DTo∩((pv 4)^^^((pv 6)^^^((pv 7)^^^((pv 8)^^^ad))))))<<<((10∣(@aQ _ _ _ _ ((pv 9)^^^((DSo∩((pv 2)^^^((pv 9)^^^ad)))^^^((DSo∩((pv 2)^^^((pv 9)^^^ad)))^^^((DO∩((pv 2)^^^ad))^^^ad))))))<<<((11∣(@aA _ _ _ _ _ _ _ _ _ (iP SM hg hu6) O B.repr PyProof.Rows.boot_repr ((pv 10)^^^ad) ∅ ∅ O O))<<<((@df _ _ _ _ _ _ _ _ E2 O (jX (pv 10)) (ap (i:=12) nd O (Or.inl O)) ((13∣((@aQ _ _ _ _ (aJ^^^(aJ^^^ad)))&&&ix_list&&&(@bg _ _ _ _ _ _ _ _ _ cu O B.int OX ((DIt∩((pv 4)^^^((pv 6)^^^((pv 7)^^^((pv 12)^^^ad)))))^^^ad) ∅ ∅ O O)))<<<((((DSa∪(ae^^^((pv 5)^^^((pv 6)^^^((pv 7)^^^((pv 12)^^^ad))))))<*>cI<*>(pv 13))<|>(bF⁻¹)<|>az)>>>(((DSa∪(ae^^^((pv 5)^^^((pv 6)^^^((pv 7)^^^((DLi∩((pv 2)^^^((pv 12)^^^ad)))^^^ad))))))<*>cI<*>(pv 13))<|>(bF⁻¹)<|>az))) (by intro _;rfl))<<<((14∣((@aQ _ _ _ _ (dR^^^(bF^^^(ae^^^(aJ^^^((@ar _ _ _ _ _ (ae^^^ad))^^^(fV^^^((@iB _ _ _ _ _ _ fO ae)^^^ad))))))))&&&ix_list&&&(DD∩((pv 2)^^^(ae^^^ad)))))<<<((@df _ _ _ _ _ _ _ _ E2 O (gA O B.range (ae^^^ad)) (ap (i:=15) nd O (Or.inl O)) (@ag _ _ _ ((PW.pt (bn ((DSa∪((pv 15)^^^((pv 5)^^^((pv 14)^^^((pv 7)^^^((pv 8)^^^ad))))))<*>cI<*>aJ) (bG ((DSa∪((pv 15)^^^((pv 5)^^^((pv 6)^^^((pv 14)^^^(dR^^^ad))))))<*>cI<*>aJ))))<|>(bF⁻¹)<|>az)) (by intro _;rfl))<<<((16∣((@aQ _ _ _ _ (dR^^^(bF^^^(ae^^^(aJ^^^(fV^^^((@ar _ _ _ _ _ ad)^^^((@ar _ _ _ _ _ (aJ^^^(ae^^^ad)))^^^((@ar _ _ _ _ _ (aJ^^^(ae^^^((pv 8)^^^((pv 8)^^^ad)))))^^^ad)))))))))&&&ix_list&&&(DD∩((pv 2)^^^(ae^^^ad)))))<<<(((PW.pt (bn ((DSa∪(ae^^^((pv 5)^^^((pv 6)^^^((pv 7)^^^((pv 16)^^^ad))))))<*>cI<*>aJ) (bG ((@aA _ _ _ _ _ _ _ _ _ (iP SM hg hu6) O B.repr PyProof.Rows.boot_repr ((pv 10)^^^ad) ∅ ∅ O O)<*>cI<*>(pv 11)))))<|>(bF⁻¹)<|>az)<<<((16∣(DLi∩((pv 2)^^^((DTs∩((pv 2)^^^((pv 8)^^^ad)))^^^ad))))>>>((PW.pt (bn ((DSa∪(ae^^^((pv 5)^^^((pv 6)^^^((pv 7)^^^((pv 16)^^^ad))))))<*>cI<*>aJ) (bG ((DSa∪(ae^^^((pv 5)^^^((pv 6)^^^((pv 7)^^^((pv 8)^^^ad))))))<*>cI<*>aJ))))<|>(bF⁻¹)<|>az)))))))))))))))) (by intro _;rfl))<<<(bF⁻¹))|?_]
 dsimp only[bW];have sz:(10000:Nat) < sizeLine:=∅
 have ln:(ns.map V.int).length=ns.length:=J1 _;have e59:(10:Int) ^ 58 < 9 * 10 ^ 59:=∅
 have e60:9 * (10:Int) ^ 59 < 10 ^ 60:=∅
 refine bO (λ σ' H'=>True) (λ R hR=>?_) ?_
 ·refine%[_,O,a,_,O,.inl hS,_,_,O,_,_,O,_,O,?_,?_|?_]
  ·rw[ln];split <;> lia
  ·rw[ln];split <;> lia
  generalize hn:(Int.toNat _)=n;have n8:n<=8:=by
   rw[<- hn]
   split <;> (try split) <;> lia
  refine gB (n:=n) (λ i σ H'=>∃(v1 v2 v3 v4 v5 v6 v7 v8 v9 v10 v11 v12 v13 v14 v15 v16:OG V),σ=[↑a,v1,v2,v3,v4,v5,v6,v7,v8,v9,v10,v11,v12,v13,v14,v15,v16]/\Same H H') %[_,_,_,_,_,_,_,_,_,_,_,_,_,_,_,_,rfl|Same.refl _] ?_ (λ σ Hx _=>hR _ _ trivial);intro i σ Hx hi hI9;refine cN λ G9 k9=>?_;obtain⟨v1,v2,v3,v4,v5,v6,v7,v8,v9,v10,v11,v12,v13,v14,v15,v16,rfl,sx⟩:=hI9;refine k9 ?_;refine aw (λ R=>∀p (H':Hp),Hx p=none->PotC H' p->But p Hx H'->R [↑a,⇑(0+(i:Int)),↑p,v3,v4,v5,v6,v7,v8,v9,v10,v11,v12,v13,v14,v15,v16] H') (λ Dd hR=>?_) ?_
  ·exact%[_,O,_,O,a,ns,_,O,sx.seq hS,⋯|λ c=>%[_,O,c,_,O,⋯,⋯|λ p Hb hp ptb sb=>hR p _ hp ptb (Pc.Same.but sb)]]
  rintro p H1 hp pt1 b1;refine aw (λ R=>∀(u:Int)(H':Hp),1<=u->u < 2 * 10 ^ 56->PotC H' p->But p Hx H'->R [↑a,⇑(0+(i:Int)),↑p,⇑u,v4,v5,v6,v7,v8,v9,v10,v11,v12,v13,v14,v15,v16] H') (λ Dd hR=>?_) ?_
  ·exact%[_,O,p,O,pt1|λ u H2 u1 u2 pt2 b2=>hR u _ u1 u2 pt2 (b1.trans b2)]
  rintro u H2 u1 u2 pt2 b2;refine aw (λ R=>∀(t kl:OE)(b:Int)(ks:OI Kd)(H':Hp),LS H' t b ks kl->kl≠p->(∀k∈ks,Good k)->1<=ks.length->ks.length<=8->0<=b->b < 10 ^ 58->PotC H' p->But p Hx H'->R [↑a,⇑(0+(i:Int)),↑p,⇑u,↑t,v5,v6,v7,v8,v9,v10,v11,v12,v13,v14,v15,v16] H') (λ Dd hR=>?_) ?_
  ·exact%[_,O,_,O,p,u,O,pt2,u1,u2|λ t kl b ks H3 ls nk _ gk k1 k8 b0 b60 pt3 b3=>hR t kl b ks _ ls nk (λ k hk=>(gk k hk).1) k1 k8 b0 b60 pt3 (b2.trans b3)]
  rintro t kl b ks H3 ls3 nk gk k1 kn8 b0 b58 pt3 b3;refine aw (λ R=>∀(x:OE)(H':Hp),LS H' t b ks kl->ShopAt C H' x b ks->PotC H' p->But p Hx H'->R [↑a,⇑(0+(i:Int)),↑p,⇑u,↑t,↑x,v6,v7,v8,v9,v10,v11,v12,v13,v14,v15,v16] H') (λ Dd hR=>?_) ?_
  ·obtain⟨rs,q1,q2,q3⟩:=id ls3;have rl:=E1 q3;refine%[_,O,t,_,0,_,O,O,G1 q1,O,_,O,t,_,1,_,O,O,G1 q1,O|λ x dx hx hdx ne0=>?_];have sm:Same H3 (upd (upd H3 dx (.own x)) x (.ins C dx [])):=qX hx hdx;refine%[x,dx,kl,b,rs,ks,O,aj,b0,.inl (sm _ _ q2),G3 (Tups.keep (λ c xs e=>sm _ _ e) q3) (λ v k h=>.inl h),gk,⋯,⋯|λ Hb Sb kb=>%[O|?_]];have sb:Same H3 Hb:=λ c o e=>kb c o (av e hx) (sm _ _ e);exact hR x _ (ls3.same sb) Sb (pt3.same sb) (λ c o n e=>sb _ _ (b3 _ _ n e))
  rintro x H4 ls4 sh4 pt4 b4;refine aw (λ R=>∀(W h1:Int)(H':Hp),1<=W->W < 10 ^ 58->1<=h1->h1 < 10 ^ 58->LS H' t b ks kl->ShopAt C H' x b ks->PotC H' p->But p Hx H'->R [↑a,⇑(0+(i:Int)),↑p,⇑u,↑t,↑x,⇑W,⇑h1,v8,v9,v10,v11,v12,v13,v14,v15,v16] H') (λ Dd hR=>?_) ?_
  ·exact%[_,O,_,O,p,u,24,O,pt4,u1,u2,∅,∅|λ W H5 w0 w58 pt5 b5=>%[_,O,_,O,p,u,24,O,pt5,u1,u2,∅,∅|λ h1 H6 h0 h58 pt6 b6=>%[_,_,O|hR W h1 _ w0 w58 h0 h58 ((ls4.but nk pt4 b5).but nk pt5 b6) (vA pt5 b6 (vA pt4 b5 sh4)) pt6 (b4.trans (b5.trans b6))]]]
  clear b1 pt1 b2 pt2 b3 pt3 ls3 b4 pt4 ls4 sh4;clear H1 H2 H3 H4;rintro W h1 H5 w0 w58 h0 h58 ls5 sh5 pt5 b5;refine aw (λ R=>∀(v:V)(T:Tr)(H':Hp),okU b ks W h1 T->lvN T<=16->dT T<=6->LX C p t kl x b ks v T H'->But p Hx H'->R [↑a,⇑(0+(i:Int)),↑p,⇑u,↑t,↑x,⇑W,⇑h1,some v,v9,v10,v11,v12,v13,v14,v15,v16] H') (λ Dd hR=>?_) ?_
  ·refine%[_,O,_,O,_,O,_,O,zS1|λ rm hrm=>?_];refine bj hrm pt5 b5 λ H7 k7 n7 s7 b7 pt7=>?_;have ls7:=ls5.same s7;obtain⟨rs,q1,q2,q3⟩:=id ls5;have nkr:kl≠rm:=av q2 hrm;refine%[p,t,kl,rm,b,W,h1,15,ks,6,O,pt7,ls7,nk,nkr,n7,kn8,gk,b0,⋯,⋯,k7,∅,∅|λ v T r' H8 tv ok r0 ln dp hrm8 pt8 b78=>?_];obtain⟨_,hp7⟩:=bR pt7;have tk:∀c xs,H7 c= ~~~xs->H8 c= ~~~xs:=λ c xs e=>b78 _ _ (λ z=>by rw[z,hp7]at e;cases e) (λ z=>by rw[z,k7]at e;cases e) e;have ls8:=ls7.keep2 hp7 k7 nk nkr b78;have sh8:ShopAt C H8 x b ks:=(gj s7 sh5).keep (λ c xs e=>tk _ _ e) (λ c C' d fs e=>b78 _ _ (λ z=>by rw[z,hp7]at e;cases e) (λ z=>by rw[z,k7]at e;cases e) e);have b08:But p Hx H8:=λ c o n e=>b78 _ _ n (av (b5 _ _ n e) hrm) (b7 _ _ n e);exact hR v T _ ok ⋯ dp %[ls8,sh8,tv|pt8] b08
  clear b5 pt5 ls5 sh5;clear H5;rintro v T H5 ok l16 d6 lx5 b5;have szt:=fC T;have wtl:wt (tlD (gm b T W h1))+7<=20 * szT T:=(je b T W h1).1;have dpl:(tlD (gm b T W h1)).depth<=3 * dT T+1:=(cZ b T W h1).1;have tkl:TlK 60 (gm b T W h1):=(lZ b0 gk kn8 T ok (Int.le_trans ∅ w0) (Int.le_trans ∅ h0) (Int.lt_trans w58 ∅) (Int.lt_trans h58 ∅) (C5 l16 ∅)).1;have wz:=EB wtl szt l16;have dz:=Ly dpl d6;have wT:=EC (gT T) szt l16;have fin:∀{Hy:Hp},But p Hx Hy->Same H Hy:=λ by' c o e=>by' _ _ (av (sx _ _ e) hp) (sx _ _ e);refine aw (λ R=>∀uv (H':Hp),TlV H' (gm b T W h1) uv->LX C p t kl x b ks v T H'->But p Hx H'->R [↑a,⇑(0+(i:Int)),↑p,⇑u,↑t,↑x,⇑W,⇑h1,some v,some uv,v10,v11,v12,v13,v14,v15,v16] H') (λ Dd hR=>?_) ?_
  ·exact%[_,O,_,O,_,O,_,O,t,kl,b,W,h1,ks,v,T,O,lx5.ls,lx5.tv,C5 l16 ∅,C6 d6 ∅|λ uu H6 tl s6=>hR uu _ tl (lx5.same s6) (λ c o n e=>s6 _ _ (b5 _ _ n e))]
  clear b5 lx5;clear H5;rintro uv H5 tl5 lx5 b5;refine aw (λ R=>∀(th:OE)(vs:OI V)(ds:OI PyData)(H':Hp),vs.length=4->(∀d∈ds,Sz 2000 30 d)->LZ C p t kl x th b ks v T vs ds H'->But p Hx H'->R [↑a,⇑(0+(i:Int)),↑p,⇑u,↑t,↑x,⇑W,⇑h1,some v,some uv,↑th,v11,v12,v13,v14,v15,v16] H') (λ Dd hR=>?_) ?_
  ·refine%[_,O,_,O,_,O,p,uv,_,O,lx5.po,tl5,tkl,C6 dz ∅|λ v1' d1 H6 hd1 z1 pt6 b6=>?_];have lx6:=lx5.but nk pt6 b6;have tl6:TlV H6 (gm b T W h1) uv:=TlV.keep (λ c ys e=>bS b6 lx5.po e) _ tl5;refine%[_,O,_,O,p,uv,_,O,pt6,tl6,tkl,C6 dz ∅|λ v2' d2 H7 hd2 z2 pt7 b7=>?_];have lx7:=lx6.but nk pt7 b7;refine%[_,O,p,O,pt7|λ v3' d3 H8 hd3 m3 pt8 b8=>%[zS4|λ th hth=>?_]];have lx8:=lx7.but nk pt8 b8;have b08:=b5.trans (b6.trans (b7.trans b8));refine bj hth pt8 b08 λ H9 k9 n9 s9 b9 pt9=>?_;have z0:Sz 2000 30 (tlD (gm b T W h1)):=%[(TlK.fx ∅ _ tkl).up,C5 wz ∅|C5 dz ∅]
   refine hR th _ ([tlD (gm b T W h1),d1,d2,d3]) _ rfl ?_ %[lx8.same s9,n9,k9|.cons ((TlV.dt _ (TlV.keep (λ c ys e=>bS b8 pt7 (bS b7 pt6 e)) _ tl6)).same s9) (.cons (((hd1.but (bR pt6) b7).but (bR pt7) b8).same s9) (.cons ((hd2.but (bR pt7) b8).same s9) (.cons (hd3.same s9) .nil)))] b9;intro d hd;simp only[G6,J0,OZ]at hd;rcases hd with rfl | rfl | rfl | rfl
   ·exact z0
   ·exact z1.mono (yJ wz) (d30 dz)
   ·exact z2.mono (yJ wz) (d30 dz)
   ·exact(fe m3).mono ∅ ∅
  clear b5 lx5 tl5;clear H5;rintro th vs ds H5 vl zs lz5 b5;have dl4:=lz5.dt.length;obtain⟨sh1,sh2,sh3⟩:=xJ (λ d hd=>(zs d hd).mono (B2 _) (show 30<=60 by decide)) ⋯;refine aw (λ R=>R [↑a,⇑(0+(i:Int)),↑p,⇑u,↑t,↑x,⇑W,⇑h1,some v,some uv,↑th,some (.str (PyData.list ds).shown),v12,v13,v14,v15,v16] H5) (λ Dd hR=>?_) ?_
  ·exact%[_,O,th,.list ds,O,(Dt.lst lz5.nt lz5.hl lz5.dt).datD,sh1,sh2,sh3|hR]
  skip
  refine bO (λ σ' H'=>∃(v12 v13:OG V),σ'=[↑a,⇑(0+(i:Int)),↑p,⇑u,↑t,↑x,⇑W,⇑h1,some v,some uv,↑th,some (.str (PyData.list ds).shown),v12,v13,v14,v15,v16]/\LZ C p t kl x th b ks v T vs ds H'/\But p Hx H') (λ R hR=>?_) ?_
  ·refine%[_,O,th,O,%[_|G2 lz5.hl]|iA (xs:=vs) (λ j σ' H'=>∃(v12 v13:OG V),σ'=[↑a,⇑(0+(i:Int)),↑p,⇑u,↑t,↑x,⇑W,⇑h1,some v,some uv,↑th,some (.str (PyData.list ds).shown),v12,v13,v14,v15,v16]/\LZ C p t kl x th b ks v T vs ds H'/\But p Hx H') %[_,_,O,lz5|b5] (λ j σ H' _ ⟨_,_,_,lz,_⟩=>G2 lz.hl) ?_ (λ σ H' h=>hR _ _ h)];rintro j vx _ H6 hj ⟨v12,v13,rfl,lz6,b6⟩;obtain⟨d,hd,dx⟩:=lz6.dt.get hj;have zd:=zs d (B5 hd);have zdd:=zd.d;have zdw:=zd.w;refine bO (λ σ' H'=>σ'=[↑a,⇑(0+(i:Int)),↑p,⇑u,↑t,↑x,⇑W,⇑h1,some v,some uv,↑th,some (.str (PyData.list ds).shown),some vx,some (.str (if (rdT b ks 151 W h1 d).isSome=true then "told" else "telling")),v14,v15,v16]/\LZ C p t kl x th b ks v T vs ds H'/\Dt p H' vx d/\But p Hx H') (λ R hR=>?_) ?_
   ·refine%[zS2|λ l7 hl7=>?_];refine bj hl7 lz6.lx.po b6 λ H7 k7 n7 s7 b7 pt7=>?_;have lz7:=lz6.same s7;refine%[_,O,_,O,_,O,_,O,p,t,kl,b,W,h1,ks,vx,d,O,lz7.lx.ls,kn8,dx.same s7,zd.fx.nl,zd.fx.wd,C6 zdd ∅,C5 zdd ∅|λ H8 s8=>.inr %[_,O|?_]];have fi:=hR ([↑a,⇑(0+(i:Int)),↑p,⇑u,↑t,↑x,⇑W,⇑h1,some v,some uv,↑th,some (.str (PyData.list ds).shown),some vx,some (.str (if (rdT b ks 151 W h1 d).isSome=true then "told" else "telling")),v14,v15,v16]) H8 %[rfl,lz7.same s8,(dx.same s7).same s8|λ c o n e=>s8 _ _ (b7 _ _ n e)];cases hs:(rdT b ks 151 W h1 d).isSome with
    | true=>rw[hs]at fi;exact%[l7,_,_,_,O,O,G2 (s8 _ _ k7),aE ∅ rfl|fi]
    | false=>rw[hs]at fi;exact%[l7,_,_,_,O,O,G2 (s8 _ _ k7),aE (E3 _) rfl|fi]
   clear b6 lz6 dx;clear H6;rintro _ H6 ⟨rfl,lz6,dx,b6⟩;refine aw (λ R=>∀(H':Hp),LZ C p t kl x th b ks v T vs ds H'->Dt p H' vx d->But p Hx H'->R [↑a,⇑(0+(i:Int)),↑p,⇑u,↑t,↑x,⇑W,⇑h1,some v,some uv,↑th,some (.str (PyData.list ds).shown),some vx,some (.str (if (rdT b ks 151 W h1 d).isSome=true then "told" else "telling")),v14,v15,v16] H') (λ Dd hR=>?_) ?_
   ·refine%[_,O,_,O,_,O,_,O,0,x,_,_,vx,O|.inr (.inl %[p,b,W,h1,ks,d,O,O,O,w0,h0,lz6.lx.sh,dx,zd.fx.wd,C5 zdd ∅|λ H7 s7=>%[_,O,O,_,O|?_]])];rw[show(!decide (V.str (if (rdT b ks 151 W h1 d).isSome=true then "told" else "telling")=V.str (if (rdT b ks 151 W h1 d).isSome=true then "told" else "telling")))=false by rw[OO rfl];rfl];exact aM (hR _ (lz6.same s7) (dx.same s7) (λ c o n e=>s7 _ _ (b6 _ _ n e)))
   clear b6 lz6 dx;clear H6;rintro H6 lz6 dx b6;refine%[_,O,_,O,_,O,_,O,_,O,p,vx,d,O,lz6.lx.po,dx,C6 zdd ∅,C5 zdw ∅|λ vx' d' H7 dx' ls' _ pt7 b7=>?_];have lz7:=lz6.but nk pt7 b7;refine%[0,x,_,_,vx',O|.inr (.inl %[p,b,W,h1,ks,d',O,O,O,w0,h0,lz7.lx.sh,dx',zd.fx.wd.lsd ls',by rw[ls'.depth];exact C5 zdd ∅|λ H8 s8=>%[_,O,O,_,O|?_]])];rw[qg 151 ls'];rw[show(!decide (V.str (if (rdT b ks 151 W h1 d).isSome=true then "told" else "telling")=V.str (if (rdT b ks 151 W h1 d).isSome=true then "told" else "telling")))=false by rw[OO rfl];rfl];exact aM %[_,_,rfl,lz7.same s8|λ c o n e=>s8 _ _ ((b6.trans b7) _ _ n e)]
  clear b5 lz5;clear H5;rintro _ H5 ⟨v12,v13,rfl,lz5,b5⟩;refine aw (λ R=>∀(ov:V)(od:PyData)(H':Hp),Dt p H' ov od->whD od 1=false->LZ C p t kl x th b ks v T vs ds H'->But p Hx H'->R [↑a,⇑(0+(i:Int)),↑p,⇑u,↑t,↑x,⇑W,⇑h1,some v,some uv,↑th,some (.str (PyData.list ds).shown),v12,v13,some ov,v15,v16] H') (λ Dd hR=>?_) ?_
  ·refine%[zS1|λ t4 ht4=>?_];refine bj ht4 lz5.lx.po b5 λ H6 k6 n6 s6 b6 pt6=>?_;refineλ em hem=>?_;refine bj hem pt6 b6 λ H7 k7 n7 s7 b7 pt7=>?_;refine%[_,O,zS7|λ l8 hl8=>?_];refine bj hl8 pt7 b7 λ H8 k8 n8 s8 b8 pt8=>?_;have lz8:=lz5.same (s6.trans (s7.trans s8));refine%[_,O,p,7,O,pt8,∅,∅|λ r H9 r0 r1 pt9 b9=>?_];have t49:=bS b9 pt8 (s8 _ _ (s7 _ _ k6));have em9:=b9 _ _ n7 (s8 _ _ k7);have D9:Dts p H9 [.non,.bl true,.int 0,.str "4",.ref t4,.ref em,.int (-1)] zW:=(.cons (.non) (.cons (.bl _) (.cons (.int _) (.cons (.str _) (.cons (.tup t49 (.cons (.int _) .nil)) (.cons (.emp em9) (.cons (.int _) .nil)))))))
   obtain⟨ov,od,ho,hd,mx⟩:=D9.pick r0 r1;have hw:=xK od mx;exact%[l8,_,_,_,O,O,G2 (b9 _ _ n8 k8),ho|hR ov od _ hd hw (lz8.but nk pt9 b9) (b8.trans b9)]
  clear b5 lz5;clear H5;rintro ov od H5 dov hov lz5 b5;have whi:∀z:Int,1<=z->aR (.int z) 1=true:=λ z hz=>A9 hz;refine bO (λ σ' H'=>∃(v15:OG V),σ'=[↑a,⇑(0+(i:Int)),↑p,⇑u,↑t,↑x,⇑W,⇑h1,some v,some uv,↑th,some (.str (PyData.list ds).shown),v12,v13,some ov,v15,v16]/\LZ C p t kl x th b ks v T vs ds H'/\But p Hx H') (λ R hR=>?_) ?_
  ·refine%[_,O,∅,∅|gB (n:=2) (λ j σ' H'=>∃(v15:OG V),σ'=[↑a,⇑(0+(i:Int)),↑p,⇑u,↑t,↑x,⇑W,⇑h1,some v,some uv,↑th,some (.str (PyData.list ds).shown),v12,v13,some ov,v15,v16]/\LZ C p t kl x th b ks v T vs ds H'/\Dt p H' ov od/\But p Hx H') %[_,O,lz5,dov|b5] ?_ (λ σ H' ⟨v15,e,lz,_,bb⟩=>hR _ _ %[v15,e,lz|bb])];rintro j _ H6 hj ⟨v15,rfl,lz6,dov,b6⟩;have tyo:=dov.ty (K:=K);have who:aR ov 1=false:=by rw[dov.wh];exact hov
   refine%[_,O,_,O,_,O,_,O,_,O,_,x,ov,.int h1,v,O|.inl %[%[tyo,%[_|Ty.int]|by rw[who];rfl]|λ H7 s7=>%[O,_,O|?_]]];rw[show(!decide (V.str "plate" = V.str "plate"))=false by rw[OO rfl];rfl];refine aM %[_,rfl,_,rfl,_,rfl,_,rfl,_,x,.int W,ov,.non,rfl|.inl %[%[%[_|Ty.int],(dov.same s7).ty|by rw[who,J3]]|λ H8 s8=>%[rfl,_,rfl|?_]]];rw[show(!decide (V.str "plate" = V.str "plate"))=false by rw[OO rfl];rfl];exact aM %[_,rfl,(lz6.same s7).same s8,(dov.same s7).same s8|λ c o n e=>s8 _ _ (s7 _ _ (b6 _ _ n e))]
  clear b5 lz5 dov;clear H5;rintro _ H5 ⟨v15,rfl,lz5,b5⟩;refine aw (λ R=>∀(bv:V)(bd:PyData)(H':Hp),Dt p H' bv bd->Bt bd->wt bd<=30000->LZ C p t kl x th b ks v T vs ds H'->But p Hx H'->R [↑a,⇑(0+(i:Int)),↑p,⇑u,↑t,↑x,⇑W,⇑h1,some v,some uv,↑th,some (.str (PyData.list ds).shown),v12,v13,some ov,v15,some bv] H') (λ Dd hR=>?_) ?_
  ·refineλ em hem=>?_;refine bj hem lz5.lx.po b5 λ H6 k6 n6 s6 b6 pt6=>?_;refine%[zS0|λ ta hta=>?_];refine bj hta pt6 b6 λ H7 k7 n7 s7 b7 pt7=>?_;refine%[zS2|λ tr htr=>?_];refine bj htr pt7 b7 λ H8 k8 n8 s8 b8 pt8=>?_;refine%[_,O,_,O,zS4|λ td htd=>?_];refine bj htd pt8 b8 λ H9 k9 n9 s9 b9 pt9=>?_;refine%[zS8|λ l9 hl9=>?_];refine bj hl9 pt9 b9 λ H10 k10 n10 s10 b10 pt10=>?_;have lz10:=lz5.same (s6.trans (s7.trans (s8.trans (s9.trans s10))));refine%[_,O,p,8,O,pt10,∅,∅|λ r H11 r0 r1 pt11 b11=>?_];have lz11:=lz10.but nk pt11 b11;have ta11:=bS b11 pt10 (s10 _ _ (s9 _ _ (s8 _ _ k7)));have tr11:=bS b11 pt10 (s10 _ _ (s9 _ _ k8));have td11:=bS b11 pt10 (s10 _ _ k9);have k610:=s10 _ _ (s9 _ _ (s8 _ _ (s7 _ _ k6)));have em11:=b11 _ _ n6 k610;have wtd:=gT T;have dtT:=TrV.dt (p:=p) T lz11.lx.tv;have D11:Dts p H11 [.non,.bl true,.int 0,.str "rest",.ref em,.ref ta,.ref tr,.ref td] (zX (toD T)):=(.cons (.non) (.cons (.bl _) (.cons (.int _) (.cons (.str _) (.cons (.emp em11) (.cons (.tup ta11 .nil) (.cons (.tup tr11 (.cons (.str _) (.cons (.int _) .nil))) (.cons (.tup td11 (.cons (.str _) (.cons (.int _) (.cons dtT (.cons dtT .nil))))) .nil))))))))
   obtain⟨bv,bd,ho,hd,mx⟩:=D11.pick r0 r1;obtain⟨hb,hw⟩:=xL (C5 wT ∅) bd mx;exact%[l9,_,_,_,O,O,G2 (b11 _ _ n10 k10),ho|hR bv bd _ hd hb hw lz11 (b10.trans b11)]
  clear b5 lz5;clear H5;rintro bv bd H5 dbv hbt hbw lz5 b5;refine aw (λ R=>∀(H':Hp),LZ C p t kl x th b ks v T vs ds H'->But p Hx H'->R [↑a,⇑(0+(i:Int)),↑p,⇑u,↑t,↑x,⇑W,⇑h1,some v,some uv,↑th,some (.str (PyData.list ds).shown),v12,v13,some ov,v15,some bv] H') (λ Dd hR=>?_) ?_
  ·refine%[_,O,_,O,_,O,_,O,1,x,_,_,bv,O|.inr (.inr (.inl %[p,b,W,h1,ks,bd,∅,O,O,w0,h0,lz5.lx.sh,dbv,hbw,hbt.no _ _ _ _|λ H6 s6=>%[O,_,O|?_]]))];rw[show(!decide (V.str "tree" = V.str "tree"))=false by rw[OO rfl];rfl];have lz6:=lz5.same s6;refine aM %[_,rfl,th,.list ds,rfl,(Dt.lst lz6.nt lz6.hl lz6.dt).datD,sh1,sh2,sh3,_,rfl,rfl,_,rfl|?_];rw[show(!decide (V.str (PyData.list ds).shown=V.str (PyData.list ds).shown))=false by rw[OO rfl];rfl];exact aM (hR _ lz6 (λ c o n e=>s6 _ _ (b5 _ _ n e)))
  clear b5 lz5 dbv hbt hbw;clear H5;rintro H5 lz5 b5;refine aw (λ R=>∀(bv:V)(bd:PyData)(H':Hp),Dt p H' bv bd->Bt bd->wt bd<=30000->LZ C p t kl x th b ks v T vs ds H'->But p Hx H'->R [↑a,⇑(0+(i:Int)),↑p,⇑u,↑t,↑x,⇑W,⇑h1,some v,some uv,↑th,some (.str (PyData.list ds).shown),v12,v13,some ov,v15,some bv] H') (λ Dd hR=>?_) ?_
  ·have wtd:=gT T;have dpT:=nN T;refine%[_,O,_,O,_,O,p,v,T,O,lz5.lx.po,lz5.lx.tv,C6 d6 ∅|λ v6 e6 H6 h6 bt6 w6 dp6 pt6 b6=>?_];have lz6:=lz5.but nk pt6 b6;exact%[p,v6,e6,O,pt6,h6,ED dp6 dpT d6,yK w6 wT|λ v7 e7 H7 h7 ls7 _ pt7 b7=>hR v7 e7 _ h7 (bt6.lsd ls7) (by rw[ls7.wt];exact yK w6 wT) (lz6.but nk pt7 b7) (b5.trans (b6.trans b7))]
  clear b5 lz5;clear H5;rintro bv' bd H5 dbv hbt hbw lz5 b5;refine%[_,O,_,O,_,O,_,O,1,x,_,_,bv',O|.inr (.inr (.inl %[p,b,W,h1,ks,bd,∅,O,O,w0,h0,lz5.lx.sh,dbv,hbw,hbt.no _ _ _ _|λ H6 s6=>%[O,_,O|?_]]))];rw[show(!decide (V.str "tree" = V.str "tree"))=false by rw[OO rfl];rfl];have lz6:=lz5.same s6;refine aM %[_,rfl,_,rfl,_,rfl,_,rfl,1,x,_,_,v,rfl|.inr (.inr (.inr %[b,W,h1,ks,T,∅,rfl,rfl,w0,h0,lz6.lx.sh,lz6.lx.tv,ok,C5 l16 ∅,C6 d6 ∅|λ H7 s7=>%[rfl,_,rfl|?_]]))];rw[show(!decide (V.str "told" = V.str "told"))=false by rw[OO rfl];rfl];exact aM %[_,_,_,_,_,_,_,_,_,_,_,_,_,_,_,_,rfl|fin λ c o n e=>s7 _ _ (s6 _ _ (b5 _ _ n e))]
 rintro _ H1 _;exact q H1
end
theorem Lz{α:Type}{us:OI α}(h:us.length=1):∃a,us=[a]:=by
 match us,h with
 | [a],_=>exact%[a|O]
theorem zZ{α:Type}{us:OI α}(h:us.length=2):∃a b,us=[a,b]:=by
 match us,h with
 | [a,b],_=>exact%[a,b|O]
theorem Aa{α:Type}{us:OI α}(h:us.length=3):∃a b c,us=[a,b,c]:=by
 match us,h with
 | [a,b,c],_=>exact%[a,b,c|O]
theorem LB{α:Type}{us:OI α}(h:us.length=4):∃a b c d,us=[a,b,c,d]:=by
 match us,h with
 | [a,b,c,d],_=>exact%[a,b,c,d|O]
theorem LC{α:Type}{us:OI α}(h:us.length=5):∃a b c d e,us=[a,b,c,d,e]:=by
 match us,h with
 | [a,b,c,d,e],_=>exact%[a,b,c,d,e|O]
abbrev DI(K:C4)(n:Str)(st:Stmt)(f:OE):Prop:=∃(od an:OG OE)(sl:OH (OG F9))(oc kV dc pm cd ct:F9),PySem.W.nsIn K OJ n=some (↑f)/\K.lookup f=some %[oc,od,.func (E4 n n (defArgs st) (defBody st) (defScope st) .none kV dc pm an cd ct)|sl]/\PySem.W.codeIn K cd n=true/\PySem.W.keepIn K (.ref f)=true
abbrev MI(K:C4)(C:OE)(n q:Str)(st:Stmt)(f:OE):Prop:=∃(od an:OG OE)(sl:OH (OG F9))(oc kV dc pm cd ct:F9),PySem.W.findIn K (.ref C) n=some (↑f)/\PySem.W.isFn K (.ref f)=true/\K.lookup f=some %[oc,od,.func (E4 n q (defArgs st) (defBody st) (defScope st) .none kV dc pm an cd ct)|sl]/\PySem.W.codeIn K cd q=true/\PySem.W.keepIn K (.ref f)=true
theorem diM{K:C4}{n:Str}{st:Stmt}{f:OE}{od an:OG OE}{sl:OH (OG F9)}{oc kV dc pm cd ct:F9}(a:PySem.W.nsIn K OJ n=some (↑f))(l:K.lookup f=some %[oc,od,.func (E4 n n (defArgs st) (defBody st) (defScope st) .none kV dc pm an cd ct)|sl])(c:PySem.W.codeIn K cd n=true)(k:PySem.W.keepIn K (.ref f)=true):DI K n st f:=%[_,_,_,_,_,_,_,_,_,a,l,c|k]
theorem miM{K:C4}{C:OE}{n q:Str}{st:Stmt}{f:OE}{od an:OG OE}{sl:OH (OG F9)}{oc kV dc pm cd ct:F9}(a:PySem.W.findIn K (.ref C) n=some (↑f))(i:PySem.W.isFn K (.ref f)=true)(l:K.lookup f=some %[oc,od,.func (E4 n q (defArgs st) (defBody st) (defScope st) .none kV dc pm an cd ct)|sl])(c:PySem.W.codeIn K cd q=true)(k:PySem.W.keepIn K (.ref f)=true):MI K C n q st f:=%[_,_,_,_,_,_,_,_,_,a,i,l,c|k]
abbrev fnS(n q:Str)(st:Stmt)(kV dc pm:F9)(an:OG OE)(cd ct:F9):F7:=E4 n q (defArgs st) (defBody st) (defScope st) .none kV dc pm an cd ct
abbrev HBd(n q:Str)(st:Stmt)(ps:OI Str):Prop:=∀(kV dc pm:F9)(an:OG OE)(cd ct:F9)(us:OI F9),us.length=ps.length->bindArgs (fnS n q st kV dc pm an cd ct) %[us|[]]=pure (ps.zip us)
inductive DE(K:C4)(mg:Str->OG Value)(n:Str)(st:Stmt)(f:OE)(ps:OI Str):Prop
|mk(fd:F7)(F:Fun K n n st f fd)(b:Binds K fd ps [])(k:PySem.W.keepIn K (.ref f)=true)(q:mg n=↑f)
theorem diE{K:C4}{h:Heap}{mg:Str->OG F9}{n:Str}{st:Stmt}{f:OE}(X:K.In h)(G:h.Ns OJ mg)(d:DI K n st f)(ps:OI Str)(hb:HBd n n st ps):DE K mg n st f ps:=by obtain⟨_,_,_,_,_,_,_,_,_,a,l,c,k⟩:=d;have F:=mG (st:=st) l c k;exact%[_,F,F.binds hb,k|PySem.W.mg_of X G a]
inductive ME(K:C4)(C:OE)(n q:Str)(st:Stmt)(f:OE)(ps:OI Str):Prop
|mk(fd:F7)(F:Fun K n q st f fd)(b:Binds K fd ps [])(k:PySem.W.keepIn K (.ref f)=true)(a:PySem.W.findIn K (.ref C) n=some (↑f))(i:PySem.W.isFn K (.ref f)=true)
theorem miE{K:C4}{C:OE}{n q:Str}{st:Stmt}{f:OE}(d:MI K C n q st f)(ps:OI Str)(hb:HBd n q st ps):ME K C n q st f ps:=by obtain⟨_,_,_,_,_,_,_,_,_,a,i,l,c,k⟩:=d;have F:=mG (st:=st) l c k;exact%[_,F,F.binds hb,k,a|i]
theorem dnA{P:F6}{w:F8}{K:C4}{h:Heap}{mg:Str->OG F9}{base:Heap}(X:K.In h)(G:h.Ns OJ mg){n:Str}{st:Stmt}{f:OE}(d:DI K n st f)(ps:OI Str)(hb:HBd n n st ps){k:Nat}{sp:Sp}(ok:∀fd:F7,Fun K n n st f fd->(∀ {k:Nat} {sp:Sp},FnOk P w K mg base CX0 k f fd ps sp->Dn P w K mg base n ps k sp)->FnOk P w K mg base CX0 k f fd ps sp):Dn P w K mg base n ps k sp:=by obtain⟨_,F,b,k,q⟩:=diE X G d ps hb;exact%[_,_,ok _ F λ h=>%[_,_,h,b,k|q],b,k|q]
theorem dnX{P:F6}{w:F8}{K:C4}{h:Heap}{mg:Str->OG F9}{base:Heap}(X:K.In h)(G:h.Ns OJ mg){n:Str}{st:Stmt}{f:OE}(d:DI K n st f)(ps:OI Str)(hb:HBd n n st ps){k:Nat}{sp:Sp}(ok:∀fd:F7,Fun K n n st f fd->(∀ {k:Nat} {sp:Sp},FnOk P w K mg base (CXx P w) k f fd ps sp->L2.DnX P w K mg base n ps k sp)->FnOk P w K mg base (CXx P w) k f fd ps sp):L2.DnX P w K mg base n ps k sp:=by obtain⟨_,F,b,k,q⟩:=diE X G d ps hb;exact%[_,_,ok _ F λ h=>%[_,_,h,b,k|q],b,k|q]
theorem dnH{P:F6}{w:F8}{K:C4}{h:Heap}{mg:Str->OG F9}{base:Heap}(X:K.In h)(G:h.Ns OJ mg){n:Str}{st:Stmt}{f:OE}(d:DI K n st f)(ps:OI Str)(hb:HBd n n st ps){k:Nat}{sp:Sp}(ok:∀fd:F7,Fun K n n st f fd->(∀ {k:Nat} {sp:Sp},FnH P w K mg base k f fd ps sp->L2.DnH P w K mg base n ps k sp)->FnH P w K mg base k f fd ps sp):L2.DnH P w K mg base n ps k sp:=by obtain⟨_,F,b,k,q⟩:=diE X G d ps hb;exact%[_,_,ok _ F λ h=>%[_,_,h,b,k|q],b,k|q]
theorem bd1{n q:Str}{st:Stmt}{a:Str}(h:∀ (kV dc pm:F9) (an:OG OE) (cd ct ua:F9),bindArgs (fnS n q st kV dc pm an cd ct) %[[ua]|[]]=pure [(a,ua)]:=by intros;rfl):HBd n q st [a]:=by intro _ _ _ _ _ _ us hl;obtain⟨_,rfl⟩:=Lz hl;exact h _ _ _ _ _ _ _
theorem bd2{n q:Str}{st:Stmt}{a b:Str}(h:∀ (kV dc pm:F9) (an:OG OE) (cd ct ua ub:F9),bindArgs (fnS n q st kV dc pm an cd ct) %[[ua,ub]|[]]=pure [(a,ua),(b,ub)]:=by intros;rfl):HBd n q st [a,b]:=by intro _ _ _ _ _ _ us hl;obtain⟨_,_,rfl⟩:=zZ hl;exact h _ _ _ _ _ _ _ _
theorem bd3{n q:Str}{st:Stmt}{a b c:Str}(h:∀ (kV dc pm:F9) (an:OG OE) (cd ct ua ub uc:F9),bindArgs (fnS n q st kV dc pm an cd ct) %[[ua,ub,uc]|[]]=pure [(a,ua),(b,ub),(c,uc)]:=by intros;rfl):HBd n q st [a,b,c]:=by intro _ _ _ _ _ _ us hl;obtain⟨_,_,_,rfl⟩:=Aa hl;exact h _ _ _ _ _ _ _ _ _
theorem bd4{n q:Str}{st:Stmt}{a b c d:Str}(h:∀ (kV dc pm:F9) (an:OG OE) (cd ct ua ub uc ud:F9),bindArgs (fnS n q st kV dc pm an cd ct) %[[ua,ub,uc,ud]|[]]=pure [(a,ua),(b,ub),(c,uc),(d,ud)]:=by intros;rfl):HBd n q st [a,b,c,d]:=by intro _ _ _ _ _ _ us hl;obtain⟨_,_,_,_,rfl⟩:=LB hl;exact h _ _ _ _ _ _ _ _ _ _
theorem bd5{n q:Str}{st:Stmt}{a b c d e:Str}(h:∀ (kV dc pm:F9) (an:OG OE) (cd ct ua ub uc ud ue:F9),bindArgs (fnS n q st kV dc pm an cd ct) %[[ua,ub,uc,ud,ue]|[]]=pure [(a,ua),(b,ub),(c,uc),(d,ud),(e,ue)]:=by intros;rfl):HBd n q st [a,b,c,d,e]:=by intro _ _ _ _ _ _ us hl;obtain⟨_,_,_,_,_,rfl⟩:=LC hl;exact h _ _ _ _ _ _ _ _ _ _ _
theorem lx6{α:Type}{us:OI α}(h:us.length=6):∃a b c d e f,us=[a,b,c,d,e,f]:=by
 match us,h with
 | [a,b,c,d,e,f],_=>exact%[a,b,c,d,e,f|O]
theorem bd6{n q:Str}{st:Stmt}{a b c d e f:Str}(h:∀ (kV dc pm:F9) (an:OG OE) (cd ct ua ub uc ud ue uf:F9),bindArgs (fnS n q st kV dc pm an cd ct) %[[ua,ub,uc,ud,ue,uf]|[]]=pure [(a,ua),(b,ub),(c,uc),(d,ud),(e,ue),(f,uf)]:=by intros;rfl):HBd n q st [a,b,c,d,e,f]:=by intro _ _ _ _ _ _ us hl;obtain⟨_,_,_,_,_,_,rfl⟩:=lx6 hl;exact h _ _ _ _ _ _ _ _ _ _ _ _
theorem lx7{α:Type}{us:OI α}(h:us.length=7):∃a b c d e f g,us=[a,b,c,d,e,f,g]:=by
 match us,h with
 | [a,b,c,d,e,f,g],_=>exact%[a,b,c,d,e,f,g|O]
theorem bd7{n q:Str}{st:Stmt}{a b c d e f g:Str}(h:∀ (kV dc pm:F9) (an:OG OE) (cd ct ua ub uc ud ue uf ug:F9),bindArgs (fnS n q st kV dc pm an cd ct) %[[ua,ub,uc,ud,ue,uf,ug]|[]]=pure [(a,ua),(b,ub),(c,uc),(d,ud),(e,ue),(f,uf),(g,ug)]:=by intros;rfl):HBd n q st [a,b,c,d,e,f,g]:=by intro _ _ _ _ _ _ us hl;obtain⟨_,_,_,_,_,_,_,rfl⟩:=lx7 hl;exact h _ _ _ _ _ _ _ _ _ _ _ _ _
theorem eD{K:C4}{c:OE}(h0:PySem.W.subIn K (.ref c) (.ref c)=some true):∀{l:OI OE},(∀x∈l,PySem.W.excIn K x L2.bmVE "ValueError.__new__" = true)->(∀x∈l,PySem.W.subIn K (.ref c) (.ref x)=some false)->PySem.W.kitAny K (.ref c) (l.map Value.ref)=some false
 | [],_,_=>mU
 | x :: l,hc,hs=>lI (fW h0 (hc x B7) (hs x B7)) (eD h0 (λ y hy=>hc y (B3 _ hy)) λ y hy=>hs y (B3 _ hy))
open PySem.W in
theorem all_mk{l:OpenLaw}{w:F8}{K:Frag}{h:Heap}{mg:Str->OG F9}{fa f0 f1 f2 f3 f4 f5 f6 f7 f8 f9 f10 f11 f12 f13 f14 f15 f16 f17 f18 f19 f20 f21 f22 f23 f24 f25 f26 f27 f28 f29 f30 f31 f32 f33 f34 f35 f36 f37 f38 f39 f40 f41 f42 f43 f44 f45 f46 f47 C fm0 fm1 fm2 fm3 xWAYS x'a x'b x'c x'd x'e x'f x'g x'h x'i x'j x'k x'l x'm x'n:OE}(X:K.In h)(G:h.Ns OJ mg)(hfa:mg "law" = ↑fa)
  {tc0:Tok} {tc1:Tok} {tc2:Tok} {tc3:Tok} {tc4:Tok} {tc5:Tok} {tc6:Tok} {tc7:Tok} {tc8:Tok} {tc9:Tok}
  (d0:DI K "is_whole" kJ f0)
  (d1:DI K "is_truth" kL f1)
  (d2:DI K "is_row" wK f2)
  (d3:DI K "is_kind" ip f3)
  (d4:DI K "can_lie_turned" iq f4)
  (d5:DI K "check_plate" cf f5)
  (d6:DI K "lies_in" im f6)
  (d7:DI K "cut_parts" fu f7)
  (d8:DI K "begins_with" dD f8)
  (d9:DI K "is_cut" kM f9)
  (d10:DI K "is_leaf" io f10)
  (d11:DI K "spots_behind" cU f11)
  (d12:DI K "is_tree" fv f12)
  (d13:DI K "check_tree" cw f13)
  (d14:DI K "side_along" dY f14)
  (d15:DI K "telling_of_part" bM f15)
  (d16:DI K "telling_of" cz f16)
  (d17:DI K "part_along" dZ f17)
  (d18:DI K "way_of" kN f18)
  (d19:DI K "is_sized" gh f19)
  (d20:DI K "is_divided" cA f20)
  (d21:DI K "as_telling" ce f21)
  (d22:DI K "tree_by_telling" bD f22)
  (d23:DI K "tree_told" fz f23)
  (d24:DI K "_law_class" kR f24)
  (d25:DI K "_law_said" pO f25)
  (d26:DI K "_law_cell" pI f26)
  (d27:DI K "_law_pot" wL f27)
  (d28:DI K "_law_take" pJ f28)
  (d29:DI K "_law_unit" pK f29)
  (d30:DI K "_law_side" pL f30)
  (d31:DI K "_law_worth" kO f31)
  (d32:DI K "_law_shop" pM f32)
  (d33:DI K "_law_sides" kP f33)
  (d34:DI K "_law_lyings" ir f34)
  (d35:DI K "_law_behind" iu f35)
  (d36:DI K "_law_leaf" pN f36)
  (d37:DI K "_law_tree" jL f37)
  (d38:DI K "_law_told" jM f38)
  (d39:DI K "_law_lists" fY f39)
  (d40:DI K "_law_plain" kQ f40)
  (d41:DI K "_law_is_leaf" gi f41)
  (d42:DI K "_law_is_told" fA f42)
  (d43:DI K "_law_odd" wM f43)
  (d44:DI K "_law_row_spoilt" ej f44)
  (d45:DI K "_law_spoilt" fB f45)
  (d46:DI K "_law_tree_spoilt" cg f46)
  (d47:DI K "law" lS f47)
  (aC:nsIn K OJ "Shop" = some (↑C))
  (dm0:MI K C "__init__" "Shop.__init__" dO fm0)
  (dm1:MI K C "blade" "Shop.blade" eg fm1)
  (dm2:MI K C "is_lying" "Shop.is_lying" cV fm2)
  (dm3:MI K C "sides" "Shop.sides" eh fm3)
  (pg:plainGet K C Str.empty=true)
  (hd:hasDictIn K C=true)
  (po:plainOver K C=true)
  (sa:findIn K (.ref C) "__setattr__" = some (some (.builtin "object.__setattr__")))
  (mk:makesIn K C=true)
  (kc:keepIn K (.ref C)=true)
  (n0:findIn K (.ref C) "blade_width" = some none)
  (n1:findIn K (.ref C) "kind_rows" = some none)
  (eWAYS:nsIn K OJ "WAYS" = some (↑xWAYS))
  (e'a:nsIn K OJ "PlateError" = some (↑x'a))
  (e'b:nsIn K OJ "NoPlate" = some (↑x'b))
  (e'c:nsIn K OJ "NoTelling" = some (↑x'c))
  (e'd:nsIn K OJ "NoTree" = some (↑x'd))
  (e'e:nsIn K OJ "NoBlade" = some (↑x'e))
  (e'f:nsIn K OJ "NoKind" = some (↑x'f))
  (e'g:nsIn K OJ "NoKinds" = some (↑x'g))
  (e'h:nsIn K OJ "NoLaying" = some (↑x'h))
  (e'i:nsIn K OJ "NoLying" = some (↑x'i))
  (e'j:nsIn K OJ "NoNumber" = some (↑x'j))
  (e'k:nsIn K OJ "NoTable" = some (↑x'k))
  (e'l:nsIn K OJ "NoText" = some (↑x'l))
  (e'm:nsIn K OJ "NoWeights" = some (↑x'm))
  (e'n:nsIn K OJ "TooLarge" = some (↑x'n))
  (sysm:(K.lookup sysModules).map (·.cls)=some (.type "dict"))
  (lWAYS:∃(o:Obj)(its:OH F9)(n:Nat),K.lookup xWAYS=some o/\o.cls=.type "tuple" /\ o.data=.seq its n/\its.size<=sizeLine/\Vals [.str "down",.str "across"] its.toList)
  (c'a:excIn K x'a L2.bmVE "ValueError.__new__" = true)
  (c'b:excIn K x'b L2.bmVE "ValueError.__new__" = true)
  (c'c:excIn K x'c L2.bmVE "ValueError.__new__" = true)
  (c'd:excIn K x'd L2.bmVE "ValueError.__new__" = true)
  (cR:∀x∈[x'e,x'f,x'g,x'h,x'i,x'j,x'k,x'l],excIn K x L2.bmVE "ValueError.__new__" = true)
  (cS:∀x∈[x'm,x'n],excIn K x L2.bmVE "ValueError.__new__" = true)
  (s'ba:subIn K (.ref x'b) (.ref x'a)=some true)
  (s'bb:subIn K (.ref x'b) (.ref x'b)=some true)
  (s'bc:subIn K (.ref x'b) (.ref x'c)=some false)
  (s'bd:subIn K (.ref x'b) (.ref x'd)=some false)
  (v'b:subIn K (.ref x'b) (.type "ValueError")=some true)
  (ka'b:findIn K (.ref x'b) "__class__" = some (some (.builtin "object.__class__")))
  (kb'b:findIn K (.ref x'b) "__getattribute__" = some (some (.builtin "BaseException.__getattribute__")))
  (kc'b:findIn K (.ref x'b) "__getattr__" = some none)
  (kd'b:subIn K (.ref x'b) (.type "BaseException")=some true)
  (ke'b:subIn K (.ref x'b) (.type "object")=some true)
  (s'ca:subIn K (.ref x'c) (.ref x'a)=some true)
  (s'cb:subIn K (.ref x'c) (.ref x'b)=some false)
  (s'cc:subIn K (.ref x'c) (.ref x'c)=some true)
  (s'cd:subIn K (.ref x'c) (.ref x'd)=some false)
  (v'c:subIn K (.ref x'c) (.type "ValueError")=some true)
  (ka'c:findIn K (.ref x'c) "__class__" = some (some (.builtin "object.__class__")))
  (kb'c:findIn K (.ref x'c) "__getattribute__" = some (some (.builtin "BaseException.__getattribute__")))
  (kc'c:findIn K (.ref x'c) "__getattr__" = some none)
  (kd'c:subIn K (.ref x'c) (.type "BaseException")=some true)
  (ke'c:subIn K (.ref x'c) (.type "object")=some true)
  (s'da:subIn K (.ref x'd) (.ref x'a)=some true)
  (s'db:subIn K (.ref x'd) (.ref x'b)=some false)
  (s'dc:subIn K (.ref x'd) (.ref x'c)=some false)
  (s'dd:subIn K (.ref x'd) (.ref x'd)=some true)
  (v'd:subIn K (.ref x'd) (.type "ValueError")=some true)
  (ka'd:findIn K (.ref x'd) "__class__" = some (some (.builtin "object.__class__")))
  (kb'd:findIn K (.ref x'd) "__getattribute__" = some (some (.builtin "BaseException.__getattribute__")))
  (kc'd:findIn K (.ref x'd) "__getattr__" = some none)
  (kd'd:subIn K (.ref x'd) (.type "BaseException")=some true)
  (ke'd:subIn K (.ref x'd) (.type "object")=some true)
  (b'a:subIn K (.ref x'a) (.type "BaseException")=some true)
  (r'b:∀x∈[x'e,x'f,x'g,x'h,x'i,x'j,x'k,x'l],subIn K (.ref x'b) (.ref x)=some false)
  (t'b:∀x∈[x'm,x'n],subIn K (.ref x'b) (.ref x)=some false)
  (r'c:∀x∈[x'e,x'f,x'g,x'h,x'i,x'j,x'k,x'l],subIn K (.ref x'c) (.ref x)=some false)
  (t'c:∀x∈[x'm,x'n],subIn K (.ref x'c) (.ref x)=some false)
  (r'd:∀x∈[x'e,x'f,x'g,x'h,x'i,x'j,x'k,x'l],subIn K (.ref x'd) (.ref x)=some false)
  (t'd:∀x∈[x'm,x'n],subIn K (.ref x'd) (.ref x)=some false)
  (z0:nsIn K OJ "isinstance" = some none)
  (z1:nsIn K OJ "int" = some none)
  (z2:nsIn K OJ "bool" = some none)
  (z3:nsIn K OJ "list" = some none)
  (z4:nsIn K OJ "tuple" = some none)
  (z5:nsIn K OJ "len" = some none)
  (z6:nsIn K OJ "range" = some none)
  (z7:nsIn K OJ "max" = some none)
  (z8:nsIn K OJ "min" = some none)
  (z9:nsIn K OJ "abs" = some none)
  (z10:nsIn K OJ "divmod" = some none)
  (z11:nsIn K OJ "sum" = some none)
  (z12:nsIn K OJ "sorted" = some none)
  (z13:nsIn K OJ "all" = some none)
  (z14:nsIn K OJ "repr" = some none)
  (z15:nsIn K OJ "zip" = some none)
  (z16:nsIn K OJ "enumerate" = some none)
  (z17:nsIn K OJ "str" = some none)
  (z18:nsIn K OJ "ValueError" = some none)
  (z19:nsIn K OJ "reversed" = some none)
  (uc0:nsIn K OJ "MOST_KINDS" = some (some (.int 8 tc0)))
  (uc1:nsIn K OJ "THINGS_OF_A_KIND" = some (some (.int 5 tc1)))
  (uc2:nsIn K OJ "DOWN" = some (some (.str "down" tc2)))
  (uc3:nsIn K OJ "REST" = some (some (.str "rest" tc3)))
  (uc4:nsIn K OJ "PIECE" = some (some (.str "piece" tc4)))
  (uc5:nsIn K OJ "THINGS_OF_A_REST" = some (some (.int 1 tc5)))
  (uc6:nsIn K OJ "THINGS_OF_A_PIECE" = some (some (.int 5 tc6)))
  (uc7:nsIn K OJ "THINGS_OF_A_CUT" = some (some (.int 4 tc7)))
  (uc8:nsIn K OJ "THINGS_OF_A_CUT_TELLING" = some (some (.int 2 tc8)))
  (uc9:nsIn K OJ "LEAST_IN_A_ROW" = some (some (.int 2 tc9))) :
  ∃fd:F7,(∀(s:F5)(v:F9),BindsTo s fd %[[v]|[]] [("_law_script",v)])/\∀base:Heap,K.In base->base.Ns OJ mg->FnOk l.prog w K mg base CX0 162 fa fd ["_law_script"] (spLaw K):=by
 obtain⟨_,an,_,_,kV,dc,pm,cd,ct,a47,l47,c47,k47⟩:=d47;have F47:=mG (st:=lS) l47 c47 k47;obtain⟨_,Fm0,bm0,km0,am0,im0⟩:=miE dm0 ["self","blade","kinds"] (bd3 λ _ _ _ _ _ _ _ _ _=>rfl);obtain⟨_,Fm1,bm1,km1,am1,im1⟩:=miE dm1 ["self"] (bd1 λ _ _ _ _ _ _ _=>rfl);obtain⟨_,Fm2,bm2,km2,am2,im2⟩:=miE dm2 ["self","kind","turned"] (bd3 λ _ _ _ _ _ _ _ _ _=>rfl);obtain⟨_,Fm3,bm3,km3,am3,im3⟩:=miE dm3 ["self","kind","turned"] (bd3 λ _ _ _ _ _ _ _ _ _=>rfl);have e:=hfa.symm.trans (mg_of X G a47);cases e;have y0:=mg_none_of X G z0;have y1:=mg_none_of X G z1;have y2:=mg_none_of X G z2;have y3:=mg_none_of X G z3;have y4:=mg_none_of X G z4;have y5:=mg_none_of X G z5;have y6:=mg_none_of X G z6;have y7:=mg_none_of X G z7;have y8:=mg_none_of X G z8;have y9:=mg_none_of X G z9;have y10:=mg_none_of X G z10;have y11:=mg_none_of X G z11;have y12:=mg_none_of X G z12;have y13:=mg_none_of X G z13;have y14:=mg_none_of X G z14;have y15:=mg_none_of X G z15;have y16:=mg_none_of X G z16;have y17:=mg_none_of X G z17;have y18:=mg_none_of X G z18;have y19:=mg_none_of X G z19;have gWAYS:=mg_of X G eWAYS;have g'a:=mg_of X G e'a;have g'b:=mg_of X G e'b;have g'c:=mg_of X G e'c;have g'd:=mg_of X G e'd;have g'e:=mg_of X G e'e;have g'f:=mg_of X G e'f;have g'g:=mg_of X G e'g;have g'h:=mg_of X G e'h;have g'i:=mg_of X G e'i;have g'j:=mg_of X G e'j;have g'k:=mg_of X G e'k;have g'l:=mg_of X G e'l;have g'm:=mg_of X G e'm;have g'n:=mg_of X G e'n;have u0:=mg_of X G uc0;have u1:=mg_of X G uc1;have u2:=mg_of X G uc2;have u3:=mg_of X G uc3;have u4:=mg_of X G uc4;have u5:=mg_of X G uc5;have u6:=mg_of X G uc6;have u7:=mg_of X G uc7;have u8:=mg_of X G uc8;have u9:=mg_of X G uc9;have qC:=mg_of X G aC;refine%[fnOf "law" "law" (defArgs lS) (defBody lS) (defScope lS) .none kV dc pm an cd ct,λ s v=>.of_eq rfl|λ base _ _=>?_];have dA:=@dnA l.prog w K h mg base X G;have dX:=@dnX l.prog w K h mg base X G;have dH:=@dnH l.prog w K h mg base X G;have B:Blt mg:=%[y0,y1,y2,y3,y4,y5,y6,y7,y8,y9,y10,y11,y12,y13,y14,y15,y16,%[_|u0]|%[_|u1]]
 have T:ShopTxt K C:=%[%[pg,hd,po|sa],n0|n1]
 have SM:L2.SysIn K:=by
  cases e:K.lookup sysModules with
  | none=>rw[e]at sysm;cases sysm
  | some o=>rw[e]at sysm;exact%[o,e|B8 sysm]
 have Z:TrC K mg xWAYS:=%[%[_|u2],%[_|u3],%[_|u4],%[_|u5],%[_|u6],%[_|u7],gWAYS|λ H=>.inr lWAYS]
 have D0:=dA d0 ["thing","least"] bd2 λ _ F _=>uo F B;have D1:=dA d1 ["thing"] bd1 λ _ F _=>uq F B;have D2:=dA d2 ["thing"] bd1 λ _ F _=>zE F B;have D3:=dA d3 ["thing"] bd1 λ _ F _=>qN F B D0 D1 D2;have D4:=dA d4 ["kind"] bd1 λ _ F _=>qO F;have MB:Mn l.prog w K mg base C "blade" ["self"] 1 (fh C):=%[_,_,ur Fm1 T,bm1|%[am1,im1|km1]]
 have MI:Mn l.prog w K mg base C "is_lying" ["self","kind","turned"] 2 (fm K C):=%[_,_,nq Fm2 B T D0 D1 D4,bm2|%[am2,im2|km2]]
 have MS:Mn l.prog w K mg base C "sides" ["self","kind","turned"] 3 (spSides K C):=%[_,_,ux Fm3 T MI,bm3|%[am3,im3|km3]]
 have DS:Kn l.prog w K mg base "Shop" C ["self","blade","kinds"] 3 (mL C):=%[_,_,%[mk,am0,im0|kc],wP Fm0 B T D0 D2 D3,bm0|qC]
 have D5:=dA d5 ["wide","high"] bd2 λ _ F _=>qW F D0;have D6:=dA d6 ["shop","wide","high","kind","turned","x","y"] bd7 λ _ F _=>uA F T D0 MI MS;have D7:=dA d7 ["blade","part","way","p"] bd4 λ _ F _=>qS F Z;have D8:=dA d8 ["thing","word","many"] bd3 λ _ F _=>qR F B y17 D2;have D9:=dA d9 ["blade","spot"] bd2 λ _ F _=>zG F Z D8 D0;have D10:=dA d10 ["shop","spot"] bd2 λ _ F _=>wS F Z D8 D6;have D11:=dA d11 ["blade","spot"] bd2 λ _ F _=>qU F Z D7;have D12:=dA d12 ["shop","wide","high","thing"] bd4 λ _ F _=>jN F T MB D5 D9 D10 D11;have D13:=dA d13 ["shop","wide","high","thing"] bd4 λ _ F _=>rf F D12;have D14:=dA d14 ["part","way"] bd2 λ _ F _=>uK F Z;have D15:=dA d15 ["blade","part","tree"] bd3 λ _ F m=>lV F B Z D7 D14 (λ n h=>m h) 50 ∅;have XCP:=dX d5 ["wide", "high"] bd2 λ _ F _=>nA F g'b c'b D0;have XIT:=dX d12 ["shop","wide","high","thing"] bd4 λ _ F _=>FnOk.or (FnOk.weak (jN F T MB D5 D9 D10 D11)) (FnOk.mono (nD F XCP) ∅);have XCT:=dX d13 ["shop", "wide", "high", "thing"] bd4 λ _ F _=>nE F g'd c'd XIT;have XTO:=dX d16 ["shop","wide","high","tree"] bd4 λ _ F _=>FnOk.or (FnOk.weak (uM F T MB D13 D15)) (FnOk.mono (uY F XCT) ∅);have D17:=dA d17 ["part","way","size"] bd3 λ _ F _=>uR F Z;have D18:=dA d18 ["thing"] bd1 λ _ F _=>uS F Z %[_|u8] D8;have D19:=dA d19 ["way","thing"] bd2 λ _ F _=>uT F B D2 D0 D18;have D20:=dA d20 ["blade","side","way","row"] bd4 λ _ F _=>xf F B %[_|u9] D2 D19;have XAs:=dX d21 ["shop", "part", "thing"] bd3 λ _ F m=>pW F B T g'c c'c MB D10 D18 D14 D17 D20 (λ n h=>m h) 151;have D22:=dA d22 ["telling"] bd1 λ _ F m=>pZ F B Z y19 (λ n h=>m h) 151;have XTT:=dX d23 ["shop","wide","high","telling"] bd4 λ _ F _=>nF F B XCP XAs D22;have ZC:Cl mg x'b x'c x'd x'e x'f x'g x'h x'i x'j x'k x'l x'm x'n:=%[g'b,g'c,g'd,g'e,g'f,g'g,g'h,g'i,g'j,g'k,g'l,g'm,g'n|y18]
 have X'b:ExK K x'b:=%[ka'b,kb'b,kc'b,kd'b,ke'b|(ic c'b).1]
 have Y0:Ec K x'a x'b x'b x'c x'd x'e x'f x'g x'h x'i x'j x'k x'l x'm x'n 0:=%[X'b,iN,(fW s'bb c'c s'bc),(fW s'bb c'd s'bd),mS v'b,(eD s'bb cR r'b),(eD s'bb cS t'b)|mV c'a b'a s'ba]
 have X'c:ExK K x'c:=%[ka'c,kb'c,kc'c,kd'c,ke'c|(ic c'c).1]
 have Y1:Ec K x'a x'c x'b x'c x'd x'e x'f x'g x'h x'i x'j x'k x'l x'm x'n 1:=%[X'c,(fW s'cc c'b s'cb),iN,(fW s'cc c'd s'cd),mS v'c,(eD s'cc cR r'c),(eD s'cc cS t'c)|mV c'a b'a s'ca]
 have X'd:ExK K x'd:=%[ka'd,kb'd,kc'd,kd'd,ke'd|(ic c'd).1]
 have Y2:Ec K x'a x'd x'b x'c x'd x'e x'f x'g x'h x'i x'j x'k x'l x'm x'n 2:=%[X'd,(fW s'dd c'b s'db),(fW s'dd c'c s'dc),iN,mS v'd,(eD s'dd cR r'd),(eD s'dd cS t'd)|mV c'a b'a s'da]
 have DCl:=dH d24 ["_law_e"] bd1 λ _ F _=>FnH.or (jg F B ZC Y0 ∅) (FnH.or (jg F B ZC Y1 ∅) (jg F B ZC Y2 ∅));have D25:=dA d25 ["_law_road", "_law_made", "_law_wide", "_law_high", "_law_thing"] bd5 λ _ F _=>xI F Y0 Y1 Y2 g'a DCl XTT XTO;have D26:=dA d26 ["_law_script","_law_k"] bd2 λ _ F _=>wV F B;have D27:=dA d27 ["_law_cell_here","_law_k"] bd2 λ _ F _=>wW F B;have D28:=dA d28 ["_law_pot_here","_law_many"] bd2 λ _ F _=>wX F B;have D29:=dA d29 ["_law_pot_here"] bd1 λ _ F _=>wY F B D28;have D30:=dA d30 ["_law_pot_here","_law_unit_here","_law_most"] bd3 λ _ F _=>qY F B D28;have D31:=dA d31 ["_law_pot_here"] bd1 λ _ F _=>qZ F B D28;have D32:=dA d32 ["_law_pot_here","_law_unit_here"] bd2 λ _ F _=>uE F B D28 D30 D31;have D33:=dA d33 ["_law_shop_here","_law_kind","_law_turned"] bd3 λ _ F _=>rc F B;have D34:=dA d34 ["_law_shop_here"] bd1 λ _ F _=>nu F B;have D35:=dA d35 ["_law_shop_here","_law_wide","_law_high","_law_way","_law_p"] bd5 λ _ F _=>zI F B;have D36:=dA d36 ["_law_pot_here","_law_shop_here","_law_wide","_law_high"] bd4 λ _ F _=>uF F B D28 D33 D34;have D37:=dA d37 ["_law_pot_here","_law_shop_here","_law_wide","_law_high","_law_deep","_law_room"] bd6 λ _ F m=>jQ F B D28 D35 D36 (λ n h=>m h) 11;have D38:=dA d38 ["_law_shop_here","_law_wide","_law_high","_law_tree_here"] bd4 λ _ F m=>lW F B D35 (λ n h=>m h) 50 ∅;have D39:=dA d39 ["_law_pot_here","_law_thing"] bd2 λ _ F m=>jT F B D28 (λ n h=>m h) 152;have D40:=dA d40 ["_law_thing","_law_least"] bd2 λ _ F _=>vd F B;have D41:=dA d41 ["_law_shop_here","_law_wide","_law_high","_law_told_here"] bd4 λ _ F _=>xj F B D40 D33 D34;have D42:=dA d42 ["_law_shop_here","_law_wide","_law_high","_law_told_here"] bd4 λ _ F m=>jd F B y17 D40 D41 (λ n h=>m h) 151;have D43:=dA d43 ["_law_pot_here"] bd1 λ _ F _=>xD F B D28;have D44:=dA d44 ["_law_pot_here","_law_row"] bd2 λ _ F _=>xE F B D28 D43;have D45:=dA d45 ["_law_pot_here","_law_told_here"] bd2 λ _ F m=>jV F B D28 D43 D44 (λ n h=>m h) 60;have D46:=dA d46 ["_law_pot_here","_law_tree_here"] bd2 λ _ F m=>qk F B D28 (λ n h=>m h) 50;exact zY F47 B SM D26 D27 D28 D29 D32 D30 D37 D38 D45 D43 D42 D25 D39 D46 DS
theorem walk{l:PySem.W.OpenLaw}{q:F6}{loose:OI Str}{XP:(Str->OG F9)->Heap->Prop}{YP:F8->Heap->Prop}{d:DefRec}{K:Params->C4}(hn:l.most=some 63)(hdf:d.params.defaults=[])
  (hY:∀(w:F8)(h:Heap),YP w h->(K w.params).In h)
  (F:∀(w:F8)(mg:Str->OG F9)(fa:OE)(h:Heap),(K w.params).In h->h.Ns OJ mg->mg d.name=↑fa ->
   ∃fd:F7,(∀(s:F5)(u:F9),BindsTo s fd %[[u]|[]] [("_law_script",u)])/\∀base:Heap,(K w.params).In base->base.Ns OJ mg->FnOk l.prog w (K w.params) mg base CX0 162 fa fd ["_law_script"] (spLaw (K w.params))) :
  PySem.W.WalkO q loose XP YP l.row.toRowW d [] (λ f vs=>PySem.call f vs) :=
 L2.walk_of (n:=63) (k:=162) (x := "_law_script") (CX:=λ _=>CX0) (sp:=λ w=>spLaw (K w.params)) hn ∅ hdf %[rfl,∅,∅|rfl] hY F (λ _ _ a ns hl _ hS=>%[a,ns,O,hS,hl|λ _=>rfl]) λ _ _ _ _ _ z=>z
end Pc
namespace Pc
open PySem L2
section
open PySem.W
def kE(P:Params)(n:Str)(t:Nat)(v:F9):DictEntry:=%[PyData.keyHash P n,.str n t|v]
def kO3(P:Params):Obj:=%[(.type "dict"),none,(.dict #[kE P "__name__" 165 (.str "law_platecuts_k84_tellings_refused" 772),kE P "__doc__" 166 .none,kE P "__package__" 167 .none,kE P "__loader__" 168 (.builtin "__main__.__loader__#opaque"),kE P "__spec__" 169 .none,kE P "__annotations__" 170 (.ref 6),kE P "__builtins__" 171 (.ref 4),kE P "__file__" 173 (.str "/claim/cut.py" 172),kE P "__cached__" 174 .none,kE P "_wall" 193 (.ref 21),kE P "PlateError" 213 (.ref 31),kE P "NoBlade" 229 (.ref 44),kE P "NoKinds" 245 (.ref 56),kE P "NoKind" 261 (.ref 68),kE P "NoLying" 277 (.ref 80),kE P "NoText" 293 (.ref 92),kE P "NoPlate" 309 (.ref 104),kE P "NoTree" 325 (.ref 116),kE P "NoLaying" 341 (.ref 128),kE P "TooLarge" 357 (.ref 140),kE P "NoTable" 373 (.ref 152),kE P "NoNumber" 389 (.ref 164),kE P "NoWeights" 405 (.ref 176),kE P "NoTelling" 421 (.ref 188),kE P "is_whole" 431 (.ref 197),kE P "is_truth" 438 (.ref 204),kE P "is_row" 445 (.ref 211),kE P "check_plate" 453 (.ref 218),kE P "DOWN" 457 (.str "down" 456),kE P "ACROSS" 459 (.str "across" 458),kE P "WAYS" 460 (.ref 219),kE P "lies_in" 475 (.ref 226),kE P "cut_parts" 487 (.ref 233),kE P "REST" 491 (.str "rest" 490),kE P "PIECE" 493 (.str "piece" 492),kE P "THINGS_OF_A_REST" 495 (.int 1 494),kE P "THINGS_OF_A_PIECE" 497 (.int 5 496),kE P "THINGS_OF_A_CUT" 499 (.int 4 498),kE P "begins_with" 508 (.ref 240),kE P "is_cut" 519 (.ref 247),kE P "is_leaf" 532 (.ref 254),kE P "spots_behind" 556 (.ref 261),kE P "is_tree" 569 (.ref 268),kE P "check_tree" 579 (.ref 275),kE P "THINGS_OF_A_CUT_TELLING" 583 (.int 2 582),kE P "LEAST_IN_A_ROW" 585 (.int 2 584),kE P "side_along" 593 (.ref 282),kE P "part_along" 602 (.ref 289),kE P "telling_of_part" 618 (.ref 296),kE P "telling_of" 628 (.ref 303),kE P "way_of" 636 (.ref 310),kE P "is_sized" 644 (.ref 317),kE P "is_divided" 650 (.ref 322),kE P "as_telling" 656 (.ref 327),kE P "tree_by_telling" 662 (.ref 332),kE P "tree_told" 672 (.ref 339),kE P "MOST_KINDS" 676 (.int 8 675),kE P "THINGS_OF_A_KIND" 678 (.int 5 677),kE P "is_kind" 690 (.ref 346),kE P "can_lie_turned" 697 (.ref 353),kE P "Shop" 771 (.ref 408),kE P "_law_cell" 781 (.ref 419),kE P "_law_pot" 789 (.ref 426),kE P "_law_take" 798 (.ref 433),kE P "_law_unit" 806 (.ref 440),kE P "_law_side" 815 (.ref 447),kE P "_law_worth" 823 (.ref 454),kE P "_law_shop" 836 (.ref 461),kE P "_law_sides" 847 (.ref 468),kE P "_law_lyings" 857 (.ref 475),kE P "_law_behind" 868 (.ref 482),kE P "_law_leaf" 882 (.ref 489),kE P "_law_tree" 900 (.ref 496),kE P "_law_told" 919 (.ref 503),kE P "_law_lists" 925 (.ref 508),kE P "_law_plain" 933 (.ref 515),kE P "_law_is_leaf" 944 (.ref 522),kE P "_law_is_told" 957 (.ref 529),kE P "_law_odd" 965 (.ref 536),kE P "_law_row_spoilt" 977 (.ref 543),kE P "_law_spoilt" 990 (.ref 550),kE P "_law_tree_spoilt" 1004 (.ref 557),kE P "_law_class" 1013 (.ref 564),kE P "_law_said" 1026 (.ref 571),kE P "law" 1049 (.ref 578)] 85)|#[]]
def gk0(x0:Str)(x1:Nat)(x2:Str)(x3 x4 x5 x6 x7 x8 x9 x10 x11 x12 x13:Nat)(P:Params):Obj:=%[(.type "code"),none,(.fields #[.str x0 x1,.str x2 x3,.str "/claim/cut.py" x4,.int x5 0,.int x6 0,.int 0 0,.int 0 0,.int 3 0,.ref x7,.bool true,.int 181 0,.ref x8,.none,.ref x9,.ref x10,.ref x11,.int x12 0,.int x5 0,.str "/claim/cut.py" x13])|#[]]
def LD:=gk0 "_wall" 187 "_wall" 188 189 1 1 15 16 17 18 19 191 192
def gk1(x0 x1:Str)(x2:Stmt)(x3:Str)(x4 x5:Nat)(P:Params):Obj:=%[(.type "function"),none,(.func (fnOf x0 x1 (defArgs x2) (defBody x2) (defScope x2) .none .none .none (.str x3 x4) none (.ref x5) .none))|#[]]
def LE:=gk1 "_wall" "_wall" Eu "__main__" 164 20
def LF(P:Params):Obj:=%[(.type "dict"),none,(.dict #[kE P "__module__" 203 (.str "platecuts.errors" 194),kE P "__firstlineno__" 207 (.int 5 206),kE P "__static_attributes__" 208 (.ref 29),kE P "__weakref__" 210 (.ref 32),kE P "__doc__" 211 .none] 3)|#[]]
def LH(P:Params):Obj:=%[(.type "type"),none,(.cls %["PlateError",[.type "ValueError"],[.ref 31,.type "ValueError",.type "Exception",.type "BaseException",.type "object"],30,"PlateError",true,[],[.ref 44,.ref 56,.ref 68,.ref 80,.ref 92,.ref 104,.ref 116,.ref 128,.ref 140,.ref 152,.ref 164,.ref 176,.ref 188],false,none|false])|#[↑22,none,some (.str "PlateError" 196),some (.str "PlateError" 204),some (.builtin "ValueError.__new__"),some (.bool true)]]
def gk2(x0 x1 x2 x3 x4 x5 x6:Nat)(P:Params):Obj:=%[(.type "dict"),none,(.dict #[kE P "__module__" x0 (.str "platecuts.errors" 194),kE P "__firstlineno__" x1 (.int x2 x3),kE P "__static_attributes__" x4 (.ref x5),kE P "__doc__" x6 .none] 2)|#[]]
def LI:=gk2 221 225 7 224 226 42 227
def gk3(x0:Str)(x1 x2 x3 x4 x5:Nat)(P:Params):Obj:=%[(.type "type"),none,(.cls %[x0,[.ref 31],[.ref x1,.ref 31,.type "ValueError",.type "Exception",.type "BaseException",.type "object"],x2,x0,true,[],[],false,none|false])|#[↑x3,none,some (.str x0 x4),some (.str x0 x5),some (.builtin "ValueError.__new__"),some (.bool true)]]
def LJ:=gk3 "NoBlade" 44 43 35 214 222
def LK:=gk2 237 241 9 240 242 54 243
def LL:=gk3 "NoKinds" 56 55 47 230 238
def LM:=gk2 253 257 11 256 258 66 259
def LN:=gk3 "NoKind" 68 67 59 246 254
def LO:=gk2 269 273 13 272 274 78 275
def LP:=gk3 "NoLying" 80 79 71 262 270
def LQ:=gk2 285 289 15 288 290 90 291
def LR:=gk3 "NoText" 92 91 83 278 286
def EF:=gk2 301 305 17 304 306 102 307
def EG:=gk3 "NoPlate" 104 103 95 294 302
def EH:=gk2 317 321 19 320 322 114 323
def EI:=gk3 "NoTree" 116 115 107 310 318
def EJ:=gk2 333 337 21 336 338 126 339
def EK:=gk3 "NoLaying" 128 127 119 326 334
def EL:=gk2 349 353 23 352 354 138 355
def EM:=gk3 "TooLarge" 140 139 131 342 350
def EN:=gk2 365 369 25 368 370 150 371
def EO:=gk3 "NoTable" 152 151 143 358 366
def EQ:=gk2 381 385 27 384 386 162 387
def ER:=gk3 "NoNumber" 164 163 155 374 382
def ES:=gk2 397 401 29 400 402 174 403
def ET:=gk3 "NoWeights" 176 175 167 390 398
def EU:=gk2 413 417 31 416 418 186 419
def EV:=gk3 "NoTelling" 188 187 179 406 414
def EW:=gk0 "is_whole" 424 "is_whole" 425 426 34 2 191 192 193 194 195 429 430
def EY:=gk1 "is_whole" "is_whole" kJ "platecuts.checks" 422 196
def EZ:=gk0 "is_truth" 432 "is_truth" 433 434 36 1 198 199 200 201 202 436 437
def Fa:=gk1 "is_truth" "is_truth" kL "platecuts.checks" 422 203
def Fb:=gk0 "is_row" 439 "is_row" 440 441 38 1 205 206 207 208 209 443 444
def Fc:=gk1 "is_row" "is_row" wK "platecuts.checks" 422 210
def Fd:=gk0 "check_plate" 446 "check_plate" 447 448 40 2 212 213 214 215 216 451 452
def Fe:=gk1 "check_plate" "check_plate" cf "platecuts.checks" 422 217
def Ff(P:Params):Obj:=%[(.type "tuple"),none,(.seq #[.str "down" 456,.str "across" 458] 0)|#[]]
def Fg:=gk0 "lies_in" 461 "lies_in" 462 463 47 7 220 221 222 223 224 473 474
def Fh:=gk1 "lies_in" "lies_in" im "platecuts.parts" 454 225
def Fi:=gk0 "cut_parts" 476 "cut_parts" 477 478 52 4 227 228 229 230 231 485 486
def Fj:=gk1 "cut_parts" "cut_parts" fu "platecuts.parts" 454 232
def Fk:=gk0 "begins_with" 500 "begins_with" 501 502 63 3 234 235 236 237 238 506 507
def Fl:=gk1 "begins_with" "begins_with" dD "platecuts.trees" 488 239
def Fm:=gk0 "is_cut" 509 "is_cut" 510 511 67 2 241 242 243 244 245 517 518
def Fn:=gk1 "is_cut" "is_cut" kM "platecuts.trees" 488 246
def Fo:=gk0 "is_leaf" 520 "is_leaf" 521 522 74 2 248 249 250 251 252 530 531
def Fp:=gk1 "is_leaf" "is_leaf" io "platecuts.trees" 488 253
def Fq:=gk0 "spots_behind" 533 "spots_behind" 534 535 79 2 255 256 257 258 259 554 555
def Fs:=gk1 "spots_behind" "spots_behind" cU "platecuts.trees" 488 260
def Ft:=gk0 "is_tree" 557 "is_tree" 558 559 86 4 262 263 264 265 266 567 568
def Fu:=gk1 "is_tree" "is_tree" fv "platecuts.trees" 488 267
def Fv:=gk0 "check_tree" 570 "check_tree" 571 572 97 4 269 270 271 272 273 577 578
def Fw:=gk1 "check_tree" "check_tree" cw "platecuts.trees" 488 274
def Fy:=gk0 "side_along" 586 "side_along" 587 588 103 2 276 277 278 279 280 591 592
def Fz:=gk1 "side_along" "side_along" dY "platecuts.tellings" 580 281
def FA:=gk0 "part_along" 594 "part_along" 595 596 105 3 283 284 285 286 287 600 601
def FB:=gk1 "part_along" "part_along" dZ "platecuts.tellings" 580 288
def FC:=gk0 "telling_of_part" 603 "telling_of_part" 604 605 107 3 290 291 292 293 294 616 617
def FD:=gk1 "telling_of_part" "telling_of_part" bM "platecuts.tellings" 580 295
def FE:=gk0 "telling_of" 619 "telling_of" 620 621 121 4 297 298 299 300 301 626 627
def FF:=gk1 "telling_of" "telling_of" cz "platecuts.tellings" 580 302
def FG:=gk0 "way_of" 629 "way_of" 630 631 124 1 304 305 306 307 308 634 635
def FH:=gk1 "way_of" "way_of" kN "platecuts.tellings" 580 309
def FI:=gk0 "is_sized" 637 "is_sized" 638 639 129 2 311 312 313 314 315 642 643
def FJ:=gk1 "is_sized" "is_sized" gh "platecuts.tellings" 580 316
def gk4(x0:Str)(x1:Nat)(x2:Str)(x3 x4 x5 x6 x7 x8 x9 x10 x11:Nat)(P:Params):Obj:=%[(.type "code"),none,(.fields #[.str x0 x1,.str x2 x3,.str "/claim/cut.py" x4,.int x5 0,.int x6 0,.int 0 0,.int 0 0,.int 3 0,.ref x7,.bool true,.int 181 0,.ref x8,.none,.none,.none,.ref x9,.int x10 0,.int x5 0,.str "/claim/cut.py" x11])|#[]]
def FK:=gk4 "is_divided" 645 "is_divided" 646 647 131 4 318 319 320 648 649
def FL:=gk1 "is_divided" "is_divided" cA "platecuts.tellings" 580 321
def FM:=gk4 "as_telling" 651 "as_telling" 652 653 135 3 323 324 325 654 655
def FN:=gk1 "as_telling" "as_telling" ce "platecuts.tellings" 580 326
def FO:=gk4 "tree_by_telling" 657 "tree_by_telling" 658 659 147 1 328 329 330 660 661
def FP:=gk1 "tree_by_telling" "tree_by_telling" bD "platecuts.tellings" 580 331
def FQ:=gk0 "tree_told" 663 "tree_told" 664 665 156 4 333 334 335 336 337 670 671
def FR:=gk1 "tree_told" "tree_told" fz "platecuts.tellings" 580 338
def FS:=gk0 "is_kind" 679 "is_kind" 680 681 162 1 340 341 342 343 344 688 689
def FT:=gk1 "is_kind" "is_kind" ip "platecuts.shops" 673 345
def FU:=gk0 "can_lie_turned" 691 "can_lie_turned" 692 693 169 1 347 348 349 350 351 695 696
def FV:=gk1 "can_lie_turned" "can_lie_turned" iq "platecuts.shops" 673 352
def FW:=gk4 "__init__" 710 "Shop.__init__" 711 712 173 3 361 362 363 713 714
def FX:=gk1 "__init__" "Shop.__init__" dO "platecuts.shops" 673 364
def FY:=gk0 "blade" 716 "Shop.blade" 717 718 184 1 366 367 368 369 370 720 721
def FZ:=gk1 "blade" "Shop.blade" eg "platecuts.shops" 673 371
def Ga:=gk0 "kinds" 723 "Shop.kinds" 724 725 187 1 373 374 375 376 377 727 728
def Gb:=gk1 "kinds" "Shop.kinds" nj "platecuts.shops" 673 378
def Gc:=gk4 "wanted" 730 "Shop.wanted" 731 732 190 1 380 381 382 733 734
def Gd:=gk1 "wanted" "Shop.wanted" lQ "platecuts.shops" 673 383
def Ge:=gk0 "lyings" 736 "Shop.lyings" 737 738 193 1 385 386 387 388 389 740 741
def Gf:=gk1 "lyings" "Shop.lyings" lR "platecuts.shops" 673 390
def Gg:=gk0 "is_lying" 743 "Shop.is_lying" 744 745 196 3 392 393 394 395 396 749 750
def Gh:=gk1 "is_lying" "Shop.is_lying" cV "platecuts.shops" 673 397
def Gi:=gk0 "sides" 752 "Shop.sides" 753 754 201 3 399 400 401 402 403 759 760
def Gj:=gk1 "sides" "Shop.sides" eh "platecuts.shops" 673 404
def Gk(P:Params):Obj:=%[(.type "dict"),none,(.dict #[kE P "__module__" 705 (.str "platecuts.shops" 673),kE P "__firstlineno__" 709 (.int 171 708),kE P "__init__" 715 (.ref 365),kE P "blade" 722 (.ref 372),kE P "kinds" 729 (.ref 379),kE P "wanted" 735 (.ref 384),kE P "lyings" 742 (.ref 391),kE P "is_lying" 751 (.ref 398),kE P "sides" 761 (.ref 405),kE P "__static_attributes__" 764 (.ref 406),kE P "__dict__" 766 (.ref 409),kE P "__weakref__" 768 (.ref 410),kE P "__doc__" 769 .none] 4)|#[]]
def Gm(P:Params):Obj:=%[(.type "type"),none,(.cls %["Shop",[.type "object"],[.ref 408,.type "object"],407,"Shop",true,[],[],false,none|false])|#[none,none,some (.str "Shop" 698),some (.str "Shop" 706),some (.builtin "object.__new__"),some (.bool true)]]
def Gn:=gk0 "_law_cell" 774 "_law_cell" 775 776 209 2 413 414 415 416 417 779 780
def Go:=gk1 "_law_cell" "_law_cell" pI "law_platecuts_k84_tellings_refused" 772 418
def Gp:=gk0 "_law_pot" 782 "_law_pot" 783 784 213 2 420 421 422 423 424 787 788
def Gq:=gk1 "_law_pot" "_law_pot" wL "law_platecuts_k84_tellings_refused" 772 425
def Gr:=gk0 "_law_take" 790 "_law_take" 791 792 215 2 427 428 429 430 431 796 797
def Gs:=gk1 "_law_take" "_law_take" pJ "law_platecuts_k84_tellings_refused" 772 432
def Gu:=gk0 "_law_unit" 799 "_law_unit" 800 801 222 1 434 435 436 437 438 804 805
def Gv:=gk1 "_law_unit" "_law_unit" pK "law_platecuts_k84_tellings_refused" 772 439
def Gw:=gk0 "_law_side" 807 "_law_side" 808 809 225 3 441 442 443 444 445 813 814
def Gx:=gk1 "_law_side" "_law_side" pL "law_platecuts_k84_tellings_refused" 772 446
def Gy:=gk0 "_law_worth" 816 "_law_worth" 817 818 229 1 448 449 450 451 452 821 822
def Gz:=gk1 "_law_worth" "_law_worth" kO "law_platecuts_k84_tellings_refused" 772 453
def GA:=gk0 "_law_shop" 824 "_law_shop" 825 826 232 2 455 456 457 458 459 834 835
def GB:=gk1 "_law_shop" "_law_shop" pM "law_platecuts_k84_tellings_refused" 772 460
def GC:=gk0 "_law_sides" 837 "_law_sides" 838 839 240 3 462 463 464 465 466 845 846
def GD:=gk1 "_law_sides" "_law_sides" kP "law_platecuts_k84_tellings_refused" 772 467
def GE:=gk0 "_law_lyings" 848 "_law_lyings" 849 850 243 1 469 470 471 472 473 855 856
def GF:=gk1 "_law_lyings" "_law_lyings" ir "law_platecuts_k84_tellings_refused" 772 474
def GG:=gk0 "_law_behind" 858 "_law_behind" 859 860 250 5 476 477 478 479 480 866 867
def GH:=gk1 "_law_behind" "_law_behind" iu "law_platecuts_k84_tellings_refused" 772 481
def GI:=gk0 "_law_leaf" 869 "_law_leaf" 870 871 254 4 483 484 485 486 487 880 881
def GJ:=gk1 "_law_leaf" "_law_leaf" pN "law_platecuts_k84_tellings_refused" 772 488
def GK:=gk0 "_law_tree" 883 "_law_tree" 884 885 265 6 490 491 492 493 494 898 899
def GL:=gk1 "_law_tree" "_law_tree" jL "law_platecuts_k84_tellings_refused" 772 495
def GM:=gk0 "_law_told" 901 "_law_told" 902 903 276 4 497 498 499 500 501 917 918
def GN:=gk1 "_law_told" "_law_told" jM "law_platecuts_k84_tellings_refused" 772 502
def GO:=gk4 "_law_lists" 920 "_law_lists" 921 922 291 2 504 505 506 923 924
def GP:=gk1 "_law_lists" "_law_lists" fY "law_platecuts_k84_tellings_refused" 772 507
def GQ:=gk0 "_law_plain" 926 "_law_plain" 927 928 295 2 509 510 511 512 513 931 932
def GR:=gk1 "_law_plain" "_law_plain" kQ "law_platecuts_k84_tellings_refused" 772 514
def GS:=gk0 "_law_is_leaf" 934 "_law_is_leaf" 935 936 297 4 516 517 518 519 520 942 943
def GT:=gk1 "_law_is_leaf" "_law_is_leaf" gi "law_platecuts_k84_tellings_refused" 772 521
def GU:=gk0 "_law_is_told" 945 "_law_is_told" 946 947 304 4 523 524 525 526 527 955 956
def GV:=gk1 "_law_is_told" "_law_is_told" fA "law_platecuts_k84_tellings_refused" 772 528
def GW:=gk0 "_law_odd" 958 "_law_odd" 959 960 322 1 530 531 532 533 534 963 964
def GX:=gk1 "_law_odd" "_law_odd" wM "law_platecuts_k84_tellings_refused" 772 535
def GY:=gk0 "_law_row_spoilt" 966 "_law_row_spoilt" 967 968 325 2 537 538 539 540 541 975 976
def GZ:=gk1 "_law_row_spoilt" "_law_row_spoilt" ej "law_platecuts_k84_tellings_refused" 772 542
def Hh:=gk0 "_law_spoilt" 978 "_law_spoilt" 979 980 340 2 544 545 546 547 548 988 989
def Hi:=gk1 "_law_spoilt" "_law_spoilt" fB "law_platecuts_k84_tellings_refused" 772 549
def Hj:=gk0 "_law_tree_spoilt" 991 "_law_tree_spoilt" 992 993 355 2 551 552 553 554 555 1002 1003
def Hk:=gk1 "_law_tree_spoilt" "_law_tree_spoilt" cg "law_platecuts_k84_tellings_refused" 772 556
def Hl:=gk0 "_law_class" 1005 "_law_class" 1006 1007 368 1 558 559 560 561 562 1011 1012
def Hm:=gk1 "_law_class" "_law_class" kR "law_platecuts_k84_tellings_refused" 772 563
def Ho:=gk0 "_law_said" 1014 "_law_said" 1015 1016 374 5 565 566 567 568 569 1024 1025
def Hq:=gk1 "_law_said" "_law_said" pO "law_platecuts_k84_tellings_refused" 772 570
def Hs:=gk0 "law" 1027 "law" 1028 1029 384 1 572 573 574 575 576 1047 1048
def Ht:=gk1 "law" "law" lS "law_platecuts_k84_tellings_refused" 772 577
def kK:Params->Frag:=λ P=>(nat_lit 1,boot_o_1 P) :: (nat_lit 3,kO3 P) :: (nat_lit 20,LD P) :: (nat_lit 21,LE P) :: (nat_lit 30,LF P) :: (nat_lit 31,LH P) :: (nat_lit 43,LI P) :: (nat_lit 44,LJ P) :: (nat_lit 55,LK P) :: (nat_lit 56,LL P) :: (nat_lit 67,LM P) :: (nat_lit 68,LN P) :: (nat_lit 79,LO P) :: (nat_lit 80,LP P) :: (nat_lit 91,LQ P) :: (nat_lit 92,LR P) :: (nat_lit 103,EF P) :: (nat_lit 104,EG P) :: (nat_lit 115,EH P) :: (nat_lit 116,EI P) :: (nat_lit 127,EJ P) :: (nat_lit 128,EK P) :: (nat_lit 139,EL P) :: (nat_lit 140,EM P) :: (nat_lit 151,EN P) :: (nat_lit 152,EO P) :: (nat_lit 163,EQ P) :: (nat_lit 164,ER P) :: (nat_lit 175,ES P) :: (nat_lit 176,ET P) :: (nat_lit 187,EU P) :: (nat_lit 188,EV P) :: (nat_lit 196,EW P) :: (nat_lit 197,EY P) :: (nat_lit 203,EZ P) :: (nat_lit 204,Fa P) :: (nat_lit 210,Fb P) :: (nat_lit 211,Fc P) :: (nat_lit 217,Fd P) :: (nat_lit 218,Fe P) :: (nat_lit 219,Ff P) :: (nat_lit 225,Fg P) :: (nat_lit 226,Fh P) :: (nat_lit 232,Fi P) :: (nat_lit 233,Fj P) :: (nat_lit 239,Fk P) :: (nat_lit 240,Fl P) :: (nat_lit 246,Fm P) :: (nat_lit 247,Fn P) :: (nat_lit 253,Fo P) :: (nat_lit 254,Fp P) :: (nat_lit 260,Fq P) :: (nat_lit 261,Fs P) :: (nat_lit 267,Ft P) :: (nat_lit 268,Fu P) :: (nat_lit 274,Fv P) :: (nat_lit 275,Fw P) :: (nat_lit 281,Fy P) :: (nat_lit 282,Fz P) :: (nat_lit 288,FA P) :: (nat_lit 289,FB P) :: (nat_lit 295,FC P) :: (nat_lit 296,FD P) :: (nat_lit 302,FE P) :: (nat_lit 303,FF P) :: (nat_lit 309,FG P) :: (nat_lit 310,FH P) :: (nat_lit 316,FI P) :: (nat_lit 317,FJ P) :: (nat_lit 321,FK P) :: (nat_lit 322,FL P) :: (nat_lit 326,FM P) :: (nat_lit 327,FN P) :: (nat_lit 331,FO P) :: (nat_lit 332,FP P) :: (nat_lit 338,FQ P) :: (nat_lit 339,FR P) :: (nat_lit 345,FS P) :: (nat_lit 346,FT P) :: (nat_lit 352,FU P) :: (nat_lit 353,FV P) :: (nat_lit 364,FW P) :: (nat_lit 365,FX P) :: (nat_lit 371,FY P) :: (nat_lit 372,FZ P) :: (nat_lit 378,Ga P) :: (nat_lit 379,Gb P) :: (nat_lit 383,Gc P) :: (nat_lit 384,Gd P) :: (nat_lit 390,Ge P) :: (nat_lit 391,Gf P) :: (nat_lit 397,Gg P) :: (nat_lit 398,Gh P) :: (nat_lit 404,Gi P) :: (nat_lit 405,Gj P) :: (nat_lit 407,Gk P) :: (nat_lit 408,Gm P) :: (nat_lit 418,Gn P) :: (nat_lit 419,Go P) :: (nat_lit 425,Gp P) :: (nat_lit 426,Gq P) :: (nat_lit 432,Gr P) :: (nat_lit 433,Gs P) :: (nat_lit 439,Gu P) :: (nat_lit 440,Gv P) :: (nat_lit 446,Gw P) :: (nat_lit 447,Gx P) :: (nat_lit 453,Gy P) :: (nat_lit 454,Gz P) :: (nat_lit 460,GA P) :: (nat_lit 461,GB P) :: (nat_lit 467,GC P) :: (nat_lit 468,GD P) :: (nat_lit 474,GE P) :: (nat_lit 475,GF P) :: (nat_lit 481,GG P) :: (nat_lit 482,GH P) :: (nat_lit 488,GI P) :: (nat_lit 489,GJ P) :: (nat_lit 495,GK P) :: (nat_lit 496,GL P) :: (nat_lit 502,GM P) :: (nat_lit 503,GN P) :: (nat_lit 507,GO P) :: (nat_lit 508,GP P) :: (nat_lit 514,GQ P) :: (nat_lit 515,GR P) :: (nat_lit 521,GS P) :: (nat_lit 522,GT P) :: (nat_lit 528,GU P) :: (nat_lit 529,GV P) :: (nat_lit 535,GW P) :: (nat_lit 536,GX P) :: (nat_lit 542,GY P) :: (nat_lit 543,GZ P) :: (nat_lit 549,Hh P) :: (nat_lit 550,Hi P) :: (nat_lit 556,Hj P) :: (nat_lit 557,Hk P) :: (nat_lit 563,Hl P) :: (nat_lit 564,Hm P) :: (nat_lit 570,Ho P) :: (nat_lit 571,Hq P) :: (nat_lit 577,Hs P) :: (nat_lit 578,Ht P) :: []
end
end Pc
abbrev PySem.W.Fast.tw3534037382920594842:PySem.Program:=PySem.Challenge.pw_platecuts_k84_tellings_refused
theorem PySem.W.Fast.te3534037382920594842:PySem.Challenge.pw_platecuts_k84_tellings_refused=PySem.W.Fast.tw3534037382920594842:=rfl
namespace Hd
open PySem PySem.W
def S0:Str:="__name__"
def S2:Str:="__doc__"
def S3:Str:="__package__"
def S4:Str:="__loader__"
def S5:Str:="__spec__"
def Hu:Str:="__main__"
def Ab:Str:="__annotations__"
def Ac:Str:="__builtins__"
def Ad:Str:="__file__"
def lj:Str:=%[|%[|[47,99,108,97,105,109,47,99,117,116,46,112,121]]]
def Ae:Str:="__cached__"
def LU:Str:="<module>"
def eH:Str:="platecuts.errors"
def mf:Str:="_wall"
def gu:Str:="PlateError"
def nO:Str:="NoBlade"
def nP:Str:="NoKinds"
def nQ:Str:="NoKind"
def nR:Str:="NoLying"
def nS:Str:="NoText"
def nT:Str:="NoPlate"
def nU:Str:="NoTree"
def nV:Str:="NoLaying"
def LV:Str:="k"
def vB:Str:="__module__"
def Hv:Str:="__qualname__"
def vC:Str:="__firstlineno__"
def vD:Str:="__static_attributes__"
def Af:Str:="__weakref__"
def nW:Str:="platecuts.shops"
def rC:Str:="TooLarge"
def rD:Str:="NoTable"
def rE:Str:="NoNumber"
def rF:Str:="NoWeights"
def rG:Str:="NoTelling"
def nX:Str:="is_whole"
def nY:Str:="is_truth"
def nZ:Str:="is_row"
def og:Str:="check_plate"
def Ag:Str:="DOWN"
def Ah:Str:="down"
def Ai:Str:="ACROSS"
def Aj:Str:="across"
def Ak:Str:="WAYS"
def oh:Str:="lies_in"
def oi:Str:="cut_parts"
def Al:Str:="REST"
def Hw:Str:="rest"
def Am:Str:="PIECE"
def HA:Str:="piece"
def An:Str:="THINGS_OF_A_REST"
def Ao:Str:="THINGS_OF_A_PIECE"
def Ap:Str:="THINGS_OF_A_CUT"
def oj:Str:="begins_with"
def om:Str:="is_cut"
def oq:Str:="is_leaf"
def ot:Str:="spots_behind"
def ou:Str:="is_tree"
def oz:Str:="check_tree"
def Aq:Str:="THINGS_OF_A_CUT_TELLING"
def Ar:Str:="LEAST_IN_A_ROW"
def oA:Str:="side_along"
def oB:Str:="part_along"
def oC:Str:="telling_of_part"
def oE:Str:="telling_of"
def oF:Str:="way_of"
def oG:Str:="is_sized"
def oH:Str:="is_divided"
def oI:Str:="as_telling"
def oJ:Str:="tree_by_telling"
def oK:Str:="tree_told"
def As:Str:="MOST_KINDS"
def At:Str:="THINGS_OF_A_KIND"
def oM:Str:="is_kind"
def oN:Str:="can_lie_turned"
def lp:Str:="thing"
def LW:Str:="least"
def xM:Str:="platecuts.checks"
def jm:Str:="wide"
def jn:Str:="high"
def rH:Str:="shop"
def xN:Str:="kind"
def Au:Str:="turned"
def Av:Str:="x"
def Aw:Str:="y"
def LY:Str:="piece_wide"
def Ma:Str:="piece_high"
def HB:Str:="platecuts.parts"
def jo:Str:="blade"
def xO:Str:="part"
def mh:Str:="way"
def HD:Str:="p"
def Mb:Str:="word"
def Mc:Str:="many"
def rJ:Str:="platecuts.trees"
def xP:Str:="spot"
def vE:Str:="tree"
def Md:Str:="side"
def HE:Str:="first"
def HF:Str:="second"
def Me:Str:="wide_ahead"
def Mf:Str:="high_ahead"
def Mg:Str:="wide_behind"
def Mh:Str:="high_behind"
def Mi:Str:="step"
def Mj:Str:="far_x"
def Ml:Str:="far_y"
def HG:Str:="waiting"
def jp:Str:="platecuts.tellings"
def Mm:Str:="size"
def HI:Str:="row"
def Mo:Str:="inner_part"
def Mp:Str:="inner_tree"
def Mq:Str:="telling"
def Mr:Str:="worth"
def rK:Str:="wanted"
def Ms:Str:="turns"
def cP:Str:="law_platecuts_k84_tellings_refused"
def mi:Str:="Shop"
def rL:Str:="_law_cell"
def rM:Str:="_law_pot"
def rN:Str:="_law_take"
def rO:Str:="_law_unit"
def rP:Str:="_law_side"
def rQ:Str:="_law_worth"
def rR:Str:="_law_shop"
def rS:Str:="_law_sides"
def rV:Str:="_law_lyings"
def rW:Str:="_law_behind"
def rX:Str:="_law_leaf"
def rY:Str:="_law_tree"
def rZ:Str:="_law_told"
def si:Str:="_law_lists"
def sj:Str:="_law_plain"
def sk:Str:="_law_is_leaf"
def ss:Str:="_law_is_told"
def su:Str:="_law_odd"
def sv:Str:="_law_row_spoilt"
def sw:Str:="_law_spoilt"
def sy:Str:="_law_tree_spoilt"
def sD:Str:="_law_class"
def sE:Str:="_law_said"
def vF:Str:="law"
def vG:Str:="__init__"
def vH:Str:="kinds"
def vI:Str:="lyings"
def vJ:Str:="is_lying"
def vK:Str:="sides"
def Ax:Str:="Shop.__init__"
def vL:Str:="self"
def Ay:Str:="Shop.blade"
def Az:Str:="Shop.kinds"
def AA:Str:="Shop.wanted"
def AB:Str:="Shop.lyings"
def AC:Str:="Shop.is_lying"
def AD:Str:="Shop.sides"
def Mt:Str:="blade_width"
def Mu:Str:="kind_rows"
def HJ:Str:="__dict__"
def HL:Str:="_law_script"
def vM:Str:="_law_k"
def Mv:Str:="_law_cell_here"
def jh:Str:="_law_pot_here"
def Mw:Str:="_law_many"
def Mx:Str:="_law_digit"
def xQ:Str:="_law_some"
def AE:Str:="_law_unit_here"
def My:Str:="_law_most"
def Mz:Str:="_law_blade"
def HM:Str:="_law_kinds"
def jq:Str:="_law_wide"
def jr:Str:="_law_high"
def lq:Str:="_law_shop_here"
def AF:Str:="_law_kind"
def HN:Str:="_law_turned"
def MA:Str:="_law_found"
def sG:Str:="_law_way"
def HP:Str:="_law_p"
def HQ:Str:="_law_own"
def MC:Str:="_law_deep"
def MD:Str:="_law_room"
def MF:Str:="_law_side_here"
def HR:Str:="_law_one"
def HS:Str:="_law_other"
def HU:Str:="_law_first"
def AG:Str:="_law_tree_here"
def HV:Str:="_law_things"
def MG:Str:="_law_waiting"
def MH:Str:="_law_own_wide"
def MJ:Str:="_law_own_high"
def MK:Str:="_law_part"
def AH:Str:="_law_size"
def xR:Str:="_law_thing"
def MN:Str:="_law_least"
def xS:Str:="_law_told_here"
def MO:Str:="_law_left"
def MP:Str:="_law_sides_here"
def HW:Str:="_law_row"
def HX:Str:="_law_at"
def MQ:Str:="_law_inner"
def HY:Str:="_law_turn"
def HZ:Str:="_law_words"
def MR:Str:="_law_second"
def Ia:Str:="_law_e"
def MT:Str:="_law_others"
def Ib:Str:="_law_road"
def Ic:Str:="_law_made"
def MU:Str:="_law_said_here"
def MV:Str:="_law_kept"
def MW:Str:="_law_due"
def MX:Str:="_law_odd_here"
def MY:Str:="_law_bad"
abbrev HK:Hook:=kHook Pc.kK [nat_lit 1,nat_lit 3,nat_lit 20,nat_lit 21,nat_lit 30,nat_lit 31,nat_lit 43,nat_lit 44,nat_lit 55,nat_lit 56,nat_lit 67,nat_lit 68,nat_lit 79,nat_lit 80,nat_lit 91,nat_lit 92,nat_lit 103,nat_lit 104,nat_lit 115,nat_lit 116,nat_lit 127,nat_lit 128,nat_lit 139,nat_lit 140,nat_lit 151,nat_lit 152,nat_lit 163,nat_lit 164,nat_lit 175,nat_lit 176,nat_lit 187,nat_lit 188,nat_lit 196,nat_lit 197,nat_lit 203,nat_lit 204,nat_lit 210,nat_lit 211,nat_lit 217,nat_lit 218,nat_lit 219,nat_lit 225,nat_lit 226,nat_lit 232,nat_lit 233,nat_lit 239,nat_lit 240,nat_lit 246,nat_lit 247,nat_lit 253,nat_lit 254,nat_lit 260,nat_lit 261,nat_lit 267,nat_lit 268,nat_lit 274,nat_lit 275,nat_lit 281,nat_lit 282,nat_lit 288,nat_lit 289,nat_lit 295,nat_lit 296,nat_lit 302,nat_lit 303,nat_lit 309,nat_lit 310,nat_lit 316,nat_lit 317,nat_lit 321,nat_lit 322,nat_lit 326,nat_lit 327,nat_lit 331,nat_lit 332,nat_lit 338,nat_lit 339,nat_lit 345,nat_lit 346,nat_lit 352,nat_lit 353,nat_lit 364,nat_lit 365,nat_lit 371,nat_lit 372,nat_lit 378,nat_lit 379,nat_lit 383,nat_lit 384,nat_lit 390,nat_lit 391,nat_lit 397,nat_lit 398,nat_lit 404,nat_lit 405,nat_lit 407,nat_lit 408,nat_lit 418,nat_lit 419,nat_lit 425,nat_lit 426,nat_lit 432,nat_lit 433,nat_lit 439,nat_lit 440,nat_lit 446,nat_lit 447,nat_lit 453,nat_lit 454,nat_lit 460,nat_lit 461,nat_lit 467,nat_lit 468,nat_lit 474,nat_lit 475,nat_lit 481,nat_lit 482,nat_lit 488,nat_lit 489,nat_lit 495,nat_lit 496,nat_lit 502,nat_lit 503,nat_lit 507,nat_lit 508,nat_lit 514,nat_lit 515,nat_lit 521,nat_lit 522,nat_lit 528,nat_lit 529,nat_lit 535,nat_lit 536,nat_lit 542,nat_lit 543,nat_lit 549,nat_lit 550,nat_lit 556,nat_lit 557,nat_lit 563,nat_lit 564,nat_lit 570,nat_lit 571,nat_lit 577,nat_lit 578] (λ _=>by kernel_rfl)
abbrev pt:F6:=PySem.W.Fast.tw3534037382920594842
theorem pt_eq:PySem.Challenge.pw_platecuts_k84_tellings_refused=pt:=PySem.W.Fast.te3534037382920594842
def tp(i:Nat):Stmt:=pt.main.body.getD i (.Pass %[0,0,0|0])
abbrev f(o:Params->Obj)(l r:Params->BT):Params->BT:=λ P=>.node (o P) (l P) (r P)
abbrev z:Params->BT:=λ _=>.nil
abbrev e(P:Params)(n:Str)(t:Nat)(v:F9):DictEntry:=%[PyData.keyHash P n,.str n t|v]
abbrev m0:Nat:=nat_lit 11
abbrev an:OG F9:=(↑6)
abbrev en:Env:={ scope:=pt.main.scope,locals:=mainNs,globals:=mainNs,cells:=[],code:=(.ref 13),frame:=some 14 }
abbrev cE:Code:=.body (behindTheImports pt) en
abbrev qP:Pos:=%[0,0,0|0]
abbrev B:OI Frame:=[topFrame qP]
abbrev L0:=SL.s14018661285674007319x4
abbrev L1:=SL.s11665532747177232413x24
abbrev L2:=SL.s15183661809925369436x15
abbrev L3:=SL.s13915890719876406383x10
abbrev L4:=SL.s13459172003223722735x3
abbrev L5:=SL.s10557405761357834076x3
abbrev L6:=SL.s4233737765568776869x3
abbrev L7:=SL.s2508922471967985374x5
abbrev L8:=SL.s15574269061696679450x3
abbrev L9:=SL.s6016482663378992977x10
abbrev L10:=SL.s5596568736180474577x8
abbrev L11:=SL.s2839554839881490554x3
abbrev L12:=SL.s725004073602090463x7
abbrev L13:=SL.s9436932552931045734x7
abbrev L14:=SL.s2754603736356183583x3
abbrev L15:=SL.s15185746759980889043x6
abbrev L16:=SL.s8192189862530294059x4
abbrev L17:=SL.s7038307821325472102x4
abbrev L18:=SL.s5662562618415449548x6
abbrev L19:=SL.s15281542589158584767x7
abbrev L20:=SL.s17651547275483570877x7
abbrev L21:=SL.s4036449017235975746x7
abbrev L22:=SL.s8879979712987360175x4
abbrev L23:=SL.s1801250619170735830x3
abbrev L24:=SL.s17659931425627118568x2
abbrev L25:=SL.s6063217899685152688x5
abbrev L26:=SL.s8008927332132565319x10
abbrev L27:=SL.s3544116645089599534x10
abbrev L28:=SL.s13761710972054866084x4
abbrev L29:=SL.s12896375587409280029x5
abbrev L30:=SL.s13014049009108672802x3
abbrev L31:=SL.s13935586738268321596x6
abbrev L32:=SL.s8200498257699607233x3
abbrev L33:=SL.s14114244577727609259x3
abbrev L34:=SL.s1499430450269397089x4
abbrev L35:=SL.s8755793994789770505x5
abbrev L36:=SL.s15725212667919936108x3
abbrev L37:=SL.s15791221867095933363x3
abbrev L38:=SL.s81309575031448614x3
abbrev L39:=SL.s8069831620301644142x5
abbrev L40:=SL.s10061844253413749634x4
abbrev L41:=SL.s9496514870978017513x5
abbrev L42:=SL.s8899691144933366716x7
abbrev L43:=SL.s15201008993051130160x6
abbrev L44:=SL.s741896355592496720x3
abbrev L45:=SL.s17925004256654032244x4
abbrev L46:=SL.s11695548795398191787x4
abbrev L47:=SL.s4156966113859768872x10
abbrev L48:=SL.s9501651726347032510x9
abbrev L49:=SL.s15722918466584999320x5
abbrev L50:=SL.s591115383303110208x11
abbrev L51:=SL.s15721156781594690315x7
abbrev L52:=SL.s14340494229221121180x9
abbrev L53:=SL.s13429844117177748173x6
abbrev L54:=SL.s16463266125957815391x5
abbrev L55:=SL.s4922535414793169389x9
abbrev L56:=SL.s8101838861749082086x8
abbrev L57:=SL.s7066276694103001551x3
abbrev L58:=SL.s9222952809800978799x4
abbrev L59:=SL.s462964344163437139x3
abbrev L60:=SL.s2742458400755230247x6
abbrev L61:=SL.s1438033511350832697x5
abbrev L62:=SL.s14365286008749172514x8
abbrev L63:=SL.s3642769012341782148x3
abbrev L64:=SL.s4674234679698826739x5
abbrev L65:=SL.s16656946322747308186x12
abbrev L66:=SL.s10796804682411823810x3
abbrev L67:=SL.s4290257624100764138x5
abbrev L68:=SL.s2766695959194262286x5
abbrev L69:=SL.s17162191345867700912x4
abbrev L70:=SL.s14339709457334898076x3
abbrev L71:=SL.s4278001404047624695x13
abbrev L72:=SL.s6585700554429387442x18
abbrev L73:=SL.s5946037652744460706x9
abbrev L74:=SL.s7410770068591931388x13
abbrev L75:=SL.s11817881795495490833x17
abbrev L76:=SL.s15679963881808890155x10
abbrev L77:=SL.s3871700062485845797x15
abbrev L78:=SL.s7689518266570723881x14
abbrev L79:=SL.s9001593270443806431x14
abbrev L80:=SL.s6882542574934516792x11
abbrev L81:=SL.s14403400214490484960x8
abbrev L82:=SL.s14457978657717015782x11
abbrev L83:=SL.s1753610191782819921x11
abbrev L84:=SL.s14119380538032626715x11
abbrev L85:=SL.s11437920000406562045x9
abbrev L86:=SL.s10852414792293593619x7
abbrev L87:=SL.s14816307405966870543x14
abbrev L88:=SL.s8682627914449686677x12
abbrev L89:=SL.s4428170145600203450x18
abbrev L90:=SL.s5991306692159431302x13
abbrev L91:=SL.s16067994140765818257x11
abbrev L92:=SL.s2327743974964600596x11
abbrev L93:=SL.s2804747833354056582x9
abbrev L94:=SL.s6070975301684473832x10
abbrev L95:=SL.s14270485950484850486x7
abbrev L96:=SL.s12041534306414923332x18
abbrev L97:=SL.s2531307568338490285x13
abbrev L98:=SL.s631175304937289666x17
abbrev L99:=SL.s5144983644357021410x12
abbrev Nj:=SL.s18039099521571816885x18
abbrev Nk:=SL.s6011586214260557989x15
abbrev Nl:=SL.s5430567037509283100x13
abbrev Nm:=SL.s8117915138073963741x13
abbrev Nn:=SL.s3423317712779056401x25
abbrev No:=SL.s2007317383269046180x15
abbrev Np:=SL.s17481586968713580700x14
abbrev Nq:=SL.s2450899226349176912x13
abbrev Nr:=SL.s16626165730633575011x14
abbrev Nt:=SL.s14288496050688921416x11
abbrev Nu:=SL.s5735081916595925998x15
abbrev Nv:=SL.s3865607918536308442x17
abbrev Nw:=SL.s13337502604062700212x15
abbrev Ny:=SL.s13114017843053701147x15
abbrev Nz:=SL.s17467278006356818441x17
abbrev NA:=SL.s17722149559621369488x16
abbrev NB:=SL.s7855274175708717672x17
abbrev NC:=SL.s13351283678309829046x18
abbrev ND:=SL.s6668348653404991179x15
abbrev NE:=SL.s12913350958174193794x18
abbrev NF:=SL.s16115879512475548326x12
abbrev NG:=SL.s15920661018069861047x16
abbrev NH:=SL.s10779130036587390575x21
abbrev NI:=SL.s7801419657504700863x10
abbrev NJ:=SL.s1688129525768580628x8
abbrev NK:=SL.s1031832959479892071x19
abbrev NM:=SL.s8991790508128307865x19
abbrev NO:=SL.s14539662485746970245x23
abbrev NQ:=SL.s11643622729373238714x14
abbrev NR:=SL.s3386828779285465597x17
abbrev NS:=SL.s13042696260734638735x12
abbrev NU:=SL.s18239426817015966623x15
abbrev NV:=SL.s1270395311379034370x22
abbrev NW:=SL.s10696252587037064777x22
abbrev NX:=SL.s7852717498200857586x20
abbrev NY:=SL.s6377248116197321094x8
abbrev NZ:=SL.s3834378056692298002x18
abbrev Oa:=SL.s17586630440231065808x18
abbrev Ob:=SL.s15234114252648025395x21
abbrev Oc:=SL.s8496462677383758984x14
abbrev Od:=SL.s16789243406116112673x4
abbrev Oe:=SL.s14400166428656793546x20
abbrev Of:=SL.s5857708277339239366x20
abbrev Og:=SL.s7804999707787243718x20
abbrev AI:=SL.s7097527257260152453x26
abbrev Oh:=SL.s6658869562736209489x6
abbrev AJ:=SL.s5856160107412720595x4
abbrev MZ:=SL.s658472552662922059x5
abbrev sZ(w:F8)(os:OsState):F5:=%[boot_heap w.params,Array.mk [],boot_drawn,boot_toks|os]
def o11(P:Params):Obj:=%[(.type L68),none,(.seq #[] 0)|#[]]
def o12(P:Params):Obj:=%[.none,none,(.fields #[])|#[]]
def g0(x0:Str)(x1 x2 x3:Nat)(P:Params):Obj:=%[(.type AJ),none,(.fields #[.str x0 x1,.str x0 (x1+1),.str lj (x1+2),.int x2 0,.int 0 0,.int 0 0,.int 0 0,.int 0 0,.ref x3,.bool false,.int 181 0,.ref (x3+1),.none,.none,.none,.none,.int (x1+3) 0,.int x2 0,.str lj (x1+4)])|#[]]
def o13:=g0 LU 182 1 11
def g1(x0 x1:Nat)(x2:Str)(x3:Nat)(P:Params):Obj:=%[(.type MZ),none,.plain|#[↑x0,↑3,↑x1,none,some (.str x2 x3),none,↑0]]
def o14:=g1 13 3 Hu 164
def hA(P:Params):Heap:=%[%[|[boot_o_0 P,boot_o_1 P,boot_o_2 P,boot_o_3 P,boot_o_4 P,boot_o_5 P,boot_o_6 P,boot_o_7 P,boot_o_8 P,boot_o_9 P,boot_o_10 P,o11 P,o12 P,o13 P,o14 P]]|{ }]
abbrev sA(w:F8)(os:OsState):F5:=%[hA w.params,(Array.mk []),%[0,0,0|0],187|os]
abbrev pA:Pos:=%[0,0,0|0]
theorem pre(w:F8):(λ os=>topGo treeTable pt w m0 an 12 (sZ w os) (topStub pt))=λ os=>some (sA w os,(%[denote treeTable cE,cE,pA|B]:Thread)):=by rw[PySem.W.Fast.te15667345088766844465,PySem.W.Fast.te14364793385576792824,PySem.W.Fast.te11892475500146522536];kernel_rfl
def tB:Params->BT:=(f boot_o_0 (f boot_o_1 (f boot_o_3 (f boot_o_7 z z) (f o11 z z)) (f boot_o_5 (f boot_o_9 z z) (f o13 z z))) (f boot_o_2 (f boot_o_4 (f boot_o_8 z z) (f o12 z z)) (f boot_o_6 (f boot_o_10 z z) (f o14 z z))))
abbrev sB(w:F8)(os:OsState):SharedT:=%[tB w.params,15,{ },(Array.mk []),%[0,0,0|0],187|os]
abbrev pB:Pos:=%[0,0,0|0]
theorem blk(w:F8):(λ os=>segRun treeTable pt w m0 an 1 1 (sA w os) ⟨(blockStart (behindTheImports pt) en).wrap (λ _=>doneF .next) deadEnd id id,cE,pA,B⟩)=λ os=>some (.next,(sB w os).abs,cE,pB):=by rw[PySem.W.Fast.te14374325043358763698,PySem.W.Fast.te14364793385576792824,PySem.W.Fast.te1066825118222455980];kernel_rfl
def Na(P:Params):Obj:=%[(.type L0),none,(.dict #[e P S0 165 (.str eH 194),e P S2 166 .none,e P S3 167 .none,e P S4 168 (.builtin AI),e P S5 169 .none,e P Ab 170 (.ref 6),e P Ac 171 (.ref 4),e P Ad 173 (.str lj 172),e P Ae 174 .none,e P mf 193 (.ref 21),e P gu 213 (.ref 31),e P nO 229 (.ref 44),e P nP 245 (.ref 56),e P nQ 261 (.ref 68),e P nR 277 (.ref 80),e P nS 293 (.ref 92),e P nT 309 (.ref 104),e P nU 325 (.ref 116),e P nV 341 (.ref 128)] 19)|#[]]
def Id(P:Params):Obj:=%[.none,none,(.fields #[.int 1 0,.int 0 0,.ref 20,.int 5 0,.int 0 0,.ref 27,.int 7 0,.int 0 0,.ref 40,.int 9 0,.int 0 0,.ref 52,.int 11 0,.int 0 0,.ref 64,.int 13 0,.int 0 0,.ref 76,.int 15 0,.int 0 0,.ref 88,.int 17 0,.int 0 0,.ref 100,.int 19 0,.int 0 0,.ref 112,.int 21 0,.int 0 0,.ref 124])|#[]]
def g2(x0:Str)(x1:Nat)(P:Params):Obj:=%[(.type L68),none,(.seq #[.str x0 x1] 0)|#[]]
def o17:=g2 LV 190
def g3(x0:Str)(x1:Nat)(P:Params):Obj:=%[.none,none,(.func %[x0,x0,L2.defArgs (tp x1),(.stmts (L2.defBody (tp x1))),L2.defScope (tp x1),0,[],.none,.none,.none,.none,none,.none,.none|0])|#[]]
def o19:=g3 mf 0
def g4(x0:Str)(x1:Nat)(x2:Str)(x3 x4 x5 x6:Nat)(P:Params):Obj:=%[(.type AJ),none,(.fields #[.str x0 x1,.str x2 (x1+1),.str lj (x1+2),.int x3 0,.int x4 0,.int 0 0,.int 0 0,.int 3 0,.ref x5,.bool true,.int 181 0,.ref (x5+1),.none,.ref (x5+2),.ref (x5+3),.ref (x5+4),.int x6 0,.int x3 0,.str lj (x6+1)])|#[]]
def o20:=g4 mf 187 mf 1 1 15 191
abbrev Ie:=SL.s7174869446012820540x8
def g5(x0:Str)(x1:Nat)(x2:Str)(x3 x4:Nat)(P:Params):Obj:=%[(.type Ie),none,(.func %[x0,x0,L2.defArgs (tp x1),(.stmts (L2.defBody (tp x1))),L2.defScope (tp x1),3,[],.none,.none,.none,.str x2 x3,none,.ref x4,.none|0])|#[]]
def o21:=g5 mf 0 Hu 164 20
def o22(P:Params):Obj:=%[(.type L68),none,(.seq #[.type L94] 0)|#[]]
abbrev Ig:=SL.s11030030927630378310x26
abbrev Nb:=SL.s10062305145149207511x16
def o23(P:Params):Obj:=%[(.type Ig),none,(.fields #[.builtin Nb,.type L69])|#[]]
def g6(x0:Nat)(x1:Str)(x2 x3:Nat)(P:Params):Obj:=%[(.type L0),none,(.dict #[e P vB x0 (.str eH 194),e P Hv (x0+2) (.str x1 (x0+1)),e P vC (x0+4) (.int x2 (x0+3)),e P vD (x0+5) (.ref x3)] 4)|#[]]
def o24:=g6 203 gu 5 29
def o27:=g0 gu 198 5 25
def o28:=g1 27 24 eH 194
def o30(P:Params):Obj:=%[(.type L0),none,(.dict #[e P vB 203 (.str eH 194),e P vC 207 (.int 5 206),e P vD 208 (.ref 29),e P Af 210 (.ref 32),e P S2 211 .none] 3)|#[]]
abbrev AK:=SL.s4209523147560561109x18
def o31(P:Params):Obj:=%[(.type L69),none,(.cls %[gu,[.type L94],[.ref 31,.type L94,.type L73,.type L71,.type L60],30,gu,true,[],[.ref 44,.ref 56,.ref 68,.ref 80,.ref 92,.ref 104,.ref 116,.ref 128],false,none|false])|#[↑22,none,some (.str gu 196),some (.str gu 204),some (.builtin AK),some (.bool true)]]
abbrev Ih:=SL.s14755015743595814543x17
abbrev Nc:=SL.s10220274742760427390x26
def g7(x0 x1:Nat)(P:Params):Obj:=%[(.type Ih),none,(.fields #[.str Af x0,.ref x1,.builtin Nc,.none])|#[]]
def o32:=g7 209 31
def g8(x0:Nat)(P:Params):Obj:=%[(.type L67),none,(.fields #[.ref x0,.ref x0,.ref x0])|#[]]
def o33:=g8 31
abbrev Nd:=SL.s4860613602091757760x24
def g9(x0:Nat)(P:Params):Obj:=%[(.type Ig),none,(.fields #[.builtin Nd,.ref x0])|#[]]
def o34:=g9 31
def o35(P:Params):Obj:=%[(.type L68),none,(.seq #[.ref 31] 0)|#[]]
def o37:=g6 221 nO 7 42
def o40:=g0 nO 216 7 38
def o41:=g1 40 37 eH 194
def g10(x0 x1 x2:Nat)(P:Params):Obj:=%[(.type L0),none,(.dict #[e P vB x0 (.str eH 194),e P vC (x0+4) (.int x1 (x0+3)),e P vD (x0+5) (.ref x2),e P S2 (x0+6) .none] 2)|#[]]
def o43:=g10 221 7 42
def g11(x0:Str)(x1 x2 x3 x4:Nat)(P:Params):Obj:=%[(.type L69),none,(.cls %[x0,[.ref 31],[.ref x1,.ref 31,.type L94,.type L73,.type L71,.type L60],x2,x0,true,[],[],false,none|false])|#[↑x3,none,some (.str x0 x4),some (.str x0 (x4+8)),some (.builtin AK),some (.bool true)]]
def o44:=g11 nO 44 43 35 214
def o45:=g8 44
def o46:=g9 44
def o49:=g6 237 nP 9 54
def o52:=g0 nP 232 9 50
def o53:=g1 52 49 eH 194
def o55:=g10 237 9 54
def o56:=g11 nP 56 55 47 230
def o57:=g8 56
def o58:=g9 56
def o61:=g6 253 nQ 11 66
def o64:=g0 nQ 248 11 62
def o65:=g1 64 61 eH 194
def o67:=g10 253 11 66
def o68:=g11 nQ 68 67 59 246
def o69:=g8 68
def o70:=g9 68
def o73:=g6 269 nR 13 78
def o76:=g0 nR 264 13 74
def o77:=g1 76 73 eH 194
def o79:=g10 269 13 78
def o80:=g11 nR 80 79 71 262
def o81:=g8 80
def o82:=g9 80
def o85:=g6 285 nS 15 90
def o88:=g0 nS 280 15 86
def o89:=g1 88 85 eH 194
def o91:=g10 285 15 90
def o92:=g11 nS 92 91 83 278
def o93:=g8 92
def o94:=g9 92
def o97:=g6 301 nT 17 102
def xT:=g0 nT 296 17 98
def xU:=g1 100 97 eH 194
def xV:=g10 301 17 102
def xW:=g11 nT 104 103 95 294
def xX:=g8 104
def xY:=g9 104
def xZ:=g6 317 nU 19 114
def ya:=g0 nU 312 19 110
def yb:=g1 112 109 eH 194
def yc:=g10 317 19 114
def yd:=g11 nU 116 115 107 310
def ye:=g8 116
def yf:=g9 116
def yg:=g6 333 nV 21 126
def yh:=g0 nV 328 21 122
def yi:=g1 124 121 eH 194
def yj:=g10 333 21 126
def yk:=g11 nV 128 127 119 326
def ym:=g8 128
def yn:=g9 128
def t0:Params->BT:=(f boot_o_0 (f boot_o_1 (f Na (f boot_o_7 (f o11 (f o31 (f o12 (f yj z z) z) (f o35 z z)) (f o35 (f o79 z z) (f o12 z z))) (f o23 (f o12 (f o35 z z) (f xV z z)) (f o55 (f o12 z z) (f o35 z z)))) (f o11 (f o19 (f o35 (f o67 z z) (f o12 z z)) (f o12 (f o35 z z) (f yc z z))) (f o27 (f o43 (f o12 z z) (f o35 z z)) (f o35 (f o91 z z) (f o12 z z))))) (f boot_o_5 (f boot_o_9 (f o17 (f o33 (f o65 (f ym z z) z) (f o97 z z)) (f o49 (f o81 z z) (f yb z z))) (f o11 (f o41 (f o73 z z) (f xX z z)) (f o57 (f o89 z z) (f yg z z)))) (f o13 (f o21 (f o37 (f o69 z z) (f xU z z)) (f o53 (f o85 z z) (f ye z z))) (f o11 (f o45 (f o77 z z) (f xZ z z)) (f o61 (f o93 z z) (f yi z z)))))) (f boot_o_2 (f boot_o_4 (f boot_o_8 (f o12 (f o32 (f o64 (f yk z z) z) (f o23 z z)) (f o23 (f o80 z z) (f ya z z))) (f o24 (f o40 (f o23 z z) (f xW z z)) (f o56 (f o88 z z) (f o23 z z)))) (f Id (f o20 (f o23 (f o68 z z) (f xT z z)) (f o52 (f o23 z z) (f yd z z))) (f o28 (f o44 (f o76 z z) (f o23 z z)) (f o23 (f o92 z z) (f yh z z))))) (f boot_o_6 (f boot_o_10 (f o11 (f o34 (f o11 (f yn z z) z) (f o11 z z)) (f o11 (f o82 z z) (f o11 z z))) (f o12 (f o11 (f o11 z z) (f xY z z)) (f o58 (f o11 z z) (f o11 z z)))) (f o14 (f o22 (f o11 (f o70 z z) (f o11 z z)) (f o11 (f o11 z z) (f yf z z))) (f o30 (f o46 (f o11 z z) (f o11 z z)) (f o11 (f o94 z z) (f o11 z z)))))))
abbrev s0(w:F8)(os:OsState):SharedT:=%[t0 w.params,131,{ },(Array.mk []),%[0,0,0|0],342|os]
abbrev p0:Pos:=%[21,0,22|8]
abbrev st0:OI Stmt:=(pt.main.body.drop 0).take 11
theorem q0(w:F8):(λ os=>segRunT treeTable pt w m0 an 1 1929 (sB w os) %[(execs st0 en).wrap doneF deadEnd id id,cE,pB|B])=λ os=>some (.next,s0 w os,cE,p0):=by rw[PySem.W.Fast.te10110043849684766642,PySem.W.Fast.te14364793385576792824,PySem.W.Fast.te12563942051412417395];kernel_rfl
def Nf(P:Params):Obj:=%[(.type L0),none,(.dict #[e P S0 165 (.str nW 673),e P S2 166 .none,e P S3 167 .none,e P S4 168 (.builtin AI),e P S5 169 .none,e P Ab 170 (.ref 6),e P Ac 171 (.ref 4),e P Ad 173 (.str lj 172),e P Ae 174 .none,e P mf 193 (.ref 21),e P gu 213 (.ref 31),e P nO 229 (.ref 44),e P nP 245 (.ref 56),e P nQ 261 (.ref 68),e P nR 277 (.ref 80),e P nS 293 (.ref 92),e P nT 309 (.ref 104),e P nU 325 (.ref 116),e P nV 341 (.ref 128),e P rC 357 (.ref 140),e P rD 373 (.ref 152),e P rE 389 (.ref 164),e P rF 405 (.ref 176),e P rG 421 (.ref 188),e P nX 431 (.ref 197),e P nY 438 (.ref 204),e P nZ 445 (.ref 211),e P og 453 (.ref 218),e P Ag 457 (.str Ah 456),e P Ai 459 (.str Aj 458),e P Ak 460 (.ref 219),e P oh 475 (.ref 226),e P oi 487 (.ref 233),e P Al 491 (.str Hw 490),e P Am 493 (.str HA 492),e P An 495 (.int 1 494),e P Ao 497 (.int 5 496),e P Ap 499 (.int 4 498),e P oj 508 (.ref 240),e P om 519 (.ref 247),e P oq 532 (.ref 254),e P ot 556 (.ref 261),e P ou 569 (.ref 268),e P oz 579 (.ref 275),e P Aq 583 (.int 2 582),e P Ar 585 (.int 2 584),e P oA 593 (.ref 282),e P oB 602 (.ref 289),e P oC 618 (.ref 296),e P oE 628 (.ref 303),e P oF 636 (.ref 310),e P oG 644 (.ref 317),e P oH 650 (.ref 322),e P oI 656 (.ref 327),e P oJ 662 (.ref 332),e P oK 672 (.ref 339),e P As 676 (.int 8 675),e P At 678 (.int 5 677),e P oM 690 (.ref 346),e P oN 697 (.ref 353)] 60)|#[]]
def Ii(P:Params):Obj:=%[.none,none,(.fields #[.int 1 0,.int 0 0,.ref 20,.int 5 0,.int 0 0,.ref 27,.int 7 0,.int 0 0,.ref 40,.int 9 0,.int 0 0,.ref 52,.int 11 0,.int 0 0,.ref 64,.int 13 0,.int 0 0,.ref 76,.int 15 0,.int 0 0,.ref 88,.int 17 0,.int 0 0,.ref 100,.int 19 0,.int 0 0,.ref 112,.int 21 0,.int 0 0,.ref 124,.int 23 0,.int 0 0,.ref 136,.int 25 0,.int 0 0,.ref 148,.int 27 0,.int 0 0,.ref 160,.int 29 0,.int 0 0,.ref 172,.int 31 0,.int 0 0,.ref 184,.int 34 0,.int 0 0,.ref 196,.int 36 0,.int 0 0,.ref 203,.int 38 0,.int 0 0,.ref 210,.int 40 0,.int 0 0,.ref 217,.int 47 0,.int 0 0,.ref 225,.int 52 0,.int 0 0,.ref 232,.int 63 0,.int 0 0,.ref 239,.int 67 0,.int 0 0,.ref 246,.int 74 0,.int 0 0,.ref 253,.int 79 0,.int 0 0,.ref 260,.int 86 0,.int 0 0,.ref 267,.int 97 0,.int 0 0,.ref 274,.int 103 0,.int 0 0,.ref 281,.int 105 0,.int 0 0,.ref 288,.int 107 0,.int 0 0,.ref 295,.int 121 0,.int 0 0,.ref 302,.int 124 0,.int 0 0,.ref 309,.int 129 0,.int 0 0,.ref 316,.int 131 0,.int 0 0,.ref 321,.int 135 0,.int 0 0,.ref 326,.int 147 0,.int 0 0,.ref 331,.int 156 0,.int 0 0,.ref 338,.int 162 0,.int 0 0,.ref 345,.int 169 0,.int 0 0,.ref 352])|#[]]
def vN(P:Params):Obj:=%[(.type L69),none,(.cls %[gu,[.type L94],[.ref 31,.type L94,.type L73,.type L71,.type L60],30,gu,true,[],[.ref 44,.ref 56,.ref 68,.ref 80,.ref 92,.ref 104,.ref 116,.ref 128,.ref 140,.ref 152,.ref 164,.ref 176,.ref 188],false,none|false])|#[↑22,none,some (.str gu 196),some (.str gu 204),some (.builtin AK),some (.bool true)]]
def AL:=g6 349 rC 23 138
def AM:=g0 rC 344 23 134
def AN:=g1 136 133 eH 194
def AO:=g10 349 23 138
def AQ:=g11 rC 140 139 131 342
def AR:=g8 140
def AS:=g9 140
def AT:=g6 365 rD 25 150
def AU:=g0 rD 360 25 146
def AV:=g1 148 145 eH 194
def AW:=g10 365 25 150
def AX:=g11 rD 152 151 143 358
def AY:=g8 152
def AZ:=g9 152
def Ba:=g6 381 rE 27 162
def Bb:=g0 rE 376 27 158
def Bc:=g1 160 157 eH 194
def Bd:=g10 381 27 162
def Be:=g11 rE 164 163 155 374
def Bf:=g8 164
def Bg:=g9 164
def Bh:=g6 397 rF 29 174
def Bi:=g0 rF 392 29 170
def Bj:=g1 172 169 eH 194
def Bk:=g10 397 29 174
def Bl:=g11 rF 176 175 167 390
def Bm:=g8 176
def Bn:=g9 176
def Bo:=g6 413 rG 31 186
def Bp:=g0 rG 408 31 182
def Bq:=g1 184 181 eH 194
def Br:=g10 413 31 186
def Bs:=g11 rG 188 187 179 406
def Bu:=g8 188
def Bv:=g9 188
def g12(x0:Str)(x1:Nat)(x2:Str)(x3:Nat)(P:Params):Obj:=%[(.type L68),none,(.seq #[.str x0 x1,.str x2 x3] 0)|#[]]
def Bw:=g12 lp 427 LW 428
def By:=g3 nX 17
def Bz:=g4 nX 424 nX 34 2 191 429
def BA:=g5 nX 17 xM 422 196
def BB:=g2 lp 435
def BC:=g3 nY 18
def BD:=g4 nY 432 nY 36 1 198 436
def BE:=g5 nY 18 xM 422 203
def BF:=g2 lp 442
def BG:=g3 nZ 19
def BH:=g4 nZ 439 nZ 38 1 205 443
def BI:=g5 nZ 19 xM 422 210
def BJ:=g12 jm 449 jn 450
def BK:=g3 og 20
def BL:=g4 og 446 og 40 2 212 451
def BM:=g5 og 20 xM 422 217
def BN:=g12 Ah 456 Aj 458
def BO(P:Params):Obj:=%[(.type L68),none,(.seq #[.str rH 464,.str jm 465,.str jn 466,.str xN 467,.str Au 468,.str Av 469,.str Aw 470,.str LY 471,.str Ma 472] 0)|#[]]
def BP:=g3 oh 25
def BQ:=g4 oh 461 oh 47 7 220 473
def BR:=g5 oh 25 HB 454 225
def g13(x0:Str)(x1:Nat)(x2 x3 x4 x5 x6:Str)(P:Params):Obj:=%[(.type L68),none,(.seq #[.str x0 x1,.str x2 (x1+1),.str x3 (x1+2),.str x4 (x1+3),.str x5 (x1+4),.str x6 (x1+5)] 0)|#[]]
def BS:=g13 jo 479 xO mh HD jm jn
def BU:=g3 oi 26
def BV:=g4 oi 476 oi 52 4 227 485
def BW:=g5 oi 26 HB 454 232
def g14(x0:Str)(x1:Nat)(x2 x3:Str)(P:Params):Obj:=%[(.type L68),none,(.seq #[.str x0 x1,.str x2 (x1+1),.str x3 (x1+2)] 0)|#[]]
def BX:=g14 lp 503 Mb Mc
def BY:=g3 oj 33
def BZ:=g4 oj 500 oj 63 3 234 506
def Ca:=g5 oj 33 rJ 488 239
def g15(x0:Str)(x1:Nat)(x2 x3 x4 x5:Str)(P:Params):Obj:=%[(.type L68),none,(.seq #[.str x0 x1,.str x2 (x1+1),.str x3 (x1+2),.str x4 (x1+3),.str x5 (x1+4)] 0)|#[]]
def Cb:=g15 jo 512 xP vE mh Md
def Cc:=g3 om 34
def Cd:=g4 om 509 om 67 2 241 517
def Ce:=g5 om 34 rJ 488 246
def g16(x0:Str)(x1:Nat)(x2 x3 x4 x5 x6 x7:Str)(P:Params):Obj:=%[(.type L68),none,(.seq #[.str x0 x1,.str x2 (x1+1),.str x3 (x1+2),.str x4 (x1+3),.str x5 (x1+4),.str x6 (x1+5),.str x7 (x1+6)] 0)|#[]]
def Cf:=g16 rH 523 xP Av Aw jm jn vE
def Cg:=g3 oq 35
def Ch:=g4 oq 520 oq 74 2 248 530
def Ci:=g5 oq 35 rJ 488 253
def Cj(P:Params):Obj:=%[(.type L68),none,(.seq #[.str jo 536,.str xP 537,.str Av 538,.str Aw 539,.str jm 540,.str jn 541,.str vE 542,.str mh 543,.str HD 544,.str HE 545,.str HF 546,.str Me 547,.str Mf 548,.str Mg 549,.str Mh 550,.str Mi 551,.str Mj 552,.str Ml 553] 0)|#[]]
def Ck:=g3 ot 36
def Cm:=g4 ot 533 ot 79 2 255 554
def Cn:=g5 ot 36 rJ 488 260
def Co:=g16 rH 560 jm jn lp jo HG xP
def Cp:=g3 ou 37
def Cq:=g4 ou 557 ou 86 4 262 567
def Cr:=g5 ou 37 rJ 488 267
def g17(x0:Str)(x1:Nat)(x2 x3 x4:Str)(P:Params):Obj:=%[(.type L68),none,(.seq #[.str x0 x1,.str x2 (x1+1),.str x3 (x1+2),.str x4 (x1+3)] 0)|#[]]
def Cs:=g17 rH 573 jm jn lp
def Ct:=g3 oz 38
def Cu:=g4 oz 570 oz 97 4 269 577
def Cv:=g5 oz 38 rJ 488 274
def Cw:=g12 xO 589 mh 590
def Cy:=g3 oA 42
def Cz:=g4 oA 586 oA 103 2 276 591
def CA:=g5 oA 42 jp 580 281
def CB:=g14 xO 597 mh Mm
def CC:=g3 oB 43
def CD:=g4 oB 594 oB 105 3 283 600
def CF:=g5 oB 43 jp 580 288
def CG(P:Params):Obj:=%[(.type L68),none,(.seq #[.str jo 606,.str xO 607,.str vE 608,.str mh 609,.str HI 610,.str HG 611,.str Mo 612,.str Mp 613,.str HE 614,.str HF 615] 0)|#[]]
def CI:=g3 oC 44
def CJ:=g4 oC 603 oC 107 3 290 616
def CK:=g5 oC 44 jp 580 295
def CL:=g17 rH 622 jm jn vE
def CM:=g3 oE 45
def CN:=g4 oE 619 oE 121 4 297 626
def CO:=g5 oE 45 jp 580 302
def CP:=g12 lp 632 mh 633
def CQ:=g3 oF 46
def CS:=g4 oF 629 oF 124 1 304 634
def CT:=g5 oF 46 jp 580 309
def CU:=g12 mh 640 lp 641
def CV:=g3 oG 47
def CW:=g4 oG 637 oG 129 2 311 642
def CY:=g5 oG 47 jp 580 316
def CZ:=g3 oH 48
def g18(x0:Str)(x1:Nat)(x2:Str)(x3 x4 x5:Nat)(P:Params):Obj:=%[(.type AJ),none,(.fields #[.str x0 x1,.str x2 (x1+1),.str lj (x1+2),.int x3 0,.int x4 0,.int 0 0,.int 0 0,.int 3 0,.ref x5,.bool true,.int 181 0,.ref (x5+1),.none,.none,.none,.ref (x5+2),.int (x1+3) 0,.int x3 0,.str lj (x1+4)])|#[]]
def Da:=g18 oH 645 oH 131 4 318
def Db:=g5 oH 48 jp 580 321
def Dc:=g3 oI 49
def Df:=g18 oI 651 oI 135 3 323
def Dg:=g5 oI 49 jp 580 326
def Dh:=g3 oJ 50
def Di:=g18 oJ 657 oJ 147 1 328
def Dj:=g5 oJ 50 jp 580 331
def Dk:=g17 rH 666 jm jn Mq
def Dl:=g3 oK 51
def Dm:=g4 oK 663 oK 156 4 333 670
def Do:=g5 oK 51 jp 580 338
def Dp:=g13 lp 682 jm jn Mr rK Ms
def Dq:=g3 oM 55
def Dr:=g4 oM 679 oM 162 1 340 688
def Ds:=g5 oM 55 nW 673 345
def Dv:=g2 xN 694
def Dw:=g3 oN 56
def Dx:=g4 oN 691 oN 169 1 347 695
def Dy:=g5 oN 56 nW 673 352
def t1:Params->BT:=(f boot_o_0 (f boot_o_1 (f Nf (f boot_o_7 (f o11 (f vN (f o12 (f yj (f o11 z z) z) (f o11 (f o12 z z) z)) (f o35 (f o12 (f CC z z) z) (f o11 (f Dw z z) z))) (f o35 (f o79 (f o35 (f Cs z z) z) (f BF (f Dk z z) z)) (f o12 (f Bk (f CO z z) z) (f BZ z z)))) (f o23 (f o12 (f o35 (f o12 (f o12 z z) z) (f o12 (f Dg z z) z)) (f xV (f o35 (f CJ z z) z) (f BU z z))) (f o55 (f o12 (f AW (f o11 z z) z) (f o11 (f o11 z z) z)) (f o35 (f o12 (f o11 z z) z) (f Ce z z))))) (f o11 (f o19 (f o35 (f o67 (f o35 (f Ck z z) z) (f By (f o11 z z) z)) (f o12 (f Bd (f o12 z z) z) (f o11 z z))) (f o12 (f o35 (f o12 (f Cv z z) z) (f BI (f Do z z) z)) (f yc (f o35 (f o11 z z) z) (f Cb z z)))) (f o27 (f o43 (f o12 (f AO (f Cq z z) z) (f BD (f Di z z) z)) (f o35 (f o12 (f CL z z) z) (f o12 z z))) (f o35 (f o91 (f o35 (f o11 z z) z) (f BN (f o11 z z) z)) (f o12 (f Br (f CV z z) z) (f o11 z z)))))) (f boot_o_5 (f boot_o_9 (f o17 (f o33 (f o65 (f ym (f Cj z z) z) (f Bw (f Da z z) z)) (f o97 (f Bc (f CF z z) z) (f BQ (f Dy z z) z))) (f o49 (f o81 (f AT (f Ct z z) z) (f BG (f Dl z z) z)) (f yb (f Bm (f o12 z z) z) (f o11 z z)))) (f o11 (f o41 (f o73 (f AN (f o11 z z) z) (f o11 (f o12 z z) z)) (f xX (f Bh (f o11 z z) z) (f BW z z))) (f o57 (f o89 (f AY (f Cz z z) z) (f BL (f Dr z z) z)) (f yg (f Bq (f CU z z) z) (f o12 z z))))) (f o13 (f o21 (f o37 (f o69 (f AL (f Cn z z) z) (f BA (f Dc z z) z)) (f xU (f Bf (f o11 z z) z) (f BS z z))) (f o53 (f o85 (f AV (f o12 z z) z) (f o12 (f o12 z z) z)) (f ye (f Bo (f CS z z) z) (f Cc z z)))) (f o11 (f o45 (f o77 (f AR (f o11 z z) z) (f o11 (f o11 z z) z)) (f xZ (f Bj (f CM z z) z) (f o11 z z))) (f o61 (f o93 (f Ba (f CB z z) z) (f o12 (f Dv z z) z)) (f yi (f Bu (f CY z z) z) (f Ch z z))))))) (f boot_o_2 (f boot_o_4 (f boot_o_8 (f o12 (f o32 (f o64 (f yk (f o12 z z) z) (f o12 (f CZ z z) z)) (f o23 (f Bb (f CD z z) z) (f BP (f Dx z z) z))) (f o23 (f o80 (f o23 (f o11 z z) z) (f o11 (f o11 z z) z)) (f ya (f Bl (f o11 z z) z) (f Ca z z)))) (f o24 (f o40 (f o23 (f AM (f Co z z) z) (f BB (f o11 z z) z)) (f xW (f o23 (f CK z z) z) (f BV z z))) (f o56 (f o88 (f AX (f Cy z z) z) (f BK (f Dq z z) z)) (f o23 (f Bp (f o12 z z) z) (f o11 z z))))) (f Ii (f o20 (f o23 (f o68 (f o23 (f Cm z z) z) (f Bz (f o12 z z) z)) (f xT (f Be (f CG z z) z) (f o12 z z))) (f o52 (f o23 (f AU (f o11 z z) z) (f o11 (f o11 z z) z)) (f yd (f o23 (f CQ z z) z) (f o11 z z)))) (f o28 (f o44 (f o76 (f AQ (f Cr z z) z) (f BE (f Dj z z) z)) (f o23 (f Bi (f o11 z z) z) (f BX z z))) (f o23 (f o92 (f o23 (f o12 z z) z) (f o11 (f o12 z z) z)) (f yh (f Bs (f CW z z) z) (f Cg z z)))))) (f boot_o_6 (f boot_o_10 (f o11 (f o34 (f o11 (f yn (f o11 z z) z) (f o11 (f Db z z) z)) (f o11 (f o11 (f o11 z z) z) (f BR z z))) (f o11 (f o82 (f o11 (f Cu z z) z) (f BH (f Dm z z) z)) (f o11 (f Bn (f CP z z) z) (f o12 z z)))) (f o12 (f o11 (f o11 (f o11 (f Cp z z) z) (f BC (f Dh z z) z)) (f xY (f o11 (f o12 z z) z) (f o11 z z))) (f o58 (f o11 (f AZ (f CA z z) z) (f BM (f Ds z z) z)) (f o11 (f o11 (f o11 z z) z) (f Cf z z))))) (f o14 (f o22 (f o11 (f o70 (f o11 (f o11 z z) z) (f o11 (f Df z z) z)) (f o11 (f Bg (f CI z z) z) (f o11 z z))) (f o11 (f o11 (f o11 (f Cw z z) z) (f BJ (f Dp z z) z)) (f yf (f o11 (f CT z z) z) (f Cd z z)))) (f o30 (f o46 (f o11 (f AS (f o12 z z) z) (f o12 (f o12 z z) z)) (f o11 (f o11 (f CN z z) z) (f BY z z))) (f o11 (f o94 (f o11 (f o11 z z) z) (f BO (f o11 z z) z)) (f o11 (f Bv (f o11 z z) z) (f Ci z z))))))))
abbrev s1(w:F8)(os:OsState):SharedT:=%[t1 w.params,354,{ },(Array.mk []),%[0,0,0|0],698|os]
abbrev p1:Pos:=%[169,0,170|41]
abbrev st1:OI Stmt:=(pt.main.body.drop 11).take 46
theorem q1(w:F8):(λ os=>segRunT treeTable pt w m0 an 1 1989 (s0 w os) %[(execs st1 en).wrap doneF deadEnd id id,cE,p0|B])=λ os=>some (.next,s1 w os,cE,p1):=by rw[PySem.W.Fast.te10110043849684766642,PySem.W.Fast.te14364793385576792824,PySem.W.Fast.te12563942051412417395];kernel_rfl
def Ij(P:Params):Obj:=%[(.type L0),none,(.dict #[e P S0 165 (.str cP 772),e P S2 166 .none,e P S3 167 .none,e P S4 168 (.builtin AI),e P S5 169 .none,e P Ab 170 (.ref 6),e P Ac 171 (.ref 4),e P Ad 173 (.str lj 172),e P Ae 174 .none,e P mf 193 (.ref 21),e P gu 213 (.ref 31),e P nO 229 (.ref 44),e P nP 245 (.ref 56),e P nQ 261 (.ref 68),e P nR 277 (.ref 80),e P nS 293 (.ref 92),e P nT 309 (.ref 104),e P nU 325 (.ref 116),e P nV 341 (.ref 128),e P rC 357 (.ref 140),e P rD 373 (.ref 152),e P rE 389 (.ref 164),e P rF 405 (.ref 176),e P rG 421 (.ref 188),e P nX 431 (.ref 197),e P nY 438 (.ref 204),e P nZ 445 (.ref 211),e P og 453 (.ref 218),e P Ag 457 (.str Ah 456),e P Ai 459 (.str Aj 458),e P Ak 460 (.ref 219),e P oh 475 (.ref 226),e P oi 487 (.ref 233),e P Al 491 (.str Hw 490),e P Am 493 (.str HA 492),e P An 495 (.int 1 494),e P Ao 497 (.int 5 496),e P Ap 499 (.int 4 498),e P oj 508 (.ref 240),e P om 519 (.ref 247),e P oq 532 (.ref 254),e P ot 556 (.ref 261),e P ou 569 (.ref 268),e P oz 579 (.ref 275),e P Aq 583 (.int 2 582),e P Ar 585 (.int 2 584),e P oA 593 (.ref 282),e P oB 602 (.ref 289),e P oC 618 (.ref 296),e P oE 628 (.ref 303),e P oF 636 (.ref 310),e P oG 644 (.ref 317),e P oH 650 (.ref 322),e P oI 656 (.ref 327),e P oJ 662 (.ref 332),e P oK 672 (.ref 339),e P As 676 (.int 8 675),e P At 678 (.int 5 677),e P oM 690 (.ref 346),e P oN 697 (.ref 353),e P mi 771 (.ref 408),e P rL 781 (.ref 419),e P rM 789 (.ref 426),e P rN 798 (.ref 433),e P rO 806 (.ref 440),e P rP 815 (.ref 447),e P rQ 823 (.ref 454),e P rR 836 (.ref 461),e P rS 847 (.ref 468),e P rV 857 (.ref 475),e P rW 868 (.ref 482),e P rX 882 (.ref 489),e P rY 900 (.ref 496),e P rZ 919 (.ref 503),e P si 925 (.ref 508),e P sj 933 (.ref 515),e P sk 944 (.ref 522),e P ss 957 (.ref 529),e P su 965 (.ref 536),e P sv 977 (.ref 543),e P sw 990 (.ref 550),e P sy 1004 (.ref 557),e P sD 1013 (.ref 564),e P sE 1026 (.ref 571),e P vF 1049 (.ref 578)] 85)|#[]]
def yL(P:Params):Obj:=%[.none,none,(.fields #[.int 1 0,.int 0 0,.ref 20,.int 5 0,.int 0 0,.ref 27,.int 7 0,.int 0 0,.ref 40,.int 9 0,.int 0 0,.ref 52,.int 11 0,.int 0 0,.ref 64,.int 13 0,.int 0 0,.ref 76,.int 15 0,.int 0 0,.ref 88,.int 17 0,.int 0 0,.ref 100,.int 19 0,.int 0 0,.ref 112,.int 21 0,.int 0 0,.ref 124,.int 23 0,.int 0 0,.ref 136,.int 25 0,.int 0 0,.ref 148,.int 27 0,.int 0 0,.ref 160,.int 29 0,.int 0 0,.ref 172,.int 31 0,.int 0 0,.ref 184,.int 34 0,.int 0 0,.ref 196,.int 36 0,.int 0 0,.ref 203,.int 38 0,.int 0 0,.ref 210,.int 40 0,.int 0 0,.ref 217,.int 47 0,.int 0 0,.ref 225,.int 52 0,.int 0 0,.ref 232,.int 63 0,.int 0 0,.ref 239,.int 67 0,.int 0 0,.ref 246,.int 74 0,.int 0 0,.ref 253,.int 79 0,.int 0 0,.ref 260,.int 86 0,.int 0 0,.ref 267,.int 97 0,.int 0 0,.ref 274,.int 103 0,.int 0 0,.ref 281,.int 105 0,.int 0 0,.ref 288,.int 107 0,.int 0 0,.ref 295,.int 121 0,.int 0 0,.ref 302,.int 124 0,.int 0 0,.ref 309,.int 129 0,.int 0 0,.ref 316,.int 131 0,.int 0 0,.ref 321,.int 135 0,.int 0 0,.ref 326,.int 147 0,.int 0 0,.ref 331,.int 156 0,.int 0 0,.ref 338,.int 162 0,.int 0 0,.ref 345,.int 169 0,.int 0 0,.ref 352,.int 171 0,.int 0 0,.ref 359,.int 209 0,.int 0 0,.ref 418,.int 213 0,.int 0 0,.ref 425,.int 215 0,.int 0 0,.ref 432,.int 222 0,.int 0 0,.ref 439,.int 225 0,.int 0 0,.ref 446,.int 229 0,.int 0 0,.ref 453,.int 232 0,.int 0 0,.ref 460,.int 240 0,.int 0 0,.ref 467,.int 243 0,.int 0 0,.ref 474,.int 250 0,.int 0 0,.ref 481,.int 254 0,.int 0 0,.ref 488,.int 265 0,.int 0 0,.ref 495,.int 276 0,.int 0 0,.ref 502,.int 291 0,.int 0 0,.ref 507,.int 295 0,.int 0 0,.ref 514,.int 297 0,.int 0 0,.ref 521,.int 304 0,.int 0 0,.ref 528,.int 322 0,.int 0 0,.ref 535,.int 325 0,.int 0 0,.ref 542,.int 340 0,.int 0 0,.ref 549,.int 355 0,.int 0 0,.ref 556,.int 368 0,.int 0 0,.ref 563,.int 374 0,.int 0 0,.ref 570,.int 384 0,.int 0 0,.ref 577])|#[]]
def Ik(P:Params):Obj:=%[(.type L0),none,(.dict #[e P vB 705 (.str nW 673),e P Hv 707 (.str mi 706),e P vC 709 (.int 171 708),e P vG 715 (.ref 365),e P jo 722 (.ref 372),e P vH 729 (.ref 379),e P rK 735 (.ref 384),e P vI 742 (.ref 391),e P vJ 751 (.ref 398),e P vK 761 (.ref 405),e P vD 764 (.ref 406)] 11)|#[]]
def Il(P:Params):Obj:=%[.none,none,(.fields #[.int 173 0,.int 4 0,.ref 364,.int 184 0,.int 4 0,.ref 371,.int 187 0,.int 4 0,.ref 378,.int 190 0,.int 4 0,.ref 383,.int 193 0,.int 4 0,.ref 390,.int 196 0,.int 4 0,.ref 397,.int 201 0,.int 4 0,.ref 404])|#[]]
def Im:=g0 mi 700 171 357
def Io:=g1 359 356 nW 673
def g19(x0 x1:Str)(x2:Nat)(P:Params):Obj:=%[.none,none,(.func %[x0,x1,L2.defArgs (L2.inClass (tp 57) x2),(.stmts (L2.defBody (L2.inClass (tp 57) x2))),L2.defScope (L2.inClass (tp 57) x2),0,[],.none,.none,.none,.none,none,.none,.none|0])|#[]]
def Ip:=g19 vG Ax 0
def Iq:=g18 vG 710 Ax 173 3 361
def g20(x0 x1:Str)(x2 x3:Nat)(P:Params):Obj:=%[(.type Ie),none,(.func %[x0,x1,L2.defArgs (L2.inClass (tp 57) x2),(.stmts (L2.defBody (L2.inClass (tp 57) x2))),L2.defScope (L2.inClass (tp 57) x2),3,[],.none,.none,.none,.str nW 673,none,.ref x3,.none|0])|#[]]
def Ir:=g20 vG Ax 0 364
def Iu:=g2 vL 719
def Iv:=g19 jo Ay 1
def Iw:=g4 jo 716 Ay 184 1 366 720
def Ix:=g20 jo Ay 1 371
def Iy:=g2 vL 726
def Iz:=g19 vH Az 2
def IA:=g4 vH 723 Az 187 1 373 727
def IB:=g20 vH Az 2 378
def IC:=g19 rK AA 3
def ID:=g18 rK 730 AA 190 1 380
def IE:=g20 rK AA 3 383
def IF:=g2 vL 739
def IG:=g19 vI AB 4
def IH:=g4 vI 736 AB 193 1 385 740
def II:=g20 vI AB 4 390
def IJ:=g14 vL 746 xN Au
def IK:=g19 vJ AC 5
def IL:=g4 vJ 743 AC 196 3 392 749
def IM:=g20 vJ AC 5 397
def IN:=g17 vL 755 xN Au HI
def IO:=g19 vK AD 6
def IP:=g4 vK 752 AD 201 3 399 759
def IQ:=g20 vK AD 6 404
def IR:=g12 Mt 762 Mu 763
def IS(P:Params):Obj:=%[(.type L0),none,(.dict #[e P vB 705 (.str nW 673),e P vC 709 (.int 171 708),e P vG 715 (.ref 365),e P jo 722 (.ref 372),e P vH 729 (.ref 379),e P rK 735 (.ref 384),e P vI 742 (.ref 391),e P vJ 751 (.ref 398),e P vK 761 (.ref 405),e P vD 764 (.ref 406),e P HJ 766 (.ref 409),e P Af 768 (.ref 410),e P S2 769 .none] 4)|#[]]
abbrev Ng:=SL.s11443829558043349243x14
def IT(P:Params):Obj:=%[(.type L69),none,(.cls %[mi,[.type L60],[.ref 408,.type L60],407,mi,true,[],[],false,none|false])|#[none,none,some (.str mi 698),some (.str mi 706),some (.builtin Ng),some (.bool true)]]
abbrev Nh:=SL.s6511155373996960695x17
abbrev Ni:=SL.s12411053484034534018x21
def IU(P:Params):Obj:=%[(.type Ih),none,(.fields #[.str HJ 765,.ref 408,.builtin Nh,.builtin Ni])|#[]]
def IV:=g7 767 408
def IW:=g8 408
def IX:=g9 408
def IY:=g12 HL 777 vM 778
def IZ:=g3 rL 59
def Ja:=g4 rL 774 rL 209 2 413 779
def Jb:=g5 rL 59 cP 772 418
def Jc:=g12 Mv 785 vM 786
def Jd:=g3 rM 60
def Je:=g4 rM 782 rM 213 2 420 787
def Jf:=g5 rM 60 cP 772 425
def Jg:=g14 jh 793 Mw Mx
def Jh:=g3 rN 61
def Ji:=g4 rN 790 rN 215 2 427 796
def Jj:=g5 rN 61 cP 772 432
def Jk:=g12 jh 802 xQ 803
def Jl:=g3 rO 62
def Jm:=g4 rO 799 rO 222 1 434 804
def Jn:=g5 rO 62 cP 772 439
def Jo:=g14 jh 810 AE My
def Jp:=g3 rP 63
def Jq:=g4 rP 807 rP 225 3 441 813
def Jr:=g5 rP 63 cP 772 446
def Js:=g12 jh 819 xQ 820
def Jt:=g3 rQ 64
def Ju:=g4 rQ 816 rQ 229 1 448 821
def Jv:=g5 rQ 64 cP 772 453
def Jw:=g16 jh 827 AE Mz HM vM jq jr
def Jx:=g3 rR 65
def Jy:=g4 rR 824 rR 232 2 455 834
def Jz:=g5 rR 65 cP 772 460
def JA:=g15 lq 840 AF HN jq jr
def JB:=g3 rS 66
def JC:=g4 rS 837 rS 240 3 462 845
def JD:=g5 rS 66 cP 772 467
def JE:=g17 lq 851 MA vM AF
def JF:=g3 rV 67
def JG:=g4 rV 848 rV 243 1 469 855
def JH:=g5 rV 67 cP 772 474
def JI:=g15 lq 861 jq jr sG HP
def JJ:=g3 rW 68
def JK:=g4 rW 858 rW 250 5 476 866
def JL:=g5 rW 68 cP 772 481
def g21(x0:Nat)(x1 x2 x3 x4 x5 x6 x7:Str)(P:Params):Obj:=%[(.type L68),none,(.seq #[.str jh x0,.str x1 (x0+1),.str x2 (x0+2),.str x3 (x0+3),.str x4 (x0+4),.str x5 (x0+5),.str x6 (x0+6),.str x7 (x0+7)] 0)|#[]]
def JM:=g21 872 lq jq jr xQ AF HN HQ
def JN:=g3 rX 69
def JO:=g4 rX 869 rX 254 4 483 880
def JP:=g5 rX 69 cP 772 488
def JQ(P:Params):Obj:=%[(.type L68),none,(.seq #[.str jh 886,.str lq 887,.str jq 888,.str jr 889,.str MC 890,.str MD 891,.str sG 892,.str MF 893,.str HP 894,.str HR 895,.str HS 896,.str HU 897] 0)|#[]]
def JR:=g3 rY 70
def JS:=g4 rY 883 rY 265 6 490 898
def JT:=g5 rY 70 cP 772 495
def JU(P:Params):Obj:=%[(.type L68),none,(.seq #[.str lq 904,.str jq 905,.str jr 906,.str AG 907,.str sG 908,.str HV 909,.str MG 910,.str MH 911,.str MJ 912,.str MK 913,.str HR 914,.str HS 915,.str AH 916] 0)|#[]]
def JV:=g3 rZ 71
def JW:=g4 rZ 901 rZ 276 4 497 917
def JX:=g5 rZ 71 cP 772 502
def JY:=g3 si 72
def JZ:=g18 si 920 si 291 2 504
def Ka:=g5 si 72 cP 772 507
def Kb:=g12 xR 929 MN 930
def Kc:=g3 sj 73
def Ke:=g4 sj 926 sj 295 2 509 931
def Kf:=g5 sj 73 cP 772 514
def Kg:=g15 lq 937 jq jr xS HQ
def Kh:=g3 sk 74
def Ki:=g4 sk 934 sk 297 4 516 942
def Kj:=g5 sk 74 cP 772 521
def Kk:=g16 lq 948 jq jr xS MO xR MP
def Kl:=g3 ss 75
def Km:=g4 ss 945 ss 304 4 523 955
def Ko:=g5 ss 75 cP 772 528
def Kp:=g12 jh 961 xQ 962
def Kq:=g3 su 76
def Kr:=g4 su 958 su 322 1 530 963
def Ks:=g5 su 76 cP 772 535
def Kt:=g13 jh 969 HW HX AH MQ sG
def Ku:=g3 sv 77
def Kv:=g4 sv 966 sv 325 2 537 975
def Kw:=g5 sv 77 cP 772 542
def Kx:=g16 jh 981 xS HX sG HW HY HZ
def Ky:=g3 sw 78
def Kz:=g4 sw 978 sw 340 2 544 988
def KA:=g5 sw 78 cP 772 549
def KB:=g21 994 AG sG AH HU MR HY HZ
def KC:=g3 sy 79
def KD:=g4 sy 991 sy 355 2 551 1002
def KF:=g5 sy 79 cP 772 556
def KG:=g14 Ia 1008 HM MT
def KH:=g3 sD 80
def KI:=g4 sD 1005 sD 368 1 558 1011
def KJ:=g5 sD 80 cP 772 563
def KL:=g16 Ib 1017 Ic jq jr xR MU Ia
def KM:=g3 sE 81
def KN:=g4 sE 1014 sE 374 5 565 1024
def KO:=g5 sE 81 cP 772 570
def KP(P:Params):Obj:=%[(.type L68),none,(.seq #[.str HL 1030,.str vM 1031,.str jh 1032,.str AE 1033,.str lq 1034,.str Ic 1035,.str jq 1036,.str jr 1037,.str AG 1038,.str xS 1039,.str HV 1040,.str MV 1041,.str xR 1042,.str MW 1043,.str MX 1044,.str Ib 1045,.str MY 1046] 0)|#[]]
def KQ:=g3 vF 82
def KR:=g4 vF 1027 vF 384 1 572 1047
def KS:=g5 vF 82 cP 772 577
def t2:Params->BT:=(f boot_o_0 (f boot_o_1 (f Ij (f boot_o_7 (f o11 (f vN (f o12 (f yj (f o11 (f Kb z z) z) (f ID z z)) (f o11 (f o12 (f o11 z z) z) (f Jr z z))) (f o35 (f o12 (f CC (f Kw z z) z) (f IY z z)) (f o11 (f Dw z z) (f o11 z z)))) (f o35 (f o79 (f o35 (f Cs (f Kl z z) z) (f o11 z z)) (f BF (f Dk z z) (f o12 z z))) (f o12 (f Bk (f CO (f o12 z z) z) (f Jh z z)) (f BZ (f o12 z z) (f JS z z))))) (f o23 (f o12 (f o35 (f o12 (f o12 (f o11 z z) z) (f II z z)) (f o12 (f Dg z z) (f o11 z z))) (f xV (f o35 (f CJ (f o11 z z) z) (f o11 z z)) (f BU (f Im z z) (f JN z z)))) (f o55 (f o12 (f AW (f o11 (f Kr z z) z) (f IS z z)) (f o11 (f o11 z z) (f JE z z))) (f o35 (f o12 (f o11 (f KL z z) z) (f Jm z z)) (f Ce (f Iy z z) (f JX z z)))))) (f o11 (f o19 (f o35 (f o67 (f o35 (f Ck (f Kf z z) z) (f IF z z)) (f By (f o11 z z) (f o11 z z))) (f o12 (f Bd (f o12 (f o11 z z) z) (f Jb z z)) (f o11 (f o23 z z) (f o11 z z)))) (f o12 (f o35 (f o12 (f Cv (f o12 z z) z) (f IO z z)) (f BI (f Do z z) (f JC z z))) (f yc (f o35 (f o11 (f KI z z) z) (f o12 z z)) (f Cb (f Iw z z) (f JU z z))))) (f o27 (f o43 (f o12 (f AO (f Cq (f o11 z z) z) (f o11 z z)) (f BD (f Di z z) (f Jx z z))) (f o35 (f o12 (f CL (f KC z z) z) (f o11 z z)) (f o12 (f Ip z z) (f o12 z z)))) (f o35 (f o91 (f o35 (f o11 (f Kt z z) z) (f IW z z)) (f BN (f o11 z z) (f JH z z))) (f o12 (f Br (f CV (f KO z z) z) (f Jo z z)) (f o11 (f IB z z) (f JZ z z))))))) (f boot_o_5 (f boot_o_9 (f o17 (f o33 (f o65 (f ym (f Cj (f Kc z z) z) (f o11 z z)) (f Bw (f Da (f KR z z) z) (f o12 z z))) (f o97 (f Bc (f CF (f o12 z z) z) (f IZ z z)) (f BQ (f Dy z z) (f JK z z)))) (f o49 (f o81 (f AT (f Ct (f Ko z z) z) (f IN z z)) (f BG (f Dl z z) (f o11 z z))) (f yb (f Bm (f o12 (f o11 z z) z) (f Jj z z)) (f o11 (f o11 z z) (f o11 z z))))) (f o11 (f o41 (f o73 (f AN (f o11 (f Ki z z) z) (f o12 z z)) (f o11 (f o12 z z) (f Jw z z))) (f xX (f Bh (f o11 (f KB z z) z) (f Je z z)) (f BW (f o11 z z) (f JP z z)))) (f o57 (f o89 (f AY (f Cz (f o11 z z) z) (f IU z z)) (f BL (f Dr z z) (f JF z z))) (f yg (f Bq (f CU (f KM z z) z) (f o11 z z)) (f o12 (f Iz z z) (f o12 z z)))))) (f o13 (f o21 (f o37 (f o69 (f AL (f Cn (f o12 z z) z) (f IG z z)) (f BA (f Dc z z) (f Ju z z))) (f xU (f Bf (f o11 (f Kz z z) z) (f o12 z z)) (f BS (f o11 z z) (f JM z z)))) (f o53 (f o85 (f AV (f o12 (f o11 z z) z) (f IQ z z)) (f o12 (f o12 z z) (f o11 z z))) (f ye (f Bo (f CS (f o11 z z) z) (f o11 z z)) (f Cc (f o11 z z) (f JV z z))))) (f o11 (f o45 (f o77 (f AR (f o11 (f Kk z z) z) (f IL z z)) (f o11 (f o11 z z) (f Jz z z))) (f xZ (f Bj (f CM (f KF z z) z) (f Jg z z)) (f o11 (f Ir z z) (f o11 z z)))) (f o61 (f o93 (f Ba (f CB (f Ku z z) z) (f o11 z z)) (f o12 (f Dv z z) (f o12 z z))) (f yi (f Bu (f CY (f o12 z z) z) (f Jp z z)) (f Ch (f o12 z z) (f o11 z z)))))))) (f boot_o_2 (f boot_o_4 (f boot_o_8 (f o12 (f o32 (f o64 (f yk (f o12 (f o11 z z) z) (f IE z z)) (f o12 (f CZ (f KQ z z) z) (f o11 z z))) (f o23 (f Bb (f CD (f o11 z z) z) (f o11 z z)) (f BP (f Dx z z) (f JJ z z)))) (f o23 (f o80 (f o23 (f o11 (f Km z z) z) (f o12 z z)) (f o11 (f o11 z z) (f JA z z))) (f ya (f Bl (f o11 (f KG z z) z) (f Ji z z)) (f Ca (f Iu z z) (f JT z z))))) (f o24 (f o40 (f o23 (f AM (f Co (f Kh z z) z) (f o11 z z)) (f BB (f o11 z z) (f o12 z z))) (f xW (f o23 (f CK (f o12 z z) z) (f Jd z z)) (f BV (f Io z z) (f JO z z)))) (f o56 (f o88 (f AX (f Cy (f Ks z z) z) (f IT z z)) (f BK (f Dq z z) (f o11 z z))) (f o23 (f Bp (f o12 (f o11 z z) z) (f Jn z z)) (f o11 (f o11 z z) (f o11 z z)))))) (f yL (f o20 (f o23 (f o68 (f o23 (f Cm (f o11 z z) z) (f o11 z z)) (f Bz (f o12 z z) (f Jt z z))) (f xT (f Be (f CG (f Ky z z) z) (f o11 z z)) (f o12 (f Ik z z) (f o12 z z)))) (f o52 (f o23 (f AU (f o11 (f Kp z z) z) (f IP z z)) (f o11 (f o11 z z) (f JD z z))) (f yd (f o23 (f CQ (f KJ z z) z) (f Jk z z)) (f o11 (f Ix z z) (f o11 z z))))) (f o28 (f o44 (f o76 (f AQ (f Cr (f o12 z z) z) (f IK z z)) (f BE (f Dj z z) (f Jy z z))) (f o23 (f Bi (f o11 (f KD z z) z) (f o12 z z)) (f BX (f Iq z z) (f JQ z z)))) (f o23 (f o92 (f o23 (f o12 (f o11 z z) z) (f IX z z)) (f o11 (f o12 z z) (f o11 z z))) (f yh (f Bs (f CW (f o11 z z) z) (f o11 z z)) (f Cg (f o11 z z) (f Ka z z))))))) (f boot_o_6 (f boot_o_10 (f o11 (f o34 (f o11 (f yn (f o11 (f Ke z z) z) (f o12 z z)) (f o11 (f Db (f KS z z) z) (f Js z z))) (f o11 (f o11 (f o11 (f Kx z z) z) (f Ja z z)) (f BR (f o11 z z) (f JL z z)))) (f o11 (f o82 (f o11 (f Cu (f o11 z z) z) (f o11 z z)) (f BH (f Dm z z) (f JB z z))) (f o11 (f Bn (f CP (f KH z z) z) (f o11 z z)) (f o12 (f Iv z z) (f o12 z z))))) (f o12 (f o11 (f o11 (f o11 (f Cp (f Kj z z) z) (f IJ z z)) (f BC (f Dh z z) (f o11 z z))) (f xY (f o11 (f o12 (f o11 z z) z) (f Jf z z)) (f o11 (f o12 z z) (f o11 z z)))) (f o58 (f o11 (f AZ (f CA (f o12 z z) z) (f IV z z)) (f BM (f Ds z z) (f JG z z))) (f o11 (f o11 (f o11 (f KN z z) z) (f o12 z z)) (f Cf (f IA z z) (f JY z z)))))) (f o14 (f o22 (f o11 (f o70 (f o11 (f o11 (f Kg z z) z) (f IH z z)) (f o11 (f Df z z) (f Jv z z))) (f o11 (f Bg (f CI (f KA z z) z) (f Jc z z)) (f o11 (f Il z z) (f o11 z z)))) (f o11 (f o11 (f o11 (f Cw (f Kq z z) z) (f IR z z)) (f BJ (f Dp z z) (f o12 z z))) (f yf (f o11 (f CT (f o12 z z) z) (f Jl z z)) (f Cd (f o12 z z) (f JW z z))))) (f o30 (f o46 (f o11 (f AS (f o12 (f o11 z z) z) (f IM z z)) (f o12 (f o12 z z) (f o11 z z))) (f o11 (f o11 (f CN (f o11 z z) z) (f o11 z z)) (f BY (f o11 z z) (f JR z z)))) (f o11 (f o94 (f o11 (f o11 (f Kv z z) z) (f o12 z z)) (f BO (f o11 z z) (f JI z z))) (f o11 (f Bv (f o11 (f KP z z) z) (f Jq z z)) (f Ci (f IC z z) (f o12 z z)))))))))
abbrev s2(w:F8)(os:OsState):SharedT:=%[t2 w.params,579,{ },(Array.mk []),%[0,0,0|0],1050|os]
abbrev p2:Pos:=%[384,0,411|15]
abbrev st2:OI Stmt:=(pt.main.body.drop 57).take 26
theorem q2(w:F8):(λ os=>segRunT treeTable pt w m0 an 1 1219 (s1 w os) %[(execs st2 en).wrap doneF deadEnd id id,cE,p1|B])=λ os=>some (.next,s2 w os,cE,p2):=by rw[PySem.W.Fast.te10110043849684766642,PySem.W.Fast.te14364793385576792824,PySem.W.Fast.te12563942051412417395];kernel_rfl
def hF(P:Params):Heap:=%[%[|[boot_o_0 P,boot_o_1 P,boot_o_2 P,Ij P,boot_o_4 P,boot_o_5 P,boot_o_6 P,boot_o_7 P,boot_o_8 P,boot_o_9 P,boot_o_10 P,o11 P,yL P,o13 P,o14 P,o11 P,o12 P,o17 P,o11 P,o19 P,o20 P,o21 P,o22 P,o23 P,o24 P,o11 P,o12 P,o27 P,o28 P,o11 P,o30 P,vN P,o32 P,o33 P,o34 P,o35 P,o23 P,o37 P,o11 P,o12 P,o40 P,o41 P,o11 P,o43 P,o44 P,o45 P,o46 P,o35 P,o23 P,o49 P,o11 P,o12 P,o52 P,o53 P,o11 P,o55 P,o56 P,o57 P,o58 P,o35 P,o23 P,o61 P,o11 P,o12 P,o64 P,o65 P,o11 P,o67 P,o68 P,o69 P,o70 P,o35 P,o23 P,o73 P,o11 P,o12 P,o76 P,o77 P,o11 P,o79 P,o80 P,o81 P,o82 P,o35 P,o23 P,o85 P,o11 P,o12 P,o88 P,o89 P,o11 P,o91 P,o92 P,o93 P,o94 P,o35 P,o23 P,o97 P,o11 P,o12 P,xT P,xU P,o11 P,xV P,xW P,xX P,xY P,o35 P,o23 P,xZ P,o11 P,o12 P,ya P,yb P,o11 P,yc P,yd P,ye P,yf P,o35 P,o23 P,yg P,o11 P,o12 P,yh P,yi P,o11 P,yj P,yk P,ym P,yn P,o35 P,o23 P,AL P,o11 P,o12 P,AM P,AN P,o11 P,AO P,AQ P,AR P,AS P,o35 P,o23 P,AT P,o11 P,o12 P,AU P,AV P,o11 P,AW P,AX P,AY P,AZ P,o35 P,o23 P,Ba P,o11 P,o12 P,Bb P,Bc P,o11 P,Bd P,Be P,Bf P,Bg P,o35 P,o23 P,Bh P,o11 P,o12 P,Bi P,Bj P,o11 P,Bk P,Bl P,Bm P,Bn P,o35 P,o23 P,Bo P,o11 P,o12 P,Bp P,Bq P,o11 P,Br P,Bs P,Bu P,Bv P,o11 P,o12 P,Bw P,o11 P,By P,Bz P,BA P,o11 P,o12 P,BB P,o11 P,BC P,BD P,BE P,o11 P,o12 P,BF P,o11 P,BG P,BH P,BI P,o11 P,o12 P,BJ P,o11 P,BK P,BL P,BM P,BN P,o11 P,o12 P,BO P,o11 P,BP P,BQ P,BR P,o11 P,o12 P,BS P,o11 P,BU P,BV P,BW P,o11 P,o12 P,BX P,o11 P,BY P,BZ P,Ca P,o11 P,o12 P,Cb P,o11 P,Cc P,Cd P,Ce P,o11 P,o12 P,Cf P,o11 P,Cg P,Ch P,Ci P,o11 P,o12 P,Cj P,o11 P,Ck P,Cm P,Cn P,o11 P,o12 P,Co P,o11 P,Cp P,Cq P,Cr P,o11 P,o12 P,Cs P,o11 P,Ct P,Cu P,Cv P,o11 P,o12 P,Cw P,o11 P,Cy P,Cz P,CA P,o11 P,o12 P,CB P,o11 P,CC P,CD P,CF P,o11 P,o12 P,CG P,o11 P,CI P,CJ P,CK P,o11 P,o12 P,CL P,o11 P,CM P,CN P,CO P,o11 P,o12 P,CP P,o11 P,CQ P,CS P,CT P,o11 P,o12 P,CU P,o11 P,CV P,CW P,CY P,o11 P,o12 P,CZ P,Da P,Db P,o11 P,o12 P,Dc P,Df P,Dg P,o11 P,o12 P,Dh P,Di P,Dj P,o11 P,o12 P,Dk P,o11 P,Dl P,Dm P,Do P,o11 P,o12 P,Dp P,o11 P,Dq P,Dr P,Ds P,o11 P,o12 P,Dv P,o11 P,Dw P,Dx P,Dy P,o11 P,o23 P,Ik P,o11 P,Il P,Im P,Io P,o11 P,o12 P,Ip P,Iq P,Ir P,o11 P,o12 P,Iu P,o11 P,Iv P,Iw P,Ix P,o11 P,o12 P,Iy P,o11 P,Iz P,IA P,IB P,o11 P,o12 P,IC P,ID P,IE P,o11 P,o12 P,IF P,o11 P,IG P,IH P,II P,o11 P,o12 P,IJ P,o11 P,IK P,IL P,IM P,o11 P,o12 P,IN P,o11 P,IO P,IP P,IQ P,IR P,IS P,IT P,IU P,IV P,IW P,IX P,o11 P,o12 P,IY P,o11 P,IZ P,Ja P,Jb P,o11 P,o12 P,Jc P,o11 P,Jd P,Je P,Jf P,o11 P,o12 P,Jg P,o11 P,Jh P,Ji P,Jj P,o11 P,o12 P,Jk P,o11 P,Jl P,Jm P,Jn P,o11 P,o12 P,Jo P,o11 P,Jp P,Jq P,Jr P,o11 P,o12 P,Js P,o11 P,Jt P,Ju P,Jv P,o11 P,o12 P,Jw P,o11 P,Jx P,Jy P,Jz P,o11 P,o12 P,JA P,o11 P,JB P,JC P,JD P,o11 P,o12 P,JE P,o11 P,JF P,JG P,JH P,o11 P,o12 P,JI P,o11 P,JJ P,JK P,JL P,o11 P,o12 P,JM P,o11 P,JN P,JO P,JP P,o11 P,o12 P,JQ P,o11 P,JR P,JS P,JT P,o11 P,o12 P,JU P,o11 P,JV P,JW P,JX P,o11 P,o12 P,JY P,JZ P,Ka P,o11 P,o12 P,Kb P,o11 P,Kc P,Ke P,Kf P,o11 P,o12 P,Kg P,o11 P,Kh P,Ki P,Kj P,o11 P,o12 P,Kk P,o11 P,Kl P,Km P,Ko P,o11 P,o12 P,Kp P,o11 P,Kq P,Kr P,Ks P,o11 P,o12 P,Kt P,o11 P,Ku P,Kv P,Kw P,o11 P,o12 P,Kx P,o11 P,Ky P,Kz P,KA P,o11 P,o12 P,KB P,o11 P,KC P,KD P,KF P,o11 P,o12 P,KG P,o11 P,KH P,KI P,KJ P,o11 P,o12 P,KL P,o11 P,KM P,KN P,KO P,o11 P,o12 P,KP P,o11 P,KQ P,KR P,KS P]]|{ }]
abbrev sF(w:F8)(os:OsState):F5:=%[hF w.params,(Array.mk []),%[0,0,0|0],1050|os]
theorem fin(w:F8):(λ os=>topRun treeTable pt w m0 an 2 (s2 w os).abs ⟨doneF .next,cE,p2,B⟩)=λ os=>some (sF w os):=by rw[PySem.W.Fast.te14082659384304107361,PySem.W.Fast.te14364793385576792824];kernel_rfl
theorem yo:behindTheImports pt=st0 ++ (st1 ++ (st2 ++ ([]))):=by kernel_rfl
abbrev MM:Nat:=12+(1+(1929+(1989+(1219+2))))
theorem Dz(w:F8)(os:OsState):topRun treeTable pt w m0 an MM (sZ w os) (topStub pt)=some (sF w os) :=
 go_top (congrFun (pre w) os) (piece_block (congrFun (blk w) os) (yo ▸ (piece_app (l:=st0) (segRun_of (congrFun (q0 w) os)) (piece_app (l:=st1) (segRun_of (congrFun (q1 w) os)) (piece_app (l:=st2) (segRun_of (congrFun (q2 w) os)) (piece_nil (congrFun (fin w) os)))))))
def loose:OI Str:=[mf,gu,nO,nP,nQ,nR,nS,nT,nU,nV,rC,rD,rE,rF,rG,nX,nY,nZ,og,Ag,Ai,Ak,oh,oi,Al,Am,An,Ao,Ap,oj,om,oq,ot,ou,oz,Aq,Ar,oA,oB,oC,oE,oF,oG,oH,oI,oJ,oK,As,At,oM,oN,mi,rL,rM,rN,rO,rP,rQ,rR,rS,rV,rW,rX,rY,rZ,si,sj,sk,ss,su,sv,sw,sy,sD,sE]
abbrev NN:Nat:=10394
abbrev q:F6:=view pt [82]
abbrev Xt:F5->Bool:=λ s=>xlAt q [] s && recOk [] s
theorem size(w:F8):((boot_heap w.params).isNs OJ && (Array.mk []:OH GenState).size == 0,(boot_heap w.params).objs.size,(boot_heap w.params).nsMap OJ "__annotations__")=(true,m0,an):=by rw[PySem.W.Fast.te8920871248978507458];kernel_rfl
theorem KT(w:F8):(λ os=>((staticsOk (importedModules pt.main.body) (boot_heap w.params) (hF w.params) && namesBound pt (hF w.params) && gensDone (sF w os) && laidKept (boot_heap w.params) (hF w.params)),openSeen q loose (importedModules pt.main.body) Xt true (sF w os),HK.obs (sF w os)))=λ _=>(true,openGood q loose,HK.val w):=by rw[PySem.W.Fast.te4187177175401517315,PySem.W.Fast.te5923862056798008813];kernel_rfl
theorem left:LeftO pt q loose Xt HK.obs HK.val NN true:=LeftO.of_pieces (boot_open (by kernel_rfl) ∅ (λ s=>rfl)) size Dz ∅ KT
end Hd
open PySem PySem.W PyProof.Rows
set_option maxRecDepth 100000 in
set_option maxHeartbeats 0 in
theorem PySem.Challenge.cw_platecuts_k84_tellings_refused_holds : PySem.Challenge.rw_platecuts_k84_tellings_refused.Holds := by
 w_on;o_law
 refine holds_open (q:=view PySem.Challenge.pw_platecuts_k84_tellings_refused [82]) (loose:=Hd.loose) (Xt:=λ s=>xlAt (view PySem.Challenge.pw_platecuts_k84_tellings_refused [82]) [] s && recOk [] s) (XP:=XL (view PySem.Challenge.pw_platecuts_k84_tellings_refused [82]) []) (Yf:=Hook.obs Hd.HK) (Ya:=Hook.val Hd.HK) (YP:=InK Pc.kK) (N:=Hd.NN) ?hl (Hook.of Hd.HK) (Hook.keeps Hd.HK) (λ s e=>xl_of s (C7.mp e).1) XL.keeps (by rfl) (by rfl) (by rfl) (λ s e=>recFacts_of (C7.mp e).2) (by rfl) (by first | assumption | decide +kernel) (by decide +kernel) ⟨rfl,rfl,rfl,rfl,rfl,by decide +kernel⟩ ?hw ?hc
 case hl=>exact Hd.pt_eq ▸ Hd.left
 case hw=>w_witness2
 k_fill
 refine Pc.walk (l:=PySem.Challenge.rw_platecuts_k84_tellings_refused) rfl rfl (λ w h Y=>Y) ?F
 case F=>
  intro w mg fa h KX G hmg;refine' Pc.all_mk KX G hmg ?d0 ?d1 ?d2 ?d3 ?d4 ?d5 ?d6 ?d7 ?d8 ?d9 ?d10 ?d11 ?d12 ?d13 ?d14 ?d15 ?d16 ?d17 ?d18 ?d19 ?d20 ?d21 ?d22 ?d23 ?d24 ?d25 ?d26 ?d27 ?d28 ?d29 ?d30 ?d31 ?d32 ?d33 ?d34 ?d35 ?d36 ?d37 ?d38 ?d39 ?d40 ?d41 ?d42 ?d43 ?d44 ?d45 ?d46 ?d47 ?aC ?dm0 ?dm1 ?dm2 ?dm3 ?pg ?hd ?po ?sa ?mk ?kc ?n0 ?n1 ?eWAYS ?e'a ?e'b ?e'c ?e'd ?e'e ?e'f ?e'g ?e'h ?e'i ?e'j ?e'k ?e'l ?e'm ?e'n ?sysm ?lWAYS ?c'a ?c'b ?c'c ?c'd ?cR ?cS ?s'ba ?s'bb ?s'bc ?s'bd ?v'b ?ka'b ?kb'b ?kc'b ?kd'b ?ke'b ?s'ca ?s'cb ?s'cc ?s'cd ?v'c ?ka'c ?kb'c ?kc'c ?kd'c ?ke'c ?s'da ?s'db ?s'dc ?s'dd ?v'd ?ka'd ?kb'd ?kc'd ?kd'd ?ke'd ?b'a ?r'b ?t'b ?r'c ?t'c ?r'd ?t'd ?z0 ?z1 ?z2 ?z3 ?z4 ?z5 ?z6 ?z7 ?z8 ?z9 ?z10 ?z11 ?z12 ?z13 ?z14 ?z15 ?z16 ?z17 ?z18 ?z19 ?uc0 ?uc1 ?uc2 ?uc3 ?uc4 ?uc5 ?uc6 ?uc7 ?uc8 ?uc9
  (case d0 | d1 | d2 | d3 | d4 | d5 | d6 | d7 | d8 | d9 | d10 | d11 | d12 | d13 | d14 | d15 | d16 | d17 | d18 | d19 | d20 | d21 | d22 | d23 | d24 | d25 | d26 | d27 | d28 | d29 | d30 | d31 | d32 | d33 | d34 | d35 | d36 | d37 | d38 | d39 | d40 | d41 | d42 | d43 | d44 | d45 | d46 | d47=>refine' Pc.diM ?a ?l ?c ?k;(case a=>k_is);(case l=>k_is);(case c=>k_is);(case k=>k_is))
  (case aC=>k_is)
  (case dm0 | dm1 | dm2 | dm3=>refine' Pc.miM ?a ?i ?l ?c ?k;(case a=>k_is);(case i=>k_is);(case l=>k_is);(case c=>k_is);(case k=>k_is))
  (case pg | hd | po | sa | mk | kc | n0 | n1 | eWAYS | e'a | e'b | e'c | e'd | e'e | e'f | e'g | e'h | e'i | e'j | e'k | e'l | e'm | e'n=>k_is)
  (case sysm=>kernel_rfl)
  (case lWAYS=>exact⟨_,_,_,O,O,O,by decide,.cons ⟨_,O⟩ (.cons ⟨_,O⟩ .nil)⟩)
  (case c'a | c'b | c'c | c'd=>k_exc)
  (case cR=>intro x hx;simp only[List.mem_cons,List.not_mem_nil,or_false]at hx;rcases hx with rfl | rfl | rfl | rfl | rfl | rfl | rfl | rfl <;> k_exc)
  (case cS=>intro x hx;simp only[List.mem_cons,List.not_mem_nil,or_false]at hx;rcases hx with rfl | rfl <;> k_exc)
  (case s'ba | s'bb | s'bc | s'bd | v'b | ka'b | kb'b | kc'b | kd'b | ke'b | s'ca | s'cb | s'cc | s'cd | v'c | ka'c | kb'c | kc'c | kd'c | ke'c | s'da | s'db | s'dc | s'dd | v'd | ka'd | kb'd | kc'd | kd'd | ke'd | b'a=>k_is)
  (case r'b=>intro x hx;simp only[List.mem_cons,List.not_mem_nil,or_false]at hx;rcases hx with rfl | rfl | rfl | rfl | rfl | rfl | rfl | rfl <;> k_is)
  (case t'b=>intro x hx;simp only[List.mem_cons,List.not_mem_nil,or_false]at hx;rcases hx with rfl | rfl <;> k_is)
  (case r'c=>intro x hx;simp only[List.mem_cons,List.not_mem_nil,or_false]at hx;rcases hx with rfl | rfl | rfl | rfl | rfl | rfl | rfl | rfl <;> k_is)
  (case t'c=>intro x hx;simp only[List.mem_cons,List.not_mem_nil,or_false]at hx;rcases hx with rfl | rfl <;> k_is)
  (case r'd=>intro x hx;simp only[List.mem_cons,List.not_mem_nil,or_false]at hx;rcases hx with rfl | rfl | rfl | rfl | rfl | rfl | rfl | rfl <;> k_is)
  (case t'd=>intro x hx;simp only[List.mem_cons,List.not_mem_nil,or_false]at hx;rcases hx with rfl | rfl <;> k_is)
  (case z0 | z1 | z2 | z3 | z4 | z5 | z6 | z7 | z8 | z9 | z10 | z11 | z12 | z13 | z14 | z15 | z16 | z17 | z18 | z19 | uc0 | uc1 | uc2 | uc3 | uc4 | uc5 | uc6 | uc7 | uc8 | uc9=>k_is)