import PyProof.Rows.All
import Wide.All
import OpenK.AllK
import Wide.FinOn
import Lean
import PyProof.EqAt
import PyProof.EqKinds
import PyProof.TupleCall
import PyProof.Draws
import PyProof.WalksMore
import PyProof.EnumMake
import PyProof.ReprRoads
import PyProof.Rows.SortWalk
import PyProof.Rows.SumAny
import PyProof.FitsBits
import KE.KSortTup
import PyProof.FactsAll.dict_1
import PyProof.FactsAll.subtypes_4
import PyProof.FactsAll.subtypes_1
import PyProof.FactsAll.subtypes_2
import PySem.Challenge.RW_platecuts_k33_whole_a_tree_or_a_knot
set_option maxRecDepth 100000
set_option maxHeartbeats 0
local macro_rules|`(def $i $s:optDeclSig $v:declVal)=>`(noncomputable def $i $s:optDeclSig $v:declVal)
local macro_rules|`(abbrev $i $s:optDeclSig $v:declVal)=>`(noncomputable abbrev $i $s:optDeclSig $v:declVal)
local macro_rules|`(∅)=>`(by decide +kernel)
local macro_rules|`(⋯)=>`(by omega)
local macro_rules|`(↑$x)=>`(some (.ref $x))
local macro_rules|`(⇑$x)=>`(some (.int $x))
local macro_rules|`(↥$x)=>`(some (.lst $x))
local macro_rules|`(~~~$x)=>`(some (.tup $x))
local macro_rules|`(%[$xs,*|$y])=>if y.raw.getId.hasMacroScopes then Lean.Macro.throwUnsupported else `(⟨$(xs.getElems.push y),*⟩)
local macro_rules|`(tactic|apply $t)=>`(tactic|refine $t)
section
open PySem PySem.W PySem.Spec PyProof PyProof.Rows
abbrev F4:=@Shared
abbrev F5:=@Program
abbrev F6:=@FuncData
abbrev F7:=@World
abbrev F8:=@Value
abbrev A0:=@wpAny_bind
abbrev A1:=@wpAny_pure
abbrev A2:=@wpS_bind
abbrev A3:=@wpS_pure
abbrev A4:=@List.mem_append_right
abbrev A5:=@List.getElem?_eq_some_iff
abbrev A6:=@Heap.get?_push_of_some
abbrev A7:=@Heap.get?_push_size
abbrev A8:=@Heap.lt_size
abbrev A9:=@decide_eq_true
abbrev B0:=@decide_eq_false
theorem B1:type_of% @Bool.false_ne_true:=@Bool.false_ne_true
theorem B2:type_of% @Nat.le_refl:=@Nat.le_refl
theorem B3:type_of% @List.mem_cons_of_mem:=@List.mem_cons_of_mem
abbrev B4:=@List.mem_of_getElem?
abbrev B5:=@List.mem_append_left
theorem B6:type_of% @List.mem_cons_self:=@List.mem_cons_self
abbrev B7:=@Option.some.inj
theorem B8:type_of% @Nat.ne_of_lt:=@Nat.ne_of_lt
abbrev B9:=@of_decide_eq_true
theorem C0:type_of% @Nat.lt_of_lt_of_le:=@Nat.lt_of_lt_of_le
abbrev C1:=@List.mem_append
abbrev C2:=@beq_iff_eq
abbrev C3:=@PySem.W.Frag
abbrev C4:=@Nat.le_trans
abbrev C5:=@Nat.lt_of_le_of_lt
abbrev C6:=@Nat.le_of_lt
abbrev C7:=@Bool.and_eq_true_iff
abbrev C8:=@Nat.lt_irrefl
theorem C9:type_of% @List.mem_singleton:=@List.mem_singleton
abbrev E1:=@Paired.length
abbrev E2:=@PassesOwn.never
abbrev E3:=@Int.le_refl
abbrev E4:=@PySem.W.fnOf
abbrev E5:=@False.elim
abbrev E6:=@Nat.zero_le
abbrev E7:=@Nat.not_lt_zero
abbrev E8:=@Nat.lt_succ_self
theorem E9:type_of% @List.getElem?_eq_getElem:=@List.getElem?_eq_getElem
abbrev F0:=@wpAny_truthy_bool
abbrev F1:=@wpAny_call_entry
abbrev F2:=@wpAny_newObj_type
abbrev F3:=@PySem.F.plainAttrs_list
theorem GZ:type_of% @List.length_map:=@List.length_map
theorem G0:type_of% @List.mem_cons:=@List.mem_cons
theorem G1:type_of% @List.length_cons:=@List.length_cons
theorem G2:type_of% @List.size_toArray:=@List.size_toArray
theorem G3:type_of% @List.not_mem_nil:=@List.not_mem_nil
theorem G4:type_of% @List.length_append:=@List.length_append
theorem G5:type_of% @List.length_take:=@List.length_take
theorem G6:type_of% @List.getElem?_map:=@List.getElem?_map
theorem G7:type_of% @List.mem_map:=@List.mem_map
theorem G8:type_of% @List.mem_filter:=@List.mem_filter
theorem G9:type_of% @List.map_cons:=@List.map_cons
theorem HA:type_of% @List.take_add_one:=@List.take_add_one
theorem HB:type_of% @List.map_append:=@List.map_append
theorem HC:type_of% @List.take_length:=@List.take_length
theorem HD:type_of% @List.mem_iff_getElem?:=@List.mem_iff_getElem?
theorem HE:type_of% @Option.map_eq_some_iff:=@Option.map_eq_some_iff
theorem HF:type_of% @List.eq_nil_of_length_eq_zero:=@List.eq_nil_of_length_eq_zero
theorem HG:type_of% @List.length_drop:=@List.length_drop
theorem HI:type_of% @List.mem_map_of_mem:=@List.mem_map_of_mem
theorem HJ:type_of% @List.filter_cons_of_neg:=@List.filter_cons_of_neg
theorem HL:type_of% @Bool.false_eq_true:=@Bool.false_eq_true
theorem HM:type_of% @List.length_filter_le:=@List.length_filter_le
theorem HN:type_of% @Int.toNat_natCast:=@Int.toNat_natCast
theorem HP:type_of% @List.take_of_length_le:=@List.take_of_length_le
theorem HQ:type_of% @List.pairwise_iff_getElem:=@List.pairwise_iff_getElem
theorem HR:type_of% @List.map_congr_left:=@List.map_congr_left
theorem HS:type_of% @Option.toList_some:=@Option.toList_some
theorem HU:type_of% @List.lookup_cons:=@List.lookup_cons
theorem HV:type_of% @List.filter_cons_of_pos:=@List.filter_cons_of_pos
theorem HW:type_of% @List.getD_eq_getElem?_getD:=@List.getD_eq_getElem?_getD
theorem HX:type_of% @Bool.and_eq_true:=@Bool.and_eq_true
theorem HY:type_of% @Int.natCast_nonneg:=@Int.natCast_nonneg
theorem HZ:type_of% @List.append_nil:=@List.append_nil
theorem Hc:type_of% @List.filter_sublist:=@List.filter_sublist
theorem He:type_of% @List.length_pos_of_mem:=@List.length_pos_of_mem
theorem Hf:type_of% @List.getElem?_append_right:=@List.getElem?_append_right
theorem Hh:type_of% @List.length_replicate:=@List.length_replicate
theorem Hi:type_of% @List.mem_take_iff_getElem:=@List.mem_take_iff_getElem
theorem Hj:type_of% @List.getElem?_take_of_lt:=@List.getElem?_take_of_lt
theorem Hk:type_of% @Array.length_toList:=@Array.length_toList
theorem Hl:type_of% @List.all_eq_true:=@List.all_eq_true
theorem Hn:type_of% @List.nodup_cons:=@List.nodup_cons
theorem Ho:type_of% @List.length_zip:=@List.length_zip
theorem Hr:type_of% @List.filter_map:=@List.filter_map
theorem Hs:type_of% @List.getElem_mem:=@List.getElem_mem
theorem Ht:type_of% @Bool.eq_iff_iff:=@Bool.eq_iff_iff
theorem Hu:type_of% @Nat.min_eq_left:=@Nat.min_eq_left
theorem Hv:type_of% @List.map_nil:=@List.map_nil
theorem IA:type_of% @List.map_map:=@List.map_map
abbrev IB:=@Addr
abbrev IC:=@Keyed
abbrev ID:=@Option
abbrev IE:=@Array
abbrev IF:=@List
abbrev IG:=@mainGlobals
theorem IL:type_of% @decide_eq_true:=@decide_eq_true
theorem IM:type_of% @PyProof.Rows.boot_isinstance:=@PyProof.Rows.boot_isinstance
theorem IN:type_of% @if_neg:=@if_neg
theorem IP:type_of% @if_pos:=@if_pos
theorem IQ:type_of% @decide_eq_false:=@decide_eq_false
theorem IR:type_of% @PySem.boot_len:=@PySem.boot_len
theorem IS:type_of% @or_false:=@or_false
theorem IT:type_of% @PySem.wpAny_loadPart':=@PySem.wpAny_loadPart'
theorem IU:type_of% @PySem.F.slot_list_append:=@PySem.F.slot_list_append
theorem IV:type_of% @PySem.F.type_list_append:=@PySem.F.type_list_append
theorem IW:type_of% @PyProof.Rows.boot_tuple:=@PyProof.Rows.boot_tuple
theorem IX:type_of% @PySem.wpAny_holding:=@PySem.wpAny_holding
theorem IY:type_of% @Classical.byContradiction:=@Classical.byContradiction
theorem IZ:type_of% @PyProof.Rows.boot_int:=@PyProof.Rows.boot_int
theorem Ia:type_of% @PyProof.Rows.boot_max:=@PyProof.Rows.boot_max
theorem Ib:type_of% @PyProof.Rows.KeyOrd.kle_refl:=@PyProof.Rows.KeyOrd.kle_refl
theorem Ic:type_of% @PyProof.Rows.callWith_type1:=@PyProof.Rows.callWith_type1
theorem Ie:type_of% @PyProof.Rows.boot_sorted:=@PyProof.Rows.boot_sorted
theorem Ig:type_of% @PyProof.Rows.boot_bool:=@PyProof.Rows.boot_bool
theorem Ih:type_of% @PyProof.Rows.boot_list:=@PyProof.Rows.boot_list
theorem Ii:type_of% @congrArg:=@congrArg
theorem Ij:type_of% @PySem.wpAny_pyIter_enum:=@PySem.wpAny_pyIter_enum
theorem Ik:type_of% @PySem.mem_of_lookup:=@PySem.mem_of_lookup
theorem Il:type_of% @PySem.wpAny_field:=@PySem.wpAny_field
theorem Im:type_of% @PySem.call_meets:=@PySem.call_meets
theorem Io:type_of% @if_false:=@if_false
theorem Ip:type_of% @of_decide_eq_true:=@of_decide_eq_true
end
theorem zS2:2<=PySem.sizeLine:=∅
theorem zS4:4<=PySem.sizeLine:=∅
theorem zS3:3<=PySem.sizeLine:=∅
theorem zS5:5<=PySem.sizeLine:=∅
theorem zS1:1<=PySem.sizeLine:=∅
theorem zS0:0<=PySem.sizeLine:=∅
theorem Z{α:Sort _}{a:α}:a=a:=rfl
set_option Elab.async false
set_option linter.all false
namespace L2
open PySem PySem.Spec PyProof.Rows
abbrev Key:=Sum Int Str
def sX:Key->F8->Bool
 | .inl k,v=>Value.isInt k v
 | .inr x,v=>Value.isStrOf x v
def DX(w:F7):Key->Int
 | .inl k=>hashInt k
 | .inr x=>hashStr w x
theorem bg:∀{k:Key}{v:F8},sX k v=true->(∃i t,k=Sum.inl i/\v=Value.int i t)\/(∃x t,k=Sum.inr x/\v=Value.str x t)
 | .inl i,v,h=>by obtain⟨t,e⟩:=Value.isInt_shape (k:=i) (v:=v) h;exact .inl %[i,t,Z|e]
 | .inr x,v,h=>by obtain⟨t,e⟩:=Value.isStrOf_shape (x:=x) (v:=v) h;exact .inr %[x,t,Z|e]
theorem tQ(a b:Int):decide ((Sum.inl a:Key)=Sum.inl b)=(a == b):=by
 by_cases e:a=b
 ·subst e;simp
 ·have h:¬ (Sum.inl a:Key)=Sum.inl b:=λ q=>e (Sum.inl.inj q);rw[IQ h];exact(beq_eq_false_iff_ne.mpr e).symm
theorem tR(a b:Str):decide ((Sum.inr a:Key)=Sum.inr b)=decide (a=b):=by
 by_cases e:a=b
 ·subst e;simp
 ·have h:¬ (Sum.inr a:Key)=Sum.inr b:=λ q=>e (Sum.inr.inj q);rw[IQ h,IQ e]
theorem tS(a:Int)(b:Str):decide ((Sum.inl a:Key)=Sum.inr b)=false:=B0 (λ q=>nomatch q)
theorem tT(a:Str)(b:Int):decide ((Sum.inr a:Key)=Sum.inl b)=false:=B0 (λ q=>nomatch q)
def ie(prog:F5)(w:F7):PySem.KeyKind prog w Key where
 is:=sX
 hash:=DX w
 inj:=λ v a b ha hb=>by
  rcases bg ha with⟨i,t,rfl,rfl⟩ | ⟨x,t,rfl,rfl⟩
  ·rcases bg hb with⟨j,u,rfl,e⟩ | ⟨y,u,rfl,e⟩
   ·injection e with e1 _;rw[e1]
   ·exact nomatch e
  ·rcases bg hb with⟨j,u,rfl,e⟩ | ⟨y,u,rfl,e⟩
   ·exact nomatch e
   ·injection e with e1 _;rw[e1]
 byValue:=λ k v h=>by rcases bg h with⟨i,t,rfl,rfl⟩ | ⟨x,t,rfl,rfl⟩ <;> rfl
 pyHash:=λ hv h=>by
  rcases bg hv with⟨i,t,rfl,rfl⟩ | ⟨x,t,rfl,rfl⟩
  ·exact wpAny_pyHash_int h
  ·exact wpAny_pyHash_str h
 eqBool:=λ hu hv h=>by
  rcases bg hu with⟨i,t,rfl,rfl⟩ | ⟨x,t,rfl,rfl⟩
  ·rcases bg hv with⟨j,u,rfl,rfl⟩ | ⟨y,u,rfl,rfl⟩
   ·rw[tQ]at h;exact wpAny_eqBool_int h
   ·rw[tS]at h;exact SeqAt.EqAt.int_str i t y u _ _ _ _ h
  ·rcases bg hv with⟨j,u,rfl,rfl⟩ | ⟨y,u,rfl,rfl⟩
   ·rw[tT]at h;exact SeqAt.EqAt.str_int x t j u _ _ _ _ h
   ·rw[tR]at h;exact wpAny_eqBool_str h
 «strs» := λ k x t v h=>by
  rcases bg h with⟨i,u,rfl,e⟩ | ⟨y,u,rfl,e⟩
  ·exact nomatch e
  ·injection e with e1 _
   subst e1;cases v <;> rfl
inductive V where
 | non | bl (b:Bool) | int (i:Int) | str (x:Str) | byt (b:IE UInt8) | flt (b:UInt64) | ref (a:IB) | ty (n:String)
 deriving DecidableEq
def RelV:V->F8->Prop
 | .non,u=>u=Value.none
 | .bl b,u=>u=Value.bool b
 | .int i,u=>∃t,u=Value.int i t
 | .str x,u=>∃t,u=Value.str x t
 | .byt b,u=>∃t,u=Value.bytes b t
 | .flt b,u=>∃t,u=Value.float b t
 | .ref a,u=>u=Value.ref a
 | .ty n,u=>u=Value.type n
abbrev Vals:IF V->IF F8->Prop:=Paired RelV
theorem Vals.length{xs:IF V}{us:IF F8}(r:Vals xs us):xs.length=us.length:=E1 r
theorem Vals.get:∀{xs:IF V}{us:IF F8}{i:Nat}{x:V},Vals xs us->xs[i]?=some x->∃u,us[i]?=some u/\RelV x u
 | _,_,_,_,.nil,e=>by simp at e
 | _,_,0,_,.cons r _,e=>by simp at e;subst e;exact%[_,Z|r]
 | _,_,i+1,x,.cons _ t,e=>by obtain⟨u,h1,h2⟩:=Vals.get (i:=i) (x:=x) t (by simpa using e);exact%[u,by simpa using h1|h2]
theorem Vals.set{x:V}{u:F8}(r:RelV x u):∀{xs:IF V}{us:IF F8}(i:Nat),Vals xs us->Vals (xs.set i x) (us.set i u)
 | _,_,_,.nil=>.nil
 | _,_,0,.cons _ t=>.cons r t
 | _,_,i+1,.cons q t=>.cons q (Vals.set r i t)
theorem Vals.append:∀{xs ys:IF V}{us ws:IF F8},Vals xs us->Vals ys ws->Vals (xs ++ ys) (us ++ ws)
 | _,_,_,_,.nil,s=>s
 | _,_,_,_,.cons r t,s=>.cons r (Vals.append t s)
theorem Vals.take:∀{xs:IF V}{us:IF F8}(n:Nat),Vals xs us->Vals (xs.take n) (us.take n)
 | _,_,0,_=>.nil
 | _,_,_+1,.nil=>.nil
 | _,_,n+1,.cons r t=>.cons r (Vals.take n t)
theorem Vals.drop:∀{xs:IF V}{us:IF F8}(n:Nat),Vals xs us->Vals (xs.drop n) (us.drop n)
 | _,_,0,r=>r
 | _,_,_+1,.nil=>.nil
 | _,_,n+1,.cons _ t=>Vals.drop n t
def RelO:ID V->ID F8->Prop
 | some v,some u=>RelV v u
 | none,none=>True
 | _,_=>False
def KV{κ:Type}:IF (κ×V)->IF (κ×F8)->Prop:=Paired λ (p:κ×V)(q:κ×F8)=>p.1=q.1/\RelV p.2 q.2
def kV:Key->V
 | .inl i=>.int i
 | .inr x=>.str x
inductive HO where
 | lst (xs:IF V)
 | tup (xs:IF V)
 | dK (kvs:IF (Key×V)) | dT (kvs:IF (IF Key×V))
 | set (S:Int->Bool) (n:Nat)
 | ins (C dx:IB) (fs:IF (Str×V))
 | own (x:IB)
 | xd (fs:IF (Str×V))
 | met (f x:IB)
 | rng (lo hi:Int)
 | frz (o:Obj) (u:HO)
 | tbl (ps:IE F8)
 | ext (φ:Heap->Prop)
abbrev Hp:=IB->ID HO
def upd(H:Hp)(a:IB)(o:HO):Hp:=λ b=>if b=a then some o else H b
theorem upd_same{H:Hp}{a:IB}{o:HO}:upd H a o a=some o:=by unfold upd;rw[IP rfl]
theorem aG{H:Hp}{a b:IB}{o:HO}(h:b≠a):upd H a o b=H b:=by unfold upd;rw[IN h]
theorem aw{H:Hp}{a b:IB}{o:HO}(h:H a=some o)(h':H b=none):a≠b:=by intro e;subst e;rw[h]at h';cases h'
section
variable(P:F5)(w:F7)
def ObjOk(H:Hp)(h:Heap)(a:IB):HO->Prop
 | .lst xs=>xs.length<=sizeLine/\∃(its:IF F8)(n:Nat),Vals xs its/\h.get? a=some { cls:=.type "list",data:=.seq its.toArray n }
 | .tup xs=>xs.length<=sizeLine/\∃its:IF F8,Vals xs its/\IsTup h a its.toArray
 | .dK kvs=>kvs.length<=sizeLine/\(a == sysModules)=false/\∃vs,KV kvs vs/\h.DictOf (ie P w) a vs
 | .dT kvs=>kvs.length<=sizeLine/\(a == sysModules)=false/\∃xs:IF (IF Key×IB×F8),
   Paired (λ (p:IF Key×V)(q:IF Key×IB×F8)=>p.1=q.1/\H q.2.1= ~~~(p.1.map kV)/\RelV p.2 q.2.2) kvs xs /\
   ∃o es ep,h.get? a=some o/\o.ExactDict/\o.data=.dict es ep/\es.toList=xs.map (entryOfKey (tupleKind (ie P w)))/\(xs.map (·.1)).Nodup
 | .set S n=>h.SetOf (intKind P w) a S n
 | .ins C dx fs=>H dx=some (.own a)/\fs.length<=1000/\dx≠a/\h.get? a=some (PySem.W.instObj C dx) /\
   ∃mA,h.Ns1 dx mA/\(∀f,RelO (fs.lookup f) (mA f))/\PySem.Within mA (fs.map (·.1))
 | .own _=>∃o,h.get? a=some o
 | .xd fs=>∃mA,h.Ns1 a mA/\∀f,RelO (fs.lookup f) (mA f)
 | .rng lo hi=>∃t u v,h.get? a=some { cls:=.type "range",data:=.fields #[.int lo t,.int hi u,.int 1 v] }
 | .frz o u=>h.get? a=some o/\ObjOk H h a u
 | .tbl ps=>h.get? a=some { cls:=.none,data:=.fields ps }
 | .met f x=>h.get? a=some (PySem.W.methodObj (.ref f) (.ref x))
 | .ext φ=>φ h/\(∃o,h.get? a=some o)/\∀h1 h2:Heap,φ h1->(∀o,h1.get? a=some o->h2.get? a=some o)->φ h2
def HOk(H:Hp)(h:Heap):Prop:=∀a o,H a=some o->ObjOk P w H h a o
end
section
variable{P:F5}{w:F7}{H H':Hp}{h h':Heap}{a:IB}{o:HO}
theorem ObjOk.lt(x:ObjOk P w H h a o):a < h.objs.size:=by
 cases o with
 | lst xs=>obtain⟨_,_,_,_,e⟩:=x;exact A8 e
 | tup xs=>obtain⟨_,_,_,p⟩:=x;exact p.lt
 | dK kvs=>obtain⟨_,_,_,_,o,_,_,e,_⟩:=x;exact A8 e
 | dT kvs=>obtain⟨_,_,_,_,o,_,_,e,_⟩:=x;exact A8 e
 | set S n=>obtain⟨o,_,_,_,e,_⟩:=x;exact A8 e
 | ins C dx fs=>obtain⟨_,_,_,e,_⟩:=x;exact A8 e
 | own y=>obtain⟨_,e⟩:=x;exact A8 e
 | xd fs=>obtain⟨_,⟨_,_,_,e,_⟩,_⟩:=x;exact A8 e
 | rng lo hi=>obtain⟨_,_,_,e⟩:=x;exact A8 e
 | frz ob u=>obtain⟨e,_⟩:=x;exact A8 e
 | tbl ps=>exact A8 (show h.get? a=some _ from x)
 | met f y=>exact A8 (show h.get? a=some _ from x)
 | ext φ=>obtain⟨_,⟨_,e⟩,_⟩:=x;exact A8 e
theorem Paired.mapP{α β:Type}{F G:α->β->Prop}:∀{l₁:IF α}{l₂:IF β},Paired F l₁ l₂->(∀a b,F a b->G a b)->Paired G l₁ l₂
 | _,_,.nil,_=>.nil
 | _,_,.cons r t,f=>.cons (f _ _ r) (Paired.mapP t f)
abbrev GX:=@Paired.mapP
theorem ObjOk.stay(x:ObjOk P w H h a o)(k:∀b u,(b=a\/H b=some (.own a))->h.get? b=some u->h'.get? b=some u)
  (ho:∀b,H b=some (.own a)->H' b=some (.own a)) (ht:∀b xs,H b= ~~~xs->H' b= ~~~xs):ObjOk P w H' h' a o:=by
 induction o with
 | lst xs=>obtain⟨z,its,n,r,e⟩:=x;exact%[z,its,n,r|k _ _ (.inl rfl) e]
 | tup xs=>obtain⟨z,its,r,ob,e,c⟩:=x;exact%[z,its,r,ob,k _ _ (.inl rfl) e|c]
 | dK kvs=>obtain⟨z,y,vs,r,ob,es,ep,e,c⟩:=x;exact%[z,y,vs,r,ob,es,ep,k _ _ (.inl rfl) e|c]
 | dT kvs=>
  obtain⟨z,y,xs,r,ob,es,ep,e,c⟩:=x;exact%[z,y,xs,GX r λ p q z=>%[z.1,ht _ _ z.2.1|z.2.2],ob,es,ep,k _ _ (.inl rfl) e|c]
 | set S n=>obtain⟨ob,es,ep,t,e,c⟩:=x;exact%[ob,es,ep,t,k _ _ (.inl rfl) e|c]
 | ins C dx fs=>
  obtain⟨d,z,ne,e,mA,⟨od,es,ep,e2,c⟩,r⟩:=x;exact%[ho _ d,z,ne,k _ _ (.inl rfl) e,mA,%[od,es,ep,k _ _ (.inr d) e2|c]|r]
 | own y=>obtain⟨ob,e⟩:=x;exact%[ob|k _ _ (.inl rfl) e]
 | xd fs=>obtain⟨mA,⟨od,es,ep,e,c⟩,r⟩:=x;exact%[mA,%[od,es,ep,k _ _ (.inl rfl) e|c]|r]
 | rng lo hi=>obtain⟨t,u,v,e⟩:=x;exact%[t,u,v|k _ _ (.inl rfl) e]
 | frz ob u ih=>obtain⟨e,q⟩:=x;exact%[k _ _ (.inl rfl) e|ih q]
 | tbl ps=>
  have e:h.get? a=some { cls:=.none,data:=.fields ps }:=x;show h'.get? a=some { cls:=.none,data:=.fields ps };exact k a _ (.inl rfl) e
 | met f y=>
  have e:h.get? a=some (PySem.W.methodObj (.ref f) (.ref y)):=x;show h'.get? a=some (PySem.W.methodObj (.ref f) (.ref y));exact k a _ (.inl rfl) e
 | ext φ=>obtain⟨p,⟨o,e⟩,st⟩:=x;exact%[st _ _ p λ o q=>k _ _ (.inl rfl) q,%[o|k _ _ (.inl rfl) e]|st]
theorem HOk.lt(x:HOk P w H h)(e:H a=some o):a < h.objs.size:=(x a o e).lt
theorem HOk.fresh(x:HOk P w H h)(e:h.objs.size<=a):H a=none:=by
 cases q:H a with
 | none=>rfl
 | some u=>exact absurd (C0 (x.lt q) e) (C8 _)
theorem HOk.kept(x:HOk P w H h)(k:∀b u,h.get? b=some u->h'.get? b=some u):HOk P w H h':=λ a o e=>
 (x a o e).stay (λ b u _ q=>k b u q) (λ _ q=>q) λ _ _ q=>q
theorem HOk.laid(x:HOk P w H h)(k:∀b u,h.get? b=some u->h'.get? b=some u)(hp:h.objs.size<=a)(new:ObjOk P w (upd H a o) h' a o):HOk P w (upd H a o) h':=λ b u e=>by
 have hn:=x.fresh hp
 by_cases hb:b=a
 ·subst hb;rw[upd_same]at e;cases e;exact new
 ·rw[aG hb]at e;exact(x b u e).stay (λ c v _ q=>k c v q) (λ c q=>by rw[aG (aw q hn)];exact q) λ c xs q=>by rw[aG (aw q hn)];exact q
end
def Rd(H:Hp)(a:IB)(u:HO):Prop:=H a=some u\/∃o,H a=some (.frz o u)
theorem Rd.ok{P:F5}{w:F7}{H:Hp}{h:Heap}{a:IB}{u:HO}(r:Rd H a u)(x:HOk P w H h):ObjOk P w H h a u:=by
 rcases r with r | ⟨o,r⟩
 ·exact x a u r
 ·obtain⟨_,q⟩:=x a _ r;exact q
def Mut:ID HO->Prop
 | ↥_=>True
 | some (.dK _)=>True
 | some (.dT _)=>True
 | some (.set _ _)=>True
 | some (.ins _ _ _)=>True
 | some (.ext _)=>True
 | _=>False
section
variable{P:F5}{w:F7}{H:Hp}{h h':Heap}{x e:IB}{o':HO}
theorem HOk.write(ok:HOk P w H h)(mu:Mut (H x))(he:e=x\/H e=some (.own x))(k:∀b u,b≠e->h.get? b=some u->h'.get? b=some u)(heo:∃u,h'.get? e=some u)
  (new:ObjOk P w (upd H x o') h' x o'):HOk P w (upd H x o') h':=λ b u q=>by
 have nown:∀c y,H c=some (.own y)->c≠x:=λ c y r z=>by subst z;rw[r]at mu;exact mu
 have ntup:∀c xs,H c= ~~~xs->c≠x:=λ c xs r z=>by subst z;rw[r]at mu;exact mu
 by_cases hb:b=x
 ·subst hb;rw[upd_same]at q;cases q;exact new
 ·rw[aG hb]at q
  by_cases hbe:b=e
  ·have q':H b=some (.own x):=by
    rcases he with z | z
    ·exact absurd (hbe.trans z) hb
    ·rw[hbe];exact z
   rw[q]at q';cases q';obtain⟨v,hv⟩:=heo;exact%[v|by rw[hbe];exact hv]
  ·apply(ok b u q).stay (λ c v hc r=>k c v ?_ r) (λ c r=>by rw[aG (nown c b r)];exact r) λ c xs r=>by rw[aG (ntup c xs r)];exact r
   rcases hc with rfl | hc
   ·exact hbe
   ·rintro rfl;rcases he with z | z
    ·exact nown c b hc z
    ·rw[hc]at z;cases z;exact hb rfl
end
structure Un(fs ex:IF IB)(H H':Hp)(h h':Heap):Prop where
 keep:∀b o,h.get? b=some o->H b=none->b∉fs->b∉ex->h'.get? b=some o
 slot:∀b o,h.get? b=some o->H b=none->b∈fs->b∉ex->∃sl,h'.get? b=some { o with slots:=sl }
 free:∀b o,h.get? b=some o->H b=none->b∉ex->H' b=none
 there:∀b o,h.get? b=some o->b∉ex->∃o',h'.get? b=some o'
 tups:∀b xs,H b= ~~~xs->H' b= ~~~xs
 frzs:∀b o u,H b=some (.frz o u)->H' b=some (.frz o u)
 tbls:∀b ps,H b=some (.tbl ps)->∃more,H' b=some (.tbl (ps ++ more))
section
variable{fs fs' ex ex':IF IB}{H H1 H2:Hp}{h h1 h2 h':Heap}{a x e:IB}{o:HO}
theorem Un.any(u:Un fs ex H H1 h h1){b:IB}{ob:Obj}(q:h.get? b=some ob)(n:H b=none)(hx:b∉ex):∃sl,h1.get? b=some { ob with slots:=sl }:=by
 by_cases hb:b∈fs
 ·exact u.slot b ob q n hb hx
 ·exact%[ob.slots|u.keep b ob q n hb hx]
theorem Un.kept(k:∀b u,h.get? b=some u->h'.get? b=some u):Un fs ex H H h h' :=
 %[λ b ob q _ _ _=>k b ob q,λ b ob q _ _ _=>%[ob.slots|k b ob q],λ _ _ _ n _=>n,λ b ob q _=>%[ob|k b ob q],λ _ _ q=>q,λ _ _ _ q=>q|λ _ ps q=>%[#[]|by rw[q];simp]]
theorem Un.refl:Un fs ex H H h h:=Un.kept λ _ _ q=>q
theorem Un.laid(k:∀b u,h.get? b=some u->h'.get? b=some u)(hp:h.objs.size<=a)(hn:H a=none):Un fs ex H (upd H a o) h h' where
 keep:=λ b u q _ _ _=>k b u q
 slot:=λ b u q _ _ _=>%[u.slots|k b u q]
 free:=λ b u q n _=>by rw[aG (B8 (C0 (Heap.lt_size q) hp))];exact n
 there:=λ b u q _=>%[u|k b u q]
 tups:=λ b xs q=>by rw[aG (aw q hn)];exact q
 frzs:=λ b u xs q=>by rw[aG (aw q hn)];exact q
 tbls:=λ b ps q=>%[#[]|by rw[aG (aw q hn),q];simp]
theorem Un.write(mu:Mut (H x))(he:e=x\/H e=some (.own x))(k:∀b u,b≠e->h.get? b=some u->h'.get? b=some u)(heo:∃u,h'.get? e=some u):Un fs ex H (upd H x o) h h':=by
 have hx:∀b,H b=none->b≠x:=λ b n z=>by subst z;rw[n]at mu;exact mu
 have hb:∀b,H b=none->b≠e:=λ b n z=>by
  subst z;rcases he with r | r
  ·exact hx b n r
  ·rw[n]at r;cases r
 have hm:∀b u,H b=some u->¬ Mut (some u)->b≠x:=λ b u q nm z=>by subst z;rw[q]at mu;exact nm mu
 apply⟨λ b u q n _ _=>k b u (hb b n) q,λ b u q n _ _=>%[u.slots|k b u (hb b n) q],λ b u q n _=>by rw[aG (hx b n)];exact n,λ b u q _=>?_,
  λ b xs q=>by rw[aG (hm b _ q λ z=>z)];exact q,λ b u xs q=>by rw[aG (hm b _ q λ z=>z)];exact q,λ b ps q=>%[#[]|by rw[aG (hm b _ q λ z=>z),q];simp]⟩
 by_cases hbe:b=e
 ·subst hbe;exact heo
 ·exact%[u|k b u hbe q]
end
def trk(h:Heap)(H:Hp):IF IB:=(List.range h.objs.size).filter λ a=>(H a).isSome
def ig(h:Heap)(H:Hp):Heap:=PySem.W.hideAll h (trk h H)
theorem mf(h:Heap)(H:Hp):(ig h H).objs.size=h.objs.size:=PySem.W.hideAll_size _ _
theorem oF{h:Heap}{H:Hp}{b:IB}{o:Obj}(e:h.get? b=some o)(n:H b=none):(ig h H).get? b=some o :=
 PySem.W.hideAll_get _ e λ hm=>by have q:(H b).isSome=true:=(G8.mp hm).2;rw[n]at q;simp at q
theorem qR{h:Heap}{H:Hp}{b:IB}{o:Obj}(e:(ig h H).get? b=some o):h.get? b=some o/\H b=none:=by
 have e':h.get? b=some o:=PySem.W.of_hideAll (trk h H) e;apply%[e'|?_];cases q:H b with
 | none=>rfl
 | some x=>
  have hm:b∈trk h H:=G8.mpr %[List.mem_range.mpr (A8 e')|by simp[q]];have z:(ig h H).get? b=none:=PySem.W.hideAll_none (trk h H) hm;rw[z]at e;cases e
def qS(g h:Heap)(L:IB):IF (IB×Obj):=(List.range h.objs.size).filterMap λ a=>if a=L\/(g.get? a).isSome=true then none else(h.get? a).map λ o=>(a,o)
def rest(g h:Heap)(L d:IB):IF (IB×Obj):=(qS g h L).filter λ p=>decide (p.1≠d)
structure Mod(K:C3)(mg:Str->ID Value)(base:Heap):Prop where
 kin:K.In base
 glob:base.Ns IG mg
 blt:∃mb,base.Ns builtinsNs mb/\∀x:Str,x ≠ "__name__" -> mb x=bootBuiltins x
 nolimit:base.NoLimit
/-- the context: a def's body (or a comprehension's block) running. base: fixed through the aX law;s₀,H₀: the entry;outer: the frames whose slots others may change (a def's callers);stack: all frames that run;
   ex: iterators that were made ahead of the entry and are walked here (a comprehension's);fn: the names whose cells were made at the entry (a def: all;a comprehension's block: its own);calm: not within an except suite;pn: IH that every state bears;xe: what is wanted of an exception that leaves the code -/
structure Cx where
 prog:Program
 w:World
 K:C3
 mg:Str->ID Value
 base:Heap
 A:Around
 N:IF Str
 s₀:Shared
 H₀:Hp
 env:Env
 outer:IF Env
 stack:IF Env
 ex:IF IB
 fn:Str->Bool
 calm:Bool
 pn:IF (IB×Obj)
 xe:F8->F4->Prop
def frs(l:IF Env):IF IB:=l.filterMap (·.frame)
abbrev Cx.fs(X:Cx):IF IB:=frs X.outer
def Vis(sc:Scope)(x:Str):Prop:=sc.names.lookup x=some .local\/sc.names.lookup x=some .cell\/sc.names.lookup x=some .free
def Loc(sc:Scope)(x:Str):Prop:=sc.names.lookup x=some .local\/sc.names.lookup x=some .cell
def DY(env:Env)(h:Heap)(m:Str->ID F8)(x:Str)(u:F8):Prop :=
 (env.kindOf x=some .local/\m x=some u)\/((env.kindOf x=some .cell\/env.kindOf x=some .free)/\∃c,env.cells.lookup x=some c/\h.IsCell c (some u))
structure Cx.Ok(X:Cx):Prop where
 mod:Mod X.K X.mg X.base
 kind:X.env.scope.kind=.function
 glob:X.env.globals=IG
 blt:X.env.builtins=builtinsNs
 above:X.s₀.heap.objs.size<=X.env.locals
 inj:∀x y c,X.env.cells.lookup x=some c->X.env.cells.lookup y=some c->x=y
 has:∀x,(X.env.kindOf x=some .cell\/X.env.kindOf x=some .free)->∃c,X.env.cells.lookup x=some c
 cab:∀x c,X.fn x=true->X.env.cells.lookup x=some c->X.s₀.heap.objs.size<=c
 hd:X.calm=true->X.A.handled=none
 frames:X.A.frames=some X.stack
 stk:X.stack=X.outer\/(X.stack=X.env :: X.outer/\X.env.frame=some X.env.locals)
 exf:∀b∈X.ex,b≠X.env.locals/\∀x c,X.env.cells.lookup x=some c->c≠b
 bs:∀b o,X.base.get? b=some o->X.s₀.heap.get? b=some o/\X.H₀ b=none
 bsz:X.base.objs.size<=X.s₀.heap.objs.size
 noex:∀b o,X.base.get? b=some o->b∉X.ex
 exfs:∀b∈X.ex,b∉X.fs
 funs:X.s₀.heap.FunFrames X.base X.outer
 frf:∀b∈X.fs,X.H₀ b=none
structure Inv(X:Cx)(IH:IF (IB×Obj))(σ:IF (ID V))(H:Hp)(s:Shared):Prop where
 ok:X.Ok
 os:s.os=X.s₀.os
 bare:AllBare s.gens
 base:Un X.fs X.ex X.H₀ H X.s₀.heap s.heap
 loc:∃m,s.heap.Ns X.env.locals m/\∀(i:Nat)(x:Str)(v:V),X.N[i]?=some x->σ[i]?=some (some v)->Vis X.env.scope x->∃u,RelV v u/\DY X.env s.heap m x u
 cell:∀x c,X.env.cells.lookup x=some c->∃v,s.heap.IsCell c v
 free:H X.env.locals=none
 freeC:∀x c,X.env.cells.lookup x=some c->H c=none
 pin:∀p∈X.pn ++ IH,s.heap.get? p.1=some p.2/\H p.1=none/\p.1≠X.env.locals/\p.1∉X.fs/\∀v,p.2.data≠.cell v
 hok:HOk X.prog X.w H s.heap
 len:σ.length=X.N.length
section
variable{X:Cx}{IH:IF (IB×Obj)}{σ:IF (ID V)}{H H':Hp}{s:F4}{h':Heap}
theorem Cx.Ok.nofr(ok:X.Ok){b:IB}{o:Obj}(e:X.base.get? b=some o):b∉X.fs:=λ hb=>by have:=(ok.funs.mem hb).1;rw[e]at this;cases this
theorem Inv.bs(I:Inv X IH σ H s):∀b o,X.base.get? b=some o->s.heap.get? b=some o/\H b=none:=λ b o e=>
 %[I.base.keep b o (I.ok.bs b o e).1 (I.ok.bs b o e).2 (I.ok.nofr e) (I.ok.noex b o e)|I.base.free b o (I.ok.bs b o e).1 (I.ok.bs b o e).2 (I.ok.noex b o e)]
theorem Inv.bk(I:Inv X IH σ H s):∀b o,X.base.get? b=some o->s.heap.get? b=some o:=λ b o e=>(I.bs b o e).1
theorem Inv.mod(I:Inv X IH σ H s):Mod X.K X.mg X.base:=I.ok.mod
theorem Inv.kIn(I:Inv X IH σ H s):X.K.In s.heap:=I.ok.mod.kin.keeps I.bk
theorem Inv.fr(I:Inv X IH σ H s):∃m,Fr X.base X.env.locals s.heap m :=
 let ⟨m,hn,_⟩:=I.loc
 %[m,hn,I.bk|C4 I.ok.bsz I.ok.above]
theorem Inv.lt(I:Inv X IH σ H s):X.env.locals < s.heap.objs.size:=let ⟨_,hn,_⟩:=I.loc;hn.lt
theorem Inv.sz(I:Inv X IH σ H s):X.s₀.heap.objs.size<=s.heap.objs.size:=C4 I.ok.above (C6 I.lt)
theorem Inv.nofs(I:Inv X IH σ H s){a:IB}(h:s.heap.objs.size<=a):a∉X.fs:=λ hb=>by obtain⟨_,o,ho,_⟩:=I.ok.funs.mem hb;exact absurd (C0 (A8 ho) (C4 I.sz h)) (C8 _)
theorem Inv.cne(I:Inv X IH σ H s):∀x c,X.env.cells.lookup x=some c->c≠X.env.locals:=λ x c e z=>by obtain⟨v,o,ho,hd⟩:=I.cell x c e;obtain⟨m,⟨o',es,ep,ho',hd',_⟩,_⟩:=I.loc;rw[z,ho']at ho;cases ho;rw[hd']at hd;cases hd
theorem Inv.funs(I:Inv X IH σ H s):s.heap.FunFrames X.base X.outer:=by
 have all:∀(l:IF Env),(∀b∈frs l,b∈X.fs)->X.s₀.heap.FunFrames X.base l->s.heap.FunFrames X.base l:=by
  intro l
  induction l with
  | nil=>intro _ _;trivial
  | cons env r ih=>
   intro hs hl;obtain⟨hk,⟨L,o,hf,hn,ho,hd⟩,hr⟩:=hl;have hL:L∈X.fs:=hs L (by unfold frs;rw[List.filterMap_cons,hf];exact B6);obtain⟨sl,e⟩:=I.base.slot L o ho (I.ok.frf L hL) hL λ z=>I.ok.exfs L z hL;exact%[hk,%[L,_,hf,hn,e|hd]|ih (λ b hb=>hs b (by unfold frs;rw[List.filterMap_cons,hf];exact B3 _ hb)) hr]
 exact all X.outer (λ _ hb=>hb) I.ok.funs
theorem Inv.stack(I:Inv X IH σ H s):s.heap.FunFrames X.base X.stack:=by
 rcases I.ok.stk with e | ⟨e,hf⟩
 ·rw[e];exact I.funs
 ·rw[e];obtain⟨m,hn,_⟩:=I.loc;apply .cons (by rw[I.ok.kind];decide) hf hn ?_ I.funs;exact Heap.get?_none_of_le (C4 I.ok.bsz I.ok.above)
theorem Inv.stkSub(I:Inv X IH σ H s):∀b∈frs X.stack,b∈X.env.locals :: X.fs:=λ b hb=>by
 rcases I.ok.stk with e | ⟨e,hf⟩
 ·rw[e]at hb;exact B3 _ hb
 ·rw[e]at hb;unfold frs at hb;rw[List.filterMap_cons,hf]at hb;exact hb
theorem Inv.stkFree(I:Inv X IH σ H s):∀b∈frs X.stack,H b=none:=λ b hb=>by
 rcases G0.mp (I.stkSub b hb)with e | hb
 ·rw[e];exact I.free
 ·obtain⟨_,o,ho,_⟩:=I.ok.funs.mem hb;exact I.base.free b o ho (I.ok.frf b hb) λ z=>I.ok.exfs b z hb
theorem Inv.step{g':IE GenState}{t':Nat}{d':Drawn}{ch:IF IB}(I:Inv X IH σ H s)
  (hch:∀b∈ch,(b∈X.ex\/X.s₀.heap.objs.size<=b)/\b≠X.env.locals/\(∀x c,X.env.cells.lookup x=some c->c≠b)/\∀p∈X.pn ++ IH,p.1≠b)
  (keep:∀b o,b≠X.env.locals->b∉X.fs->b∉ch->s.heap.get? b=some o->H b=none->h'.get? b=some o)
  (slot:∀b o,b≠X.env.locals->b∈X.fs->b∉ch->s.heap.get? b=some o->H b=none->∃sl,h'.get? b=some { o with slots:=sl }) (free:∀b o,b∉ch->s.heap.get? b=some o->H b=none->H' b=none)
  (there:∀b o,b∉ch->s.heap.get? b=some o->∃o',h'.get? b=some o')
  (tups:∀b xs,H b= ~~~xs->H' b= ~~~xs) (frzs:∀b o u,H b=some (.frz o u)->H' b=some (.frz o u)) (tbls:∀b ps,H b=some (.tbl ps)->∃more,H' b=some (.tbl (ps ++ more)))
  (ns:∀m,s.heap.Ns X.env.locals m->h'.Ns X.env.locals m) (hok:HOk X.prog X.w H' h') (hg:AllBare g') :
  Inv X IH σ H' { s with heap:=h',gens:=g',drawn:=d',toks:=t' }:=by
 have neL:∀b o,X.s₀.heap.get? b=some o->b≠X.env.locals:=λ b o e=>B8 (C0 (A8 e) I.ok.above);have neC:∀b o,X.s₀.heap.get? b=some o->b∉X.ex->b∉ch:=λ b o e hx hb=>by
  rcases(hch b hb).1 with z | z
  ·exact hx z
  ·exact absurd (C0 (A8 e) z) (C8 _)
 have cellK:∀x c,X.env.cells.lookup x=some c->∀v,s.heap.IsCell c v->h'.IsCell c v:=λ x c e v ⟨o,ho,hd⟩=>by
  have nch:c∉ch:=λ z=>(hch c z).2.2.1 x c e rfl
  by_cases hc:c∈X.fs
  ·obtain⟨sl,q⟩:=slot c o (I.cne x c e) hc nch ho (I.freeC x c e);exact%[_,q|hd]
  ·exact%[o,keep c o (I.cne x c e) hc nch ho (I.freeC x c e)|hd]
 apply%[I.ok,I.os,hg,%[λ b o e n hb hx=>?_,λ b o e n hb hx=>?_,λ b o e n hx=>?_,λ b o e hx=>?_,λ b xs e=>tups b xs (I.base.tups b xs e),λ b o xs e=>frzs b o xs (I.base.frzs b o xs e)|λ b ps e=>?_],?_,λ x c e=>?_,?_,λ x c e=>?_,λ p hp=>?_,hok|I.len]
 ·exact keep b o (neL b o e) hb (neC b o e hx) (I.base.keep b o e n hb hx) (I.base.free b o e n hx)
 ·obtain⟨sl,e1⟩:=I.base.slot b o e n hb hx;obtain⟨sl',e2⟩:=slot b _ (neL b o e) hb (neC b o e hx) e1 (I.base.free b o e n hx);exact%[sl'|e2]
 ·obtain⟨o',e1⟩:=I.base.there b o e hx;exact free b o' (neC b o e hx) e1 (I.base.free b o e n hx)
 ·obtain⟨o',e1⟩:=I.base.there b o e hx;exact there b o' (neC b o e hx) e1
 ·obtain⟨m1,e1⟩:=I.base.tbls b ps e;obtain⟨m2,e2⟩:=tbls b _ e1;exact%[m1 ++ m2|by rw[e2,Array.append_assoc]]
 ·obtain⟨m,hn,hl⟩:=I.loc;apply%[m,ns m hn|λ i x v e1 e2 e3=>?_];obtain⟨u,r,l⟩:=hl i x v e1 e2 e3;apply%[u,r|?_];rcases l with l | ⟨k,c,e,z⟩
  ·exact .inl l
  ·exact .inr %[k,c,e|cellK x c e _ z]
 ·obtain⟨v,z⟩:=I.cell x c e;exact%[v|cellK x c e v z]
 ·obtain⟨m,⟨o,_,_,ho,_⟩,_⟩:=I.loc;exact free _ o (λ z=>(hch _ z).2.1 rfl) ho I.free
 ·obtain⟨v,o,ho,hd⟩:=I.cell x c e;exact free c o (λ z=>(hch c z).2.2.1 x c e rfl) ho (I.freeC x c e)
 ·obtain⟨e,n,ne,nf,d⟩:=I.pin p hp;have nch:p.1∉ch:=λ z=>(hch p.1 z).2.2.2 p hp rfl;exact%[keep p.1 p.2 ne nf nch e n,free p.1 p.2 nch e n,ne,nf|d]
theorem Inv.un{t':Nat}(I:Inv X IH σ H s)(u:Un X.fs [] H H' s.heap h')(hok:HOk X.prog X.w H' h'):Inv X IH σ H' { s with heap:=h',toks:=t' }:=by
 obtain⟨m,⟨o,es,ep,ho,r⟩,_⟩:=id I.loc;obtain⟨sl,hL⟩:=u.any ho I.free (by simp);exact I.step (g':=s.gens) (d':=s.drawn) (ch:=[]) (λ _ z=>nomatch z) (λ b o _ hb _ e n=>u.keep b o e n hb (by simp)) (λ b o _ hb _ e n=>u.slot b o e n hb (by simp)) (λ b o _ e n=>u.free b o e n (by simp)) (λ b o _ e=>u.there b o e (by simp)) u.tups u.frzs u.tbls (λ m' hm=>by
  obtain⟨o',es',ep',ho',r'⟩:=hm;rw[ho]at ho';cases ho';exact%[_,es',ep',hL|r']) hok I.bare
theorem Inv.call{g':IE GenState}{t':Nat}{d':Drawn}{ch:IF IB}(I:Inv X IH σ H s)(u:Un (frs X.stack) ch H H' s.heap h')(hok:HOk X.prog X.w H' h')(hg:AllBare g')
  (hch:∀b∈ch,(b∈X.ex\/X.s₀.heap.objs.size<=b)/\b≠X.env.locals/\(∀x c,X.env.cells.lookup x=some c->c≠b)/\∀p∈X.pn ++ IH,p.1≠b) :
  Inv X IH σ H' { s with heap:=h',gens:=g',drawn:=d',toks:=t' }:=by
 obtain⟨m,⟨o,es,ep,ho,r⟩,_⟩:=id I.loc;obtain⟨sl,hL⟩:=u.any ho I.free λ z=>(hch _ z).2.1 rfl;exact I.step (ch:=ch) hch (λ b o hL hb hc e n=>u.keep b o e n (λ z=>(G0.mp (I.stkSub b z)).elim hL hb) hc) (λ b o _ _ hc e n=>u.any e n hc) (λ b o hc e n=>u.free b o e n hc) (λ b o hc e=>u.there b o e hc) u.tups u.frzs u.tbls (λ m' hm=>by
  obtain⟨o',es',ep',ho',r'⟩:=hm;rw[ho]at ho';cases ho';exact%[_,es',ep',hL|r']) hok hg
theorem Inv.turned{t':Nat}{it:IB}(I:Inv X IH σ H s)(k:∀b o,b≠it->s.heap.get? b=some o->h'.get? b=some o)(hn:H it=none)(hL:it≠X.env.locals)
  (h1:it∈X.ex\/X.s₀.heap.objs.size<=it) (h2:∀x c,X.env.cells.lookup x=some c->c≠it) (h3:∀p∈X.pn ++ IH,p.1≠it):Inv X IH σ H { s with heap:=h',toks:=t' }:=by
 have nit:∀b u,H b=some u->b≠it:=λ b u e z=>by rw[z,hn]at e;cases e
 apply I.step (g':=s.gens) (d':=s.drawn) (ch:=[it]) (λ b hb=>?_) (λ b o _ _ hc e _=>k b o (λ z=>hc (by simp[z])) e) (λ b o _ _ hc e _=>%[o.slots|k b o (λ z=>hc (by simp[z])) e]) (λ _ _ _ _ n=>n)
  (λ b o hc e=>%[o|k b o (λ z=>hc (by simp[z])) e]) (λ _ _ e=>e) (λ _ _ _ e=>e) (λ b ps e=>%[#[]|by rw[e];simp]) (λ m hm=>?_) (λ b u e=>?_) I.bare
 ·have e:b=it:=by simpa using hb
  subst e;exact%[h1,hL,h2|h3]
 ·obtain⟨o,es,ep,ho,r⟩:=hm;exact%[o,es,ep,k _ o (Ne.symm hL) ho|r]
 ·apply(I.hok b u e).stay (λ c v hc q=>k c v ?_ q) (λ _ q=>q) λ _ _ q=>q;rcases hc with z | z
  ·rw[z];exact nit b u e
  ·exact nit c _ z
theorem Inv.tok(I:Inv X IH σ H s)(t:Nat):Inv X IH σ H { s with toks:=t }:=I.un (h':=s.heap) (t':=t) Un.refl I.hok
theorem Inv.kept{t':Nat}(I:Inv X IH σ H s)(k:∀b u,s.heap.get? b=some u->h'.get? b=some u):Inv X IH σ H { s with heap:=h',toks:=t' }:=I.un (Un.kept k) (I.hok.kept k)
theorem Inv.laid{a:IB}{o:HO}{t':Nat}(I:Inv X IH σ H s)(k:∀b u,s.heap.get? b=some u->h'.get? b=some u)(hp:s.heap.objs.size<=a)(new:ObjOk X.prog X.w (upd H a o) h' a o) :
  Inv X IH σ (upd H a o) { s with heap:=h',toks:=t' }:=I.un (Un.laid k hp (I.hok.fresh hp)) (I.hok.laid k hp new)
theorem Inv.write{x e:IB}{o:HO}{t':Nat}(I:Inv X IH σ H s)(mu:Mut (H x))(he:e=x\/H e=some (.own x))(k:∀b u,b≠e->s.heap.get? b=some u->h'.get? b=some u)(heo:∃u,h'.get? e=some u)
  (new:ObjOk X.prog X.w (upd H x o) h' x o):Inv X IH σ (upd H x o) { s with heap:=h',toks:=t' }:=I.un (Un.write mu he k heo) (I.hok.write mu he k heo new)
theorem Inv.weak{σ':IF (ID V)}(I:Inv X IH σ H s)(hl:σ'.length=σ.length)(w:∀ (i:Nat) v,σ'[i]?=some (some v)->σ[i]?=some (some v)):Inv X IH σ' H s :=
 %[I.ok,I.os,I.bare,I.base,let ⟨m,hn,hl'⟩:=I.loc;%[m,hn|λ i x v e1 e2 e3=>hl' i x v e1 (w i v e2) e3],I.cell,I.free,I.freeC,I.pin,I.hok|hl.trans I.len]
theorem Inv.pins_of{pins':IF (IB×Obj)}(I:Inv X IH σ H s)(h:∀p∈pins',s.heap.get? p.1=some p.2/\H p.1=none/\p.1≠X.env.locals/\p.1∉X.fs/\∀v,p.2.data≠.cell v):Inv X pins' σ H s :=
 %[I.ok,I.os,I.bare,I.base,I.loc,I.cell,I.free,I.freeC,λ p hp=>(C1.mp hp).elim (λ z=>I.pin p (B5 _ z)) (h p),I.hok|I.len]
theorem iX{N:IF Str}(hN:N.Nodup){i j:Nat}{x:Str}(a:N[i]?=some x)(b:N[j]?=some x):i=j:=by obtain⟨h1,e1⟩:=A5.mp a;obtain⟨h2,e2⟩:=A5.mp b;exact(List.getElem_inj hN).mp (e1.trans e2.symm)
theorem gP{M:Model}{A:Around}{E:F8->F4->Prop}{i:Nat}{x:Str}{v:V}{u:F8}{Q:Unit->F4->Prop}(I:Inv X IH σ H s)(hN:X.N.Nodup)(hi:X.N[i]?=some x)(hx:Loc X.env.scope x)(r:RelV v u)
  (h:∀s',Inv X IH (σ.set i (some v)) H s'->(∃a,Heap.SameBut a s.heap s'.heap/\(a=X.env.locals\/X.env.cells.lookup x=some a))->Q () s') (hf:X.fn x=true\/X.env.scope.names.lookup x=some .local:=by first | exact .inl rfl | exact .inr rfl | assumption):wpAny M A (storeName X.env x u) Q E s:=by
 obtain⟨m,hn,hl⟩:=id I.loc;have hcls:(X.env.scope.kind == .class || (X.env.scope.kind == .module && X.env.locals != X.env.globals))=false:=by rw[I.ok.kind];rfl
 have hiσ:i < σ.length:=by rw[I.len];exact(A5.mp hi).1
 have cne:=I.cne;have tracked:∀{a:IB}{h':Heap},(∃o,s.heap.get? a=some o/\H a=none)->Heap.SameBut a s.heap h'->HOk X.prog X.w H h':=λ {a h'} ha hs b ob e=>by
  obtain⟨_,_,hfree⟩:=ha;apply(I.hok b ob e).stay (λ c w' hc q=>(hs.2 c ?_).trans q) (λ _ q=>q) λ _ _ q=>q;rintro rfl;rcases hc with rfl | hc
  ·rw[hfree]at e;cases e
  ·rw[hfree]at hc;cases hc
 rcases hx with hk | hk
 ·apply wpAny_storeName_local hk hn (λ h' hn' hs=>?_) hcls;obtain⟨oL,_,_,hoL,_⟩:=id hn;apply h _ %[I.ok,I.os,I.bare,%[λ b o e n hb hx=>?_,λ b o e n hb hx=>?_,I.base.free,λ b o e hx=>?_,I.base.tups,I.base.frzs|I.base.tbls],%[_,hn'|λ j y v' e1 e2 e3=>?_],λ y c e=>?_,I.free,I.freeC,λ p hp=>?_,tracked %[oL,hoL|I.free] hs|by simpa using I.len] %[_,hs|.inl rfl]
  ·exact(hs.2 b (B8 (C0 (A8 e) I.ok.above))).trans (I.base.keep b o e n hb hx)
  ·obtain⟨sl,e1⟩:=I.base.slot b o e n hb hx;exact%[sl|(hs.2 b (B8 (C0 (A8 e) I.ok.above))).trans e1]
  ·obtain⟨o',e1⟩:=I.base.there b o e hx;exact%[o'|(hs.2 b (B8 (C0 (A8 e) I.ok.above))).trans e1]
  ·by_cases hj:j=i
   ·subst hj;rw[hi]at e1;cases e1;rw[List.getElem?_set_self hiσ]at e2;cases e2;exact%[u,r|.inl %[hk|by simp]]
   ·rw[List.getElem?_set_ne (Ne.symm hj)]at e2;obtain⟨u',r',q⟩:=hl j y v' e1 e2 e3;apply%[u',r'|?_];rcases q with⟨k,e⟩ | ⟨k,c,e,z⟩
    ·apply .inl %[k|?_];have:y≠x:=λ e=>hj (iX hN e1 (e ▸ hi));simp[this,e]
    ·exact .inr %[k,c,e|z.sameBut hs (cne y c e)]
  ·obtain⟨w',z⟩:=I.cell y c e;exact%[w'|z.sameBut hs (cne y c e)]
  ·obtain⟨e,n,ne,nf,d⟩:=I.pin p hp;exact%[(hs.2 p.1 ne).trans e,n,ne,nf|d]
 ·have hfn:X.fn x=true:=by
   rcases hf with z | z
   ·exact z
   ·rw[z]at hk;cases hk
  obtain⟨c,hc⟩:=I.ok.has x (.inl hk);obtain⟨w',z⟩:=I.cell x c hc;apply wpAny_storeName_cell I.ok.kind hk hc z (λ h' hc' hs=>?_);obtain⟨oc,hoc,hocd⟩:=id z;apply h { s with heap:=h' } %[I.ok,I.os,I.bare,%[λ b o e n hb hx=>?_,λ b o e n hb hx=>?_,I.base.free,λ b o e hx=>?_,I.base.tups,I.base.frzs|I.base.tbls],%[m,hn.sameBut hs (Ne.symm (cne x c hc))|λ j y v' e1 e2 e3=>?_],λ y c' e=>?_,I.free,I.freeC,λ p hp=>?_,tracked %[oc,hoc|I.freeC x c hc] hs|by simpa using I.len] %[c,hs|.inr hc]
  ·exact(hs.2 b (B8 (C0 (A8 e) (I.ok.cab x c hfn hc)))).trans (I.base.keep b o e n hb hx)
  ·obtain⟨sl,e1⟩:=I.base.slot b o e n hb hx;exact%[sl|(hs.2 b (B8 (C0 (A8 e) (I.ok.cab x c hfn hc)))).trans e1]
  ·obtain⟨o',e1⟩:=I.base.there b o e hx;exact%[o'|(hs.2 b (B8 (C0 (A8 e) (I.ok.cab x c hfn hc)))).trans e1]
  ·by_cases hj:j=i
   ·subst hj;rw[hi]at e1;cases e1;rw[List.getElem?_set_self hiσ]at e2;cases e2;exact%[u,r|.inr %[.inl hk,c,hc|hc']]
   ·rw[List.getElem?_set_ne (Ne.symm hj)]at e2;obtain⟨u',r',q⟩:=hl j y v' e1 e2 e3;apply%[u',r'|?_];rcases q with q | ⟨k,c',e,z'⟩
    ·exact .inl q
    ·apply .inr %[k,c',e|z'.sameBut hs ?_];rintro rfl;exact hj (iX hN e1 (I.ok.inj _ _ _ e hc ▸ hi))
  ·by_cases hcc:c'=c
   ·subst hcc;exact%[_|hc']
   ·obtain⟨w2,z2⟩:=I.cell y c' e;exact%[w2|z2.sameBut hs hcc]
  ·obtain⟨e,n,ne,nf,d⟩:=I.pin p hp;apply%[(hs.2 p.1 ?_).trans e,n,ne,nf|d];intro q;rw[q,hoc]at e;have q':oc=p.2:=B7 e;exact d w' (by rw[<- q'];exact hocd)
theorem ej{M:Model}{A:Around}{E:F8->F4->Prop}{i:Nat}{x:Str}{v:V}{u:F8}{Q:Unit->F4->Prop}(I:Inv X IH σ H s)(hN:X.N.Nodup)(hi:X.N[i]?=some x)(hx:Loc X.env.scope x)(r:RelV v u)
  (h:∀s',Inv X IH (σ.set i (some v)) H s'->Q () s') (hf:X.fn x=true\/X.env.scope.names.lookup x=some .local:=by first | exact .inl rfl | exact .inr rfl | assumption):wpAny M A (storeName X.env x u) Q E s :=
 gP I hN hi hx r (λ s' I' _=>h s' I') hf
theorem Inv.call'{s':F4}{ch:IF IB}(I:Inv X IH σ H s)(ho:s'.os=s.os)(u:Un (frs X.stack) ch H H' s.heap s'.heap)(hok:HOk X.prog X.w H' s'.heap)(hg:AllBare s'.gens)
  (hch:∀b∈ch,(b∈X.ex\/X.s₀.heap.objs.size<=b)/\b≠X.env.locals/\(∀x c,X.env.cells.lookup x=some c->c≠b)/\∀p∈X.pn ++ IH,p.1≠b):Inv X IH σ H' s':=by
 obtain⟨h',g',d',t',o'⟩:=s';have e:o'=s.os:=ho;subst e;exact I.call (g':=g') (t':=t') (d':=d') u hok hg hch
end
abbrev XK:=Value->ID IB->Hp->Prop
abbrev St:=IF (ID V)
abbrev VK:=V->Hp->Prop
abbrev TE:=St->Hp->VK->Prop
abbrev TT:=St->Hp->(Bool->Hp->Prop)->Prop
abbrev TA:=St->Hp->(IF V->Hp->Prop)->Prop
structure Ends where
 nx:St->Hp->Prop
 rt:VK
 bk:St->Hp->Prop:=λ _ _=>False
 ct:St->Hp->Prop:=λ _ _=>False
abbrev TS:=Ends->St->Hp->Prop
def EP(X:Cx)(IH:IF (IB×Obj))(σ:St)(Q:VK)(u:F8)(s':F4):Prop:=∃v H',Inv X IH σ H' s'/\RelV v u/\Q v H'
def TP(X:Cx)(IH:IF (IB×Obj))(σ:St)(Q:Bool->Hp->Prop)(b:Bool)(s':F4):Prop:=∃H',Inv X IH σ H' s'/\Q b H'
def AP(X:Cx)(IH:IF (IB×Obj))(σ:St)(Q:IF V->Hp->Prop)(us:IF F8)(s':F4):Prop:=∃vs H',Inv X IH σ H' s'/\Vals vs us/\Q vs H'
def SP(X:Cx)(IH:IF (IB×Obj))(D:Ends)(f:Flow)(s':F4):Prop :=
 match f with
 | .next=>∃σ' H',Inv X IH σ' H' s'/\D.nx σ' H'
 | .brk=>∃σ' H',Inv X IH σ' H' s'/\D.bk σ' H'
 | .cont=>∃σ' H',Inv X IH σ' H' s'/\D.ct σ' H'
 | .ret u=>∃v σ' H',Inv X IH σ' H' s'/\RelV v u/\D.rt v H'
def PE(X:Cx)(e:Expr)(t:TE):Prop :=
 ∀(IH:IF (IB×Obj))(s:F4)(σ:St)(H:Hp)(Q:VK),Inv X IH σ H s->t σ H Q->wpAny (model X.prog X.w) X.A (eval e X.env) (EP X IH σ Q) X.xe s
def PT(X:Cx)(e:Expr)(t:TT):Prop :=
 ∀(IH:IF (IB×Obj))(s:F4)(σ:St)(H:Hp)(Q:Bool->Hp->Prop),Inv X IH σ H s->t σ H Q->wpAny (model X.prog X.w) X.A (isTrue e X.env (eval e X.env)) (TP X IH σ Q) X.xe s
def PW(X:Cx)(e:Expr)(t:TT):Prop :=
 ∀(aX:Sem F8)(IH:IF (IB×Obj))(s:F4)(σ:St)(H:Hp)(Q:Bool->Hp->Prop),Inv X IH σ H s->t σ H Q->wpAny (model X.prog X.w) X.A (isTrue e X.env aX) (TP X IH σ Q) X.xe s
theorem PW.pt{X:Cx}{e:Expr}{t:TT}(h:PW X e t):PT X e t:=h _
def PA(X:Cx)(es:IF Expr)(t:TA):Prop :=
 ∀(pos:Pos)(IH:IF (IB×Obj))(s:F4)(σ:St)(H:Hp)(Q:IF V->Hp->Prop),Inv X IH σ H s->t σ H Q->wpAny (model X.prog X.w) X.A (spliced (backTo pos (starEach es X.env))) (AP X IH σ Q) X.xe s
def PS(X:Cx)(st:Stmt)(t:TS):Prop :=
 ∀(IH:IF (IB×Obj))(s:F4)(σ:St)(H:Hp)(D:Ends),Inv X IH σ H s->t D σ H->wpAny (model X.prog X.w) X.A (exec st X.env) (SP X IH D) X.xe s
def PSs(X:Cx)(st:IF Stmt)(t:TS):Prop :=
 ∀(IH:IF (IB×Obj))(s:F4)(σ:St)(H:Hp)(D:Ends),Inv X IH σ H s->t D σ H->wpAny (model X.prog X.w) X.A (execs st X.env) (SP X IH D) X.xe s
theorem thn{α:Type}{t:Sem α}{Q Q':α->F4->Prop}{M:Model}{A:Around}{E:F8->F4->Prop}{s:F4}(h:wpAny M A t Q E s)(hQ:∀a s,Q a s->Q' a s):wpAny M A t Q' E s:=wpAny_mono h hQ λ _ _ x=>x
section
variable{X:Cx}
theorem bin{a b:Expr}{ta tb:TE}(ha:PE X a ta)(hb:PE X b tb){IH:IF (IB×Obj)}{s:F4}{σ:St}{H:Hp}{R:V->V->Hp->Prop}(I:Inv X IH σ H s)(h:ta σ H λ x H1=>tb σ H1 λ y H2=>R x y H2)
  {α:Type} {Q:α->F4->Prop} {f:F8->F8->Sem α}
  (hf:∀v u s2 x y H2,Inv X IH σ H2 s2->RelV x v->RelV y u->R x y H2->wpAny (model X.prog X.w) X.A (f v u) Q X.xe s2) :
  wpAny (model X.prog X.w) X.A (eval a X.env) (λ v s₁=>wpAny (model X.prog X.w) X.A (eval b X.env) (λ u s₂=>wpAny (model X.prog X.w) X.A (f v u) Q X.xe s₂) X.xe s₁) X.xe s:=by
 apply thn (ha IH s σ H _ I h) λ v s1 %[x,H1,I1,r1|q1]=>?_;apply thn (hb IH s1 σ H1 _ I1 q1) λ u s2 %[y,H2,I2,r2|q2]=>?_;exact hf v u s2 x y H2 I2 r1 r2 q2
inductive tVar(i:Nat)(σ:St)(H:Hp)(Q:VK):Prop
|mk(v:V)(_:σ[i]?=some (some v))(_:Q v H)
def tC(v:V):TE:=λ _ H Q=>Q v H
theorem tU{i:Nat}{x:Str}{pos:Pos}(hN:X.N[i]?=some x)(hv:Vis X.env.scope x)(hd:(x == ("__debug__" : Str))=false:=by decide)(hcd:(x == ("__classdict__" : Str))=false:=by decide):PE X (.Name x pos) (tVar i):=by
 intro IH s σ H Q I h;obtain⟨v,e,h⟩:=h;obtain⟨m,hn,hl⟩:=I.loc;obtain⟨u,r,l⟩:=hl i x v hN e hv;have fin:EP X IH σ Q u s:=%[v,H,I,r|h]
 rcases l with⟨hk,hm⟩ | ⟨hk,c,hc,hcell⟩
 ·exact wpAny_Name (wpAny_loadName_local I.ok.kind hk hn hm fin) hd
 ·rcases hk with hk | hk
  ·exact wpAny_Name (wpAny_loadName_cell I.ok.kind hk hc hcell fin) hd
  ·exact wpAny_Name (wpAny_loadName_free I.ok.kind hk hc hcell fin hcd) hd
theorem ae{i j pos}:PE X (.Constant (.int i) j pos) (tC (.int i)):=λ _ _ _ H _ I h=>wpAny_Constant_int %[.int i,H,I.tok _,%[_|rfl]|h]
theorem bd{b j pos}:PE X (.Constant (.bool b) j pos) (tC (.bl b)):=λ _ _ _ H _ I h=>Constant_bool %[.bl b,H,I,rfl|h]
theorem bL{j pos}:PE X (.Constant .none j pos) (tC .non):=λ _ _ _ H _ I h=>Constant_none %[.non,H,I,rfl|h]
theorem cD{x j pos}:PE X (.Constant (.str x) j pos) (tC (.str x)):=λ _ _ _ H _ I h=>Calls.Constant_str %[.str x,H,I.tok _,%[_|Z]|h]
def Gl(X:Cx)(x:Str):Prop:=X.env.kindOf x=some .globalImplicit
theorem ii{E:F8->F4->Prop}{IH:IF (IB×Obj)}{s:F4}{σ:St}{H:Hp}{x:Str}{u:F8}{pos:Pos}{Q:F8->F4->Prop}(I:Inv X IH σ H s)(hg:Gl X x)(hm:X.mg x=some u)(h:Q u s)
  (hd:(x == ("__debug__" : Str))=false:=by decide):wpAny (model X.prog X.w) X.A (eval (.Name x pos) X.env) Q E s :=
 Calls.Name_function_global I.ok.kind hg (Calls.loadGlobal_global (by rw[I.ok.glob];exact I.mod.glob.keeps I.bk) hm h) hd
theorem dW{E:F8->F4->Prop}{IH:IF (IB×Obj)}{s:F4}{σ:St}{H:Hp}{x:Str}{u:F8}{pos:Pos}{Q:F8->F4->Prop}(I:Inv X IH σ H s)(hg:Gl X x)(hm:X.mg x=none)(hv:bootBuiltins x=some u)(h:Q u s)
  (hn:x ≠ "__name__" := by decide) (hd:(x == ("__debug__" : Str))=false:=by decide):wpAny (model X.prog X.w) X.A (eval (.Name x pos) X.env) Q E s:=by
 obtain⟨mb,h1,h2⟩:=I.mod.blt;exact Calls.Name_function_global I.ok.kind hg (Calls.loadGlobal_builtin (by rw[I.ok.glob];exact I.mod.glob.keeps I.bk) hm (by rw[I.ok.blt];exact h1.keeps I.bk) ((h2 x hn).trans hv) h) hd
theorem bE{x:Str}{v:V}{u:F8}{pos:Pos}(hg:Gl X x)(hm:X.mg x=some u)(r:RelV v u)(hd:(x == ("__debug__" : Str))=false:=by decide):PE X (.Name x pos) (tC v) :=
 λ _ _ _ H _ I h=>ii I hg hm %[v,H,I,r|h] hd
theorem bB{x:Str}{v:V}{u:F8}{pos:Pos}(hg:Gl X x)(hm:X.mg x=none)(hv:bootBuiltins x=some u)(r:RelV v u)(hn:x ≠ "__name__" := by decide)(hd:(x == ("__debug__" : Str))=false:=by decide):PE X (.Name x pos) (tC v) :=
 λ _ _ _ H _ I h=>dW I hg hm hv %[v,H,I,r|h] hn hd
variable{a b:Expr}{ta tb:TE}{pos:Pos}
def PC(X:Cx)(op:CmpOp)(a b:Expr)(t:TE):Prop :=
 ∀(IH:IF (IB×Obj))(s:F4)(σ:St)(H:Hp)(Q:VK),Inv X IH σ H s->t σ H Q ->
  wpAny (model X.prog X.w) X.A (eval a X.env) (λ v s₁=>wpAny (model X.prog X.w) X.A (eval b X.env) (λ u s₂=>wpAny (model X.prog X.w) X.A (compareOp op v u) (EP X IH σ Q) X.xe s₂) X.xe s₁) X.xe s
inductive IsB(x:V)(Q:Bool->Prop):Prop
|mk(c:Bool)(e:x=.bl c)(q:Q c)
def tB(t:TE):TT:=λ σ H Q=>t σ H λ x H1=>IsB x λ c=>Q c H1
theorem DZ{op:CmpOp}{t:TE}(h:PC X op a b t)(h1:behindInMarks op b=false:=by first | exact nobehind _ ∅ ∅ | rfl):PT X (.Compare a [op] [b] pos) (tB t):=by intro IH s σ H Q I hw;apply wpAny_isTrue_Compare1 (thn (h IH s σ H _ I hw) λ v s1 h1=>thn h1 λ u s2 h2=>thn h2 λ c s3 %[x,H1,I1,r1|q1]=>?_) h1;obtain⟨d,rfl,q⟩:=q1;cases r1;exact F0 %[H1,I1|q]
theorem aN{e:Expr}{t:TE}(h:PE X e t)(he:∀aX,isTrue e X.env aX=(do let v<-aX;standAt e.pos;holding [v] (truthy v)):=by intro _;rfl):PT X e (tB t):=by intro IH s σ H Q I hw;apply isTrue_plain (thn (h IH s σ H _ I hw) λ v s1 %[x,H1,I1,r1|q1]=>?_) (he _);obtain⟨d,rfl,q⟩:=q1;cases r1;exact F0 %[H1,I1|q]
variable{tA tB':TT}{rest:IF Expr}
def Ea(t u:TT):TT:=λ σ H Q=>t σ H λ c H1=>if c=true then u σ H1 Q else Q false H1
def tOr(t u:TT):TT:=λ σ H Q=>t σ H λ c H1=>if c=true then Q true H1 else u σ H1 Q
def wK(t:TT):TT:=λ σ H Q=>t σ H λ c H1=>Q (!c) H1
theorem cW(ha:PT X a tA):PW X (.BoolOp .And [a] pos) tA:=by
 intro wh IH s σ H Q I h;apply isTrue_and (thn (ha IH s σ H Q I h) λ c s1 e=>?_);cases c with
 | true=>exact isTrue_and_nil e
 | false=>exact e
theorem bG(ha:PT X a tA):PW X (.BoolOp .Or [a] pos) tA:=by
 intro wh IH s σ H Q I h;apply isTrue_or (thn (ha IH s σ H Q I h) λ c s1 e=>?_);cases c with
 | false=>exact isTrue_or_nil e
 | true=>exact e
theorem dX(ha:PT X a tA)(hb:PW X (.BoolOp .And (b :: rest) pos) tB'):PW X (.BoolOp .And (a :: b :: rest) pos) (Ea tA tB'):=by
 intro wh IH s σ H Q I h;apply isTrue_and (thn (ha IH s σ H _ I h) λ c s1 %[H1,I1|q1]=>?_);cases c with
 | true=>exact hb wh IH s1 σ H1 Q I1 q1
 | false=>exact%[H1,I1|q1]
theorem bC(ha:PT X a tA)(hb:PW X (.BoolOp .Or (b :: rest) pos) tB'):PW X (.BoolOp .Or (a :: b :: rest) pos) (tOr tA tB'):=by
 intro wh IH s σ H Q I h;apply isTrue_or (thn (ha IH s σ H _ I h) λ c s1 %[H1,I1|q1]=>?_);cases c with
 | true=>exact%[H1,I1|q1]
 | false=>exact hb wh IH s1 σ H1 Q I1 q1
theorem aO(ha:PT X a tA):PT X (.UnaryOp .Not a pos) (wK tA):=by intro IH s σ H Q I h;exact isTrue_not (ha IH s σ H (λ c H1=>Q (!c) H1) I h)
def wL(ta tb:TE):TE:=λ σ H Q=>ta σ H λ x H1=>IsB x λ c=>if c=true then tb σ H1 Q else Q (.bl false) H1
def Eb(ta tb:TE):TE:=λ σ H Q=>ta σ H λ x H1=>IsB x λ c=>if c=true then Q (.bl true) H1 else tb σ H1 Q
def wM(ta:TE):TE:=λ σ H Q=>ta σ H λ x H1=>IsB x λ c=>Q (.bl (!c)) H1
theorem bX{op}{t:TE}(h:PE X a t):PE X (.BoolOp op [a] pos) t:=λ IH s σ H Q I hw=>BoolOp_one (h IH s σ H Q I hw)
theorem bH(ha:PE X a ta)(hb:PE X (.BoolOp .And (b :: rest) pos) tb):PE X (.BoolOp .And (a :: b :: rest) pos) (wL ta tb):=by
 intro IH s σ H Q I h;apply BoolOp_and (thn (ha IH s σ H _ I h) λ v s1 %[x,H1,I1,r1|q1]=>?_);obtain⟨c,rfl,q1⟩:=q1;cases r1;apply F0 ?_;cases c with
 | true=>exact hb IH s1 σ H1 Q I1 q1
 | false=>exact%[.bl false,H1,I1,Z|q1]
theorem li(ha:PE X a ta)(hb:PE X (.BoolOp .Or (b :: rest) pos) tb):PE X (.BoolOp .Or (a :: b :: rest) pos) (Eb ta tb):=by
 intro IH s σ H Q I h;apply BoolOp_or (thn (ha IH s σ H _ I h) λ v s1 %[x,H1,I1,r1|q1]=>?_);obtain⟨c,rfl,q1⟩:=q1;cases r1;apply F0 ?_;cases c with
 | false=>exact hb IH s1 σ H1 Q I1 q1
 | true=>exact%[.bl true,H1,I1,Z|q1]
theorem jI(ha:PE X a ta):PE X (.UnaryOp .Not a pos) (wM ta):=by intro IH s σ H Q I h;apply UnaryOp_ (thn (ha IH s σ H _ I h) λ v s1 %[x,H1,I1,r1|q1]=>?_);obtain⟨c,rfl,q1⟩:=q1;cases r1;exact not_of (F0 %[.bl (!c),H1,I1,rfl|q1])
def tIf(t:TT)(ta tb:TE):TE:=λ σ H Q=>t σ H λ c H1=>if c=true then ta σ H1 Q else tb σ H1 Q
theorem iY{c:Expr}(hc:PT X c tA)(ha:PE X a ta)(hb:PE X b tb):PE X (.IfExp c a b pos) (tIf tA ta tb):=by
 intro IH s σ H Q I h;apply wpAny_IfExp (thn (hc IH s σ H _ I h) λ d s1 %[H1,I1|q1]=>?_);cases d with
 | true=>exact ha IH s1 σ H1 Q I1 q1
 | false=>exact hb IH s1 σ H1 Q I1 q1
end
def SqL(K:C3)(H:Hp)(a:IB)(xs:IF V):Prop :=
 Rd H a (.lst xs) \/
  ∃(o:Obj)(its:IE F8)(n:Nat),K.lookup a=some o/\o.cls=.type "list" /\ o.dict=none/\o.data=.seq its n/\its.size<=sizeLine/\Vals xs its.toList
def SqT(K:C3)(H:Hp)(a:IB)(xs:IF V):Prop :=
 Rd H a (.tup xs) \/
  ∃(o:Obj)(its:IE F8)(n:Nat),K.lookup a=some o/\o.cls=.type "tuple" /\ o.data=.seq its n/\its.size<=sizeLine/\Vals xs its.toList
def Ec:F8->ID V
 | .none=>some .non
 | .bool b=>some (.bl b)
 | .int i _=>⇑i
 | .str x _=>some (.str x)
 | .bytes b _=>some (.byt b)
 | .float b _=>some (.flt b)
 | .ref a=>↑a
 | .type n=>some (.ty n)
 | _=>none
theorem RelV.abs{x:V}{u:F8}(r:RelV x u):Ec u=some x:=by
 cases x with
 | non=>cases r;rfl
 | bl _=>cases r;rfl
 | int _=>obtain⟨t,rfl⟩:=r;rfl
 | str _=>obtain⟨t,rfl⟩:=r;rfl
 | byt _=>obtain⟨t,rfl⟩:=r;rfl
 | flt _=>obtain⟨t,rfl⟩:=r;rfl
 | ref _=>cases r;rfl
 | ty _=>cases r;rfl
theorem RelV.inj{x y:V}{u:F8}(r:RelV x u)(q:RelV y u):x=y:=B7 (r.abs.symm.trans q.abs)
theorem Vals.inj:∀{xs ys:IF V}{us:IF F8},Vals xs us->Vals ys us->xs=ys
 | _,_,_,.nil,.nil=>rfl
 | _,_,_,.cons r t,.cons r' t'=>by rw[r.inj r',Vals.inj t t']
section
variable{X:Cx}{IH:IF (IB×Obj)}{σ:St}{H:Hp}{s:F4}{a:IB}{xs ys:IF V}
theorem SqL.of{K:C3}(h:H a=↥xs):SqL K H a xs:=.inl (.inl h)
abbrev GW:=@SqL.of
theorem SqT.of{K:C3}(h:H a= ~~~xs):SqT K H a xs:=.inl (.inl h)
abbrev GV:=@SqT.of
theorem Inv.list(I:Inv X IH σ H s)(h:SqL X.K H a xs):∃its:IF F8,Vals xs its/\PlainL s.heap a its.toArray/\xs.length<=sizeLine:=by
 rcases h with h | ⟨o,its,n,hk,hc,hd,hs,hz,r⟩
 ·obtain⟨z,its,n,r,e⟩:=h.ok I.hok;exact%[its,r,%[_,n,e,Z,Z|Z]|z]
 ·apply%[its.toList,r,%[o,n,I.kIn a o hk,hc,hd|by simpa using hs]|?_];have e:=r.length;simp only[Hk]at e;omega
theorem Inv.tuple(I:Inv X IH σ H s)(h:SqT X.K H a xs):∃its:IF F8,Vals xs its/\IsTup s.heap a its.toArray/\xs.length<=sizeLine:=by
 rcases h with h | ⟨o,its,n,hk,hc,hs,hz,r⟩
 ·obtain⟨z,its,r,p⟩:=h.ok I.hok;exact%[its,r,p|z]
 ·apply%[its.toList,r,%[o,I.kIn a o hk,hc,n|by simpa using hs]|?_];have e:=r.length;simp only[Hk]at e;omega
theorem Inv.list_inj(I:Inv X IH σ H s)(h:SqL X.K H a xs)(h':SqL X.K H a ys):xs=ys:=by
 obtain⟨its,r,⟨o,n,e,_,_,d⟩,_⟩:=I.list h;obtain⟨its',r',⟨o',n',e',_,_,d'⟩,_⟩:=I.list h';rw[e]at e';cases e';rw[d]at d';injection d' with d1 _
 have:its=its':=by simpa using Ii Array.toList d1
 subst this;exact r.inj r'
theorem Inv.tuple_inj(I:Inv X IH σ H s)(h:SqT X.K H a xs)(h':SqT X.K H a ys):xs=ys:=by
 obtain⟨its,r,⟨o,e,_,n,d⟩,_⟩:=I.tuple h;obtain⟨its',r',⟨o',e',_,n',d'⟩,_⟩:=I.tuple h';rw[e]at e';cases e';rw[d]at d';injection d' with d1 _
 have:its=its':=by simpa using Ii Array.toList d1
 subst this;exact r.inj r'
end
abbrev Cx.wish(X:Cx)(E:F8->F4->Prop):Cx:={ X with xe:=E }
abbrev Cx.nox(X:Cx):Cx:=X.wish λ _ _=>False
theorem Cx.Ok.wish{X:Cx}(ok:X.Ok)(E:F8->F4->Prop):(X.wish E).Ok :=
 %[ok.mod,ok.kind,ok.glob,ok.blt,ok.above,ok.inj,ok.has,ok.cab,ok.hd,ok.frames,ok.stk,ok.exf,ok.bs,ok.bsz,ok.noex,ok.exfs,ok.funs|ok.frf]
theorem Cx.Ok.unwish{X:Cx}{E:F8->F4->Prop}(ok:(X.wish E).Ok):X.Ok :=
 %[ok.mod,ok.kind,ok.glob,ok.blt,ok.above,ok.inj,ok.has,ok.cab,ok.hd,ok.frames,ok.stk,ok.exf,ok.bs,ok.bsz,ok.noex,ok.exfs,ok.funs|ok.frf]
section
variable{X:Cx}{IH:IF (IB×Obj)}{σ:St}{H:Hp}{s:F4}{E:F8->F4->Prop}
theorem Inv.wish(I:Inv X IH σ H s)(E:F8->F4->Prop):Inv (X.wish E) IH σ H s:=%[I.ok.wish E,I.os,I.bare,I.base,I.loc,I.cell,I.free,I.freeC,I.pin,I.hok|I.len]
theorem Inv.unwish(I:Inv (X.wish E) IH σ H s):Inv X IH σ H s:=%[I.ok.unwish,I.os,I.bare,I.base,I.loc,I.cell,I.free,I.freeC,I.pin,I.hok|I.len]
theorem SP.unwish{D:Ends}{f:Flow}{s':F4}(h:SP (X.wish E) IH D f s'):SP X IH D f s':=by
 cases f with
 | next=>obtain⟨σ',H',I,q⟩:=h;exact%[σ',H',I.unwish|q]
 | brk=>obtain⟨σ',H',I,q⟩:=h;exact%[σ',H',I.unwish|q]
 | cont=>obtain⟨σ',H',I,q⟩:=h;exact%[σ',H',I.unwish|q]
 | ret u=>obtain⟨v,σ',H',I,r,q⟩:=h;exact%[v,σ',H',I.unwish,r|q]
theorem PSs.nox{st:IF Stmt}{t:TS}(h:PSs X.nox st t):PSs X st t:=λ IH s σ H D I hw=>
 wpAny_mono (h IH s σ H D (I.wish _) hw) (λ _ _ q=>q.unwish) λ _ _ z=>E5 z
end
section
variable{X:Cx}{st:Stmt}{rest:IF Stmt}{t u:TS}{e:Expr}{te:TE}{pos:Pos}
def wN:TS:=λ D σ H=>D.nx σ H
def wO(t u:TS):TS:=λ D σ H=>t { D with nx:=u D } σ H
theorem aE:PSs X [] wN:=λ _ _ σ H _ I h=>wpAny_execs_nil %[σ,H,I|h]
theorem af(h1:PS X st t)(h2:PSs X rest u):PSs X (st :: rest) (wO t u):=by
 intro IH s σ H D I h;apply wpAny_execs_cons (thn (h1 IH s σ H { D with nx:=u D } I h) λ f s1 q=>?_);cases f with
 | next=>
  obtain⟨σ',H',I',q⟩:=q;exact h2 IH s1 σ' H' D I' q
 | ret v=>exact q
 | brk=>exact q
 | cont=>exact q
theorem ah(h1:PS X st t):PSs X [st] t:=by
 intro IH s σ H D I h;apply wpAny_execs_cons (thn (h1 IH s σ H D I h) λ f s1 q=>?_);cases f with
 | next=>exact wpAny_execs_nil q
 | ret v=>exact q
 | brk=>exact q
 | cont=>exact q
theorem Inv.quiet{IH:IF (IB×Obj)}{σ:St}{H:Hp}{s:F4}(I:Inv X IH σ H s):interactive X.env=false:=by simp[interactive,I.ok.kind]
def wP(te:TE):TS:=λ D σ H=>te σ H λ _ H1=>D.nx σ H1
theorem bK(he:PE X e te)(hs:swapsWith e none pos.line X.env=pure false:=by rfl):PS X (.Expr e pos) (wP te):=by intro IH s σ H D I h;exact wpAny_Expr_any (thn (he IH s σ H _ I h) λ v s1 %[x,H1,I1,r1|q1]=>%[σ,H1,I1|q1]) I.quiet hs
def Ed(te:TE):TS:=λ D σ H=>te σ H D.rt
theorem az(he:PE X e te):PS X (.Return (some e) pos) (Ed te):=by intro IH s σ H D I h;exact wpAny_Return_some (thn (he IH s σ H _ I h) λ v s1 %[x,H1,I1,r1|q1]=>%[x,σ,H1,I1,r1|q1])
def Ee(c:TT)(t u:TS):TS:=λ D σ H=>c σ H λ b H1=>if b=true then t D σ H1 else u D σ H1
theorem aM{c:Expr}{a b:IF Stmt}{tc:TT}(hc:PT X c tc)(ha:PSs X a t)(hb:PSs X b u):PS X (.If c a b pos) (Ee tc t u):=by
 intro IH s σ H D I h;apply wpAny_If (thn (hc IH s σ H _ I h) λ d s1 %[H1,I1|q1]=>?_);cases d with
 | true=>exact ha IH s1 σ H1 D I1 q1
 | false=>exact hb IH s1 σ H1 D I1 q1
def oG:TS:=λ _ _ _=>False
theorem fP:PS X st oG:=λ _ _ _ _ _ _ h=>h.elim
theorem eR{sts:IF Stmt}:PSs X sts oG:=λ _ _ _ _ _ _ h=>h.elim
end
abbrev TG:=V->St->Hp->(St->Hp->Prop)->Prop
abbrev TGs:=IF V->St->Hp->(St->Hp->Prop)->Prop
def PG(X:Cx)(target:Expr)(t:TG):Prop :=
 ∀(IH:IF (IB×Obj))(s:F4)(σ:St)(H:Hp)(v:V)(u:F8)(Q:St->Hp->Prop),Inv X IH σ H s->RelV v u->t v σ H Q ->
  wpAny (model X.prog X.w) X.A (assign target X.env u) (λ _ s'=>∃σ' H',Inv X IH σ' H' s'/\Q σ' H') X.xe s
def PGs(X:Cx)(ts:IF Expr)(t:TGs):Prop :=
 ∀(IH:IF (IB×Obj))(s:F4)(σ:St)(H:Hp)(vs:IF V)(us:IF F8)(Q:St->Hp->Prop),Inv X IH σ H s->Vals vs us->t vs σ H Q ->
  wpAny (model X.prog X.w) X.A (assignInOrder ((assignEach ts X.env).map (·.2)) us) (λ _ s'=>∃σ' H',Inv X IH σ' H' s'/\Q σ' H') X.xe s
abbrev tV:=V->V->V->Hp->(Hp->Prop)->Prop
def wQ(X:Cx)(t:tV):Prop :=
 ∀(IH:IF (IB×Obj))(s:F4)(σ:St)(H:Hp)(o i v:V)(ov iv u:F8)(Q:Hp->Prop),Inv X IH σ H s->RelV o ov->RelV i iv->RelV v u->t o i v H Q ->
  wpAny (model X.prog X.w) X.A (setItem ov iv u) (λ _ s'=>∃H',Inv X IH σ H' s'/\Q H') X.xe s
section
variable{X:Cx}{pos:Pos}
def iZ(i:Nat):TG:=λ v σ H Q=>Q (σ.set i (some v)) H
theorem aj{i:Nat}{x:Str}(hN:X.N.Nodup)(hi:X.N[i]?=some x)(hx:Loc X.env.scope x)(hf:X.fn x=true\/X.env.scope.names.lookup x=some .local:=by first | exact .inl rfl | exact .inr rfl | assumption):PG X (.Name x pos) (iZ i):=by intro IH s σ H v u Q I r h;exact wpAny_assign_Name (ej I hN hi hx r (λ s' I'=>%[_,H,I'|h]) hf)
def wR:TGs:=λ vs σ H Q=>vs=[]/\Q σ H
inductive gCons(t:TG)(u:TGs)(vs:IF V)(σ:St)(H:Hp)(Q:St->Hp->Prop):Prop
|mk(v:V)(r:IF V)(_:vs=v :: r)(_:t v σ H λ σ' H'=>u r σ' H' Q)
theorem aQ:PGs X [] wR:=by intro IH s σ H vs us Q I r h;obtain⟨e,h⟩:=h;subst e;cases r;exact assignInOrder_nil %[σ,H,I|h]
theorem au{e:Expr}{es:IF Expr}{t:TG}{u:TGs}(h1:PG X e t)(h2:PGs X es u)
  (hs:(assignEach (e :: es) X.env).map (·.2)=assign e X.env :: (assignEach es X.env).map (·.2):=by rfl):PGs X (e :: es) (gCons t u):=by
 intro IH s σ H vs us Q I r h;obtain⟨v,vr,e1,h⟩:=h;subst e1;cases r with
 | cons r rr=>
  rw[hs];apply assignInOrder_cons (thn (h1 IH s σ H _ _ _ I r h) λ _ s1 %[σ1,H1,I1|q1]=>?_);exact h2 IH s1 σ1 H1 _ _ Q I1 rr q1
inductive gTup(K:C3)(n:Nat)(t:TGs)(v:V)(σ:St)(H:Hp)(Q:St->Hp->Prop):Prop
|mk(a:IB)(xs:IF V)(_:v=.ref a)(_:SqT K H a xs)(_:xs.length=n)(_:t xs σ H Q)
theorem bc{es:IF Expr}{k:Nat}{t:TGs}{n:Nat}(hc:X.calm=true)(h:PGs X es t)
  (hn:(assignEach es X.env).length=n:=by rfl) (hst:(assignEach es X.env).findIdx? (·.1)=none:=by rfl):PG X (.Tuple es k pos) (gTup X.K n t):=by
 intro IH s σ H v u Q I r hw;obtain⟨a,xs,e1,hq,hl,hw⟩:=hw;subst e1;cases r;obtain⟨its,rv,ht,hz⟩:=I.tuple hq;apply assign_Tuple_tuple (I.ok.hd hc) ht (by simp[hn,<- hl,rv.length]) hst λ h' hx=>?_;have I1:Inv X IH σ H { s with heap:=h' }:=I.kept (t':=s.toks) λ b o e=>hx b o (B8 (A8 e)) e;exact h IH _ σ H xs _ Q I1 (by simpa using rv) hw
def Ef(to ti:TE)(t:tV):TG:=λ v σ H Q=>to σ H λ o H1=>ti σ H1 λ i H2=>t o i v H2 λ H3=>Q σ H3
theorem oH{o i:Expr}{to ti:TE}{t:tV}(ho:PE X o to)(hi:PE X i ti)(hs:wQ X t)
  (ha:∀v,assign (.Subscript o i pos) X.env v=(do
   let ov<-holding [v] (eval o X.env)
   let iv<-holding [v,ov] (eval i X.env)
   standAt pos
   holding [v,ov,iv] (setItem ov iv v)
   release [v,ov,iv] []):=by intro _;rfl):PG X (.Subscript o i pos) (Ef to ti t):=by
 intro IH s σ H v u Q I r h;rw[ha];apply A0 (IX (thn (ho IH s σ H _ I h) λ ov s1 %[x,H1,I1,r1|q1]=>?_));apply A0 (IX (thn (hi IH s1 σ H1 _ I1 q1) λ iv s2 %[y,H2,I2,r2|q2]=>?_));apply A0 (wpAny_standAt (A0 (IX (thn (hs IH s2 σ H2 x y v ov iv u _ I2 r1 r2 r q2) λ _ s3 %[H3,I3|q3]=>?_))));exact wpAny_release %[σ,H3,I3|q3]
def tW(te:TE)(g:TG):TS:=λ D σ H=>te σ H λ x H1=>g x σ H1 D.nx
theorem bz{tg e:Expr}{te:TE}{g:TG}(he:PE X e te)(hg:PG X tg g)(hs:swapsWithSole [tg] e pos.line X.env=pure false:=by rfl)(hw:swappedStores [tg] e X.env=pure none:=by rfl)
  (h1:(assignEach [tg] X.env).map (·.2)=[assign tg X.env]:=by rfl):PS X (.Assign [tg] e pos) (tW te g):=by
 intro IH s σ H D I h;apply wpAny_Assign_stores (thn (he IH s σ H _ I h) λ v s1 %[x,H1,I1,r1|q1]=>?_) hs hw;rw[h1];exact thn (hg IH s1 σ H1 x v _ I1 r1 q1) λ _ s2 q=>q
theorem aI{i:Nat}{x:Str}{e:Expr}{te:TE}{pos':Pos}(hN:X.N.Nodup)(hi:X.N[i]?=some x)(hx:Loc X.env.scope x)(he:PE X e te)(hs:swapsWith e (some (.Name x pos')) pos.line X.env=pure false:=by rfl)(hf:X.fn x=true\/X.env.scope.names.lookup x=some .local:=by first | exact .inl rfl | exact .inr rfl | assumption) :
  PS X (.Assign [.Name x pos'] e pos) (tW te (iZ i)):=by
 intro IH s σ H D I h;apply wpAny_Assign_Name (thn (he IH s σ H _ I h) λ v s1 %[y,H1,I1,r1|q1]=>?_) hs;exact ej I1 hN hi hx r1 (λ s2 I2=>%[_,H1,I2|q1]) hf
def Eg(i j:Nat)(ta:TA):TS:=λ D σ H=>ta σ H λ vs H1=>∃v w,vs=[v,w]/\D.nx ((σ.set i (some v)).set j (some w)) H1
theorem tX{i j:Nat}{x y:Str}{a b:Expr}{ta:TA}{px py pt:Pos}{kt k2 pt2}(hc:X.calm=true)(hN:X.N.Nodup)(hi:X.N[i]?=some x)(hj:X.N[j]?=some y)(hij:i≠j)
  (hx:X.env.scope.names.lookup x=some .local) (hy:X.env.scope.names.lookup y=some .local) (ha:PA X [a,b] ta)
  (hw:swappedStores [.Tuple [.Name x px,.Name y py] kt pt] (.Tuple [a,b] k2 pt2) X.env=pure (some [x,y]))
  (hs:swapsWithSole [.Tuple [.Name x px,.Name y py] kt pt] (.Tuple [a,b] k2 pt2) pos.line X.env=pure false:=by rfl) :
  PS X (.Assign [.Tuple [.Name x px,.Name y py] kt pt] (.Tuple [a,b] k2 pt2) pos) (Eg i j ta):=by
 intro IH s σ H D I h;rw[exec_Assign_arm];apply A0 (wpAny_standAt ?_);rw[hs];apply A0 (A1 ?_);rw[IN ∅];apply A0 (Tuple_ (thn (ha _ IH s σ H _ I h) λ us s1 %[vs,H1,I1,r1|q1]=>?_));obtain⟨v,w,e1,q1⟩:=q1;subst e1;obtain⟨u1,u2,rfl,rv,rw'⟩:∃u1 u2,us=[u1,u2]/\RelV v u1/\RelV w u2:=by
  cases r1 with
  | cons p q=>
   cases q with
   | cons p' q'=>
    cases q';exact%[_,_,Z,p|p']
 apply F2 ?_ zS2;have I2:Inv X IH σ H1 { s1 with heap:=s1.heap.push { cls:=.type "tuple",data:=.seq [u1,u2].toArray } }:=I1.kept (t':=s1.toks) λ b o e=>A6 _ e;rw[hw];apply A0 (A1 ?_);show wpAny (model X.prog X.w) X.A (do rule "assign.swapped-stores";let items<-unpackItems (.ref s1.heap.objs.size) 2 none;assignInOrder [λ v=>bindName X.env y v,λ v=>bindName X.env x v] items.reverse;pure Flow.next) _ _ _;apply A0 (wpAny_rule (A0 (unpackItems_tuple (items:=#[u1,u2]) (I.ok.hd hc) (IsTup.new s1.heap _) λ h' hx'=>?_)));have I3:=I2.kept (h':=h') (t':=s1.toks) λ b o e=>hx' b o (B8 (A8 e)) e;show wpAny _ _ (assignInOrder [λ v=>bindName X.env y v,λ v=>bindName X.env x v] [u2,u1] >>= λ _=>pure Flow.next) _ _ _;apply A0 (assignInOrder_cons (wpAny_bindName (ej I3 hN hj (.inl hy) rw' (λ s2 I4=>?_) (.inr hy))));apply assignInOrder_cons (wpAny_bindName (ej I4 hN hi (.inl hx) rv (λ s3 I5=>assignInOrder_nil (A1 ?_)) (.inr hx)));rw[List.set_comm _ _ (Ne.symm hij)]at I5;exact%[_,H1,I5|q1]
end
structure It where
 go:Nat->Hp->Prop
 yld:Nat->Hp->V->Hp->Prop
 stop:Nat->Hp->Prop
def ek(X:Cx)(IH:IF (IB×Obj))(H:Hp)(b:IB):Prop :=
 H b=none/\b≠X.env.locals/\b∉X.fs/\(b∈X.ex\/X.s₀.heap.objs.size<=b)/\(∀x c,X.env.cells.lookup x=some c->c≠b)/\∀p∈X.pn ++ IH,p.1≠b
theorem Inv.fpOk{X:Cx}{IH:IF (IB×Obj)}{σ:St}{H H':Hp}{s:F4}{b:IB}(I:Inv X IH σ H s)(hb:s.heap.objs.size<=b)(hn:H' b=none):ek X IH H' b:=by
 apply%[hn,Nat.ne_of_gt (C0 I.lt hb),I.nofs hb,.inr (C4 I.sz hb),λ x c e z=>?_|λ p hp z=>?_]
 ·obtain⟨v,q⟩:=I.cell x c e;exact absurd (C0 q.lt (by rw[z];exact hb)) (C8 _)
 ·exact absurd (C0 (A8 (I.pin p hp).1) (by rw[z];exact hb)) (C8 _)
structure Turn(P:Program)(w:World)(K:C3)(tg:Expr)(J:It)(fp:IF IB)(it:IB)(tn:Nat->Heap->Prop):Prop where
 mem:it∈fp
 obj:∀i h,tn i h->∀b∈fp,∃o,h.get? b=some o/\∀v,o.data≠.cell v
 keep:∀i h h',tn i h->(∀b∈fp,∀o,h.get? b=some o->h'.get? b=some o)->tn i h'
 item:∀(X:Cx),X.prog=P->X.w=w->X.K=K->X.calm=true->∀(i:Nat)(IH:IF (IB×Obj))(s:F4)(σ:St)(H:Hp)(E:F8->F4->Prop),Inv X IH σ H s->(∀b∈fp,ek X IH H b)->tn i s.heap->J.go i H ->
  wpAny (model P w) X.A (pyNext (.ref it)) (λ r s1=>∃u,r=some u /\
   wpAny (model P w) X.A (letOwnedTupleGo tg (.ref it) u) (λ _ s2=>∃x H',Inv X IH σ H' s2/\RelV x u/\J.yld i H x H'/\tn (i+1) s2.heap/\∀b∈fp,H' b=none) E s1) E s
 done:∀(X:Cx),X.prog=P->X.w=w->X.K=K->X.calm=true->∀(i:Nat)(IH:IF (IB×Obj))(s:F4)(σ:St)(H:Hp)(E:F8->F4->Prop),Inv X IH σ H s->(∀b∈fp,ek X IH H b)->tn i s.heap->J.stop i H ->
  wpAny (model P w) X.A (pyNext (.ref it)) (λ r s1=>r=none/\Inv X IH σ H s1) E s
 self:∀(A:Around)(i:Nat)(s:F4)(Q E:F8->F4->Prop),tn i s.heap->Q (.ref it) s->wpAny (model P w) A (pyIter (.ref it)) Q E s
abbrev TI:=St->Hp->(It->Hp->Prop)->Prop
def PIE(X:Cx)(IH:IF (IB×Obj))(σ:St)(tg:Expr)(R:It->Hp->Prop)(itv:F8)(s2:F4):Prop :=
 ∃(it:IB)(fp:IF IB)(tn:Nat->Heap->Prop)(J:It)(H':Hp),itv=.ref it/\Inv X IH σ H' s2/\Turn X.prog X.w X.K tg J fp it tn/\tn 0 s2.heap/\(∀b∈fp,ek X IH H' b)/\R J H'
def PI(X:Cx)(tg iter:Expr)(wi:TI):Prop :=
 ∀(IH:IF (IB×Obj))(s:F4)(σ:St)(H:Hp)(R:It->Hp->Prop),Inv X IH σ H s->wi σ H R ->
  wpAny (model X.prog X.w) X.A (eval iter X.env) (λ v s1=>wpAny (model X.prog X.w) X.A (pyIter v) (PIE X IH σ tg R) X.xe s1) X.xe s
theorem oI{M:Model}{A:Around}{E:F8->F4->Prop}{s:F4}{tg:Expr}{it:IB}{u:F8}{o:Obj}{n:String}{vs:IE F8}{Q:Unit->F4->Prop}(ho:s.heap.get? it=some o)(hc:o.cls=.type n)(hd:o.data=.fields vs)
    (hn:["enumerate","zip","dict_itemiterator","dict_reverseitemiterator","odict_iterator","itertools.zip_longest","itertools.pairwise"].contains n=false) (hQ:Q () s):wpAny M A (letOwnedTupleGo tg (.ref it) u) Q E s:=by
  unfold letOwnedTupleGo;cases tg <;> first
    | exact A1 hQ
    | (cases u <;> first
        | exact A1 hQ
        | (apply A0 (wpAny_load ho ?_)
           rw[hc,hd];show wpAny M A (if (["enumerate","zip","dict_itemiterator","dict_reverseitemiterator","odict_iterator","itertools.zip_longest","itertools.pairwise"].contains n && vs[0]? == some (rawInt _))=true then _ else _) Q E s;rw[IN (by intro h;rw[hn,Bool.false_and]at h;cases h)];exact A1 hQ))
def Itl(K:C3)(a:IB):It :=
 %[λ i H=>∃xs x,SqL K H a xs/\xs[i]?=some x,λ i H x H'=>H'=H/\∀xs,SqL K H a xs->xs[i]?=some x|λ i H=>∃xs,SqL K H a xs/\xs.length<=i]
def Itt(K:C3)(a:IB):It :=
 %[λ i H=>∃xs x,SqT K H a xs/\xs[i]?=some x,λ i H x H'=>H'=H/\∀xs,SqT K H a xs->xs[i]?=some x|λ i H=>∃xs,SqT K H a xs/\xs.length<=i]
def Itr(lo:Int)(n:Nat):It:=%[λ i _=>i < n,λ i H x H'=>H'=H/\x=.int (lo+i)|λ i _=>n<=i]
theorem mh{P:F5}{w:F7}{K:C3}{tg:Expr}(a it:IB):Turn P w K tg (Itl K a) [it] it (λ i h=>h.IsListIter it a i) where
 mem:=by simp
 obj:=λ i h st b hb=>by
  have e:b=it:=by simpa using hb
  subst e;obtain⟨o,e,c,d⟩:=st;exact%[o,e|λ v z=>by rw[d]at z;cases z]
 keep:=λ i h h' st k=>st.at λ o e=>k it (by simp) o e
 item:=by intro X hP hw hK hc i IH s σ H E I hf st hg;subst hP hw hK;obtain⟨xs,x,hq,hx⟩:=hg;obtain⟨its,rv,p,hz⟩:=I.list hq;obtain⟨u,hu,ru⟩:=rv.get hx;obtain⟨f0,f1,f2,f3,f4,f5⟩:=hf it (by simp);apply wpAny_pyNext_list_item st p.isList (x:=u) (by simpa using hu) λ h' st' sb=>?_;have I1:Inv X IH σ H { s with heap:=h' }:=I.turned (t':=s.toks) (λ b o hb e=>(sb.2 b hb).trans e) f0 f1 f3 f4 f5;obtain⟨o,e,c,d⟩:=id st';exact%[u,Z|oI (s:={ s with heap:=h' }) e c d ∅ %[x,H,I1,ru,%[Z|λ ys hy=>by rw[I.list_inj hy hq];exact hx],st'|λ b hb=>(hf b hb).1]]
 done:=by intro X hP hw hK hc i IH s σ H E I hf st hg;subst hP hw hK;obtain⟨xs,hq,hx⟩:=hg;obtain⟨its,rv,p,hz⟩:=I.list hq;obtain⟨f0,f1,f2,f3,f4,f5⟩:=hf it (by simp);have hl:=rv.length;exact wpAny_pyNext_list_end (I.ok.hd hc) st p.isList (by simp;omega) λ h' eb=>%[Z|I.turned (t':=s.toks) (λ b o hb e=>eb b o hb e) f0 f1 f3 f4 f5]
 self:=λ _ _ _ _ _ st h=>wpAny_pyIter_listiter st h
theorem jJ{P:F5}{w:F7}{K:C3}{tg:Expr}(a it:IB):Turn P w K tg (Itt K a) [it] it (λ i h=>h.IsTupleIter it a i) where
 mem:=by simp
 obj:=λ i h st b hb=>by
  have e:b=it:=by simpa using hb
  subst e;obtain⟨o,e,c,d⟩:=st;exact%[o,e|λ v z=>by rw[d]at z;cases z]
 keep:=λ i h h' st k=>st.at λ o e=>k it (by simp) o e
 item:=by intro X hP hw hK hc i IH s σ H E I hf st hg;subst hP hw hK;obtain⟨xs,x,hq,hx⟩:=hg;obtain⟨its,rv,p,hz⟩:=I.tuple hq;obtain⟨u,hu,ru⟩:=rv.get hx;obtain⟨f0,f1,f2,f3,f4,f5⟩:=hf it (by simp);apply wpAny_pyNext_tuple_item st (show s.heap.IsTuple a its.toArray from p) (x:=u) (by simpa using hu) λ h' st' sb=>?_;have I1:Inv X IH σ H { s with heap:=h' }:=I.turned (t':=s.toks) (λ b o hb e=>(sb.2 b hb).trans e) f0 f1 f3 f4 f5;obtain⟨o,e,c,d⟩:=id st';exact%[u,Z|oI (s:={ s with heap:=h' }) e c d ∅ %[x,H,I1,ru,%[Z|λ ys hy=>by rw[I.tuple_inj hy hq];exact hx],st'|λ b hb=>(hf b hb).1]]
 done:=by intro X hP hw hK hc i IH s σ H E I hf st hg;subst hP hw hK;obtain⟨xs,hq,hx⟩:=hg;obtain⟨its,rv,p,hz⟩:=I.tuple hq;obtain⟨f0,f1,f2,f3,f4,f5⟩:=hf it (by simp);have hl:=rv.length;exact wpAny_pyNext_tuple_end (I.ok.hd hc) st (show s.heap.IsTuple a its.toArray from p) (by simp;omega) λ h' eb=>%[Z|I.turned (t':=s.toks) (λ b o hb e=>eb b o hb e) f0 f1 f3 f4 f5]
 self:=λ _ _ _ _ _ st h=>wpAny_pyIter_tupleiter st h
theorem jK{P:F5}{w:F7}{K:C3}{tg:Expr}(it:IB)(lo:Int)(n:Nat):Turn P w K tg (Itr lo n) [it] it (λ i h=>IsRangeIter h it (lo+(i:Nat) * 1) ((n:Int) - (i:Nat)) 1) where
 mem:=by simp
 obj:=λ i h st b hb=>by
  have e:b=it:=by simpa using hb
  subst e;exact⟨_,st,λ v z=>by
   have z':Data.fields _=Data.cell v:=z;cases z'⟩
 keep:=λ i h h' st k=>k it (by simp) _ st
 item:=by intro X hP hw hK hc i IH s σ H E I hf st hg;subst hP hw hK;obtain⟨f0,f1,f2,f3,f4,f5⟩:=hf it (by simp);have W:=Walks.range (prog:=X.prog) (w:=X.w) (I.ok.hd hc) it lo 1 n;apply W.item i s _ _ hg st λ v h' tk hv st' kk=>?_;obtain⟨t,rfl⟩:=hv;have I1:Inv X IH σ H { s with heap:=h',toks:=tk }:=I.turned (λ b o hb e=>kk b o (by simpa using hb) e) f0 f1 f3 f4 f5;apply%[_,Z|oI (s:={ s with heap:=h',toks:=tk }) (n := "range_iterator") st' rfl rfl ∅ %[.int (lo+i),H,I1,%[t|?_],%[Z|Z],st'|λ b hb=>(hf b hb).1]];rw[Int.mul_one]
 done:=by intro X hP hw hK hc i IH s σ H E I hf st hg;subst hP hw hK;obtain⟨f0,f1,f2,f3,f4,f5⟩:=hf it (by simp);exact wpAny_pyNext_range_end (I.ok.hd hc) st (by have:n<=i:=hg;omega) λ h' eb=>%[Z|I.turned (t':=s.toks) (λ b o hb e=>eb b o hb e) f0 f1 f3 f4 f5]
 self:=λ _ _ _ _ _ st h=>wpAny_pyIter_rangeiter st h
section
variable{X:Cx}{tg:Expr}
inductive iListA(K:C3)(R:It->Hp->Prop)(x:V)(H1:Hp):Prop
|mk(a:IB)(_:x=.ref a)(_:(∃xs,SqL K H1 a xs))(_:R (Itl K a) H1)
def sY(K:C3)(tl:TE):TI:=λ σ H R=>tl σ H λ x H1=>iListA K R x H1
inductive iTupA(K:C3)(R:It->Hp->Prop)(x:V)(H1:Hp):Prop
|mk(a:IB)(_:x=.ref a)(_:(∃xs,SqT K H1 a xs))(_:R (Itt K a) H1)
def wS(K:C3)(tl:TE):TI:=λ σ H R=>tl σ H λ x H1=>iTupA K R x H1
theorem bh{l:Expr}{tl:TE}(hl:PE X l tl):PI X tg l (sY X.K tl):=by
 intro IH s σ H R I h;apply thn (hl IH s σ H _ I h) λ v s1 %[x,H1,I1,r1|q1]=>?_;obtain⟨a,e,⟨xs,hq⟩,q⟩:=q1;subst e;cases r1;obtain⟨its,rv,p,hz⟩:=I1.list hq;apply wpAny_pyIter_list p.isList ?_;apply%[s1.heap.objs.size,[s1.heap.objs.size],_,_,H1,Z,I1.kept (t':=s1.toks) λ b o e=>A6 _ e,mh a _,%[_,A7 _ rfl,Z|Z],λ b hb=>?_|q];have e:b=s1.heap.objs.size:=by simpa using hb
 subst e;exact I1.fpOk (B2 _) (I1.hok.fresh (B2 _))
theorem oJ{l:Expr}{tl:TE}(hl:PE X l tl):PI X tg l (wS X.K tl):=by
 intro IH s σ H R I h;apply thn (hl IH s σ H _ I h) λ v s1 %[x,H1,I1,r1|q1]=>?_;obtain⟨a,e,⟨xs,hq⟩,q⟩:=q1;subst e;cases r1;obtain⟨its,rv,p,hz⟩:=I1.tuple hq;apply wpAny_pyIter_tuple (show s1.heap.IsTuple a its.toArray from p) ?_;apply%[s1.heap.objs.size,[s1.heap.objs.size],_,_,H1,Z,I1.kept (t':=s1.toks) λ b o e=>A6 _ e,jJ a _,%[_,A7 _ rfl,Z|Z],λ b hb=>?_|q];have e:b=s1.heap.objs.size:=by simpa using hb
 subst e;exact I1.fpOk (B2 _) (I1.hok.fresh (B2 _))
theorem oK{IH:IF (IB×Obj)}{σ:St}{H:Hp}{s:F4}{R:It->Hp->Prop}{E:F8->F4->Prop}{lo hi:Int}{t u v:Tok}{tk:Nat}(I:Inv X IH σ H s)(h1:-(2 ^ 62)<=lo)(h2:lo < 2 ^ 62)(h3:-(2 ^ 62)<=hi)(h4:hi < 2 ^ 62)
  (q:R (Itr lo (hi - lo).toNat) H):wpAny (model X.prog X.w) X.A (pyIter (.ref s.heap.objs.size)) (PIE X IH σ tg R) E { s with heap:=s.heap.push { cls:=.type "range",data:=.fields #[.int lo t,.int hi u,.int 1 v] },toks:=tk }:=by
 apply wpAny_pyIter_range (IsRange.new ..) (small_one h1 h2 h3 h4) ?_;have I1:Inv X IH σ H { s with heap:=s.heap.push { cls:=.type "range",data:=.fields #[.int lo t,.int hi u,.int 1 v] },toks:=tk }:=I.kept λ b o e=>A6 _ e;apply⟨(s.heap.push { cls:=.type "range",data:=.fields #[.int lo t,.int hi u,.int 1 v] }).objs.size,[(s.heap.push { cls:=.type "range",data:=.fields #[.int lo t,.int hi u,.int 1 v] }).objs.size],_,_,H,Z,
  I1.kept (t':=tk) λ b o e=>A6 _ e,jK _ lo (hi - lo).toNat,?_,λ b hb=>?_,q⟩
 ·have e1:lo+((0:Nat):Int) * 1=lo:=by simp
  have e2:(((hi - lo).toNat:Nat):Int) - ((0:Nat):Int)=Builtin.Range.rangeSize lo hi 1:=by rw[rangeSize_one];split <;> omega
  show IsRangeIter _ _ (lo+((0:Nat):Int) * 1) ((((hi - lo).toNat:Nat):Int) - ((0:Nat):Int)) 1;rw[e1,e2];exact A7 _ rfl
 ·have e:b=(s.heap.push { cls:=.type "range",data:=.fields #[.int lo t,.int hi u,.int 1 v] }).objs.size:=by simpa using hb
  subst e;exact I1.fpOk (B2 _) (I1.hok.fresh (B2 _))
def wT(ta:TA):TI:=λ σ H R=>ta σ H λ vs H1=>∃j:Int,vs=[.int j]/\-(2 ^ 62)<=j/\j < 2 ^ 62/\R (Itr 0 j.toNat) H1
theorem bY{a:Expr}{ta:TA}{p pos:Pos}(hg:Gl X "range")(hm:X.mg "range" = none)(ha:PA X [a] ta)(hs:starEach [a] X.env=[(false,eval a X.env)]:=by rfl):PI X tg (.Call (.Name "range" p) [a] [] pos) (wT ta):=by
 intro IH s σ H R I h;apply Call_ (dW I hg hm boot_range (Ic (thn (ha pos IH s σ H _ I h) λ us s1 %[vs,H1,I1,r1|q1]=>?_) hs rfl));obtain⟨j,e,q1,q2,q⟩:=q1;subst e;cases r1 with
 | cons r rr=>
  cases rr;obtain⟨t,rfl⟩:=r;exact call_range_1 (oK I1 ⋯ ⋯ q1 q2 (by simpa using q))
def wU(wi:TI)(g:TG)(tb:TS):TS:=λ D σ H=>wi σ H λ J H1=>∃W:Nat->Nat->St->Hp->Prop,(∃m,W 0 m σ H1)/\∀i m σ H,W i m σ H ->
 (J.stop i H/\D.nx σ H)\/(J.go i H/\∃N:St->Hp->Prop,(∀σ' H',N σ' H'->∃m',m' < m/\W (i+1) m' σ' H')/\∀x H',J.yld i H x H'->g x σ H' λ σ2 H2=>tb { D with nx:=N,ct:=N,bk:=D.nx } σ2 H2)
def ik(fp:IF IB)(h:Heap):IF (IB×Obj):=fp.filterMap λ b=>(h.get? b).map λ o=>(b,o)
theorem bZ{fp:IF IB}{h:Heap}{b:IB}{o:Obj}(hb:b∈fp)(e:h.get? b=some o):(b,o)∈ik fp h:=List.mem_filterMap.mpr %[b,hb|by rw[e];rfl]
theorem mi{fp:IF IB}{h:Heap}{p:IB×Obj}(hp:p∈ik fp h):p.1∈fp/\h.get? p.1=some p.2:=by
 obtain⟨b,hb,e⟩:=List.mem_filterMap.mp hp;cases q:h.get? b with
 | none=>rw[q]at e;cases e
 | some o=>
  rw[q]at e;have e':(b,o)=p:=B7 e;subst e';exact%[hb|q]
theorem Inv.pinned{IH:IF (IB×Obj)}{σ:St}{H:Hp}{s:F4}{fp:IF IB}(I:Inv X IH σ H s)(hf:∀b∈fp,ek X IH H b)(ho:∀b∈fp,∃o,s.heap.get? b=some o/\∀v,o.data≠.cell v):Inv X (IH ++ ik fp s.heap) σ H s :=
 I.pins_of λ p hp=>(C1.mp hp).elim (λ z=>I.pin p (A4 _ z)) λ z=>by obtain⟨hb,e⟩:=mi z;obtain⟨f0,f1,f2,_⟩:=hf p.1 hb;obtain⟨o,e',d⟩:=ho p.1 hb;rw[e]at e';cases e';exact%[e,f0,f1,f2|d]
theorem Inv.unpinned{IH pl:IF (IB×Obj)}{σ:St}{H:Hp}{s:F4}(I:Inv X (IH ++ pl) σ H s):Inv X IH σ H s:=I.pins_of λ p hp=>I.pin p (A4 _ (B5 _ hp))
theorem bp{iter:Expr}{body:IF Stmt}{wi:TI}{g:TG}{tb:TS}{pos:Pos}(hp:PassesOwn (model X.prog X.w) X.A X.env X.xe)(hc:X.calm=true)(hi:PI X tg iter wi)(hg:PG X tg g)(hb:PSs X body tb)
  (hs:∀x,foldedSetIterable iter X.env x=pure x:=by intro _;rfl):PS X (.For tg iter body [] pos) (wU wi g tb):=by
 intro IH s σ H D I h;apply wpAny_For (thn (hi IH s σ H _ I h) λ v s1 h1=>thn h1 λ itv s2 h2=>?_) hs;obtain⟨it,fp,tn,J,H2,e,I2,T,st2,f2,W,⟨m0,w0⟩,turn⟩:=h2;subst e;have stat:∀{H':Hp},(∀b∈fp,H' b=none)->∀b∈fp,ek X IH H' b:=λ hn b hb=>%[hn b hb|(f2 b hb).2]
 apply codeAny_forLoop_any (λ n s'=>∃i σ' H',Inv X IH σ' H' s'/\tn i s'.heap/\(∀b∈fp,H' b=none)/\W i n σ' H') ?_ m0 %[0,σ,H2,I2,st2,λ b hb=>(f2 b hb).1|w0];rintro n s3 ⟨i,σ3,H3,I3,st3,fr3,w3⟩;rcases turn i n σ3 H3 w3 with⟨stop,qn⟩ | ⟨go,N,hN,step⟩
 ·apply wpAny_passesOwn hp (thn (T.done X rfl rfl rfl hc i IH s3 σ3 H3 X.xe I3 (stat fr3) st3 stop) λ r s4 %[hr|I4]=>?_);subst hr;exact wpAny_execs_nil %[σ3,H3,I4|qn]
 ·apply wpAny_passesOwn hp (thn (T.item X rfl rfl rfl hc i IH s3 σ3 H3 X.xe I3 (stat fr3) st3 go) λ r s4 %[u,hr|h4]=>?_);subst hr;apply wpAny_passesOwn hp (thn h4 λ _ s5 %[x,H5,I5,r5,y5,st5|fr5]=>?_);have I5':=I5.pinned (stat fr5) (T.obj _ _ st5);apply wpAny_passesOwn hp (thn (hg _ s5 σ3 H5 x u _ I5' r5 (step x H5 y5)) λ _ s6 %[σ6,H6,I6|q6]=>?_);apply wpAny_passesOwn hp (thn (hb _ s6 σ6 H6 _ I6 q6) λ f s7 q7=>?_);have again:∀{σ7:St}{H7:Hp},Inv X (IH ++ ik fp s5.heap) σ7 H7 s7->N σ7 H7->∃m,m < n/\∃i σ' H',Inv X IH σ' H' s7/\tn i s7.heap/\(∀b∈fp,H' b=none)/\W i m σ' H':=λ {σ7 H7} I7 n7=>by obtain⟨m',hm,w7⟩:=hN σ7 H7 n7;apply%[m',hm,i+1,σ7,H7,I7.unpinned,T.keep _ _ _ st5 λ b hb o e=>(I7.pin (b,o) (A4 _ (A4 _ (bZ hb e)))).1,λ b hb=>?_|w7];obtain⟨o,e,d⟩:=T.obj _ _ st5 b hb;exact(I7.pin (b,o) (A4 _ (A4 _ (bZ hb e)))).2.1
  cases f with
  | next=>obtain⟨σ7,H7,I7,n7⟩:=q7;exact again I7 n7
  | cont=>obtain⟨σ7,H7,I7,n7⟩:=q7;exact again I7 n7
  | brk=>obtain⟨σ7,H7,I7,q7⟩:=q7;exact%[σ7,H7,I7.unpinned|q7]
  | ret v=>obtain⟨x7,σ7,H7,I7,r7,q7⟩:=q7;exact%[x7,σ7,H7,I7.unpinned,r7|q7]
end
theorem cj{K:C3}{a:IB}{xs:IF V}{g:TG}{tb:TS}{D:Ends}{σ:St}{H:Hp}(Pv:Nat->St->Hp->Prop)(h0:Pv 0 σ H)(hl:∀i σ H,i<=xs.length->Pv i σ H->SqL K H a xs)
  (hs:∀i x σ H,xs[i]?=some x->Pv i σ H->g x σ H λ σ2 H2=>tb { D with nx:=Pv (i+1),ct:=Pv (i+1),bk:=D.nx } σ2 H2) (hd:∀σ H,Pv xs.length σ H->D.nx σ H) :
  ∃W:Nat->Nat->St->Hp->Prop,(∃m,W 0 m σ H)/\∀i m σ H,W i m σ H ->
   ((Itl K a).stop i H/\D.nx σ H)\/((Itl K a).go i H/\∃N:St->Hp->Prop,(∀σ' H',N σ' H'->∃m',m' < m/\W (i+1) m' σ' H')/\∀x H',(Itl K a).yld i H x H'->g x σ H' λ σ2 H2=>tb { D with nx:=N,ct:=N,bk:=D.nx } σ2 H2):=by
 apply%[λ i m σ H=>m=xs.length - i/\i<=xs.length/\Pv i σ H,%[xs.length,by simp,E6 _|h0]|?_];rintro i m σ H ⟨rfl,hi,p⟩;have q:=hl i σ H hi p
 by_cases hlt:i < xs.length
 ·apply .inr %[%[xs,xs[i],q|by simp[hlt]],Pv (i+1),λ σ' H' p'=>%[xs.length - (i+1),⋯,Z,hlt|p']|λ x H' y=>?_];obtain⟨e,y⟩:=y;subst e;exact hs i x σ _ (y xs q) p
 ·have e:i=xs.length:=⋯
  subst e;exact .inl %[%[xs,q|B2 _]|hd σ H p]
theorem lj{K:C3}{a:IB}{xs:IF V}{g:TG}{tb:TS}{D:Ends}{σ:St}{H:Hp}(Pv:Nat->St->Hp->Prop)(h0:Pv 0 σ H)(hl:∀i σ H,i<=xs.length->Pv i σ H->SqT K H a xs)
  (hs:∀i x σ H,xs[i]?=some x->Pv i σ H->g x σ H λ σ2 H2=>tb { D with nx:=Pv (i+1),ct:=Pv (i+1),bk:=D.nx } σ2 H2) (hd:∀σ H,Pv xs.length σ H->D.nx σ H) :
  ∃W:Nat->Nat->St->Hp->Prop,(∃m,W 0 m σ H)/\∀i m σ H,W i m σ H ->
   ((Itt K a).stop i H/\D.nx σ H)\/((Itt K a).go i H/\∃N:St->Hp->Prop,(∀σ' H',N σ' H'->∃m',m' < m/\W (i+1) m' σ' H')/\∀x H',(Itt K a).yld i H x H'->g x σ H' λ σ2 H2=>tb { D with nx:=N,ct:=N,bk:=D.nx } σ2 H2):=by
 apply%[λ i m σ H=>m=xs.length - i/\i<=xs.length/\Pv i σ H,%[xs.length,by simp,E6 _|h0]|?_];rintro i m σ H ⟨rfl,hi,p⟩;have q:=hl i σ H hi p
 by_cases hlt:i < xs.length
 ·apply .inr %[%[xs,xs[i],q|by simp[hlt]],Pv (i+1),λ σ' H' p'=>%[xs.length - (i+1),⋯,Z,hlt|p']|λ x H' y=>?_];obtain⟨e,y⟩:=y;subst e;exact hs i x σ _ (y xs q) p
 ·have e:i=xs.length:=⋯
  subst e;exact .inl %[%[xs,q|B2 _]|hd σ H p]
theorem cB{lo:Int}{n:Nat}{g:TG}{tb:TS}{D:Ends}{σ:St}{H:Hp}(Pv:Nat->St->Hp->Prop)(h0:Pv 0 σ H)
  (hs:∀i σ H,i < n->Pv i σ H->g (.int (lo+i)) σ H λ σ2 H2=>tb { D with nx:=Pv (i+1),ct:=Pv (i+1),bk:=D.nx } σ2 H2) (hd:∀σ H,Pv n σ H->D.nx σ H) :
  ∃W:Nat->Nat->St->Hp->Prop,(∃m,W 0 m σ H)/\∀i m σ H,W i m σ H ->
   ((Itr lo n).stop i H/\D.nx σ H)\/((Itr lo n).go i H/\∃N:St->Hp->Prop,(∀σ' H',N σ' H'->∃m',m' < m/\W (i+1) m' σ' H')/\∀x H',(Itr lo n).yld i H x H'->g x σ H' λ σ2 H2=>tb { D with nx:=N,ct:=N,bk:=D.nx } σ2 H2):=by
 apply%[λ i m σ H=>m=n - i/\i<=n/\Pv i σ H,%[n,by simp,E6 _|h0]|?_];rintro i m σ H ⟨rfl,hi,p⟩
 by_cases hlt:i < n
 ·apply .inr %[hlt,Pv (i+1),λ σ' H' p'=>%[n - (i+1),⋯,Z,hlt|p']|λ x H' y=>?_];obtain⟨e,y⟩:=y;subst e y;exact hs i σ _ hlt p
 ·have e:i=n:=⋯
  subst e;exact .inl %[B2 _|hd σ H p]
abbrev R2:=V->V->Hp->VK->Prop
def OpR(X:Cx)(f:F8->F8->Sem F8)(r:R2):Prop :=
 ∀(IH:IF (IB×Obj))(s:F4)(σ:St)(H:Hp)(x y:V)(v u:F8)(Q:VK),Inv X IH σ H s->RelV x v->RelV y u->r x y H Q ->
  wpAny (model X.prog X.w) X.A (f v u) (EP X IH σ Q) X.xe s
def UnR(X:Cx)(f:F8->Sem F8)(r:V->Hp->VK->Prop):Prop :=
 ∀(IH:IF (IB×Obj))(s:F4)(σ:St)(H:Hp)(x:V)(v:F8)(Q:VK),Inv X IH σ H s->RelV x v->r x H Q ->
  wpAny (model X.prog X.w) X.A (f v) (EP X IH σ Q) X.xe s
def cn(X:Cx)(f:F8)(r:IF V->Hp->VK->Prop):Prop :=
 ∀(IH:IF (IB×Obj))(s:F4)(σ:St)(H:Hp)(xs:IF V)(us:IF F8)(Q:VK),Inv X IH σ H s->Vals xs us->r xs H Q ->
  wpAny (model X.prog X.w) X.A (call f us) (EP X IH σ Q) X.xe s
def Eh(X:Cx)(r:V->Hp->(Bool->Hp->Prop)->Prop):Prop :=
 ∀(IH:IF (IB×Obj))(s:F4)(σ:St)(H:Hp)(x:V)(v:F8)(Q:Bool->Hp->Prop),Inv X IH σ H s->RelV x v->r x H Q ->
  wpAny (model X.prog X.w) X.A (truthy v) (TP X IH σ Q) X.xe s
def tOp(r:R2)(ta tb:TE):TE:=λ σ H Q=>ta σ H λ x H1=>tb σ H1 λ y H2=>r x y H2 Q
def tUn(r:V->Hp->VK->Prop)(ta:TE):TE:=λ σ H Q=>ta σ H λ x H1=>r x H1 Q
inductive rI(C:Int->Int->Prop)(g:Int->Int->V)(x:V)(y:V)(H:Hp)(Q:VK):Prop
|mk(i j:Int)(_:x=.int i)(_:y=.int j)(_:C i j)(_:Q (g i j) H)
inductive rI0(g:Int->Int->V)(x:V)(y:V)(H:Hp)(Q:VK):Prop
|mk(i j:Int)(_:x=.int i)(_:y=.int j)(_:Q (g i j) H)
def rU(g:Int->V):V->Hp->VK->Prop:=λ x H Q=>∃i,x=.int i/\Q (g i) H
section
variable{X:Cx}{a b c:Expr}{ta tb tc:TE}{pos:Pos}
theorem tY(ha:PE X a ta)(hb:PE X b tb){IH:IF (IB×Obj)}{s:F4}{σ:St}{H:Hp}{R:V->V->Hp->Prop}(I:Inv X IH σ H s)
  (h:ta σ H λ x H1=>tb σ H1 λ y H2=>R x y H2) {Q:F8->F4->Prop} {f:F8->F8->Sem F8}
  (hf:∀v u s2 x y H2,Inv X IH σ H2 s2->RelV x v->RelV y u->R x y H2->wpAny (model X.prog X.w) X.A (f v u) Q X.xe s2) :
  wpAny (model X.prog X.w) X.A (eval a X.env) (λ v s₁=>wpAny (model X.prog X.w) X.A (eval b X.env) (λ u s₂=>wpAny (model X.prog X.w) X.A (f v u) Q X.xe s₂) X.xe s₁) X.xe s:=by
 apply thn (ha IH s σ H _ I h) λ v s1 %[x,H1,I1,r1|q1]=>?_;apply thn (hb IH s1 σ H1 _ I1 q1) λ u s2 %[y,H2,I2,r2|q2]=>?_;exact hf v u s2 x y H2 I2 r1 r2 q2
theorem aB{op:Operator}{r:R2}(ho:OpR X (binaryOp op) r)(ha:PE X a ta)(hb:PE X b tb):PE X (.BinOp a op b pos) (tOp r ta tb):=by intro IH s σ H Q I h;exact wpAny_BinOp (tY ha hb I h λ v u s2 x y H2 I2 rx ry q=>ho IH s2 σ H2 x y v u Q I2 rx ry q)
theorem wV{op:UnaryOp}{r:V->Hp->VK->Prop}(ho:UnR X (unaryOp op) r)(ha:PE X a ta):PE X (.UnaryOp op a pos) (tUn r ta):=by intro IH s σ H Q I h;exact UnaryOp_ (thn (ha IH s σ H _ I h) λ v s1 %[x,H1,I1,r1|q1]=>ho IH s1 σ H1 x v Q I1 r1 q1)
theorem opI{f:F8->F8->Sem F8}{C:Int->Int->Prop}{g:Int->Int->Int}
  (rule:∀(i j:Int)(t u:Tok)(s:F4)(Q E:F8->F4->Prop),C i j->Q (.int (g i j) s.toks) { s with toks:=s.toks+1 }->wpAny (model X.prog X.w) X.A (f (.int i t) (.int j u)) Q E s) :
  OpR X f (rI C λ i j=>.int (g i j)):=by
 intro IH s σ H x y v u Q I rx ry h;obtain⟨i,j,rfl,rfl,hc,q⟩:=h;obtain⟨t,rfl⟩:=rx;obtain⟨t',rfl⟩:=ry;exact rule i j t t' s _ _ hc %[.int (g i j),H,I.tok _,%[_|rfl]|q]
theorem wW{f:F8->F8->Sem F8}{g:Int->Int->Int}
  (rule:∀(i j:Int)(t u:Tok)(s:F4)(Q E:F8->F4->Prop),Q (.int (g i j) s.toks) { s with toks:=s.toks+1 }->wpAny (model X.prog X.w) X.A (f (.int i t) (.int j u)) Q E s) :
  OpR X f (rI0 λ i j=>.int (g i j)):=by
 intro IH s σ H x y v u Q I rx ry h;obtain⟨i,j,rfl,rfl,q⟩:=h;obtain⟨t,rfl⟩:=rx;obtain⟨t',rfl⟩:=ry;exact rule i j t t' s _ _ %[.int (g i j),H,I.tok _,%[_|rfl]|q]
theorem qT{f:F8->F8->Sem F8}{g:Int->Int->Bool}
  (rule:∀(i j:Int)(t u:Tok)(s:F4)(Q E:F8->F4->Prop),Q (.bool (g i j)) s->wpAny (model X.prog X.w) X.A (f (.int i t) (.int j u)) Q E s) :
  OpR X f (rI0 λ i j=>.bl (g i j)):=by
 intro IH s σ H x y v u Q I rx ry h;obtain⟨i,j,rfl,rfl,q⟩:=h;obtain⟨t,rfl⟩:=rx;obtain⟨t',rfl⟩:=ry;exact rule i j t t' s _ _ %[.bl (g i j),H,I,rfl|q]
def Ei(i j:Int):Prop:=0 < j/\j < 1073741824
def Ej(i j:Int):Prop:=0<=j/\j<=1000000/\i.natAbs < 2 ^ 64
def CMul(i j:Int):Prop:=(-(2 ^ 64) < i/\i < 2 ^ 64)\/(-(2 ^ 64) < j/\j < 2 ^ 64)
theorem CMul.ok{i j:Int}(h:CMul i j):IntMulOk i j:=by
 rcases h with⟨h1,h2⟩ | ⟨h1,h2⟩
 ·exact .of_left (intBits_le_64 h1 h2)
 ·exact .of_right (intBits_le_64 h1 h2)
theorem aK:OpR X (binaryOp .Add) (rI0 λ i j=>.int (i+j)):=wW λ _ _ _ _ _ _ _ q=>add_int q
theorem bQ:OpR X (binaryOp .Sub) (rI0 λ i j=>.int (i - j)):=wW λ _ _ _ _ _ _ _ q=>sub_int q
theorem ce:OpR X (binaryOp .Mult) (rI CMul λ i j=>.int (i * j)):=opI λ _ _ _ _ _ _ _ hc q=>mul_int q hc.ok
theorem eS:OpR X (binaryOp .Mod) (rI (λ _ j=>0 < j) λ i j=>.int (i % j)):=opI λ i j _ _ _ _ _ hc q=>by have h1:(0:Int) < j:=hc;exact mod_int' ⋯ (by rw[Int.fmod_eq_emod_of_nonneg i ⋯];exact q)
theorem eT:OpR X (binaryOp .Pow) (rI Ej λ i j=>.int (i ^ j.toNat)):=opI λ _ _ _ _ _ _ _ hc q=>pow_int_small hc.1 hc.2.1 hc.2.2 q
theorem unI{f:F8->Sem F8}{g:Int->Int}
  (rule:∀(i:Int)(t:Tok)(s:F4)(Q E:F8->F4->Prop),Q (.int (g i) s.toks) { s with toks:=s.toks+1 }->wpAny (model X.prog X.w) X.A (f (.int i t)) Q E s) :
  UnR X f (rU λ i=>.int (g i)):=by
 intro IH s σ H x v Q I rx h;obtain⟨i,rfl,q⟩:=h;obtain⟨t,rfl⟩:=rx;exact rule i t s _ _ %[.int (g i),H,I.tok _,%[_|rfl]|q]
theorem tZ:UnR X (unaryOp .USub) (rU λ i=>.int (-i)):=unI λ _ _ _ _ _ q=>neg_int q
inductive rz_op_add_ib(x:V)(y:V)(H:Hp)(Q:VK):Prop
|mk(i k:_)(_:x=.int i)(_:y=.bl k)(_:Q (.int (i+b2i k)) H)
end
def wX:V->V->Bool
 | .non,.non=>true | .non,.int _=>true | .int _,.non=>true | .non,.bl _=>true | .bl _,.non=>true | .non,.str _=>true | .str _,.non=>true
 | .int _,.int _=>true | .bl _,.bl _=>true | .str _,.str _=>true | .byt _,.byt _=>true
 | .int _,.str _=>true | .str _,.int _=>true | .bl _,.str _=>true | .str _,.bl _=>true
 | _,_=>false
def rEq:R2:=λ x y H Q=>wX x y=true/\Q (.bl (decide (x=y))) H
def rNe:R2:=λ x y H Q=>wX x y=true/\Q (.bl (!decide (x=y))) H
theorem io{i j:Int}:decide (V.int i=V.int j)=(i == j):=by rw[Ht];simp
theorem oM{i j:Bool}:decide (V.bl i=V.bl j)=(i == j):=by rw[Ht];simp
theorem lm{i j:Str}:decide (V.str i=V.str j)=(i == j):=by rw[Ht];simp
theorem lp{i j:IE UInt8}:decide (V.byt i=V.byt j)=(i.toList == j.toList):=by rw[Ht];cases i;cases j;simp
section
variable{X:Cx}{a b c:Expr}{ta tb tc:TE}{pos:Pos}
theorem aP{IH:IF (IB×Obj)}{σ:St}{H:Hp}{s:F4}{Q:VK}{k k':Bool}(I:Inv X IH σ H s)(q:Q (.bl k) H)(e:k=k'):EP X IH σ Q (.bool k') s:=by subst e;exact%[.bl k,H,I,Z|q]
theorem bF:OpR X (compareOp .Eq) rEq:=by
 intro IH s σ H x y v u Q I rx ry h;obtain⟨hs,q⟩:=h;cases x with
 | non=>
  cases rx;cases y with
  | non=>cases ry;exact PySem.EqNone.eq_none_none (aP I q (by simp))
  | bl j=>cases ry;exact PySem.EqNone.eq_none_bool (aP I q (by simp))
  | int j=>obtain⟨t',rfl⟩:=ry;exact PySem.EqNone.eq_none_int (aP I q (by simp))
  | str j=>obtain⟨t',rfl⟩:=ry;exact PySem.EqNone.eq_none_str (aP I q (by simp))
  | _=>exact absurd (show false=true from hs) B1
 | bl i=>
  cases rx;cases y with
  | non=>cases ry;exact PySem.EqNone.eq_bool_none (aP I q (by simp))
  | bl j=>cases ry;exact eq_bool (aP I q oM)
  | str j=>obtain⟨t',rfl⟩:=ry;exact PySem.EqMixed.eq_bool_str (aP I q (by simp))
  | _=>exact absurd (show false=true from hs) B1
 | int i=>
  obtain⟨t,rfl⟩:=rx;cases y with
  | non=>cases ry;exact PySem.EqNone.eq_int_none (aP I q (by simp))
  | int j=>obtain⟨t',rfl⟩:=ry;exact eq_int (aP I q io)
  | str j=>obtain⟨t',rfl⟩:=ry;exact PySem.EqMixed.eq_int_str (aP I q (by simp))
  | _=>exact absurd (show false=true from hs) B1
 | str i=>
  obtain⟨t,rfl⟩:=rx;cases y with
  | non=>cases ry;exact PySem.EqNone.eq_str_none (aP I q (by simp))
  | bl j=>cases ry;exact PySem.EqMixed.eq_str_bool (aP I q (by simp))
  | int j=>obtain⟨t',rfl⟩:=ry;exact PySem.EqMixed.eq_str_int (aP I q (by simp))
  | str j=>obtain⟨t',rfl⟩:=ry;exact eq_str (aP I q lm)
  | _=>exact absurd (show false=true from hs) B1
 | byt i=>
  obtain⟨t,rfl⟩:=rx;cases y with
  | byt j=>obtain⟨t',rfl⟩:=ry;exact PySem.W.eq_bytes (aP I q lp)
  | _=>exact absurd (show false=true from hs) B1
 | _=>cases y <;> exact absurd (show false=true from hs) B1
theorem fi:OpR X (compareOp .NotEq) rNe:=by
 intro IH s σ H x y v u Q I rx ry h;obtain⟨hs,q⟩:=h;cases x with
 | non=>
  cases rx;cases y with
  | non=>cases ry;exact PySem.EqNone.ne_none_none (aP I q (by simp))
  | bl j=>cases ry;exact PySem.EqNone.ne_none_bool (aP I q (by simp))
  | int j=>obtain⟨t',rfl⟩:=ry;exact PySem.EqNone.ne_none_int (aP I q (by simp))
  | str j=>obtain⟨t',rfl⟩:=ry;exact PySem.EqNone.ne_none_str (aP I q (by simp))
  | _=>exact absurd (show false=true from hs) B1
 | bl i=>
  cases rx;cases y with
  | non=>cases ry;exact PySem.EqNone.ne_bool_none (aP I q (by simp))
  | bl j=>cases ry;exact ne_bool (aP I q (Ii not oM))
  | str j=>obtain⟨t',rfl⟩:=ry;exact PySem.EqMixed.ne_bool_str (aP I q (by simp))
  | _=>exact absurd (show false=true from hs) B1
 | int i=>
  obtain⟨t,rfl⟩:=rx;cases y with
  | non=>cases ry;exact PySem.EqNone.ne_int_none (aP I q (by simp))
  | int j=>obtain⟨t',rfl⟩:=ry;exact ne_int (aP I q (Ii not io))
  | str j=>obtain⟨t',rfl⟩:=ry;exact PySem.EqMixed.ne_int_str (aP I q (by simp))
  | _=>exact absurd (show false=true from hs) B1
 | str i=>
  obtain⟨t,rfl⟩:=rx;cases y with
  | non=>cases ry;exact PySem.EqNone.ne_str_none (aP I q (by simp))
  | bl j=>cases ry;exact PySem.EqMixed.ne_str_bool (aP I q (by simp))
  | int j=>obtain⟨t',rfl⟩:=ry;exact PySem.EqMixed.ne_str_int (aP I q (by simp))
  | str j=>obtain⟨t',rfl⟩:=ry;exact ne_str (aP I q (Ii not lm))
  | _=>exact absurd (show false=true from hs) B1
 | byt i=>
  obtain⟨t,rfl⟩:=rx;cases y with
  | byt j=>obtain⟨t',rfl⟩:=ry;exact PySem.W.ne_bytes (aP I q (Ii not lp))
  | _=>exact absurd (show false=true from hs) B1
 | _=>cases y <;> exact absurd (show false=true from hs) B1
theorem fQ:OpR X (compareOp .Lt) (rI0 λ i j=>.bl (decide (i < j))):=qT λ _ _ _ _ _ _ _ q=>lt_int q
theorem dj:OpR X (compareOp .LtE) (rI0 λ i j=>.bl (decide (i<=j))):=qT λ _ _ _ _ _ _ _ q=>le_int q
theorem fR:OpR X (compareOp .Gt) (rI0 λ i j=>.bl (decide (j < i))):=qT λ _ _ _ _ _ _ _ q=>gt_int q
theorem gR:OpR X (compareOp .GtE) (rI0 λ i j=>.bl (decide (j<=i))):=qT λ _ _ _ _ _ _ _ q=>ge_int q
inductive rz_op_lt_str(x:V)(y:V)(H:Hp)(Q:VK):Prop
|mk(i j:_)(_:x=.str i)(_:y=.str j)(_:Q (.bl (decide (i.cps.toList < j.cps.toList))) H)
inductive rz_op_in_str(x:V)(y:V)(H:Hp)(Q:VK):Prop
|mk(i j:_)(_:x=.str i)(_:y=.str j)(_:Q (.bl (!(Builtin.Str.occurrences j i 0 j.length 1).isEmpty)) H)
theorem ip:OpR X (compareOp .Is) (λ x y H Q=>y=.non/\Q (.bl (decide (x=.non))) H):=by
 intro IH s σ H x y v u Q I rx ry h;obtain⟨rfl,q⟩:=h;cases ry;apply is_none_gen (aP I q ?_);cases x <;> first
  | (cases rx;rfl)
  | (obtain⟨t,rfl⟩:=rx;rfl)
theorem iq:OpR X (compareOp .IsNot) (λ x y H Q=>y=.non/\Q (.bl (!decide (x=.non))) H):=by
 intro IH s σ H x y v u Q I rx ry h;obtain⟨rfl,q⟩:=h;cases ry;apply isnot_none_gen (aP I q ?_);cases x <;> first
  | (cases rx;rfl)
  | (obtain⟨t,rfl⟩:=rx;rfl)
inductive rz_op_notin_str(x:V)(y:V)(H:Hp)(Q:VK):Prop
|mk(i j:_)(_:x=.str i)(_:y=.str j)(_:Q (.bl (!(!(Builtin.Str.occurrences j i 0 j.length 1).isEmpty))) H)
def lq:HO->Bool
 | .lst _=>true
 | .ins _ _ _=>true
 | _=>false
inductive rz_op_is_ref(x:V)(y:V)(H:Hp)(Q:VK):Prop
|mk(a b oa ob:_)(_:x=.ref a)(_:y=.ref b)(_:H a=some oa)(_:lq oa=true)(_:H b=some ob)(_:lq ob=true)(_:Q (.bl (decide (a=b))) H)
inductive rz_op_isnot_ref(x:V)(y:V)(H:Hp)(Q:VK):Prop
|mk(a b oa ob:_)(_:x=.ref a)(_:y=.ref b)(_:H a=some oa)(_:lq oa=true)(_:H b=some ob)(_:lq ob=true)(_:Q (.bl (!decide (a=b))) H)
theorem aF(b:Expr){op:CmpOp}(h:op≠.In:=by decide)(h2:op≠.NotIn:=by decide):behindInMarks op b=false:=by
 have e1:(op == CmpOp.In)=false:=by cases op <;> first | rfl | exact absurd rfl h
 have e2:(op == CmpOp.NotIn)=false:=by cases op <;> first | rfl | exact absurd rfl h2
 cases b <;> simp[behindInMarks,e1,e2]
theorem aT{op:CmpOp}{r:R2}(ho:OpR X (compareOp op) r)(ha:PE X a ta)(hb:PE X b tb)(hm:behindInMarks op b=false):PE X (.Compare a [op] [b] pos) (tOp r ta tb):=by intro IH s σ H Q I h;exact wpAny_Compare1 (tY ha hb I h λ v u s2 x y H2 I2 rx ry q=>ho IH s2 σ H2 x y v u Q I2 rx ry q) hm
def td(t:TE):TT:=λ σ H Q=>t σ H λ x H'=>IsB x λ k=>Q k H'
theorem aH{op:CmpOp}{r:R2}(ho:OpR X (compareOp op) r)(ha:PE X a ta)(hb:PE X b tb)(hm:behindInMarks op b=false):PT X (.Compare a [op] [b] pos) (td (tOp r ta tb)):=by
 intro IH s σ H Q I h;apply wpAny_isTrue_Compare1 (thn (ha IH s σ H _ I h) λ v s1 %[x,H1,I1,r1|q1]=>thn (hb IH s1 σ H1 _ I1 q1) λ u s2 %[y,H2,I2,r2|q2]=>
  thn (ho IH s2 σ H2 x y v u _ I2 r1 r2 q2) λ c s3 %[z,H3,I3,r3,k,e|q3]=>?_) hm
 subst e;cases r3;exact F0 %[H3,I3|q3]
def uh(r r':R2)(ta tb tc:TE):TE:=λ σ H Q=>ta σ H λ x H1=>tb σ H1 λ y H2=>r x y H2 λ z H3=>∃k,z=.bl k /\
 (if k=true then tc σ H3 λ w' H4=>r' y w' H4 Q else Q (.bl false) H3)
theorem oN{op op':CmpOp}{r r':R2}(ho:OpR X (compareOp op) r)(ho':OpR X (compareOp op') r')(ha:PE X a ta)(hb:PE X b tb)(hc:PE X c tc)
  (hm:lastMarks [op,op'] [b,c]=false:=by with_unfolding_all rfl):PT X (.Compare a [op,op'] [b,c] pos) (td (uh r r' ta tb tc)):=by
 intro IH s σ H Q I h;apply isTrue_chain (thn (ha IH s σ H _ I h) λ v s1 %[x,H1,I1,r1|q1]=>test_link (thn (hb IH s1 σ H1 _ I1 q1) λ u s2 %[y,H2,I2,r2|q2]=>
  thn (ho IH s2 σ H2 x y v u _ I2 r1 r2 q2) λ d s3 %[z,H3,I3,r3,k,e|q3]=>?_)) hm
 subst e;cases r3;apply F0 ?_;cases k with
 | false=>
  obtain⟨k',e',q'⟩:=q3;cases e';exact ite_ff %[H3,I3|q']
 | true=>
  apply ite_tt (test_last (thn (hc IH s3 σ H3 _ I3 q3) λ w' s4 %[z',H4,I4,r4|q4]=>thn (ho' IH s4 σ H4 y z' u w' _ I4 r2 r4 q4) λ d' s5 %[z2,H5,I5,r5,k2,e2|q5]=>?_));subst e2;cases r5;exact F0 %[H5,I5|q5]
def wY(K:C3)(x:V)(H:Hp)(k:Bool):Prop :=
 match x with
 | .non=>k=false
 | .bl b=>k=b
 | .int i=>k=(i != 0)
 | .str y=>y.length<=sizeLine/\k=((y.length:Int) != 0)
 | .byt y=>y.size<=sizeLine/\k=((y.size:Int) != 0)
 | .ref p=>(∃xs,SqL K H p xs/\k=!xs.isEmpty)\/(∃xs,SqT K H p xs/\k=!xs.isEmpty)\/∃kvs,H p=some (.dK kvs)/\k=!kvs.isEmpty
 | _=>False
theorem jL{κ:Type}{kvs:IF (κ×V)}{vs:IF (κ×F8)}(r:KV kvs vs):(!vs.isEmpty)=!kvs.isEmpty:=by cases r <;> rfl
theorem fS{xs:IF V}{its:IF F8}(r:Vals xs its):(!its.toArray.isEmpty)=!xs.isEmpty:=by cases r <;> simp
theorem eU:(sizeLine:Nat) < 2 ^ 63:=by rw[sizeLine_eq];decide
theorem ui:Eh X (λ x H Q=>∃k,wY X.K x H k/\Q k H):=by
 intro IH s σ H x v Q I rx h;obtain⟨k,e,q⟩:=h;have hl:=eU;have hs:sizeLine=16777216:=sizeLine_eq;cases x with
 | non=>
  cases rx;have e':k=false:=e;subst e';exact truthy_none %[H,I|q]
 | bl b=>
  cases rx;have e':k=b:=e;subst e';exact F0 %[H,I|q]
 | int i=>
  obtain⟨t,rfl⟩:=rx;have e':k=(i != 0):=e;subst e';exact PySem.P.truthy_int %[H,I|q]
 | str y=>
  obtain⟨t,rfl⟩:=rx;obtain⟨hy,e'⟩:y.length<=sizeLine/\k=((y.length:Int) != 0):=e;subst e';exact PySem.P.truthy_str ⋯ %[H,I.tok _|q]
 | byt y=>
  obtain⟨t,rfl⟩:=rx;obtain⟨hy,e'⟩:y.size<=sizeLine/\k=((y.size:Int) != 0):=e;subst e';exact PySem.W.truthy_bytes ⋯ %[H,I.tok _|q]
 | ref p=>
  cases rx;have e':(∃xs,SqL X.K H p xs/\k=!xs.isEmpty)\/(∃xs,SqT X.K H p xs/\k=!xs.isEmpty)\/∃kvs,H p=some (.dK kvs)/\k=!kvs.isEmpty:=e;rcases e' with⟨xs,hx,e'⟩ | ⟨xs,hx,e'⟩ | ⟨kvs,hx,e'⟩
  ·subst e';obtain⟨its,r,pl,hz⟩:=I.list hx;have IJ:=r.length;exact wpAny_truthy_list pl.isList (by simp only[G2];omega) %[H,I.tok _|by rw[fS r];exact q]
  ·subst e';obtain⟨its,r,pl,hz⟩:=I.tuple hx;have IJ:=r.length;exact truthy_tuple pl (by simp only[G2];omega) %[H,I.tok _|by rw[fS r];exact q]
  ·subst e';obtain⟨hz,hS,vs,r,m⟩:kvs.length<=sizeLine/\(p == sysModules)=false/\∃vs,KV kvs vs/\s.heap.DictOf (ie X.prog X.w) p vs:=I.hok p _ hx;have IJ:kvs.length=vs.length:=E1 r;exact wpAny_truthy_dict hS m ⋯ %[H,I.tok _|by rw[jL r];exact q]
 | _=>exact(show False from e).elim
theorem oO(ha:PE X a ta)(he:∀aX,isTrue a X.env aX=(do let v<-aX;standAt a.pos;holding [v] (truthy v))) :
  PT X a (λ σ H Q=>ta σ H λ x H'=>∃k,wY X.K x H' k/\Q k H'):=by
 intro IH s σ H Q I h;exact isTrue_plain (thn (ha IH s σ H _ I h) λ v s1 %[x,H1,I1,r1|q1]=>ui IH s1 σ H1 x v Q I1 r1 q1) (he _)
inductive rz_op_add_str(x:V)(y:V)(H:Hp)(Q:VK):Prop
|mk(i j:_)(_:x=.str i)(_:y=.str j)(_:i.length+j.length<=sizeLine)(_:Q (.str (i ++ j)) H)
inductive rz_iop_add_str(x:V)(y:V)(H:Hp)(Q:VK):Prop
|mk(i j:_)(_:x=.str i)(_:y=.str j)(_:i.length+j.length<=sizeLine)(_:Q (.str (i ++ j)) H)
inductive rz_op_add_byt(x:V)(y:V)(H:Hp)(Q:VK):Prop
|mk(i j:_)(_:x=.byt i)(_:y=.byt j)(_:i.size+j.size<=16777216)(_:Q (.byt (i ++ j)) H)
theorem du{x:V}{us:IF F8}(r:Vals [x] us):∃u,us=[u]/\RelV x u:=by
 cases r with
 | cons r1 r2=>cases r2;exact%[_,Z|r1]
theorem tj{x y:V}{us:IF F8}(r:Vals [x,y] us):∃u w',us=[u,w']/\RelV x u/\RelV y w':=by
 cases r with
 | cons r1 r2=>
  cases r2 with
  | cons r3 r4=>cases r4;exact%[_,_,Z,r1|r3]
inductive rz_call_abs(xs:IF V)(H:Hp)(Q:VK):Prop
|mk(i:_)(_:xs=[.int i])(_:Q (.int (if i < 0 then -i else i)) H)
theorem ja:cn X (.builtin "abs") (rz_call_abs):=by intro IH s σ H xs us Q I r h;obtain⟨i,rfl,q⟩:=h;obtain⟨u,rfl,t,rfl⟩:=du r;exact call_abs_int λ u tk=>%[.int (if i < 0 then -i else i),H,I.tok _,%[_|Z]|q]
inductive rz_call_max2(xs:IF V)(H:Hp)(Q:VK):Prop
|mk(i j:_)(_:xs=[.int i,.int j])(_:Q (.int (if j > i then j else i)) H)
theorem cP(hc:X.calm=true):cn X (.builtin "max") (rz_call_max2):=by
 intro IH s σ H xs us Q I r h;obtain⟨i,j,rfl,q⟩:=h;obtain⟨u,w',rfl,⟨t,rfl⟩,⟨t',rfl⟩⟩:=tj r;apply max_two_ints (I.ok.hd hc) λ h' tk k=>%[_,H,I.kept k,?_|q]
 by_cases hj:j > i
 ·rw[IP hj,IP hj];exact%[_|Z]
 ·rw[IN hj,IN hj];exact%[_|Z]
inductive rz_call_min2(xs:IF V)(H:Hp)(Q:VK):Prop
|mk(i j:_)(_:xs=[.int i,.int j])(_:Q (.int (if j < i then j else i)) H)
theorem mj(hc:X.calm=true):cn X (.builtin "min") (rz_call_min2):=by
 intro IH s σ H xs us Q I r h;obtain⟨i,j,rfl,q⟩:=h;obtain⟨u,w',rfl,⟨t,rfl⟩,⟨t',rfl⟩⟩:=tj r;apply min_two_ints (I.ok.hd hc) λ h' tk k=>%[_,H,I.kept k,?_|q]
 by_cases hj:j < i
 ·rw[IP hj,IP hj];exact%[_|Z]
 ·rw[IN hj,IN hj];exact%[_|Z]
theorem cQ:cn X (.type "int") (λ xs H Q=>(∃i,xs=[.int i]/\Q (.int i) H)\/∃k,xs=[.bl k]/\Q (.int (if k then 1 else 0)) H):=by
 intro IH s σ H xs us Q I r h;rcases h with⟨i,rfl,q⟩ | ⟨k,rfl,q⟩
 ·obtain⟨u,rfl,t,rfl⟩:=du r;exact call_int_int %[.int i,H,I,%[_|rfl]|q]
 ·obtain⟨u,rfl,r1⟩:=du r;cases r1;exact call_int_bool %[.int (if k then 1 else 0),H,I.tok _,%[_|rfl]|q]
inductive rz_call_str_int(xs:IF V)(H:Hp)(Q:VK):Prop
|mk(i:_)(_:xs=[.int i])(_:i.natAbs.log2 < 1920)(_:Q (.str (toString i)) H)
inductive rz_call_ord(xs:IF V)(H:Hp)(Q:VK):Prop
|mk(x:_)(_:xs=[.str x])(_:x.length=1)(_:Q (.int (x.cps.getD 0 0:Nat)) H)
inductive rz_call_chr(xs:IF V)(H:Hp)(Q:VK):Prop
|mk(i:_)(_:xs=[.int i])(_:0<=i)(_:i<=1114111)(_:Q (.str ⟨#[i.toNat]⟩) H)
def Ek(K:C3)(x:V)(H:Hp)(n:Nat):Prop :=
 match x with
 | .str y=>y.length<=sizeLine/\n=y.length
 | .byt y=>y.size<=sizeLine/\n=y.size
 | .ref p=>(∃xs,SqL K H p xs/\n=xs.length)\/∃xs,SqT K H p xs/\n=xs.length
 | _=>False
inductive rz_call_len(K:C3)(xs:IF V)(H:Hp)(Q:VK):Prop
|mk(x n:_)(_:xs=[x])(_:Ek K x H n)(_:Q (.int n) H)
inductive rz_call_divmod(xs:IF V)(H:Hp)(Q:VK):Prop
|mk(i j:_)(_:xs=[.int i,.int j])(_:Ei i j)(_:∀p,H p=none->Q (.ref p) (upd H p (.tup [.int (i / j),.int (i % j)])))
end
structure ObjM(h:Heap)(x dx C:IB)(mA:Str->ID Value):Prop where
 obj:h.get? x=some (PySem.W.instObj C dx)
 ns:h.Ns1 dx mA
 ne:dx≠x
theorem mo{h:Heap}{dx:IB}{mA:Str->ID F8}(n:h.Ns1 dx mA):∃od,h.get? dx=some od/\∀name,PySem.W.lookIn name od=some (mA name):=by
 obtain⟨o,es,ep,ho,hd,hk,_,hm⟩:=n;apply%[o,ho|λ name=>?_];have e:=hm name;unfold nsFind findBy at e;rw[<- Array.find?_toList]at e;unfold PySem.W.lookIn;rw[hd];dsimp only
 split
 ·rename_i y q
  rw[q]at e;exact Ii some e
 ·rename_i q
  rw[q]at e;have a:es.toList.any (·.refKey)=false:=by rw[List.any_eq_false];intro y hy;obtain⟨z,t,hkey⟩:=hk y (Array.mem_toList_iff.mp hy);simp[DictEntry.refKey,hkey]
  have a':¬ es.toList.any (·.refKey)=true:=by rw[a];exact B1
  rw[IN a'];exact Ii some e
theorem ObjM.look{h:Heap}{x dx C:IB}{mA:Str->ID F8}(I:ObjM h x dx C mA):∃od,PySem.W.InstAt h x (PySem.W.instObj C dx) C (some od)/\∀name,PySem.W.lookIn name od=some (mA name) :=
 let ⟨od,ho,hl⟩:=mo I.ns
 %[od,%[I.obj,rfl,rfl|ho]|hl]
section
variable{prog:F5}{w:F7}{A:Around}{E:F8->F4->Prop}{s:F4}{K:C3}{x dx C f:IB}{mA:Str->ID F8}{name:Str}{v:F8}
theorem qU{expr:Bool}{Q:F8->F4->Prop}(X:K.In s.heap)(I:ObjM s.heap x dx C mA)(hg:PySem.W.plainGet K C name=true)(hh:PySem.W.hasDictIn K C=true)
  (ha:PySem.W.findIn K (.ref C) name=some none) (hv:mA name=some v) (hv':PySem.W.handedIn v=true) (h:Q v { s with toks:=s.toks+1 }) :
  wpAny (model prog w) A (getAttr (.ref x) name expr) Q E s:=by
 obtain⟨od,J,hl⟩:=I.look;exact PySem.W.get_value X J (PySem.W.plainGet_of hg).1 (PySem.W.findObj_own hh ha rfl (by rw[hl,hv])) hv' h
theorem oP{pl:Sem Bool}{Q:F8×IF F8->F4->Prop}(X:K.In s.heap)(I:ObjM s.heap x dx C mA)(hg:PySem.W.plainGet K C name=true)
  (hf:PySem.W.findIn K (.ref C) name=some (↑f)) (ht:PySem.W.isFn K (.ref f)=true) (hv:mA name=none) (h:Q (.ref f,[.ref x]) s) :
  wpAny (model prog w) A (getMethod (.ref x) name pl) Q E s:=by
 obtain⟨od,J,hl⟩:=I.look;exact PySem.W.method_fn X J (PySem.W.plainGet_of hg).1 (PySem.W.plainGet_of hg).2 hf (C2.mp ht) (by show(PySem.W.lookIn name od).map (·.isSome)=some false;rw[hl,hv];rfl) h
theorem qV{ns:IF Str}{Q:Unit->F4->Prop}(X:K.In s.heap)(I:ObjM s.heap x dx C mA)
  (hs:PySem.W.findIn K (.ref C) "__setattr__" = some (some (.builtin "object.__setattr__"))) (hp:PySem.W.plainOver K C=true) (ht:PySem.W.takerIn K C name=some none) (hh:PySem.W.hasDictIn K C=true)
  (hw:PySem.Within mA ns) (hsz:ns.length<=sizeLine)
  (h:∀h',ObjM h' x dx C (λ y=>if y=name then some v else mA y)->Heap.SameBut dx s.heap h'->Q () { s with heap:=h',toks:=s.toks+2 }) :
  wpAny (model prog w) A (setAttr (.ref x) name v) Q E s:=by
 obtain⟨od,J,hl⟩:=I.look;apply PySem.W.set_plain X J hs (PySem.W.osa_open (s:={ s with toks:=s.toks+1 }) (r:=none) X J hp ht λ b=>?_);obtain⟨cd,hc,hd'⟩:=PySem.W.any_some hh;have hx:s.heap.get? x=some %[.ref C,some dx,.plain|#[]]:=I.obj;apply A0 (A1 (A0 (A0 (wpAny_loadPart hx (A0 (PySem.W.Looks.here (s:={ s with toks:=s.toks+1 }) (PySem.W.looks_clsIn X hc) ?_))))));rw[hd'];apply A1 (a:=some dx) (A0 (A1 (A0 ?_)));apply wpAny_nsSet1 (s:={ s with toks:=s.toks+1 }) I.ns λ h' hn2 hs2=>?_;obtain⟨oD,esD,epD,hoD,hdD,hcD⟩:=hn2.count (PySem.Within.cons name v hw);apply A0 (wpAny_lookBehind hoD (by rw[hdD];exact pastItsLine_dict (C4 hcD (by rw[List.length_cons];omega))) ?_);exact A1 (h _ %[(hs2.2 _ (Ne.symm I.ne)).trans I.obj,hn2|I.ne] hs2)
theorem oQ{R:Result->F4->Prop}{vs:IF F8}{kw:IF (Str×F8)}(X:K.In s.heap)(hm:PySem.W.makesIn K C=true)
  (hi:PySem.W.findIn K (.ref C) "__init__" = some (↑f)) (hf:PySem.W.typeIn K (.ref f)=some (.type "function"))
  (h:codeAny (model prog w) (A.under (.builtin "type.__call__" %[.ref C :: vs|kw])) (.call (.ref f) %[.ref (s.heap.objs.size+1) :: vs|kw]) (PySem.W.InitBack (s.heap.objs.size+1) R)
   { s with heap:=(s.heap.push PySem.W.emptyDict).push (PySem.W.instObj C s.heap.objs.size) }) :
  codeAny (model prog w) A (.call (.ref C) %[vs|kw]) R s:=by
 obtain⟨hh,g,d,t,os⟩:=s;exact PySem.W.make_core (PySem.W.makes_of X hm) (PySem.W.looks_findIn X hi) (λ self=>PySem.W.bind_fn X self hf) (.inl rfl) h
end
def cI(f:Str)(v:V):IF (Str×V)->IF (Str×V)
 | []=>[(f,v)]
 | (g,x) :: r=>if g=f then(g,v) :: r else(g,x) :: cI f v r
theorem bD(f g:Str)(v:V):∀fs:IF (Str×V),(cI f v fs).lookup g=if g=f then some v else fs.lookup g
 | []=>by
  show List.lookup g [(f,v)]=_
  by_cases h:g=f
  ·have hb:(g == f)=true:=C2.mpr h;simp only[List.lookup,hb,IP h]
  ·have hb:(g == f)=false:=beq_eq_false_iff_ne.mpr h;simp only[List.lookup,hb,IN h]
 | (k,x) :: r=>by
  have ih:=bD f g v r;rw[show cI f v ((k,x) :: r)=(if k=f then(k,v) :: r else(k,x) :: cI f v r)from rfl]
  by_cases hk:k=f
  ·rw[IP hk]
   by_cases h:g=k
   ·have hb:(g == k)=true:=C2.mpr h;simp only[List.lookup,hb,IP (h.trans hk)]
   ·have hb:(g == k)=false:=beq_eq_false_iff_ne.mpr h;simp only[List.lookup,hb,IN (λ e:g=f=>h (e.trans hk.symm))]
  ·rw[IN hk]
   by_cases h:g=k
   ·have hb:(g == k)=true:=C2.mpr h;simp only[List.lookup,hb,IN (λ e:g=f=>hk (h.symm.trans e))]
   ·have hb:(g == k)=false:=beq_eq_false_iff_ne.mpr h;simp only[List.lookup,hb];exact ih
theorem eV(f:Str)(v:V):∀fs:IF (Str×V),f∈(cI f v fs).map (·.1)/\∀g,g∈fs.map (·.1)->g∈(cI f v fs).map (·.1)
 | []=>%[by simp[cI]|λ g h=>by simp at h]
 | (k,x) :: r=>by
  obtain⟨i1,i2⟩:=eV f v r;rw[show cI f v ((k,x) :: r)=(if k=f then(k,v) :: r else(k,x) :: cI f v r)from rfl]
  by_cases hk:k=f
  ·rw[IP hk];subst hk;exact%[by simp|λ g h=>by simpa using h]
  ·rw[IN hk];apply%[?_|λ g h=>?_]
   ·rw[G9];exact B3 _ i1
   ·rw[G9]at h ⊢;rcases G0.mp h with e | e
    ·exact G0.mpr (.inl e)
    ·exact B3 _ (i2 g e)
theorem dv(f:Str)(v:V):∀fs:IF (Str×V),(cI f v fs).length<=fs.length+1
 | []=>by simp[cI]
 | (k,x) :: r=>by
  have ih:=dv f v r;rw[show cI f v ((k,x) :: r)=(if k=f then(k,v) :: r else(k,x) :: cI f v r)from rfl]
  by_cases hk:k=f
  ·rw[IP hk,G1,G1];omega
  ·rw[IN hk,G1,G1];omega
theorem RelO.some_of{v:V}{o:ID F8}(r:RelO (some v) o):∃u,o=some u/\RelV v u:=by
 cases o with
 | none=>exact(show False from r).elim
 | some u=>exact%[u,Z|r]
theorem RelO.none_of{o:ID F8}(r:RelO none o):o=none:=by
 cases o with
 | none=>rfl
 | some u=>exact(show False from r).elim
theorem mq{v:V}{u:F8}(r:RelV v u):PySem.W.handedIn u=true:=by
 cases v with
 | non=>cases(show u=Value.none from r);rfl
 | bl b=>cases(show u=Value.bool b from r);rfl
 | int i=>obtain⟨t,e⟩:=(show∃t,u=Value.int i t from r);cases e;rfl
 | str x=>obtain⟨t,e⟩:=(show∃t,u=Value.str x t from r);cases e;rfl
 | byt b=>obtain⟨t,e⟩:=(show∃t,u=Value.bytes b t from r);cases e;rfl
 | flt b=>obtain⟨t,e⟩:=(show∃t,u=Value.float b t from r);cases e;rfl
 | ref a=>cases(show u=Value.ref a from r);rfl
 | ty n=>cases(show u=Value.type n from r);rfl
section
variable{P:F5}{w:F7}{H H':Hp}{h h':Heap}{a C dx:IB}{fs fs':IF (Str×V)}
theorem el(hok:HOk P w H h)(e:H a=some (.ins C dx fs)):∃mA,ObjM h a dx C mA/\(∀f,RelO (fs.lookup f) (mA f))/\PySem.Within mA (fs.map (·.1))/\fs.length<=1000/\H dx=some (.own a):=by
 obtain⟨d,z,ne,ob,mA,n,r,q⟩:=(show ObjOk P w H h a (.ins C dx fs)from hok a _ e)
 exact%[mA,%[ob,n|ne],r,q,z|d]
end
structure Cls(K:C3)(C:IB):Prop where
 pg:PySem.W.plainGet K C Str.empty=true
 hd:PySem.W.hasDictIn K C=true
 po:PySem.W.plainOver K C=true
 sa:PySem.W.findIn K (.ref C) "__setattr__" = some (some (.builtin "object.__setattr__"))
theorem Cls.get{K:C3}{C:IB}(c:Cls K C)(f:Str):PySem.W.plainGet K C f=true:=c.pg
def NoAttr(K:C3)(C:IB)(f:Str):Prop:=PySem.W.findIn K (.ref C) f=some none
theorem NoAttr.taker{K:C3}{C:IB}{f:Str}(n:NoAttr K C f):PySem.W.takerIn K C f=some none:=by
 unfold PySem.W.takerIn;rw[show PySem.W.findIn K (.ref C) f=some none from n]
 rfl
structure Con(K:C3)(C:IB)(f:Str)(v:V)(u:Value):Prop where
 at_:PySem.W.findIn K (.ref C) f=some (some u)
 rel:RelV v u
 get:PySem.W.specialIn K u "__get__" = some none
 cp:PySem.W.copiedNames.contains f=false
structure Meth(K:C3)(C:IB)(m:Str)(f:IB):Prop where
 at_:PySem.W.findIn K (.ref C) m=some (↑f)
 fn:PySem.W.isFn K (.ref f)=true
 kp:PySem.W.keepIn K (.ref f)=true
section
variable{X:Cx}{IH:IF (IB×Obj)}{σ:St}{H:Hp}{s:F4}{a C dx:IB}{fs:IF (Str×V)}{f:Str}{v:V}{A:Around}{E:F8->F4->Prop}
theorem jM{b:Bool}{Q:F8->F4->Prop}(I:Inv X IH σ H s)(e:H a=some (.ins C dx fs))(c:Cls X.K C)(n:NoAttr X.K C f)(l:fs.lookup f=some v)
  (h:∀u s',Inv X IH σ H s'->RelV v u->Q u s'):wpAny (model X.prog X.w) A (getAttr (.ref a) f b) Q E s:=by
 obtain⟨mA,O,r,_,_,_⟩:=el I.hok e;obtain⟨u,hu,ru⟩:=RelO.some_of (v:=v) (o:=mA f) (by rw[<- l];exact r f);exact qU I.kIn O (c.get f) c.hd n hu (mq ru) (h u _ (I.tok _) ru)
theorem dY{m:Str}{g:IB}{pl:Sem Bool}{Q:F8×IF F8->F4->Prop}(I:Inv X IH σ H s)(e:H a=some (.ins C dx fs))(c:Cls X.K C)(k:Meth X.K C m g)(l:fs.lookup m=none)
  (h:Q (.ref g,[.ref a]) s):wpAny (model X.prog X.w) A (getMethod (.ref a) m pl) Q E s:=by
 obtain⟨mA,O,r,_,_,_⟩:=el I.hok e;have hn:mA m=none:=RelO.none_of (by rw[<- l];exact r m);exact oP I.kIn O (c.get m) k.at_ k.fn hn h
theorem jN{y:V}{u:F8}{Q:Unit->F4->Prop}(I:Inv X IH σ H s)(e:H a=some (.ins C dx fs))(c:Cls X.K C)(n:NoAttr X.K C f)(hl:fs.length < 1000)(ry:RelV y u)
  (h:∀s',Inv X IH σ (upd H a (.ins C dx (cI f y fs))) s'->Q () s'):wpAny (model X.prog X.w) A (setAttr (.ref a) f u) Q E s:=by
 obtain⟨mA,O,r,wi,_,ho⟩:=el I.hok e;have hz:(fs.map (·.1)).length<=sizeLine:=by rw[GZ,sizeLine_eq];omega
 apply qV I.kIn O c.sa c.po n.taker c.hd wi hz λ h' O' sb=>h _ ?_;have hd:∃o,h'.get? dx=some o:=let ⟨o,_,_,e',_⟩:=O'.ns;%[o|e']
 apply I.write (x:=a) (e:=dx) (by rw[e];exact True.intro) (.inr ho) (λ b q hb z=>(sb.2 b hb).trans z) hd ?_;apply%[by rw[aG O.ne];exact ho,?_,O.ne,O'.obj,_,O'.ns,λ g=>?_|λ g hg=>?_]
 ·have:=dv f y fs;omega
 ·show RelO ((cI f y fs).lookup g) (if g=f then some u else mA g);rw[bD]
  by_cases q:g=f
  ·rw[IP q,IP q];exact ry
  ·rw[IN q,IN q];exact r g
 ·by_cases q:g=f
  ·rw[q];exact(eV f y fs).1
  ·apply(eV f y fs).2 g (wi g λ z=>hg ?_);show(if g=f then some u else mA g)=none;rw[IN q];exact z
theorem Inv.made(I:Inv X IH σ H s):Inv X IH σ (upd (upd H s.heap.objs.size (.own (s.heap.objs.size+1))) (s.heap.objs.size+1) (.ins C s.heap.objs.size []))
  { s with heap:=(s.heap.push PySem.W.emptyDict).push (PySem.W.instObj C s.heap.objs.size) }:=by
 have e1:(s.heap.push PySem.W.emptyDict).get? s.heap.objs.size=some PySem.W.emptyDict:=A7 s.heap rfl;have e2:((s.heap.push PySem.W.emptyDict).push (PySem.W.instObj C s.heap.objs.size)).get? (s.heap.objs.size+1)=some (PySem.W.instObj C s.heap.objs.size):=by have:=A7 (s.heap.push PySem.W.emptyDict) (o:=PySem.W.instObj C s.heap.objs.size) rfl;rwa [Heap.size_push]at this
 have e3:(s.heap.push PySem.W.emptyDict).Ns s.heap.objs.size (λ _=>none):=%[PySem.W.emptyDict,#[],_,e1,Z,(λ e he=>absurd he (by simp))|λ _=>rfl]
 have I1:=I.laid (a:=s.heap.objs.size) (o:=.own (s.heap.objs.size+1)) (h':=s.heap.push PySem.W.emptyDict) (t':=s.toks) (λ b u q=>A6 _ q) (B2 _) %[_|e1];apply I1.laid (a:=s.heap.objs.size+1) (o:=.ins C s.heap.objs.size []) (t':=s.toks) (λ b u q=>A6 _ q) (Nat.le_of_eq (Heap.size_push _ _)) ?_;have ne:s.heap.objs.size≠s.heap.objs.size+1:=B8 (E8 _);apply%[by rw[aG ne,upd_same],E6 _,ne,e2,λ _=>none,(Heap.Ns1.of_empty e3).at λ o q=>A6 _ q,λ _=>True.intro|λ y hy=>absurd rfl hy]
theorem qW{prog:F5}{w:F7}{env:Env}{e:Expr}{f:Str}{pos:Pos}{s:F4}{Q:F8->F4->Prop}(hb:attributeBase e f env (eval e env)=eval e env)
  (h:wpAny (model prog w) A (eval e env) (λ o s₁=>wpAny (model prog w) A (getAttr o f true) Q E s₁) E s):wpAny (model prog w) A (eval (.Attribute e f pos) env) Q E s :=
 Attribute_any_ h (by rw[arm_eval_Attribute,hb])
end
def El(K:C3)(ta:TE)(f:Str):TE:=λ σ H Q=>ta σ H λ x H1=>∃a C dx fs v,x=.ref a/\H1 a=some (.ins C dx fs)/\Cls K C/\NoAttr K C f/\fs.lookup f=some v/\Q v H1
def wZ(K:C3)(ta tv:TE)(f:Str):TS:=λ D σ H=>tv σ H λ y H1=>ta σ H1 λ x H2=>∃a C dx fs,x=.ref a/\H2 a=some (.ins C dx fs)/\Cls K C/\NoAttr K C f/\fs.length < 1000 /\
 D.nx σ (upd H2 a (.ins C dx (cI f y fs)))
section
variable{X:Cx}{o e value:Expr}{f:Str}{pos pos' tpos:Pos}{ta tv:TE}
theorem ir(he:PE X e ta)(hb:attributeBase e f X.env (eval e X.env)=eval e X.env):PE X (.Attribute e f pos) (El X.K ta f):=by intro IH s σ H Q I h;apply qW hb (thn (he IH s σ H _ I h) λ u s1 %[x,H1,I1,rx,a,C,dx,fs,v,ex,ea,c,n,l|q]=>?_);subst ex;obtain rfl:u=Value.ref a:=rx;exact jM I1 ea c n l λ u' s2 I2 ru=>%[v,H1,I2,ru|q]
theorem oR(ha:PE X o ta)(hv:PE X value tv)(hs:swapsWith value (some (.Attribute o f pos')) pos.line X.env=pure false):PS X (.Assign [.Attribute o f pos'] value pos) (wZ X.K ta tv f):=by intro IH s σ H D I h;apply plainObj_wpAny_Assign_Attribute (thn (hv IH s σ H _ I h) λ u s1 %[y,H1,I1,ry|q]=>thn (ha IH s1 σ H1 _ I1 q) λ ov s2 %[x,H2,I2,rx,a,C,dx,fs,ex,ea,c,n,l|q2]=>?_) hs;subst ex;obtain rfl:ov=Value.ref a:=rx;exact jN I2 ea c n l ry λ s3 I3=>%[σ,_,I3|q2]
theorem tm{pl:Sem Bool}{m:Str}{apos:Pos}{args:IF Expr}{IH:IF (IB×Obj)}{s:F4}{σ:St}{H:Hp}{Q:F8->F4->Prop}{te:TE}(he:PE X e te)(I:Inv X IH σ H s)
  (h:te σ H λ x H1=>∃a C dx fs g,x=.ref a/\H1 a=some (.ins C dx fs)/\Cls X.K C/\Meth X.K C m g/\fs.lookup m=none /\
   ∀s1,Inv X IH σ H1 s1->wpAny (model X.prog X.w) X.A (callWith pos (.ref g) [.ref a] (backTo pos (starEach args X.env)) (backToKw pos (keywordEach [] X.env))) Q X.xe s1)
  (ht:eval (.Call (.Attribute e m apos) args [] pos) X.env=(do
   let ov<-eval e X.env
   standAt apos.atName
   let (f,first)<-holding [ov] (getMethod ov m pl)
   callWith pos f first (backTo pos (starEach args X.env)) (backToKw pos (keywordEach [] X.env)))) :
  wpAny (model X.prog X.w) X.A (eval (.Call (.Attribute e m apos) args [] pos) X.env) Q X.xe s:=by
 apply PySem.W.methodCall_KW (pl:=pl) (thn (he IH s σ H _ I h) λ u s1 %[x,H1,I1,rx,a,C,dx,fs,g,ex,ea,c,k,l|q]=>?_) ht;subst ex;obtain rfl:u=Value.ref a:=rx;exact dY I1 ea c k l (q s1 I1)
end
section
variable{X:Cx}{IH:IF (IB×Obj)}{σ:St}{H:Hp}{s:F4}{A:Around}{E Q:F8->F4->Prop}{c:F8}{b:Bool}
inductive TyOf(K:C3)(H:Hp):V->Value->Prop where
 | non:TyOf K H .non (.type "NoneType")
 | bl (x:Bool):TyOf K H (.bl x) (.type "bool")
 | int (i:Int):TyOf K H (.int i) (.type "int")
 | str (x:Str):TyOf K H (.str x) (.type "str")
 | flt (x:UInt64):TyOf K H (.flt x) (.type "float")
 | lst {a:IB} {xs:IF V} (e:H a=↥xs):TyOf K H (.ref a) (.type "list")
 | frz {a:IB} {o:Obj} {xs:IF V} (e:H a=some (.frz o (.lst xs))):TyOf K H (.ref a) (.type "list")
 | tup {a:IB} {xs:IF V} (e:H a= ~~~xs):TyOf K H (.ref a) (.type "tuple")
 | dK {a:IB} {kvs:IF (Key×V)} (e:H a=some (.dK kvs)):TyOf K H (.ref a) (.type "dict")
 | dT {a:IB} {kvs:IF (IF Key×V)} (e:H a=some (.dT kvs)):TyOf K H (.ref a) (.type "dict")
 | ext {a:IB} {φ:Heap->Prop} (e:H a=some (.ext φ)) (c:∀h,φ h->∃o,h.get? a=some o/\o.cls=.type "dict"):TyOf K H (.ref a) (.type "dict")
 | ins {a C dx:IB} {fs:IF (Str×V)} (e:H a=some (.ins C dx fs)) (cl:Cls K C) (ha:PySem.W.findIn K (.ref C) "__class__" = some (some (.builtin "object.__class__")))
   (hn:PySem.W.specialIn K (.builtin "object.__class__") "__get__" = some (some (.builtin "getset_descriptor.__get__"))) (htk:PySem.W.takesIn K (.builtin "object.__class__")=some true)
   (hm:PySem.W.mroIn K C (.type "object")=some true):TyOf K H (.ref a) (.ref C)
theorem mr{x:V}{u t:F8}(I:Inv X IH σ H s)(rx:RelV x u)(ty:TyOf X.K H x t)(e:PySem.W.kitOne X.K t c=some b)(h:∀tk,Q (.bool b) { s with toks:=tk }) :
  wpAny (model X.prog X.w) A (call (.builtin "isinstance") [u,c]) Q E s:=by
 cases ty with
 | non=>cases(show u=Value.none from rx);exact PySem.W.kia_one PySem.W.kitx_none I.kIn True.intro e (λ z=>nomatch z) h
 | bl y=>cases(show u=Value.bool y from rx);exact PySem.W.kia_one PySem.W.kitx_bool I.kIn True.intro e (λ z=>nomatch z) h
 | int i=>obtain⟨t,q⟩:=(show∃t,u=Value.int i t from rx);cases q;exact PySem.W.kia_one PySem.W.kitx_int I.kIn True.intro e (λ z=>nomatch z) h
 | str y=>obtain⟨t,q⟩:=(show∃t,u=Value.str y t from rx);cases q;exact PySem.W.kia_one PySem.W.kitx_str I.kIn True.intro e (λ z=>nomatch z) h
 | flt y=>obtain⟨t,q⟩:=(show∃t,u=Value.float y t from rx);cases q;exact PySem.W.kia_one PySem.W.kitx_float I.kIn True.intro e (λ z=>nomatch z) h
 | @lst a xs ea=>
  cases(show u=Value.ref a from rx);obtain⟨_,_,n,_,h1⟩:=(show ObjOk X.prog X.w H s.heap a (.lst xs)from I.hok a _ ea)
  exact PySem.W.kia_one PySem.W.kitx_list I.kIn %[_,h1|Z] e (λ z=>nomatch z) h
 | @frz a ob xs ea=>
  cases(show u=Value.ref a from rx);obtain⟨_,_,_,n,_,h1⟩:=(show ObjOk X.prog X.w H s.heap a (.frz ob (.lst xs))from I.hok a _ ea)
  exact PySem.W.kia_one PySem.W.kitx_list I.kIn %[_,h1|Z] e (λ z=>nomatch z) h
 | @tup a xs ea=>
  cases(show u=Value.ref a from rx);obtain⟨_,_,_,p⟩:=(show ObjOk X.prog X.w H s.heap a (.tup xs)from I.hok a _ ea)
  obtain⟨o,h1,h2,_⟩:=p;exact PySem.W.kia_one PySem.W.kitx_tuple I.kIn %[o,h1|h2] e (λ z=>nomatch z) h
 | @dK a kvs ea=>
  cases(show u=Value.ref a from rx);obtain⟨_,_,vs,_,p⟩:=(show ObjOk X.prog X.w H s.heap a (.dK kvs)from I.hok a _ ea)
  obtain⟨o,es,ep,h1,h2,_⟩:=p;exact PySem.W.kia_one PySem.W.kitx_dict I.kIn %[o,h1|h2.1] e (λ z=>nomatch z) h
 | @dT a kvs ea=>
  cases(show u=Value.ref a from rx);obtain⟨_,_,xs,_,o,es,ep,h1,h2,_⟩:=(show ObjOk X.prog X.w H s.heap a (.dT kvs)from I.hok a _ ea)
  exact PySem.W.kia_one PySem.W.kitx_dict I.kIn %[o,h1|h2.1] e (λ z=>nomatch z) h
 | @ext a φ ea c=>
  cases(show u=Value.ref a from rx);obtain⟨p,_,_⟩:=(show ObjOk X.prog X.w H s.heap a (.ext φ)from I.hok a _ ea)
  obtain⟨o,h1,h2⟩:=c _ p;exact PySem.W.kia_one PySem.W.kitx_dict I.kIn %[o,h1|h2] e (λ z=>nomatch z) h
 | @ins a C dx fs ea cl ha hn htk hm=>
  cases(show u=Value.ref a from rx);obtain⟨mA,O,_⟩:=el I.hok ea;obtain⟨od,J,_⟩:=O.look;exact PySem.W.kia_one (PySem.W.kitx_own (cl.get _) cl.hd ha hn htk hm) I.kIn J e (λ z=>nomatch z) h
end
structure Room(k:Nat)(A:Around):Prop where
 hd:A.handled=none
 dp:A.depth+3 * k+5 < recursionLimit
 un:A.units+16 * k+200 < cLine
 gd:A.guards=some []
theorem Room.mono{j k:Nat}{A:Around}(r:Room k A)(h:j<=k):Room j A:=%[r.hd,by have:=r.dp;omega,by have:=r.un;omega|r.gd]
theorem Room.deeper{k:Nat}{A:Around}(r:Room (k+1) A)(env:Env):Room k (A.deeper env) :=
 %[r.hd,by have:=r.dp;show A.depth+1+3 * k+5 < _;omega,by have:=r.un;show A.units+3+16 * k+200 < _;omega|r.gd]
theorem jO{A:Around}{C:IB}{us:IF F8}{kw:IF (Str×F8)}:(A.under (.builtin "type.__call__" %[.ref C :: us|kw])).depth=A.depth+1:=by first | rfl | simp[Around.under,Code.weight,Code.isCreation,Code.isGuard,Code.isCaller,Code.frames,Code.isFrame,guardIds]
theorem jP{A:Around}{C:IB}{us:IF F8}{kw:IF (Str×F8)}:(A.under (.builtin "type.__call__" %[.ref C :: us|kw])).units=A.units+1:=by first | rfl | simp[Around.under,Code.cUnits,Code.frames,Code.isFrame]
theorem jb{A:Around}{C:IB}{us:IF F8}{kw:IF (Str×F8)}:(A.under (.builtin "type.__call__" %[.ref C :: us|kw])).guards=A.guards:=by
 have e:Code.guards (.builtin "type.__call__" %[.ref C :: us|kw])=[]:=by
  have:(Code.builtin "type.__call__" %[.ref C :: us|kw]).isGuard=false:=by show guardIds.contains "type.__call__" = false;decide +kernel
  simp[Code.guards,this]
 unfold Around.under;dsimp only;rw[e]
 rfl
theorem Room.make{k:Nat}{A:Around}(r:Room (k+1) A)(C:IB)(us:IF F8)(kw:IF (Str×F8)):Room k (A.under (.builtin "type.__call__" %[.ref C :: us|kw])) :=
 %[r.hd,by have:=r.dp;rw[jO];omega,by have:=r.un;rw[jP];omega|by rw[jb];exact r.gd]
theorem Room.depth{k:Nat}{A:Around}(r:Room k A):A.depth < recursionLimit:=by have:=r.dp;omega
theorem Room.units{k:Nat}{A:Around}(r:Room k A):A.units+64 < cLine:=by have:=r.un;omega
def ms:TA:=λ _ H Q=>Q [] H
def lr(ta:TE)(tr:TA):TA:=λ σ H Q=>ta σ H λ x H1=>tr σ H1 λ xs H2=>Q (x :: xs) H2
section
variable{X:Cx}{e:Expr}{es:IF Expr}{te:TE}{t:TA}{pos:Pos}
theorem ad:PA X [] ms:=λ _ _ _ _ H Q I h=>Calls.spliced_nil %[[],H,I,.nil|h]
theorem aa(ha:PE X e te)(hr:PA X es t)(hs:starEach (e :: es) X.env=(false,eval e X.env) :: starEach es X.env:=by rfl):PA X (e :: es) (lr te t):=by intro pos IH s σ H Q I h;rw[hs];show wpAny _ _ (spliced ((false,eval e X.env) :: backTo pos (starEach es X.env))) _ _ s;apply Calls.spliced_cons (thn (ha IH s σ H _ I h) λ u s1 %[x,H1,I1,r1|q1]=>?_);exact thn (hr pos IH s1 σ H1 _ I1 q1) λ us s2 %[xs,H2,I2,r2|q2]=>%[x :: xs,H2,I2,.cons r1 r2|q2]
def Em(t:TA):TE:=λ σ H Q=>t σ H λ xs H1=>xs.length<=sizeLine/\∀p,H1 p=none->Q (.ref p) (upd H1 p (.tup xs))
def En(t:TA):TE:=λ σ H Q=>t σ H λ xs H1=>xs.length<=sizeLine/\∀p,H1 p=none->Q (.ref p) (upd H1 p (.lst xs))
theorem aL{x1}(h:PA X es t):PE X (.Tuple es x1 pos) (Em t):=by intro IH s σ H Q I hq;apply wpAny_Tuple_spliced (thn (h pos IH s σ H _ I hq) λ us s1 %[xs,H1,I1,r,z|q]=>%[by rw[<- r.length];exact z|?_]);have hf:H1 s1.heap.objs.size=none:=I1.hok.fresh (B2 _);apply%[.ref s1.heap.objs.size,upd H1 s1.heap.objs.size (.tup xs),I1.laid (t':=s1.toks) (λ b u e=>A6 _ e) (B2 _) ?_,Z|q _ hf];exact%[z,us,r|%[_,A7 _ rfl,Z,_|Z]]
theorem aS(h:PA X es t):PE X (.List es pos) (En t):=by intro IH s σ H Q I hq;apply wpAny_List_spliced (thn (h pos IH s σ H _ I hq) λ us s1 %[xs,H1,I1,r,z|q]=>%[by rw[<- r.length];exact z|?_]);have hf:H1 s1.heap.objs.size=none:=I1.hok.fresh (B2 _);apply%[.ref s1.heap.objs.size,upd H1 s1.heap.objs.size (.lst xs),I1.laid (t':=s1.toks) (λ b u e=>A6 _ e) (B2 _) ?_,Z|q _ hf];exact%[z,us,0,r|A7 _ rfl]
end
abbrev Sp:=IF V->Hp->VK->XK->Prop
abbrev CXT:=IF Env->Hp->F4->XK->F8->F4->Prop
structure Env0(P:Program)(w:World)(K:C3)(mg:Str->ID Value)(base:Heap)(A:Around)(outer:IF Env)(s:Shared)(H:Hp):Prop where
 frames:A.frames=some outer
 mod:Mod K mg base
 bs:∀b o,base.get? b=some o->s.heap.get? b=some o/\H b=none
 bsz:base.objs.size<=s.heap.objs.size
 funs:s.heap.FunFrames base outer
 frf:∀b∈frs outer,H b=none
 hok:HOk P w H s.heap
 bare:AllBare s.gens
def CE(outer:IF Env)(P:F5)(w:F7)(H:Hp)(s:F4)(Q:VK)(u:F8)(s':F4):Prop :=
 ∃v H',s'.os=s.os/\AllBare s'.gens/\Un (frs outer) [] H H' s.heap s'.heap/\HOk P w H' s'.heap/\RelV v u/\Q v H'
def CR(CX:CXT)(outer:IF Env)(P:F5)(w:F7)(H:Hp)(s:F4)(Q:VK)(E:XK)(r:Result)(s':F4):Prop :=
 match r with
 | .ok (.ret u)=>CE outer P w H s Q u s'
 | .ok _=>False
 | .error e=>CX outer H s E e s'
structure FnOk(P:Program)(w:World)(K:C3)(mg:Str->ID Value)(base:Heap)(CX:CXT)(k:Nat)(f:IB)(fd:FuncData)(ps:IF Str)(sp:Sp):Prop where
 len:∀vs H Q E,sp vs H Q E->vs.length=ps.length
 run:∀(A:Around)(outer:IF Env)(s:F4)(H:Hp)(args:Args)(us:IF F8)(vs:IF V)(Q:VK)(E:XK),Room k A->Env0 P w K mg base A outer s H->BindsTo s fd args (ps.zip us)->Vals vs us->sp vs H Q E ->
  codeAny (model P w) A (.call (.ref f) args) (CR CX outer P w H s Q E) s
theorem Env0.make{P:F5}{w:F7}{K:C3}{mg:Str->ID F8}{base:Heap}{A:Around}{outer:IF Env}{s:F4}{H:Hp}(e:Env0 P w K mg base A outer s H)(C:IB)(us:IF F8)(kw:IF (Str×F8)) :
  Env0 P w K mg base (A.under (.builtin "type.__call__" %[.ref C :: us|kw])) outer s H:=⟨by first | exact e.frames | (simpa[Around.under,Code.envs,Code.isFrame,pushEnvs]using e.frames),e.mod,e.bs,e.bsz,e.funs,e.frf,e.hok,e.bare⟩
section
variable{X:Cx}{IH:IF (IB×Obj)}{σ:St}{H:Hp}{s s':F4}
theorem Inv.env0(I:Inv X IH σ H s):Env0 X.prog X.w X.K X.mg X.base X.A X.stack s H :=
 %[I.ok.frames,I.ok.mod,I.bs,C4 I.ok.bsz I.sz,I.stack,I.stkFree,I.hok|I.bare]
theorem Inv.after{Q:VK}{u:F8}(I:Inv X IH σ H s)(h:CE X.stack X.prog X.w H s Q u s'):EP X IH σ Q u s':=by obtain⟨v,H',os,bare,un,hok,r,q⟩:=h;obtain⟨hh,g,d,t,os'⟩:=s';obtain rfl:os'=s.os:=os;exact%[v,H',I.call (h':=hh) (g':=g) (d':=d) (t':=t) (ch:=[]) un hok bare (λ b z=>absurd z (by simp)),r|q]
end
def tq(sp:Sp)(dvs:IF V)(E:XK)(t:TA):TE:=λ σ H Q=>t σ H λ vs H1=>sp (vs ++ dvs) H1 Q E
def lx(C:IB)(m:Str)(sp:Sp)(dvs:IF V)(E:XK)(ta:TE)(t:TA):TE:=λ σ H Q=>ta σ H λ x H1=>∃a dx fs,x=.ref a/\H1 a=some (.ins C dx fs)/\fs.lookup m=none /\
 t σ H1 λ vs H2=>sp (x :: (vs ++ dvs)) H2 Q E
def tw(C:IB)(sp:Sp)(dvs:IF V)(E:XK)(t:TA):TE:=λ σ H Q=>t σ H λ vs H1=>∀x dx,H1 x=none->H1 dx=none->dx≠x ->
 sp (.ref x :: (vs ++ dvs)) (upd (upd H1 dx (.own x)) x (.ins C dx [])) (λ v H2=>v=.non/\Q (.ref x) H2) E
def Binds(K:C3)(fd:F6)(ps:IF Str)(ds:IF F8):Prop :=
 ∀(s:F4)(us:IF F8),K.In s.heap->(us ++ ds).length=ps.length->BindsTo s fd %[us|[]] (ps.zip (us ++ ds))
theorem Binds.all{K:C3}{fd:F6}{ps:IF Str}(h:∀us:IF F8,us.length=ps.length->bindArgs fd %[us|[]]=pure (ps.zip us)):Binds K fd ps []:=λ s us _ hl=>by rw[HZ]at hl ⊢;exact .of_eq (h us hl)
def dZ(CX:CXT)(X:Cx)(E:XK):Prop:=∀(IH:IF (IB×Obj))(σ:St)(H:Hp)(s:F4)(e:F8)(s':F4),Inv X IH σ H s->CX X.stack H s E e s'->X.xe e s'
section
variable{X:Cx}{CX:CXT}{k:Nat}{f C:IB}{fd:F6}{ps:IF Str}{sp:Sp}{dvs:IF V}{ds:IF F8}{E:XK}{x m:Str}{p pos apos:Pos}{e o:Expr}{es:IF Expr}{ta:TE}{t:TA}
theorem jQ{IH:IF (IB×Obj)}{σ:St}{H:Hp}{s:F4}{Q:VK}{us:IF F8}{vs:IF V}(F:FnOk X.prog X.w X.K X.mg X.base CX k f fd ps sp)(hr:Room k X.A)(hb:Binds X.K fd ps ds)(hd:Vals dvs ds)(hx:dZ CX X E)
  (I:Inv X IH σ H s) (r:Vals vs us) (h:sp (vs ++ dvs) H Q E):wpAny (model X.prog X.w) X.A (call (.ref f) us) (EP X IH σ Q) X.xe s:=by
 have r2:Vals (vs ++ dvs) (us ++ ds):=r.append hd;have hl:(us ++ ds).length=ps.length:=by rw[<- r2.length];exact F.len _ _ _ _ h
 apply wpAny_call (codeAny_mono (F.run X.A X.stack s H %[us|[]] (us ++ ds) (vs ++ dvs) Q E hr I.env0 (hb s us I.kIn hl) r2 h) λ r s' hq=>?_);cases r with
 | error e=>exact hx IH σ H s e s' I hq
 | ok fl=>
  cases fl with
  | ret u=>exact I.after hq
  | next=>exact E5 hq
  | brk=>exact E5 hq
  | cont=>exact E5 hq
theorem qX(F:FnOk X.prog X.w X.K X.mg X.base CX k f fd ps sp)(hr:Room k X.A)(hg:Gl X x)(hm:X.mg x=↑f)(hk:PySem.W.keepIn X.K (.ref f)=true)(hb:Binds X.K fd ps ds)(hd:Vals dvs ds)(hx:dZ CX X E)
  (ha:PA X (e :: es) t) (hdb:(x == ("__debug__" : Str))=false:=by decide) (he:starEach (e :: es) X.env=(false,eval e X.env) :: starEach es X.env:=by rfl) (hpl:(backTo pos (starEach es X.env)).any (·.1)=false:=by rfl) :
  PE X (.Call (.Name x p) (e :: es) [] pos) (tq sp dvs E t):=by
 intro IH s σ H Q I h;apply wpAny_Call_Name_kw (ii I hg hm ?_ hdb);apply PySem.W.callWith_K (h₀:=X.base) I.ok.mod.kin hk (thn (ha pos IH s σ H _ I h) λ us s1 %[vs,H1,I1,r|q]=>%[I1.kIn|?_]) he hpl;exact jQ F hr hb hd hx I1 r q
theorem qY{pl:Sem Bool}(he:PE X o ta)(c:Cls X.K C)(hm:Meth X.K C m f)(F:FnOk X.prog X.w X.K X.mg X.base CX k f fd ps sp)(hr:Room k X.A)(hb:Binds X.K fd ps ds)(hd:Vals dvs ds)(hx:dZ CX X E)(ha:PA X (e :: es) t)
  (hst:starEach (e :: es) X.env=(false,eval e X.env) :: starEach es X.env:=by rfl) (hpl:(backTo pos (starEach es X.env)).any (·.1)=false:=by rfl)
  (ht:eval (.Call (.Attribute o m apos) (e :: es) [] pos) X.env=(do
   let ov<-eval o X.env
   standAt apos.atName
   let (f,first)<-holding [ov] (getMethod ov m pl)
   callWith pos f first (backTo pos (starEach (e :: es) X.env)) (backToKw pos (keywordEach [] X.env))):=by rfl) :
  PE X (.Call (.Attribute o m apos) (e :: es) [] pos) (lx C m sp dvs E ta t):=by
 intro IH s σ H Q I h;apply PySem.W.methodCall_KW (pl:=pl) (thn (he IH s σ H _ I h) λ u s1 %[x,H1,I1,rx,a,dx,fs,ex,ea,l|q]=>?_) ht;subst ex;obtain rfl:u=Value.ref a:=rx;apply dY I1 ea c hm l ?_;apply PySem.W.callWith_K (first:=[.ref a]) (h₀:=X.base) I.ok.mod.kin hm.kp (thn (ha pos IH s1 σ H1 _ I1 q) λ us s2 %[vs,H2,I2,r|q2]=>%[I2.kIn|?_]) hst hpl;exact jQ (us:=.ref a :: us) (vs:=.ref a :: vs) F hr hb hd hx I2 (.cons rfl r) q2
theorem oS{pl:Sem Bool}(he:PE X o ta)(c:Cls X.K C)(hm:Meth X.K C m f)(F:FnOk X.prog X.w X.K X.mg X.base CX k f fd ps sp)(hr:Room k X.A)(hb:Binds X.K fd ps ds)(hd:Vals dvs ds)(hx:dZ CX X E)
  (ht:eval (.Call (.Attribute o m apos) [] [] pos) X.env=(do
   let ov<-eval o X.env
   standAt apos.atName
   let (f,first)<-holding [ov] (getMethod ov m pl)
   callWith pos f first (backTo pos (starEach [] X.env)) (backToKw pos (keywordEach [] X.env))):=by rfl) :
  PE X (.Call (.Attribute o m apos) [] [] pos) (lx C m sp dvs E ta ms):=by
 intro IH s σ H Q I h;apply PySem.W.methodCall_KW (pl:=pl) (thn (he IH s σ H _ I h) λ u s1 %[x,H1,I1,rx,a,dx,fs,ex,ea,l|q]=>?_) ht;subst ex;obtain rfl:u=Value.ref a:=rx;apply dY I1 ea c hm l ?_;exact PySem.W.callWith_K0 (first:=[.ref a]) I1.kIn hm.kp (jQ (us:=[.ref a]) (vs:=[.ref a]) F hr hb hd hx I1 (.cons rfl .nil) q)
structure Mk(K:C3)(C f:IB):Prop where
 makes:PySem.W.makesIn K C=true
 init:PySem.W.findIn K (.ref C) "__init__" = some (↑f)
 fn:PySem.W.isFn K (.ref f)=true
 kp:PySem.W.keepIn K (.ref C)=true
theorem oT{IH:IF (IB×Obj)}{σ:St}{H:Hp}{s:F4}{Q:VK}{us:IF F8}{vs:IF V}(M:Mk X.K C f)(F:FnOk X.prog X.w X.K X.mg X.base CX k f fd ps sp)(hr:Room (k+1) X.A)(hb:Binds X.K fd ps ds)(hd:Vals dvs ds)
  (hx:dZ CX X E) (I:Inv X IH σ H s) (r:Vals vs us)
  (h:∀x dx,H x=none->H dx=none->dx≠x->sp (.ref x :: (vs ++ dvs)) (upd (upd H dx (.own x)) x (.ins C dx [])) (λ v H2=>v=.non/\Q (.ref x) H2) E) :
  wpAny (model X.prog X.w) X.A (call (.ref C) us) (EP X IH σ Q) X.xe s:=by
 have hq:=h (s.heap.objs.size+1) s.heap.objs.size (I.hok.fresh (Nat.le_succ _)) (I.hok.fresh (B2 _)) (B8 (E8 _));have I2:=Inv.made (C:=C) I;have r2:Vals (V.ref (s.heap.objs.size+1) :: (vs ++ dvs)) (Value.ref (s.heap.objs.size+1) :: (us ++ ds)):=.cons rfl (r.append hd);have hl:(Value.ref (s.heap.objs.size+1) :: us ++ ds).length=ps.length:=by have e:=r2.length;rw[F.len _ _ _ _ hq]at e;exact e.symm
 apply wpAny_call (oQ (f:=f) I.kIn M.makes M.init (C2.mp M.fn) (codeAny_mono (F.run _ X.stack _ _ %[Value.ref (s.heap.objs.size+1) :: us|[]] (Value.ref (s.heap.objs.size+1) :: (us ++ ds)) _ _ E (hr.make C us [])
  (I2.env0.make C us []) (hb _ (Value.ref (s.heap.objs.size+1) :: us) I2.kIn hl) r2 hq) λ r s' hq'=>?_))
 cases r with
 | error e=>exact hx IH σ _ _ e s' I2 hq'
 | ok fl=>
  cases fl with
  | ret u=>
   obtain⟨v,H',I3,rv,ev,q3⟩:=I2.after hq';subst ev;exact%[rv|%[V.ref (s.heap.objs.size+1),H',I3,Z|q3]]
  | next=>exact E5 hq'
  | brk=>exact E5 hq'
  | cont=>exact E5 hq'
theorem qZ(M:Mk X.K C f)(F:FnOk X.prog X.w X.K X.mg X.base CX k f fd ps sp)(hr:Room (k+1) X.A)(hg:Gl X x)(hm:X.mg x=↑C)(hb:Binds X.K fd ps ds)(hd:Vals dvs ds)(hx:dZ CX X E)
  (ha:PA X (e :: es) t) (hdb:(x == ("__debug__" : Str))=false:=by decide) (he:starEach (e :: es) X.env=(false,eval e X.env) :: starEach es X.env:=by rfl) (hpl:(backTo pos (starEach es X.env)).any (·.1)=false:=by rfl) :
  PE X (.Call (.Name x p) (e :: es) [] pos) (tw C sp dvs E t):=by
 intro IH s σ H Q I h;apply wpAny_Call_Name_kw (ii I hg hm ?_ hdb);apply PySem.W.callWith_K (h₀:=X.base) I.ok.mod.kin M.kp (thn (ha pos IH s σ H _ I h) λ us s1 %[vs,H1,I1,r|q]=>%[I1.kIn|?_]) he hpl;exact oT M F hr hb hd hx I1 r q
end
section
variable{X:Cx}{CX:CXT}{k:Nat}{f C:IB}{fd:F6}{ps ks:IF Str}{sp:Sp}{E:XK}{x m:Str}{p pos apos kpos:Pos}{e o:Expr}{es:IF Expr}{kws:IF Keyword}{te ta:TE}{t tk:TA}{nm:ID Str}
structure KBinds(K:C3)(fd:FuncData)(ps ks:IF Str)(g:IF Value->IF Value->IF Value)(gV:IF V->IF V->IF V):Prop where
 to:∀(s:F4)(us ws:IF F8),K.In s.heap->(g us ws).length=ps.length->BindsTo s fd %[us|ks.zip ws] (ps.zip (g us ws))
 rel:∀{vs:IF V}{us:IF F8}{zs:IF V}{ws:IF F8},Vals vs us->Vals zs ws->Vals (gV vs zs) (g us ws)
variable{g:IF F8->IF F8->IF F8}{gV:IF V->IF V->IF V}
end
structure FnScope(N P:IF Str)(sc:Scope):Prop where
 kind:sc.kind=.function
 co:sc.isCoroutine=false
 gen:sc.isGenerator=false
 nd:N.Nodup
 pre:N.take P.length=P
 par:∀x∈P,sc.names.lookup x=some .local\/sc.names.lookup x=some .cell
 nofree:∀y∈sc.names,y.2≠.free
theorem gS{kindOf:Str->ID NameKind}{x:Str}:∀{binds:IF (Str×F8)}{m:Str->ID F8},(∀v,(x,v)∉binds)->bindL kindOf binds m x=m x
 | [],_,_=>rfl
 | (n,v) :: r,m,h=>by
  unfold bindL;rw[gS λ w hw=>h w (B3 _ hw)]
  split
  ·have:x≠n:=by rintro rfl;exact h v B6
   simp[this]
  ·rfl
theorem gT{kindOf:Str->ID NameKind}{x:Str}:∀{binds:IF (Str×F8)}{m:Str->ID F8},(∀v,(x,v)∉binds)->bindC kindOf binds m x=m x
 | [],_,_=>rfl
 | (n,v) :: r,m,h=>by
  unfold bindC;rw[gT λ w hw=>h w (B3 _ hw)]
  split
  ·rfl
  ·have:x≠n:=by rintro rfl;exact h v B6
   simp[this]
theorem gU{kindOf:Str->ID NameKind}{x:Str}{v:F8}:∀{P:IF Str}{vs:IF F8}{i:Nat}{m:Str->ID F8},P.Nodup->P[i]?=some x->vs[i]?=some v->kindOf x=some .local ->
  bindL kindOf (P.zip vs) m x=some v
 | [],_,_,_,_,h,_,_=>by simp at h
 | _ :: _,[],_,_,_,_,h,_=>by simp at h
 | p :: P,w :: vs,0,m,nd,h1,h2,hk=>by simp at h1 h2;subst h1;subst h2;show bindL kindOf ((p,w) :: P.zip vs) m p=_;unfold bindL;rw[gS λ v hv=>(Hn.mp nd).1 (List.of_mem_zip hv).1,IP hk];simp
 | p :: P,w :: vs,i+1,m,nd,h1,h2,hk=>by show bindL kindOf ((p,w) :: P.zip vs) m x=_;unfold bindL;exact gU (i:=i) (Hn.mp nd).2 (by simpa using h1) (by simpa using h2) hk
theorem gW{kindOf:Str->ID NameKind}{x:Str}{v:F8}:∀{P:IF Str}{vs:IF F8}{i:Nat}{m:Str->ID F8},P.Nodup->P[i]?=some x->vs[i]?=some v->kindOf x≠some .local ->
  bindC kindOf (P.zip vs) m x=some v
 | [],_,_,_,_,h,_,_=>by simp at h
 | _ :: _,[],_,_,_,_,h,_=>by simp at h
 | p :: P,w :: vs,0,m,nd,h1,h2,hk=>by simp at h1 h2;subst h1;subst h2;show bindC kindOf ((p,w) :: P.zip vs) m p=_;unfold bindC;rw[gT λ v hv=>(Hn.mp nd).1 (List.of_mem_zip hv).1,IN hk];simp
 | p :: P,w :: vs,i+1,m,nd,h1,h2,hk=>by show bindC kindOf ((p,w) :: P.zip vs) m x=_;unfold bindC;exact gW (i:=i) (Hn.mp nd).2 (by simpa using h1) (by simpa using h2) hk
def start(N:IF Str)(vs:IF V):St:=vs.map some ++ List.replicate (N.length - vs.length) none
def mt(CX:CXT)(P:F5)(w:F7)(K:C3)(mg:Str->ID F8)(base:Heap)(N:IF Str)(qual:Str)(scope:Scope)(f:IB)(cd:F8)(A:Around)(outer:IF Env)(s:F4)(H:Hp)(E:XK):Cx where
 prog:=P
 w:=w
 K:=K
 mg:=mg
 base:=base
 A:=A.deeper (envOfC qual scope s.heap.objs.size f cd)
 N:=N
 s₀:=s
 H₀:=H
 env:=envOfC qual scope s.heap.objs.size f cd
 outer:=outer
 stack:=envOfC qual scope s.heap.objs.size f cd :: outer
 ex:=[]
 calm:=true
 fn:=λ _=>true
 pn:=[]
 xe:=λ e s'=>wpAny (model P w) (A.deeper (envOfC qual scope s.heap.objs.size f cd)) (leaving (envOfC qual scope s.heap.objs.size f cd) e) (λ _ s''=>CX outer H s E e s'') (λ e' s''=>CX outer H s E e' s'') s'
theorem jc{sc:Scope}{n:Nat}{x:Str}(h:sc.names.lookup x=some .cell):∃c,(cellsFrom n sc.names []).lookup x=some c:=by have q:=PySem.W.cellsFrom_some sc.names n [] (.inl h);exact Option.isSome_iff_exists.mp q
theorem mw{CX:CXT}{P:F5}{w:F7}{K:C3}{mg:Str->ID F8}{base:Heap}{N ps:IF Str}{qual:Str}{scope:Scope}{f:IB}{cd:F8}{A:Around}{outer:IF Env}{s s1:F4}{H:Hp}{E:XK}{us:IF F8}{vs:IF V}
  (S:FnScope N ps scope) (hd:A.handled=none) (e0:Env0 P w K mg base A outer s H) (hl:vs.length=ps.length) (r:Vals vs us)
  (x:InCallC s s.heap.objs.size (bindL (envOfC qual scope s.heap.objs.size f cd).kindOf (ps.zip us) λ _=>none) (cellsFrom (s.heap.objs.size+1) scope.names []) (bindC (envOfC qual scope s.heap.objs.size f cd).kindOf (ps.zip us) λ _=>none) s1) :
  Inv (mt CX P w K mg base N qual scope f cd A outer s H E) [] (start N vs) H s1:=by
 have hpl:ps.length<=N.length:=by have:=Ii List.length S.pre;rw[G5]at this;omega
 obtain⟨h1,tk,rfl,hk⟩:=x.done;have noA:∀b:IB,b∉(mt CX P w K mg base N qual scope f cd A outer s H E).ex:=λ b z=>absurd (show b∈([]:IF IB)from z) (by simp);apply⟨%[e0.mod,S.kind,Z,Z,B2 _,λ y z c h1 h2=>?_,λ y hy=>?_,λ y c _ h=>?_,λ _=>hd,Around.frames_deeper e0.frames,.inr %[Z|Z],λ b z=>absurd z (noA b),e0.bs,e0.bsz,λ b _ _=>noA b,λ b z=>absurd z (noA b),e0.funs|e0.frf],
  rfl,e0.bare,Un.kept hk,%[_,x.toInCall.ns|λ i y v h1 h2 h3=>?_],λ y c h=>%[_|x.cell y c h],e0.hok.fresh (B2 _),λ y c h=>?_,λ p hp=>absurd (show p∈([]:IF (IB×Obj))from hp) (by simp),e0.hok.kept hk,?_⟩
 ·exact name_of_addr x.apart (Ik h1) (Ik h2)
 ·have hy:scope.names.lookup y=some .cell\/scope.names.lookup y=some .free:=hy;rcases hy with hy | hy
  ·exact jc hy
  ·exact absurd rfl (S.nofree _ (Ik hy))
 ·exact C6 (x.above y c (Ik h))
 ·have hi:i < vs.length:=by
   unfold start at h2
   by_cases hi:i < vs.length
   ·exact hi
   ·rw[Hf (by simpa using hi)]at h2;rw[List.getElem?_replicate]at h2
    split at h2 <;> cases h2
  have ha:vs[i]?=some v:=by
   unfold start at h2;rw[List.getElem?_append_left (by simpa using hi),G6]at h2;cases e:vs[i]? with
   | none=>rw[e]at h2;cases h2
   | some a=>rw[e]at h2;cases h2;rfl
  obtain⟨u,hu,rv⟩:=r.get ha;have hp:ps[i]?=some y:=by rw[<- S.pre,Hj ⋯];exact h1
  have ndP:ps.Nodup:=by rw[<- S.pre];exact S.nd.sublist (List.take_sublist _ _)
  apply%[u,rv|?_];rcases S.par y (B4 hp)with k | k
  ·exact .inl %[k|gU ndP hp hu k]
  ·obtain⟨c,e⟩:=jc (n:=s.heap.objs.size+1) k;apply .inr %[.inl k,c,e|?_];have q:=x.cell y c e;rw[gW ndP hp hu (by show scope.names.lookup y≠_;rw[k];decide)]at q;exact q
 ·exact e0.hok.fresh (C6 (x.above y c (Ik h)))
 ·unfold start;show _=N.length;rw[G4,GZ,Hh];omega
theorem xa{CX:CXT}{P:F5}{w:F7}{K:C3}{mg:Str->ID F8}{base:Heap}{k:Nat}{f:IB}{name qual:Str}{params:Arguments}{body:IF Stmt}{scope:Scope}{dV kV doc pm cdv ct oc:F8}{an od:ID IB}
  {osl:IE (ID F8)} {N ps:IF Str} {sp:Sp} (lk:K.lookup f=some %[oc,od,.func (E4 name qual params body scope dV kV doc pm an cdv ct)|osl]) (hcd:PySem.W.codeIn K cdv qual=true) (S:FnScope N ps scope)
  (len:∀vs H Q E,sp vs H Q E->vs.length=ps.length)
  (hbody:∀(A:Around)(outer:IF Env)(s:F4)(H:Hp)(vs:IF V)(Q:VK)(E:XK),Room k (A.deeper (envOfC qual scope s.heap.objs.size f cdv))->sp vs H Q E ->
   ∃t,PSs (mt CX P w K mg base N qual scope f cdv A outer s H E) body t/\t { nx:=λ _ H'=>Q .non H',rt:=Q } (start N vs) H) :
  FnOk P w K mg base CX (k+1) f (E4 name qual params body scope dV kV doc pm an cdv ct) ps sp:=by
 apply%[len|λ A outer s H args us vs Q E hr e0 hb r hsp=>?_];have hl:=len _ _ _ _ hsp;have KX:K.In s.heap:=e0.mod.kin.keeps λ b o e=>(e0.bs b o e).1;have lim:s.heap.NoLimit:=e0.mod.nolimit.keeps λ b o e=>(e0.bs b o e).1;have hkind:∀y∈ps.zip us,scope.names.lookup y.1=some .local\/(scope.names.lookup y.1=some .cell/\((cellsFrom (s.heap.objs.size+1) scope.names []).lookup y.1).isSome=true):=λ⟨n,v⟩ hy=>by
  rcases S.par n (List.of_mem_zip hy).1 with q | q
  ·exact .inl q
  ·exact .inr %[q|PySem.W.cellsFrom_some _ _ _ (.inl q)]
 apply codeAny_call_function hr.depth (KX _ _ lk) rfl S.co S.gen rfl (PySem.W.codeRec_of KX hcd) (hb _ _ _ _ ?_);apply wpAny_newFunctionEnv_cells S.kind hkind λ env he s1 x=>?_;subst he;apply%[lim.keeps x.toInCall.keep|codeAny_func ?_];obtain⟨t,ht,hq⟩:=hbody A outer s H vs Q E (hr.deeper _) hsp;have I:Inv (mt CX P w K mg base N qual scope f cdv A outer s H E) [] (start N vs) H s1:=mw S hr.hd e0 hl r x;apply wpAny_mono (ht [] s1 (start N vs) H _ I hq) (λ fl s' hs=>?_) λ e s' hs=>hs;have fin:∀{σ':St}{H':Hp}{v:V}{u:F8},Inv (mt CX P w K mg base N qual scope f cdv A outer s H E) [] σ' H' s'->RelV v u->Q v H'->CE outer P w H s Q u s' :=
  λ {σ' H' v u} J rv q=>%[v,H',J.os,J.bare,J.base,J.hok,rv|q]
 cases fl with
 | ret u=>
  obtain⟨v,σ',H',J,rv,q⟩:=hs;exact fin J rv q
 | next=>
  obtain⟨σ',H',J,q⟩:=hs;exact fin (v:=V.non) (u:=Value.none) J rfl q
 | brk=>
  obtain⟨_,_,_,q⟩:=hs;exact E5 q
 | cont=>
  obtain⟨_,_,_,q⟩:=hs;exact E5 q
section
variable{X:Cx}{x:Str}{p pos:Pos}{e:Expr}{es:IF Expr}{t:TA}{id T:String}{r:IF V->Hp->VK->Prop}
def tCB(r:IF V->Hp->VK->Prop)(t:TA):TE:=λ σ H Q=>t σ H λ vs H1=>r vs H1 Q
theorem aA(hc:cn X (.builtin id) r)(hg:Gl X x)(hm:X.mg x=none)(hv:bootBuiltins x=some (.builtin id))(ha:PA X (e :: es) t)(hn:x ≠ "__name__" := by decide)(hdb:(x == ("__debug__" : Str))=false:=by decide)
  (he:starEach (e :: es) X.env=(false,eval e X.env) :: starEach es X.env:=by rfl) (hpl:(backTo pos (starEach es X.env)).any (·.1)=false:=by rfl):PE X (.Call (.Name x p) (e :: es) [] pos) (tCB r t):=by
 intro IH s σ H Q I h;apply wpAny_Call_Name_kw (dW I hg hm hv ?_ hn hdb);exact PyProof.Rows.callWith_builtin1 (thn (ha pos IH s σ H _ I h) λ us s1 %[vs,H1,I1,r1|q1]=>hc IH s1 σ H1 vs us Q I1 r1 q1) he hpl
theorem bf(hc:cn X (.type T) r)(hg:Gl X x)(hm:X.mg x=none)(hv:bootBuiltins x=some (.type T))(ha:PA X (e :: es) t)(hn:x ≠ "__name__" := by decide)(hdb:(x == ("__debug__" : Str))=false:=by decide)
  (he:starEach (e :: es) X.env=(false,eval e X.env) :: starEach es X.env:=by rfl) (hpl:(backTo pos (starEach es X.env)).any (·.1)=false:=by rfl):PE X (.Call (.Name x p) (e :: es) [] pos) (tCB r t):=by
 intro IH s σ H Q I h;apply wpAny_Call_Name_kw (dW I hg hm hv ?_ hn hdb);exact Ic (thn (ha pos IH s σ H _ I h) λ us s1 %[vs,H1,I1,r1|q1]=>hc IH s1 σ H1 vs us Q I1 r1 q1) he hpl
end
end L2
namespace HT
open PySem PyProof.Rows
section
variable{prog:F5}{w:F7}{A:Around}{E:F8->F4->Prop}{s:F4}
theorem cat_tup{t b:IB}{vs ws:IF F8}{Q:F8->F4->Prop}(ht:IsTup s.heap t vs.toArray)(hb:IsTup s.heap b ws.toArray)(hv:vs≠[])
  (h1:ws=[]->Q (.ref t) s) (h2:ws≠[]->Q (.ref s.heap.objs.size) { s with heap:=s.heap.push { cls:=.type "tuple",data:=.seq (vs ++ ws).toArray } })
  (hsz:vs.length+ws.length<=sizeLine):wpAny (model prog w) A (binaryOp .Add (.ref t) (.ref b)) Q E s:=by
 obtain⟨⟨cls,dd,data,sl⟩,ho,hc,n,hd⟩:=id ht;obtain⟨⟨cls2,dd2,data2,sl2⟩,ho2,hc2,n2,hd2⟩:=id hb;simp only at hc hd hc2 hd2;subst hc hd hc2 hd2;have e:vs.toArray ++ ws.toArray=(vs ++ ws).toArray:=by simp
 by_cases hw:ws=[]
 ·exact concat_meets %[_,ho|rfl] %[_,ho2|rfl] noFill_tuple_add seq_tuple_add PySem.F.slot_tuple_add PySem.F.entry_tuple_add (PySem.F.args_tuple_add_2 _ _)
   (tuple_addW1 t b vs.toArray ws.toArray n n2 dd dd2 sl sl2 (by simpa using hv) (by simp[hw])) %[ho,ho2|h1 hw]
 ·apply concat_meets %[_,ho|rfl] %[_,ho2|rfl] noFill_tuple_add seq_tuple_add PySem.F.slot_tuple_add PySem.F.entry_tuple_add (PySem.F.args_tuple_add_2 _ _)
   (tuple_addW2 t b vs.toArray ws.toArray n n2 dd dd2 sl sl2 (by simpa using hv) (by simpa using hw) (by rw[G2,G2];exact hsz)) %[ho,ho2|?_]
  rw[e];exact h2 hw
def sIx(n d:Nat):ID Int->Nat
 | none=>d
 | some v=>if v < 0 then(v+(n:Int)).toNat else min v.toNat n
theorem sIx_none(n d:Nat):sIx n d none=d:=rfl
theorem sIx_nat(n d k:Nat):sIx n d (some (k:Int))=min k n:=by show(if (k:Int) < 0 then((k:Int)+(n:Int)).toNat else min (k:Int).toNat n)=min k n;rw[IN ⋯,HN]
theorem uj(n d:Nat)(hd:d<=n)(o:ID Int):sIx n d o<=n:=by
 cases o with
 | none=>exact hd
 | some v=>
  show(if v < 0 then(v+(n:Int)).toNat else min v.toNat n)<=n
  by_cases hv:v < 0
  ·rw[IP hv];omega
  ·rw[IN hv];exact Nat.min_le_right _ _
theorem lz(v:Int)(n d:Nat):(if v < 0 then max (v+(n:Int)) 0 else min v (n:Int))=((sIx n d (some v):Nat):Int):=by
 show(if v < 0 then max (v+(n:Int)) 0 else min v (n:Int))=(((if v < 0 then(v+(n:Int)).toNat else min v.toNat n):Nat):Int)
 by_cases hv:v < 0
 ·simp only[IP hv];omega
 ·simp only[IN hv];omega
theorem jR(lo hi:ID Int)(n:Nat):Builtin.Slice.sliceAdjust lo hi 1 (n:Int)=(((sIx n 0 lo:Nat):Int),((sIx n n hi:Nat):Int)):=by
 have h1:¬ ((1:Int) < 0):=⋯
 unfold Builtin.Slice.sliceAdjust;simp only[h1,Io];apply Prod.ext ?_ ?_
 ·cases lo with
  | none=>rfl
  | some v=>exact lz v n 0
 ·cases hi with
  | none=>rfl
  | some v=>exact lz v n n
theorem jS(i j:Nat):Builtin.Slice.slicePlaces (i:Int) (j:Int) 1=j - i:=by
 unfold Builtin.Slice.slicePlaces;have h1:(1:Int) > 0:=⋯
 simp only[h1,if_true,Int.ediv_one]
 split <;> omega
theorem fT{v:F8}{o:ID Int}{Q:ID Int->F4->Prop}(p:IsPart v o)(h:Q o s):wpAny (model prog w) A (Builtin.Slice.slicePartIndex v) Q E s:=by
 cases p with
 | none=>exact slicePart_none h
 | int i t=>exact slicePart_int h
theorem eW{sl:IB}{vl vu:F8}{lo hi:ID Int}{n:Nat}{Q:Int×Int×Nat->F4->Prop}(hs:s.heap.IsSliceOf sl vl vu .none)(pl:IsPart vl lo)(pu:IsPart vu hi)
  (h:Q (((sIx n 0 lo:Nat):Int),1,sIx n n hi - sIx n 0 lo) s):wpAny (model prog w) A (Builtin.Slice.sliceApplied (.ref sl) (pure (n:Int))) Q E s:=by
 obtain⟨os,hos,hcs,hds⟩:=id hs;unfold Builtin.Slice.sliceApplied Builtin.Slice.sliceFields;apply A0 (A0 (Il hos hds (x:=vl) rfl (A0 (Il hos hds (x:=vu) rfl (A0 (Il hos hds (x:=.none) rfl (A1 ?_)))))));apply A0 (slicePart_none ?_);show wpAny _ _ (if ((1:Int) == 0)=true then _ else _) _ _ s;rw[IN ∅];apply A0 (fT pl (A0 (fT pu (A0 (A1 ?_)))));show wpAny _ _ (match Builtin.Slice.sliceAdjust lo hi 1 (n:Int)with | (lo,hi)=>pure (lo,(1:Int),Builtin.Slice.slicePlaces lo hi 1)) _ _ s;rw[jR lo hi n];show wpAny _ _ (pure (((sIx n 0 lo:Nat):Int),(1:Int),Builtin.Slice.slicePlaces ((sIx n 0 lo:Nat):Int) ((sIx n n hi:Nat):Int) 1)) _ _ s;rw[jS];exact A1 h
theorem oU(xs:IE F8)(i k:Nat):((List.range k).filterMap λ (m:Nat)=>xs[((i:Int)+(m:Int) * 1).toNat]?).toArray=((xs.toList.drop i).take k).toArray:=by
 have e:(λ (m:Nat)=>xs[((i:Int)+(m:Int) * 1).toNat]?)=λ m=>xs[i+m]? := by
  funext m
  have:((i:Int)+(m:Int) * 1).toNat=i+m:=⋯
  rw[this]
 rw[e];have:=pick_run xs i k;rw[List.filterMap_map]at this;have e2:((λ x=>xs[x]?)∘λ x=>i+x)=λ m=>xs[i+m]? := rfl;rw[e2]at this;rw[this]
theorem getItem_tuple_cut{t sl:IB}{items:IE F8}{vl vu:F8}{lo hi:ID Int}{Q:F8->F4->Prop}(ht:IsTup s.heap t items)(hs:s.heap.IsSliceOf sl vl vu .none)(pl:IsPart vl lo)(pu:IsPart vu hi)
  (hw:¬ (sIx items.size 0 lo=0/\sIx items.size items.size hi=items.size))
  (h:Q (.ref s.heap.objs.size) { s with heap:=s.heap.push { cls:=.type "tuple",data:=.seq ((items.toList.drop (sIx items.size 0 lo)).take (sIx items.size items.size hi - sIx items.size 0 lo)).toArray } })
  (hsz:items.size<=sizeLine):wpAny (model prog w) A (getItem (.ref t) (.ref sl)) Q E s:=by
 have htake:sizeOk (.seq ((items.toList.drop (sIx items.size 0 lo)).take (sIx items.size items.size hi - sIx items.size 0 lo)).toArray):=by show((items.toList.drop (sIx items.size 0 lo)).take (sIx items.size items.size hi - sIx items.size 0 lo)).toArray.size<=sizeLine;rw[G2,G5,HG,Hk];omega
 have hj:sIx items.size items.size hi<=items.size:=uj _ _ (B2 _) hi;obtain⟨os,hos,hcs,hds⟩:=id hs;have hTs:s.TypeIs (.ref sl) "slice" := %[os,hos|hcs]
 unfold getItem
 try with_reducible apply IX ?_
 first | apply A0 (A1 ?_) | skip
 apply A0 (wpAny_sequenceKey ht.typeIs ∅ ?_);apply A0 (wpAny_callSpecial?_slot (name:=Str.ofString "__getitem__") ht.typeIs PyProof.Rows.slot_tuple_getitem
  (F1 PyProof.Rows.slot_tuple_getitem ht.typeIs entry_tuple_getitem ?_ (args_tuple_getitem _ _)))
 show wpAny _ _ (Builtin.Tuple.tupleItemsOf (.ref t) >>= _) _ _ s;apply A0 (tupleItemsOf_ ht ?_);apply A0 (wpAny_typeOf hTs ?_);rw[IP ∅];apply A0 (eW hs pl pu ?_);have hno:¬ ((((sIx items.size 0 lo:Nat):Int) == 0 && (1:Int) == 1 && (sIx items.size items.size hi - sIx items.size 0 lo) == items.size)=true):=by intro q;rw[HX,HX]at q;have q1:((sIx items.size 0 lo:Nat):Int)=0:=eq_of_beq q.1.1;have q2:sIx items.size items.size hi - sIx items.size 0 lo=items.size:=eq_of_beq q.2;exact hw %[⋯|⋯]
 show wpAny _ _ (if (((sIx items.size 0 lo:Nat):Int) == 0 && (1:Int) == 1 && (sIx items.size items.size hi - sIx items.size 0 lo) == items.size)=true then _ else _) _ _ s;rw[IN hno,oU]
 first
  | exact A0 (m:=Builtin.Tuple.tupleExact _) (F2 (A1 ⟨_,rfl,A1 h⟩) htake)
  | exact A0 (m:=Builtin.Tuple.tupleExact _) (F2 (A0 (A1 (A1 ⟨_,rfl,A1 h⟩))) htake)
  | exact A0 (A0 (m:=Builtin.Tuple.tupleExact _) (F2 (A1 (A1 ⟨_,rfl,A1 h⟩)) htake))
  | exact A0 (A0 (m:=Builtin.Tuple.tupleExact _) (F2 (A1 ⟨_,rfl,A1 h⟩) htake))
end
end HT
namespace L2
open PySem PySem.Spec PyProof.Rows
abbrev TO:=St->Hp->(ID Int->Hp->Prop)->Prop
def PO(X:Cx)(e:ID Expr)(t:TO):Prop :=
 ∀(IH:IF (IB×Obj))(s:F4)(σ:St)(H:Hp)(Q:ID Int->Hp->Prop),Inv X IH σ H s->t σ H Q ->
  wpAny (model X.prog X.w) X.A (evalPart e X.env) (λ u s'=>∃o H',Inv X IH σ H' s'/\IsPart u o/\Q o H') X.xe s
def re:TO:=λ _ H Q=>Q none H
def xb(t:TE):TO:=λ σ H Q=>t σ H λ x H1=>∃i,x=.int i/\Q (some i) H1
section
variable{X:Cx}{e:Expr}{te:TE}{lo hi:ID Expr}{tl th:TO}{pos p2:Pos}
theorem ez:PO X none re:=by intro IH s σ H Q I h;rw[evalPart_none];exact A1 %[none,H,I,.none|h]
theorem cX(h:PE X e te):PO X (some e) (xb te):=by intro IH s σ H Q I hw;rw[evalPart_some];apply thn (h IH s σ H _ I hw) λ u s1 %[x,H1,I1,r1|q1]=>?_;obtain⟨i,rfl,q⟩:=q1;obtain⟨t,rfl⟩:=r1;exact%[some i,H1,I1,.int i t|q]
def SlR(X:Cx)(r:V->ID Int->ID Int->Hp->VK->Prop):Prop :=
 ∀(IH:IF (IB×Obj))(s:F4)(σ:St)(H:Hp)(x:V)(v vl vu:F8)(lo hi:ID Int)(sl:IB)(Q:VK),Inv X IH σ H s->RelV x v->s.heap.IsSliceOf sl vl vu .none->IsPart vl lo->IsPart vu hi->r x lo hi H Q ->
  ∃T id,typeLookup (.type T) "__getitem__" = pure (some (.builtin id))/\s.TypeIs v T/\wpAny (model X.prog X.w) X.A (getItem v (.ref sl)) (EP X IH σ Q) X.xe s
def tSl(r:V->ID Int->ID Int->Hp->VK->Prop)(te:TE)(tl th:TO):TE:=λ σ H Q=>te σ H λ x H1=>tl σ H1 λ l H2=>th σ H2 λ u H3=>r x l u H3 Q
theorem cR{r:V->ID Int->ID Int->Hp->VK->Prop}(hr:SlR X r)(he:PE X e te)(hl:PO X lo tl)(hu:PO X hi th):PE X (.Subscript e (.Slice lo hi none p2) pos) (tSl r te tl th):=by intro IH s σ H Q I h;apply Subscript_ (thn (he IH s σ H _ I h) λ v s1 %[x,H1,I1,r1|q1]=>?_);apply wpAny_Slice (thn (hl IH s1 σ H1 _ I1 q1) λ vl s2 %[l,H2,I2,pl|q2]=>thn (hu IH s2 σ H2 _ I2 q2) λ vu s3 %[u,H3,I3,pu|q3]=>?_);rw[evalPart_none];apply A1 ?_;have I4:Inv X IH σ H3 { s3 with heap:=s3.heap.push { cls:=.type "slice",data:=.fields #[vl,vu,.none] } }:=I3.kept (t':=s3.toks) λ b ob q=>A6 _ q;obtain⟨T,id,hT,ht,hg⟩:=hr IH { s3 with heap:=s3.heap.push { cls:=.type "slice",data:=.fields #[vl,vu,.none] } } σ H3 x v vl vu l u s3.heap.objs.size Q I4 r1 (Heap.IsSliceOf.new ..) pl pu q3;show wpAny (model X.prog X.w) X.A (subscriptTail e (.Slice lo hi none p2) v (.ref s3.heap.objs.size)) (EP X IH σ Q) X.xe { s3 with heap:=s3.heap.push { cls:=.type "slice",data:=.fields #[vl,vu,.none] } };exact tail_any (ops:=[.ref s3.heap.objs.size,v]) ht hT hg (by with_unfolding_all rfl)
def cr(xs:IF V)(lo hi:ID Int):IF V:=(xs.drop (HT.sIx xs.length 0 lo)).take (HT.sIx xs.length xs.length hi - HT.sIx xs.length 0 lo)
theorem fj(xs:IF V)(lo hi:ID Int):(cr xs lo hi).length<=xs.length:=by unfold cr;rw[G5,HG];omega
def Eo(K:C3):V->ID Int->ID Int->Hp->VK->Prop:=λ x lo hi H Q=>∃a xs,x=.ref a/\SqT K H a xs /\
 ¬ (HT.sIx xs.length 0 lo=0/\HT.sIx xs.length xs.length hi=xs.length)/\∀p,H p=none->Q (.ref p) (upd H p (.tup (cr xs lo hi)))
theorem oV:SlR X (Eo X.K):=by
 intro IH s σ H x v vl vu lo hi sl Q I rx hs pl pu h;obtain⟨a,xs,rfl,hx,hw,q⟩:=h;cases rx;obtain⟨its,r,ht,hz⟩:=I.tuple hx;have IJ:its.toArray.size=xs.length:=by rw[G2];exact r.length.symm
 apply%["tuple",_,PyProof.Rows.slot_tuple_getitem.lookup,ht.typeIs|?_];apply HT.getItem_tuple_cut ht hs pl pu (by rw[IJ];exact hw) ?_ (by rw[IJ];exact hz);rw[IJ];apply%[.ref s.heap.objs.size,_,I.laid (t':=s.toks) (o:=.tup (cr xs lo hi)) (λ b ob q=>A6 _ q) (B2 _) ?_,Z|q _ (I.hok.fresh (B2 _))];exact%[C4 (fj xs lo hi) hz,_,(r.drop (HT.sIx xs.length 0 lo)).take (HT.sIx xs.length xs.length hi - HT.sIx xs.length 0 lo)|IsTup.new _ _]
def xc(K:C3):R2:=λ x y H Q=>∃a b xs ys,x=.ref a/\y=.ref b/\SqT K H a xs/\SqT K H b ys/\xs≠[]/\xs.length+ys.length<=sizeLine /\
 (ys=[]->Q (.ref a) H)/\(ys≠[]->∀p,H p=none->Q (.ref p) (upd H p (.tup (xs ++ ys))))
theorem Vals.nil_iff{xs:IF V}{us:IF F8}(r:Vals xs us):us=[]↔xs=[]:=by
 cases r with
 | nil=>simp
 | cons _ _=>simp
theorem rf:OpR X (binaryOp .Add) (xc X.K):=by intro IH s σ H x y v u Q I rx ry h;obtain⟨a,b,xs,ys,rfl,rfl,ha,hb,hx,hz,q1,q2⟩:=h;cases rx;cases ry;obtain⟨its,r1,p1,_⟩:=I.tuple ha;obtain⟨its2,r2,p2,_⟩:=I.tuple hb;apply HT.cat_tup p1 p2 (λ z=>hx (r1.nil_iff.mp z)) (λ z=>%[.ref a,H,I,Z|q1 (r2.nil_iff.mp z)]) (λ z=>?_) (by rw[<- r1.length,<- r2.length];exact hz);apply%[.ref s.heap.objs.size,_,I.laid (t':=s.toks) (o:=.tup (xs ++ ys)) (λ b ob q=>A6 _ q) (B2 _) ?_,Z|q2 (λ w=>z (r2.nil_iff.mpr w)) _ (I.hok.fresh (B2 _))];exact%[by rw[G4];exact hz,_,r1.append r2|IsTup.new _ _]
inductive rz_call_tupleT(K:C3)(xs:IF V)(H:Hp)(Q:VK):Prop
|mk(a ys:_)(_:xs=[.ref a])(_:SqT K H a ys)(_:Q (.ref a) H)
end
def ixN(n:Nat)(i:Int):ID Nat:=if 0<=i then(if i < n then some i.toNat else none)else if -(n:Int)<=i then some (i+n).toNat else none
def atI{α:Type}(xs:IF α)(i:Int):ID α:=(ixN xs.length i).bind λ j=>xs[j]?
theorem lA{n:Nat}{i:Int}{j:Nat}(h:ixN n i=some j):seqIndex? i n=some j/\j < n/\-(n:Int)<=i/\i < n:=by
 unfold ixN at h
 by_cases h0:0<=i
 ·rw[IP h0]at h
  by_cases h1:i < n
  ·rw[IP h1]at h;have e:i.toNat=j:=B7 h;exact%[by rw[seqIndex_of h0 h1,e],⋯,⋯|h1]
  ·rw[IN h1]at h;cases h
 ·rw[IN h0]at h
  by_cases h1:-(n:Int)<=i
  ·rw[IP h1]at h;have e:(i+n).toNat=j:=B7 h;exact%[by rw[seqIndex_neg ⋯ h1,e],⋯,h1|⋯]
  ·rw[IN h1]at h;cases h
theorem iu{α:Type}{xs:IF α}{i:Int}{v:α}(h:atI xs i=some v):∃j,seqIndex? i xs.length=some j/\xs[j]?=some v/\j < xs.length/\-(xs.length:Int)<=i/\i < xs.length:=by
 unfold atI at h;cases e:ixN xs.length i with
 | none=>rw[e]at h;cases h
 | some j=>
  rw[e]at h;obtain⟨h1,h2,h3,h4⟩:=lA e;exact%[j,h1,h,h2,h3|h4]
theorem rg{α:Type}{xs:IF α}{j:Nat}{v:α}(h:xs[j]?=some v):atI xs (j:Int)=some v:=by
 have hj:j < xs.length:=(A5.mp h).1;have e:ixN xs.length (j:Int)=some j:=by unfold ixN;rw[IP ⋯,IP ⋯];simp
 unfold atI;rw[e];exact h
def rh(b:Expr):Prop:=∀o i,subscripted b false o i=operate [o,i] (getItem o i)
def IxR(X:Cx)(r:R2):Prop :=
 ∀(value slice:Expr)(IH:IF (IB×Obj))(s:F4)(σ:St)(H:Hp)(x y:V)(v u:F8)(Q:VK),Inv X IH σ H s->RelV x v->RelV y u->r x y H Q ->
  subscripted slice false v u=operate [v,u] (getItem v u)->wpAny (model X.prog X.w) X.A (subscriptTail value slice v u) (EP X IH σ Q) X.xe s
def MtR(X:Cx)(id:String)(r:V->IF V->Hp->VK->Prop):Prop :=
 ∀(IH:IF (IB×Obj))(s:F4)(σ:St)(H:Hp)(x:V)(xs:IF V)(v:F8)(us:IF F8)(Q:VK),Inv X IH σ H s->RelV x v->Vals xs us->r x xs H Q ->
  wpAny (model X.prog X.w) X.A (call (.builtin id) (v :: us)) (EP X IH σ Q) X.xe s
section
variable{X:Cx}{a b:Expr}{ta tb:TE}{pos:Pos}
theorem IxR.or{r r':R2}(h:IxR X r)(h':IxR X r'):IxR X (λ x y H Q=>r x y H Q\/r' x y H Q):=by
 intro value slice IH s σ H x y v u Q I rx ry q hs;rcases q with q | q
 ·exact h value slice IH s σ H x y v u Q I rx ry q hs
 ·exact h' value slice IH s σ H x y v u Q I rx ry q hs
theorem ar{r:R2}(hr:IxR X r)(ha:PE X a ta)(hb:PE X b tb)(hs:rh b):PE X (.Subscript a b pos) (tOp r ta tb):=by intro IH s σ H Q I h;exact Subscript_ (tY ha hb I h λ v u s2 x y H2 I2 rx ry q=>hr a b IH s2 σ H2 x y v u Q I2 rx ry q (hs _ _))
inductive rIxL(K:C3)(x:V)(y:V)(H:Hp)(Q:VK):Prop
|mk(p:IB)(xs:IF V)(i:Int)(v:V)(_:x=.ref p)(_:y=.int i)(_:SqL K H p xs)(_:atI xs i=some v)(_:Q v H)
inductive rIxT(K:C3)(x:V)(y:V)(H:Hp)(Q:VK):Prop
|mk(p:IB)(xs:IF V)(i:Int)(v:V)(_:x=.ref p)(_:y=.int i)(_:SqT K H p xs)(_:atI xs i=some v)(_:Q v H)
def xf:R2:=λ x y H Q=>∃z i c,x=.str z/\y=.int i/\z.length<=sizeLine/\atI z.cps.toList i=some c/\Q (.str %[|#[c]]) H
theorem ix_list:IxR X (rIxL X.K):=by
 intro value slice IH s σ H x y v u Q I rx ry h hs;obtain⟨p,xs,i,z,rfl,rfl,hq,he,q⟩:=h;cases rx;obtain⟨t,rfl⟩:=ry;obtain⟨its,r,pl,hz⟩:=I.list hq;obtain⟨j,h1,h2,h3,h4,h5⟩:=iu he;obtain⟨w,ew,rw'⟩:=r.get h2;have hl:=r.length;have hn:=eU;have fin:EP X IH σ Q w s:=%[z,H,I,rw'|q]
 by_cases h0:0<=i
 ·have hj:i.toNat=j:=by rw[seqIndex_of h0 h5]at h1;exact B7 h1
  exact item_listR pl.isList h0 ⋯ (by rw[hj];simpa using ew) fin hs
 ·have hj:(i+(its.toArray.size:Int)).toNat=j:=by rw[seqIndex_neg ⋯ h4]at h1;rw[G2,<- hl];exact B7 h1
  exact subscriptTail_builtinR (x:=w) pl.isList.typeIs slot_list_getitem.lookup
   (wpAny_getItem_list_neg (Q:=λ r s'=>r=w/\EP X IH σ Q r s') pl.isList ⋯ (by rw[G2] <;> omega) ⋯ (by rw[hj];simpa using ew) %[rfl|fin]) hs
theorem ix_tup:IxR X (rIxT X.K):=by
 intro value slice IH s σ H x y v u Q I rx ry h hs;obtain⟨p,xs,i,z,rfl,rfl,hq,he,q⟩:=h;cases rx;obtain⟨t,rfl⟩:=ry;obtain⟨its,r,pl,hz⟩:=I.tuple hq;obtain⟨j,h1,h2,h3,h4,h5⟩:=iu he;obtain⟨w,ew,rw'⟩:=r.get h2;have hl:=r.length;have hn:=eU;have fin:EP X IH σ Q w s:=%[z,H,I,rw'|q]
 exact subscriptTail_builtinR (x:=w) pl.typeIs slot_tuple_getitem.lookup
  (getItem_tuple (j:=j) (Q:=λ r s'=>r=w/\EP X IH σ Q r s') pl ⋯ ⋯ (by rw[G2,<- hl];exact h1) (by simpa using ew) %[rfl|fin]) hs
theorem uk:IxR X xf:=by
 intro value slice IH s σ H x y v u Q I rx ry h hs;obtain⟨z,i,c,rfl,rfl,hz,he,q⟩:=h;obtain⟨t,rfl⟩:=rx;obtain⟨t',rfl⟩:=ry;obtain⟨j,h1,h2,h3,h4,h5⟩:=iu he;have hl:z.cps.toList.length=z.length:=by simp[Str.length]
 rw[hl]at h1 h4 h5;have hn:=eU;exact tail_any (typeIs_str s z t) slot_str_getitem.lookup (getItem_str (c:=c) (by
  have e1:decide (i < -(2 ^ 63:Int))=false:=B0 ⋯;have e2:decide (i≥2 ^ 63)=false:=B0 ⋯;rw[e1,e2,Bool.or_false]) (by rw[h1];simpa using h2) %[.str %[|#[c]],H,I.tok _,%[_|rfl]|q]) hs
def rIx(K:C3):R2:=λ x y H Q=>rIxL K x y H Q\/rIxT K x y H Q\/xf x y H Q
theorem cM:IxR X (rIx X.K):=ix_list.or (ix_tup.or uk)
theorem jT(its:IF F8)(n j:Nat)(u:F8):Obj.mapSeq (·.setIfInBounds j u) { cls:=.type "list",data:=.seq its.toArray n }={ cls:=.type "list",data:=.seq (its.set j u).toArray n }:=by simp[Obj.mapSeq]
theorem Inv.lst{IH:IF (IB×Obj)}{σ:St}{H:Hp}{s:F4}{p:IB}{xs:IF V}(I:Inv X IH σ H s)(h:H p=↥xs) :
  ∃(its:IF F8)(n:Nat),Vals xs its/\s.heap.get? p=some { cls:=.type "list",data:=.seq its.toArray n }/\xs.length<=sizeLine:=by
 obtain⟨z,its,n,r,e⟩:=I.hok p _ h;exact%[its,n,r,e|z]
theorem Inv.lstUpd{IH:IF (IB×Obj)}{σ:St}{H:Hp}{s:F4}{p:IB}{xs ys:IF V}{its its':IF F8}{n n':Nat}{f:Obj->Obj}(I:Inv X IH σ H s)(h:H p=↥xs)
  (ho:s.heap.get? p=some { cls:=.type "list",data:=.seq its.toArray n }) (hf:f { cls:=.type "list",data:=.seq its.toArray n }={ cls:=.type "list",data:=.seq its'.toArray n' }) (r:Vals ys its') (hz:ys.length<=sizeLine) (t:Nat) :
  Inv X IH σ (upd H p (.lst ys)) { s with heap:=s.heap.update p f,toks:=t }:=by
 have e:(s.heap.update p f).get? p=some { cls:=.type "list",data:=.seq its'.toArray n' }:=by rw[Heap.get?_update_self f ho (by rw[hf] <;> rfl),hf]
 apply I.write (x:=p) (e:=p) (by rw[h];trivial) (.inl rfl) (λ b u hb q=>(Heap.get?_update_other _ _ (Ne.symm hb)).trans q) %[_|e] ?_;exact%[hz,its',n',r|e]
inductive rSetL(o:V)(i:V)(v:V)(H:Hp)(Q:Hp->Prop):Prop
|mk(p:IB)(xs:IF V)(k:Int)(j:Nat)(_:o=.ref p)(_:i=.int k)(_:H p=↥xs)(_:ixN xs.length k=some j)(_:Q (upd H p (.lst (xs.set j v))))
theorem jd:wQ X rSetL:=by
 intro IH s σ H o i v ov iv u Q I ro ri rv h;obtain⟨p,xs,k,j,rfl,rfl,hp,hj,q⟩:=h;cases ro;obtain⟨t,rfl⟩:=ri;obtain⟨its,n,r,ho,hz⟩:=I.lst hp;obtain⟨h1,h2,h3,h4⟩:=lA hj;have hl:=r.length;have hn:=eU;have I':Inv X IH σ (upd H p (.lst (xs.set j v))) { s with heap:=s.heap.update p (Obj.mapSeq (·.setIfInBounds j u)) } :=
  I.lstUpd hp ho (jT its n j u) (r.set rv j) (by rw[List.length_set];exact hz) s.toks
 by_cases h0:0<=k
 ·have hk:k.toNat=j:=by rw[seqIndex_of h0 h4]at h1;exact B7 h1
  exact PySem.W.ki_setAt ho h0 ⋯ (by rw[G2,<- hl];exact h4) (by rw[hk];exact%[_,I'|q])
 ·have hk:(k+(its.toArray.size:Int)).toNat=j:=by rw[seqIndex_neg ⋯ h3]at h1;rw[G2,<- hl];exact B7 h1
  exact PySem.W.ki_setBack ho ⋯ (by rw[G2,<- hl];exact h3) ⋯ (by rw[hk];exact%[_,I'|q])
theorem iw(lo hi:ID Int)(n:Nat):(sliceBounds lo hi none n).1=((HT.sIx n 0 lo:Nat):Int)/\(sliceBounds lo hi none n).2.1=((HT.sIx n n hi:Nat):Int)/\(sliceBounds lo hi none n).2.2=1:=by
 apply%[?_,?_|Z]
 ·cases lo with
  | none=>simp[sliceBounds,HT.sIx]
  | some i=>
   simp only[sliceBounds,HT.sIx,Option.getD_none,show(1:Int) > 0 by decide,if_true]
   by_cases h:i < 0
   ·simp only[h,if_true] <;> omega
   ·simp only[h,Io] <;> omega
 ·cases hi with
  | none=>simp[sliceBounds,HT.sIx]
  | some i=>
   simp only[sliceBounds,HT.sIx,Option.getD_none,show(1:Int) > 0 by decide,if_true]
   by_cases h:i < 0
   ·simp only[h,if_true] <;> omega
   ·simp only[h,Io] <;> omega
theorem gL(its:IF F8)(lo hi:ID Int):slicePick its.toArray lo hi none=((its.drop (HT.sIx its.length 0 lo)).take (HT.sIx its.length its.length hi - HT.sIx its.length 0 lo)).toArray:=by obtain⟨h1,h2,h3⟩:=iw lo hi its.toArray.size;unfold slicePick;rw[h1,h2,h3];simp only[sliceRange_one,pick_run,G2] <;> rfl
inductive rSlL(K:C3)(x:V)(lo:ID Int)(hi:ID Int)(H:Hp)(Q:VK):Prop
|mk(a:IB)(xs:IF V)(_:x=.ref a)(_:SqL K H a xs)(_:∀p,H p=none->Q (.ref p) (upd H p (.lst (cr xs lo hi))))
theorem fB:SlR X (rSlL X.K):=by intro IH s σ H x v vl vu lo hi sl Q I rx hs pl pu h;obtain⟨a,xs,rfl,hx,q⟩:=h;cases rx;obtain⟨its,r,ht,hz⟩:=I.list hx;have IJ:=r.length;apply%["list",_,slot_list_getitem.lookup,ht.isList.typeIs|?_];apply wpAny_getItem_list_slice ht.isList hs pl pu .none (by simp) ?_ (by rw[G2] <;> omega);rw[gL,<- IJ];apply%[.ref s.heap.objs.size,_,I.laid (t':=s.toks) (o:=.lst (cr xs lo hi)) (λ b ob q=>A6 _ q) (B2 _) ?_,Z|q _ (I.hok.fresh (B2 _))];exact%[C4 (fj xs lo hi) hz,_,0,(r.drop (HT.sIx xs.length 0 lo)).take (HT.sIx xs.length xs.length hi - HT.sIx xs.length 0 lo)|A7 _ rfl]
def fk:V->Bool
 | .non=>true
 | .bl _=>true
 | .int _=>true
 | .str _=>true
 | _=>false
def eqV:V->V->Bool
 | .non,.non=>true
 | .bl a,.bl b=>a == b
 | .bl a,.int b=>(if a then 1 else 0) == b
 | .int a,.bl b=>a == (if b then 1 else 0)
 | .int a,.int b=>a == b
 | .str a,.str b=>a == b
 | _,_=>false
theorem um{A:Around}{s:F4}{y x:V}{u v:F8}(ry:RelV y u)(rx:RelV x v)(fy:fk y=true)(fx:fk x=true):SeqAt.EqAt A s u v (eqV y x):=by
 cases y with
 | non=>
  cases ry;cases x with
  | non=>cases rx;exact SeqAt.EqAt.same _
  | bl b=>cases rx;exact SeqAt.EqAt.none_bool b
  | int b=>obtain⟨t,rfl⟩:=rx;exact SeqAt.EqAt.none_int b t
  | str b=>obtain⟨t,rfl⟩:=rx;exact SeqAt.EqAt.none_str b t
  | _=>exact absurd (show false=true from fx) B1
 | bl a=>
  cases ry;cases x with
  | non=>cases rx;exact SeqAt.EqAt.bool_none a
  | bl b=>cases rx;exact SeqAt.EqAt.bool_bool a b
  | int b=>obtain⟨t,rfl⟩:=rx;exact SeqAt.EqAt.bool_int a b t
  | str b=>obtain⟨t,rfl⟩:=rx;exact SeqAt.EqAt.bool_str a b t
  | _=>exact absurd (show false=true from fx) B1
 | int a=>
  obtain⟨t',rfl⟩:=ry;cases x with
  | non=>cases rx;exact SeqAt.EqAt.int_none a t'
  | bl b=>cases rx;exact SeqAt.EqAt.int_bool a t' b
  | int b=>obtain⟨t,rfl⟩:=rx;exact SeqAt.EqAt.int_int a t' b t
  | str b=>obtain⟨t,rfl⟩:=rx;exact SeqAt.EqAt.int_str a t' b t
  | _=>exact absurd (show false=true from fx) B1
 | str a=>
  obtain⟨t',rfl⟩:=ry;cases x with
  | non=>cases rx;exact SeqAt.EqAt.str_none a t'
  | bl b=>cases rx;exact SeqAt.EqAt.str_bool a t' b
  | int b=>obtain⟨t,rfl⟩:=rx;exact SeqAt.EqAt.str_int a t' b t
  | str b=>obtain⟨t,rfl⟩:=rx;exact SeqAt.EqAt.str_str a t' b t
  | _=>exact absurd (show false=true from fx) B1
 | _=>exact absurd (show false=true from fy) B1
def eqU(x:V)(u:F8):Bool:=match u with
 | .none=>eqV .non x
 | .bool b=>eqV (.bl b) x
 | .int i _=>eqV (.int i) x
 | .str z _=>eqV (.str z) x
 | _=>false
theorem oW{x y:V}{u:F8}(r:RelV y u)(f:fk y=true):eqU x u=eqV y x:=by
 cases y with
 | non=>cases r;rfl
 | bl b=>cases r;rfl
 | int i=>obtain⟨t,rfl⟩:=r;rfl
 | str z=>obtain⟨t,rfl⟩:=r;rfl
 | _=>exact absurd (show false=true from f) B1
theorem iy{x:V}:∀{xs:IF V}{us:IF F8},Vals xs us->xs.all fk=true->us.any (eqU x)=xs.any λ y=>eqV y x
 | _,_,.nil,_=>rfl
 | y :: xs,u :: us,.cons r t,f=>by rw[List.all_cons,HX]at f;rw[List.any_cons,List.any_cons,oW r f.1,iy t f.2]
theorem fU{A:Around}{s:F4}{x:V}{v:F8}(rx:RelV x v)(fx:fk x=true):∀{xs:IF V}{us:IF F8},Vals xs us->xs.all fk=true->∀u∈us,SeqAt.EqAt A s u v (eqU x u)
 | _,_,.nil,_=>λ u hu=>by cases hu
 | y :: xs,u :: us,.cons r t,f=>λ u' hu=>by
  rw[List.all_cons,HX]at f;rcases G0.mp hu with rfl | hu
  ·rw[oW r f.1];exact um r rx f.1 fx
  ·exact fU rx fx t f.2 u' hu
def inV(x:V)(xs:IF V):Bool:=xs.any λ y=>eqV y x
def rIn(K:C3)(neg:Bool):R2:=λ x y H Q=>∃p xs,y=.ref p/\(SqL K H p xs\/SqT K H p xs)/\fk x=true/\xs.all fk=true/\Q (.bl (if neg then !inV x xs else inV x xs)) H
theorem iz:OpR X (compareOp .NotIn) (rIn X.K true):=by
 intro IH s σ H x y v u Q I rx ry h;obtain⟨p,xs,rfl,hq,fx,fs,q⟩:=h;cases ry;rcases hq with hq | hq
 ·obtain⟨its,r,pl,hz⟩:=I.list hq;apply SeqAt.notIn_listAt (eqU x) pl.isList (λ w hw=>fU rx fx r fs w (by simpa using hw)) %[.bl _,H,I,rfl|?_];rw[show its.toArray.any (eqU x)=its.any (eqU x)by simp,iy r fs];exact q
 ·obtain⟨its,r,pl,hz⟩:=I.tuple hq;apply SeqAt.notIn_tupleAt (eqU x) pl (λ w hw=>fU rx fx r fs w (by simpa using hw)) %[.bl _,H,I,rfl|?_];rw[show its.toArray.any (eqU x)=its.any (eqU x)by simp,iy r fs];exact q
inductive rz_op_notIn_str(x:V)(y:V)(H:Hp)(Q:VK):Prop
|mk(i j:_)(_:x=.str i)(_:y=.str j)(_:Q (.bl (!(!(Builtin.Str.occurrences j i 0 j.length 1).isEmpty))) H)
inductive rz_call_len_seq(K:C3)(xs:IF V)(H:Hp)(Q:VK):Prop
|mk(p ys:_)(_:xs=[.ref p])(_:(SqL K H p ys\/SqT K H p ys))(_:Q (.int ys.length) H)
theorem aJ:cn X (.builtin "len") (rz_call_len_seq X.K):=by
 intro IH s σ H xs us Q I r h;obtain⟨p,ys,rfl,hq,q⟩:=h;obtain⟨u,rfl,rx⟩:=du r;cases rx;have hn:=eU;rcases hq with hq | hq
 ·obtain⟨its,r',pl,hz⟩:=I.list hq;have IJ:=r'.length;exact Calls.call_len_list pl.isList (by simp only[G2] <;> omega) %[.int ys.length,H,I.tok _,%[s.toks+1|by rw[G2,IJ]]|q]
 ·obtain⟨its,r',pl,hz⟩:=I.tuple hq;have IJ:=r'.length;exact len_tuple pl (by simp only[G2] <;> omega) %[.int ys.length,H,I.tok _,%[s.toks+1|by rw[G2,IJ]]|q]
inductive rz_call_len_str(xs:IF V)(H:Hp)(Q:VK):Prop
|mk(z:_)(_:xs=[.str z])(_:z.length<=sizeLine)(_:Q (.int z.length) H)
inductive rz_call_list_of(K:C3)(xs:IF V)(H:Hp)(Q:VK):Prop
|mk(p ys:_)(_:xs=[.ref p])(_:(SqL K H p ys\/SqT K H p ys))(_:∀l,H l=none->Q (.ref l) (upd H l (.lst ys)))
theorem cY:cn X (.type "list") (rz_call_list_of X.K):=by
 intro IH s σ H xs us Q I r h;obtain⟨p,ys,rfl,hq,q⟩:=h;obtain⟨u,rfl,rx⟩:=du r;cases rx;have fin:∀(its:IF F8),Vals ys its->ys.length<=sizeLine->∀(h':Heap)(c':Nat),(∀b o',s.heap.get? b=some o'->h'.get? b=some o') ->
   h'.get? s.heap.objs.size=some { cls:=.type "list",dict:=none,data:=.seq its.toArray c',slots:=#[] }->EP X IH σ Q (.ref s.heap.objs.size) { s with heap:=h' }:=λ its r' hz h' c' kp e=>
  %[.ref s.heap.objs.size,_,I.laid (t':=s.toks) kp (B2 _) (show ObjOk X.prog X.w _ h' _ (.lst ys)from%[hz,its,c',r'|e]),rfl|q _ (I.hok.fresh (B2 _))]
 rcases hq with hq | hq
 ·obtain⟨its,r',pl,hz⟩:=I.list hq;have IJ:=r'.length;obtain⟨o,ho,hc,n,hd⟩:=pl.isList;exact call_list_seq p (.inl rfl) ho hc hd (λ h' c' kp e=>fin its r' hz h' c' kp e) (by simp only[G2] <;> omega)
 ·obtain⟨its,r',pl,hz⟩:=I.tuple hq;have IJ:=r'.length;obtain⟨o,ho,hc,n,hd⟩:=pl;exact call_list_seq p (.inr rfl) ho hc hd (λ h' c' kp e=>fin its r' hz h' c' kp e) (by simp only[G2] <;> omega)
inductive rz_call_tuple_of(K:C3)(xs:IF V)(H:Hp)(Q:VK):Prop
|mk(p ys:_)(_:xs=[.ref p])(_:((SqL K H p ys/\∀l,H l=none->Q (.ref l) (upd H l (.tup ys)))\/(SqT K H p ys/\Q (.ref p) H)))
theorem cg:cn X (.type "tuple") (rz_call_tuple_of X.K):=by
 intro IH s σ H xs us Q I r h;obtain⟨p,ys,rfl,h⟩:=h;obtain⟨u,rfl,rx⟩:=du r;cases rx;rcases h with⟨hq,q⟩ | ⟨hq,q⟩
 ·obtain⟨its,r',pl,hz⟩:=I.list hq;have IJ:=r'.length;apply call_tuple_list pl.isList (λ h' kp=>?_) (by simp only[G2] <;> omega);have I1:Inv X IH σ H { s with heap:=h' }:=I.kept (t':=s.toks) kp;have I2:Inv X IH σ (upd H h'.objs.size (.tup ys)) { s with heap:=h'.push { cls:=.type "tuple",data:=.seq its.toArray } } :=
   I1.laid (t':=s.toks) (λ b o e=>A6 _ e) (B2 _) (show ObjOk X.prog X.w _ _ _ (.tup ys)from%[hz,its,r'|IsTup.new _ _])
  exact%[.ref h'.objs.size,_,I2,Z|q _ (I1.hok.fresh (B2 _))]
 ·obtain⟨its,r',pl,hz⟩:=I.tuple hq;exact call_tuple_same pl %[.ref p,H,I,rfl|q]
def tyV(K:C3)(T:String)(x:V)(H:Hp):Prop:=match x with
 | .str _=>T = "str"
 | .int _=>T = "int"
 | .ref p=>(T = "list" /\ ∃xs,SqL K H p xs)\/(T = "tuple" /\ ∃o,K.lookup p=some o/\o.cls=.type "tuple" /\ o.dict=none) \/
   (T = "dict" /\ ((∃kvs,H p=some (.dK kvs))\/∃kvs,H p=some (.dT kvs)))\/(T = "set" /\ ∃S n,H p=some (.set S n))
 | _=>False
theorem oX{IH:IF (IB×Obj)}{σ:St}{H:Hp}{s:F4}{T:String}{x:V}{v:F8}(I:Inv X IH σ H s)(r:RelV x v)(ty:tyV X.K T x H) :
  s.TypeIs v T/\∀a,v=.ref a->∃ob,s.heap.get? a=some ob/\ob.dict=none:=by
 cases x with
 | str z=>
  obtain⟨t,rfl⟩:=r;cases(show T = "str" from ty);exact%[typeIs_str s z t|λ _ e=>nomatch e]
 | int i=>
  obtain⟨t,rfl⟩:=r;cases(show T = "int" from ty);exact%[typeIs_int s i t|λ _ e=>nomatch e]
 | ref p=>
  cases r;rcases ty with⟨rfl,xs,hq⟩ | ⟨rfl,o,hk,hc,hd⟩ | ⟨rfl,hk⟩ | ⟨rfl,S,n,hk⟩
  ·obtain⟨its,_,pl,_⟩:=I.list hq;apply%[pl.isList.typeIs|λ a e=>?_];cases e;obtain⟨o,n,e,c,hd,_⟩:=pl;exact%[o,e|hd]
  ·apply%[%[o,I.kIn p o hk|hc]|λ a e=>?_];cases e;exact%[o,I.kIn _ o hk|hd]
  ·have z:∃o,s.heap.get? p=some o/\o.ExactDict:=by
    rcases hk with⟨kvs,hk⟩ | ⟨kvs,hk⟩
    ·obtain⟨_,_,_,_,o,_,_,e,ex,_⟩:=I.hok p _ hk;exact%[o,e|ex]
    ·obtain⟨_,_,_,_,o,_,_,e,ex,_⟩:=I.hok p _ hk;exact%[o,e|ex]
   obtain⟨o,e,ex⟩:=z;apply%[%[o,e|ex.1]|λ a e2=>?_];cases e2;exact%[o,e|ex.2.1]
  ·obtain⟨o,_,_,_,e,ex,_⟩:=I.hok p _ hk;apply%[%[o,e|ex.1]|λ a e2=>?_];cases e2;exact%[o,e|ex.2.1]
 | _=>exact E5 ty
def Ep(K:C3)(T:String)(r:V->IF V->Hp->VK->Prop)(to:TE):TE:=λ σ H Q=>to σ H λ x H1=>tyV K T x H1/\r x [] H1 Q
def tBM(K:C3)(T:String)(r:V->IF V->Hp->VK->Prop)(to:TE)(t:TA):TE:=λ σ H Q=>to σ H λ x H1=>tyV K T x H1/\t σ H1 λ xs H2=>r x xs H2 Q
variable{o e:Expr}{es:IF Expr}{to:TE}{t:TA}{name:Str}{apos cpos:Pos}{T id:String}{r:V->IF V->Hp->VK->Prop}
theorem uo(pa:PlainAttrs T)(slot:Slot T name id)(hty:typeOf (.builtin id)=pure (.type "method_descriptor"))(hm:MtR X id r)(ho:PE X o to)
  (hbase:attributeBase o name X.env (eval o X.env)=eval o X.env:=by rfl) (hline:(apos.endLine == cpos.line)=true:=by rfl):PE X (.Call (.Attribute o name apos) [] [] cpos) (Ep X.K T r to):=by
 intro IH s σ H Q I h;apply wpAny_Call_method0_late hbase hline (thn (ho IH s σ H _ I h) λ v s1 %[x,H1,I1,r1,ty|q1]=>?_);obtain⟨h1,h2⟩:=oX I1 r1 ty;exact%[T,id,pa,slot,hty,h1,h2|Calls.callWith_builtin rfl (PySem.evalArgs_none (hm IH s1 σ H1 x [] v [] Q I1 r1 .nil q1))]
theorem dQ(pa:PlainAttrs T)(slot:Slot T name id)(hty:typeOf (.builtin id)=pure (.type "method_descriptor"))(hm:MtR X id r)(ho:PE X o to)(ha:PA X (e :: es) t)
  (hbase:attributeBase o name X.env (eval o X.env)=eval o X.env:=by rfl)
  (hfew:((backTo cpos (starEach (e :: es) X.env)).all (λ x=>!x.1) && (backToKw cpos (keywordEach [] X.env)).all (λ x=>x.1.isSome)
   && decide ((e :: es).length+([]:IF Keyword).length+(if ([]:IF Keyword).isEmpty then 0 else 1) < 30))=true:=by rfl)
  (hline:(apos.endLine == cpos.line)=true:=by rfl) (hs:starEach (e :: es) X.env=(false,eval e X.env) :: starEach es X.env:=by rfl) (hplain:(backTo cpos (starEach es X.env)).any (·.1)=false:=by rfl) :
  PE X (.Call (.Attribute o name apos) (e :: es) [] cpos) (tBM X.K T r to t):=by
 intro IH s σ H Q I h;apply wpAny_Call_method_late hbase hfew hline rfl (thn (ho IH s σ H _ I h) λ v s1 %[x,H1,I1,r1,ty|q1]=>?_);obtain⟨h1,h2⟩:=oX I1 r1 ty;apply%[T,id,pa,slot,hty,h1,h2|?_];have hA:=ha cpos IH s1 σ H1 _ I1 q1;rw[hs]at hA ⊢;apply Calls.callWith_builtin (by show(false || (backTo cpos (starEach es X.env)).any (·.1))=false;rw[hplain] <;> rfl) (Calls.evalArgs_plain ?_);exact thn hA λ us s2 %[vs,H2,I2,r2|q2]=>hm IH s2 σ H2 x vs v us Q I2 r1 r2 q2
/- xs.append(e),list.index on a module's tuple .. are MtR facts of 06m -/
end
def MtM(X:Cx)(id:String)(r:V->IF V->Hp->VK->Prop):Prop :=
 ∀(IH:IF (IB×Obj))(s:F4)(σ:St)(H:Hp)(x:V)(xs:IF V)(v:F8)(us:IF F8)(Q:VK),Inv X IH σ H s->RelV x v->Vals xs us->r x xs H Q ->
  wpAny (model X.prog X.w) X.A (call (.builtin id) (v :: us)) (EP X IH σ Q) X.xe s
theorem Vals.one:∀{x:V}{us:IF F8},Vals [x] us->∃u,us=[u]/\RelV x u
 | _,_,.cons r .nil=>%[_,Z|r]
theorem Vals.zero:∀{us:IF F8},Vals [] us->us=[]
 | _,.nil=>rfl
theorem Vals.dropLast{xs:IF V}{us:IF F8}(h:Vals xs us):Vals xs.dropLast us.dropLast:=by
 induction h with
 | nil=>exact .nil
 | cons r t ih=>
  cases t with
  | nil=>exact .nil
  | cons q t'=>exact .cons r ih
theorem jU{α:Type}(l:IF α):l.eraseIdx (l.length - 1)=l.dropLast:=by
 induction l with
 | nil=>rfl
 | cons a r ih=>
  cases r with
  | nil=>rfl
  | cons b r=>
   have e:(a :: b :: r).length - 1=((b :: r).length - 1)+1:=by have h1:(a :: b :: r).length=r.length+2:=rfl;have h2:(b :: r).length=r.length+1:=rfl;omega
   rw[e,List.eraseIdx_cons_succ,ih]
   all_goals rfl
section
variable{X:Cx}{IH:IF (IB×Obj)}{σ:St}{H:Hp}{s:F4}{l b:IB}{xs ys zs:IF V}
theorem Inv.lset{its its':IF F8}{n:Nat}{f:IE F8->IE F8}{t':Nat}(I:Inv X IH σ H s)(hH:H l=↥xs)
  (e:s.heap.get? l=some { cls:=.type "list",data:=.seq its.toArray n }) (hf:f its.toArray=its'.toArray) (hv:Vals ys its') (hz:ys.length<=sizeLine) :
  Inv X IH σ (upd H l (.lst ys)) { s with heap:=s.heap.update l (Obj.mapSeq f),toks:=t' }:=by
 have q:=PySem.IsL.update e f;rw[hf]at q;apply I.write (x:=l) (e:=l) (by rw[hH];exact trivial) (.inl rfl) (λ b' u hb hu=>(Heap.get?_update_other s.heap (Obj.mapSeq f) (Ne.symm hb)).trans hu) %[_|q] ?_;exact%[hz,its',_,hv|q]
theorem Inv.lnew{its:IF F8}{t':Nat}(I:Inv X IH σ H s)(hv:Vals ys its)(hz:ys.length<=sizeLine) :
  Inv X IH σ (upd H s.heap.objs.size (.lst ys)) { s with heap:=s.heap.push { cls:=.type "list",data:=.seq its.toArray },toks:=t' } :=
 I.laid (λ _ _ q=>A6 _ q) (B2 _) %[hz,its,0,hv|A7 _ rfl]
theorem Inv.fresh(I:Inv X IH σ H s):H s.heap.objs.size=none:=I.hok.fresh (B2 _)
theorem Inv.lstM(I:Inv X IH σ H s)(hH:H l=↥xs):xs.length<=sizeLine/\∃(its:IF F8)(n:Nat),Vals xs its/\xs.length=its.length/\s.heap.get? l=some { cls:=.type "list",data:=.seq its.toArray n }:=by obtain⟨z,its,n,r,e⟩:=I.hok l _ hH;exact%[z,its,n,r,r.length|e]
theorem oY{n:Nat}(h:n<=sizeLine):Builtin.List.listTooLong n=false:=by unfold Builtin.List.listTooLong;exact B0 ⋯
end
section
variable{X:Cx}
inductive rAppend(x:V)(vs:IF V)(H:Hp)(Q:VK):Prop
|mk(l:IB)(xs:IF V)(y:V)(_:x=.ref l)(_:vs=[y])(_:H l=↥xs)(_:xs.length < sizeLine)(_:Q .non (upd H l (.lst (xs ++ [y]))))
theorem bM:MtM X "list.append" rAppend:=by intro IH s σ H x vs v us Q I rx rv h;obtain⟨l,xs,y,rfl,rfl,hH,hz,q⟩:=h;cases rx;obtain⟨u,rfl,ru⟩:=rv.one;obtain⟨z,its,n,r,hl,e⟩:=I.lstM hH;apply Im F.slot_list_append %[_,e|Z] F.entry_list_append (F.args_list_append_2 _ _) (PySem.list_append l its.toArray n u (by rw[G2];omega)) %[e|?_];apply%[.non,_,I.lset (its':=its ++ [u]) hH e (by simp) (r.append (.cons ru .nil)) ?_,Z|q];rw[G4,List.length_singleton];omega
def rj:V->IF V->Hp->VK->Prop:=λ x vs H Q=>∃l b xs zs,x=.ref l/\vs=[.ref b]/\H l=↥xs/\H b=↥zs/\xs.length+zs.length<=sizeLine/\Q .non (upd H l (.lst (xs ++ zs)))
theorem wJ:MtM X "list.extend" rj:=by
 intro IH s σ H x vs v us Q I rx rv h;obtain⟨l,b,xs,zs,rfl,rfl,hH,hB,hz,q⟩:=h;cases rx;obtain⟨u,rfl,ru⟩:=rv.one;cases ru;obtain⟨z,its,n,r,hl,e⟩:=I.lstM hH;obtain⟨z2,its2,n2,r2,hl2,e2⟩:=I.lstM hB;have hsz:its.toArray.size+its2.toArray.size<=sizeLine:=by rw[G2,G2];omega
 have hlong:¬ (!its.toArray.isEmpty && Builtin.List.listTooLong (its.toArray.size+its2.toArray.size))=true:=by rw[oY hsz,Bool.and_false];exact B1
 apply Im F.slot_list_extend %[_,e|Z] F.entry_list_extend (F.args_list_extend_2 _ _)
  (AutoSeq1.list_extend_list_list_0 l its.toArray n b its2.toArray n2 hlong (by rw[G2];omega) ⋯) %[e,e2|?_]
 apply%[.non,_,I.lset (its':=its ++ its2) hH e (by simp) (r.append r2) ?_,Z|q];rw[G4];omega
def Er:V->IF V->Hp->VK->Prop:=λ x vs H Q=>∃l xs y,x=.ref l/\vs=[]/\H l=↥xs/\xs[xs.length - 1]?=some y/\Q y (upd H l (.lst xs.dropLast))
theorem Es:MtM X "list.pop" Er:=by
 intro IH s σ H x vs v us Q I rx rv h;obtain⟨l,xs,y,rfl,rfl,hH,hy,q⟩:=h;cases rx;have hus:=rv.zero;subst hus;obtain⟨z,its,n,r,hl,e⟩:=I.lstM hH;obtain⟨u,hu,ru⟩:=r.get hy;have hy':its.toArray[its.toArray.size - 1]?=some u:=by show its.toArray[its.length - 1]?=some u;rw[<- Array.getElem?_toList,<- hl];exact hu
 apply Im F.slot_list_pop %[_,e|Z] F.entry_list_pop (F.args_list_pop_1 _) (MeetsSeq.list_pop_last l its.toArray n u hy' (by rw[G2];omega)) %[e|?_];apply%[y,_,I.lset (its':=its.dropLast) hH e ?_ r.dropLast ?_,ru|q]
 ·show its.toArray.eraseIdxIfInBounds (its.toArray.size - 1)=its.dropLast.toArray;rw[G2,List.eraseIdxIfInBounds_toArray,jU]
 ·rw[List.length_dropLast];omega
def up:V->IF V->Hp->VK->Prop:=λ x vs H Q=>∃l xs,x=.ref l/\vs=[]/\H l=↥xs/\Q .non (upd H l (.lst []))
theorem oZ:MtM X "list.clear" up:=by intro IH s σ H x vs v us Q I rx rv h;obtain⟨l,xs,rfl,rfl,hH,q⟩:=h;cases rx;have hus:=rv.zero;subst hus;obtain⟨z,its,n,r,hl,e⟩:=I.lstM hH;apply Im F.slot_list_clear %[_,e|Z] F.entry_list_clear (F.args_list_clear_1 _) (AutoSeq1.list_clear_list_0 l its.toArray n (by rw[G2];omega)) %[e|?_];exact%[.non,_,I.lset (its':=[]) (ys:=[]) hH e rfl .nil (E6 _),Z|q]
inductive rCat(x:V)(y:V)(H:Hp)(Q:VK):Prop
|mk(l b:IB)(xs zs:IF V)(_:x=.ref l)(_:y=.ref b)(_:H l=↥xs)(_:H b=↥zs)(_:xs.length+zs.length<=sizeLine)(_:∀p,H p=none->Q (.ref p) (upd H p (.lst (xs ++ zs))))
theorem jV:OpR X (binaryOp .Add) rCat:=by
 intro IH s σ H x y v u Q I rx ry h;obtain⟨l,b,xs,zs,rfl,rfl,hH,hB,hz,q⟩:=h;cases rx;cases ry;obtain⟨z,its,n,r,hl,e⟩:=I.lstM hH;obtain⟨z2,its2,n2,r2,hl2,e2⟩:=I.lstM hB;apply PySem.P.add_list e e2 ?_ (by rw[G2,G2];omega);have ea:its.toArray ++ its2.toArray=(its ++ its2).toArray:=by simp
 rw[ea];exact%[.ref _,_,I.lnew (t':=s.toks) (r.append r2) (by rw[G4];omega),Z|q _ I.fresh]
end
end L2
namespace Att
open PySem PySem.W PySem.Calls PyProof.Rows
theorem fw{P:Params}{h:Heap}:∀(ns:IF Int)(vs:IF F8),WellAll P h vs (ns.map WData.int)->IntsAre vs ns:=by
 intro ns
 induction ns with
 | nil=>
  intro vs w;rw[Hv]at w;cases w;exact .nil
 | cons n ns ih=>
  intro vs w;rw[G9]at w;cases w with
  | cons a b=>
   cases a;exact .cons _ _ (ih _ b)
theorem my{l:OpenLaw}{n:Nat}(hn:l.most=some n){P:Params}{h:Heap}{args:IF WData}{vals:IF F8}
  (hpre:l.row.toRowW.claim.pre args=true) (hwl:WellAll P h vals args) :
  ∃a vs ns,vals=[Value.ref a]/\args=[WData.list (ns.map WData.int)]/\h.get? a=some { cls:=.type "list",data:=.seq vs.toArray }/\IntsAre vs ns/\ns.length<=n:=by
 have hsh:WShape.hasAll [] args [.list .int]=true:=(pre_splitW hpre).1;have hc:l.pre.holds [] { args:=args }=true:=(pre_splitW hpre).2;obtain⟨d,r,rfl,h1,h2⟩:=hasAllW_cons hsh;obtain rfl:=hasAllW_nil h2;obtain⟨xs,rfl,h3⟩:=hasW_list h1;obtain⟨ns,rfl⟩:=items_int h3;have IJ:ns.length<=n:=by
  unfold OpenLaw.pre at hc;have h4:(WTm.not (.lt (.lit (.int (n:Int))) (.len (.arg 0)))).holds [] { args:=[.list (ns.map .int)] }=true:=by have h4:=(holds_andW hc).1;rw[hn]at h4;exact h4
  have h5:=condW_of h4 (w_not (w_lt w_lit (w_len_list (w_arg rfl))));rw[GZ]at h5;apply Nat.le_of_not_lt λ q=>?_;have q':(n:Int) < ((ns.length:Nat):Int):=⋯
  first
   | (rw[IL q']at h5;exact absurd h5 ∅)
   | (simp at h5;omega)
 cases hwl with
 | cons w1 w2=>
  cases w2;cases w1 with
  | list ho hall=>exact%[_,_,ns,Z,Z,ho,fw ns _ hall|IJ]
theorem mz(l:OpenLaw)(args:IF WData):l.row.toRowW.claim.post args (.bool true) args=true :=
 postW_of (r:=l.row.toRowW) (X:=(true == true))
  (show WShape.has [] (.bool true) .bool=true by first | rfl | decide | simp[WShape.has,WShape.arms,WShape.armsAll])
  (show(WTm.eq .res (.lit (.bool true))).value [] { args:=args,res:=some (.bool true),after:=args }=some (.bool (true == true))from w_eq_bool (w_res rfl) w_lit) rfl
theorem attach_call{l:OpenLaw}{n:Nat}{q:F5}{loose:IF Str}{XP:(Str->ID F8)->Heap->Prop}{YP:F7->Heap->Prop}{d:DefRec}
  (hn:l.most=some n) (hdf:d.params.defaults=[])
  (call:∀(w:F7)(s₀ s₁:F4)(mg mb:Str->ID F8)(fa:IB)(o:Obj)(pm cd doc:F8)(a:IB)(vs:IF F8)(ns:IF Int),
   Ground q loose [] XP w s₀ mg mb s₁.heap->YP w s₁.heap ->
   s₁.heap.get? fa=some o->o.data=.func (docDef d.name d.params d.body d.scope pm cd doc)->s₁.heap.CodeRec cd d.name->mg d.name=↑fa ->
   s₁.heap.get? a=some { cls:=.type "list",data:=.seq vs.toArray }->IntsAre vs ns->ns.length<=n->s₁.gens=#[] ->
   codeAny (model l.prog w) callerA (.call (.ref fa) %[[.ref a]|[]]) (λ r s'=>r=.ok (.ret (.bool true))/\OldK s₁.heap s'.heap/\s'.os=s₁.os/\AllBare s'.gens) s₁) :
  WalkO q loose XP YP l.row.toRowW d [] (λ f vs=>PySem.call f vs):=by
 intro w s₀ s₁ mg mb G Y fa o pm cd doc dV kV ho hd hcd hD hmg hg args vals as hpre hlay hrd hwl hlo;obtain rfl:dV=.none:=Dflts.none hD hdf;obtain rfl:kV=.none:=Dflts.noKw hD;obtain⟨a,vs,ns,rfl,rfl,hobj,hints,IJ⟩:=my hn hpre hwl;apply enter_call (codeAny_mono (call w s₀ s₁ mg mb fa o pm cd doc a vs ns G Y ho (fd_plain hd) hcd hmg hobj hints IJ hg) λ r s' hq=>?_);obtain⟨rfl,h2,h3,h4⟩:=hq;exact%[.inl %[.bool true,.bool true,[],Z,λ _=>rfl,.bool true,mz l _|λ _=>%[List.Pairwise.nil|λ _ hm=>(nomatch hm)]],h2,h3|h4]
section
variable{prog:F5}{w:F7}{A:Around}{E:F8->F4->Prop}{s:F4}{K:Frag}
def Et(h:Heap)(L d:IB):IF (IB×Obj):=(List.range h.objs.size).filterMap λ a=>if a=L\/a=d then none else(h.get? a).map λ o=>(a,o)
end
end Att
namespace L2
open PySem PySem.Spec PyProof.Rows
theorem gX:∀{vs:IF F8}{ns:IF Int},IntsAre vs ns->Vals (ns.map V.int) vs
 | _,_,.nil=>.nil
 | _,_,.cons n t h=>.cons %[t|Z] (gX h)
def uq(H:Hp):Prop:=∀b,H b=none\/∃o xs,H b=some (.frz o (.lst xs))
theorem pc{P:F5}{w:F7}{K:C3}{mg mb:Str->ID F8}{CX:CXT}{k:Nat}{fa a:IB}{fd:F6}{x:Str}{sp:Sp}{s₁:F4}{vs:IF F8}{ns:IF Int}
  (KX:K.In s₁.heap) (hns:s₁.heap.Ns IG mg) (hb:s₁.heap.Ns builtinsNs mb) (hbb:∀x:Str,x ≠ "__name__" -> mb x=bootBuiltins x) (hlim:s₁.heap.NoLimit) (hg:s₁.gens=#[])
  (ha:s₁.heap.get? a=some { cls:=.type "list",data:=.seq vs.toArray }) (hi:IntsAre vs ns) (hl:ns.length<=sizeLine) (hr:Room k callerA)
  (F:∀base:Heap,K.In base->base.Ns IG mg->FnOk P w K mg base CX k fa fd [x] sp) (hbind:∀(s:F4)(u:F8),BindsTo s fd %[[u]|[]] [(x,u)])
  (hsp:∀H:Hp,uq H->SqL K H a (ns.map V.int)->sp [.ref a] H (λ v _=>v=.bl true) λ _ _ _=>False)
  (hCX:∀H e s',CX [] H s₁ (λ _ _ _=>False) e s'->False) :
  codeAny (model P w) callerA (.call (.ref fa) %[[.ref a]|[]]) (λ r s'=>r=.ok (.ret (.bool true))/\OldK s₁.heap s'.heap/\s'.os=s₁.os/\AllBare s'.gens) s₁:=by
 have rv:=gX hi;have lenV:=hi.length;have core:∀H:Hp,uq H->SqL K H a (ns.map V.int)->HOk P w H s₁.heap->(∀b,H b≠none->b=a)->(H a≠none->K.lookup a=none) ->
   codeAny (model P w) callerA (.call (.ref fa) %[[.ref a]|[]]) (λ r s'=>r=.ok (.ret (.bool true))/\OldK s₁.heap s'.heap/\s'.os=s₁.os/\AllBare s'.gens) s₁:=by
  intro H hO hS hok hA hK;have base_of:∀{b:IB}{o:Obj},s₁.heap.get? b=some o->H b=none->(ig s₁.heap H).get? b=some o:=λ e n=>oF e n;have noA:∀{b:IB}{o:Obj}{es:IE DictEntry}{ep:Nat},s₁.heap.get? b=some o->o.data=.dict es ep->H b=none:=λ {b o es ep} e d=>by
   cases q:H b with
   | none=>rfl
   | some u=>
    have e':b=a:=hA b (by rw[q];simp);subst e';rw[ha]at e;cases e;have d':Data.seq vs.toArray _=Data.dict es ep:=d;cases d'
  have nsK:∀{b:IB}{m:Str->ID F8},s₁.heap.Ns b m->(ig s₁.heap H).Ns b m:=λ {b m} ⟨o,es,ep,e,d,r⟩=>%[o,es,ep,base_of e (noA e d),d|r]
  have hKb:K.In (ig s₁.heap H):=λ b o e=>base_of (KX b o e) (by
   cases q:H b with
   | none=>rfl
   | some u=>
    have e':b=a:=hA b (by rw[q];simp);subst e';rw[hK (by rw[q];simp)]at e;cases e)
  have hM:Mod K mg (ig s₁.heap H):=%[hKb,nsK hns,%[mb,nsK hb|hbb]|let ⟨mc,h1,h2⟩:=hlim;%[mc,nsK h1|h2]]
  have e0:Env0 P w K mg (ig s₁.heap H) callerA [] s₁ H:=%[Z,hM,λ b o e=>qR e,Nat.le_of_eq (mf _ _),trivial,λ b hb=>absurd (show b∈([]:IF IB)from hb) (by simp),hok|.of_eq hg]
  apply codeAny_mono ((F _ hKb (nsK hns)).run callerA [] s₁ H %[[.ref a]|[]] [.ref a] [.ref a] _ _ hr e0 (hbind s₁ (.ref a)) (.cons rfl .nil) (hsp H hO hS)) λ r s' h=>?_;cases r with
  | error e=>exact(hCX H e s' h).elim
  | ok fl=>
   cases fl with
   | next=>exact E5 h
   | brk=>exact E5 h
   | cont=>exact E5 h
   | ret u=>
    obtain⟨v,H',os,bare,un,hok',r',q⟩:=h;have q':v=.bl true:=q;subst q';obtain rfl:u=Value.bool true:=r';apply%[Z,OldK.of_keep λ b o e=>?_,os|bare];cases q:H b with
    | none=>exact un.keep b o e q (by intro z;exact absurd (show b∈([]:IF IB)from z) (by simp)) (by simp)
    | some u=>
     rcases hO b with z | ⟨ob,xs,z⟩
     ·rw[q]at z;cases z
     ·have z2:=un.frzs b ob _ z;obtain⟨e1,_⟩:=hok b _ z;obtain⟨e2,_⟩:=hok' b _ z2;rw[e]at e1;cases e1;exact e2
 cases hk:K.lookup a with
 | some o=>
  have e:=KX a o hk;rw[ha]at e;cases e;apply core (λ _=>none) (λ _=>.inl rfl) (.inr %[_,vs.toArray,_,hk,Z,Z,Z,by rw[G2,lenV];exact hl|by simpa using rv]) (λ b u z=>by have z':(none:ID HO)=some u:=z;cases z') (λ b z=>absurd rfl z) λ z=>absurd rfl z
 | none=>
  apply core (λ b=>if b=a then some (.frz { cls:=.type "list",data:=.seq vs.toArray } (.lst (ns.map V.int)))else none) (λ b=>?_) (.inl (.inr %[{ cls:=.type "list",data:=.seq vs.toArray }|IP rfl])) (λ b u z=>?_) (λ b z=>?_) λ _=>hk
  ·by_cases hb:b=a
   ·exact .inr %[_,_|IP hb]
   ·exact .inl (IN hb)
  ·by_cases hb:b=a
   ·have z':=(IP hb).symm.trans z;cases z';subst hb;exact%[ha,by rw[GZ];exact hl,vs,_,rv|ha]
   ·have z':=(IN hb).symm.trans z;cases z'
  ·by_cases hb:b=a
   ·exact hb
   ·exact absurd (IN hb) z
theorem walk_of{l:PySem.W.OpenLaw}{n k:Nat}{q:F5}{loose:IF Str}{XP:(Str->ID F8)->Heap->Prop}{YP:F7->Heap->Prop}{d:DefRec}{K:Params->C3}{CX:F7->CXT}{sp:F7->Sp}{x:Str}
  (hn:l.most=some n) (hn2:n<=sizeLine) (hdf:d.params.defaults=[]) (hr:Room k callerA)
  (hY:∀(w:F7)(h:Heap),YP w h->(K w.params).In h)
  (F:∀(w:F7)(mg:Str->ID F8)(fa:IB)(h:Heap),(K w.params).In h->h.Ns IG mg->mg d.name=↑fa ->
   ∃fd:F6,(∀(s:F4)(u:F8),BindsTo s fd %[[u]|[]] [(x,u)]) /\
    ∀base:Heap,(K w.params).In base->base.Ns IG mg->FnOk l.prog w (K w.params) mg base (CX w) k fa fd [x] (sp w))
  (hsp:∀(w:F7)(H:Hp)(a:IB)(ns:IF Int),ns.length<=n->uq H->SqL (K w.params) H a (ns.map V.int)->sp w [.ref a] H (λ v _=>v=.bl true) λ _ _ _=>False)
  (hCX:∀(w:F7)(H:Hp)(s:F4)(e:F8)(s':F4),CX w [] H s (λ _ _ _=>False) e s'->False) :
  PySem.W.WalkO q loose XP YP l.row.toRowW d [] (λ f vs=>PySem.call f vs):=by
 apply Att.attach_call hn hdf λ w s₀ s₁ mg mb fa o pm cd doc a vs ns G Y ho hd hcd hmg hobj hints IJ hg=>?_;have KX:=hY w _ Y;obtain⟨fd,hb,hF⟩:=F w mg fa _ KX G.T.g hmg;exact pc KX G.T.g G.T.b G.T.builtins G.T.nolimit hg hobj hints (C4 IJ hn2) hr hF hb (λ H hO hS=>hsp w H a ns IJ hO hS) λ H e s'=>hCX w H s₁ e s'
def inClass(s:Stmt)(j:Nat):Stmt:=match s with
 | .ClassDef _ _ _ body _ _ _ _ _ _ _=>body.getD j (.Pass %[0,0,0|0])
 | _=>.Pass %[0,0,0|0]
def defArgs(s:Stmt):Arguments:=match s with
 | .FunctionDef _ a _ _ _ _ _ _ _ _=>a
 | _=>{ posonlyargs:=[],args:=[],vararg:=none,kwonlyargs:=[],kw_defaults:=[],kwarg:=none,defaults:=[] }
def defBody(s:Stmt):IF Stmt:=match s with
 | .FunctionDef _ _ b _ _ _ _ _ _ _=>b
 | _=>[]
def defScope(s:Stmt):Scope:=match s with
 | .FunctionDef _ _ _ _ _ _ sc _ _ _=>sc
 | _=>{ kind:=.function,names:=[],isGenerator:=false,isCoroutine:=false }
abbrev CX0:CXT:=λ _ _ _ _ _ _=>False
abbrev E0:XK:=λ _ _ _=>False
theorem lB{X:Cx}:dZ CX0 X E0:=λ _ _ _ _ _ _ _ h=>h.elim
structure Fun(K:C3)(x qual:Str)(st:Stmt)(f:IB)(fd:FuncData):Prop where
 ex:∃(oc:F8)(od:ID IB)(kV doc pm:F8)(an:ID IB)(cdv ct:F8)(osl:IE (ID F8)),
  fd=E4 x qual (defArgs st) (defBody st) (defScope st) .none kV doc pm an cdv ct/\K.lookup f=some %[oc,od,.func fd|osl]/\PySem.W.codeIn K cdv qual=true
 kp:PySem.W.keepIn K (.ref f)=true
section
variable{P:F5}{w:F7}{K:C3}{mg:Str->ID F8}{base:Heap}
theorem Fun.ok{x qual:Str}{st:Stmt}{f:IB}{fd:F6}{N ps:IF Str}{k:Nat}{sp:Sp}(F:Fun K x qual st f fd)(S:FnScope N ps (defScope st))(len:∀vs H Q E,sp vs H Q E->vs.length=ps.length)
  (hbody:∀(cdv:F8)(A:Around)(outer:IF Env)(s:F4)(H:Hp)(vs:IF V)(Q:VK)(E:XK),Room k (A.deeper (envOfC qual (defScope st) s.heap.objs.size f cdv))->sp vs H Q E ->
   ∃t,PSs (mt CX0 P w K mg base N qual (defScope st) f cdv A outer s H E).nox (defBody st) t/\t { nx:=λ _ H'=>Q .non H',rt:=Q } (start N vs) H):FnOk P w K mg base CX0 (k+1) f fd ps sp:=by
 obtain⟨oc,od,kV,doc,pm,an,cdv,ct,osl,rfl,lk,hcd⟩:=F.ex;apply xa lk hcd S len λ A outer s H vs Q E hr hsp=>?_;obtain⟨t,h,q⟩:=hbody cdv A outer s H vs Q E hr hsp;exact%[t,h.nox|q]
theorem Fun.binds{x qual:Str}{st:Stmt}{f:IB}{fd:F6}{ps:IF Str}(F:Fun K x qual st f fd)
  (h:∀(kV doc pm:F8)(an:ID IB)(cdv ct:F8)(us:IF F8),us.length=ps.length->bindArgs (E4 x qual (defArgs st) (defBody st) (defScope st) .none kV doc pm an cdv ct) %[us|[]]=pure (ps.zip us)):Binds K fd ps []:=by
 obtain⟨oc,od,kV,doc,pm,an,cdv,ct,osl,rfl,lk,hcd⟩:=F.ex;exact .all (h kV doc pm an cdv ct)
theorem jW{x qual:Str}{st:Stmt}{f:IB}{oc:F8}{od an:ID IB}{osl:IE (ID F8)}{kV doc pm cdv ct:F8}(l:K.lookup f=some %[oc,od,.func (E4 x qual (defArgs st) (defBody st) (defScope st) .none kV doc pm an cdv ct)|osl])
  (c:PySem.W.codeIn K cdv qual=true) (k:PySem.W.keepIn K (.ref f)=true):Fun K x qual st f (E4 x qual (defArgs st) (defBody st) (defScope st) .none kV doc pm an cdv ct):=%[%[oc,od,kV,doc,pm,an,cdv,ct,osl,Z,l|c]|k]
end
section
variable{X:Cx}
theorem pv(i:Nat){x:Str}{pos:Pos}(hN:X.N[i]?=some x:=by rfl)(hv:Vis X.env.scope x:=by first | exact Or.inl rfl | exact Or.inr (Or.inl rfl) | exact Or.inr (Or.inr rfl))(hd:(x == ("__debug__" : Str))=false:=by decide)
  (hcd:(x == ("__classdict__" : Str))=false:=by decide):PE X (.Name x pos) (tVar i):=tU hN hv hd hcd
end
theorem aU{A B:Prop}(h:B):if false=true then A else B:=by rw[IN B1];exact h
theorem br{A B:Prop}(h:A):if true=true then A else B:=by rw[IP rfl];exact h
theorem bv{c A B:Prop}[Decidable c](h1:c->A)(h2:¬ c->B):if c then A else B:=by
 by_cases h:c
 ·rw[IP h];exact h1 h
 ·rw[IN h];exact h2 h
def Same(H H':Hp):Prop:=∀b o,H b=some o->H' b=some o
theorem Same.refl(H:Hp):Same H H:=λ _ _ h=>h
theorem Same.trans{H H1 H2:Hp}(a:Same H H1)(b:Same H1 H2):Same H H2:=λ c o h=>b c o (a c o h)
theorem Same.free{H H':Hp}(e:Same H H'){l:IB}(h:H' l=Option.none):H l=Option.none:=by
 cases q:H l with
 | none=>rfl
 | some o=>
  rw[e l o q]at h;cases h
theorem Same.seq{K:C3}{H H':Hp}{a:IB}{xs:IF V}(e:Same H H')(h:SqL K H a xs):SqL K H' a xs:=by
 rcases h with(h | ⟨o,h⟩) | h
 ·exact .inl (.inl (e _ _ h))
 ·exact .inl (.inr %[o|e _ _ h])
 ·exact .inr h
def bN(env:Env):IF (Str×NameKind)->IF (Str×IB)->IF (Str×IB)
 | [],acc=>acc
 | (n,k) :: r,acc=>bN env r (if (k == NameKind.free)=true then(n,(env.cells.lookup n).getD 0) :: acc else acc)
theorem cZ(env:Env):∀(names:IF (Str×NameKind))(acc:IF (Str×IB))(x:Str)(c:IB),(∀y∈names,y.2=.free->∃c,env.cells.lookup y.1=some c) ->
  (∀x c,acc.lookup x=some c->env.cells.lookup x=some c)->(bN env names acc).lookup x=some c->env.cells.lookup x=some c
 | [],acc,x,c,_,h,e=>h x c e
 | (n,k) :: r,acc,x,c,hf,h,e=>by
  apply cZ env r _ x c (λ y hy=>hf y (B3 _ hy)) (λ x c e'=>?_) e
  by_cases hk:(k == NameKind.free)=true
  ·rw[IP hk]at e';obtain⟨c0,hc0⟩:=hf (n,k) B6 (by simpa using hk);have hc0':env.cells.lookup n=some c0:=hc0;rw[HU]at e';cases hx:x == n with
   | true=>
    rw[hx]at e';have:x=n:=by simpa using hx
    subst this;rw[hc0']at e' ⊢;simpa using e'
   | false=>rw[hx]at e';exact h x c e'
  ·rw[IN hk]at e';exact h x c e'
theorem fV(env:Env):∀(names:IF (Str×NameKind))(acc:IF (Str×IB))(x:Str),(∃c,acc.lookup x=some c)->∃c,(bN env names acc).lookup x=some c
 | [],acc,x,h=>h
 | (n,k) :: r,acc,x,h=>by
  apply fV env r _ x ?_
  by_cases hk:(k == NameKind.free)=true
  ·rw[IP hk,HU];cases hx:x == n with
   | true=>exact%[_|Z]
   | false=>exact h
  ·rw[IN hk];exact h
theorem eX(env:Env):∀(names:IF (Str×NameKind))(acc:IF (Str×IB))(x:Str),(x,NameKind.free)∈names->∃c,(bN env names acc).lookup x=some c
 | [],acc,x,h=>by simp at h
 | (n,k) :: r,acc,x,h=>by
  rcases G0.mp h with e | e
  ·have e1:x=n:=Ii Prod.fst e;have e2:NameKind.free=k:=Ii Prod.snd e;subst e1;subst e2;apply fV env r _ x ?_;rw[IP (by simp),HU];simp
  ·exact eX env r _ x e
theorem fW{env:Env}{scope:Scope}(hf:∀y∈scope.names,y.2=.free->∃c,env.cells.lookup y.1=some c):closureFor scope env=pure (bN env scope.names []):=by
 have key:∀(names:IF (Str×NameKind))(acc:IF (Str×IB)),(∀y∈names,y.2=.free->∃c,env.cells.lookup y.1=some c) ->
   (forIn names acc (λ (x:Str×NameKind)(r:IF (Str×IB))=>(if (x.2 == NameKind.free)=true then do
    let a<-cellOf env x.1
    pure (ForInStep.yield ((x.1,a) :: r))else pure (ForInStep.yield r)) ):Sem (IF (Str×IB)))=pure (bN env names acc):=by
  intro names
  induction names with
  | nil=>intro acc _;rfl
  | cons y r ih=>
   intro acc h;obtain⟨n,k⟩:=y;have ih':=λ acc=>ih acc λ z hz=>h z (B3 _ hz);rw[List.forIn_cons]
   by_cases hk:(k == NameKind.free)=true
   ·obtain⟨c,hc⟩:=h (n,k) B6 (by simpa using hk);have hc':env.cells.lookup n=some c:=hc;have e1:cellOf env n=pure c:=by unfold cellOf;rw[hc']
    have e2:bN env ((n,k) :: r) acc=bN env r ((n,c) :: acc):=by show bN env r _=_;rw[IP hk,hc'];rfl
    rw[IP hk,e2,<- ih'];show((cellOf env n >>= λ a=>pure (ForInStep.yield ((n,a) :: acc))) >>= _)=_;rw[e1]
    rfl
   ·have e2:bN env ((n,k) :: r) acc=bN env r acc:=by show bN env r _=_;rw[IN hk]
    rw[IN hk,e2,<- ih']
    rfl
 have:=key scope.names [] hf;simp only[closureFor];exact(Ii (λ m=>m >>= λ r=>(pure r:Sem _)) this).trans rfl
theorem iA{env:Env}{scope:Scope}(hcell:∀y∈scope.names,y.2≠.cell){x:Str}:((relabel scope env).names.lookup x=some .cell\/(relabel scope env).names.lookup x=some .free)->(x,NameKind.free)∈scope.names:=by
  have key:∀names:IF (Str×NameKind),(∀y∈names,y.2≠.cell)->∀k,(names.map λ(n,k)=>if (k == NameKind.free && env.scope.kind == .function && env.kindOf n == some .cell)then(n,NameKind.cell)else(n,k)).lookup x=some k ->
      (k=.cell\/k=.free)->(x,NameKind.free)∈names:=by
    intro names
    induction names with
    | nil=>intro _ k h _;simp at h
    | cons y r ih=>
      obtain⟨n,k'⟩:=y;intro hc k h hk;have nc:k'≠.cell:=hc (n,k') B6;rw[G9]at h
      by_cases hb:(k' == NameKind.free && env.scope.kind == .function && env.kindOf n == some .cell)=true
      . have hb':k'=.free:=by simp at hb;exact hb.1.1
        dsimp only at h;rw[IP hb,HU]at h;cases hx:x == n with
        | true=>have:x=n:=(by simpa using hx);subst this;subst hb';exact B6
        | false=>rw[hx]at h;exact B3 _ (ih (λ y hy=>hc y (B3 _ hy)) k h hk)
      . dsimp only at h
        rw[IN hb,HU]at h;cases hx:x == n with
        | true=>
          rw[hx]at h;have:x=n:=by simpa using hx
          subst this;have e:k'=k:=by simpa using h
          rcases hk with q | q
          . exact absurd (e.trans q) nc
          . rw[e,q];exact B6
        | false=>rw[hx]at h;exact B3 _ (ih (λ y hy=>hc y (B3 _ hy)) k h hk)
  rintro(h | h)
  . exact key _ hcell _ h (.inl rfl)
  . exact key _ hcell _ h (.inr rfl)
def bV(X:Cx)(IH:IF (IB×Obj))(s2:F4)(H2:Hp)(scope:Scope)(C:IB)(N':IF Str)(fp:IF IB):Cx where
 prog:=X.prog
 w:=X.w
 K:=X.K
 mg:=X.mg
 base:=X.base
 A:=X.A
 N:=N'
 s₀:=s2
 H₀:=H2
 env:=compEnvC scope (bN X.env scope.names []) C X.env
 outer:=X.stack
 stack:=X.stack
 ex:=fp
 fn:=λ _=>false
 calm:=X.calm
 pn:=X.pn ++ IH
 xe:=λ _ _=>False
def bR(σ:St)(cap:IF Nat)(k:Nat):St:=List.replicate k none ++ cap.map λ j=>(σ[j]?).join
def leS(σ σ':St):Prop:=σ'.length=σ.length/\∀ (i:Nat) v,σ[i]?=some (some v)->σ'[i]?=some (some v)
theorem leS.set{σ:St}{i:Nat}{v:V}(h:σ[i]?=some none):leS σ (σ.set i (some v)):=by
 apply%[by simp|λ j w e=>?_]
 by_cases hj:j=i
 ·subst hj;rw[h]at e;cases e
 ·rw[List.getElem?_set_ne (Ne.symm hj)];exact e
structure CompOk(X:Cx)(scope:Scope)(own:IF Str)(cs:IF Str)(cap:IF Nat):Prop where
 kind:scope.kind=.function
 cell:∀y∈scope.names,y.2≠.cell
 names:∀y∈scope.names,y.2=.local->scope.names.lookup y.1=some .local
 free:∀y∈scope.names,y.2=.free->X.env.kindOf y.1=some .cell\/X.env.kindOf y.1=some .free
 caps:∀ (i:Nat) y,cs[i]?=some y->∃j,cap[i]?=some j/\X.N[j]?=some y/\(y,NameKind.free)∈scope.names
 ownl:∀y∈own,scope.names.lookup y=some .local
 len:cs.length=cap.length
 free2:∀y,(y,NameKind.free)∈scope.names->scope.names.lookup y=some .local->False
def pe(X:Cx)(ifs:IF Expr)(tt:TT):Prop :=
 ∀(IH:IF (IB×Obj))(s:F4)(σ:St)(H:Hp)(Q:Bool->Hp->Prop),Inv X IH σ H s->tt σ H Q ->
  wpAny (model X.prog X.w) X.A (forIn ifs true λ c r=>if r=true then do let ok<-isTrue c X.env (eval c X.env);pure (ForInStep.yield ok)else pure (ForInStep.yield r)) (TP X IH σ Q) X.xe s
def xg:TT:=λ _ H Q=>Q true H
theorem bi{X:Cx}:pe X [] xg:=λ _ _ _ H _ I h=>wpAny_tests_nil %[H,I|h]
theorem eA{X:Cx}{c:Expr}{tt:TT}(h:PT X c tt):pe X [c] tt:=λ IH s σ H Q I q=>wpAny_tests_one (h IH s σ H Q I q)
def gY(σ:St)(cap:IF Nat)(k:Nat)(J:It)(g:TG)(tt:TT)(te:TE)(Q:IF V->Hp->Prop)(W:Nat->Nat->IF V->Hp->Prop):Prop :=
 ∀i m ys H,W i m ys H->(J.stop i H/\ys.length<=sizeLine/\Q ys H) \/
  (J.go i H/\ys.length < sizeLine/\∀x H',J.yld i H x H'->g x (bR σ cap k) H' λ σ2 H2=>leS (bR σ cap k) σ2/\tt σ2 H2 λ ok H3=>
   if ok=true then te σ2 H3 (λ v H4=>∃m',m' < m/\W (i+1) m' (ys ++ [v]) H4)else∃m',m' < m/\W (i+1) m' ys H3)
theorem HOk.add{P:F5}{w:F7}{H:Hp}{h:Heap}{a:IB}{o:HO}(x:HOk P w H h)(n:H a=none)(new:ObjOk P w (upd H a o) h a o):HOk P w (upd H a o) h:=λ b u e=>by
 by_cases hb:b=a
 ·subst hb;rw[upd_same]at e;cases e;exact new
 ·rw[aG hb]at e;exact(x b u e).stay (λ c v _ q=>q) (λ c q=>by rw[aG (aw q n)];exact q) λ c xs q=>by rw[aG (aw q n)];exact q
section
variable{X:Cx}{IH:IF (IB×Obj)}{σ:St}{H2:Hp}{s2:F4}{scope:Scope}{own cs:IF Str}{cap:IF Nat}{fp:IF IB}
theorem mB{h1:Heap}{C:IB}{tk:Nat}(I:Inv X IH σ H2 s2)(ok:CompOk X scope own cs cap)(hf:∀b∈fp,ek X IH H2 b)(hfl:∀b∈fp,b < s2.heap.objs.size)
  (hC:s2.heap.objs.size<=C) (hns:h1.Ns C (λ _=>none)) (old:∀b o,s2.heap.get? b=some o->h1.get? b=some o) :
  Inv (bV X IH s2 H2 scope C (own ++ cs) fp) [] (bR σ cap own.length) H2 { s2 with heap:=h1,toks:=tk }:=by
 have hfr:∀y∈scope.names,y.2=.free->∃c,X.env.cells.lookup y.1=some c:=λ y hy e=>I.ok.has y.1 (ok.free y hy e);have sub:∀x c,(bN X.env scope.names []).lookup x=some c->X.env.cells.lookup x=some c:=λ x c e=>cZ X.env scope.names [] x c hfr (λ _ _ z=>by simp at z) e;have clt:∀x c,(bN X.env scope.names []).lookup x=some c->c < s2.heap.objs.size:=λ x c e=>by obtain⟨v,o,ho,_⟩:=I.cell x c (sub x c e);exact A8 ho
 apply⟨%[I.ok.mod,ok.kind,I.ok.glob,I.ok.blt,hC,λ y z c h1 h2=>I.ok.inj y z c (sub y c h1) (sub z c h2),λ y hy=>?_,λ y c z=>?_,I.ok.hd,I.ok.frames,.inl rfl,λ b hb=>?_,I.bs,C4 I.ok.bsz I.sz,λ b o e hb=>?_,λ b hb z=>?_,I.stack|I.stkFree],
  rfl,I.bare,Un.kept old,%[_,hns|λ i y v e1 e2 e3=>?_],λ y c e=>?_,I.hok.fresh hC,λ y c e=>I.freeC y c (sub y c e),λ p hp=>?_,I.hok.kept old,?_⟩
 ·have hm:=iA ok.cell hy;exact eX X.env scope.names [] y hm
 ·exact absurd (show false=true from z) B1
 ·exact%[B8 (C0 (hfl b hb) hC)|λ x c e=>(hf b hb).2.2.2.2.1 x c (sub x c e)]
 ·rcases(hf b hb).2.2.2.1 with z | z
  ·exact I.ok.noex b o e z
  ·exact absurd (C0 (A8 (I.ok.bs b o e).1) z) (C8 _)
 ·rcases G0.mp (I.stkSub b z)with q | q
  ·exact(hf b hb).2.1 q
  ·exact(hf b hb).2.2.1 q
 ·have hi:own.length<=i:=by
   apply Nat.le_of_not_lt λ q=>?_;unfold bR at e2;rw[List.getElem?_append_left (by simpa using q),List.getElem?_replicate]at e2
   split at e2 <;> cases e2
  have e1':cs[i - own.length]?=some y:=by have e1:(own ++ cs)[i]?=some y:=e1;rwa [Hf hi]at e1
  obtain⟨j,hj,hN,hm⟩:=ok.caps _ y e1';have hk:=ok.free _ hm rfl;have e2':σ[j]?=some (some v):=by
   unfold bR at e2;rw[Hf (by simpa using hi),Hh,G6,hj]at e2;have e2:(σ[j]?).join=some v:=by simpa using e2
   cases q:σ[j]? with
   | none=>rw[q]at e2;cases e2
   | some w=>rw[q]at e2;have:w=some v:=e2;rw[this]
  obtain⟨m,hn,hl⟩:=I.loc;obtain⟨u,ru,l⟩:=hl j y v hN e2' (by rcases hk with q | q;exact .inr (.inl q);exact .inr (.inr q));apply%[u,ru|.inr ?_];obtain⟨c,hc⟩:=eX X.env scope.names [] y hm;have hc':=sub y c hc;have cellu:h1.IsCell c (some u):=by
   rcases l with⟨k,_⟩ | ⟨k,c',e,o,ho,hd⟩
   ·rcases hk with q | q <;> (have z:X.env.kindOf y=_:=q;rw[k]at z;cases z)
   ·rw[hc']at e;cases e;exact%[o,old _ _ ho|hd]
  apply%[?_,c,hc|cellu];rcases e3 with z | z | z
  ·exfalso;have key:∀names:IF (Str×NameKind),True:=λ _=>trivial;have z:(relabel scope X.env).names.lookup y=some .local:=z;have zz:scope.names.lookup y=some .local:=by
    unfold relabel at z;dsimp only at z;revert z;generalize scope.names=names
    induction names with
    | nil=>intro z;simp at z
    | cons q r ih=>
     obtain⟨n,k⟩:=q;intro z;rw[G9]at z
     by_cases hb:(k == NameKind.free && X.env.scope.kind == .function && X.env.kindOf n == some .cell)=true
     ·dsimp only at z;rw[IP hb,HU]at z;rw[HU];cases hx:y == n with
      | true=>rw[hx]at z;cases z
      | false=>rw[hx]at z;exact ih z
     ·dsimp only at z;rw[IN hb,HU]at z;rw[HU];cases hx:y == n with
      | true=>rw[hx]at z;exact z
      | false=>rw[hx]at z;exact ih z
   have:=ok.free2 y hm zz;exact this
  ·exact .inl z
  ·exact .inr z
 ·obtain⟨v,o,ho,hd⟩:=I.cell y c (sub y c e);exact%[v,o,old _ _ ho|hd]
 ·have hp':p∈X.pn ++ IH:=by have:p∈(X.pn ++ IH) ++ []:=hp;simpa using this
  obtain⟨e,n,ne,nf,d⟩:=I.pin p hp';apply%[old _ _ e,n,B8 (C0 (A8 e) hC),λ z=>?_|d];rcases G0.mp (I.stkSub p.1 z)with q | q
  ·exact ne q
  ·exact nf q
 ·show(bR σ cap own.length).length=(own ++ cs).length;unfold bR;rw[G4,Hh,GZ,G4,ok.len]
end
section
variable{X:Cx}{IH:IF (IB×Obj)}{σ:St}{H2:Hp}{s2:F4}{scope:Scope}{own cs:IF Str}{cap:IF Nat}{fp:IF IB}{it:IB}{tn:Nat->Heap->Prop}
 {elt tg iter:Expr} {ifs:IF Expr} {pos:Pos} {J:It} {g:TG} {tt:TT} {te:TE} {E:F8->F4->Prop} {W:Nat->Nat->IF V->Hp->Prop} {Qf:IF V->Hp->Prop}
structure BlkEnd(X:Cx)(IH:IF (IB×Obj))(σ:St)(Qf:IF V->Hp->Prop)(D C:IB)(s':Shared):Prop where
 ex:∃(ys:IF V)(H':Hp),H' D=none/\Qf ys H'/\Inv X IH σ (upd H' D (.lst ys)) s'/\ek X IH (upd H' D (.lst ys)) C
 ns:∃m,s'.heap.Ns C m
theorem Inv.bareP{pins':IF (IB×Obj)}{H:Hp}{s:F4}(I:Inv X pins' σ H s):Inv X [] σ H s:=I.pins_of λ p hp=>absurd hp (by simp)
theorem je{RR:F8->IB->Result->F4->Prop}(I:Inv X IH σ H2 s2)(ok:CompOk X scope own cs cap)(hc:X.calm=true)(T:Turn X.prog X.w X.K tg J fp it tn)(st:tn 0 s2.heap)(hf:∀b∈fp,ek X IH H2 b)
  (hg:∀C,PG (bV X IH s2 H2 scope C (own ++ cs) fp) tg g) (hi:∀C,pe (bV X IH s2 H2 scope C (own ++ cs) fp) ifs tt) (he:∀C,PE (bV X IH s2 H2 scope C (own ++ cs) fp) elt te)
  (w0:∃m,W 0 m [] H2) (turn:gY σ cap own.length J g tt te Qf W)
  (hRR:∀D C s',BlkEnd X IH σ Qf D C s'->RR (.ref D) C (.ok .next) s') :
  wpAny (model X.prog X.w) X.A (newList []) (λ acc s₃=>wpAny (model X.prog X.w) X.A (newFunctionEnv scope X.env.globals (bN X.env scope.names []) [] X.env.qual none .none (some X.env)) (λ cenv s₄=>
   codeAny (model X.prog X.w) X.A (.compStart (.ListComp elt [%[tg,iter,ifs|0]] scope pos) 0 (.ref it) acc { cenv with scope:=relabel scope X.env }) (RR acc cenv.locals) s₄) E s₃) E s2:=by
 apply F2 (wpAny_newFunctionEnv ok.cell (by intro y hy;simp at hy) (λ h₁ hns₁ hsb₁=>?_) ok.kind);dsimp only at hns₁ hsb₁ ⊢;generalize hHH:s2.heap.push { cls:=.type "list",dict:=none,data:=.seq ([]:IF F8).toArray }=HH at hns₁ hsb₁ ⊢;have hCs:HH.objs.size=s2.heap.objs.size+1:=by rw[<- hHH,Heap.size_push]
 have hDC:s2.heap.objs.size≠HH.objs.size:=by rw[hCs];exact B8 (E8 _)
 have hCle:s2.heap.objs.size<=HH.objs.size:=by rw[hCs];exact Nat.le_succ _
 have hfl:∀b∈fp,b < s2.heap.objs.size:=λ b hb=>by obtain⟨o,e,_⟩:=T.obj 0 _ st b hb;exact A8 e
 have old:∀b o,s2.heap.get? b=some o->h₁.get? b=some o:=λ b o e=>hsb₁.extBut b o (by rw[hCs];exact B8 (Nat.lt_succ_of_lt (A8 e))) (A6 _ (hHH ▸ A6 _ e));have hacc:h₁.PlainList s2.heap.objs.size #[]:=%[_|hsb₁.extBut _ _ hDC (A6 _ (hHH ▸ A7 _ rfl))]
 generalize hD:s2.heap.objs.size=D at *;generalize hCC:HH.objs.size=C at *;have hns₁':h₁.Ns C (λ _=>none):=hns₁;have I0:Inv (bV X IH s2 H2 scope C (own ++ cs) fp) [] (bR σ cap own.length) H2 { s2 with heap:=h₁,toks:=s2.toks+([]:IF (Str×F8)).length } :=
  mB I ok hf (λ b hb=>by rw[hD];exact hfl b hb) (by rw[hD];exact hCle) hns₁' old
 have Dfs:D∉frs X.stack:=λ hb=>by obtain⟨_,o,ho,_⟩:=I.stack.mem hb;exact absurd (A8 ho) (by rw[hD];exact C8 _)
 have Dfp:∀b∈fp,D≠b:=λ b hb z=>absurd (hfl b hb) (by rw[<- z];exact C8 _);have clt:∀x c,(bN X.env scope.names []).lookup x=some c->c < D:=λ x c e=>by have e':=cZ X.env scope.names [] x c (λ y hy e=>I.ok.has y.1 (ok.free y hy e)) (λ _ _ z=>by simp at z) e;obtain⟨v,o,ho,_⟩:=I.cell x c e';have:=A8 ho;rw[hD]at this;exact this
 have plt:∀p∈X.pn ++ IH,p.1 < D:=λ p hp=>by have:=A8 (I.pin p hp).1;rw[hD]at this;exact this
 have stat:∀{H':Hp}{ob:Obj},(∀b∈fp,H' b=none)->∀b∈fp,ek (bV X IH s2 H2 scope C (own ++ cs) fp) [(D,ob)] H' b:=λ {H' ob} hn b hb=>by
  have q:=I0.ok.exf b hb;apply%[hn b hb,q.1,I0.ok.exfs b hb,.inl hb,q.2|λ p hp=>?_];rcases C1.mp hp with z | z
  ·exact(hf b hb).2.2.2.2.2 p z
  ·have:p=(D,ob):=by simpa using z
   subst this;exact Dfp b hb
 have loop:codeAny (model X.prog X.w) X.A (.compLoop (.ListComp elt [%[tg,iter,ifs|0]] scope pos) 0 (.ref it) (.ref D) (compEnvC scope (bN X.env scope.names []) C X.env)) (RR (.ref D) C)
   { s2 with heap:=h₁,toks:=s2.toks+([]:IF (Str×F8)).length }:=by
  obtain⟨m0,w0⟩:=w0;apply codeAny_loop rfl (λ n s'=>∃i H' its ys,Inv (bV X IH s2 H2 scope C (own ++ cs) fp) [] (bR σ cap own.length) H' s'/\tn i s'.heap/\(∀b∈fp,H' b=none)/\s'.heap.PlainList D its.toArray/\Vals ys its/\H' D=none/\W i n ys H') ?_ m0
   %[0,H2,[],[],I0,T.keep 0 _ _ st λ b _ o e=>old b o e,λ b hb=>(hf b hb).1,hacc,.nil,I.hok.fresh (by rw[hD];exact B2 _)|w0]
  rintro n s3 ⟨i,H3,its,ys,I3,st3,fr3,⟨nn,pl3⟩,rv3,hD3,w3⟩;show wpAny _ X.A ((compTurn (.ListComp elt [%[tg,iter,ifs|0]] scope pos) 0 (.ref it) (.ref D) (compEnvC scope (bN X.env scope.names []) C X.env)).onRaise (λ x=>do noteFrame x (compEnvC scope (bN X.env scope.names []) C X.env);theTreesLotGoes x)) _ _ s3;apply wpAny_noted ?_;rw[compTurn_list];apply A0 (wpAny_standAt (A0 ?_));have I3':Inv (bV X IH s2 H2 scope C (own ++ cs) fp) [(D,{ cls:=.type "list",data:=.seq its.toArray nn })] (bR σ cap own.length) H3 s3 :=
   I3.pins_of λ p hp=>by
    have:p=(D,{ cls:=.type "list",data:=.seq its.toArray nn }):=by simpa using hp
    subst this;exact%[pl3,hD3,hDC,Dfs|λ v z=>by cases z]
  rcases turn i n ys H3 w3 with⟨stop,hz,qf⟩ | ⟨go,hz,step⟩
  ·apply thn (T.done (bV X IH s2 H2 scope C (own ++ cs) fp) rfl rfl rfl hc i _ s3 _ H3 _ I3' (stat fr3) st3 stop) λ r s4 %[hr|I4]=>?_;subst hr;apply A1 (hRR D C s4 %[%[ys,H3,hD3,qf,?_|?_]|?_])
   ·have pl4:=(I4.pin (D,_) (A4 _ (C9.mpr rfl))).1;have u4:=I4.base;have Ds2:s2.heap.get? D=none:=Heap.get?_none_of_le (by rw[hD];exact B2 _);apply I.call' (s':=s4) (ch:=fp) I4.os %[u4.keep,u4.slot,λ b o e n hx=>?_,u4.there,λ b xs e=>?_,λ b o u e=>?_|λ b ps e=>?_] ?_ I4.bare λ b hb=>%[(hf b hb).2.2.2.1,(hf b hb).2.1,(hf b hb).2.2.2.2.1|(hf b hb).2.2.2.2.2]
    ·rw[aG (λ z=>by rw[z,Ds2]at e;cases e)];exact u4.free b o e n hx
    ·have:=u4.tups b xs e;rw[aG (aw this hD3)];exact this
    ·have:=u4.frzs b o u e;rw[aG (aw this hD3)];exact this
    ·obtain⟨more,e'⟩:=u4.tbls b ps e;exact%[more|by rw[aG (aw e' hD3)];exact e']
    ·exact I4.hok.add hD3 %[hz,its,nn,rv3|pl4]
   ·have CH:(upd H3 D (.lst ys)) C=none:=by rw[aG (Ne.symm hDC)];exact I4.free
    exact I.fpOk (H':=upd H3 D (.lst ys)) (by rw[hD];exact hCle) CH
   ·obtain⟨m,hn,_⟩:=I4.loc;exact%[m|hn]
  ·apply thn (T.item (bV X IH s2 H2 scope C (own ++ cs) fp) rfl rfl rfl hc i _ s3 _ H3 _ I3' (stat fr3) st3 go) λ r s4 %[u,hr|h4]=>?_;subst hr;apply A0 (thn h4 λ _ s5 %[x,H5,I5,r5,y5,st5|fr5]=>?_);have I5':=I5.pinned (stat fr5) (T.obj _ _ st5);apply A0 (wpAny_mono (hg C _ s5 _ H5 x u _ I5' r5 (step x H5 y5)) (λ _ s6 ⟨σ6,H6,I6,le6,q6⟩=>?_) λ _ _ z=>E5 z);apply A0 (wpAny_mono (hi C _ s6 σ6 H6 _ I6 q6) (λ b s7 ⟨H7,I7,q7⟩=>?_) λ _ _ z=>E5 z);have back:∀{pins':IF (IB×Obj)}{H8:Hp}{s8:F4},Inv (bV X IH s2 H2 scope C (own ++ cs) fp) pins' σ6 H8 s8->Inv (bV X IH s2 H2 scope C (own ++ cs) fp) [] (bR σ cap own.length) H8 s8:=λ I8=>
    I8.bareP.weak le6.1.symm λ i v e=>le6.2 i v e
   cases b with
   | false=>
    rw[IN B1]at q7;obtain⟨m',hm,w7⟩:=q7;apply A1 %[rfl,m',hm,i+1,H7,its,ys,back I7,T.keep _ _ _ st5 λ b hb o e=>?_,λ b hb=>?_,%[nn|?_],rv3,?_|w7]
    ·exact(I7.pin (b,o) (A4 _ (A4 _ (bZ hb e)))).1
    ·obtain⟨o,e,d⟩:=T.obj _ _ st5 b hb;exact(I7.pin (b,o) (A4 _ (A4 _ (bZ hb e)))).2.1
    ·exact(I7.pin (D,_) (A4 _ (B5 _ (C9.mpr rfl)))).1
    ·exact(I7.pin (D,_) (A4 _ (B5 _ (C9.mpr rfl)))).2.1
   | true=>
    rw[IP rfl]at q7;apply A0 (A0 (wpAny_mono (he C _ s7 σ6 H7 _ I7 q7) (λ y s8 ⟨v,H8,I8,r8,m',hm,w8⟩=>?_) λ _ _ z=>E5 z));have pD:=I8.pin (D,{ cls:=.type "list",data:=.seq its.toArray nn }) (A4 _ (B5 _ (C9.mpr rfl)));have IJ:=rv3.length;apply A0 (wpAny_list_append_plain (hsz:=by rw[G2];omega) %[nn|pD.1] λ h9 pl9 sb9=>A1 (A1 ?_));have I8':=back I8;apply%[Z,m',hm,i+1,H8,its ++ [y],ys ++ [v],?_,T.keep _ _ _ st5 λ b hb o e=>?_,λ b hb=>?_,?_,rv3.append (.cons r8 .nil),pD.2.1|w8]
    ·exact I8'.turned (t':=s8.toks) (λ b o hb e=>sb9.extBut b o hb e) pD.2.1 hDC (.inr (by show s2.heap.objs.size<=D;rw[hD];exact B2 _)) (λ x c e=>B8 (clt x c e)) λ p hp=>by
      have hp':p∈X.pn ++ IH:=by have:p∈(X.pn ++ IH) ++ []:=hp;simpa using this
      exact B8 (plt p hp')
    ·exact sb9.extBut b o (Ne.symm (Dfp b hb)) (I8.pin (b,o) (A4 _ (A4 _ (bZ hb e)))).1
    ·obtain⟨o,e,d⟩:=T.obj _ _ st5 b hb;exact(I8.pin (b,o) (A4 _ (A4 _ (bZ hb e)))).2.1
    ·have e:its.toArray.push y=(its ++ [y]).toArray:=by simp
     rw[<- e];exact pl9
 exact codeAny_compStart_list loop (T.self _ 0 _ _ _ (T.keep 0 _ _ st λ b _ o e=>old b o e) loop)
def pi(wi:TI)(cap:IF Nat)(k:Nat)(g:TG)(tt:TT)(te:TE):TE:=λ σ H Q=>wi σ H λ J H1=>
 ∃W:Nat->Nat->IF V->Hp->Prop,(∃m,W 0 m [] H1)/\gY σ cap k J g tt te (λ ys H'=>∀p,H' p=none->Q (.ref p) (upd H' p (.lst ys))) W
theorem cu{wi:TI}(hc:X.calm=true)(hit:PI X tg iter wi)(ok:CompOk X scope own cs cap)
  (hg:∀IH s2 H2 C fp,PG (bV X IH s2 H2 scope C (own ++ cs) fp) tg g) (hi:∀IH s2 H2 C fp,pe (bV X IH s2 H2 scope C (own ++ cs) fp) ifs tt) (he:∀IH s2 H2 C fp,PE (bV X IH s2 H2 scope C (own ++ cs) fp) elt te)
  (hs:∀x,foldedSetIterable iter X.env x=pure x:=by intro _;rfl):PE X (.ListComp elt [%[tg,iter,ifs|0]] scope pos) (pi wi cap own.length g tt te):=by
 intro IH s σ H Q I h;rw[eval_ListComp];apply wpAny_comprehension_free (use:=none) rfl hs (fW λ y hy e=>I.ok.has y.1 (ok.free y hy e)) ok.kind ok.names (thn (hit IH s σ H _ I h) λ v s1 h1=>thn h1 λ itv s2 h2=>?_);obtain⟨it,fp,tn,J,H2,e,I2,T,st2,f2,W,w0,turn⟩:=h2;subst e;apply je (RR:=λ acc C=>compPost (model X.prog X.w) X.A X.xe none (EP X IH σ Q) acc C) I2 ok hc T st2 f2 (λ C=>hg _ _ _ _ _) (λ C=>hi _ _ _ _ _) (λ C=>he _ _ _ _ _) w0 turn λ D C s' B=>?_;obtain⟨⟨ys,H',hD,q,I',fp'⟩,m,hn⟩:=B;obtain⟨f0,f1,f2',f3,f4,f5⟩:=fp';exact%[m,hn|λ h' sb=>%[.ref D,_,I'.turned (t':=s'.toks) (λ b o hb e=>sb.extBut b o hb e) f0 f1 f3 f4 f5,Z|q D hD]]
theorem cw{wi:TI}{i:Nat}{y:Str}{py spos:Pos}(hc:X.calm=true)(hN:X.N.Nodup)(hiy:X.N[i]?=some y)(hy:X.env.scope.names.lookup y=some .local)
  (hsw:swapsWith (.ListComp elt [%[tg,iter,ifs|0]] scope pos) (some (.Name y py)) spos.line X.env=pure true) (hit:PI X tg iter wi) (ok:CompOk X scope own cs cap)
  (hg:∀IH s2 H2 C fp,PG (bV X IH s2 H2 scope C (own ++ cs) fp) tg g) (hi:∀IH s2 H2 C fp,pe (bV X IH s2 H2 scope C (own ++ cs) fp) ifs tt) (he:∀IH s2 H2 C fp,PE (bV X IH s2 H2 scope C (own ++ cs) fp) elt te)
  (hs:∀x,foldedSetIterable iter X.env x=pure x:=by intro _;rfl):PS X (.Assign [.Name y py] (.ListComp elt [%[tg,iter,ifs|0]] scope pos) spos) (tW (pi wi cap own.length g tt te) (iZ i)):=by
 intro IH s σ H D0 I h;rw[exec_Assign_Name_used _ _ _ _ hsw];apply A0 (wpAny_standAt (A0 ?_));show wpAny _ X.A (do let _<-comprehension (.ListComp elt [%[tg,iter,ifs|0]] scope pos) scope X.env _ (newList []) false (eval iter X.env) (some (assign (.Name y py) X.env))) _ _ s;apply A0 (wpAny_mono (wpAny_comprehension_free (use:=some (assign (.Name y py) X.env)) (Q:=λ _ s'=>SP X IH D0 .next s') rfl hs (fW λ y hy e=>I.ok.has y.1 (ok.free y hy e)) ok.kind ok.names
  (thn (hit IH s σ H _ I h) λ v s1 h1=>thn h1 λ itv s2 h2=>?_)) (λ _ s' hq=>A1 (A1 hq)) λ _ _ e=>e)
 obtain⟨it,fp,tn,J,H2,e,I2,T,st2,f2,W,w0,turn⟩:=h2;subst e;apply je (RR:=λ acc C=>compPost (model X.prog X.w) X.A X.xe (some (assign (.Name y py) X.env)) (λ _ s'=>SP X IH D0 .next s') acc C) I2 ok hc T st2 f2 (λ C=>hg _ _ _ _ _) (λ C=>hi _ _ _ _ _) (λ C=>he _ _ _ _ _) w0 turn λ D C s' B=>?_;obtain⟨⟨ys,H',hD,q,I',fp'⟩,m,hn⟩:=B;obtain⟨f0,f1,f2',f3,f4,f5⟩:=fp';show wpAny _ X.A (assign (.Name y py) X.env (.ref D)) _ _ _;apply wpAny_assign_Name (gP I' hN hiy (.inl hy) (v:=.ref D) rfl (λ s3 I3 ⟨a,sb,ha⟩=>?_) (.inr hy));have hCa:C≠a:=by
  rcases ha with z | z
  ·rw[z];exact f1
  ·exactλ q=>f4 y a z q.symm
 apply%[m,hn.sameBut sb hCa|λ h' sb'=>%[_,_,I3.turned (t':=s3.toks) (λ b o hb e=>sb'.extBut b o hb e) f0 f1 f3 f4 f5|q D hD]]
end
def CDivB(i j:Int):Prop:=0 < j/\j<=10 ^ 60
theorem CDivB.np{i j:Int}(h:CDivB i j):Builtin.divisionGoesByPylong i j=false:=by
 apply PyProof.noPylong_of_log2 ?_;have h1:j.natAbs < 2 ^ 200:=by obtain⟨a,b⟩:=h;omega
 have h2:j.natAbs.log2 < 200:=(Nat.log2_lt (by have:=h.1;omega)).mpr h1;omega
section
variable{X:Cx}
theorem eC:OpR X (binaryOp .FloorDiv) (rI CDivB λ i j=>.int (i / j)):=opI λ i j _ _ _ _ _ hc q=>by apply floordiv_int (by have:=hc.1;omega) ?_ (.inl hc.np);rw[Int.fdiv_eq_ediv_of_nonneg _ (by have:=hc.1;omega)];exact q
theorem Inv.kitx{IH:IF (IB×Obj)}{σ:St}{H:Hp}{s:F4}{x:V}{u t:F8}(I:Inv X IH σ H s)(rx:RelV x u)(ty:TyOf X.K H x t) :
  ∃P:Heap->Prop,PySem.W.KitX X.K u t P/\P s.heap/\u≠.builtin "__main__.__loader__#opaque" := by
 cases ty with
 | non=>cases(show u=Value.none from rx);exact%[_,PySem.W.kitx_none,True.intro|λ z=>nomatch z]
 | bl y=>cases(show u=Value.bool y from rx);exact%[_,PySem.W.kitx_bool,True.intro|λ z=>nomatch z]
 | int i=>obtain⟨t,q⟩:=(show∃t,u=Value.int i t from rx);cases q;exact%[_,PySem.W.kitx_int,True.intro|λ z=>nomatch z]
 | str y=>obtain⟨t,q⟩:=(show∃t,u=Value.str y t from rx);cases q;exact%[_,PySem.W.kitx_str,True.intro|λ z=>nomatch z]
 | flt y=>obtain⟨t,q⟩:=(show∃t,u=Value.float y t from rx);cases q;exact%[_,PySem.W.kitx_float,True.intro|λ z=>nomatch z]
 | @lst a xs ea=>
  cases(show u=Value.ref a from rx);obtain⟨_,_,n,_,h1⟩:=(show ObjOk X.prog X.w H s.heap a (.lst xs)from I.hok a _ ea)
  exact%[_,PySem.W.kitx_list,%[_,h1|Z]|λ z=>nomatch z]
 | @frz a ob xs ea=>
  cases(show u=Value.ref a from rx);obtain⟨_,_,_,n,_,h1⟩:=(show ObjOk X.prog X.w H s.heap a (.frz ob (.lst xs))from I.hok a _ ea)
  exact%[_,PySem.W.kitx_list,%[_,h1|Z]|λ z=>nomatch z]
 | @tup a xs ea=>
  cases(show u=Value.ref a from rx);obtain⟨_,_,_,p⟩:=(show ObjOk X.prog X.w H s.heap a (.tup xs)from I.hok a _ ea)
  obtain⟨o,h1,h2,_⟩:=p;exact%[_,PySem.W.kitx_tuple,%[o,h1|h2]|λ z=>nomatch z]
 | @dK a kvs ea=>
  cases(show u=Value.ref a from rx);obtain⟨_,_,vs,_,p⟩:=(show ObjOk X.prog X.w H s.heap a (.dK kvs)from I.hok a _ ea)
  obtain⟨o,es,ep,h1,h2,_⟩:=p;exact%[_,PySem.W.kitx_dict,%[o,h1|h2.1]|λ z=>nomatch z]
 | @dT a kvs ea=>
  cases(show u=Value.ref a from rx);obtain⟨_,_,xs,_,o,es,ep,h1,h2,_⟩:=(show ObjOk X.prog X.w H s.heap a (.dT kvs)from I.hok a _ ea)
  exact%[_,PySem.W.kitx_dict,%[o,h1|h2.1]|λ z=>nomatch z]
 | @ext a φ ea c=>
  cases(show u=Value.ref a from rx);obtain⟨p,_,_⟩:=(show ObjOk X.prog X.w H s.heap a (.ext φ)from I.hok a _ ea)
  obtain⟨o,h1,h2⟩:=c _ p;exact%[_,PySem.W.kitx_dict,%[o,h1|h2]|λ z=>nomatch z]
 | @ins a C dx fs ea cl ha hn htk hm=>
  cases(show u=Value.ref a from rx);obtain⟨mA,O,_⟩:=el I.hok ea;obtain⟨od,J,_⟩:=O.look;exact%[_,PySem.W.kitx_own (cl.get _) cl.hd ha hn htk hm,J|λ z=>nomatch z]
def clV:V->ID Value
 | .ty T=>some (.type T)
 | .ref C=>↑C
 | _=>none
theorem clV.rel{v:V}{u c:F8}(e:clV v=some c)(r:RelV v u):u=c:=by
 cases v with
 | ty T=>have e':Value.type T=c:=B7 e;rw[<- e'];exact r
 | ref C=>have e':Value.ref C=c:=B7 e;rw[<- e'];exact r
 | _=>cases e
def clVs:IF V->ID (IF F8)
 | []=>some []
 | v :: r=>match clV v,clVs r with
  | some c,some cs=>some (c :: cs)
  | _,_=>none
theorem clVs.rel:∀{vs:IF V}{us cs:IF F8},clVs vs=some cs->Vals vs us->us=cs
 | [],_,_,e,.nil=>B7 e
 | v :: r,_,_,e,.cons r1 r2=>by
  unfold clVs at e
  split at e
  ·rename_i c cs' e1 e2
   cases e;rw[clV.rel e1 r1,clVs.rel e2 r2]
  ·cases e
inductive rz_call_isinst(K:C3)(xs:IF V)(H:Hp)(Q:VK):Prop
|mk(x cv t c b:_)(_:xs=[x,cv])(_:TyOf K H x t)(_:clV cv=some c)(_:PySem.W.kitOne K t c=some b)(_:Q (.bl b) H)
theorem aV:cn X (.builtin "isinstance") (rz_call_isinst X.K):=by
 intro IH s σ H xs us Q I rv h;obtain⟨x,cv,t,c,b,rfl,ty,e1,e2,q⟩:=h;cases rv with
 | cons r1 rr=>
  cases rr with
  | cons r2 rr=>
   cases rr;rw[clV.rel e1 r2];exact mr I r1 ty e2 λ tk=>%[.bl b,H,I.tok tk,Z|q]
inductive rz_call_isinstT(K:C3)(xs:IF V)(H:Hp)(Q:VK):Prop
|mk(x p t cvs cs b:_)(_:xs=[x,.ref p])(_:TyOf K H x t)(_:H p= ~~~cvs)(_:clVs cvs=some cs)(_:PySem.W.kitAny K t cs=some b)(_:Q (.bl b) H)
theorem iB:cn X (.builtin "isinstance") (rz_call_isinstT X.K):=by
 intro IH s σ H xs us Q I rv h;obtain⟨x,p,t,cvs,cs,b,rfl,ty,hp,e1,e2,q⟩:=h;cases rv with
 | cons r1 rr=>
  cases rr with
  | cons r2 rr=>
   cases rr;cases r2;obtain⟨_,its,rits,o,ho,hc,n,hd⟩:=I.hok p _ hp;obtain⟨P,ZZ0,p1,p2⟩:=I.kitx r1 ty;obtain⟨oc,od,dt,osl⟩:=o
   replace hc:oc=.type "tuple" := hc
   replace hd:dt=.seq its.toArray n:=hd
   subst hc hd;have e3:=clVs.rel e1 rits;subst e3;exact PySem.W.kia_tup ZZ0 I.kIn p1 ho e2 p2 λ tk=>%[.bl b,H,I.tok tk,Z|q]
end
mutual
inductive DatV(K:C3)(H:Hp):V->PyData->Prop
 | non:DatV K H .non .none
 | bl (b:Bool):DatV K H (.bl b) (.bool b)
 | int (i:Int):DatV K H (.int i) (.int i)
 | str (x:Str):DatV K H (.str x) (.str x)
 | lst {a:IB} {xs:IF V} {ds:IF PyData}:SqL K H a xs->DatVs K H xs ds->DatV K H (.ref a) (.list ds)
 | tup {a:IB} {xs:IF V} {ds:IF PyData}:SqT K H a xs->DatVs K H xs ds->DatV K H (.ref a) (.tuple ds)
inductive DatVs(K:C3)(H:Hp):IF V->IF PyData->Prop
 | nil:DatVs K H [] []
 | cons {x:V} {d:PyData} {xs:IF V} {ds:IF PyData}:DatV K H x d->DatVs K H xs ds->DatVs K H (x :: xs) (d :: ds)
end
section
variable{X:Cx}{IH:IF (IB×Obj)}{σ:St}{H:Hp}{s:F4}
mutual
theorem Inv.reads(I:Inv X IH σ H s):∀{v:V}{d:PyData},DatV X.K H v d->∀{u:F8},RelV v u->∃as,Reads s.heap u d as
 | _,_,.non,u,r=>by cases(show u=Value.none from r);exact%[_|.none]
 | _,_,.bl b,u,r=>by cases(show u=Value.bool b from r);exact%[_|.bool b]
 | _,_,.int i,u,r=>by obtain⟨t,e⟩:=(show∃t,u=Value.int i t from r);subst e;exact%[_|.int i t]
 | _,_,.str x,u,r=>by obtain⟨t,e⟩:=(show∃t,u=Value.str x t from r);subst e;exact%[_|.str x t]
 | _,_,.lst (a:=a) h hs,u,r=>by cases(show u=Value.ref a from r);obtain⟨its,rv,⟨o,n,e,c,_,d⟩,_⟩:=I.list h;obtain⟨as,ra⟩:=I.readsAll hs rv;exact%[_|.list e c d (by simpa using ra)]
 | _,_,.tup (a:=a) h hs,u,r=>by cases(show u=Value.ref a from r);obtain⟨its,rv,⟨o,e,c,n,d⟩,_⟩:=I.tuple h;obtain⟨as,ra⟩:=I.readsAll hs rv;exact%[_|.tuple e c d (by simpa using ra)]
theorem Inv.readsAll(I:Inv X IH σ H s):∀{vs:IF V}{ds:IF PyData},DatVs X.K H vs ds->∀{us:IF F8},Vals vs us->∃as,ReadsAll s.heap us ds as
 | _,_,.nil,_,.nil=>%[_|.nil]
 | _,_,.cons h hs,_,.cons r rs=>by obtain⟨as,ra⟩:=I.reads h r;obtain⟨bs,rb⟩:=I.readsAll hs rs;exact%[_|.cons ra rb]
end
end
section
variable{X:Cx}
inductive rz_op_neD(K:C3)(x:V)(y:V)(H:Hp)(Q:VK):Prop
|mk(da db:_)(_:DatV K H x da)(_:DatV K H y db)(_:SeqAt.shaped da=true)(_:SeqAt.shaped db=true)(_:Q (.bl (!PyData.eqv da db)) H)
theorem jX(hu:X.A.units+64 < cLine):OpR X (compareOp .NotEq) (rz_op_neD X.K):=by intro IH s σ H x y v u Q I rx ry h;obtain⟨da,db,hx,hy,s1,s2,q⟩:=h;obtain⟨as,ra⟩:=I.reads hx rx;obtain⟨bs,rb⟩:=I.reads hy ry;exact ne_dataH ra rb s1 s2 hu %[.bl _,H,I,rfl|q]
inductive rz_op_eqD(K:C3)(x:V)(y:V)(H:Hp)(Q:VK):Prop
|mk(da db:_)(_:DatV K H x da)(_:DatV K H y db)(_:SeqAt.shaped da=true)(_:SeqAt.shaped db=true)(_:Q (.bl (PyData.eqv da db)) H)
theorem pj(hu:X.A.units+64 < cLine):OpR X (compareOp .Eq) (rz_op_eqD X.K):=by intro IH s σ H x y v u Q I rx ry h;obtain⟨da,db,hx,hy,s1,s2,q⟩:=h;obtain⟨as,ra⟩:=I.reads hx rx;obtain⟨bs,rb⟩:=I.reads hy ry;exact eq_dataH ra rb s1 s2 hu %[.bl _,H,I,rfl|q]
end
section
variable{prog:F5}{w:F7}{A:Around}{E:F8->F4->Prop}
theorem fX{it l:IB}{items:IE F8}(hne:l≠it):∀(n i:Nat)(s:F4)(Q:IF F8->F4->Prop),s.heap.IsListIter it l i->s.heap.IsList l items->i+n<=items.size ->
  (∀h',h'.IsListIter it l (i+n)->Heap.SameBut it s.heap h'->Q ((items.toList.drop i).take n) { s with heap:=h' })->wpAny (model prog w) A (draw (.ref it) n) Q E s
 | 0,i,s,Q,hit,_,_,hQ=>by show wpAny _ _ (pure []) Q E s;exact A1 (by simpa using hQ s.heap hit (Heap.SameBut.refl ..))
 | n+1,i,s,Q,hit,ht,hle,hQ=>by
  have hlt:i < items.size:=⋯
  show wpAny _ _ (pyNext (.ref it) >>= _) Q E s;apply A0 (wpAny_pyNext_list_item hit ht (x:=items[i]) (by simp[hlt]) λ h₁ hit₁ hs₁=>?_);apply A0 (IX (fX hne n (i+1) _ _ hit₁ (ht.extBut hs₁.extBut hne) ⋯ λ h₂ hit₂ hs₂=>A1 ?_));have hd:items.toList.drop i=items[i] :: items.toList.drop (i+1):=by simp[List.drop_eq_getElem_cons,hlt]
  have q:=hQ h₂ (by rw[show i+(n+1)=i+1+n by omega];exact hit₂) (hs₁.trans hs₂);rw[hd,List.take_succ_cons]at q;exact q
theorem eD{s:F4}{l:IB}{items:IE F8}{Q:IF F8->F4->Prop}(hh:A.handled=none)(ht:s.heap.IsList l items)
  (hQ:∀h',Heap.ExtBut s.heap.objs.size s.heap h'->Q items.toList { s with heap:=h' }):wpAny (model prog w) A (unpackItems (.ref l) items.size none) Q E s:=by
 have hlt:l≠s.heap.objs.size:=by obtain⟨o,ho,_⟩:=ht;exact B8 (A8 ho)
 have hp:(s.heap.push { cls:=.type "list_iterator",data:=.fields #[.ref l,.int 0 0] }).IsList l items:=by obtain⟨o,ho,r⟩:=ht;exact%[o,A6 _ ho|r]
 unfold unpackItems;apply A0 ?_
 ·unfold notIterableAtAll;apply A0 (wpAny_specialOf ht.typeIs PySem.slot_list_iter.lookup ?_);apply A1 ?_;simp only[HL,Io];apply A0 (IX (wpAny_pyIter_list ht ?_));apply A0 (IX (fX hlt items.size 0 _ _ %[_,A7 _ rfl,rfl|rfl] hp ⋯ λ h₁ hit₁ hs₁=>?_));have hall:List.take items.size (List.drop 0 items.toList)=items.toList:=by rw[List.drop_zero];exact HP (by simp)
  rw[hall];rw[IN (by simp)];have ht₁:h₁.IsList l items:=hp.extBut hs₁.extBut hlt;apply A0 (IX (wpAny_pyNext_list_end hh hit₁ ht₁ (by simp) λ h₂ he₂=>?_));simp only[Option.isSome_none,HL,if_false];apply A1 (hQ h₂ λ b o hb e=>he₂ b o hb (hs₁.extBut b o hb (A6 _ e)))
theorem ef{s:F4}{env:Env}{elts:IF Expr}{x1}{pos:Pos}{l:IB}{items:IE F8}{Q:Unit->F4->Prop}(hh:A.handled=none)(ht:s.heap.IsList l items)
  (hn:(assignEach elts env).length=items.size) (hstar:(assignEach elts env).findIdx? (·.1)=none)
  (h:∀h',Heap.ExtBut s.heap.objs.size s.heap h'->wpAny (model prog w) A (assignInOrder ((assignEach elts env).map (·.2)) items.toList) Q E { s with heap:=h' }) :
  wpAny (model prog w) A (assign (.Tuple elts x1 pos) env (.ref l)) Q E s:=by
 rw[assign_Tuple];apply A0 (wpAny_standAt ?_);unfold unpack;rw[hn,hstar];exact A0 (IX (eD hh ht h))
end
section
variable{X:Cx}{pos:Pos}
def Eu(K:C3)(n:Nat)(t:TGs):TG:=λ v σ H Q=>∃a xs,v=.ref a/\(SqL K H a xs\/SqT K H a xs)/\xs.length=n/\t xs σ H Q
theorem jY{es:IF Expr}{k:Nat}{t:TGs}{n:Nat}(hc:X.calm=true)(h:PGs X es t)
  (hn:(assignEach es X.env).length=n:=by rfl) (hst:(assignEach es X.env).findIdx? (·.1)=none:=by rfl):PG X (.Tuple es k pos) (Eu X.K n t):=by
 intro IH s σ H v u Q I r hw;obtain⟨a,xs,e1,hq,hl,hw⟩:=hw;rcases hq with hq | hq
 ·subst e1;cases r;obtain⟨its,rv,ht,hz⟩:=I.list hq;apply ef (I.ok.hd hc) ht.isList (by simp[hn,<- hl,rv.length]) hst λ h' hx=>?_;have I1:Inv X IH σ H { s with heap:=h' }:=I.kept (t':=s.toks) λ b o e=>hx b o (B8 (A8 e)) e;exact h IH _ σ H xs _ Q I1 (by simpa using rv) hw
 ·exact bc hc h hn hst IH s σ H v u Q I r %[a,xs,e1,hq,hl|hw]
end
def Itz(l1 l2:IB):It :=
  ⟨λ i H=>∃xs ys x y,H l1=↥xs/\H l2=↥ys/\xs[i]?=some x/\ys[i]?=some y,
   λ i H v H'=>∃p xs ys x y,H p=none/\v=.ref p/\H'=upd H p (.tup [x,y])/\H l1=↥xs/\H l2=↥ys/\xs[i]?=some x/\ys[i]?=some y,
   λ i H=>∃xs ys,H l1=↥xs/\H l2=↥ys/\(xs.length<=i\/ys.length<=i)⟩
section
variable{X:Cx}
theorem Inv.turnedN{IH:IF (IB×Obj)}{σ:St}{H:Hp}{s:F4}{h':Heap}{t':Nat}{ch:IF IB}(I:Inv X IH σ H s)(hf:∀b∈ch,ek X IH H b)(k:∀b o,b∉ch->s.heap.get? b=some o->h'.get? b=some o):Inv X IH σ H { s with heap:=h',toks:=t' }:=by
 have hLc:X.env.locals∉ch:=λ z=>(hf _ z).2.1 rfl;have nt:∀b u,H b=some u->b∉ch:=λ b u e z=>by rw[(hf b z).1]at e;cases e
 apply I.step (g':=s.gens) (d':=s.drawn) (ch:=ch) (λ b hb=>%[(hf b hb).2.2.2.1,(hf b hb).2.1,(hf b hb).2.2.2.2.1|(hf b hb).2.2.2.2.2]) (λ b o _ _ hc e _=>k b o hc e) (λ b o _ _ hc e _=>%[o.slots|k b o hc e]) (λ _ _ _ _ n=>n)
  (λ b o hc e=>%[o|k b o hc e]) (λ _ _ e=>e) (λ _ _ _ e=>e) (λ b ps e=>%[#[]|by rw[e];simp]) (λ m hm=>?_) (λ b u e=>?_) I.bare
 ·obtain⟨o,es,ep,ho,r⟩:=hm;exact%[o,es,ep,k _ o hLc ho|r]
 ·apply(I.hok b u e).stay (λ c v hc q=>k c v ?_ q) (λ _ q=>q) λ _ _ q=>q;rcases hc with z | z
  ·rw[z];exact nt b u e
  ·exact nt c _ z
theorem Inv.track{IH:IF (IB×Obj)}{σ:St}{H:Hp}{s:F4}{a:IB}{o:HO}(I:Inv X IH σ H s)(hf:ek X IH H a)(fa:X.s₀.heap.objs.size<=a)(new:ObjOk X.prog X.w (upd H a o) s.heap a o):Inv X IH σ (upd H a o) s:=by
 obtain⟨f0,f1,f2,f3,f4,f5⟩:=hf;have s0:∀b o,X.s₀.heap.get? b=some o->b≠a:=λ b o e=>B8 (C0 (A8 e) fa);apply%[I.ok,I.os,I.bare,%[I.base.keep,I.base.slot,λ b o e n hx=>?_,I.base.there,λ b xs e=>?_,λ b o u e=>?_|λ b ps e=>?_],I.loc,I.cell,?_,λ x c e=>?_,λ p hp=>?_,I.hok.add f0 new|I.len]
 ·rw[aG (s0 b o e)];exact I.base.free b o e n hx
 ·have q:=I.base.tups b xs e;rw[aG (aw q f0)];exact q
 ·have q:=I.base.frzs b o u e;rw[aG (aw q f0)];exact q
 ·obtain⟨more,q⟩:=I.base.tbls b ps e;exact%[more|by rw[aG (aw q f0)];exact q]
 ·rw[aG (Ne.symm f1)];exact I.free
 ·rw[aG (f4 x c e)];exact I.freeC x c e
 ·obtain⟨e,n,r⟩:=I.pin p hp;exact%[e,by rw[aG (f5 p hp)];exact n|r]
end
structure ZipAp(z TI TO i1 i2:IB):Prop where
 nd:[z,TI,TO,i1,i2].Nodup
theorem pw{P:F5}{w:F7}{K:C3}{es:IF Expr}{kk:Nat}{tp:Pos}(l1 l2 z TI TO i1 i2:IB)(D:ZipAp z TI TO i1 i2) :
  Turn P w K (.Tuple es kk tp) (Itz l1 l2) [z,TI,TO,i1,i2] z (λ i h=>IsZip h z TI TO .none/\IsPair h TI (.ref i1) (.ref i2)/\(∃a b,IsPair h TO a b)/\h.IsListIter i1 l1 i/\h.IsListIter i2 l2 i) where
 mem:=by simp
 obj:=λ i h st b hb=>by
  obtain⟨a1,a2,⟨x,y,a3⟩,⟨o4,a4,_,d4⟩,⟨o5,a5,_,d5⟩⟩:=st;simp only[G0,G3,IS]at hb;rcases hb with rfl | rfl | rfl | rfl | rfl
  ·exact%[_,a1|λ v q=>by cases q]
  ·exact%[_,a2|λ v q=>by cases q]
  ·exact%[_,a3|λ v q=>by cases q]
  ·exact%[_,a4|λ v q=>by rw[d4]at q;cases q]
  ·exact%[_,a5|λ v q=>by rw[d5]at q;cases q]
 keep:=λ i h h' st k=>by obtain⟨a1,a2,⟨x,y,a3⟩,a4,a5⟩:=st;exact%[k z (by simp) _ a1,k TI (by simp) _ a2,%[x,y|k TO (by simp) _ a3],a4.at λ o e=>k i1 (by simp) o e|a5.at λ o e=>k i2 (by simp) o e]
 item:=by
  intro X hP hw hK hc i IH s σ H E I hf st hg;subst hP hw hK;obtain⟨a1,a2,⟨x0,y0,a3⟩,a4,a5⟩:=st;obtain⟨xs,ys,x,y,e1,e2,ex,ey⟩:=hg;have tr:∀{l:IB}{zs:IF V},H l=↥zs->∀b∈[z,TI,TO,i1,i2],l≠b:=λ e b hb q=>by rw[q,(hf b hb).1]at e;cases e
  have nd:=D.nd;simp only[Hn,G0,G3,IS,not_or,List.nodup_nil,and_true,not_false_eq_true]at nd;obtain⟨⟨n1,n2,n3,n4⟩,⟨n5,n6,n7⟩,⟨n8,n9⟩,n10⟩:=nd;have A':ZipApart z TI TO i1 i2 l1 l2:=%[Ne.symm n1,Ne.symm n2,Ne.symm n3,Ne.symm n4,n5,n6,n7,n8,n9,n10,tr e1 z (by simp),tr e1 TO (by simp),tr e1 i1 (by simp),tr e1 i2 (by simp),tr e2 z (by simp),tr e2 TO (by simp),tr e2 i1 (by simp)|tr e2 i2 (by simp)]
  obtain⟨its1,rv1,p1,_⟩:=I.list (GW e1);obtain⟨its2,rv2,p2,_⟩:=I.list (GW e2);obtain⟨u1,hu1,r1⟩:=rv1.get ex;obtain⟨u2,hu2,r2⟩:=rv2.get ey;apply wpAny_pyNext_zip_item A' a1 a2 a3 a4 a5 p1.isList p2.isList (x:=u1) (y:=u2) (by simpa using hu1) (by simpa using hu2) λ h' b1 b2 b3 b4 b5 b6 bk=>%[_,Z|?_]
  apply wpAny_letOwnedTupleGo_zip b1 λ h'' c1 cs=>?_;have zs:z < s.heap.objs.size:=A8 a1;have k2:∀b o,b∉[z,TI,TO,i1,i2]->s.heap.get? b=some o->h''.get? b=some o:=λ b o hb e=>by simp only[G0,G3,IS,not_or]at hb;exact cs.extBut b o hb.1 (bk b o hb.1 hb.2.2.1 hb.2.2.2.1 hb.2.2.2.2 e)
  have I1:Inv X IH σ H { s with heap:=h'' }:=I.turnedN (t':=s.toks) hf k2;have hp:h''.get? s.heap.objs.size=some { cls:=.type "tuple",data:=.seq #[u1,u2] }:=cs.extBut _ _ (Nat.ne_of_gt zs) b5;have hn:H s.heap.objs.size=none:=I.hok.fresh (B2 _);have fpk:=I.fpOk (H':=H) (B2 _) hn;have I2:Inv X IH σ (upd H s.heap.objs.size (.tup [x,y])) { s with heap:=h'' }:=I1.track fpk I.sz %[by show 2<=sizeLine;decide,[u1,u2],.cons r1 (.cons r2 .nil),_,hp,Z,_|Z];apply%[.ref s.heap.objs.size,_,I2,Z,%[_,xs,ys,x,y,hn,Z,Z,e1,e2,ex|ey],%[c1,?_,%[u1,u2|cs.extBut _ _ (Ne.symm n2) b2],b3.extBut cs.extBut (Ne.symm n3)|b4.extBut cs.extBut (Ne.symm n4)]|λ b hb=>?_]
  ·exact cs.extBut _ _ (Ne.symm n1) (bk _ _ (Ne.symm n1) n5 n6 n7 a2)
  ·have hbl:b < s.heap.objs.size:=by
    simp only[G0,G3,IS]at hb;obtain⟨o4,a4',_⟩:=a4;obtain⟨o5,a5',_⟩:=a5;rcases hb with rfl | rfl | rfl | rfl | rfl
    ·exact zs
    ·exact A8 a2
    ·exact A8 a3
    ·exact A8 a4'
    ·exact A8 a5'
   rw[aG (B8 hbl)];exact(hf b hb).1
 done:=by
  intro X hP hw hK hc i IH s σ H E I hf st hg;subst hP hw hK;obtain⟨a1,a2,⟨x0,y0,a3⟩,a4,a5⟩:=st;obtain⟨xs,ys,e1,e2,ex⟩:=hg;have tr:∀{l:IB}{zs:IF V},H l=↥zs->∀b∈[z,TI,TO,i1,i2],l≠b:=λ e b hb q=>by rw[q,(hf b hb).1]at e;cases e
  have nd:=D.nd;simp only[Hn,G0,G3,IS,not_or,List.nodup_nil,and_true,not_false_eq_true]at nd;obtain⟨⟨n1,n2,n3,n4⟩,⟨n5,n6,n7⟩,⟨n8,n9⟩,n10⟩:=nd;have A':ZipApart z TI TO i1 i2 l1 l2:=%[Ne.symm n1,Ne.symm n2,Ne.symm n3,Ne.symm n4,n5,n6,n7,n8,n9,n10,tr e1 z (by simp),tr e1 TO (by simp),tr e1 i1 (by simp),tr e1 i2 (by simp),tr e2 z (by simp),tr e2 TO (by simp),tr e2 i1 (by simp)|tr e2 i2 (by simp)]
  obtain⟨its1,rv1,p1,_⟩:=I.list (GW e1);obtain⟨its2,rv2,p2,_⟩:=I.list (GW e2);have l1':=rv1.length;have l2':=rv2.length;apply wpAny_pyNext_zip_end (I.ok.hd hc) A' a1 a2 a3 a4 a5 p1.isList p2.isList (by rcases ex with q | q;exact .inl (by simp;omega);exact .inr (by simp;omega)) λ h' bk=>%[Z|?_]
  exact I.turnedN (t':=s.toks) hf λ b o hb e=>by simp only[G0,G3,IS,not_or]at hb;exact bk b o hb.1 hb.2.2.1 hb.2.2.2.1 hb.2.2.2.2 e
 self:=λ _ _ _ _ _ st h=>wpAny_pyIter_zip st.1 h
def Ev(ta:TA):TI:=λ σ H R=>ta σ H λ vs H1=>∃l1 l2 xs ys,vs=[.ref l1,.ref l2]/\H1 l1=↥xs/\H1 l2=↥ys/\R (Itz l1 l2) H1
theorem fY{X:Cx}{a b:Expr}{ta:TA}{p pos tp:Pos}{es:IF Expr}{kk:Nat}(hg:Gl X "zip")(hm:X.mg "zip" = none)(ha:PA X [a,b] ta)
  (hs:starEach [a,b] X.env=[(false,eval a X.env),(false,eval b X.env)]:=by rfl) (hs2:starEach [b] X.env=[(false,eval b X.env)]:=by rfl) :
  PI X (.Tuple es kk tp) (.Call (.Name "zip" p) [a,b] [] pos) (Ev ta):=by
 intro IH s σ H R I h;apply Call_ (dW I hg hm PyProof.Rows.boot_zip (Ic (thn (ha pos IH s σ H _ I h) λ us s1 %[vs,H1,I1,r1|q1]=>?_) (by rw[hs,hs2]) (by rw[hs2];rfl)));obtain⟨l1,l2,xs,ys,rfl,e1,e2,q⟩:=q1;cases r1 with
 | cons r rr=>
  cases rr with
  | cons r' rr=>
   cases rr;cases r;cases r';obtain⟨its1,rv1,p1,_⟩:=I1.list (GW e1);obtain⟨its2,rv2,p2,_⟩:=I1.list (GW e2);apply call_zip_2 p1.isList p2.isList λ h' z1 z2 z3 z4 z5 sz keep=>?_;have I2:Inv X IH σ H1 { s1 with heap:=h' }:=I1.kept (t':=s1.toks) keep;apply wpAny_pyIter_zip z1 %[s1.heap.objs.size+4,[s1.heap.objs.size+4,s1.heap.objs.size+2,s1.heap.objs.size+3,s1.heap.objs.size,s1.heap.objs.size+1],_,_,H1,rfl,I2,pw l1 l2 _ _ _ _ _ %[|by simp],%[z1,z2,%[_,_|z3],z4|z5],λ b hb=>?_|q];have hb':s1.heap.objs.size<=b:=by simp only[G0,G3,IS]at hb;rcases hb with rfl | rfl | rfl | rfl | rfl <;> omega
   exact I1.fpOk hb' (I1.hok.fresh hb')
end L2
namespace L2
open PySem PySem.Spec PyProof.Rows
def Dn(P:F5)(w:F7)(K:C3)(mg:Str->ID F8)(base:Heap)(x:Str)(ps:IF Str)(k:Nat)(sp:Sp):Prop :=
 ∃(f:IB)(fd:F6),FnOk P w K mg base CX0 k f fd ps sp/\Binds K fd ps []/\PySem.W.keepIn K (.ref f)=true/\mg x=↑f
theorem ay{X:Cx}{k:Nat}{ps:IF Str}{sp:Sp}{x:Str}{p pos:Pos}{e:Expr}{es:IF Expr}{t:TA}(D:Dn X.prog X.w X.K X.mg X.base x ps k sp)(hr:Room k X.A)(hg:Gl X x)(ha:PA X (e :: es) t)
  (hdb:(x == ("__debug__" : Str))=false:=by decide) (he:starEach (e :: es) X.env=(false,eval e X.env) :: starEach es X.env:=by rfl) (hpl:(backTo pos (starEach es X.env)).any (·.1)=false:=by rfl) :
  PE X (.Call (.Name x p) (e :: es) [] pos) (tq sp [] E0 t):=by
 obtain⟨f,fd,F,hb,hk,hm⟩:=D;exact qX F hr hg hm hk hb .nil lB ha hdb he hpl
def lC(sc:Scope)(N:IF Str)(scope:Scope)(own cs:IF Str)(cap:IF Nat):Bool :=
 decide (scope.kind=.function) && scope.names.all (λ y=>decide (y.2≠.cell)) && scope.names.all (λ y=>decide (y.2=.local->scope.names.lookup y.1=some .local)) &&
 scope.names.all (λ y=>decide (y.2=.free->sc.names.lookup y.1=some .cell\/sc.names.lookup y.1=some .free)) && own.all (λ y=>decide (scope.names.lookup y=some .local)) &&
 decide (cs.length=cap.length) && (cs.zip cap).all (λ y=>decide (N[y.2]?=some y.1) && decide ((y.1,NameKind.free)∈scope.names)) && scope.names.all (λ y=>decide (y.2=.free->scope.names.lookup y.1≠some .local))
theorem aR{X:Cx}{sc:Scope}{N:IF Str}{scope:Scope}{own cs:IF Str}{cap:IF Nat}(h1:X.env.scope=sc)(h2:X.N=N)(h:lC sc N scope own cs cap=true):CompOk X scope own cs cap:=by
 subst h1 h2;unfold lC at h;simp only[HX,Hl,decide_eq_true_eq]at h;obtain⟨⟨⟨⟨⟨⟨⟨a1,a2⟩,a3⟩,a4⟩,a5⟩,a6⟩,a7⟩,a8⟩:=h;apply%[a1,a2,a3,a4,λ i y e=>?_,a5,a6|λ y hy e=>a8 _ hy rfl e];have hi:i < cs.length:=(A5.mp e).1;have hj:i < cap.length:=by rw[<- a6];exact hi
 apply%[cap[i],E9 hj|?_];have hm:(y,cap[i])∈cs.zip cap:=by
  have:(cs.zip cap)[i]?=some (y,cap[i]):=by rw[List.getElem?_zip_eq_some];exact%[e|E9 hj]
  exact B4 this
 exact a7 _ hm
theorem bj{σ:St}{H:Hp}{A B:Hp->Prop}(h:A H):xg σ H (λ ok H3=>if ok=true then A H3 else B H3):=by show(if (true:Bool)=true then A H else B H);rw[IP rfl];exact h
section
variable{X:Cx}{tg:Expr}
def ur(K:C3)(tl:TE):TI:=λ σ H R=>sY K tl σ H R\/wS K tl σ H R
theorem fZ{l:Expr}{tl:TE}(hl:PE X l tl):PI X tg l (ur X.K tl):=by
 intro IH s σ H R I h;rcases h with h | h
 ·exact bh hl IH s σ H R I h
 ·exact oJ hl IH s σ H R I h
end
def aZ:IF String:=["NoneType","bool","int","str","list","tuple","dict"]
theorem lD{K:C3}:∀T∈aZ,PySem.W.kitOne K (.type T) (.type "int")=some (T == "int" || T == "bool"):=by intro T h;simp only[aZ,G0,G3,IS]at h;rcases h with rfl | rfl | rfl | rfl | rfl | rfl | rfl <;> kernel_rfl
theorem dw{K:C3}:∀T∈aZ,PySem.W.kitOne K (.type T) (.type "bool")=some (T == "bool"):=by intro T h;simp only[aZ,G0,G3,IS]at h;rcases h with rfl | rfl | rfl | rfl | rfl | rfl | rfl <;> kernel_rfl
theorem jf{K:C3}:∀T∈aZ,PySem.W.kitOne K (.type T) (.type "list")=some (T == "list"):=by intro T h;simp only[aZ,G0,G3,IS]at h;rcases h with rfl | rfl | rfl | rfl | rfl | rfl | rfl <;> kernel_rfl
theorem dF{K:C3}:∀T∈aZ,PySem.W.kitOne K (.type T) (.type "tuple")=some (T == "tuple"):=by intro T h;simp only[aZ,G0,G3,IS]at h;rcases h with rfl | rfl | rfl | rfl | rfl | rfl | rfl <;> kernel_rfl
theorem rn{K:C3}:∀T∈aZ,PySem.W.kitOne K (.type T) (.type "str")=some (T == "str"):=by intro T h;simp only[aZ,G0,G3,IS]at h;rcases h with rfl | rfl | rfl | rfl | rfl | rfl | rfl <;> kernel_rfl
theorem rp{K:C3}:∀T∈aZ,PySem.W.kitAny K (.type T) [.type "list",.type "tuple"]=some (T == "list" || T == "tuple"):=by
 intro T h;have h1:=jf (K:=K) T h;have h2:=dF (K:=K) T h;unfold PySem.W.kitAny;rw[h1];cases e:(T == "list")with
 | true=>rfl
 | false=>
  show PySem.W.kitAny K (.type T) [.type "tuple"]=_;unfold PySem.W.kitAny;rw[h2];cases e2:(T == "tuple") <;> rfl
def Ty(K:C3)(H:Hp)(x:V)(T:String):Prop:=T∈aZ/\TyOf K H x (.type T)
theorem Ty.int{K:C3}{H:Hp}{i:Int}:Ty K H (.int i) "int" := %[by simp[aZ]|.int i]
theorem Ty.bl{K:C3}{H:Hp}{b:Bool}:Ty K H (.bl b) "bool" := %[by simp[aZ]|.bl b]
theorem Ty.non{K:C3}{H:Hp}:Ty K H .non "NoneType" := %[by simp[aZ]|.non]
theorem Ty.str{K:C3}{H:Hp}{x:Str}:Ty K H (.str x) "str" := %[by simp[aZ]|.str x]
theorem Ty.lst{K:C3}{H:Hp}{a:IB}{xs:IF V}(e:H a=↥xs):Ty K H (.ref a) "list" := %[by simp[aZ]|.lst e]
theorem Ty.tup{K:C3}{H:Hp}{a:IB}{xs:IF V}(e:H a= ~~~xs):Ty K H (.ref a) "tuple" := %[by simp[aZ]|.tup e]
theorem Ty.dK{K:C3}{H:Hp}{a:IB}{xs:IF (Key×V)}(e:H a=some (.dK xs)):Ty K H (.ref a) "dict" := %[by simp[aZ]|.dK e]
def aX:V->Int->Bool
 | .int i,l=>decide (l<=i)
 | _,_=>false
def mC:V->Bool
 | .bl _=>true
 | _=>false
theorem ut{K:C3}{H:Hp}{x:V}{T:String}(t:TyOf K H x (.type T))(h:T∈aZ):(T == "int")=true->∃i,x=.int i:=by
 intro e;have e':T = "int" := by simpa using e
 subst e';generalize hv:Value.type "int" = tv at t;cases t with
 | int i=>exact%[i|Z]
 | _=>exact absurd hv (by simp)
theorem lE{K:C3}{H:Hp}{x:V}{T:String}(t:TyOf K H x (.type T)):(T == "bool")=mC x:=by
 generalize hv:Value.type T=tv at t;cases t with
 | bl b=>cases hv;rfl
 | non=>cases hv;rfl
 | int i=>cases hv;rfl
 | str i=>cases hv;rfl
 | flt i=>cases hv;rfl
 | lst i=>cases hv;rfl
 | frz i=>cases hv;rfl
 | tup i=>cases hv;rfl
 | dK i=>cases hv;rfl
 | dT i=>cases hv;rfl
 | ext i _=>cases hv;rfl
 | ins=>cases hv
end L2
local macro_rules|`($a ^^^ $b)=>`(@L2.aa _ _ _ _ _ $a $b rfl)
local macro_rules|`($a<<<$b)=>`(@L2.af _ _ _ _ _ $a $b)
local macro_rules|`($a>>>$b)=>`(@L2.af _ _ _ _ _ $a (@L2.ah _ _ _ $b))
local macro_rules|`($a⁻¹)=>`(@L2.ah _ _ _ (@L2.az _ _ _ _ $a))
local macro_rules|`($a∩$b)=>`(@L2.ay _ _ _ _ _ _ _ _ _ _ $a (($(Lean.mkIdent `hr)).mono ∅) rfl $b ∅ rfl rfl)
local macro_rules|`($a∪$b)=>`(@L2.ay _ _ _ _ _ _ _ _ _ _ $a $(Lean.mkIdent `hr) rfl $b ∅ rfl rfl)
local macro_rules|`($a∣$b)=>`(@L2.aI _ _ $a _ _ _ _ $(Lean.mkIdent `nd) rfl (Or.inl rfl) $b rfl (Or.inl rfl))
local macro_rules|`($a&&&$o&&&$b)=>`(@L2.ar _ _ _ _ _ _ _ $o $a $b (fun _ _=>rfl))
local macro_rules|`($a|||$o|||$b)=>`(@L2.aB _ _ _ _ _ _ _ _ $o $a $b)
local macro_rules|`($a•$b)=>`(L2.au (L2.aj (i:=$a) $(Lean.mkIdent `nd) rfl (Or.inl rfl)) $b)
local macro_rules|`($a<*>$o<*>$b)=>`(@L2.aH _ _ _ _ _ _ _ _ $o $a $b (L2.aF _))
local macro_rules|`($a<|>$b<|>$c)=>`(@L2.aM _ _ _ _ _ _ _ _ $a $b $c)
namespace Pc
open PySem L2
structure Pot(a b:Int):Prop where
 a0:0<=a
 b0:0<=b
 b1:b < 2147483629
def But(p:IB)(H H':Hp):Prop:=∀b o,b≠p->H b=some o->H' b=some o
theorem But.trans{p:IB}{H H1 H2:Hp}(a:But p H H1)(b:But p H1 H2):But p H H2:=λ c o n e=>b c o n (a c o n e)
theorem But.upd{p:IB}{H:Hp}{o:HO}:But p H (upd H p o):=λ b u n e=>by rw[aG n];exact e
theorem But.new{p q:IB}{H:Hp}{o:HO}(h:H q=none):But p H (L2.upd H q o):=λ b u n e=>by rw[aG (aw e h)];exact e
structure Kd where
 w:Int
 h:Int
 wo:Int
 wa:Int
 tu:Bool
def kdV(k:Kd):IF V:=[.int k.w,.int k.h,.int k.wo,.int k.wa,.bl k.tu]
structure Good(k:Kd):Prop where
 w:1<=k.w
 h:1<=k.h
 wo:0<=k.wo
 wa:0<=k.wa
 w':k.w < 10 ^ 60
 h':k.h < 10 ^ 60
 wo':k.wo < 10 ^ 60
 wa':k.wa < 10 ^ 60
def tD(H:Hp)(v:V)(k:Kd):Prop:=∃a,v=.ref a/\H a= ~~~(kdV k)
def xh(H:Hp)(v:V)(k:Kd):Prop:=∃a,v=.ref a/\H a=↥(kdV k)
def RowAt(H:Hp)(v:V)(k:Kd):Prop:=tD H v k\/xh H v k
abbrev Tups(H:Hp):IF V->IF Kd->Prop:=Paired (tD H)
theorem Tups.keep{H H':Hp}(k:∀b xs,H b= ~~~xs->H' b= ~~~xs):∀{xs:IF V}{ks:IF Kd},Tups H xs ks->Tups H' xs ks:=λ r=>
 GX r λ v kd %[a,e|h]=>%[a,e|k a _ h]
structure ToldAt(H:Hp)(t l:IB)(bl:Int)(xs:IF V)(ks:IF Kd):Prop where
 t:H t= ~~~[.int bl,.ref l]
 l:H l=↥xs
 r:Tups H xs ks
 b0:0<=bl
 b1:bl < 10 ^ 60
 g:∀k∈ks,Good k
 n0:1<=xs.length
 n1:xs.length<=8
def dG(K:C3):Sp:=λ vs H Q _=>∃(x:V)(T:String)(l:Int),vs=[x,.int l]/\Ty K H x T/\Q (.bl (aX x l)) H
def iC(K:C3):Sp:=λ vs H Q _=>∃(x:V)(T:String),vs=[x]/\Ty K H x T/\Q (.bl (mC x)) H
def jg(K:C3):Sp:=λ vs H Q _=>∃(x:V)(T:String),vs=[x]/\Ty K H x T/\∀H',Same H H'->Q (.bl (T == "list" || T == "tuple")) H'
def gZ:IF V->Bool
 | [w,h,wo,wa,tu]=>aX w 1 && aX h 1 && aX wo 0 && aX wa 0 && mC tu
 | _=>false
def gf(K:C3):Sp:=λ vs H Q _=>∃(x:V)(T:String),vs=[x]/\Ty K H x T /\ 
 ((T ≠ "list" /\ T ≠ "tuple" /\ ∀H',Same H H'->Q (.bl false) H')\/∃(a:IB)(xs:IF V),x=.ref a/\(H a=↥xs\/H a= ~~~xs)/\(∀y∈xs,∃U,Ty K H y U)/\∀H',Same H H'->Q (.bl (gZ xs)) H')
theorem gi{k:Kd}(g:Good k):gZ (kdV k)=true:=by
 show(decide (1<=k.w) && decide (1<=k.h) && decide (0<=k.wo) && decide (0<=k.wa) && true)=true;rw[IL g.w,IL g.h,IL g.wo,IL g.wa]
 rfl
theorem Ty.same{K:C3}{H H':Hp}{x:V}{T:String}(s:Same H H')(t:Ty K H x T):Ty K H' x T:=by
 apply%[t.1|?_];have t2:=t.2;generalize hv:Value.type T=tv at t2 ⊢;cases t2 with
 | non=>exact .non
 | bl b=>exact .bl b
 | int b=>exact .int b
 | str b=>exact .str b
 | flt b=>exact .flt b
 | lst e=>exact .lst (s _ _ e)
 | frz e=>exact .frz (s _ _ e)
 | tup e=>exact .tup (s _ _ e)
 | dK e=>exact .dK (s _ _ e)
 | dT e=>exact .dT (s _ _ e)
 | ext e c=>exact .ext (s _ _ e) c
 | ins=>cases hv
end Pc
namespace L2
open PySem PySem.Spec PyProof.Rows
abbrev jh(K:C3):IF V->Hp->VK->Prop:=rz_call_tuple_of K
abbrev xi(K:C3):IF V->Hp->VK->Prop:=rz_call_isinst K
theorem pC{K:C3}{j:Nat}{a:IB}{xs:IF V}{g:TG}{tb:TS}{D:Ends}{σ:St}{H:Hp}(hσ:σ[j]?=some (↑a))(hs:H a=↥xs\/H a= ~~~xs)(Pv:Nat->St->Hp->Prop)(h0:Pv 0 σ H)
  (hk:∀i σ H',i<=xs.length->Pv i σ H'->∀o,H a=some o->H' a=some o)
  (ht:∀i x σ H,xs[i]?=some x->Pv i σ H->g x σ H λ σ2 H2=>tb { D with nx:=Pv (i+1),ct:=Pv (i+1),bk:=D.nx } σ2 H2) (hd:∀σ H,Pv xs.length σ H->D.nx σ H):wU (ur K (tVar j)) g tb D σ H:=by
 rcases hs with z | z
 ·exact .inl %[_,hσ,a,Z,%[xs|GW z]|cj (xs:=xs) Pv h0 (λ i σ H' hi p=>GW (hk i σ H' hi p _ z)) ht hd]
 ·exact .inr %[_,hσ,a,Z,%[xs|GV z]|lj (xs:=xs) Pv h0 (λ i σ H' hi p=>GV (hk i σ H' hi p _ z)) ht hd]
def Nx(n:Nat)(Pv:Nat->IF V->Hp->Prop)(i:Nat)(ys:IF V)(H:Hp):Prop:=∃m',m' < n - i/\m'=n - (i+1)/\i+1<=n/\Pv (i+1) ys H
theorem Nx.of{n:Nat}{Pv:Nat->IF V->Hp->Prop}{i:Nat}{ys:IF V}{H:Hp}(h:i < n)(p:Pv (i+1) ys H):Nx n Pv i ys H:=%[n - (i+1),⋯,Z,h|p]
theorem bJ{K:C3}{a:IB}{xs:IF V}{σ:St}{cap:IF Nat}{k:Nat}{g:TG}{tt:TT}{te:TE}{Q:IF V->Hp->Prop}{H:Hp}(hs:H a=↥xs\/H a= ~~~xs)(Pv:Nat->IF V->Hp->Prop)
  (hk:∀i ys H',i<=xs.length->Pv i ys H'->∀o,H a=some o->H' a=some o) (h0:Pv 0 [] H)
  (ht:∀i x ys H',xs[i]?=some x->Pv i ys H'->ys.length < sizeLine/\g x (bR σ cap k) H' λ σ2 H2=>leS (bR σ cap k) σ2/\tt σ2 H2 λ ok H3=>if ok=true then te σ2 H3 (λ v H4=>Nx xs.length Pv i (ys ++ [v]) H4)else Nx xs.length Pv i ys H3)
  (hd:∀ys H',Pv xs.length ys H'->ys.length<=sizeLine/\Q ys H') :
  (H a=↥xs->∃W,(∃m,W 0 m [] H)/\gY σ cap k (Itl K a) g tt te Q W)/\(H a= ~~~xs->∃W,(∃m,W 0 m [] H)/\gY σ cap k (Itt K a) g tt te Q W):=by
 apply%[λ z=>%[λ i m ys H'=>m=xs.length - i/\i<=xs.length/\Pv i ys H',%[_,Z,E6 _|h0]|?_]|λ z=>%[λ i m ys H'=>m=xs.length - i/\i<=xs.length/\Pv i ys H',%[_,Z,E6 _|h0]|?_]]
 ·rintro i m ys H' ⟨rfl,hi,p⟩;have z':=hk i ys H' hi p _ z
  by_cases hin:i < xs.length
  ·obtain⟨e,hg⟩:=ht i xs[i] ys H' (by simp[hin]) p;apply .inr %[%[xs,xs[i],GW z'|by simp[hin]],e|λ x H2 yl=>?_];obtain⟨e1,e2⟩:=yl;have e3:=e2 xs (GW z');have e4:x=xs[i]:=by simpa[hin]using e3.symm
   subst e1 e4;exact hg
  ·have e:i=xs.length:=⋯
   subst e;obtain⟨a1,a2⟩:=hd ys H' p;exact .inl %[%[xs,GW z'|B2 _],a1|a2]
 ·rintro i m ys H' ⟨rfl,hi,p⟩;have z':=hk i ys H' hi p _ z
  by_cases hin:i < xs.length
  ·obtain⟨e,hg⟩:=ht i xs[i] ys H' (by simp[hin]) p;apply .inr %[%[xs,xs[i],GV z'|by simp[hin]],e|λ x H2 yl=>?_];obtain⟨e1,e2⟩:=yl;have e3:=e2 xs (GV z');have e4:x=xs[i]:=by simpa[hin]using e3.symm
   subst e1 e4;exact hg
  ·have e:i=xs.length:=⋯
   subst e;obtain⟨a1,a2⟩:=hd ys H' p;exact .inl %[%[xs,GV z'|B2 _],a1|a2]
theorem dH{K:C3}{j:Nat}{a:IB}{xs:IF V}{σ:St}{cap:IF Nat}{k:Nat}{g:TG}{tt:TT}{te:TE}{Q:VK}{H:Hp}(hσ:σ[j]?=some (↑a))(hs:H a=↥xs\/H a= ~~~xs)(Pv:Nat->IF V->Hp->Prop)
  (hk:∀i ys H',i<=xs.length->Pv i ys H'->∀o,H a=some o->H' a=some o) (h0:Pv 0 [] H)
  (ht:∀i x ys H',xs[i]?=some x->Pv i ys H'->ys.length < sizeLine/\g x (bR σ cap k) H' λ σ2 H2=>leS (bR σ cap k) σ2/\tt σ2 H2 λ ok H3=>if ok=true then te σ2 H3 (λ v H4=>Nx xs.length Pv i (ys ++ [v]) H4)else Nx xs.length Pv i ys H3)
  (hd:∀ys H',Pv xs.length ys H'->ys.length<=sizeLine/\∀p,H' p=none->Q (.ref p) (upd H' p (.lst ys))):pi (ur K (tVar j)) cap k g tt te σ H Q:=by
 obtain⟨c1,c2⟩:=bJ (K:=K) (σ:=σ) (cap:=cap) (k:=k) (g:=g) (tt:=tt) (te:=te) hs Pv hk h0 ht hd;rcases hs with z | z
 ·exact .inl %[_,hσ,a,Z,%[xs|GW z]|c1 z]
 ·exact .inr %[_,hσ,a,Z,%[xs|GV z]|c2 z]
end L2
namespace Pc
open PySem L2
def jZ(b:Int)(r:IB):IF (Str×V):=cI "kind_rows" (.ref r) (cI "blade_width" (.int b) [])
theorem kbw:¬ (("blade_width" : Str) = "kind_rows"):=∅
theorem ke(b:Int)(r:IB):(jZ b r).lookup ("blade_width" : Str)=⇑b:=by unfold jZ;rw[bD,IN kbw,bD,IP rfl]
theorem eY(b:Int)(r:IB):(jZ b r).lookup ("kind_rows" : Str)=↑r:=by unfold jZ;rw[bD,IP rfl]
theorem dI(b:Int)(r:IB){m:Str}(h1:¬ m = "kind_rows")(h2:¬ m = "blade_width"):(jZ b r).lookup m=none:=by
 unfold jZ;rw[bD,IN h1,bD,IN h2]
 all_goals rfl
def ShopAt(C:IB)(H:Hp)(x:IB)(b:Int)(ks:IF Kd):Prop:=∃dx r rs,H x=some (.ins C dx (jZ b r))/\H r= ~~~rs/\Tups H rs ks
theorem ShopAt.keep{C:IB}{H H':Hp}{x:IB}{b:Int}{ks:IF Kd}(s:ShopAt C H x b ks)(k1:∀b xs,H b= ~~~xs->H' b= ~~~xs)(k2:∀b C dx fs,H b=some (.ins C dx fs)->H' b=some (.ins C dx fs)):ShopAt C H' x b ks:=by obtain⟨dx,r,rs,h1,h2,h3⟩:=s;exact%[dx,r,rs,k2 _ _ _ _ h1,k1 _ _ h2|Tups.keep k1 h3]
def iD(C:IB):Sp:=λ vs H Q _=>∃(x dx ks:IB)(b:Int)(rs:IF V)(kds:IF Kd),vs=[.ref x,.int b,.ref ks]/\H x=some (.ins C dx [])/\0<=b/\(H ks=↥rs\/H ks= ~~~rs)/\Paired (RowAt H) rs kds/\(∀k∈kds,Good k)/\1<=rs.length/\rs.length<=8 /\
 ∀H':Hp,ShopAt C H' x b kds->(∀c o,c≠x->H c=some o->H' c=some o)->Q .non H'
def eE(C:IB):Sp:=λ vs H Q _=>∃(x:IB)(b:Int)(ks:IF Kd),vs=[.ref x]/\ShopAt C H x b ks/\Q (.int b) H
theorem lF{K:C3}{H:Hp}{k:Kd}:∀y∈kdV k,∃U,Ty K H y U:=by
 intro y hy;simp only[kdV,G0,G3,IS]at hy;rcases hy with rfl | rfl | rfl | rfl | rfl
 ·exact%[_|.int]
 ·exact%[_|.int]
 ·exact%[_|.int]
 ·exact%[_|.int]
 ·exact%[_|.bl]
theorem Paired.getR{α β:Type}{F:α->β->Prop}:∀{l₁:IF α}{l₂:IF β}{i:Nat}{x:α},Paired F l₁ l₂->l₁[i]?=some x->∃y,l₂[i]?=some y/\F x y
 | _,_,_,_,.nil,e=>by simp at e
 | _,_,0,_,.cons h _,e=>by simp at e;subst e;exact%[_,Z|h]
 | _,_,i+1,x,.cons _ t,e=>by obtain⟨y,h1,h2⟩:=Paired.getR (i:=i) (x:=x) t (by simpa using e);exact%[y,by simpa using h1|h2]
abbrev GY:=@Paired.getR
theorem RowAt.same{H H':Hp}{v:V}{k:Kd}(s:Same H H')(r:RowAt H v k):RowAt H' v k:=by
 rcases r with⟨a,e,h⟩ | ⟨a,e,h⟩
 ·exact .inl %[a,e|s _ _ h]
 ·exact .inr %[a,e|s _ _ h]
theorem mD{K:C3}{H:Hp}{v:V}{k:Kd}{Q:VK}{E:XK}(r:RowAt H v k)(g:Good k)(q:∀H',Same H H'->Q (.bl true) H'):gf K [v] H Q E:=by
 rcases r with⟨a,rfl,h⟩ | ⟨a,rfl,h⟩
 ·exact%[_,_,Z,.tup h|.inr %[a,_,Z,.inr h,lF|λ H' s=>by rw[gi g];exact q H' s]]
 ·exact%[_,_,Z,.lst h|.inr %[a,_,Z,.inl h,lF|λ H' s=>by rw[gi g];exact q H' s]]
structure ShopTxt(K:C3)(C:IB):Prop where
 cl:Cls K C
 nB:NoAttr K C "blade_width"
 nK:NoAttr K C "kind_rows"
end Pc
namespace L2
open PySem PySem.Spec PyProof.Rows
def Mn(P:F5)(w:F7)(K:C3)(mg:Str->ID F8)(base:Heap)(C:IB)(m:Str)(ps:IF Str)(k:Nat)(sp:Sp):Prop :=
 ∃(f:IB)(fd:F6),FnOk P w K mg base CX0 k f fd ps sp/\Binds K fd ps []/\Meth K C m f
theorem pE{X:Cx}{k:Nat}{C:IB}{ps:IF Str}{sp:Sp}{m:Str}{o:Expr}{ta:TE}{apos pos:Pos}{pl:Sem Bool}(he:PE X o ta)(c:Cls X.K C)(D:Mn X.prog X.w X.K X.mg X.base C m ps k sp)(hr:Room k X.A)
  (ht:eval (.Call (.Attribute o m apos) [] [] pos) X.env=(do
   let ov<-eval o X.env
   standAt apos.atName
   let (f,first)<-holding [ov] (getMethod ov m pl)
   callWith pos f first (backTo pos (starEach [] X.env)) (backToKw pos (keywordEach [] X.env))):=by rfl):PE X (.Call (.Attribute o m apos) [] [] pos) (lx C m sp [] E0 ta ms):=by
 obtain⟨f,fd,F,hb,hm⟩:=D;exact oS he c hm F hr hb .nil lB ht
def Kn(P:F5)(w:F7)(K:C3)(mg:Str->ID F8)(base:Heap)(x:Str)(C:IB)(ps:IF Str)(k:Nat)(sp:Sp):Prop :=
 ∃(f:IB)(fd:F6),Mk K C f/\FnOk P w K mg base CX0 k f fd ps sp/\Binds K fd ps []/\mg x=↑C
theorem tE{X:Cx}{k:Nat}{C:IB}{ps:IF Str}{sp:Sp}{x:Str}{p pos:Pos}{e:Expr}{es:IF Expr}{t:TA}(D:Kn X.prog X.w X.K X.mg X.base x C ps k sp)(hr:Room (k+1) X.A)(hg:Gl X x)(ha:PA X (e :: es) t)
  (hdb:(x == ("__debug__" : Str))=false:=by decide) (he:starEach (e :: es) X.env=(false,eval e X.env) :: starEach es X.env:=by rfl) (hpl:(backTo pos (starEach es X.env)).any (·.1)=false:=by rfl) :
  PE X (.Call (.Name x p) (e :: es) [] pos) (tw C sp [] E0 t):=by
 obtain⟨f,fd,M,F,hb,hm⟩:=D;exact qZ M F hr hg hm hb .nil lB ha hdb he hpl
theorem rq{l1 l2:IB}{xs ys:IF V}{g:TG}{tb:TS}{D:Ends}{σ:St}{H:Hp}(Pv:Nat->St->Hp->Prop)(hn:xs.length=ys.length)(h0:Pv 0 σ H)(hk:∀i σ H',Pv i σ H'->H' l1=↥xs/\H' l2=↥ys)
  (ht:∀i x y p σ H,xs[i]?=some x->ys[i]?=some y->H p=none->Pv i σ H->g (.ref p) σ (upd H p (.tup [x,y])) λ σ2 H2=>tb { D with nx:=Pv (i+1),ct:=Pv (i+1),bk:=D.nx } σ2 H2) (hd:∀σ H,Pv xs.length σ H->D.nx σ H) :
  ∃W:Nat->Nat->St->Hp->Prop,(∃m,W 0 m σ H)/\∀i m σ H,W i m σ H ->
   ((Itz l1 l2).stop i H/\D.nx σ H)\/((Itz l1 l2).go i H/\∃N:St->Hp->Prop,(∀σ' H',N σ' H'->∃m',m' < m/\W (i+1) m' σ' H')/\∀x H',(Itz l1 l2).yld i H x H'->g x σ H' λ σ2 H2=>tb { D with nx:=N,ct:=N,bk:=D.nx } σ2 H2):=by
 apply%[λ i m σ H=>m=xs.length - i/\i<=xs.length/\Pv i σ H,%[xs.length,by simp,E6 _|h0]|?_];rintro i m σ H ⟨rfl,hi,p⟩;obtain⟨e1,e2⟩:=hk i σ H p
 by_cases hlt:i < xs.length
 ·apply .inr %[%[xs,ys,xs[i],ys[i]'⋯,e1,e2,by simp[hlt]|by simp[show i < ys.length by omega]],Pv (i+1),λ σ' H' p'=>%[xs.length - (i+1),⋯,Z,hlt|p']|λ v H' y=>?_];obtain⟨q,xs',ys',x,y,hq,rfl,rfl,e1',e2',ex,ey⟩:=y;rw[e1]at e1';cases e1';rw[e2]at e2';cases e2';exact ht i x y q σ H ex ey hq p
 ·have e:i=xs.length:=⋯
  subst e;exact .inl %[%[xs,ys,e1,e2|.inl (B2 _)]|hd σ H p]
theorem mE(xs:IF V)(k:Nat):cr xs none (some (k:Int))=xs.take k:=by
 unfold cr;rw[HT.sIx_none,HT.sIx_nat];simp only[List.drop_zero,Nat.sub_zero];rcases Nat.le_total k xs.length with h | h
 ·rw[Hu h]
 ·rw[Nat.min_eq_right h,HP (B2 _),HP h]
end L2
namespace Pc
open PySem L2
theorem Same.but{p:IB}{H H':Hp}(s:Same H H'):But p H H':=λ b o _ e=>s b o e
theorem Same.new{q:IB}{H:Hp}{o:HO}(h:H q=none):Same H (upd H q o):=λ b u e=>by rw[aG (aw e h)];exact e
abbrev F9:=@Same.new
end Pc
namespace PySem
open Sem (wp)
open AutoSeq1 (wpAny_loadPart')
section
variable{prog:F5}{w:F7}{A:Around}{E:F8->F4->Prop}{s:F4}
theorem fz{it t:IB}{i:Nat}{items}{x:F8}{Q:F8->F4->Prop}(hit:s.heap.IsTupleIter it t i)
  (ht:s.heap.IsTuple t items) (hx:items[i]?=some x)
  (hQ:∀h',h'.IsTupleIter it t (i+1)->Heap.SameBut it s.heap h'->Q x { s with heap:=h' }) :
  wpAny (model prog w) A (Builtin.SmallTypes.nextOf (.ref it)) Q E s:=by
 obtain⟨o,ho,hc,hd⟩:=id hit;obtain⟨ol,hol,_,nl,hdl⟩:=ht;unfold Builtin.SmallTypes.nextOf;apply A0 (wpAny_callSpecial?_slot (name:=Str.ofString "__next__") hit.typeIs F.slot_tuple_iterator_next
  (F1 F.slot_tuple_iterator_next hit.typeIs F.entry_tuple_iterator_next ?_ (F.args_tuple_iterator_next_1 _)))
 show wpAny _ _ (field (.ref it) 0 >>= _) _ _ s;apply A0 (Il ho hd (x:=.ref t) rfl ?_);show wpAny _ _ (if (Value.ref t == Value.none)=true then _ else _) _ _ s;rw[IN (show¬ ((Value.ref t == Value.none)=true)from B1)];show wpAny _ _ (field (.ref it) 1 >>= _) _ _ s;apply A0 (Il ho hd (x:=.int i 0) rfl ?_);show wpAny _ _ (seqItems? (.ref t) >>= _) _ _ s;apply A0 (wpAny_seqItems hol hdl ?_);simp only[HN,hx];apply A0 (wpAny_setField ho hd (by simp) (A1 %[x,rfl|A1 (hQ _ ?_ (Heap.SameBut.update ..))]));exact⟨_,Heap.get?_update_self _ ho (Obj.isFreed_of_fields (Obj.data_mapFields hd _)),(Obj.cls_mapFields ..).trans hc,by
  rw[Obj.data_mapFields hd];simp[rawInt]⟩
theorem cF{it t:IB}{i:Nat}{items}{Q:F8->F4->Prop}(hh:A.handled=none)
  (hit:s.heap.IsTupleIter it t i) (ht:s.heap.IsTuple t items) (hx:items[i]?=none)
  (hE:∀h' e,Heap.ExtBut it s.heap h'->(∃o,h'.get? e=some o/\o.cls=.type "StopIteration")->E (.ref e) { s with heap:=h' }) :
  wpAny (model prog w) A (Builtin.SmallTypes.nextOf (.ref it)) Q E s:=by
 obtain⟨o,ho,hc,hd⟩:=id hit;obtain⟨ol,hol,_,nl,hdl⟩:=ht;unfold Builtin.SmallTypes.nextOf;apply A0 (wpAny_callSpecial?_slot (name:=Str.ofString "__next__") hit.typeIs F.slot_tuple_iterator_next
  (F1 F.slot_tuple_iterator_next hit.typeIs F.entry_tuple_iterator_next ?_ (F.args_tuple_iterator_next_1 _)))
 show wpAny _ _ (field (.ref it) 0 >>= _) _ _ s;apply A0 (Il ho hd (x:=.ref t) rfl ?_);show wpAny _ _ (if (Value.ref t == Value.none)=true then _ else _) _ _ s;rw[IN (show¬ ((Value.ref t == Value.none)=true)from B1)];show wpAny _ _ (field (.ref it) 1 >>= _) _ _ s;apply A0 (Il ho hd (x:=.int i 0) rfl ?_);show wpAny _ _ (seqItems? (.ref t) >>= _) _ _ s;apply A0 (wpAny_seqItems hol hdl ?_);simp only[HN,hx];apply A0 (wpAny_rule (A0 (wpAny_setField ho hd (by simp) ?_)));show wpAny _ _ (newExc (.type "StopIteration") [] >>= _) _ _ _;apply A0 ?_;simp only[newExc,newTuple];apply A0 (F2 ?_ (by size_fits));apply A0 (m:=firstArgMember _ _) (wpAny_of_eq (a:=Value.none) (by first | rfl | (simp only[firstArgMember];rfl)) ?_);apply F2 ?_ (by size_fits);simp only[raiseNew];apply A0 (wpAny_handled ?_)
 first | rw[show A.in1.handled=none from hh] | rw[hh]
 apply A0 (A1 (wpAny_throw ?_));exact hE _ _ (((Heap.SameBut.update ..).extBut.push _).push _) %[_,A7 _ rfl|rfl]
end
theorem ji{prog:F5}{w:F7}{A:Around}(hh:A.handled=none)(it l:IB)(hne:l≠it)(items:IE F8) :
  Draws prog w A it [it,l] items.size (λ i v=>items[i]?=some v) (λ i h=>h.IsTupleIter it l i/\h.IsTuple l items) where
 live:=λ _ _ st=>let ⟨o,ho,_⟩:=st.1;%[o|ho]
 frame:=λ _ _ _ st hk=>%[st.1.at λ o e=>hk it (by simp) o e|let ⟨o,ho,r⟩:=st.2;%[o,hk l (by simp) o ho|r]]
 item:=λ i s Q E hi st hQ=>by apply fz st.1 st.2 (x:=items[i]) (by simp[hi]) λ h' hit' hs'=>?_;exact hQ _ h' s.toks (by simp[hi]) %[hit'|st.2.extBut hs'.extBut hne] hs'
 done:=λ s Q E st hE=>cF hh st.1 st.2 (by simp) hE
theorem gj(l:IB)(items:IE F8)(n:Nat)(dct:ID IB)(sl:IE (ID F8)) :
  Meets (Builtin.«enumerate.__new__» %[[.type "enumerate",.ref l]|[]]) (λ _ R s=>s.heap.get? l=some { cls:=.type "tuple",dict:=dct,data:=.seq items n,slots:=sl } /\
   R (.ok (.ret (.ref (s.heap.push { cls:=.type "tuple_iterator",data:=.fields #[.ref l,.int 0 0] }).objs.size)))
    { s with heap:=(s.heap.push { cls:=.type "tuple_iterator",data:=.fields #[.ref l,.int 0 0] }).push { cls:=.type "enumerate",data:=.fields #[.none,.bool false,.ref s.heap.objs.size,rawInt 0,.none,.none] } }) :=
 .of_wp λ prog w A R s h=>by
  obtain⟨hp,g,d,tk,os⟩:=s;obtain⟨hl,h⟩:=h;have hsub:=sub_enumerate;have hL:Heap.IsTuple (Shared.heap %[hp,g,d,tk|os]) l items:=%[_,hl,Z,n|Z]
  wp_walk using IT hl
  apply wpAny_stack_any λ st=>A1 ?_
  split
  ·rename_i c _ _ _ _ _
   cases(c == Value.type "enumerate")
   ·wp_walk using IT hl,wpAny_pyIter_tuple hL
    exact%[_,Z|h]
   ·wp_walk using IT hl,wpAny_pyIter_tuple hL
    exact%[_,Z|h]
  ·wp_walk using IT hl,wpAny_pyIter_tuple hL
   exact%[_,Z|h]
section
variable{prog:F5}{w:F7}{A:Around}{E:F8->F4->Prop}{s:F4}
theorem cG{l:IB}{items:IE F8}{Q:F8->F4->Prop}(hL:s.heap.IsTuple l items)
  (h:∀h',IsEnum h' (s.heap.objs.size+1) s.heap.objs.size 0 .none->h'.IsTupleIter s.heap.objs.size l 0->h'.objs.size=s.heap.objs.size+2 ->
   (∀b o,s.heap.get? b=some o->h'.get? b=some o)->Q (.ref (s.heap.objs.size+1)) { s with heap:=h' }) :
  wpAny (model prog w) A (call (.type "enumerate") [.ref l]) Q E s:=by
 obtain⟨⟨c,dct,dt,sl⟩,hl,hc,n,hd⟩:=hL
 replace hc:c=.type "tuple" := hc
 replace hd:dt=.seq items n:=hd
 subst hc hd;apply callType_new F.called_enumerate ∅ (F.typeCall_enumerate_1 _) (F.newCall_enumerate_1 _) (λ obj=>F.args_object_init_2 obj _) F.entry_enumerate_new
  (gj l items n dct sl) %[hl|?_]
 have hz:(s.heap.push { cls:=.type "tuple_iterator",data:=.fields #[.ref l,.int 0 0] }).objs.size=s.heap.objs.size+1:=Heap.size_push ..;show _/\_;rw[hz];have he:IsEnum ((s.heap.push { cls:=.type "tuple_iterator",data:=.fields #[.ref l,.int 0 0] }).push
   { cls:=.type "enumerate",data:=.fields #[.none,.bool false,.ref s.heap.objs.size,rawInt 0,.none,.none] }) (s.heap.objs.size+1) s.heap.objs.size 0 .none:=by
  have:=A7 (s.heap.push { cls:=.type "tuple_iterator",data:=.fields #[.ref l,.int 0 0] })
   (o:={ cls:=.type "enumerate",data:=.fields #[.none,.bool false,.ref s.heap.objs.size,rawInt 0,.none,.none] }) rfl
  rw[hz]at this;exact this
 apply%[%[_,he|Z]|h _ he %[_,A6 _ (A7 _ rfl),Z|Z] (by rw[Heap.size_push,hz]) λ b o x=>A6 _ (A6 _ x)]
end
end PySem
namespace L2
open PySem PySem.Spec PyProof.Rows
def Ite(f:IF V->HO)(l:IB):It :=
  ⟨λ i H=>∃xs x,H l=some (f xs)/\xs[i]?=some x,
   λ i H v H'=>∃p xs x,H p=none/\v=.ref p/\H'=upd H p (.tup [.int i,x])/\H l=some (f xs)/\xs[i]?=some x,
   λ i H=>∃xs,H l=some (f xs)/\xs.length<=i⟩
section
variable{X:Cx}{IH:IF (IB×Obj)}{σ:St}{H:Hp}{s:F4}
theorem hG{f:IF V->HO}{tn:Nat->Heap->Prop}{es:IF Expr}{kk:Nat}{tp:Pos}{e it l:IB}{i:Nat}{xs:IF V}{x:V}{u:F8}{tk:Nat}{h':Heap}{E:F8->F4->Prop}(hne:e≠it)(I:Inv X IH σ H s)(hf:∀b∈[e,it],ek X IH H b)(hl:H l=some (f xs))(hx:xs[i]?=some x)
  (ho:∀b∈[e,it],b < s.heap.objs.size) (r:RelV x u) (b1:IsEnumOut h' e it ((i:Int)+1) u s.heap.objs.size) (b3:h'.get? s.heap.objs.size=some { cls:=.type "tuple",data:=.seq #[.int i tk,u] })
  (bk:∀b o,b≠e->b≠it->s.heap.get? b=some o->h'.get? b=some o) (hn:∀h'',IsEnum h'' e it ((i+1:Nat):Int) u->Heap.SameBut e h' h''->tn (i+1) h'') :
  wpAny (model X.prog X.w) X.A (letOwnedTupleGo (.Tuple es kk tp) (.ref e) (.ref s.heap.objs.size)) (λ _ s2=>∃x H',Inv X IH σ H' s2/\RelV x (.ref s.heap.objs.size)/\(Ite f l).yld i H x H'/\tn (i+1) s2.heap/\∀b∈[e,it],H' b=none) E { s with heap:=h',toks:=tk+1 }:=by
 apply wpAny_letOwnedTupleGo_enum b1 λ h'' c1 cs=>?_;have es':e < s.heap.objs.size:=ho e (by simp);have k2:∀b o,b∉[e,it]->s.heap.get? b=some o->h''.get? b=some o:=λ b o hb q=>by simp only[G0,G3,IS,not_or]at hb;exact cs.extBut b o hb.1 (bk b o hb.1 hb.2 q)
 have I1:Inv X IH σ H { s with heap:=h'',toks:=tk+1 }:=I.turnedN (t':=tk+1) hf k2;have hp:h''.get? s.heap.objs.size=some { cls:=.type "tuple",data:=.seq #[.int i tk,u] }:=cs.extBut _ _ (Nat.ne_of_gt es') b3;have hn0:H s.heap.objs.size=none:=I.hok.fresh (B2 _);have fpk:=I.fpOk (H':=H) (B2 _) hn0;have I2:Inv X IH σ (upd H s.heap.objs.size (.tup [.int i,x])) { s with heap:=h'',toks:=tk+1 }:=I1.track fpk I.sz %[by show 2<=sizeLine;decide,[.int i tk,u],.cons %[tk|Z] (.cons r .nil),_,hp,Z,_|Z];apply%[.ref s.heap.objs.size,_,I2,Z,%[_,xs,x,hn0,Z,Z,hl|hx],hn h'' c1 cs|λ b hb=>?_];rw[aG (B8 (ho b hb))];exact(hf b hb).1
end
theorem kf{P:F5}{w:F7}{K:C3}{es:IF Expr}{kk:Nat}{tp:Pos}(l e it:IB)(hne:e≠it) :
  Turn P w K (.Tuple es kk tp) (Ite .lst l) [e,it] e (λ i h=>(∃old,IsEnum h e it i old)/\h.IsListIter it l i) where
 mem:=by simp
 obj:=λ i h st b hb=>by
  obtain⟨⟨old,a1⟩,⟨o2,a2,_,d2⟩⟩:=st;simp only[G0,G3,IS]at hb;rcases hb with rfl | rfl
  ·exact%[_,a1|λ v q=>by cases q]
  ·exact%[_,a2|λ v q=>by rw[d2]at q;cases q]
 keep:=λ i h h' st k=>by obtain⟨⟨old,a1⟩,a2⟩:=st;exact%[%[old|k e (by simp) _ a1]|a2.at λ o q=>k it (by simp) o q]
 item:=by
  intro X hP hw hK hc i IH s σ H E I hf st hg;subst hP hw hK;obtain⟨⟨old,a1⟩,a2⟩:=st;obtain⟨xs,x,e1,ex⟩:=hg;obtain⟨its,rv,p1,_⟩:=I.list (GW e1);obtain⟨u,hu,r⟩:=rv.get ex;have ho:∀b∈[e,it],b < s.heap.objs.size:=λ b hb=>by
   obtain⟨o2,a2',_⟩:=a2;simp only[G0,G3,IS]at hb;rcases hb with rfl | rfl
   ·exact A8 a1
   ·exact A8 a2'
  apply wpAny_pyNext_enum_item a1 a2 p1.isList (x:=u) (by simpa using hu) hne λ h' b1 b2 b3 b4 bk=>%[_,Z|?_]
  exact hG (tn:=λ i h=>(∃old,IsEnum h e it i old)/\h.IsListIter it l i) hne I hf e1 ex ho r b1 b3 bk λ h'' c1 cs=>%[%[u|c1]|b2.extBut cs.extBut (Ne.symm hne)]
 done:=by
  intro X hP hw hK hc i IH s σ H E I hf st hg;subst hP hw hK;obtain⟨⟨old,a1⟩,a2⟩:=st;obtain⟨xs,e1,ex⟩:=hg;obtain⟨its,rv,p1,_⟩:=I.list (GW e1);have lv:=rv.length;apply wpAny_pyNext_enum_end (I.ok.hd hc) a1 a2 p1.isList (by simp;omega) λ h' bk=>%[Z|?_]
  exact I.turnedN (t':=s.toks) hf λ b o hb q=>by simp only[G0,G3,IS,not_or]at hb;exact bk b o hb.2 q
 self:=λ _ _ _ _ _ st h=>by obtain⟨⟨old,a1⟩,_⟩:=st;exact Ij a1 h
theorem kg{P:F5}{w:F7}{K:C3}{es:IF Expr}{kk:Nat}{tp:Pos}(l e it:IB)(hne:e≠it) :
  Turn P w K (.Tuple es kk tp) (Ite .tup l) [e,it] e (λ i h=>(∃old,IsEnum h e it i old)/\h.IsTupleIter it l i) where
 mem:=by simp
 obj:=λ i h st b hb=>by
  obtain⟨⟨old,a1⟩,⟨o2,a2,_,d2⟩⟩:=st;simp only[G0,G3,IS]at hb;rcases hb with rfl | rfl
  ·exact%[_,a1|λ v q=>by cases q]
  ·exact%[_,a2|λ v q=>by rw[d2]at q;cases q]
 keep:=λ i h h' st k=>by obtain⟨⟨old,a1⟩,a2⟩:=st;exact%[%[old|k e (by simp) _ a1]|a2.at λ o q=>k it (by simp) o q]
 item:=by
  intro X hP hw hK hc i IH s σ H E I hf st hg;subst hP hw hK;obtain⟨⟨old,a1⟩,a2⟩:=st;obtain⟨xs,x,e1,ex⟩:=hg;obtain⟨its,rv,p1,_⟩:=I.tuple (GV e1);obtain⟨u,hu,r⟩:=rv.get ex;have lt:i < its.toArray.size:=by simp;exact(A5.mp hu).1
  have ho:∀b∈[e,it],b < s.heap.objs.size:=λ b hb=>by
   obtain⟨o2,a2',_⟩:=a2;simp only[G0,G3,IS]at hb;rcases hb with rfl | rfl
   ·exact A8 a1
   ·exact A8 a2'
  have nl:∀b∈[e,it],l≠b:=λ b hb q=>by rw[q,(hf b hb).1]at e1;cases e1
  have p1':s.heap.IsTuple l its.toArray:=p1;have DD:Draws X.prog X.w X.A.in1 it [it,l] its.toArray.size (λ i v=>its.toArray[i]?=some v) (λ i h=>h.IsTupleIter it l i/\h.IsTuple l its.toArray):=ji (show X.A.in1.handled=none from I.ok.hd hc) it l (nl it (by simp)) its.toArray;apply wpAny_pyNext_enum_itemD DD a1 %[a2|p1'] lt hne (by simp only[G0,G3,IS,not_or];exact%[hne|Ne.symm (nl e (by simp))]) λ x' h' tk px b1 b2 b3 b4 bk=>%[_,Z|?_]
  have hu':its.toArray[i]?=some u:=by simpa using hu
  have eu:u=x':=B7 (hu'.symm.trans px);subst eu;exact hG (tn:=λ i h=>(∃old,IsEnum h e it i old)/\h.IsTupleIter it l i) hne I hf e1 ex ho r b1 b3 bk λ h'' c1 cs=>%[%[u|c1]|b2.1.extBut cs.extBut (Ne.symm hne)]
 done:=by
  intro X hP hw hK hc i IH s σ H E I hf st hg;subst hP hw hK;obtain⟨⟨old,a1⟩,a2⟩:=st;obtain⟨xs,e1,ex⟩:=hg;obtain⟨its,rv,p1,_⟩:=I.tuple (GV e1);have lv:=rv.length;have p1':s.heap.IsTuple l its.toArray:=p1;have hT:s.TypeIs (.ref e) "enumerate" := %[_,a1|Z]
  unfold pyNext;apply A0 (wpAny_attempt (wpAny_callSpecial?_slot (name:=Str.ofString "__next__") hT F.slot_enumerate_next
   (F1 F.slot_enumerate_next hT F.entry_enumerate_next ?_ (F.args_enumerate_next_1 _))))
  show wpAny _ _ (field (.ref e) 2 >>= _) _ _ _;apply A0 (Il a1 rfl (x:=.ref it) rfl ?_);apply A0 (cF (I.ok.hd hc) a2 p1' (by simp;omega) λ h' x he' hx'=>?_);obtain⟨o,ho,hc⟩:=hx';apply A0 (wpAny_isInstance (T := "StopIteration") (b:=true) %[o,ho|hc] isSubtype_stop ?_);apply A1 %[rfl|?_];exact I.turnedN (t':=s.toks) hf λ b o hb q=>by simp only[G0,G3,IS,not_or]at hb;exact he' b o hb.2 q
 self:=λ _ _ _ _ _ st h=>by obtain⟨⟨old,a1⟩,_⟩:=st;exact Ij a1 h
def xj(ta:TA):TI:=λ σ H R=>ta σ H λ vs H1=>∃l xs,vs=[.ref l]/\((H1 l=↥xs/\R (Ite .lst l) H1)\/(H1 l= ~~~xs/\R (Ite .tup l) H1))
theorem lG{X:Cx}{a:Expr}{ta:TA}{p pos tp:Pos}{es:IF Expr}{kk:Nat}(hg:Gl X "enumerate")(hm:X.mg "enumerate" = none)(ha:PA X [a] ta)
  (hs:starEach [a] X.env=[(false,eval a X.env)]:=by rfl) :
  PI X (.Tuple es kk tp) (.Call (.Name "enumerate" p) [a] [] pos) (xj ta):=by
 intro IH s σ H R I h;apply Call_ (dW I hg hm PyProof.Rows.boot_enumerate (Ic (thn (ha pos IH s σ H _ I h) λ us s1 %[vs,H1,I1,r1|q1]=>?_) (by rw[hs];rfl) (by rfl)));obtain⟨l,xs,rfl,q⟩:=q1;cases r1 with
 | cons r rr=>
  cases rr;cases r;rcases q with⟨e1,q⟩ | ⟨e1,q⟩
  ·obtain⟨its1,rv1,p1,_⟩:=I1.list (GW e1);apply call_enumerate_list p1.isList λ h' z1 z2 sz keep=>?_;have I2:Inv X IH σ H1 { s1 with heap:=h' }:=I1.kept (t':=s1.toks) keep;apply Ij z1 %[s1.heap.objs.size+1,[s1.heap.objs.size+1,s1.heap.objs.size],_,_,H1,rfl,I2,kf l _ _ (Nat.succ_ne_self _),%[%[_|z1]|z2],λ b hb=>?_|q];have hb':s1.heap.objs.size<=b:=by simp only[G0,G3,IS]at hb;rcases hb with rfl | rfl <;> omega
   exact I1.fpOk hb' (I1.hok.fresh hb')
  ·obtain⟨its1,rv1,p1,_⟩:=I1.tuple (GV e1);have p1':s1.heap.IsTuple l its1.toArray:=p1;apply cG p1' λ h' z1 z2 sz keep=>?_;have I2:Inv X IH σ H1 { s1 with heap:=h' }:=I1.kept (t':=s1.toks) keep;apply Ij z1 %[s1.heap.objs.size+1,[s1.heap.objs.size+1,s1.heap.objs.size],_,_,H1,rfl,I2,kg l _ _ (Nat.succ_ne_self _),%[%[_|z1]|z2],λ b hb=>?_|q];have hb':s1.heap.objs.size<=b:=by simp only[G0,G3,IS]at hb;rcases hb with rfl | rfl <;> omega
   exact I1.fpOk hb' (I1.hok.fresh hb')
theorem jj{f:IF V->HO}(hf:∀xs ys,f xs=f ys->xs=ys){l:IB}{xs:IF V}{g:TG}{tb:TS}{D:Ends}{σ:St}{H:Hp}(Pv:Nat->St->Hp->Prop)(h0:Pv 0 σ H)(hk:∀i σ H',Pv i σ H'->H' l=some (f xs))
  (ht:∀i x p σ H,xs[i]?=some x->H p=none->Pv i σ H->g (.ref p) σ (upd H p (.tup [.int i,x])) λ σ2 H2=>tb { D with nx:=Pv (i+1),ct:=Pv (i+1),bk:=D.nx } σ2 H2) (hd:∀σ H,Pv xs.length σ H->D.nx σ H) :
  ∃W:Nat->Nat->St->Hp->Prop,(∃m,W 0 m σ H)/\∀i m σ H,W i m σ H ->
   ((Ite f l).stop i H/\D.nx σ H)\/((Ite f l).go i H/\∃N:St->Hp->Prop,(∀σ' H',N σ' H'->∃m',m' < m/\W (i+1) m' σ' H')/\∀x H',(Ite f l).yld i H x H'->g x σ H' λ σ2 H2=>tb { D with nx:=N,ct:=N,bk:=D.nx } σ2 H2):=by
 apply%[λ i m σ H=>m=xs.length - i/\i<=xs.length/\Pv i σ H,%[xs.length,by simp,E6 _|h0]|?_];rintro i m σ H ⟨rfl,hi,p⟩;have e1:=hk i σ H p
 by_cases hlt:i < xs.length
 ·apply .inr %[%[xs,xs[i],e1|by simp[hlt]],Pv (i+1),λ σ' H' p'=>%[xs.length - (i+1),⋯,Z,hlt|p']|λ v H' y=>?_];obtain⟨q,xs',x,hq,rfl,rfl,e1',ex⟩:=y;rw[e1]at e1';cases hf _ _ (B7 e1');exact ht i x q σ H ex hq p
 ·have e:i=xs.length:=⋯
  subst e;exact .inl %[%[xs,e1|B2 _]|hd σ H p]
end L2
namespace Pc
open PySem L2
def aY(k:Kd):Bool:=k.tu && !decide (k.w=k.h)
def lyT(i:Nat)(k:Kd):IF (Nat×Bool):=(i,false) :: if aY k=true then[(i,true)]else[]
def lyK:IF Kd->Nat->IF (Nat×Bool)
 | [],_=>[]
 | k :: r,i=>lyT i k ++ lyK r (i+1)
theorem jk(k:Kd):∀(ks:IF Kd)(i:Nat),lyK (ks ++ [k]) i=lyK ks i ++ lyT (i+ks.length) k
 | [],i=>by simp[lyK]
 | c :: r,i=>by show lyT i c ++ lyK (r ++ [k]) (i+1)=(lyT i c ++ lyK r (i+1)) ++ _;rw[jk k r (i+1),List.append_assoc];congr 2;simp only[G1];congr 1;omega
theorem rA(i:Nat)(k:Kd):(lyT i k).length<=2:=by unfold lyT;split <;> simp
theorem eF:∀(ks:IF Kd)(i:Nat),(lyK ks i).length<=2 * ks.length
 | [],i=>by simp[lyK]
 | c :: r,i=>by have:=eF r (i+1);have:=rA i c;simp only[lyK,G4,G1];omega
def jm(K:C3):Sp:=λ vs H Q _=>∃(a:IB)(k:Kd),vs=[.ref a]/\H a= ~~~(kdV k)/\Q (.bl (aY k)) H
def cx(ks:IF Kd)(x t:V):Bool:=match x,t with
 | .int i,.bl b=>decide (0<=i) && match ks[i.toNat]? with
  | some k=>!b || aY k
  | none=>false
 | _,_=>false
def dJ(K:C3)(C:IB):Sp:=λ vs H Q _=>∃(s:IB)(b:Int)(ks:IF Kd)(x t:V)(T U:String),vs=[.ref s,x,t]/\ShopAt C H s b ks/\Ty K H x T/\Ty K H t U/\Q (.bl (cx ks x t)) H
end Pc
namespace L2
open PySem PySem.Spec PyProof.Rows
section
variable{X:Cx}
inductive rz_op_inD(K:C3)(x:V)(y:V)(H:Hp)(Q:VK):Prop
|mk(d xs:_)(_:DatV K H x d)(_:DatV K H y (.list xs))(_:SeqAt.shaped (.list xs)=true)(_:SeqAt.shaped d=true)(_:(∀y∈xs,SeqAt.noMix y d=true))(_:Q (.bl (decide (countIn d xs≠0))) H)
theorem lH{k:Nat}{C:IB}{ps:IF Str}{sp:Sp}{m:Str}{o:Expr}{e:Expr}{es:IF Expr}{ta:TE}{t:TA}{apos pos:Pos}{pl:Sem Bool}(he:PE X o ta)(c:Cls X.K C)(D:Mn X.prog X.w X.K X.mg X.base C m ps k sp)(hr:Room k X.A)(ha:PA X (e :: es) t)
  (hst:starEach (e :: es) X.env=(false,eval e X.env) :: starEach es X.env:=by rfl) (hpl:(backTo pos (starEach es X.env)).any (·.1)=false:=by rfl)
  (ht:eval (.Call (.Attribute o m apos) (e :: es) [] pos) X.env=(do
   let ov<-eval o X.env
   standAt apos.atName
   let (f,first)<-holding [ov] (getMethod ov m pl)
   callWith pos f first (backTo pos (starEach (e :: es) X.env)) (backToKw pos (keywordEach [] X.env))):=by rfl):PE X (.Call (.Attribute o m apos) (e :: es) [] pos) (lx C m sp [] E0 ta t):=by
 obtain⟨f,fd,F,hb,hm⟩:=D;exact qY he c hm F hr hb .nil lB ha hst hpl ht
inductive rz_op_catT0(K:C3)(x:V)(y:V)(H:Hp)(Q:VK):Prop
|mk(a b ys:_)(_:x=.ref a)(_:y=.ref b)(_:SqT K H a [])(_:SqT K H b ys)(_:Q (.ref b) H)
theorem pF:OpR X (binaryOp .Add) (rz_op_catT0 X.K):=by
 intro IH s σ H x y v u Q I rx ry h;obtain⟨a,b,ys,rfl,rfl,ha,hb,q⟩:=h;cases rx;cases ry;obtain⟨its,r1,p1,_⟩:=I.tuple ha;obtain⟨its2,r2,p2,_⟩:=I.tuple hb;cases r1;obtain⟨⟨cls,dd,data,sl⟩,ho,hc,n,hd⟩:=p1;obtain⟨⟨cls2,dd2,data2,sl2⟩,ho2,hc2,n2,hd2⟩:=p2;simp only at hc hd hc2 hd2;subst hc hd hc2 hd2;exact concat_meets %[_,ho|rfl] %[_,ho2|rfl] noFill_tuple_add seq_tuple_add PySem.F.slot_tuple_add PySem.F.entry_tuple_add (PySem.F.args_tuple_add_2 _ _)
   (tuple_addW0 a b _ _ n n2 dd dd2 sl sl2 rfl) %[ho,ho2|%[.ref b,H,I,rfl|q]]
def xk:R2:=λ x y H Q=>∃a b xs ys,x=.ref a/\y=.ref b/\H a= ~~~xs/\H b= ~~~ys/\xs.length+ys.length<=sizeLine /\
 ∀m H',(H'=H/\(m=a\/m=b))\/(H m=none/\H'=upd H m (.tup (xs ++ ys)))->H' m= ~~~(xs ++ ys)->Q (.ref m) H'
theorem fC:OpR X (binaryOp .Add) xk:=by
 intro IH s σ H x y v u Q I rx ry h;obtain⟨a,b,xs,ys,rfl,rfl,ha,hb,hz,q⟩:=h
 by_cases hx:xs=[]
 ·subst hx;exact pF IH s σ H _ _ v u Q I rx ry %[a,b,ys,rfl,rfl,GV ha,GV hb|q b H (.inl %[rfl|.inr rfl]) hb]
 ·apply rf IH s σ H _ _ v u Q I rx ry %[a,b,xs,ys,rfl,rfl,GV ha,GV hb,hx,hz,λ e=>?_|λ e p hp=>q p _ (.inr %[hp|rfl]) upd_same];subst e;exact q a H (.inl %[Z|.inl rfl]) (by rw[HZ];exact ha)
end
theorem mF(xs:IF V)(k:Nat):cr xs (some (k:Int)) none=xs.drop k:=by
 unfold cr;rw[HT.sIx_none,HT.sIx_nat];rcases Nat.le_total k xs.length with h | h
 ·rw[Hu h,HP (by rw[HG];exact B2 _)]
 ·rw[Nat.min_eq_right h,List.drop_of_length_le (B2 _),List.drop_of_length_le h,List.take_nil]
theorem lI:∀{ns:IF Int}{its:IF F8},Vals (ns.map V.int) its->IntsAre its ns
 | [],_,r=>by cases r;exact .nil
 | n :: ns,_,r=>by
  cases r with
  | cons r1 r2=>
   obtain⟨t,e⟩:=r1;subst e;exact .cons n t (lI r2)
section
variable{X:Cx}
inductive rz_call_divmodB(xs:IF V)(H:Hp)(Q:VK):Prop
|mk(i j:_)(_:xs=[.int i,.int j])(_:CDivB i j)(_:∀p,H p=none->Q (.ref p) (upd H p (.tup [.int (i / j),.int (i % j)])))
inductive rz_call_sortedI(K:C3)(xs:IF V)(H:Hp)(Q:VK):Prop
|mk(p:IB)(ns:IF Int)(_:xs=[.ref p])(_:SqL K H p (ns.map V.int))(_:ns.length < 64)(_:∀(l:IB)(ns':IF Int),H l=none->ns'.Perm ns->ns'.Pairwise (·<=·)->Q (.ref l) (upd H l (.lst (ns'.map V.int))))
inductive rz_call_sumI(K:C3)(xs:IF V)(H:Hp)(Q:VK):Prop
|mk(p:IB)(ns:IF Int)(_:xs=[.ref p])(_:SqL K H p (ns.map V.int))(_:Q (.int ns.sum) H)
theorem jn:∀{bs:IF Bool}{its:IF F8},Vals (bs.map V.bl) its->its=bs.map Value.bool
 | [],_,r=>by cases r;rfl
 | b :: bs,_,r=>by
  cases r with
  | cons r1 r2=>
   have e:_=Value.bool b:=r1;subst e;rw[G9,jn r2]
theorem mG(bs:IF Bool):(List.range bs.length).all (λ i=>bs.getD i false)=bs.all id:=by
 rw[Ht,Hl,Hl];constructor
 ·intro h b hb;obtain⟨i,hi,e⟩:=List.getElem_of_mem hb;have:=h i (List.mem_range.mpr hi);rw[HW,E9 hi]at this;simpa[e]using this
 ·intro h i hi;have hi':=List.mem_range.mp hi;rw[HW,E9 hi'];exact h _ (Hs hi')
inductive rz_call_allB(K:C3)(xs:IF V)(H:Hp)(Q:VK):Prop
|mk(p:IB)(bs:IF Bool)(_:xs=[.ref p])(_:SqL K H p (bs.map V.bl))(_:Q (.bl (bs.all id)) H)
theorem eZ(hc:X.calm=true):cn X (.builtin "all") (rz_call_allB X.K):=by
 intro IH s σ H xs us Q I r h;obtain⟨p,bs,rfl,hs,q⟩:=h;obtain⟨u,rfl,rfl⟩:=du r;obtain⟨its,rv,pl,_⟩:=I.list hs;have e:=jn rv;subst e;have hlt:p < s.heap.objs.size:=by obtain⟨_,_,e,_⟩:=pl;exact A8 e
 apply call_all_walk (wpAny_pyIter_list pl.isList ?_);apply%[_,_,_,_,_,_,λ i=>bs.getD i false,Z,Walks.list (A:=X.A.in1) (I.ok.hd hc) _ p (B8 hlt) _,%[%[_,A7 _ rfl,Z|Z]|pl.isList.push _],λ i v s' Q' E' hP hQ'=>?_|λ h' tk hk=>?_]
 ·have hP':(bs.map Value.bool)[i]?=some v:=by simpa using hP
  rw[G6]at hP';cases hb:bs[i]? with
  | none=>rw[hb]at hP';cases hP'
  | some b=>
   rw[hb]at hP';cases hP';have hQ2:Q' (bs.getD i false) s':=hQ';rw[HW,hb]at hQ2;exact F0 hQ2
 ·have e2:((bs.map Value.bool).toArray.size)=bs.length:=by simp
  rw[e2,mG];apply%[.bl (bs.all id),H,I.kept (h':=h') (t':=tk) (λ b o e=>hk b o ?_ (A6 _ e)),Z|q];intro z;rw[C9.mp z]at e;exact absurd (A8 e) (C8 _)
inductive rz_call_repr(K:C3)(xs:IF V)(H:Hp)(Q:VK):Prop
|mk(a d:_)(_:xs=[.ref a])(_:DatV K H (.ref a) d)(_:d.showable=true)(_:d.hasDict=false)(_:d.depth<=64)(_:d.shown.length<=sizeLine)(_:Q (.str d.shown) H)
theorem hJ(hg:X.A.guards=some [])(hu:X.A.units+66 < cLine):cn X (.builtin "repr") (rz_call_repr X.K):=by intro IH s σ H xs us Q I r h;obtain⟨a,d,rfl,hd,h1,h2,h3,h4,q⟩:=h;obtain⟨u,rfl,rfl⟩:=du r;obtain⟨as,ra⟩:=I.reads hd (u:=.ref a) rfl;exact repr_of_reads' ra h1 (λ z=>by rw[h2]at z;cases z) hg ⋯ (λ _ _ e=>e) (λ h' u tk hk=>%[.str d.shown,H,I.kept hk,%[_|Z]|q]) h4
end
theorem cy{α:Type}{xs:IF α}{i:Int}{v:α}(h0:0<=i)(h:xs[i.toNat]?=some v):atI xs i=some v:=by
 have e:i=((i.toNat:Nat):Int):=⋯
 have z:atI xs ((i.toNat:Nat):Int)=some v:=rg h;rw[<- e]at z;exact z
end L2
namespace Pc
open PySem L2
def pG(K:C3):Sp:=λ vs H Q _=>∃(a:IB)(ns:IF Int)(n:Int),vs=[.ref a,.int n]/\SqL K H a (ns.map V.int)/\0<=n/\∀c:Int,Q (.int c) H
end Pc
namespace L2
open PySem
theorem Room.units66{k:Nat}{A:Around}(r:Room k A):A.units+66 < cLine:=by have:=r.un;omega
end L2
namespace Pc
open PySem L2
def Short(i:Int):Prop:=i.natAbs < 10 ^ 62
theorem Short.log{i:Int}(h:Short i):i.natAbs.log2 < 1920:=by
 unfold Short at h;rcases Nat.eq_zero_or_pos i.natAbs with h0 | hp
 ·rw[h0];decide
 ·apply(Nat.log2_lt (Nat.ne_of_gt hp)).mpr (Nat.lt_trans h ?_)
  decide +kernel
theorem Short.len{i:Int}(h:Short i):(PyData.shown (.int i)).length<=63:=by show(Str.ofString (toString i)).length<=63;rw[ofString_length];exact int_text_length_le10 ∅ h
end Pc
namespace L2
open PySem PySem.Spec PyProof.Rows
theorem gm{X:Cx}(K:C3){x y:Str}{px py pos:Pos}{k:Nat}(hK:X.K=K)(hc:X.calm=true)(hN:X.N.Nodup)(h0:X.N[0]?=some x)(h1:X.N[1]?=some y)(l0:X.env.scope.names.lookup x=some .local)(l1:X.env.scope.names.lookup y=some .local) :
  PG X (.Tuple [.Name x px,.Name y py] k pos) (gTup K 2 (gCons (iZ 0) (gCons (iZ 1) wR))) :=
 hK ▸ bc hc (au (aj hN h0 (.inl l0) (.inr l0)) (au (aj hN h1 (.inl l1) (.inr l1)) aQ))
theorem eG{l1 l2:IB}{xs ys:IF V}{σ:St}{cap:IF Nat}{k:Nat}{g:TG}{tt:TT}{te:TE}{Q:IF V->Hp->Prop}{H:Hp}(Pv:Nat->IF V->Hp->Prop)(hn:xs.length=ys.length)
  (hk:∀i zs H',Pv i zs H'->H' l1=↥xs/\H' l2=↥ys) (h0:Pv 0 [] H)
  (hz:∀i zs H',i < xs.length->Pv i zs H'->zs.length < sizeLine)
  (ht:∀i x y p zs H',xs[i]?=some x->ys[i]?=some y->H' p=none->Pv i zs H'->g (.ref p) (bR σ cap k) (upd H' p (.tup [x,y])) λ σ2 H2=>leS (bR σ cap k) σ2/\tt σ2 H2 λ ok H3=>if ok=true then te σ2 H3 (λ v H4=>Nx xs.length Pv i (zs ++ [v]) H4)else Nx xs.length Pv i zs H3)
  (hd:∀zs H',Pv xs.length zs H'->zs.length<=sizeLine/\Q zs H'):∃W,(∃m,W 0 m [] H)/\gY σ cap k (Itz l1 l2) g tt te Q W:=by
 apply%[λ i m zs H'=>m=xs.length - i/\i<=xs.length/\Pv i zs H',%[_,Z,E6 _|h0]|?_];rintro i m zs H' ⟨rfl,hi,p⟩;obtain⟨e1,e2⟩:=hk i zs H' p
 by_cases hlt:i < xs.length
 ·have hx:xs[i]?=some xs[i]:=by simp[hlt]
  have hy:ys[i]?=some (ys[i]'⋯):=by simp[show i < ys.length by omega]
  apply .inr %[%[xs,ys,_,_,e1,e2,hx|hy],hz i zs H' hlt p|λ v H2 yl=>?_]
  ·obtain⟨q,xs',ys',x,y,hq,rfl,rfl,e1',e2',ex,ey⟩:=yl;rw[e1]at e1';cases e1';rw[e2]at e2';cases e2';exact ht i x y q zs H' ex ey hq p
 ·have e:i=xs.length:=⋯
  subst e;obtain⟨a1,a2⟩:=hd zs H' p;exact .inl %[%[xs,ys,e1,e2|.inl (B2 _)],a1|a2]
theorem gn(val:Nat->Int):∀k,argBest (λ i j=>decide (val j < val i)) k<=k/\∀j,j<=k->val j<=val (argBest (λ i j=>decide (val j < val i)) k)
 | 0=>%[B2 _|λ j hj=>by rw[Nat.le_zero.mp hj];exact E3 _]
 | k+1=>by
  obtain⟨h1,h2⟩:=gn val k;unfold argBest
  by_cases c:val (argBest (λ i j=>decide (val j < val i)) k) < val (k+1)
  ·rw[IP (IL c)];apply%[B2 _|λ j hj=>?_];rcases Nat.lt_or_ge k j with z | z
   ·rw[show j=k+1 by omega];exact E3 _
   ·have:=h2 j z;omega
  ·rw[IN (λ z=>c (Ip z))];apply%[⋯|λ j hj=>?_];rcases Nat.lt_or_ge k j with z | z
   ·rw[show j=k+1 by omega];omega
   ·exact h2 j z
section
variable{X:Cx}
inductive rz_call_maxI(K:C3)(xs:IF V)(H:Hp)(Q:VK):Prop
|mk(p:IB)(ns:IF Int)(_:xs=[.ref p])(_:SqL K H p (ns.map V.int))(_:ns≠[])(_:∀m,m∈ns->(∀x∈ns,x<=m)->Q (.int m) H)
theorem hU(hc:X.calm=true):cn X (.builtin "max") (rz_call_maxI X.K):=by
 intro IH s σ H xs us Q I r h;obtain⟨p,ns,rfl,hs,hne,q⟩:=h;obtain⟨u,rfl,rfl⟩:=du r;obtain⟨its,rv,pl,_⟩:=I.list hs;have hi:=lI rv;obtain⟨xs,e⟩:=hi.allInts.items;have pl':=pl.isList;rw[e]at pl';have en:(xs.toList.map (·.1))=ns:=by have h1:=hi.numsOf;have h2:=nums_intItems (xs:=xs);rw[<- e,show its.toArray.toList=its from rfl]at h2;rw[<- h1,h2]
 have sz:xs.size=ns.length:=by rw[<- en,GZ];rfl
 have hn:0 < xs.size:=by rw[sz];exact List.length_pos_iff.mpr hne
 have nat:∀i,i < xs.size->numAt xs i∈ns:=λ i h=>by unfold numAt;rw[<- en,Array.getElem?_eq_getElem h];exact G7.mpr %[xs[i],by simp|Z]
 have all:∀x∈ns,∃i,i < xs.size/\numAt xs i=x:=λ x hx=>by rw[<- en]at hx;obtain⟨y,hy,rfl⟩:=G7.mp hx;obtain⟨i,hi',e'⟩:=List.getElem_of_mem hy;apply%[i,by simpa using hi'|?_];unfold numAt;rw[Array.getElem?_eq_getElem (by simpa using hi')];simpa using Ii Prod.fst e'
 obtain⟨g1,g2⟩:=gn (numAt xs) (xs.size - 1);apply max_intList (I.ok.hd hc) pl' hn λ v h' tk hv hk=>?_;obtain⟨t,rfl⟩:=intItems_at hv;apply%[.int _,H,I.kept hk,%[t|Z]|q _ (nat _ (by have:argBest (λ i j=>decide (numAt xs i > numAt xs j)) (xs.size - 1)<=xs.size - 1:=g1;omega)) λ x hx=>?_];obtain⟨i,h1,h2⟩:=all x hx;rw[<- h2];exact g2 i ⋯
end
end L2
namespace PyProof.Rows
set_option autoImplicit false
open PySem
structure SBaseT(κ0:SortKind)(a₀:IE IC)(st:SortSt):Prop where
 perm:(arrOf st).Perm a₀
 kind:kindOf st=κ0
 failed:failedOf st=none
 pend:pendingOf st=#[]
theorem SBaseT.size{κ0:SortKind}{a₀:IE IC}{st:SortSt}(h:SBaseT κ0 a₀ st):(arrOf st).size=a₀.size:=h.perm.size_eq
theorem SBaseT.setArr{κ0:SortKind}{a₀:IE IC}{st:SortSt}(h:SBaseT κ0 a₀ st){xs:IE IC}(hp:xs.Perm (arrOf st)):SBaseT κ0 a₀ (setArr st xs) :=
 %[hp.trans h.perm,h.kind,h.failed|h.pend]
theorem SBaseT.atK{κ:KeyKind}{κ0:SortKind}{a₀:IE IC}{st:SortSt}(h:SBaseT κ0 a₀ st)(h0:KeysOf κ a₀){i:Nat}(hi:i < a₀.size) :
  ∃x p a,(arrOf st)[i]?=some (x,p)/\κ.keyOf x=some a/\KK κ (arrOf st) i=a:=by
 have hi':i < (arrOf st).size:=by rw[h.size];exact hi
 have hm:(arrOf st)[i]∈a₀.toList:=(Array.perm_iff_toList_perm.mp h.perm).mem_iff.mp (by simp);obtain⟨a,ha⟩:=h0 _ hm;have e:(arrOf st)[i]?=some (arrOf st)[i]:=getElem?_pos _ i hi';apply%[(arrOf st)[i].1,(arrOf st)[i].2,a,by rw[e],ha|?_];unfold KK;rw[e];simp[ha]
def cm(prog:F5)(w:F7)(A:Around)(s:F4)(κ0:SortKind)(κ:KeyKind):Prop :=
 ∀(E:F8->F4->Prop)(x y:F8)(a b:κ.α)(Q:Bool->F4->Prop),κ.keyOf x=some a->κ.keyOf y=some b->Q (κ.blt a b) s->wpAny (model prog w) A (keyLt' κ0 x y) Q E s
section
variable{prog:F5}{w:F7}{A:Around}{E:F8->F4->Prop}{s:F4}{a₀:IE IC}{κ:KeyKind}{κ0:SortKind}
theorem kh(hO:cm prog w A s κ0 κ){st:SortSt}{i j:Nat}{x y:F8}{a b:κ.α}{p q:F8}{Q:ID Bool->SortSt->Prop}(hk:kindOf st=κ0)
  (hi:(arrOf st)[i]?=some (x,p)) (hj:(arrOf st)[j]?=some (y,q)) (ha:κ.keyOf x=some a) (hb:κ.keyOf y=some b) (h:Q (some (κ.blt a b)) st) :
  wpS (model prog w) A E s (ltAt' i j) Q st:=by
 rw[ltAt'_eq];apply A2 (wpS_get ?_);show wpS _ _ _ _ (do let x<-elem' (arrOf st) i;let y<-elem' (arrOf st) j;lt' x y) Q st;rw[elem'_eq,elem'_eq,hi,hj];apply A2 (A3 (A2 (A3 ?_)));rw[lt'_eq];apply A2 (wpS_get ?_);rw[hk];apply A2 (wpS_lift (wpAny_attempt (hO _ x y a b _ ha hb %[rfl|?_])));exact A3 h
theorem cS{st:SortSt}{i j:Nat}{Q:ID Bool->SortSt->Prop}(hO:cm prog w A s κ0 κ)(hB:SBaseT κ0 a₀ st)(h0:KeysOf κ a₀)(hi:i < a₀.size)(hj:j < a₀.size)
  (h:Q (some (κ.blt (KK κ (arrOf st) i) (KK κ (arrOf st) j))) st):wpS (model prog w) A E s (ltAt' i j) Q st:=by
 obtain⟨x,p,a,e1,ha,ka⟩:=hB.atK h0 hi;obtain⟨y,q,b,e2,hb,kb⟩:=hB.atK h0 hj;rw[ka,kb]at h;exact kh hO hB.kind e1 e2 ha hb h
theorem fc{st:SortSt}{n ok:Nat}{Q:Bool->SortSt->Prop}(hO:cm prog w A s κ0 κ)(h0:KeysOf κ a₀)(hn:n<=a₀.size)(hok:ok<=n)(hB:SBaseT κ0 a₀ st)(hs:SortedToK κ (arrOf st) ok)
  (h:∀st',SBaseT κ0 a₀ st'->SortedToK κ (arrOf st') n->Q true st'):wpS (model prog w) A E s (binarySort' 0 n ok) Q st:=by
 rw[binarySort'_eq];simp only[Nat.zero_add];apply A2 (wpS_mono (wpS_forRange (I:=λ k c st'=>c=(none,())/\SBaseT κ0 a₀ st'/\SortedToK κ (arrOf st') (min k n))
  (Q:=λ c st'=>c=(none,())/\SBaseT κ0 a₀ st'/\SortedToK κ (arrOf st') n) ?step ?fin ?init) ?post)
 case post=>
  rintro c st' ⟨rfl,hB',hs'⟩;exact A3 (h st' hB' hs')
 case init=>
  apply%[Z,hB|λ i j hij hj=>?_]
  by_cases h1:ok=0
  ·have:i=j:=⋯
   subst this;exact Ib _
  ·exact hs i j hij ⋯
 case fin=>
  rintro c st' ⟨hc,hB',hs'⟩;apply%[hc,hB'|?_];rwa [show min (max (max ok 1) n) n=n by omega]at hs'
 case step=>
  rintro k c st' hak hkn ⟨rfl,hB',hs'⟩;rw[show min k n=k by omega]at hs';have hk:k < a₀.size:=⋯
  apply A2 (wpS_mono (wpS_forRange (I:=λ x c st''=>st''=st'/\∃l r,c=(none,l,r)/\l<=r/\r<=k/\r - l<=k - x /\
    (∀i,i < l->κ.kle (KK κ (arrOf st') i) (KK κ (arrOf st') k))/\(∀i,r<=i->i < k->κ.klt (KK κ (arrOf st') k) (KK κ (arrOf st') i)))
   (Q:=λ c st''=>st''=st'/\∃l r,c=(none,l,r)/\l<=k /\
    (∀i,i < l->κ.kle (KK κ (arrOf st') i) (KK κ (arrOf st') k))/\(∀i,l<=i->i < k->κ.klt (KK κ (arrOf st') k) (KK κ (arrOf st') i))) ?istep ?ifin ?iinit) ?ipost)
  case iinit=>exact%[Z,0,k,Z,⋯,⋯,⋯,λ i hi=>⋯|λ i h1 h2=>⋯]
  case ifin=>
   rintro c st'' ⟨rfl,l,r,rfl,hlr,hrk,hm,hlo,hhi⟩;have:l=r:=⋯
   subst this;exact%[Z,l,l,Z,hrk,hlo|hhi]
  case istep=>
   rintro x c st'' _ hxk ⟨rfl,l,r,rfl,hlr,hrk,hm,hlo,hhi⟩;dsimp only
   by_cases hge:l≥r
   ·rw[IP hge];have:l=r:=⋯
    subst this;exact A3 %[rfl,l,l,rfl,hrk,hlo|hhi]
   ·rw[IN hge];apply A2 (cS hO hB' h0 hk ⋯ ?_);cases hless:κ.blt (KK κ (arrOf st'') k) (KK κ (arrOf st'') ((l+r) / 2))
    case true=>
     simp only[if_true];apply A3 %[rfl,l,(l+r) / 2,rfl,⋯,⋯,⋯,hlo|λ i h1 h2=>?_];exact KeyOrd.klt_of_klt_of_kle hless (hs' _ _ h1 h2)
    case false=>
     simp only[HL,Io];apply A3 %[rfl,(l+r) / 2+1,r,rfl,⋯,⋯,⋯,λ i h1=>?_|hhi];exact KeyOrd.kle_trans (hs' i ((l+r) / 2) ⋯ ⋯) (show κ.kle _ _ from hless)
  case ipost=>
   rintro c st'' ⟨rfl,l,r,rfl,hlk,hlo,hhi⟩;show wpS _ _ _ _ (do moveDown' k l;pure (ForInStep.yield (none,()))) _ _;rw[moveDown'_eq];apply A2 (wpS_modify (A3 %[rfl,hB'.setArr (bubble_perm _ _ _)|?_]));rw[show min (k+1) n=k+1 by omega];have hks:k < (arrOf st'').size:=by rw[hB'.size];exact hk
   intro i j hij hj;show κ.kle (KK κ (bubble (arrOf st'') k (k - l)) i) (KK κ (bubble (arrOf st'') k (k - l)) j);rw[KK_bubble hks ⋯,KK_bubble hks ⋯,show k - (k - l)=l by omega]
   repeat' split
   all_goals first
    | (exfalso;omega)
    | exact Ib _
    | exact hlo _ ⋯
    | exact KeyOrd.kle_of_klt (hhi _ ⋯ ⋯)
    | exact hs' _ _ ⋯ ⋯
theorem dR{st:SortSt}{a nrem:Nat}{Q:AscSt->SortSt->Prop}(hO:cm prog w A s κ0 κ)(h0:KeysOf κ a₀)(hn:nrem<=a₀.size)(ha:1<=a)(han:a<=nrem)(hB:SBaseT κ0 a₀ st)
  (hs:SortedToK κ (arrOf st) a)
  (h:∀n,a<=n->n<=nrem->SortedToK κ (arrOf st) n->(n=nrem\/κ.klt (KK κ (arrOf st) n) (KK κ (arrOf st) (n - 1)))->Q (none,n) st) :
  wpS (model prog w) A E s (ascLoop a nrem) Q st:=by
 unfold ascLoop;apply wpS_forRange (I:=λ x c st'=>st'=st/\c=(none,x)/\SortedToK κ (arrOf st) x) ?step ?fin %[rfl,rfl|hs]
 case fin=>
  rintro c st' ⟨rfl,rfl,hs'⟩;rw[show max a nrem=nrem by omega]at hs' ⊢;exact h nrem han (B2 _) hs' (.inl rfl)
 case step=>
  rintro x c st' hax hxn ⟨rfl,rfl,hs'⟩;dsimp only;apply A2 (cS hO hB h0 ⋯ ⋯ ?_);cases hless:κ.blt (KK κ (arrOf st') x) (KK κ (arrOf st') (x - 1))
  case true=>
   simp only[if_true];exact A3 (h x hax ⋯ hs' (.inr hless))
  case false=>
   simp only[HL,Io];apply A3 %[rfl,rfl|λ i j hij hj=>?_]
   by_cases hjx:j < x
   ·exact hs' i j hij hjx
   ·have hj':j=x:=⋯
    subst hj'
    by_cases hi':i=j
    ·subst hi';exact Ib _
    ·exact KeyOrd.kle_trans (hs' i (j - 1) ⋯ ⋯) hless
theorem fm{st:SortSt}{n nrem:Nat}{Q:ID Nat->SortSt->Prop}(hO:cm prog w A s κ0 κ)(h0:KeysOf κ a₀)(hn:nrem<=a₀.size)(h1:1<=n)(hnn:n<=nrem)(hB:SBaseT κ0 a₀ st)
  (hs:NonIncK κ (arrOf st) n) (h:∀m st',SBaseT κ0 a₀ st'->1<=m->m<=nrem->SortedToK κ (arrOf st') m->Q (some m) st') :
  wpS (model prog w) A E s (tail3 n nrem) Q st:=by
 unfold tail3;have hsz:n<=(arrOf st).size:=by rw[hB.size];omega
 apply A2 (wpS_reverse ?_);have hB':SBaseT κ0 a₀ (setArr st (mirror (arrOf st) 0 n ((n - 0) / 2))):=hB.setArr (mirror_perm _ _ _ _);apply A2 (dR hO h0 hn h1 hnn hB' ?_ λ m hm1 hm2 hsm _=>A3 (h m _ hB' ⋯ hm2 hsm));intro i j hij hj;show κ.kle (KK κ (mirror (arrOf st) 0 n ((n - 0) / 2)) i) (KK κ (mirror (arrOf st) 0 n ((n - 0) / 2)) j);rw[KK_mirror hsz,KK_mirror hsz,IP ⋯,IP ⋯];exact hs _ _ ⋯ ⋯
theorem gq{st:SortSt}{n nrem:Nat}{Q:DescSt->SortSt->Prop}(hO:cm prog w A s κ0 κ)(h0:KeysOf κ a₀)(hn:nrem<=a₀.size)(h1:1<=n)(hnn:n<=nrem)(hB:SBaseT κ0 a₀ st)
  (hs:NonIncK κ (arrOf st) n)
  (h:∀m neq st',SBaseT κ0 a₀ st'->n<=m->m<=nrem->NonIncK κ (arrOf st') m->neq+1<=m->(∀i,m - (neq+1)<=i->i < m->KK κ (arrOf st') i=KK κ (arrOf st') (m - 1))->Q (none,m,neq) st') :
  wpS (model prog w) A E s (descLoop n nrem) Q st:=by
 unfold descLoop;apply wpS_forRange (I:=λ x c st'=>∃neq,c=(none,x,neq)/\SBaseT κ0 a₀ st'/\NonIncK κ (arrOf st') x/\neq+1<=x /\
   (∀i,x - (neq+1)<=i->i < x->KK κ (arrOf st') i=KK κ (arrOf st') (x - 1))) ?step ?fin %[0,rfl,hB,hs,⋯|λ i h1 h2=>by congr 1;omega]
 case fin=>
  rintro c st' ⟨neq,rfl,hB',hs',hq,he⟩;rw[show max n nrem=nrem by omega]at hs' hq he ⊢;exact h nrem neq st' hB' hnn (B2 _) hs' hq he
 case step=>
  rintro x c st' hax hxn ⟨neq,rfl,hB',hs',hq,he⟩;dsimp only;have hsz:x<=(arrOf st').size:=by rw[hB'.size];omega
  apply A2 (cS hO hB' h0 ⋯ ⋯ ?_);cases hless:κ.blt (KK κ (arrOf st') x) (KK κ (arrOf st') (x - 1))
  case true=>
   simp only[if_true];have step1:∀xs:IE IC,(∀k,KK κ xs k=KK κ (arrOf st') k)->NonIncK κ xs (x+1):=by
    intro xs hk i j hij hj;rw[hk,hk]
    by_cases hjx:j < x
    ·exact hs' i j hij hjx
    ·have hj':j=x:=⋯
     subst hj'
     by_cases hi':i=j
     ·subst hi';exact Ib _
     ·exact KeyOrd.kle_trans (KeyOrd.kle_of_klt hless) (hs' i (j - 1) ⋯ ⋯)
   by_cases hneq:neq > 0
   ·rw[IP hneq];apply A2 (wpS_reverse (A3 %[0,rfl,hB'.setArr (mirror_perm _ _ _ _),step1 _ (KK_mirror_equal hsz he),⋯|λ i h1 h2=>by congr 1;omega]))
   ·rw[IN hneq];exact A3 %[0,rfl,hB',step1 _ (λ _=>rfl),⋯|λ i h1 h2=>by congr 1;omega]
  case false=>
   simp only[HL,Io];apply A2 (cS hO hB' h0 ⋯ ⋯ ?_);cases hlarger:κ.blt (KK κ (arrOf st') (x - 1)) (KK κ (arrOf st') x)
   case true=>
    simp only[if_true];exact A3 (h x neq st' hB' hax ⋯ hs' hq he)
   case false=>
    simp only[HL,Io];have heqx:KK κ (arrOf st') x=KK κ (arrOf st') (x - 1):=KeyOrd.kle_antisymm hlarger hless;apply A3 %[neq+1,rfl,hB',λ i j hij hj=>?_,⋯|λ i h1 h2=>?_]
    ·by_cases hjx:j < x
     ·exact hs' i j hij hjx
     ·have hj':j=x:=⋯
      subst hj'
      by_cases hi':i=j
      ·subst hi';exact Ib _
      ·rw[heqx];exact hs' i (j - 1) ⋯ ⋯
    ·rw[show x+1 - 1=x by omega]
     by_cases hix:i=x
     ·subst hix;rfl
     ·rw[heqx];exact he i ⋯ ⋯
theorem dB{st:SortSt}{n nrem:Nat}{Q:ID Nat->SortSt->Prop}(hO:cm prog w A s κ0 κ)(h0:KeysOf κ a₀)(hn:nrem<=a₀.size)(hnn:n+1<=nrem)(hB:SBaseT κ0 a₀ st)
  (hs:NonIncK κ (arrOf st) (n+1)) (h:∀m st',SBaseT κ0 a₀ st'->1<=m->m<=nrem->SortedToK κ (arrOf st') m->Q (some m) st') :
  wpS (model prog w) A E s (descPart n nrem) Q st:=by
 unfold descPart;apply A2 (wpS_lift (wpAny_rule %[rfl|?_]));apply A2 (gq hO h0 hn ⋯ hnn hB hs λ m neq st' hB' hm1 hm2 hs' hq he=>?_);dsimp only;have hsz:m<=(arrOf st').size:=by rw[hB'.size];omega
 by_cases hneq:neq > 0
 ·rw[IP hneq];apply A2 (wpS_reverse (fm hO h0 hn ⋯ hm2 (hB'.setArr (mirror_perm _ _ _ _)) ?_ h));intro i j hij hj;show κ.kle (KK κ (mirror (arrOf st') _ _ _) j) (KK κ (mirror (arrOf st') _ _ _) i);rw[KK_mirror_equal hsz he,KK_mirror_equal hsz he];exact hs' i j hij hj
 ·rw[IN hneq];exact fm hO h0 hn ⋯ hm2 hB' hs' h
theorem gr{st:SortSt}{nrem:Nat}{Q:ID Nat->SortSt->Prop}(hO:cm prog w A s κ0 κ)(h0:KeysOf κ a₀)(hn:nrem<=a₀.size)(h1:1<=nrem)(hB:SBaseT κ0 a₀ st)
  (h:∀m st',SBaseT κ0 a₀ st'->1<=m->m<=nrem->SortedToK κ (arrOf st') m->Q (some m) st') :
  wpS (model prog w) A E s (countRun' 0 nrem) Q st:=by
 rw[countRun0_eq];apply A2 (dR hO h0 hn (B2 1) h1 hB (λ i j hij hj=>by have:i=j:=⋯;subst this;exact Ib _) λ n hn1 hn2 hsn hor=>?_);dsimp only
 by_cases hnn:n=nrem
 ·rw[IP (by simpa using hnn)];exact A3 (h n st hB hn1 hn2 hsn)
 ·rw[IN (by simpa using hnn)];have hlt:κ.klt (KK κ (arrOf st) n) (KK κ (arrOf st) (n - 1)):=hor.resolve_left hnn
  by_cases hgt:n > 1
  ·rw[IP hgt];apply A2 (cS hO hB h0 ⋯ ⋯ ?_);cases hrose:κ.blt (KK κ (arrOf st) 0) (KK κ (arrOf st) (n - 1))
   case true=>
    simp only[if_true];exact A3 (h n st hB hn1 hn2 hsn)
   case false=>
    simp only[HL,Io];have hsz:n<=(arrOf st).size:=by rw[hB.size];omega
    have hall:∀k,0<=k->k < n->KK κ (arrOf st) k=KK κ (arrOf st) (n - 1):=by intro k _ hk;have a1:=hsn 0 k ⋯ hk;have a2:=hsn k (n - 1) ⋯ ⋯;exact KeyOrd.kle_antisymm a2 (KeyOrd.kle_trans hrose a1)
    apply A2 (wpS_reverse (dB hO h0 hn ⋯ (hB.setArr (mirror_perm _ _ _ _)) ?_ h));intro i j hij hj;show κ.kle (KK κ (mirror (arrOf st) _ _ _) j) (KK κ (mirror (arrOf st) _ _ _) i);rw[KK_mirror_equal hsz hall,KK_mirror_equal hsz hall]
    by_cases hjn:j < n
    ·rw[hall i ⋯ ⋯,hall j ⋯ hjn];exact Ib _
    ·have hj':j=n:=⋯
     subst hj'
     by_cases hi':i=j
     ·subst hi';exact Ib _
     ·rw[hall i ⋯ ⋯];exact KeyOrd.kle_of_klt hlt
  ·rw[IN hgt];have hn1':n=1:=⋯
   subst hn1';apply dB hO h0 hn ⋯ hB ?_ h;intro i j hij hj
   by_cases hi':i=j
   ·subst hi';exact Ib _
   ·have hi0:i=0:=⋯
    have hj1:j=1:=⋯
    subst hi0;subst hj1;exact KeyOrd.kle_of_klt hlt
theorem SBaseT.doneK{st:SortSt}(hB:SBaseT κ0 a₀ st)(hs:SortedToK κ (arrOf st) a₀.size):SDoneK κ a₀ (setPending st ((pendingOf st).push (0,a₀.size,0))) :=
 %[hB.perm,hB.failed,by show(pendingOf st).push _=_;rw[hB.pend];rfl|hs]
theorem gt{st:SortSt}{Q:Unit->SortSt->Prop}(hO:cm prog w A s κ0 κ)(h0:KeysOf κ a₀)(hB:SBaseT κ0 a₀ st)(h2:2<=a₀.size)(h64:a₀.size < 64)
  (h:∀st',(arrOf st').Perm a₀->failedOf st'=none->SortedToK κ (arrOf st') a₀.size->Q () st'):wpS (model prog w) A E s sortRuns' Q st:=by
 rw[sortRuns'_eq];apply A2 (wpS_get ?_);dsimp only;have hmr:minRun' a₀.size a₀.size 0=a₀.size:=by
  obtain⟨f,hf⟩:∃f,a₀.size=f+1:=%[a₀.size - 1|⋯]
  have:minRun' (f+1) a₀.size 0=a₀.size:=by rw[minRun'_succ,IP h64];rfl
  rwa [<- hf]at this
 simp only[hB.size,hmr];apply A2 (wpS_mono (wpS_forRange
  (I:=λ x c st'=>(x=0/\c=(none,0)/\SBaseT κ0 a₀ st')\/(1<=x/\c=(none,a₀.size)/\SDoneK κ a₀ st'))
  (Q:=λ c st'=>c=(none,a₀.size)/\SDoneK κ a₀ st') ?step ?fin (.inl %[Z,Z|hB])) ?post)
 case fin=>
  rintro c st' (⟨hx,_,_⟩ | ⟨_,hc,hD⟩)
  ·omega
  ·exact%[hc|hD]
 case step=>
  rintro x c st' _ hx (⟨rfl,rfl,hB'⟩ | ⟨hx1,rfl,hD⟩)
  ·dsimp only;rw[IN ⋯];simp only[Nat.sub_zero,Nat.min_self,Nat.zero_add];apply A2 (gr hO h0 (B2 _) ⋯ hB' λ m st2 hB2 hm1 hm2 hs2=>?_);dsimp only
   by_cases hlt:m < a₀.size
   ·rw[IP hlt];apply A2 (wpS_lift (wpAny_rule %[rfl|?_]));apply A2 (fc hO h0 (B2 _) hm2 hB2 hs2 λ st3 hB3 hs3=>?_);simp only[Bool.not_true,HL,Io];apply A2 (wpS_get ?_);have hb:(pendingOf st3).back?=none:=by rw[hB3.pend];rfl
    rw[hb];dsimp only;exact A2 (wpS_modify (A3 (.inr %[⋯,Z|hB3.doneK hs3])))
   ·rw[IN hlt];have hm:m=a₀.size:=⋯
    subst hm;apply A2 (wpS_get ?_);have hb:(pendingOf st2).back?=none:=by rw[hB2.pend];rfl
    rw[hb];dsimp only;exact A2 (wpS_modify (A3 (.inr %[⋯,Z|hB2.doneK hs2])))
  ·dsimp only;rw[IP (B2 _)];exact A3 %[rfl|hD]
 case post=>
  rintro c st' ⟨rfl,hD⟩;dsimp only;apply A2 (wpS_mono (wpS_forRange (I:=λ _ c st''=>st''=st'/\c=(none,())) (Q:=λ c st''=>st''=st'/\c=(none,())) ?_ (λ _ _ hh=>hh) %[rfl|rfl]) ?_)
  ·rintro x c st'' _ _ ⟨rfl,rfl⟩;apply A2 (wpS_get ?_);rw[IP (by rw[hD.2.2.1];exact B2 1)];exact A3 %[rfl|rfl]
  ·rintro c st'' ⟨rfl,rfl⟩;exact A3 (h _ hD.1 hD.2.1 hD.2.2.2)
end
section
variable{prog:F5}{w:F7}{A:Around}{E:F8->F4->Prop}{s:F4}
theorem fA{κ:KeyKind}{κ0:SortKind}{a:IB}{vs:IF F8}{n:Nat}{P:Fin->F4->Prop}(ho:s.heap.get? a=some (seqObj "list" vs.toArray n))
  (h0:KeysOf κ (pairsOf vs)) (hkk:∀s':F4,(∀b o,b≠a->s.heap.get? b=some o->s'.heap.get? b=some o)->cm prog w A s' κ0 κ/\∀v₁ v₂ rest,vs=v₁ :: v₂ :: rest->∀(Q:SortKind->F4->Prop),Q κ0 s'->wpAny (model prog w) A (keyKind' (v₁ :: v₂ :: rest).toArray) Q E s') (h64:vs.length < 64)
  (h:∀st':SortSt,(arrOf st').Perm (pairsOf vs)->SortedToK κ (arrOf st') (pairsOf vs).size->P (.done (.ret .none)) { s with heap:=sortedHeap s.heap a vs ((arrOf st').map (·.2)) }) :
  wpAny (model prog w) A (Builtin.«list.sort» %[[.ref a]|[]]) P E s:=by
 rw[list_sort_plain];have ha:a < s.heap.objs.size:=A8 ho;apply A0 (listItems_at ho rfl ?_);apply A0 (listUpdate_at ho rfl ?_);obtain⟨e1,ho1⟩:∃e1,(s.heap.update a (Obj.mapSeq λ _=>#[])).get? a=some (seqObj "list" #[] e1):=%[_|get?_update_seq ho (λ _=>#[])]
 apply A0 (seqEpoch_at ho1 rfl ?_);apply A0 (wpAny_newTuple ?_);apply A0 (wpAny_newList ?_);apply IX ?_;have ho6:(((s.heap.update a (Obj.mapSeq λ _=>#[])).push (seqObj "tuple" vs.toArray 0)).push (seqObj "list" #[] 0)).get? a=some (seqObj "list" #[] e1):=by rw[Heap.get?_push_ne _ _ _ (by rw[size_push',Heap.size_update];exact B8 (Nat.lt_succ_of_lt ha)),Heap.get?_push_ne _ _ _ (by rw[Heap.size_update];exact B8 ha)];exact ho1
 show wpAny (model prog w) A _ P E { s with heap:=((s.heap.update a (Obj.mapSeq λ _=>#[])).push (seqObj "tuple" vs.toArray 0)).push (seqObj "list" #[] 0) };dsimp only;have hsz:vs.toArray.size=vs.length:=by simp
 have fin:=h
 by_cases h2:vs.toArray.size < 2
 ·rw[IP h2,IP h2];apply A0 (A1 ?_);rw[StateT.run_pure];apply A0 (A1 ?_);dsimp only;apply A0 (seqEpoch_at ho6 rfl ?_);apply A0 (listUpdate_at ho6 rfl ?_ (hsz2:=by rw[Array.size_map];show(pairsOf vs).size<=_;rw[pairsOf_size,sizeLine_eq];omega));simp only[bne_self_eq_false,HL,Io];apply A1 (fin (SortSt.mk' general' (vs.toArray.zip vs.toArray) #[] 7 none) (Array.Perm.refl _) ?_);intro i j hij hj;have:i=j:=by rw[pairsOf_size]at hj;omega
  subst this;exact Ib _
 ·rw[IN h2,IN h2];obtain⟨v₁,v₂,rest,rfl⟩:∃v₁ v₂ rest,vs=v₁ :: v₂ :: rest:=by
   match vs,hsz,h2 with
   | [],_,h2=>simp at h2
   | [_],_,h2=>simp at h2
   | v₁ :: v₂ :: rest,_,_=>exact%[v₁,v₂,rest|Z]
  have kp:∀b o,b≠a->s.heap.get? b=some o->(((s.heap.update a (Obj.mapSeq λ _=>#[])).push (seqObj "tuple" (v₁ :: v₂ :: rest).toArray 0)).push (seqObj "list" #[] 0)).get? b=some o:=λ b o nb e=>
   A6 _ (A6 _ (by rw[Heap.get?_update_ne _ _ _ _ nb];exact e))
  obtain⟨hO,hK⟩:=hkk { s with heap:=((s.heap.update a (Obj.mapSeq λ _=>#[])).push (seqObj "tuple" (v₁ :: v₂ :: rest).toArray 0)).push (seqObj "list" #[] 0) } kp;apply A0 (hK _ _ _ rfl _ ?_);apply A0 (wpAny_mono (gt (κ:=κ) (κ0:=κ0) hO (a₀:=pairsOf (v₁ :: v₂ :: rest)) (st:=SortSt.mk' κ0 ((v₁ :: v₂ :: rest).toArray.zip (v₁ :: v₂ :: rest).toArray) #[] 7 none)
   (Q:=λ _ st'=>(arrOf st').Perm (pairsOf (v₁ :: v₂ :: rest))/\failedOf st'=none/\SortedToK κ (arrOf st') (pairsOf (v₁ :: v₂ :: rest)).size)
   h0 %[Array.Perm.refl _,rfl,rfl|rfl] (by rw[pairsOf_size];simp) (by rw[pairsOf_size];exact h64) λ st' a1 a2 a3=>%[a1,a2|a3]) ?_ λ _ _ e=>e)
  rintro⟨⟨⟩,st'⟩ s' ⟨rfl,hp,hf,hs⟩;dsimp only;apply A0 (seqEpoch_at ho6 rfl ?_);apply A0 (listUpdate_at ho6 rfl ?_ (hsz2:=by apply C4 (Nat.le_of_eq ((Array.size_map ..).trans (hp.size_eq.trans (pairsOf_size _)))) ?_;rw[sizeLine_eq];omega));rw[hf];simp only[bne_self_eq_false,HL,Io];exact A1 (fin st' hp hs)
theorem rB{κ:KeyKind}{κ0:SortKind}{l:IB}{vs:IF F8}{Q:F8->F4->Prop}(hl:s.heap.IsList l vs.toArray)(h0:KeysOf κ (pairsOf vs))(hkk:∀ (A':Around) (s':F4),(∀b o,s.heap.get? b=some o->s'.heap.get? b=some o)->cm prog w A' s' κ0 κ/\∀v₁ v₂ rest,vs=v₁ :: v₂ :: rest->∀ (Q:SortKind->F4->Prop) (E':F8->F4->Prop),Q κ0 s'->wpAny (model prog w) A' (keyKind' (v₁ :: v₂ :: rest).toArray) Q E' s')(h64:vs.length < 64)
  (h:∀st':SortSt,(arrOf st').Perm (pairsOf vs)->SortedToK κ (arrOf st') (pairsOf vs).size->Q (.ref (s.heap.objs.size+1)) { s with heap:=sortedAll s.heap vs ((arrOf st').map (·.2)) }) :
  wpAny (model prog w) A (call (.builtin "sorted") [.ref l]) Q E s:=by
 apply Calls.call_function_entry kind_sorted plain_sorted entry_sorted (args_sorted1 _) ?_;unfold Builtin.«sorted»;apply A0 (m:=checkCount "sorted" 1 1 _) (A1 ?_);apply A0 (collect_list hl ?_);apply A0 (wpAny_newList ?_);have hsz:((s.heap.push (seqObj "list" #[] 0)).update s.heap.objs.size (Obj.mapSeq (· ++ vs.toArray))).objs.size=s.heap.objs.size+1:=by rw[Heap.size_update,size_push']
 have hoL:(((s.heap.push (seqObj "list" #[] 0)).update s.heap.objs.size (Obj.mapSeq (· ++ vs.toArray))).push (seqObj "list" vs.toArray 0)).get? (s.heap.objs.size+1)=some (seqObj "list" vs.toArray 0):=by rw[<- hsz];exact A7 _ rfl
 show wpAny _ _ _ _ _ { s with heap:=((s.heap.push (seqObj "list" #[] 0)).update s.heap.objs.size (Obj.mapSeq (· ++ vs.toArray))).push (seqObj "list" vs.toArray 0) };rw[hsz];apply A0 (IX (F1 slot_list_sort %[_,hoL|rfl] entry_list_sort (fA hoL h0 (λ s' k=>by obtain⟨a1,a2⟩:=hkk _ s' (λ b o e=>k b o (B8 (Nat.lt_succ_of_lt (A8 e))) (A6 _ (by rw[Heap.get?_update_ne _ _ _ _ (B8 (Heap.lt_size e))];exact A6 _ e)));exact%[a1|λ v1 v2 r e Q q=>a2 v1 v2 r e Q _ q]) h64 λ st' a1 a2=>%[_,Z|?_]) (args_list_sort _)));exact A1 %[_,rfl|h st' a1 a2]
end
end PyProof.Rows
namespace L2
open PySem PySem.Spec PyProof.Rows
def bS:IF Bool->IF F8->ID (IF Int)
 | [],[]=>some []
 | false :: r,.int i _ :: vs=>(bS r vs).map (i :: ·)
 | true :: r,.bool b :: vs=>(bS r vs).map ((if b=true then 1 else 0) :: ·)
 | _,_=>none
def jo:IF Bool->IF V->ID (IF Int)
 | [],[]=>some []
 | false :: r,.int i :: vs=>(jo r vs).map (i :: ·)
 | true :: r,.bl b :: vs=>(jo r vs).map ((if b=true then 1 else 0) :: ·)
 | _,_=>none
theorem ki:∀{sh:IF Bool}{vs:IF V}{us:IF F8}{k:IF Int},Vals vs us->jo sh vs=some k->bS sh us=some k
 | [],[],_,_,r,h=>by cases r;exact h
 | [],_ :: _,_,_,_,h=>by cases h
 | false :: r,v :: vs,us,k,rv,h=>by
  cases rv with
  | cons r1 r2=>
   cases v with
   | int i=>
    obtain⟨t,rfl⟩:=r1;have h:(jo r vs).map (i :: ·)=some k:=h;show(bS r _).map (i :: ·)=some k;cases e:jo r vs with
    | none=>rw[e]at h;cases h
    | some k'=>rw[e]at h;rw[ki r2 e];exact h
   | _=>cases h
 | true :: r,v :: vs,us,k,rv,h=>by
  cases rv with
  | cons r1 r2=>
   cases v with
   | bl b=>
    cases(show _=Value.bool b from r1);have h:(jo r vs).map ((if b=true then 1 else 0) :: ·)=some k:=h;show(bS r _).map ((if b=true then 1 else 0) :: ·)=some k;cases e:jo r vs with
    | none=>rw[e]at h;cases h
    | some k'=>rw[e]at h;rw[ki r2 e];exact h
   | _=>cases h
 | false :: _,[],_,_,_,h=>by cases h
 | true :: _,[],_,_,_,h=>by cases h
def cf:IF Int->IF Int->Bool
 | [],[]=>false
 | [],_ :: _=>true
 | _ :: _,[]=>false
 | a :: r,b :: t=>if a=b then cf r t else decide (a < b)
theorem gu:∀a,cf a a=false
 | []=>rfl
 | a :: r=>by rw[cf,IP rfl];exact gu r
theorem hV:∀a b c,cf a b=true->cf b c=true->cf a c=true
 | [],[],_,h,_=>by cases h
 | [],_ :: _,[],_,h=>by cases h
 | [],_ :: _,_ :: _,_,_=>rfl
 | _ :: _,[],_,h,_=>by cases h
 | _ :: _,_ :: _,[],_,h=>by cases h
 | a :: r,b :: t,c :: u,h1,h2=>by
  rw[cf]at h1 h2 ⊢
  by_cases e1:a=b
  ·rw[IP e1]at h1
   by_cases e2:b=c
   ·rw[IP e2]at h2;rw[IP (e1.trans e2)];exact hV r t u h1 h2
   ·rw[IN e2]at h2;rw[IN (by rw[e1];exact e2),e1];exact h2
  ·rw[IN e1]at h1;have h1:=B9 h1
   by_cases e2:b=c
   ·rw[IN ⋯];exact A9 ⋯
   ·rw[IN e2]at h2;have h2:=B9 h2;rw[IN ⋯];exact A9 ⋯
theorem lJ:∀a b c,cf a c=true->cf a b=true\/cf b c=true
 | [],[],_,h=>.inr h
 | [],_ :: _,_,_=>.inl rfl
 | _ :: _,_,[],h=>by cases h
 | _ :: _,[],_ :: _,_=>.inr rfl
 | a :: r,b :: t,c :: u,h=>by
  rw[cf]at h;rw[cf,cf]
  by_cases e1:a=b
  ·rw[IP e1]
   by_cases e2:b=c
   ·rw[IP (e1.trans e2)]at h;rw[IP e2];exact lJ r t u h
   ·rw[IN (by rw[e1];exact e2)]at h;rw[IN e2];exact .inr (by rw[<- e1];exact h)
  ·rw[IN e1]
   by_cases e3:a=c
   ·rw[IN ⋯]
    by_cases z:a < b
    ·exact .inl (A9 z)
    ·exact .inr (A9 ⋯)
   ·rw[IN e3]at h;have h:=B9 h
    by_cases z:a < b
    ·exact .inl (A9 z)
    ·rw[IN ⋯];exact .inr (A9 ⋯)
theorem fe:∀a b,cf a b=false->cf b a=false->a=b
 | [],[],_,_=>rfl
 | [],_ :: _,h,_=>by cases h
 | _ :: _,[],_,h=>by cases h
 | a :: r,b :: t,h1,h2=>by
  rw[cf]at h1 h2
  by_cases e:a=b
  ·rw[IP e]at h1;rw[IP e.symm]at h2;rw[e,fe r t h1 h2]
  ·rw[IN e]at h1;rw[IN (Ne.symm e)]at h2;have:=of_decide_eq_false h1;have:=of_decide_eq_false h2;exact absurd (show a=b by omega) e
def mH(h:Heap)(sh:IF Bool):KeyKind where
 α:=IF Int
 blt:=cf
 irrefl:=gu
 trans:=hV
 negTrans:=lJ
 total:=fe
 keyOf:=λ v=>match v with
  | .ref a=>match h.get? a with
   | some o=>match o.data with
    | .seq xs _=>bS sh xs.toList
    | _=>none
   | none=>none
  | _=>none
 dflt:=[]
theorem lK{h:Heap}{sh:IF Bool}{v:F8}{k:IF Int}(e:(mH h sh).keyOf v=some k):∃a o xs n,v=.ref a/\h.get? a=some o/\o.data=.seq xs n/\bS sh xs.toList=some k:=by
 cases v with
 | ref a=>
  have e:(match h.get? a with
   | some o=>match o.data with
    | .seq xs _=>bS sh xs.toList
    | _=>none
   | none=>none)=some k:=e
  cases h1:h.get? a with
  | none=>rw[h1]at e;cases e
  | some o=>
   rw[h1]at e;cases h2:o.data with
   | seq xs n=>
    have e:(match o.data with
     | .seq xs _=>bS sh xs.toList
     | _=>none)=some k:=e
    rw[h2]at e;exact%[a,o,xs,n,Z,h1,h2|e]
   | _=>
    have e:(match o.data with
     | .seq xs _=>bS sh xs.toList
     | _=>none)=some k:=e
    rw[h2]at e;cases e
 | _=>cases e
theorem eH:∀{sh:IF Bool}{us:IF F8}{k:IF Int},bS sh us=some k->us.length=sh.length
 | [],[],_,_=>rfl
 | [],_ :: _,_,h=>by cases h
 | false :: r,[],_,h=>by cases h
 | true :: r,[],_,h=>by cases h
 | false :: r,v :: vs,k,h=>by
  cases v with
  | int i t=>
   have h:(bS r vs).map (i :: ·)=some k:=h;cases e:bS r vs with
   | none=>rw[e]at h;cases h
   | some k'=>rw[G1,G1,eH e]
  | _=>cases h
 | true :: r,v :: vs,k,h=>by
  cases v with
  | bool b=>
   have h:(bS r vs).map ((if b=true then 1 else 0) :: ·)=some k:=h;cases e:bS r vs with
   | none=>rw[e]at h;cases h
   | some k'=>rw[G1,G1,eH e]
  | _=>cases h
section
variable{prog:F5}{w:F7}{A:Around}{E:F8->F4->Prop}{s:F4}
theorem jp{a b:Bool}{Q:Bool->F4->Prop}(h:Q (a == b) s):wpAny (model prog w) A (eqBool (.bool a) (.bool b)) Q E s:=by
 unfold eqBool;show wpAny _ _ (if (Value.bool a == Value.bool b)=true then _ else _) Q E s
 by_cases hab:(Value.bool a == Value.bool b)=true
 ·rw[IP hab];have e:a=b:=by have:=eq_of_beq hab;injection this
  subst e;exact A0 (wpAny_rule (A1 (by simpa using h)))
 ·rw[IN hab];exact A0 (eq_bool (F0 h))
theorem iE{bb:Bool}{Q:Bool->F4->Prop}:∀(sh:IF Bool)(xs ys:IF F8)(a c:IF Int)(i:Nat),bS sh xs=some a->bS sh ys=some c->((bb && i == 0)=true->sh.head?=some false\/sh=[])->Q (cf a c) s->PySem.W.KatLex prog w A bb false Q (xs.zip ys) i s
 | [],[],[],a,c,i,h1,h2,_,q=>by cases h1;cases h2;exact PySem.W.kat_nil q
 | [],_ :: _,_,_,_,_,h,_,_,_=>by cases h
 | [],[],_ :: _,_,_,_,_,h,_,_=>by cases h
 | false :: r,[],_,_,_,_,h,_,_,_=>by cases h
 | true :: r,[],_,_,_,_,h,_,_,_=>by cases h
 | false :: r,_ :: _,[],_,_,_,_,h,_,_=>by cases h
 | true :: r,_ :: _,[],_,_,_,_,h,_,_=>by cases h
 | false :: r,v :: vs,u :: us,a,c,i,h1,h2,hb,q=>by
  cases v with
  | int p t=>cases u with
   | int p' t'=>
    have h1:(bS r vs).map (p :: ·)=some a:=h1;have h2:(bS r us).map (p' :: ·)=some c:=h2;cases e1:bS r vs with
    | none=>rw[e1]at h1;cases h1
    | some a'=>
     cases e2:bS r us with
     | none=>rw[e2]at h2;cases h2
     | some c'=>
      rw[e1]at h1;rw[e2]at h2;cases h1;cases h2;rw[cf]at q;apply PySem.W.kat_cons (wpAny_eqBool_int (PySem.W.kat_go (λ e=>PySem.W.kat_yes ?_) (λ e=>PySem.W.kat_no ?_)))
      ·rw[IP (by simpa using e)]at q;exact iE r vs us a' c' (i+1) e1 e2 (λ z=>by simp at z) q
      ·rw[IN (by simpa using e)]at q;cases z:(bb && i == 0)with
       | true=>exact oneLt_int q
       | false=>exact PySem.W.kat_one _ _ (PyProof.Rows.lt_int q)
   | _=>cases h2
  | _=>cases h1
 | true :: r,v :: vs,u :: us,a,c,i,h1,h2,hb,q=>by
  cases v with
  | bool p=>cases u with
   | bool p'=>
    have h1:(bS r vs).map ((if p=true then 1 else 0) :: ·)=some a:=h1;have h2:(bS r us).map ((if p'=true then 1 else 0) :: ·)=some c:=h2;cases e1:bS r vs with
    | none=>rw[e1]at h1;cases h1
    | some a'=>
     cases e2:bS r us with
     | none=>rw[e2]at h2;cases h2
     | some c'=>
      rw[e1]at h1;rw[e2]at h2;cases h1;cases h2;rw[cf]at q;apply PySem.W.kat_cons (jp (PySem.W.kat_go (λ e=>PySem.W.kat_yes ?_) (λ e=>PySem.W.kat_no ?_)))
      ·have e:p=p':=by simpa using e
       rw[IP (by rw[e])]at q;exact iE r vs us a' c' (i+1) e1 e2 (λ z=>by simp at z) q
      ·have e:p≠p':=by simpa using e
       rw[IN (by cases p <;> cases p' <;> simp_all)]at q;cases z:(bb && i == 0)with
       | true=>rcases hb z with z | z <;> cases z
       | false=>
        apply PySem.W.kat_one _ _ (PyProof.Rows.lt_bool ?_);show Q (decide (b2i p < b2i p')) s;rw[show decide (b2i p < b2i p')=decide ((if p=true then(1:Int)else 0) < (if p'=true then 1 else 0))by cases p <;> cases p' <;> rfl];exact q
   | _=>cases h2
  | _=>cases h1
theorem mI{h:Heap}{sh:IF Bool}(h0:sh.head?=some false)(k:∀b o,h.get? b=some o->s.heap.get? b=some o):cm prog w A s (tuples' true) (mH h sh):=by intro E x y a b Q ha hb q;obtain⟨x',ox,xs,n,rfl,hx,dx,fx⟩:=lK ha;obtain⟨y',oy,ys,m,rfl,hy,dy,fy⟩:=lK hb;have l1:=eH fx;have l2:=eH fy;apply PySem.W.kat_lt (k _ _ hx) dx (k _ _ hy) dy ?_;rw[show decide (xs.size < ys.size)=false from IQ (by rw[<- Hk,<- Hk];omega)];exact iE sh _ _ a b 0 fx fy (λ _=>.inl h0) q
end
theorem hX:∀{as:IF IB}{its:IF F8},Vals (as.map V.ref) its->its=as.map Value.ref
 | [],_,r=>by cases r;rfl
 | a :: as,_,r=>by
  cases r with
  | cons r1 r2=>
   have e:_=Value.ref a:=r1;subst e;rw[G9,hX r2]
theorem hZ:∀as:IF IB,Vals (as.map V.ref) (as.map Value.ref)
 | []=>.nil
 | a :: as=>.cons rfl (hZ as)
theorem pH{α β:Type}{f:α->β}(g:β->ID α)(hg:∀a,g (f a)=some a){l:IF β}{as:IF α}(h:l.Perm (as.map f)):∃as':IF α,l=as'.map f/\as'.Perm as:=by
 apply%[l.filterMap g,?_|?_]
 ·have all:∀x∈l,∃a,f a=x:=λ x hx=>by obtain⟨a,_,e⟩:=G7.mp (h.mem_iff.mp hx);exact%[a|e]
  clear h
  induction l with
  | nil=>rfl
  | cons x r ih=>
   obtain⟨a,rfl⟩:=all x B6;rw[List.filterMap_cons,hg a,G9,<- ih λ y hy=>all y (B3 _ hy)]
 ·have:=h.filterMap g;rw[List.filterMap_map,show(g∘f)=some from funext hg,List.filterMap_some]at this;exact this
theorem fq{h:Heap}{sh:IF Bool}{key:IB->IF Int}(h0:sh.head?=some false):∀(as:IF IB),(∀a∈as,∃o us n,h.get? a=some o/\o.cls=.type "tuple" /\ o.data=.seq (List.toArray us) n/\bS sh us=some (key a))->∃fs,PySem.W.KatTups h (as.map Value.ref) fs/\fs.length=as.length/\∀v∈fs,∃i t,v=Value.int i t
 | [],_=>%[[],trivial,Z|λ v hv=>by cases hv]
 | a :: as,H=>by
  obtain⟨fs,h1,h2,h3⟩:=fq h0 as λ b hb=>H b (B3 _ hb);obtain⟨o,us,n,e,c,d,f⟩:=H a B6;obtain⟨r,hr⟩:∃r,sh=false :: r:=by
   cases sh with
   | nil=>cases h0
   | cons x r=>cases h0;exact%[r|Z]
  subst hr;cases us with
  | nil=>cases f
  | cons u us=>
   cases u with
   | int i t=>exact%[.int i t :: fs,PySem.W.KatTups.cons e c d (by simp) h1,by rw[G1,G1,h2]|λ v hv=>(G0.mp hv).elim (λ z=>%[i,t|z]) (h3 v)]
   | _=>cases f
section
variable{X:Cx}
def uu(K:C3)(xs:IF V)(H:Hp)(Q:VK):Prop:=∃(p:IB)(as:IF IB)(sh:IF Bool)(key:IB->IF Int),xs=[.ref p]/\SqL K H p (as.map V.ref)/\as.length < 64/\sh.head?=some false/\(∀a∈as,∃vs,SqT K H a vs/\jo sh vs=some (key a)) /\
 ∀(l:IB)(as':IF IB),H l=none->as'.Perm as->(as'.map key).Pairwise (λ x y=>cf y x=false)->Q (.ref l) (upd H l (.lst (as'.map V.ref)))
theorem bT:cn X (.builtin "sorted") (uu X.K):=by
 intro IH s σ H xs us Q I r h;obtain⟨p,as,sh,key,rfl,hs,h64,h0,hk,q⟩:=h;obtain⟨u,rfl,rfl⟩:=du r;obtain⟨its,rv,pl,_⟩:=I.list hs;have ei:=hX rv;subst ei;have tu:∀a∈as,∃o us n,s.heap.get? a=some o/\o.cls=.type "tuple" /\ o.data=.seq (List.toArray us) n/\bS sh us=some (key a):=λ a ha=>by obtain⟨vs,hv,hf⟩:=hk a ha;obtain⟨us,r,⟨o,e,c,n,d⟩,_⟩:=I.tuple hv;exact%[o,us,n,e,c,d|ki r hf]
 have kof:∀a∈as,(mH s.heap sh).keyOf (.ref a)=some (key a):=λ a ha=>by
  obtain⟨o,us,n,e,c,d,f⟩:=tu a ha;show(match s.heap.get? a with
   | some o=>match o.data with
    | .seq xs _=>bS sh xs.toList
    | _=>none
   | none=>none)=some (key a)
  rw[e];show(match o.data with
    | .seq xs _=>bS sh xs.toList
    | _=>none)=some (key a)
  rw[d];exact f
 apply rB (κ:=mH s.heap sh) (κ0:=tuples' true) pl.isList ?keys ?kk (by rw[GZ];exact h64) λ st' hp hs'=>?_
 case keys=>
  intro pr hpr;rw[pairsOf_toList]at hpr;obtain⟨a,ha,e⟩:=G7.mp (List.of_mem_zip (show(pr.1,pr.2)∈_ from hpr)).1;exact%[key a|by rw[<- e];exact kof a ha]
 case kk=>
  intro A' s' k;apply%[mI h0 k|λ v1 v2 rest e Q E' q=>?_];obtain⟨fs,f1,f2,f3⟩:=fq (h:=s'.heap) (key:=key) h0 as λ a ha=>by obtain⟨o,us,n,e,c,d,f⟩:=tu a ha;exact%[o,us,n,k _ _ e,c,d|f]
  rw[e]at f1;have:(as.map Value.ref).length=rest.length+2:=by rw[e];rfl
  rw[GZ]at this;apply PySem.W.kat_kind (T:=.type "int") f1 ⋯ (λ v hv=>?_) rfl q;obtain⟨i,t,rfl⟩:=f3 v hv;exact PySem.W.Looks.of_pure rfl
 have pz:∀l:IF IB,(l.map Value.ref).zip (l.map Value.ref)=l.map λ a=>(Value.ref a,Value.ref a):=λ l=>by
  induction l with
  | nil=>rfl
  | cons a l ih=>rw[G9,List.zip_cons_cons,ih,G9]
 have hp':=Array.perm_iff_toList_perm.mp hp;rw[pairsOf_toList,pz]at hp';obtain⟨as',ea,pa⟩:=pH (f:=λ a=>(Value.ref a,Value.ref a)) (λ pr=>match pr.1 with
  | .ref a=>some a
  | _=>none) (λ a=>rfl) hp'
 have eo:((arrOf st').map (·.2)).toList=as'.map Value.ref:=by rw[Array.toList_map,ea,IA];rfl
 obtain⟨e,he⟩:=sortedAll_at s.heap (as.map Value.ref) ((arrOf st').map (·.2));have hn:H (s.heap.objs.size+1)=none:=I.hok.fresh (Nat.le_succ _);apply%[.ref (s.heap.objs.size+1),upd H (s.heap.objs.size+1) (.lst (as'.map V.ref)),I.laid (o:=.lst (as'.map V.ref)) (t':=s.toks) (λ _ _=>sortedAll_old) (Nat.le_succ _) (show ObjOk _ _ _ _ _ (.lst _)from%[?_,((arrOf st').map (·.2)).toList,e,?_|?_]),Z|q _ as' hn pa ?_]
 ·rw[GZ,pa.length_eq];have:(64:Nat)<=sizeLine:=∅
  omega
 ·rw[eo];exact hZ as'
 ·rw[he]
 ·rw[HQ];intro i j hi hj hij;rw[GZ]at hi hj;have sz:(pairsOf (as.map Value.ref)).size=as.length:=by rw[pairsOf_size,GZ]
  have kk:∀i (hi:i < as'.length),KK (mH s.heap sh) (arrOf st') i=key as'[i]:=λ i hi=>by
   have e:(arrOf st')[i]?=some (Value.ref as'[i],Value.ref as'[i]):=by rw[<- Array.getElem?_toList,ea,G6,E9 hi];rfl
   unfold KK;rw[e];show((mH s.heap sh).keyOf (.ref as'[i])).getD _=_;rw[kof _ (pa.mem_iff.mp (Hs hi))];rfl
  have:=hs' i j ⋯ (by rw[sz,<- pa.length_eq];exact hj);rw[kk i hi,kk j hj]at this;rw[List.getElem_map,List.getElem_map];exact this
inductive rz_call_sumT(K:C3)(xs:IF V)(H:Hp)(Q:VK):Prop
|mk(p:IB)(ns:IF Int)(_:xs=[.ref p])(_:SqT K H p (ns.map V.int))(_:Q (.int ns.sum) H)
inductive rz_mt_extendT(K:C3)(x:V)(vs:IF V)(H:Hp)(Q:VK):Prop
|mk(l b xs zs:_)(_:x=.ref l)(_:vs=[.ref b])(_:H l=↥xs)(_:SqT K H b zs)(_:xs.length+zs.length<=sizeLine)(_:Q .non (upd H l (.lst (xs ++ zs))))
theorem pI{lo:Int}{n:Nat}{σ:St}{cap:IF Nat}{k:Nat}{g:TG}{tt:TT}{te:TE}{Q:IF V->Hp->Prop}{H:Hp}(Pv:Nat->IF V->Hp->Prop)(h0:Pv 0 [] H)
  (ht:∀i ys H',i < n->Pv i ys H'->ys.length < sizeLine/\g (.int (lo+i)) (bR σ cap k) H' λ σ2 H2=>leS (bR σ cap k) σ2/\tt σ2 H2 λ ok H3=>if ok=true then te σ2 H3 (λ v H4=>Nx n Pv i (ys ++ [v]) H4)else Nx n Pv i ys H3)
  (hd:∀ys H',Pv n ys H'->ys.length<=sizeLine/\Q ys H'):∃W,(∃m,W 0 m [] H)/\gY σ cap k (Itr lo n) g tt te Q W:=by
 apply%[λ i m ys H'=>m=n - i/\i<=n/\Pv i ys H',%[_,Z,E6 _|h0]|?_];rintro i m ys H' ⟨rfl,hi,p⟩
 by_cases hin:i < n
 ·obtain⟨e,hg⟩:=ht i ys H' hin p;apply .inr %[hin,e|λ x H2 yl=>?_];obtain⟨e1,e2⟩:=yl;subst e1 e2;exact hg
 ·have e:i=n:=⋯
  subst e;obtain⟨a1,a2⟩:=hd ys H' p;exact .inl %[B2 _,a1|a2]
end
end L2
namespace PySem
theorem Paired.getL{α β:Type}{F:α->β->Prop}:∀{l₁:IF α}{l₂:IF β}{i:Nat}{y:β},Paired F l₁ l₂->l₂[i]?=some y->∃x,l₁[i]?=some x/\F x y
 | _,_,_,_,.nil,e=>by simp at e
 | _,_,0,_,.cons h _,e=>by simp at e;subst e;exact%[_,Z|h]
 | _,_,i+1,y,.cons _ t,e=>by obtain⟨x,h1,h2⟩:=Paired.getL (i:=i) t (by simpa using e);exact%[x,by simpa using h1|h2]
end PySem
namespace L2
open PySem PySem.Spec PyProof.Rows
structure CompOkC(X:Cx)(scope:Scope)(own:IF Str)(cs:IF Str)(cap:IF Nat):Prop where
 kind:scope.kind=.function
 names:∀y∈scope.names,y.2=.local->scope.names.lookup y.1=some .local
 free:∀y∈scope.names,y.2=.free->X.env.kindOf y.1=some .cell\/X.env.kindOf y.1=some .free
 caps:∀ (i:Nat) y,cs[i]?=some y->∃j,cap[i]?=some j/\X.N[j]?=some y/\(y,NameKind.free)∈scope.names
 len:cs.length=cap.length
 free2:∀y,(y,NameKind.free)∈scope.names->scope.names.lookup y=some .local->False
 free3:∀y,(y,NameKind.free)∈scope.names->scope.names.lookup y=some .cell->False
 free4:∀y,(y,NameKind.free)∈scope.names->(y,NameKind.cell)∉scope.names
abbrev xl(K:C3):IF V->Hp->VK->Prop:=rz_call_len_seq K
theorem pJ{X:Cx}:OpR X (compareOp .IsNot) (λ x y H Q=>y=.bl true/\∃b,x=.bl b/\Q (.bl (!b)) H):=by
 intro IH s σ H x y v u Q I rx ry h;obtain⟨rfl,b,rfl,q⟩:=h;cases ry;cases rx;unfold compareOp isSame;cases b
 ·exact A0 (A1 (A1 (aP I q rfl)))
 ·exact A0 (A1 (A1 (aP I q rfl)))
def ItE(K:C3)(l:IB):It :=
  ⟨λ i H=>∃xs x,SqT K H l xs/\xs[i]?=some x,
   λ i H v H'=>∃p x,H p=none/\v=.ref p/\H'=upd H p (.tup [.int i,x])/\∀xs,SqT K H l xs->xs[i]?=some x,
   λ i H=>∃xs,SqT K H l xs/\xs.length<=i⟩
section
variable{X:Cx}{IH:IF (IB×Obj)}{σ:St}{H:Hp}{s:F4}
theorem kj{tn:Nat->Heap->Prop}{es:IF Expr}{kk:Nat}{tp:Pos}{e it l:IB}{i:Nat}{xs:IF V}{x:V}{u:F8}{tk:Nat}{h':Heap}{E:F8->F4->Prop}(hne:e≠it)(I:Inv X IH σ H s)(hf:∀b∈[e,it],ek X IH H b)(hl:SqT X.K H l xs)(hx:xs[i]?=some x)
  (ho:∀b∈[e,it],b < s.heap.objs.size) (r:RelV x u) (b1:IsEnumOut h' e it ((i:Int)+1) u s.heap.objs.size) (b3:h'.get? s.heap.objs.size=some { cls:=.type "tuple",data:=.seq #[.int i tk,u] })
  (bk:∀b o,b≠e->b≠it->s.heap.get? b=some o->h'.get? b=some o) (hn:∀h'',IsEnum h'' e it ((i+1:Nat):Int) u->Heap.SameBut e h' h''->tn (i+1) h'') :
  wpAny (model X.prog X.w) X.A (letOwnedTupleGo (.Tuple es kk tp) (.ref e) (.ref s.heap.objs.size)) (λ _ s2=>∃x H',Inv X IH σ H' s2/\RelV x (.ref s.heap.objs.size)/\(ItE X.K l).yld i H x H'/\tn (i+1) s2.heap/\∀b∈[e,it],H' b=none) E { s with heap:=h',toks:=tk+1 }:=by
 apply wpAny_letOwnedTupleGo_enum b1 λ h'' c1 cs=>?_;have es':e < s.heap.objs.size:=ho e (by simp);have k2:∀b o,b∉[e,it]->s.heap.get? b=some o->h''.get? b=some o:=λ b o hb q=>by simp only[G0,G3,IS,not_or]at hb;exact cs.extBut b o hb.1 (bk b o hb.1 hb.2 q)
 have I1:Inv X IH σ H { s with heap:=h'',toks:=tk+1 }:=I.turnedN (t':=tk+1) hf k2;have hp:h''.get? s.heap.objs.size=some { cls:=.type "tuple",data:=.seq #[.int i tk,u] }:=cs.extBut _ _ (Nat.ne_of_gt es') b3;have hn0:H s.heap.objs.size=none:=I.hok.fresh (B2 _);have fpk:=I.fpOk (H':=H) (B2 _) hn0;have I2:Inv X IH σ (upd H s.heap.objs.size (.tup [.int i,x])) { s with heap:=h'',toks:=tk+1 }:=I1.track fpk I.sz %[by show 2<=sizeLine;decide,[.int i tk,u],.cons %[tk|Z] (.cons r .nil),_,hp,Z,_|Z];apply%[.ref s.heap.objs.size,_,I2,Z,%[_,x,hn0,Z,Z|λ ys hy=>by rw[I.tuple_inj hy hl];exact hx],hn h'' c1 cs|λ b hb=>?_];rw[aG (B8 (ho b hb))];exact(hf b hb).1
end
theorem km{P:F5}{w:F7}{K:C3}{es:IF Expr}{kk:Nat}{tp:Pos}(l e it:IB)(hne:e≠it) :
  Turn P w K (.Tuple es kk tp) (ItE K l) [e,it] e (λ i h=>(∃old,IsEnum h e it i old)/\h.IsTupleIter it l i) where
 mem:=by simp
 obj:=λ i h st b hb=>by
  obtain⟨⟨old,a1⟩,⟨o2,a2,_,d2⟩⟩:=st;simp only[G0,G3,IS]at hb;rcases hb with rfl | rfl
  ·exact%[_,a1|λ v q=>by cases q]
  ·exact%[_,a2|λ v q=>by rw[d2]at q;cases q]
 keep:=λ i h h' st k=>by obtain⟨⟨old,a1⟩,a2⟩:=st;exact%[%[old|k e (by simp) _ a1]|a2.at λ o q=>k it (by simp) o q]
 item:=by
  intro X hP hw hK hc i IH s σ H E I hf st hg;subst hP hw hK;obtain⟨⟨old,a1⟩,a2⟩:=st;obtain⟨xs,x,e1,ex⟩:=hg;obtain⟨its,rv,p1,_⟩:=I.tuple e1;obtain⟨u,hu,r⟩:=rv.get ex;have lt:i < its.toArray.size:=by simp;exact(A5.mp hu).1
  have ho:∀b∈[e,it],b < s.heap.objs.size:=λ b hb=>by
   obtain⟨o2,a2',_⟩:=a2;simp only[G0,G3,IS]at hb;rcases hb with rfl | rfl
   ·exact A8 a1
   ·exact A8 a2'
  have p1':s.heap.IsTuple l its.toArray:=p1;have nl:∀b∈[e,it],l≠b:=λ b hb q=>by
   obtain⟨o1,g1,g2,_⟩:=p1';simp only[G0,G3,IS]at hb;rcases hb with rfl | rfl
   ·rw[q,a1]at g1;cases g1;exact absurd (Value.type.inj g2) ∅
   ·obtain⟨o2,g3,g4,_⟩:=a2;rw[q,g3]at g1;cases g1;rw[g4]at g2;exact absurd (Value.type.inj g2) ∅
  have DD:Draws X.prog X.w X.A.in1 it [it,l] its.toArray.size (λ i v=>its.toArray[i]?=some v) (λ i h=>h.IsTupleIter it l i/\h.IsTuple l its.toArray):=ji (show X.A.in1.handled=none from I.ok.hd hc) it l (nl it (by simp)) its.toArray;apply wpAny_pyNext_enum_itemD DD a1 %[a2|p1'] lt hne (by simp only[G0,G3,IS,not_or];exact%[hne|Ne.symm (nl e (by simp))]) λ x' h' tk px b1 b2 b3 b4 bk=>%[_,Z|?_]
  have hu':its.toArray[i]?=some u:=by simpa using hu
  have eu:u=x':=B7 (hu'.symm.trans px);subst eu;exact kj (tn:=λ i h=>(∃old,IsEnum h e it i old)/\h.IsTupleIter it l i) hne I hf e1 ex ho r b1 b3 bk λ h'' c1 cs=>%[%[u|c1]|b2.1.extBut cs.extBut (Ne.symm hne)]
 done:=by
  intro X hP hw hK hc i IH s σ H E I hf st hg;subst hP hw hK;obtain⟨⟨old,a1⟩,a2⟩:=st;obtain⟨xs,e1,ex⟩:=hg;obtain⟨its,rv,p1,_⟩:=I.tuple e1;have lv:=rv.length;have p1':s.heap.IsTuple l its.toArray:=p1;have hT:s.TypeIs (.ref e) "enumerate" := %[_,a1|Z]
  unfold pyNext;apply A0 (wpAny_attempt (wpAny_callSpecial?_slot (name:=Str.ofString "__next__") hT F.slot_enumerate_next
   (F1 F.slot_enumerate_next hT F.entry_enumerate_next ?_ (F.args_enumerate_next_1 _))))
  show wpAny _ _ (field (.ref e) 2 >>= _) _ _ _;apply A0 (Il a1 rfl (x:=.ref it) rfl ?_);apply A0 (cF (I.ok.hd hc) a2 p1' (by simp;omega) λ h' x he' hx'=>?_);obtain⟨o,ho,hc⟩:=hx';apply A0 (wpAny_isInstance (T := "StopIteration") (b:=true) %[o,ho|hc] isSubtype_stop ?_);apply A1 %[rfl|?_];exact I.turnedN (t':=s.toks) hf λ b o hb q=>by simp only[G0,G3,IS,not_or]at hb;exact he' b o hb.2 q
 self:=λ _ _ _ _ _ st h=>by obtain⟨⟨old,a1⟩,_⟩:=st;exact Ij a1 h
def uv(K:C3)(ta:TA):TI:=λ σ H R=>ta σ H λ vs H1=>∃l xs,vs=[.ref l]/\SqT K H1 l xs/\R (ItE K l) H1
theorem pK{X:Cx}{a:Expr}{ta:TA}{p pos tp:Pos}{es:IF Expr}{kk:Nat}(hg:Gl X "enumerate")(hm:X.mg "enumerate" = none)(ha:PA X [a] ta)
  (hs:starEach [a] X.env=[(false,eval a X.env)]:=by rfl) :
  PI X (.Tuple es kk tp) (.Call (.Name "enumerate" p) [a] [] pos) (uv X.K ta):=by
 intro IH s σ H R I h;apply Call_ (dW I hg hm PyProof.Rows.boot_enumerate (Ic (thn (ha pos IH s σ H _ I h) λ us s1 %[vs,H1,I1,r1|q1]=>?_) (by rw[hs];rfl) (by rfl)));obtain⟨l,xs,rfl,e1,q⟩:=q1;cases r1 with
 | cons r rr=>
  cases rr;cases r;obtain⟨its1,rv1,p1,_⟩:=I1.tuple e1;have p1':s1.heap.IsTuple l its1.toArray:=p1;apply cG p1' λ h' z1 z2 sz keep=>?_;have I2:Inv X IH σ H1 { s1 with heap:=h' }:=I1.kept (t':=s1.toks) keep;apply Ij z1 %[s1.heap.objs.size+1,[s1.heap.objs.size+1,s1.heap.objs.size],_,_,H1,rfl,I2,km l _ _ (Nat.succ_ne_self _),%[%[_|z1]|z2],λ b hb=>?_|q];have hb':s1.heap.objs.size<=b:=by simp only[G0,G3,IS]at hb;rcases hb with rfl | rfl <;> omega
  exact I1.fpOk hb' (I1.hok.fresh hb')
theorem mJ{K:C3}{l:IB}{xs:IF V}{g:TG}{tb:TS}{D:Ends}{σ:St}{H:Hp}(Pv:Nat->St->Hp->Prop)(h0:Pv 0 σ H)(hk:∀i σ H',Pv i σ H'->SqT K H' l xs)
  (ht:∀i x p σ H,xs[i]?=some x->H p=none->Pv i σ H->g (.ref p) σ (upd H p (.tup [.int i,x])) λ σ2 H2=>tb { D with nx:=Pv (i+1),ct:=Pv (i+1),bk:=D.nx } σ2 H2) (hd:∀σ H,Pv xs.length σ H->D.nx σ H) :
  ∃W:Nat->Nat->St->Hp->Prop,(∃m,W 0 m σ H)/\∀i m σ H,W i m σ H ->
   ((ItE K l).stop i H/\D.nx σ H)\/((ItE K l).go i H/\∃N:St->Hp->Prop,(∀σ' H',N σ' H'->∃m',m' < m/\W (i+1) m' σ' H')/\∀x H',(ItE K l).yld i H x H'->g x σ H' λ σ2 H2=>tb { D with nx:=N,ct:=N,bk:=D.nx } σ2 H2):=by
 apply%[λ i m σ H=>m=xs.length - i/\i<=xs.length/\Pv i σ H,%[xs.length,by simp,E6 _|h0]|?_];rintro i m σ H ⟨rfl,hi,p⟩;have e1:=hk i σ H p
 by_cases hlt:i < xs.length
 ·apply .inr %[%[xs,xs[i],e1|by simp[hlt]],Pv (i+1),λ σ' H' p'=>%[xs.length - (i+1),⋯,Z,hlt|p']|λ v H' y=>?_];obtain⟨q,x,hq,rfl,rfl,ex⟩:=y;exact ht i x q σ H (ex _ e1) hq p
 ·have e:i=xs.length:=⋯
  subst e;exact .inl %[%[xs,e1|B2 _]|hd σ H p]
end L2
namespace L2
open PySem PySem.Spec PyProof.Rows PySem.SeqAt
open PySem.AutoSeq1 (wpAny_loadPart')
theorem dC(l:IB)(es:IE DictEntry)(n:Nat)(dd:ID IB)(sl:IE (ID F8))(b:Int)(u:Tok) :
  Meets (Builtin.«dict.__eq__» %[[.ref l,.int b u]|[]]) (λ _ R s=>s.heap.get? l=some { cls:=.type "dict",dict:=dd,data:=.dict es n,slots:=sl }/\R (.ok (.ret .notImplemented)) s) :=
 .of_wp λ prog w A R s h=>by obtain⟨hp,g,d,tk,os⟩:=s;obtain⟨hl,h⟩:=h;have f1:=F.sub_int_dict;wp_walk using IT hl,wpAny_load hl;exact%[_,Z|h]
theorem dm(l:IB)(es:IE DictEntry)(n:Nat)(dd:ID IB)(sl:IE (ID F8))(b:Bool) :
  Meets (Builtin.«dict.__eq__» %[[.ref l,.bool b]|[]]) (λ _ R s=>s.heap.get? l=some { cls:=.type "dict",dict:=dd,data:=.dict es n,slots:=sl }/\R (.ok (.ret .notImplemented)) s) :=
 .of_wp λ prog w A R s h=>by obtain⟨hp,g,d,tk,os⟩:=s;obtain⟨hl,h⟩:=h;have f1:=F.sub_bool_dict;wp_walk using IT hl,wpAny_load hl;exact%[_,Z|h]
theorem cJ(b:Bool)(l:IB)(c:F8)(es:IE DictEntry)(n:Nat)(dd:ID IB)(sl:IE (ID F8)) :
  Meets (Builtin.«int.__eq__» %[[.bool b,.ref l]|[]]) (λ _ R s=>s.heap.get? l=some { cls:=c,dict:=dd,data:=.dict es n,slots:=sl }/\R (.ok (.ret .notImplemented)) s) :=
 .of_wp λ prog w A R s h=>by obtain⟨hp,g,d,tk,os⟩:=s;obtain⟨hl,h⟩:=h;wp_walk using IT hl,wpAny_load hl;exact%[_,Z|h]
theorem cN(b:Int)(u:Tok)(l:IB)(c:F8)(es:IE DictEntry)(n:Nat)(dd:ID IB)(sl:IE (ID F8)) :
  Meets (Builtin.«int.__eq__» %[[.int b u,.ref l]|[]]) (λ _ R s=>s.heap.get? l=some { cls:=c,dict:=dd,data:=.dict es n,slots:=sl }/\R (.ok (.ret .notImplemented)) s) :=
 .of_wp λ prog w A R s h=>by obtain⟨hp,g,d,tk,os⟩:=s;obtain⟨hl,h⟩:=h;wp_walk using IT hl,wpAny_load hl;exact%[_,Z|h]
section
variable{A:Around}{s:F4}
theorem EqAt.int_dict{l:IB}{o:Obj}{es:IE DictEntry}{n:Nat}(b:Int)(u:Tok)(ho:s.heap.get? l=some o)(hc:o.cls=.type "dict")(hd:o.data=.dict es n)(hu:A.units < cLine):EqAt A s (.int b u) (.ref l) false:=λ prog w E Q h=>by
 obtain⟨cls,dd,data,sl⟩:=o;simp only at hc hd;subst hc hd;unfold eqBool;apply IX ?_;apply wpAny_ite_split (λ hab=>absurd (eq_of_beq hab) nofun) (λ _=>?_);exact A0 (rc_eq_decline_or (k:=false) (typeIs_int s b u) %[_,ho|rfl] ∅ F.sub_dict_int F.slot_int_eq F.slot_dict_eq_refl
  (λ _ hq=>Im F.slot_int_eq (typeIs_int s b u) F.entry_int_eq (F.args_int_eq_2 _ _) (cN b u l (.type "dict") es n dd sl) %[ho|hq])
  (λ _ hq=>Im F.slot_dict_eq_refl %[_,ho|Z] F.entry_dict_eq (F.args_dict_eq_2 _ _) (dC l es n dd sl b u) %[ho|hq])
  (λ _ hq=>wpAny_of_eq (rfl:isSame (.int b u) (.ref l)=pure false) hq) (.inr hu) (F0 h))
theorem EqAt.bool_dict{l:IB}{o:Obj}{es:IE DictEntry}{n:Nat}(b:Bool)(ho:s.heap.get? l=some o)(hc:o.cls=.type "dict")(hd:o.data=.dict es n)(hu:A.units < cLine):EqAt A s (.bool b) (.ref l) false:=λ prog w E Q h=>by
 obtain⟨cls,dd,data,sl⟩:=o;simp only at hc hd;subst hc hd;unfold eqBool;apply IX ?_;apply wpAny_ite_split (λ hab=>absurd (eq_of_beq hab) nofun) (λ _=>?_);exact A0 (rc_eq_decline_or (k:=false) rfl %[_,ho|rfl] ∅ F.sub_dict_bool F.slot_bool_eq F.slot_dict_eq_refl
  (λ _ hq=>Im F.slot_bool_eq rfl F.entry_int_eq (F.args_int_eq_2 _ _) (cJ b l (.type "dict") es n dd sl) %[ho|hq])
  (λ _ hq=>Im F.slot_dict_eq_refl %[_,ho|Z] F.entry_dict_eq (F.args_dict_eq_2 _ _) (dm l es n dd sl b) %[ho|hq])
  (λ _ hq=>wpAny_of_eq (rfl:isSame (.bool b) (.ref l)=pure false) hq) (.inr hu) (F0 h))
end
section
variable{X:Cx}{IH:IF (IB×Obj)}{σ:St}{H:Hp}{s:F4}
def eI:V->Int->Bool
 | .int j,i=>i == j
 | .bl b,i=>i == (if b=true then 1 else 0)
 | _,_=>false
def eB:V->Bool->Bool
 | .bl b,c=>c == b
 | .int j,c=>(if c=true then 1 else 0) == j
 | _,_=>false
def OdV(K:C3)(H:Hp)(v:V):Prop:=v=.non\/(∃b,v=.bl b)\/(∃i,v=.int i)\/(∃z,v=.str z)\/∃a,v=.ref a/\((∃xs,SqL K H a xs)\/(∃xs,SqT K H a xs)\/H a=some (.dK []))
theorem Inv.dct(I:Inv X IH σ H s){a:IB}(h:H a=some (.dK [])):∃o es n,s.heap.get? a=some o/\o.cls=.type "dict" /\ o.data=.dict es n:=by obtain⟨_,ne,vs,kv',o,es,ep,h1,h2,h3,_⟩:=I.hok a _ h;exact%[o,es,ep,h1,h2.1|h3]
theorem Inv.eqI(I:Inv X IH σ H s){A:Around}(hu:A.units < cLine){v:V}(h:OdV X.K H v){u:F8}(r:RelV v u)(i:Int)(t:Tok):EqAt A s (.int i t) u (eI v i):=by
 rcases h with rfl | ⟨b,rfl⟩ | ⟨j,rfl⟩ | ⟨z,rfl⟩ | ⟨a,rfl,h⟩
 ·cases(show u=Value.none from r);exact EqAt.int_none i t
 ·cases(show u=Value.bool b from r);exact EqAt.int_bool i t b
 ·obtain⟨t',e⟩:=(show∃t,u=Value.int j t from r);subst e;exact EqAt.int_int i t j t'
 ·obtain⟨t',e⟩:=(show∃t,u=Value.str z t from r);subst e;exact EqAt.int_str i t z t'
 ·cases(show u=Value.ref a from r);rcases h with⟨xs,h⟩ | ⟨xs,h⟩ | h
  ·obtain⟨its,rv,⟨o,n,e,c,_,d⟩,_⟩:=I.list h;exact EqAt.int_list i t %[o,e,c,n|d] hu
  ·obtain⟨its,rv,⟨o,e,c,n,d⟩,_⟩:=I.tuple h;exact EqAt.int_tuple i t %[o,e,c,n|d] hu
  ·obtain⟨o,es,n,e,c,d⟩:=I.dct h;exact EqAt.int_dict i t e c d hu
theorem Inv.eqB(I:Inv X IH σ H s){A:Around}(hu:A.units < cLine){v:V}(h:OdV X.K H v){u:F8}(r:RelV v u)(c:Bool):EqAt A s (.bool c) u (eB v c):=by
 rcases h with rfl | ⟨b,rfl⟩ | ⟨j,rfl⟩ | ⟨z,rfl⟩ | ⟨a,rfl,h⟩
 ·cases(show u=Value.none from r);exact EqAt.bool_none c
 ·cases(show u=Value.bool b from r);exact EqAt.bool_bool c b
 ·obtain⟨t',e⟩:=(show∃t,u=Value.int j t from r);subst e;exact EqAt.bool_int c j t'
 ·obtain⟨t',e⟩:=(show∃t,u=Value.str z t from r);subst e;exact EqAt.bool_str c z t'
 ·cases(show u=Value.ref a from r);rcases h with⟨xs,h⟩ | ⟨xs,h⟩ | h
  ·obtain⟨its,rv,⟨o,n,e,c',_,d⟩,_⟩:=I.list h;exact EqAt.bool_list c %[o,e,c',n|d] hu
  ·obtain⟨its,rv,⟨o,e,c',n,d⟩,_⟩:=I.tuple h;exact EqAt.bool_tuple c %[o,e,c',n|d] hu
  ·obtain⟨o,es,n,e,c',d⟩:=I.dct h;exact EqAt.bool_dict c e c' d hu
def PrB(H:Hp)(z:V)(q:Int×Bool):Prop:=∃b,z=.ref b/\H b= ~~~[.int q.1,.bl q.2]
def eP(H:Hp)(v1 v2:V):F8->Bool
 | .ref b=>match H b with
  | some (.tup [.int i,.bl c])=>eI v1 i && eB v2 c
  | _=>false
 | _=>false
theorem tF{b:IB}{v1 v2:V}{i:Int}{c:Bool}(h:H b= ~~~[.int i,.bl c]):eP H v1 v2 (.ref b)=(eI v1 i && eB v2 c):=by
 show(match H b with
  | some (.tup [.int i,.bl c])=>eI v1 i && eB v2 c
  | _=>false)=_
 rw[h]
theorem pM{v1 v2:V}:∀{zs:IF V}{qs:IF (Int×Bool)}{its:IF F8},Paired (PrB H) zs qs->Vals zs its->its.any (eP H v1 v2)=qs.any λ q=>eI v1 q.1 && eB v2 q.2
 | _,_,_,.nil,.nil=>rfl
 | _,_,_,.cons ⟨b,e,h⟩ r,.cons r1 rs=>by subst e;cases r1;rw[List.any_cons,List.any_cons,tF h,pM r rs]
theorem lL{i:Int}:eI (.int i) i=true:=by show(i == i)=true;simp
theorem lM{c:Bool}:eB (.bl c) c=true:=by show(c == c)=true;simp
inductive rz_op_notInP(K:C3)(x:V)(y:V)(H:Hp)(Q:VK):Prop
|mk(a l v1 v2 zs qs:_)(_:x=.ref a)(_:y=.ref l)(_:H a= ~~~[v1,v2])(_:OdV K H v1)(_:OdV K H v2)(_:H l=↥zs)(_:Paired (PrB H) zs qs)(_:Q (.bl (!qs.any λ q=>eI v1 q.1 && eB v2 q.2)) H)
theorem mK(hu:X.A.units+65 < cLine):OpR X (compareOp .NotIn) (rz_op_notInP X.K):=by
 intro IH s σ H x y v u Q I rx ry h;obtain⟨a,l,v1,v2,zs,qs,rfl,rfl,ha,o1,o2,hl,pq,q⟩:=h;cases rx;cases ry;obtain⟨its,rv,⟨o,n,e,c,_,d⟩,_⟩:=I.list (GW hl);obtain⟨ias,rva,⟨oa,ea,ca,na,da⟩,_⟩:=I.tuple (GV ha);apply notIn_listAt (eP H v1 v2) %[o,e,c,n|d] (λ y hy=>?_) ?_
 ·have hy:y∈its:=by simpa using hy
  obtain⟨j,hj⟩:=HD.mp hy;obtain⟨z,hz⟩:∃z,zs[j]?=some z:=%[_|E9 (by have:=rv.length;have:=(A5.mp hj).1;omega)]
  obtain⟨y',hy',rz⟩:=rv.get hz;obtain rfl:y'=y:=by rw[hj]at hy';exact(B7 hy').symm
  obtain⟨q',hq,b,rfl,hb⟩:=Pc.Paired.getR pq hz;cases rz;rw[tF hb];obtain⟨ibs,rvb,⟨ob,eb,cb,nb,db⟩,_⟩:=I.tuple (GV hb);cases rva with
  | cons ra1 ra=>cases ra with
   | cons ra2 ra=>cases ra with
    | nil=>
     cases rvb with
     | cons rb1 rb=>cases rb with
      | cons rb2 rb=>cases rb with
       | nil=>
        obtain⟨t,et⟩:=(show∃t,_=Value.int q'.1 t from rb1)
        subst et;cases rb2
        by_cases hab:b=a
        ·subst hab;obtain⟨k1,k2⟩:V.int q'.1=v1/\V.bl q'.2=v2:=by rw[ha]at hb;cases hb;exact%[Z|Z]
         subst k1;subst k2;rw[lL,lM];exact EqAt.same _
        ·apply EqAt.of_refs hab ?_;have:=RcAt.tuples (A:=X.A.in1) (s:=s) (e:=λ j=>if j=0 then eI v1 q'.1 else eB v2 q'.2) %[ob,eb,cb,nb|db] %[oa,ea,ca,na|da] (show X.A.units+1 < cLine by omega) (λ j h1 h2=>?_)
         ·have hh:∀p r:Bool,(((List.range (min 2 2)).all λ j=>if j=0 then p else r) && (2 == 2))=(p && r):=λ p r=>by cases p <;> cases r <;> rfl
          rw[<- hh];exact this
         ·have:j=0\/j=1:=by have:j < 2:=h1;omega
          rcases this with rfl | rfl
          ·exact I.eqI (show X.A.units+1+1 < cLine by omega) o1 ra1 _ _
          ·exact I.eqB (show X.A.units+1+1 < cLine by omega) o2 ra2 _
 ·rw[List.any_toArray,pM pq rv];exact%[.bl _,H,I,Z|q]
end
end L2
namespace L2
open PySem PySem.Spec PyProof.Rows
section
variable{X:Cx}
def rC:V->IF V->Hp->VK->Prop:=λ x vs H Q=>∃l xs i y,x=.ref l/\vs=[.int i,y]/\H l=↥xs/\0<=i/\i<=xs.length/\xs.length < sizeLine/\Q .non (upd H l (.lst (xs.take i.toNat ++ y :: xs.drop i.toNat)))
theorem jq:∀(n:Nat){xs:IF V}{us:IF F8},Vals xs us->Vals (xs.take n) (us.take n)
 | 0,_,_,_=>.nil
 | _+1,_,_,.nil=>.nil
 | n+1,_,_,.cons a r=>.cons a (jq n r)
theorem jr:∀(n:Nat){xs:IF V}{us:IF F8},Vals xs us->Vals (xs.drop n) (us.drop n)
 | 0,_,_,h=>h
 | _+1,_,_,.nil=>.nil
 | n+1,_,_,.cons _ r=>jr n r
theorem mL:MtM X "list.insert" rC:=by
 intro IH s σ H x vs v us Q I rx rv h;obtain⟨l,xs,i,y,rfl,rfl,hH,i0,i1,hz,q⟩:=h;cases rx;cases rv with
 | cons r1 r2=>
 obtain⟨t,rfl⟩:=r1;cases r2 with
 | cons ru r3=>
 cases r3;obtain⟨z,its,n,r,hl,e⟩:=I.lstM hH;have b63:(sizeLine:Int) < 2 ^ 63:=∅
 have hfit:¬ (!Builtin.List.listFitsIndex i)=true:=by rw[fitsIndex_both ⋯ ⋯];exact B1
 apply Im F.slot_list_insert %[_,e|Z] F.entry_list_insert (F.args_list_insert_3 _ _ _) (PySem.AutoSeq1.list_insert_list_int_val_1 l its.toArray n i t _ hfit (by rw[G2];omega)) %[e|?_];apply%[.non,_,I.lset (its':=its.take i.toNat ++ _ :: its.drop i.toNat) hH e ?_ ((jq _ r).append (.cons ru (jr _ r))) ?_,Z|q]
 ·have:¬ i < 0:=⋯
  simp[this];rw[Hu ⋯];congr 2;exact HP (by rw[HG];exact B2 _)
 ·rw[G4,G1,G5,HG];omega
inductive rz_call_reprN(K:C3)(xs:IF V)(H:Hp)(Q:VK):Prop
|mk(a d:_)(_:xs=[.ref a])(_:DatV K H (.ref a) d)(_:d.showable=true)(_:d.hasDict=false)(_:d.depth<=200)(_:d.shown.length<=sizeLine)(_:Q (.str d.shown) H)
theorem gv(hg:X.A.guards=some [])(hu:X.A.units+220 < cLine):cn X (.builtin "repr") (rz_call_reprN X.K):=by intro IH s σ H xs us Q I r h;obtain⟨a,d,rfl,hd,h1,h2,h3,h4,q⟩:=h;obtain⟨u,rfl,rfl⟩:=du r;obtain⟨as,ra⟩:=I.reads hd (u:=.ref a) rfl;exact repr_of_reads' ra h1 (λ z=>by rw[h2]at z;cases z) hg ⋯ (λ _ _ e=>e) (λ h' u tk hk=>%[.str d.shown,H,I.kept hk,%[_|Z]|q]) h4
end
theorem uw{X:Cx}:OpR X (compareOp .Is) (λ x y H Q=>y=.bl false/\∃b,x=.bl b/\Q (.bl (!b)) H):=by
 intro IH s σ H x y v u Q I rx ry h;obtain⟨rfl,b,rfl,q⟩:=h;cases ry;cases rx;unfold compareOp isSame;cases b
 ·exact A0 (A1 (A1 (aP I q rfl)))
 ·exact A0 (A1 (A1 (aP I q rfl)))
end L2
namespace L2
open PySem PySem.Spec PyProof.Rows PySem.SeqAt PySem.MeetsSeq
theorem gM(l:IB)(items:IE F8)(n:Nat)(x:F8)(e:F8->Bool)(j:Nat)(hj:j < items.size)(hit:e items[j]=true)(k:Nat)(hs1:items.size<=sizeLine) :
  ∀i:Nat,j - i=k->i<=j->(∀m (hm:m < items.size),i<=m->m < j->e items[m]=false)->Meets (Builtin.«list.remove.loop» %[[.ref l,x,rawInt i]|[]])
   (λ A R s=>s.heap.get? l=some { cls:=.type "list",dict:=none,data:=.seq items n,slots:=#[] }/\(∀y,y∈items->EqAt A.in1 s y x (e y))/\R (.ok (.ret .none)) { s with heap:=s.heap.update l (Obj.mapSeq λ xs=>xs.eraseIdxIfInBounds j) }):=by
 induction k with
 | zero=>
  intro i hk hij hno prog w A R s h;obtain⟨hp,g,d,tk,os⟩:=s;obtain⟨hl,he,h⟩:=h;have hij':i=j:=⋯
  subst hij'
  wp_walk using IT hl
  have hi:items[((i:Nat):Int).toNat]?=some items[i]:=by simp[hj]
  rw[hi];apply A0 (he _ (Array.getElem_mem hj) prog w _ _ ?_);rw[hit];have hz':(items.eraseIdxIfInBounds i).size<=sizeLine+1:=C4 (size_erased items _) (Nat.le_succ_of_le hs1)
  wp_walk using(wpAny_updateSeq hl rfl (hz:=hs1) (_hz':=hz')),IT hl
  simpa using h
 | succ k ih=>
  intro i hk hij hno prog w A R s h;obtain⟨hp,g,d,tk,os⟩:=s;obtain⟨hl,he,h⟩:=h;have hlt:i < items.size:=⋯
  wp_walk using IT hl
  have hi:items[((i:Nat):Int).toNat]?=some items[i]:=by simp[hlt]
  have hc:((i:Int)+1)=((i+1:Nat):Int):=by push_cast;rfl
  rw[hi];apply A0 (he _ (Array.getElem_mem hlt) prog w _ _ ?_);rw[hno i hlt (B2 _) ⋯]
  wp_walk
  rw[hc];exact⟨plainId_quiet plain_remove_loop _,codeAny_builtin entry_remove_loop (by
   rw[Around.under_plainId plain_remove_loop _];exact ih (i+1) ⋯ ⋯ (λ m hm h1 h2=>hno m hm ⋯ h2) prog w A R _ %[hl,he|h])⟩
theorem gN(l:IB)(items:IE F8)(n:Nat)(x:F8)(e:F8->Bool)(j:Nat)(hj:j < items.size)
  (hit:e items[j]=true) (hno:∀m (hm:m < items.size),m < j->e items[m]=false) (hs1:items.size<=sizeLine) :
  Meets (Builtin.«list.remove» %[[.ref l,x]|[]])
   (λ A R s=>s.heap.get? l=some { cls:=.type "list",dict:=none,data:=.seq items n,slots:=#[] }/\(∀y,y∈items->EqAt A.in1 s y x (e y))/\R (.ok (.ret .none)) { s with heap:=s.heap.update l (Obj.mapSeq λ xs=>xs.eraseIdxIfInBounds j) }):=by
 intro prog w A R s h;obtain⟨hp,g,d,tk,os⟩:=s;obtain⟨hl,he,h⟩:=h
 wp_walk using IT hl
 exact⟨plainId_quiet plain_remove_loop _,codeAny_builtin entry_remove_loop (by
  rw[Around.under_plainId plain_remove_loop _];exact gM l items n x e j hj hit _ hs1 0 rfl (E6 _) (λ m hm _ h2=>hno m hm h2) prog w A R _ %[hl,he|h])⟩
theorem Vals.erase:∀{xs:IF V}{its:IF F8}(j:Nat),Vals xs its->Vals (xs.eraseIdx j) (its.eraseIdx j)
 | _,_,_,.nil=>.nil
 | _,_,0,.cons _ r=>r
 | _,_,j+1,.cons a r=>.cons a (Vals.erase j r)
section
variable{X:Cx}
inductive rRemD(K:C3)(x:V)(vs:IF V)(H:Hp)(Q:VK):Prop
|mk(l:IB)(xs:IF V)(y:V)(ds:IF PyData)(d:PyData)(j:Nat)(_:x=.ref l)(_:vs=[y])(_:H l=↥xs)(_:DatVs K H xs ds)(_:DatV K H y d)(_:PyData.canLayAll0 ds=true)(_:SeqAt.shaped d=true)(_:j < ds.length)(_:PyData.eqv (ds.getD j .none) d=true)(_:∀m,m < j->PyData.eqv (ds.getD m .none) d=false)(_:Q .non (upd H l (.lst (xs.eraseIdx j))))
theorem rD(hu:X.A.units+65 < cLine):MtM X "list.remove" (rRemD X.K):=by
 intro IH s σ H x vs v us Q I rx rv h;obtain⟨l,xs,y,ds,d,j,rfl,rfl,hH,hds,hd,cl,sd,jl,hit,hno,q⟩:=h;cases rx;obtain⟨u,rfl,ru⟩:=rv.one;obtain⟨z,its,n,r,hl,e⟩:=I.lstM hH;obtain⟨as,ra⟩:=I.readsAll hds r;obtain⟨bs,rb⟩:=I.reads hd ru;have em:=readsAll_map ds its as cl ra;have il:its.length=ds.length:=by rw[<- em,GZ]
 have at':∀m (hm:m < its.toArray.size),PyData.eqv (readOf s.heap its.toArray[m]) d=PyData.eqv (ds.getD m .none) d:=λ m hm=>by
  have hm':m < its.length:=by simpa using hm
  congr 1;rw[<- em,HW,G6,E9 hm'];simp
 apply Im F.slot_list_remove %[_,e|Z] F.entry_list_remove (F.args_list_remove_2 _ _)
  (gN l its.toArray n u (λ y=>PyData.eqv (readOf s.heap y) d) j (by rw[G2];omega) (by rw[at'];exact hit) (λ m hm lt=>by rw[at' m hm];exact hno m lt) (by rw[G2];omega)) %[e,items_eqAt (by simpa using ra) rb cl (canLay_of_shaped sd) (room_in_shaped sd hu)|?_]
 apply%[.non,_,I.lset (its':=its.eraseIdx j) hH e (by simp) (r.erase j) ?_,Z|q];have:=(List.eraseIdx_sublist xs j).length_le;omega
inductive rNinD(K:C3)(x:V)(y:V)(H:Hp)(Q:VK):Prop
|mk(l:IB)(xs:IF V)(ds:IF PyData)(d:PyData)(_:y=.ref l)(_:H l=↥xs)(_:DatVs K H xs ds)(_:DatV K H x d)(_:PyData.canLayAll0 ds=true)(_:SeqAt.shaped d=true)(_:Q (.bl (!ds.any λ y=>PyData.eqv y d)) H)
theorem rE(hu:X.A.units+65 < cLine):OpR X (compareOp .NotIn) (rNinD X.K):=by intro IH s σ H x y v u Q I rx ry h;obtain⟨l,xs,ds,d,rfl,hl,hds,hd,cl,sd,q⟩:=h;obtain⟨as,ra⟩:=I.reads hd rx;obtain⟨bs,rb⟩:=I.reads (.lst (GW hl) hds) ry;exact notIn_list_reads rb ra cl (canLay_of_shaped sd) (room_in_shaped sd hu) %[.bl _,H,I,rfl|q]
end
end L2
namespace Pc
open PySem L2
def top(i:Nat):Stmt:=PySem.Challenge.pw_platecuts_k33_whole_a_tree_or_a_knot.main.body.getD i (.Pass %[0,0,0|0])
abbrev xm:Stmt:=top 0
abbrev iF:Stmt:=top 10
abbrev iG:Stmt:=top 11
abbrev rF:Stmt:=top 12
abbrev cK:Stmt:=top 13
abbrev fD:Stmt:=top 18
abbrev dL:Stmt:=top 21
abbrev eJ:Stmt:=top 22
abbrev lN:Stmt:=top 23
abbrev cC:Stmt:=top 24
abbrev ci:Stmt:=top 30
abbrev bn:Stmt:=top 31
abbrev fE:Stmt:=top 32
abbrev bO:Stmt:=top 33
abbrev ck:Stmt:=top 34
abbrev fF:Stmt:=top 38
abbrev fG:Stmt:=top 39
abbrev cT:Stmt:=inClass (top 40) 0
abbrev de:Stmt:=inClass (top 40) 1
abbrev kq:Stmt:=inClass (top 40) 2
abbrev js:Stmt:=inClass (top 40) 3
abbrev jt:Stmt:=inClass (top 40) 4
abbrev cz:Stmt:=inClass (top 40) 5
abbrev df:Stmt:=inClass (top 40) 6
abbrev lO:Stmt:=top 42
abbrev rG:Stmt:=top 43
abbrev lP:Stmt:=top 44
abbrev lQ:Stmt:=top 45
abbrev lR:Stmt:=top 46
abbrev iH:Stmt:=top 47
abbrev lS:Stmt:=top 48
abbrev iI:Stmt:=top 49
abbrev fH:Stmt:=top 50
abbrev fI:Stmt:=top 51
abbrev iJ:Stmt:=top 52
abbrev fJ:Stmt:=top 53
abbrev ia:Stmt:=top 54
abbrev fK:Stmt:=top 55
abbrev rH:Stmt:=top 56
abbrev iK:Stmt:=top 57
abbrev ju:Stmt:=top 58
abbrev dg:Stmt:=top 59
abbrev ff:Stmt:=top 60
abbrev dh:Stmt:=top 61
abbrev lT:Stmt:=top 62
abbrev gx:Stmt:=top 63
abbrev cU:Stmt:=top 64
abbrev fL:Stmt:=top 65
abbrev eK:Stmt:=top 66
abbrev iL:Stmt:=top 67
abbrev fM:Stmt:=top 68
abbrev di:Stmt:=top 69
abbrev jv:Stmt:=top 70
section
variable{P:F5}{w:F7}{K:C3}{mg:Str->ID F8}{base:Heap}
structure Blt(mg:Str->ID Value):Prop where
 isi:mg "isinstance" = none
 int:mg "int" = none
 bool:mg "bool" = none
 list:mg "list" = none
 tuple:mg "tuple" = none
 len:mg "len" = none
 range:mg "range" = none
 max:mg "max" = none
 min:mg "min" = none
 abs:mg "abs" = none
 divmod:mg "divmod" = none
 sum:mg "sum" = none
 sorted:mg "sorted" = none
 all:mg "all" = none
 repr:mg "repr" = none
 zip:mg "zip" = none
 enumerate:mg "enumerate" = none
 mostk:∃t,mg "MOST_KINDS" = some (.int 8 t)
 fivek:∃t,mg "THINGS_OF_A_KIND" = some (.int 5 t)
end
theorem ai{t u:TS}{D:Ends}{σ:St}{H:Hp}(J:St->Hp->Prop)(h1:∀R:St->Hp->Prop,(∀σ' H',J σ' H'->R σ' H')->t { D with nx:=R } σ H)(h2:∀σ' H',J σ' H'->u D σ' H'):wO t u D σ H:=h1 _ h2
section
variable{P:F5}{w:F7}{K:C3}{mg:Str->ID F8}{base:Heap}
theorem rJ:FnScope ["thing","least"] ["thing","least"] (defScope iF):=%[Z,Z,Z,∅,Z,∅|∅]
theorem pN{f:IB}{fd:F6}(F:Fun K "is_whole" "is_whole" iF f fd)(B:Blt mg):FnOk P w K mg base CX0 1 f fd ["thing","least"] (dG K):=by
 apply F.ok rJ (λ vs H Q E h=>?_) (λ cdv A outer s H vs Q E hr h=>?_)
 ·obtain⟨x,T,l,rfl,_⟩:=h
  rfl
 obtain⟨x,T,l,rfl,⟨tn,ty⟩,q⟩:=h;apply⟨_,ah (az (bH (aA aV rfl B.isi IM (aa (pv 0) (aa (bB (v:=.ty "int") rfl B.int IZ rfl) ad)))
  (bH (jI (aA aV rfl B.isi IM (aa (pv 0) (aa (bB (v:=.ty "bool") rfl B.bool Ig rfl) ad))))
  (bX (aT gR (pv 0) (pv 1) (aF _)))))),?_⟩
 apply%[_,Z,x,_,_,_,_,Z,ty,Z,lD T tn,_,Z|?_];have tb:=lE ty;apply bv (λ c=>?_) (λ c=>?_)
 ·apply%[_,Z,x,_,_,_,_,Z,ty,Z,dw T tn,_,Z,_,Z|?_];apply bv (λ c2=>?_) (λ c2=>?_)
  ·have hT:(T == "int")=true:=by
    have:(T == "bool")=false:=by simpa using c2
    rw[this,Bool.or_false]at c;exact c
   obtain⟨i,rfl⟩:=ut ty tn hT;exact%[_,Z,_,Z,_,_,Z,Z|q]
  ·have hT:mC x=true:=by
    rw[<- tb];cases e:(T == "bool")with
    | true=>rfl
    | false=>rw[e]at c2;exact absurd rfl c2
   cases x <;> first | exact q | (exact absurd hT B1)
 ·have hx:aX x l=false:=by
   cases x with
   | int i=>
    exfalso;have ty':=ty;generalize hv:Value.type T=tv at ty';cases ty' with
    | int=>cases hv;exact c rfl
   | _=>rfl
  rw[hx]at q;exact q
theorem rK:FnScope ["thing"] ["thing"] (defScope iG):=%[Z,Z,Z,∅,Z,∅|∅]
theorem pO{f:IB}{fd:F6}(F:Fun K "is_truth" "is_truth" iG f fd)(B:Blt mg):FnOk P w K mg base CX0 1 f fd ["thing"] (iC K):=by
 apply F.ok rK (λ vs H Q E h=>?_) (λ cdv A outer s H vs Q E hr h=>?_)
 ·obtain⟨x,T,rfl,_⟩:=h
  rfl
 obtain⟨x,T,rfl,⟨tn,ty⟩,q⟩:=h;apply%[_,ah (az (aA aV rfl B.isi IM (aa (pv 0) (aa (bB (v:=.ty "bool") rfl B.bool Ig rfl) ad))))|?_];apply%[_,Z,x,_,_,_,_,Z,ty,Z,dw T tn|?_];rw[lE ty];exact q
theorem xn:FnScope ["thing"] ["thing"] (defScope rF):=%[Z,Z,Z,∅,Z,∅|∅]
theorem ux{f:IB}{fd:F6}(F:Fun K "is_row" "is_row" rF f fd)(B:Blt mg):FnOk P w K mg base CX0 1 f fd ["thing"] (jg K):=by
 apply F.ok xn (λ vs H Q E h=>?_) (λ cdv A outer s H vs Q E hr h=>?_)
 ·obtain⟨x,T,rfl,_⟩:=h
  rfl
 obtain⟨x,T,rfl,ty,q⟩:=h;apply%[_,ah (az (aA iB rfl B.isi IM (aa (pv 0) (aa (aL (aa (bB (v:=.ty "list") rfl B.list Ih rfl) (aa (bB (v:=.ty "tuple") rfl B.tuple IW rfl) ad))) ad))))|?_];apply%[_,Z,zS2|λ p hp=>?_];have s1:Same H (upd H p (.tup [.ty "list",.ty "tuple"])):=λ b o e=>by rw[aG (aw e hp)];exact e
 have t2:=Ty.same s1 ty;exact%[x,p,_,_,_,_,Z,t2.2,upd_same,Z,rp T ty.1|q _ s1]
theorem scIsKind:FnScope ["thing","wide","high","worth","wanted","turns"] ["thing"] (defScope fF):=%[Z,Z,Z,∅,Z,∅|∅]
theorem mM{f:IB}{fd:F6}(F:Fun K "is_kind" "is_kind" fF f fd)(B:Blt mg)(DW:Dn P w K mg base "is_whole" ["thing","least"] 1 (dG K))(DT:Dn P w K mg base "is_truth" ["thing"] 1 (iC K))(DR:Dn P w K mg base "is_row" ["thing"] 1 (jg K)) :
  FnOk P w K mg base CX0 2 f fd ["thing"] (gf K):=by
 apply F.ok scIsKind (λ vs H Q E h=>?_) (λ cdv A outer s H vs Q E hr h=>?_)
 ·obtain⟨x,T,rfl,_⟩:=h
  rfl
 obtain⟨x,T,rfl,ty,q⟩:=h;obtain⟨tk,htk⟩:=B.fivek;have nd:=scIsKind.nd;apply⟨_,af (aM (PW.pt (bC (aO (aN (ay DR hr rfl (aa (pv 0) ad)))) (bG (aH fi (aA aJ rfl B.len IR (aa (pv 0) ad)) (bE (v:=.int 5) rfl htk %[tk|Z]) (aF _))))) (ah (az bd)) aE)
  (af (bz (pv 0) (jY rfl (au (aj (i:=1) nd rfl (Or.inl rfl)) (au (aj (i:=2) nd rfl (Or.inl rfl)) (au (aj (i:=3) nd rfl (Or.inl rfl)) (au (aj (i:=4) nd rfl (Or.inl rfl)) (au (aj (i:=5) nd rfl (Or.inl rfl)) aQ)))))))
  (af (aM (PW.pt (bC (aO (aN (ay DW hr rfl (aa (pv 1) (aa ae ad))))) (bG (aO (aN (ay DW hr rfl (aa (pv 2) (aa ae ad)))))))) (ah (az bd)) aE)
  (ah (az (bH (ay DW hr rfl (aa (pv 3) (aa ae ad))) (bH (ay DW hr rfl (aa (pv 4) (aa ae ad))) (bX (ay DT hr rfl (aa (pv 5) ad))))))))),?_⟩
 apply%[_,Z,x,T,Z,ty|λ H1 s1=>%[_,Z|?_]];rcases q with⟨n1,n2,q⟩ | ⟨a,xs,rfl,hx,its,q⟩
 ·have e:(T == "list" || T == "tuple")=false:=by simp[n1,n2]
  rw[e];apply br (br ?_);exact q H1 s1
 ·have e:(T == "list" || T == "tuple")=true:=by
   have t2:=ty.2;generalize hv:Value.type T=tv at t2;generalize hr:V.ref a=rv at t2;cases t2 with
   | lst _=>cases hv;rfl
   | frz _=>cases hv;rfl
   | tup _=>cases hv;rfl
   | dK e=>cases hr;rcases hx with z | z <;> (rw[z]at e;cases e)
   | dT e=>cases hr;rcases hx with z | z <;> (rw[z]at e;cases e)
   | ext e _=>cases hr;rcases hx with z | z <;> (rw[z]at e;cases e)
   | ins=>cases hv
   | _=>cases hr
  rw[e];have sq:SqL K H1 a xs\/SqT K H1 a xs:=by
   rcases hx with z | z
   ·exact .inl (GW (s1 _ _ z))
   ·exact .inr (GV (s1 _ _ z))
  apply aU %[_,rfl,a,xs,rfl,sq,rfl,_,rfl|?_];apply bv (λ c=>?_) (λ c=>?_)
  ·have hl:xs.length≠5:=λ z=>by rw[z]at c;exact absurd c ∅
   have:gZ xs=false:=by
    unfold gZ
    split
    ·exact absurd rfl hl
    ·rfl
   rw[this]at q;exact q H1 s1
  ·have hl:xs.length=5:=by
    by_cases z:xs.length=5
    ·exact z
    ·exfalso;apply c ?_;have:¬ (V.int (xs.length:Int)=V.int 5):=λ h=>z (by have:=V.int.inj h;omega);rw[IQ this];rfl
   obtain⟨x1,x2,x3,x4,x5,rfl⟩:∃x1 x2 x3 x4 x5,xs=[x1,x2,x3,x4,x5]:=by
    match xs,hl with
    | [a,b,c,d,e],_=>exact%[a,b,c,d,e|Z]
   obtain⟨T1,t1⟩:=its x1 (by simp);obtain⟨T2,t2⟩:=its x2 (by simp);obtain⟨T3,t3⟩:=its x3 (by simp);obtain⟨T4,t4⟩:=its x4 (by simp);obtain⟨T5,t5⟩:=its x5 (by simp);apply%[_,Z,a,_,Z,sq,Z,x1,_,Z,x2,_,Z,x3,_,Z,x4,_,Z,x5,_,Z,Z|?_];apply%[_,Z,x1,T1,1,Z,Ty.same s1 t1,_,Z|?_];have q':∀b,gZ [x1,x2,x3,x4,x5]=b->Q (.bl b) H1:=λ b e=>by rw[<- e];exact q H1 s1
   have k5:gZ [x1,x2,x3,x4,x5]=(aX x1 1 && aX x2 1 && aX x3 0 && aX x4 0 && mC x5):=rfl;cases w1:aX x1 1 with
   | false=>
    apply br (br ?_);exact q' false (by rw[k5,w1];rfl)
   | true=>
    apply aU %[_,rfl,x2,T2,1,rfl,Ty.same s1 t2,_,rfl|?_];cases w2:aX x2 1 with
    | false=>
     apply br ?_;exact q' false (by rw[k5,w1,w2];rfl)
    | true=>
     apply aU %[_,rfl,x3,T3,0,rfl,Ty.same s1 t3,_,rfl|?_];cases w3:aX x3 0 with
     | false=>
      apply aU ?_;exact q' false (by rw[k5,w1,w2,w3];rfl)
     | true=>
      apply br %[_,rfl,x4,T4,0,rfl,Ty.same s1 t4,_,rfl|?_];cases w4:aX x4 0 with
      | false=>
       apply aU ?_;exact q' false (by rw[k5,w1,w2,w3,w4];rfl)
      | true=>
       apply br %[_,rfl,x5,T5,rfl,Ty.same s1 t5|?_];exact q' _ (by rw[k5,w1,w2,w3,w4];rfl)
theorem scInit:FnScope ["self","blade","kinds","kind"] ["self","blade","kinds"] (defScope cT):=%[Z,Z,Z,∅,Z,∅|∅]
theorem rL{f C:IB}{fd:F6}(F:Fun K "__init__" "Shop.__init__" cT f fd)(B:Blt mg)(T:ShopTxt K C)(DW:Dn P w K mg base "is_whole" ["thing","least"] 1 (dG K))(DR:Dn P w K mg base "is_row" ["thing"] 1 (jg K))
  (DK:Dn P w K mg base "is_kind" ["thing"] 2 (gf K)):FnOk P w K mg base CX0 3 f fd ["self","blade","kinds"] (iD C):=by
 apply F.ok scInit (λ vs H Q E h=>?_) (λ cdv A outer s H vs Q E hr h=>?_)
 ·obtain⟨x,dx,ks,b,rs,kds,rfl,_⟩:=h
  rfl
 obtain⟨x,dx,ks,b,rs,kds,rfl,hx,b0,hks,hrs,hgd,n1,n8,q⟩:=h;have hr1:=hr.mono (show 1<=2 by decide);obtain⟨tk,htk⟩:=B.mostk;have nd:=scInit.nd;have n8':(8:Nat) < sizeLine:=∅
 apply⟨_,af (aM (aO (aN (ay DW hr1 rfl (aa (pv 1) (aa ae ad))))) eR aE)
  (af (aM (PW.pt (bC (aO (aN (ay DR hr1 rfl (aa (pv 2) ad)))) (bG (aO (oN dj dj ae (aA aJ rfl B.len IR (aa (pv 2) ad)) (bE (v:=.int 8) rfl htk %[tk|rfl])))))) eR aE)
  (af (bp E2 rfl (fZ (pv 2)) (aj (i:=3) nd rfl (Or.inl rfl)) (ah (aM (aO (aN (ay DK hr rfl (aa (pv 3) ad)))) eR aE)))
  (af (oR (pv 0) (pv 1) rfl)
  (ah (oR (pv 0) (bf cg rfl B.tuple IW (aa (cu (own:=["kind"]) (cs:=[]) (cap:=[]) rfl (fZ (pv 2))
   (aR (sc:=defScope cT) (N:=["self","blade","kinds","kind"]) rfl rfl ∅)
   (λ _ _ _ _ _=>aj (i:=0) (by show List.Nodup (["kind"]:IF Str);decide +kernel) rfl (Or.inl rfl) (Or.inr rfl)) (λ _ _ _ _ _=>bi)
   (λ _ _ _ _ _=>bf (r:=jh K) cg rfl B.tuple IW (aa (pv 0) ad))) ad)) rfl))))),?_⟩
 apply%[_,Z,.int b,_,0,Z,.int,_,Z|?_];have wb:aX (.int b) 0=true:=A9 b0;rw[wb];apply aU ?_;have tyk:∃T,Ty K H (.ref ks) T/\(T == "list" || T == "tuple")=true:=by
  rcases hks with e | e
  ·exact%[_,.lst e|Z]
  ·exact%[_,.tup e|Z]
 obtain⟨T0,ty0,te0⟩:=tyk;apply%[_,Z,.ref ks,T0,Z,ty0|λ H1 s1=>%[_,Z|?_]];rw[te0];have sq:∀{H2:Hp},Same H H2->SqL K H2 ks rs\/SqT K H2 ks rs:=λ s2=>by
  rcases hks with z | z
  ·exact .inl (GW (s2 _ _ z))
  ·exact .inr (GV (s2 _ _ z))
 apply aU %[_,rfl,ks,rs,rfl,sq s1,_,_,rfl,rfl,_,rfl|?_];rw[IL (show(1:Int)<=(rs.length:Int)by omega)];apply br %[_,_,rfl,rfl,_,rfl|?_];rw[IL (show(rs.length:Int)<=8 by omega)];apply aU ?_;have uK:=E1 hrs;apply pC (j:=2) (a:=ks) (xs:=rs) rfl (hks.imp (λ z=>s1 _ _ z) λ z=>s1 _ _ z) (λ i σ H2=>∃v,σ=[↑x,⇑b,↑ks,v]/\Same H1 H2) %[none,rfl|Same.refl _] (λ i σ H2 _ ⟨_,_,s2⟩ o e=>s2 _ _ e) ?_ ?_
 ·rintro i y σ H2 hi ⟨v,rfl,s2⟩;obtain⟨k,hk,rk⟩:=GY hrs hi;apply%[_,Z|?_];simp only[ms,HZ];apply mD ((rk.same s1).same s2) (hgd k (B4 hk)) λ H3 s3=>%[_,Z|aU ?_]
  exact%[_,Z|s2.trans s3]
 rintro σ H2 ⟨v,rfl,s12⟩;have s2:Same H H2:=s1.trans s12;apply%[_,Z,_,Z,x,C,dx,[],Z,s2 _ _ hx,T.cl,T.nB,(by show 0 < 1000;decide)|?_];have k3:∀c o,c≠x->H c=some o->(upd H2 x (.ins C dx (cI "blade_width" (.int b) []))) c=some o:=λ c o n e=>by rw[aG n];exact s2 c o e
 have x3:(upd H2 x (.ins C dx (cI "blade_width" (.int b) []))) x=some (.ins C dx (cI "blade_width" (.int b) [])):=upd_same;generalize upd H2 x (.ins C dx (cI "blade_width" (.int b) []))=H3 at k3 x3 ⊢;have rx:∀c xs,H c=↥xs\/H c= ~~~xs->c≠x:=λ c xs e z=>by subst z;rcases e with e | e <;> (rw[hx]at e;cases e)
 dsimp only[wZ,tCB,lr];apply dH (j:=2) (a:=ks) (xs:=rs) rfl (hks.imp (λ z=>k3 _ _ (rx _ _ (.inl z)) z) λ z=>k3 _ _ (rx _ _ (.inr z)) z) (λ i ys H4=>ys.length=i/\Same H3 H4/\Tups H4 ys (kds.take i)) (λ i ys H4 _ ⟨_,s4,_⟩ o e=>s4 _ _ e) %[rfl,Same.refl _|.nil] ?_ ?_
 ·rintro i y ys H4 hi ⟨hy,s4,ty4⟩;have hin:i < rs.length:=(A5.mp hi).1;obtain⟨k,hk,rk⟩:=GY hrs hi;have tk1:kds.take (i+1)=kds.take i ++ [k]:=by rw[HA,hk];rfl
  apply%[⋯,leS.set rfl|bj ?_];rcases rk with⟨a,rfl,h⟩ | ⟨a,rfl,h⟩
  ·have h4:=s4 _ _ (k3 _ _ (rx _ _ (.inr h)) h);exact%[_,Z,a,_,Z|.inr %[GV h4|Nx.of hin %[by rw[G4,hy];rfl,s4|by rw[tk1];exact Paired.snoc ty4 %[a,Z|h4]]]]
  ·have h4:=s4 _ _ (k3 _ _ (rx _ _ (.inl h)) h);apply%[_,Z,a,_,Z|.inl %[GW h4|λ l hl=>Nx.of hin %[by rw[G4,hy];rfl,λ c o e=>?_|?_]]]
   ·have e4:=s4 c o e;rw[aG (aw e4 hl)];exact e4
   ·rw[tk1];exact Paired.snoc (Tups.keep (λ c xs e=>by rw[aG (aw e hl)];exact e) ty4) %[l,rfl|upd_same]
 rintro ys H4 ⟨hy,s4,ty4⟩;apply%[⋯|λ p hp=>?_];apply%[p,ys,Z|.inl %[GW upd_same|λ r hr'=>?_]];have hpr:r≠p:=λ z=>by rw[z,upd_same]at hr';cases hr'
 have hr4:H4 r=none:=by rw[aG hpr]at hr';exact hr'
 have x4:=s4 _ _ x3;have xp:x≠p:=aw x4 hp;have xr:x≠r:=aw x4 hr4;apply%[_,Z,x,C,dx,_,Z,(by rw[aG xr,aG xp];exact x4),T.cl,T.nK,(C5 (dv _ _ _) ∅)|?_];rw[uK,HC]at ty4;apply q _ %[dx,r,ys,upd_same,by rw[aG (Ne.symm xr),upd_same]|?_] λ c o n e=>?_
 ·apply Tups.keep (λ c xs e=>?_) ty4;rw[aG (λ z=>by rw[z,x4]at e;cases e),aG (aw e hr4),aG (aw e hp)];exact e
 ·have e4:=s4 _ _ (k3 c o n e);rw[aG n,aG (aw e4 hr4),aG (aw e4 hp)];exact e4
theorem rM:FnScope ["self"] ["self"] (defScope de):=%[Z,Z,Z,∅,Z,∅|∅]
theorem pP{f C:IB}{fd:F6}(F:Fun K "blade" "Shop.blade" de f fd)(T:ShopTxt K C):FnOk P w K mg base CX0 1 f fd ["self"] (eE C):=by
 apply F.ok rM (λ vs H Q E h=>?_) (λ cdv A outer s H vs Q E hr h=>?_)
 ·obtain⟨x,b,ks,rfl,_⟩:=h
  rfl
 obtain⟨x,b,ks,rfl,⟨dx,r,rs,h1,h2,h3⟩,q⟩:=h;exact%[_,ah (az (ir (pv 0) rfl)),_,Z,x,C,dx,_,_,Z,h1,T.cl,T.nB,ke _ _|q]
theorem pQ:FnScope ["kind"] ["kind"] (defScope fG):=%[Z,Z,Z,∅,Z,∅|∅]
theorem mN{f:IB}{fd:F6}(F:Fun K "can_lie_turned" "can_lie_turned" fG f fd):FnOk P w K mg base CX0 1 f fd ["kind"] (jm K):=by
 apply F.ok pQ (λ vs H Q E h=>?_) (λ cdv A outer s H vs Q E hr h=>?_)
 ·obtain⟨a,k,rfl,_⟩:=h
  rfl
 obtain⟨a,k,rfl,ha,q⟩:=h;apply%[_,ah (az (bH (ar ix_tup (pv 0) ae (λ _ _=>rfl)) (bX (aT fi (ar ix_tup (pv 0) ae (λ _ _=>rfl)) (ar ix_tup (pv 0) ae (λ _ _=>rfl)) (aF _)))))|?_];apply%[_,Z,a,_,4,_,Z,Z,GV ha,Z,_,Z|?_];unfold aY at q;apply bv (λ c=>?_) (λ c=>?_)
 ·rw[c,Bool.true_and]at q;apply%[_,Z,a,_,0,_,Z,Z,GV ha,Z,_,Z,a,_,1,_,Z,Z,GV ha,Z,Z|?_];rw[io];rw[show(decide (k.w=k.h))=(k.w == k.h)from rfl]at q;exact q
 ·have c':k.tu=false:=by simpa using c
  rw[c',Bool.false_and]at q;exact q
theorem mO:FnScope ["self","kind","turned"] ["self","kind","turned"] (defScope cz):=%[Z,Z,Z,∅,Z,∅|∅]
theorem ku{f C:IB}{fd:F6}(F:Fun K "is_lying" "Shop.is_lying" cz f fd)(B:Blt mg)(T:ShopTxt K C)(DW:Dn P w K mg base "is_whole" ["thing","least"] 1 (dG K))(DU:Dn P w K mg base "is_truth" ["thing"] 1 (iC K))(DT:Dn P w K mg base "can_lie_turned" ["kind"] 1 (jm K)) :
  FnOk P w K mg base CX0 2 f fd ["self","kind","turned"] (dJ K C):=by
 apply F.ok mO (λ vs H Q E h=>?_) (λ cdv A outer s H vs Q E hr h=>?_)
 ·obtain⟨s,b,ks,x,t,T0,U,rfl,_⟩:=h
  rfl
 obtain⟨s,b,ks,x,t,T0,U,rfl,⟨dx,r,rs,h1,h2,h3⟩,tx,tt,q⟩:=h;have uL:=E1 h3;apply⟨_,af (aM (PW.pt (bC (aO (aN (ay DW hr rfl (aa (pv 1) (aa ae ad))))) (bC (aH gR (pv 1) (aA aJ rfl B.len IR (aa (ir (pv 0) rfl) ad)) (aF _))
   (bG (aO (aN (ay DU hr rfl (aa (pv 2) ad)))))))) (ah (az bd)) aE)
  (ah (az (li (jI (pv 2)) (bX (ay DT hr rfl (aa (ar ix_tup (ir (pv 0) rfl) (pv 1) (λ _ _=>rfl)) ad)))))),?_⟩
 apply%[_,Z,x,_,0,Z,tx,_,Z|?_];cases hw:aX x 0 with
 | false=>
  have e:cx ks x t=false:=by
   cases x with
   | int i=>
    have h0:decide (0<=i)=false:=hw;cases t <;> first | rfl | (show(decide (0<=i) && _)=false;rw[h0,Bool.false_and])
   | _=>rfl
  rw[e]at q;exact br (br q)
 | true=>
  have ex:∃i,x=.int i/\0<=i:=by
   cases x with
   | int i=>exact%[i,Z|B9 hw]
   | _=>cases hw
  obtain⟨i,rfl,i0⟩:=ex;apply aU %[_,rfl,_,rfl,s,C,dx,_,_,rfl,h1,T.cl,T.nK,eY _ _,r,rs,rfl,.inr (GV h2),i,_,rfl,rfl,_,rfl|?_]
  by_cases hi:(rs.length:Int)<=i
  ·rw[IL hi];have e:cx ks (.int i) t=false:=by have hn:ks[i.toNat]?=none:=List.getElem?_eq_none ⋯;cases t <;> first | rfl | (show(decide (0<=i) && match ks[i.toNat]? with | some k=>_ | none=>false)=false;rw[hn,Bool.and_false])
   rw[e]at q;exact br (br q)
  ·rw[IQ hi];apply aU %[_,rfl,t,_,rfl,tt,_,rfl|?_];have hlt:i.toNat < ks.length:=⋯
   cases hb:mC t with
   | false=>
    have e:cx ks (.int i) t=false:=by cases t <;> first | rfl | cases hb
    rw[e]at q;exact br q
   | true=>
    have ex:∃c,t=.bl c:=by cases t <;> first | exact%[_|Z] | cases hb
    obtain⟨c,rfl⟩:=ex;obtain⟨y,hy⟩:∃y,rs[i.toNat]?=some y:=%[rs[i.toNat]'⋯|by simp[show i.toNat < rs.length by omega]]
    obtain⟨k,hk,a,rfl,ha⟩:=GY h3 hy;have e:cx ks (.int i) (.bl c)=(!c || aY k):=by show(decide (0<=i) && match ks[i.toNat]? with | some k=>(!c || aY k) | none=>false)=_;rw[hk,IL i0,Bool.true_and]
    rw[e]at q;apply aU %[_,rfl,c,rfl,_,rfl|?_];apply bv (λ d=>?_) (λ d=>?_)
    ·rw[d,Bool.true_or]at q;exact q
    ·have d':(!c)=false:=by simpa using d
     rw[d',Bool.false_or]at q;have at':atI rs i=↑a:=by
      have en:ixN rs.length i=some i.toNat:=by unfold ixN;rw[IP i0,IP ⋯]
      unfold atI;rw[en];exact hy
     exact%[_,Z,s,C,dx,_,_,Z,h1,T.cl,T.nK,eY _ _,_,Z,r,rs,i,_,Z,Z,GV h2,at',a,k,Z,ha|q]
end
def iM(k:Kd)(c:Bool):IF V:=if c=true then[.int k.h,.int k.w]else[.int k.w,.int k.h]
inductive spSides(K:C3)(C:IB)(vs:IF V)(H:Hp)(Q:VK)(E_:XK):Prop
|mk(s:IB)(b:Int)(ks:IF Kd)(x t:V)(T U:String)(_:vs=[.ref s,x,t])(_:ShopAt C H s b ks)(_:Ty K H x T)(_:Ty K H t U)(_:cx ks x t=true)(_:∀(i:Int)(c:Bool)(k:Kd)(p:IB),x=.int i->t=.bl c->ks[i.toNat]?=some k->cx ks x t=true->H p=none->Q (.ref p) (upd H p (.tup (iM k c))))
theorem fg{ks:IF Kd}{x t:V}(h:cx ks x t=true):∃(i:Int)(c:Bool)(k:Kd),x=.int i/\t=.bl c/\0<=i/\ks[i.toNat]?=some k:=by
 unfold cx at h
 split at h
 ·rename_i i c
  rw[HX]at h;obtain⟨h1,h2⟩:=h
  split at h2
  ·rename_i k hk
   exact%[i,c,k,Z,Z,B9 h1|hk]
  ·cases h2
 ·cases h
theorem uy{rs:IF V}{i:Int}{v:V}(i0:0<=i)(h:rs[i.toNat]?=some v):atI rs i=some v:=by
 have en:ixN rs.length i=some i.toNat:=by unfold ixN;have:=(A5.mp h).1;rw[IP i0,IP ⋯]
 unfold atI;rw[en];exact h
section
variable{P:F5}{w:F7}{K:C3}{mg:Str->ID F8}{base:Heap}
theorem scSides:FnScope ["self","kind","turned","row"] ["self","kind","turned"] (defScope df):=%[Z,Z,Z,∅,Z,∅|∅]
theorem pR{f C:IB}{fd:F6}(F:Fun K "sides" "Shop.sides" df f fd)(T:ShopTxt K C)(ML:Mn P w K mg base C "is_lying" ["self","kind","turned"] 2 (dJ K C)) :
  FnOk P w K mg base CX0 3 f fd ["self","kind","turned"] (spSides K C):=by
 apply F.ok scSides (λ vs H Q E h=>?_) (λ cdv A outer s H vs Q E hr h=>?_)
 ·obtain⟨s,b,ks,x,t,T0,U,rfl,_⟩:=h
  rfl
 obtain⟨s,b,ks,x,t,T0,U,rfl,S,tx,tt,he,hq⟩:=h;have nd:=scSides.nd;apply⟨_,af (aM (aO (aN (lH (pv 0) T.cl ML hr (aa (pv 1) (aa (pv 2) ad))))) (ah fP) aE)
  (af (aI (i:=3) nd rfl (Or.inl rfl) (ar ix_tup (ir (pv 0) rfl) (pv 1) (λ _ _=>rfl)))
  (af (aM (aN (pv 2)) (ah (az (aL (aa (ar ix_tup (pv 3) ae (λ _ _=>rfl)) (aa (ar ix_tup (pv 3) ae (λ _ _=>rfl)) ad))))) aE)
  (ah (az (aL (aa (ar ix_tup (pv 3) ae (λ _ _=>rfl)) (aa (ar ix_tup (pv 3) ae (λ _ _=>rfl)) ad))))))),?_⟩
 obtain⟨dx,r,rs,h1,h2,h3⟩:=id S;apply%[_,Z,s,dx,_,Z,h1,dI _ _ ∅ ∅,_,Z,_,Z,s,b,ks,x,t,T0,U,Z,S,tx,tt,_,Z|?_];cases hl:cx ks x t with
 | false=>rw[hl]at he;cases he
 | true=>
  obtain⟨i,c,k,rfl,rfl,i0,hk⟩:=fg hl;have uL:=E1 h3;have hik:=(A5.mp hk).1;obtain⟨y,hy⟩:∃y,rs[i.toNat]?=some y:=%[rs[i.toNat]'⋯|by simp[show i.toNat < rs.length by omega]]
  obtain⟨k',hk',a,rfl,ha⟩:=GY h3 hy;rw[hk]at hk';obtain rfl:=B7 hk';apply aU ?_;apply%[_,Z,s,C,dx,_,_,Z,h1,T.cl,T.nK,eY _ _,_,Z,r,rs,i,_,Z,Z,GV h2,uy i0 hy|?_];apply%[_,Z,_,Z|?_];cases c with
  | true=>
   apply br ?_;apply%[_,Z,a,_,1,_,Z,Z,GV ha,Z,_,Z,a,_,0,_,Z,Z,GV ha,Z,zS2|λ p hp=>?_];exact hq i true k p rfl rfl hk hl hp
  | false=>
   apply aU ?_;apply%[_,Z,a,_,0,_,Z,Z,GV ha,Z,_,Z,a,_,1,_,Z,Z,GV ha,Z,zS2|λ p hp=>?_];exact hq i false k p rfl rfl hk hl hp
end
mutual
inductive Dt(p:IB)(H:Hp):V->PyData->Prop
 | non:Dt p H .non .none
 | bl (b:Bool):Dt p H (.bl b) (.bool b)
 | int (i:Int):Dt p H (.int i) (.int i)
 | str (z:Str):Dt p H (.str z) (.str z)
 | lst {a:IB} {xs:IF V} {ds:IF PyData}:a≠p->H a=↥xs->Dts p H xs ds->Dt p H (.ref a) (.list ds)
 | tup {a:IB} {xs:IF V} {ds:IF PyData}:H a= ~~~xs->Dts p H xs ds->Dt p H (.ref a) (.tuple ds)
 | emp {a:IB}:H a=some (.dK [])->Dt p H (.ref a) (.dict [])
inductive Dts(p:IB)(H:Hp):IF V->IF PyData->Prop
 | nil:Dts p H [] []
 | cons {x:V} {d:PyData} {xs:IF V} {ds:IF PyData}:Dt p H x d->Dts p H xs ds->Dts p H (x :: xs) (d :: ds)
end
mutual
theorem Dt.same{p:IB}{H H':Hp}(s:Same H H'):∀{v:V}{d:PyData},Dt p H v d->Dt p H' v d
 | _,_,.non=>.non
 | _,_,.bl b=>.bl b
 | _,_,.int i=>.int i
 | _,_,.str z=>.str z
 | _,_,.lst n h r=>.lst n (s _ _ h) (r.same s)
 | _,_,.tup h r=>.tup (s _ _ h) (r.same s)
 | _,_,.emp h=>.emp (s _ _ h)
theorem Dts.same{p:IB}{H H':Hp}(s:Same H H'):∀{vs:IF V}{ds:IF PyData},Dts p H vs ds->Dts p H' vs ds
 | _,_,.nil=>.nil
 | _,_,.cons a r=>.cons (a.same s) (r.same s)
end
theorem Dts.length{p:IB}{H:Hp}:∀{vs:IF V}{ds:IF PyData},Dts p H vs ds->vs.length=ds.length
 | _,_,.nil=>rfl
 | _,_,.cons _ r=>by rw[G1,G1,r.length]
theorem Dt.ty{K:C3}{p:IB}{H:Hp}{v:V}{d:PyData}(h:Dt p H v d):∃T,Ty K H v T:=by
 cases h with
 | non=>exact%[_|Ty.non]
 | bl b=>exact%[_|Ty.bl]
 | int i=>exact%[_|Ty.int]
 | str z=>exact%[_|Ty.str]
 | lst _ h _=>exact%[_|Ty.lst h]
 | tup h _=>exact%[_|Ty.tup h]
 | emp h=>exact%[_|Ty.dK h]
mutual
theorem Dt.but{p:IB}{H H':Hp}(hp:∃xs,H p=↥xs)(b:But p H H'):∀{v:V}{d:PyData},Dt p H v d->Dt p H' v d
 | _,_,.non=>.non
 | _,_,.bl b=>.bl b
 | _,_,.int i=>.int i
 | _,_,.str z=>.str z
 | _,_,.lst n h r=>.lst n (b _ _ n h) (r.but hp b)
 | _,_,.tup h r=>.tup (b _ _ (λ z=>by obtain⟨_,e⟩:=hp;rw[z,e]at h;cases h) h) (r.but hp b)
 | _,_,.emp h=>.emp (b _ _ (λ z=>by obtain⟨_,e⟩:=hp;rw[z,e]at h;cases h) h)
theorem Dts.but{p:IB}{H H':Hp}(hp:∃xs,H p=↥xs)(b:But p H H'):∀{vs:IF V}{ds:IF PyData},Dts p H vs ds->Dts p H' vs ds
 | _,_,.nil=>.nil
 | _,_,.cons a r=>.cons (a.but hp b) (r.but hp b)
end
mutual
noncomputable def wt:PyData->Nat
 | .str z=>z.length+1
 | .list ds=>wts ds+1
 | .tuple ds=>wts ds+1
 | _=>1
noncomputable def wts:IF PyData->Nat
 | []=>0
 | d :: r=>wt d+wts r
end
theorem xo(d:PyData):1<=wt d:=by cases d <;> simp only[wt] <;> omega
def bW:PyData->ID (IF PyData)
 | .list ds=>some ds
 | .tuple ds=>some ds
 | _=>none
theorem Dt.row{K:C3}{p:IB}{H:Hp}{v:V}{d:PyData}(h:Dt p H v d):(bW d=none/\∃T,Ty K H v T/\(T == "list" || T == "tuple")=false)\/∃a xs ds T,bW d=some ds/\v=.ref a/\(H a=↥xs\/H a= ~~~xs)/\Dts p H xs ds/\Ty K H v T/\(T == "list" || T == "tuple")=true:=by
 cases h with
 | non=>exact .inl %[Z,_,Ty.non|Z]
 | bl b=>exact .inl %[Z,_,Ty.bl|Z]
 | int i=>exact .inl %[Z,_,Ty.int|Z]
 | str z=>exact .inl %[Z,_,Ty.str|Z]
 | lst _ h r=>exact .inr %[_,_,_,_,Z,Z,.inl h,r,Ty.lst h|Z]
 | tup h r=>exact .inr %[_,_,_,_,Z,Z,.inr h,r,Ty.tup h|Z]
 | emp h=>exact .inl %[Z,_,Ty.dK h|Z]
def bw(d:PyData)(z:Str)(n:Nat):Bool:=match bW d with
 | some (.str y :: r)=>decide (r.length+1=n) && decide (y=z)
 | _=>false
section
variable{P:F5}{w:F7}{K:C3}{mg:Str->ID F8}{base:Heap}
def sd1(k:Kd)(c:Bool):Int:=if c=true then k.h else k.w
def sd2(k:Kd)(c:Bool):Int:=if c=true then k.w else k.h
theorem pS(k:Kd)(c:Bool):iM k c=[.int (sd1 k c),.int (sd2 k c)]:=by cases c <;> rfl
def eL(ks:IF Kd)(w h:Int)(kv tv xv yv:V):Bool:=cx ks kv tv && aX xv 0 && aX yv 0 && (match kv,tv,xv,yv with
 | .int i,.bl c,.int x,.int y=>(match ks[i.toNat]? with
  | some k=>decide (x+sd1 k c<=w) && decide (y+sd2 k c<=h)
  | none=>false)
 | _,_,_,_=>false)
inductive spLiesG(K:C3)(C:IB)(vs:IF V)(H:Hp)(Q:VK)(E_:XK):Prop
|mk(s:IB)(b:Int)(ks:IF Kd)(w h:Int)(kv tv xv yv:V)(T1 T2 T3 T4:String)(_:vs=[.ref s,.int w,.int h,kv,tv,xv,yv])(_:ShopAt C H s b ks)(_:Ty K H kv T1)(_:Ty K H tv T2)(_:Ty K H xv T3)(_:Ty K H yv T4)(_:∀H',Same H H'->Q (.bl (eL ks w h kv tv xv yv)) H')
theorem scliesG:FnScope ["shop","wide","high","kind","turned","x","y","piece_wide","piece_high"] ["shop","wide","high","kind","turned","x","y"] (defScope fD):=%[Z,Z,Z,∅,Z,∅|∅]
theorem pT{f C:IB}{fd:F6}(F:Fun K "lies_in" "lies_in" fD f fd)(T:ShopTxt K C)(DW:Dn P w K mg base "is_whole" ["thing","least"] 1 (dG K))(MI:Mn P w K mg base C "is_lying" ["self","kind","turned"] 2 (dJ K C))(MS:Mn P w K mg base C "sides" ["self","kind","turned"] 3 (spSides K C)):FnOk P w K mg base CX0 4 f fd ["shop","wide","high","kind","turned","x","y"] (spLiesG K C):=by
 apply F.ok scliesG (λ vs H Q E h=>?_) (λ cdv A outer s H vs Q E hr h=>?_)
 ·obtain⟨s,b,ks,w1,h1,kv,tv,xv,yv,T1,T2,T3,T4,rfl,_⟩:=h
  rfl
 obtain⟨s,b,ks,w1,h1',kv,tv,xv,yv,T1,T2,T3,T4,rfl,S,t1,t2,t3,t4,q⟩:=h;have nd:=scliesG.nd;have hr1:=hr.mono (show 1<=3 by decide);have hr2:=hr.mono (show 2<=3 by decide);apply%[_,(((PW.pt (bC (@aO _ _ _ _ (@aN _ _ _ (lH (pv 0) T.cl MI hr2 ((pv 3)^^^((pv 4)^^^ad))) (by intro _;rfl))) (bC (@aO _ _ _ _ (@aN _ _ _ (@ay _ _ _ _ _ _ _ _ _ _ DW hr1 Z ((pv 5)^^^(ae^^^ad)) ∅ Z Z) (by intro _;rfl))) (bG (@aO _ _ _ _ (@aN _ _ _ (@ay _ _ _ _ _ _ _ _ _ _ DW hr1 Z ((pv 6)^^^(ae^^^ad)) ∅ Z Z) (by intro _;rfl)))))))<|>(bd⁻¹)<|>aE)<<<((@bz _ _ _ _ _ _ (lH (pv 0) T.cl MS hr ((pv 3)^^^((pv 4)^^^ad))) (bc Z (7•(8•aQ))) Z Z Z)<<<((bH (@aT _ _ _ _ _ _ _ _ dj ((pv 5)|||aK|||(pv 7)) (pv 1) (aF _)) (bX (@aT _ _ _ _ _ _ _ _ dj ((pv 6)|||aK|||(pv 8)) (pv 2) (aF _))))⁻¹)))|?_];obtain⟨dx,r,rs,h1,h2,h3⟩:=id S;apply%[_,Z,s,dx,_,Z,h1,(dI _ _ ∅ ∅),_,Z,_,Z,s,b,ks,kv,tv,T1,T2,Z,S,t1,t2,_,Z|?_];cases ly:cx ks kv tv with
 | false=>
  have q1:=q H (Same.refl _);unfold eL at q1;rw[ly]at q1;exact br (br q1)
 | true=>
 apply aU %[_,rfl,xv,T3,0,rfl,t3,_,rfl|?_];cases hx:aX xv 0 with
 | false=>
  have q1:=q H (Same.refl _);unfold eL at q1;rw[ly,hx]at q1;exact br (br q1)
 | true=>
 apply aU %[_,rfl,yv,T4,0,rfl,t4,_,rfl|?_];cases hy:aX yv 0 with
 | false=>
  have q1:=q H (Same.refl _);unfold eL at q1;rw[ly,hx,hy]at q1;exact br q1
 | true=>
 apply aU ?_;obtain⟨i,c,k,rfl,rfl,i0,hk⟩:=fg ly;obtain⟨x1,rfl⟩:∃i,xv=.int i:=by cases xv <;> first | exact%[_|Z] | cases hx
 obtain⟨y1,rfl⟩:∃i,yv=.int i:=by cases yv <;> first | exact%[_|Z] | cases hy
 apply%[_,Z,s,dx,_,Z,h1,(dI _ _ ∅ ∅),_,Z,_,Z,s,b,ks,.int i,.bl c,T1,T2,Z,S,t1,t2,ly|λ i' c' k' p e1 e2 hk' _ hp=>?_];cases e1;cases e2;rw[hk]at hk';cases hk';rw[pS];have q1:=q _ (F9 hp (o:=.tup [.int (sd1 k c),.int (sd2 k c)]));apply%[p,_,Z,GV upd_same,Z,_,_,Z,_,_,Z,Z|?_];apply%[_,Z,_,Z,_,_,Z,Z,_,Z,_,_,Z,Z,_,Z|?_];unfold eL at q1;rw[ly,hx,hy]at q1;simp only[hk,Bool.true_and]at q1;apply bv (λ cc=>?_) (λ cc=>?_)
 ·apply%[_,Z,_,Z,_,_,Z,Z,_,Z,_,_,Z,Z|?_];rw[cc,Bool.true_and]at q1;exact q1
 ·rw[show decide (x1+sd1 k c<=w1)=false by simpa using cc,Bool.false_and]at q1;exact q1
end
def PotC(H:Hp)(p:IB):Prop:=∃a b:Int,0<=a/\0<=b/\b < 4294967296/\H p=↥[.int a,.int b]
theorem PotC.same{H H':Hp}{p:IB}(x:PotC H p)(s:Same H H'):PotC H' p:=by obtain⟨a,b,h1,h2,h3,e⟩:=x;exact%[a,b,h1,h2,h3|s _ _ e]
theorem PotC.new{H:Hp}{p q:IB}{o:HO}(x:PotC H p)(h:H q=none):PotC (upd H q o) p:=x.same (F9 h)
theorem PotC.some{H:Hp}{p:IB}(x:PotC H p):H p≠none:=by obtain⟨a,b,h1,h2,h3,e⟩:=x;rw[e];exactλ z=>by cases z
theorem PotC.ne{H:Hp}{p q:IB}(x:PotC H p)(h:H q=none):p≠q:=λ z=>x.some (z ▸ h)
theorem kx{H:Hp}{p:IB}(h:PotC H p):∃xs,H p=↥xs:=by obtain⟨_,_,_,_,_,e⟩:=h;exact%[_|e]
theorem PotC.put{H:Hp}{p l:IB}{o:HO}(x:PotC H p)(n:p≠l):PotC (upd H l o) p:=by obtain⟨a,b,h1,h2,h3,e⟩:=x;exact%[a,b,h1,h2,h3|by rw[aG n];exact e]
theorem But.freeC{p q:IB}{H H':Hp}(b:But p H H')(x:PotC H' p)(h:H' q=none):q≠p/\H q=none:=by
 have n:q≠p:=λ z=>x.some (z ▸ h);apply%[n|?_];cases e:H q with
 | none=>rfl
 | some o=>rw[b q o n e]at h;cases h
theorem bm{p c:IB}{H0 H:Hp}{o:HO}(b:But p H0 H)(pt:PotC H p)(h:H c=none):∃H',upd H c o=H'/\H' c=some o/\c≠p/\Same H H'/\But p H0 H'/\PotC H' p :=
 %[_,rfl,upd_same,Ne.symm (pt.ne h),F9 h,b.trans (But.new h)|pt.new h]
theorem bI{p:IB}{H H':Hp}(b:But p H H')(pt:PotC H p){c:IB}{xs:IF V}(e:H c= ~~~xs):H' c= ~~~xs:=by obtain⟨_,hp⟩:=kx pt;exact b _ _ (λ z=>by rw[z,hp]at e;cases e) e
theorem tG{p:IB}{rs:IF V}{ks:IF Kd}{H H':Hp}(b:But p H H')(pt:PotC H p)(h:Tups H rs ks):Tups H' rs ks:=Tups.keep (λ x xs e=>bI b pt e) h
theorem But.refl'{p:IB}{H:Hp}:But p H H:=λ _ _ _ e=>e
section
variable{P:F5}{w:F7}{K:C3}{mg:Str->ID F8}{base:Heap}
inductive spPotC(vs:IF V)(H:Hp)(Q:VK)(E_:XK):Prop
|mk(c k:Int)(_:vs=[.int c,.int k])(_:0<=k)(_:k<=63)(_:∀(p:IB)(H':Hp),H p=none->PotC H' p->Same H H'->Q (.ref p) H')
inductive spTake(vs:IF V)(H:Hp)(Q:VK)(E_:XK):Prop
|mk(p:IB)(m:Int)(_:vs=[.ref p,.int m])(_:PotC H p)(_:0 < m)(_:m<=10 ^ 60)(_:∀(r:Int)(H':Hp),0<=r->r < m->PotC H' p->But p H H'->Q (.int r) H')
inductive spUnit(vs:IF V)(H:Hp)(Q:VK)(E_:XK):Prop
|mk(p:IB)(_:vs=[.ref p])(_:PotC H p)(_:∀(r:Int)(H':Hp),1<=r->r < 2 * 10 ^ 56->PotC H' p->But p H H'->Q (.int r) H')
inductive spSideC(vs:IF V)(H:Hp)(Q:VK)(E_:XK):Prop
|mk(p:IB)(u m:Int)(_:vs=[.ref p,.int u,.int m])(_:PotC H p)(_:1<=u)(_:u < 2 * 10 ^ 56)(_:1<=m)(_:m<=40)(_:∀(r:Int)(H':Hp),1<=r->r<=m * u->r < 10 ^ 58->PotC H' p->But p H H'->Q (.int r) H')
inductive spWorthC(vs:IF V)(H:Hp)(Q:VK)(E_:XK):Prop
|mk(p:IB)(_:vs=[.ref p])(_:PotC H p)(_:∀(r:Int)(H':Hp),0<=r->r < 10 ^ 60->PotC H' p->But p H H'->Q (.int r) H')
theorem sccell:FnScope ["_law_script","_law_k"] ["_law_script","_law_k"] (defScope lO):=%[Z,Z,Z,∅,Z,∅|∅]
theorem rN{f:IB}{fd:F6}(F:Fun K "_law_cell" "_law_cell" lO f fd)(B:Blt mg):FnOk P w K mg base CX0 1 f fd ["_law_script","_law_k"] (pG K):=by
 apply F.ok sccell (λ vs H Q E h=>?_) (λ cdv A outer s H vs Q E hr h=>?_)
 ·obtain⟨a,ns,n,rfl,_⟩:=h
  rfl
 obtain⟨a,ns,n,rfl,hS,n0,q⟩:=h;have nd:=sccell.nd;apply%[_,((((pv 1)<*>fQ<*>(@aA _ _ _ _ _ _ _ _ _ aJ Z B.len IR ((pv 0)^^^ad) ∅ ∅ Z Z))<|>(((pv 0)&&&ix_list&&&(pv 1))⁻¹)<|>aE)<<<(ae⁻¹))|?_];have hl:(ns.map V.int).length=ns.length:=GZ _;apply%[_,Z,_,Z,a,_,Z,.inl hS,_,_,Z,Z,_,Z|?_];apply bv (λ c=>?_) (λ c=>?_)
 ·have c':n < ((ns.map V.int).length:Int):=B9 c;rw[hl]at c';have hk:n.toNat < ns.length:=⋯
  have hv:atI (ns.map V.int) n=some (.int ns[n.toNat]):=cy n0 (by rw[G6,E9 hk];rfl);exact%[_,Z,_,Z,a,_,_,_,Z,Z,hS,hv|q _]
 ·exact q _
theorem scpotc:FnScope ["_law_cell_here","_law_k"] ["_law_cell_here","_law_k"] (defScope rG):=%[Z,Z,Z,∅,Z,∅|∅]
theorem rO{f:IB}{fd:F6}(F:Fun K "_law_pot" "_law_pot" rG f fd)(B:Blt mg):FnOk P w K mg base CX0 1 f fd ["_law_cell_here","_law_k"] (spPotC):=by
 apply F.ok scpotc (λ vs H Q E h=>?_) (λ cdv A outer s H vs Q E hr h=>?_)
 ·obtain⟨c,k,rfl,_⟩:=h
  rfl
 obtain⟨c,k,rfl,k0,k1,q⟩:=h;have nd:=scpotc.nd;apply%[_,((@aS _ _ _ _ ((@aA _ _ _ _ _ _ _ _ _ (cP Z) Z B.max Ia (ae^^^(((@aA _ _ _ _ _ _ _ _ _ ja Z B.abs PyProof.Rows.boot_abs ((pv 0)^^^ad) ∅ ∅ Z Z)|||bQ|||(ae|||eT|||ae))^^^ad)) ∅ ∅ Z Z)^^^(((((@aA _ _ _ _ _ _ _ _ _ ja Z B.abs PyProof.Rows.boot_abs ((pv 0)^^^ad) ∅ ∅ Z Z)|||eS|||ae)|||aK|||(ae|||ce|||(pv 1)))|||aK|||ae)^^^ad)))⁻¹)|?_];apply%[_,Z,_,Z,_,_,Z,Z,%[∅,∅|∅],_,_,Z,Z,_,_,Z,_,Z,_,Z,_,_,Z,Z,(by show(0:Int) < 2147483563;decide),_,Z,_,_,Z,Z,.inl %[∅|∅],_,_,Z,Z,_,_,Z,Z,zS2|λ p hp=>?_];have e1:=Int.emod_nonneg (if c < 0 then -c else c) (show(2147483563:Int)≠0 by decide);have e2:=Int.emod_lt_of_pos (if c < 0 then -c else c) (show(0:Int) < 2147483563 by decide);apply q p _ hp %[_,_,?_,?_,?_|upd_same] (F9 hp)
 ·split <;> omega
 ·omega
 ·omega
theorem sctake:FnScope ["_law_pot_here","_law_many","_law_digit"] ["_law_pot_here","_law_many"] (defScope lP):=%[Z,Z,Z,∅,Z,∅|∅]
theorem rP{f:IB}{fd:F6}(F:Fun K "_law_take" "_law_take" lP f fd)(B:Blt mg):FnOk P w K mg base CX0 1 f fd ["_law_pot_here","_law_many"] (spTake):=by
 apply F.ok sctake (λ vs H Q E h=>?_) (λ cdv A outer s H vs Q E hr h=>?_)
 ·obtain⟨p,m,rfl,_⟩:=h
  rfl
 obtain⟨p,m,rfl,⟨a,b,a0,b0,b1,hp⟩,m0,m1,q⟩:=h;have nd:=sctake.nd;apply%[_,(((((pv 0)&&&ix_list&&&ae)<*>fR<*>ae)<|>((2∣(((pv 0)&&&ix_list&&&ae)|||eS|||(pv 1)))<<<((@bz _ _ _ _ _ _ (((pv 0)&&&ix_list&&&ae)|||eC|||(pv 1)) (oH (pv 0) ae jd) Z Z Z)<<<((pv 2)⁻¹)))<|>aE)<<<((@bz _ _ _ _ _ _ (((((pv 0)&&&ix_list&&&ae)|||ce|||ae)|||aK|||ae)|||eS|||ae) (oH (pv 0) ae jd) Z Z Z)<<<(((((((pv 0)&&&ix_list&&&ae)|||ce|||((pv 0)&&&ix_list&&&ae))|||eS|||ae)|||eC|||ae)|||eS|||(pv 1))⁻¹)))|?_];have at0:atI [V.int a,V.int b] 0=⇑a:=rfl;have at1:atI [V.int a,V.int b] 1=⇑b:=rfl;apply%[_,Z,p,_,_,_,Z,Z,GW hp,at0,_,_,Z,Z,_,Z|?_];apply bv (λ c=>?_) (λ c=>?_)
 ·have c':0 < a:=B9 c;apply%[_,Z,p,_,_,_,Z,Z,GW hp,at0,_,Z,_,_,Z,Z,m0|?_];apply%[_,Z,p,_,_,_,Z,Z,GW hp,at0,_,Z,_,_,Z,Z,%[m0|m1],_,Z,p,_,_,_,Z,Z,hp,Z|?_];apply%[_,Z|q _ _ (Int.emod_nonneg _ ⋯) (Int.emod_lt_of_pos _ m0) %[a / m,b,Int.ediv_nonneg a0 ⋯,b0,b1|upd_same] But.upd]
 ·apply%[_,Z,p,_,_,_,Z,Z,GW hp,at1,_,_,Z,Z,.inr %[∅|∅],_,_,Z,Z,_,_,Z,Z,(by show(0:Int) < 2147483629;decide),_,Z,p,_,_,_,Z,Z,hp,Z|?_];have n0:0<=(b * 39373+7919) % 2147483629:=Int.emod_nonneg _ ∅;have n1:(b * 39373+7919) % 2147483629 < 2147483629:=Int.emod_lt_of_pos _ ∅;apply%[_,Z,p,_,_,_,Z,Z,GW upd_same,Z,_,Z,p,_,_,_,Z,Z,GW upd_same,Z,_,_,Z,Z,.inl %[⋯|⋯],_,_,Z,Z,(by show(0:Int) < 2147483563;decide),_,_,Z,Z,%[∅|∅],_,Z,_,_,Z,Z,m0|?_];exact q _ _ (Int.emod_nonneg _ ⋯) (Int.emod_lt_of_pos _ m0) %[a,_,a0,n0,⋯|upd_same] But.upd
theorem scunit:FnScope ["_law_pot_here","_law_some"] ["_law_pot_here"] (defScope lQ):=%[Z,Z,Z,∅,Z,∅|∅]
theorem rQ{f:IB}{fd:F6}(F:Fun K "_law_unit" "_law_unit" lQ f fd)(B:Blt mg)(DD:Dn P w K mg base "_law_take" ["_law_pot_here","_law_many"] 1 (spTake)):FnOk P w K mg base CX0 2 f fd ["_law_pot_here"] (spUnit):=by
 apply F.ok scunit (λ vs H Q E h=>?_) (λ cdv A outer s H vs Q E hr h=>?_)
 ·obtain⟨p,rfl,_⟩:=h
  rfl
 obtain⟨p,rfl,pt,q⟩:=h;have nd:=scunit.nd;apply%[_,((1∣(@aS _ _ _ _ (ae^^^(ae^^^((ae|||aK|||(DD∪((pv 0)^^^((ae|||eT|||ae)^^^ad))))^^^(((ae|||eT|||ae)|||aK|||(DD∪((pv 0)^^^((ae|||eT|||ae)^^^ad))))^^^ad))))))<<<(((pv 1)&&&ix_list&&&(DD∪((pv 0)^^^(ae^^^ad))))⁻¹))|?_];have e56:(10:Int) ^ (56:Int).toNat=10 ^ 56:=rfl;have e66:(10:Int) ^ 6 < 10 ^ 56:=∅
 apply ai (λ σ' H'=>∃(l:IB)(c d:Int),σ'=[↑p,↑l]/\l≠p/\H' l=↥[.int 1,.int 1,.int c,.int d]/\1<=c/\c < 2 * 10 ^ 56/\1<=d/\d < 2 * 10 ^ 56/\PotC H' p/\But p H H') (λ R hR=>?_) ?_
 ·apply%[_,Z,_,_,Z,Z,%[∅,∅|∅],p,_,Z,pt,(by show(0:Int) < 10 ^ (6:Int).toNat;decide),(by show(10:Int) ^ (6:Int).toNat<=10 ^ 60;decide)|λ r H1 r0 r1 pt1 b1=>%[_,_,Z,Z,_,_,Z,Z,%[∅,∅|∅],_,Z,_,_,Z,Z,%[∅,∅|∅],p,_,Z,pt1,(by show(0:Int) < 10 ^ (56:Int).toNat;decide),(by show(10:Int) ^ (56:Int).toNat<=10 ^ 60;decide)|λ r2 H2 r20 r21 pt2 b2=>%[_,_,Z,Z,zS4|λ l hl=>?_]]];have r1:r < 10 ^ 6:=r1;rw[e56]at r21;obtain⟨H3,e3,k3,n3,s3,b3,pt3⟩:=bm (o:=.lst [.int 1,.int 1,.int (1+r),.int (10 ^ (56:Int).toNat+r2)]) (b1.trans b2) pt2 hl;rw[show upd H2 l _=H3 from e3];exact hR _ _ %[l,_,_,rfl,n3,k3,⋯,⋯,by rw[e56];omega,by rw[e56];omega,pt3|b3]
 rintro _ H1 ⟨l,c,d,rfl,nlp,hl1,c0,c1,d0,d1,pt1,b1⟩;apply%[_,Z,_,Z,p,4,Z,pt1,∅,∅|λ r H2 r0 r1 pt2 b2=>?_];have hl2:=b2 _ _ nlp hl1;have one:(1:Int) < 2 * 10 ^ 56:=∅
 obtain⟨x,hx,x0,x1⟩:∃x:Int,atI [V.int 1,V.int 1,V.int c,V.int d] r=⇑x/\1<=x/\x < 2 * 10 ^ 56:=by
  have:r=0\/r=1\/r=2\/r=3:=⋯
  rcases this with rfl | rfl | rfl | rfl
  ·exact%[1,Z,∅|one]
  ·exact%[1,Z,∅|one]
  ·exact%[c,Z,c0|c1]
  ·exact%[d,Z,d0|d1]
 exact%[l,_,_,_,Z,Z,GW hl2,hx|q x H2 x0 x1 pt2 (b1.trans b2)]
theorem scsidecc:FnScope ["_law_pot_here","_law_unit_here","_law_most"] ["_law_pot_here","_law_unit_here","_law_most"] (defScope lR):=%[Z,Z,Z,∅,Z,∅|∅]
theorem mP{f:IB}{fd:F6}(F:Fun K "_law_side" "_law_side" lR f fd)(B:Blt mg)(DD:Dn P w K mg base "_law_take" ["_law_pot_here","_law_many"] 1 (spTake)):FnOk P w K mg base CX0 2 f fd ["_law_pot_here","_law_unit_here","_law_most"] (spSideC):=by
 apply F.ok scsidecc (λ vs H Q E h=>?_) (λ cdv A outer s H vs Q E hr h=>?_)
 ·obtain⟨p,u,m,rfl,_⟩:=h
  rfl
 obtain⟨p,u,m,rfl,pt,u0,u1,m1,m40,q⟩:=h;have nd:=scsidecc.nd;apply%[_,((((DD∪((pv 0)^^^(ae^^^ad)))<*>bF<*>ae)<|>(((pv 1)|||ce|||(ae|||aK|||(DD∪((pv 0)^^^((pv 2)^^^ad)))))⁻¹)<|>aE)<<<((ae|||aK|||(DD∪((pv 0)^^^(((pv 2)|||ce|||(pv 1))^^^ad))))⁻¹))|?_];have e58:40 * (2 * 10 ^ 56) < (10:Int) ^ 58:=∅
 have e60:40 * (2 * 10 ^ 56) < (10:Int) ^ 60:=∅
 have mu:m * u<=40 * (2 * 10 ^ 56):=Int.mul_le_mul m40 (Int.le_of_lt u1) ⋯ ∅;have mu1:1<=m * u:=by have:=Int.mul_le_mul m1 u0 ∅ ⋯;omega
 apply ai (λ σ' H'=>σ'=[↑p,⇑u,⇑m]/\PotC H' p/\But p H H') (λ R hR=>?_) ?_
 ·apply%[_,Z,p,2,Z,pt,∅,∅|λ z H1 z0 z1 pt1 b1=>%[Z,_,Z|?_]];apply bv (λ cc=>?_) (λ cc=>hR _ _ %[rfl,pt1|b1]);apply%[_,Z,_,Z,_,Z,p,m,Z,pt1,⋯,⋯|λ r H2 r0 r1 pt2 b2=>%[_,_,Z,Z,_,_,Z,Z,.inr %[⋯|⋯]|q _ H2 ?_ ?_ ?_ pt2 (b1.trans b2)]]
  ·have:=Int.mul_le_mul u0 (show(1:Int)<=1+r by omega) ∅ ⋯;omega
  ·have:u * (1+r)<=u * m:=Int.mul_le_mul_of_nonneg_left ⋯ ⋯;rw[Int.mul_comm u m]at this;exact this
  ·have:u * (1+r)<=u * m:=Int.mul_le_mul_of_nonneg_left ⋯ ⋯;rw[Int.mul_comm u m]at this;omega
 rintro _ H1 ⟨rfl,pt1,b1⟩;exact%[_,Z,_,Z,_,Z,_,_,Z,Z,.inl %[⋯|⋯],p,m * u,Z,pt1,⋯,⋯|λ r H2 r0 r1 pt2 b2=>%[_,_,Z,Z|q _ H2 ⋯ ⋯ ⋯ pt2 (b1.trans b2)]]
theorem scworthc:FnScope ["_law_pot_here","_law_some"] ["_law_pot_here"] (defScope iH):=%[Z,Z,Z,∅,Z,∅|∅]
theorem mQ{f:IB}{fd:F6}(F:Fun K "_law_worth" "_law_worth" iH f fd)(B:Blt mg)(DD:Dn P w K mg base "_law_take" ["_law_pot_here","_law_many"] 1 (spTake)):FnOk P w K mg base CX0 2 f fd ["_law_pot_here"] (spWorthC):=by
 apply F.ok scworthc (λ vs H Q E h=>?_) (λ cdv A outer s H vs Q E hr h=>?_)
 ·obtain⟨p,rfl,_⟩:=h
  rfl
 obtain⟨p,rfl,pt,q⟩:=h;have nd:=scworthc.nd;apply%[_,((1∣(@aS _ _ _ _ ((DD∪((pv 0)^^^(ae^^^ad)))^^^((DD∪((pv 0)^^^((ae|||eT|||ae)^^^ad)))^^^((((ae|||eT|||ae)|||bQ|||ae)|||bQ|||(DD∪((pv 0)^^^(ae^^^ad))))^^^ad)))))<<<(((pv 1)&&&ix_list&&&(DD∪((pv 0)^^^(ae^^^ad))))⁻¹))|?_];have e60:(10:Int) ^ (60:Int).toNat=10 ^ 60:=rfl;have e100:(100:Int) < 10 ^ 60:=∅
 apply ai (λ σ' H'=>∃(l:IB)(c d e:Int),σ'=[↑p,↑l]/\l≠p/\H' l=↥[.int c,.int d,.int e]/\0<=c/\c < 10 ^ 60/\0<=d/\d < 10 ^ 60/\0<=e/\e < 10 ^ 60/\PotC H' p/\But p H H') (λ R hR=>?_) ?_
 ·apply%[_,Z,p,10,Z,pt,∅,∅|λ r H1 r0 r1 pt1 b1=>%[_,Z,_,_,Z,Z,%[∅,∅|∅],p,_,Z,pt1,(by show(0:Int) < 10 ^ (60:Int).toNat;decide),(by show(10:Int) ^ (60:Int).toNat<=10 ^ 60;decide)|λ r2 H2 r20 r21 pt2 b2=>%[_,_,Z,Z,%[∅,∅|∅],_,_,Z,Z,_,Z,p,10,Z,pt2,∅,∅|λ r3 H3 r30 r31 pt3 b3=>%[_,_,Z,Z,zS3|λ l hl=>?_]]]];rw[e60]at r21;obtain⟨H4,e4,k4,n4,s4,b4,pt4⟩:=bm (o:=.lst [.int r,.int r2,.int (10 ^ (60:Int).toNat - 1 - r3)]) (b1.trans (b2.trans b3)) pt3 hl;rw[show upd H3 l _=H4 from e4];exact hR _ _ %[l,_,_,_,rfl,n4,k4,r0,⋯,r20,r21,by rw[e60];omega,by rw[e60];omega,pt4|b4]
 rintro _ H1 ⟨l,c,d,e,rfl,nlp,hl1,c0,c1,d0,d1,e0,e1,pt1,b1⟩;apply%[_,Z,_,Z,p,3,Z,pt1,∅,∅|λ r H2 r0 r1 pt2 b2=>?_];have hl2:=b2 _ _ nlp hl1;obtain⟨x,hx,x0,x1⟩:∃x:Int,atI [V.int c,V.int d,V.int e] r=⇑x/\0<=x/\x < 10 ^ 60:=by
  have:r=0\/r=1\/r=2:=⋯
  rcases this with rfl | rfl | rfl
  ·exact%[c,Z,c0|c1]
  ·exact%[d,Z,d0|d1]
  ·exact%[e,Z,e0|e1]
 exact%[l,_,_,_,Z,Z,GW hl2,hx|q x H2 x0 x1 pt2 (b1.trans b2)]
end
def LS(H:Hp)(t:IB)(b:Int)(ks:IF Kd)(kl:IB):Prop:=∃rs,H t= ~~~[.int b,.ref kl]/\H kl=↥rs/\Tups H rs ks
theorem LS.same{H H':Hp}{t kl:IB}{b:Int}{ks:IF Kd}(x:LS H t b ks kl)(s:Same H H'):LS H' t b ks kl:=by obtain⟨rs,h1,h2,h3⟩:=x;exact%[rs,s _ _ h1,s _ _ h2|Tups.keep (λ c xs e=>s _ _ e) h3]
theorem LS.but{p:IB}{H H':Hp}{t kl:IB}{b:Int}{ks:IF Kd}(x:LS H t b ks kl)(n:kl≠p)(pt:PotC H p)(bt:But p H H'):LS H' t b ks kl:=by obtain⟨rs,h1,h2,h3⟩:=x;exact%[rs,bI bt pt h1,bt _ _ n h2|tG bt pt h3]
def LyC(H:Hp)(v:V)(q:Nat×Bool):Prop:=∃a,v=.ref a/\H a= ~~~[.int q.1,.bl q.2]
theorem LyC.keep{H H':Hp}(k:∀a xs,H a= ~~~xs->H' a= ~~~xs){v:V}{q:Nat×Bool}(h:LyC H v q):LyC H' v q:=by obtain⟨a,e,h⟩:=h;exact%[a,e|k _ _ h]
structure Pq where
 k:Nat
 c:Bool
 x:Int
 y:Int
def pqV(p:Pq):IF V:=[.int p.k,.bl p.c,.int p.x,.int p.y]
structure Bx where
 a:Int
 b:Int
 c:Int
 d:Int
def bxV(x:Bx):IF V:=[.int x.a,.int x.b,.int x.c,.int x.d]
def ky(k:Kd)(p:Pq):Bx:=%[p.x,p.y,p.x+sd1 k p.c|p.y+sd2 k p.c]
def apB(o r:Bx):Bool:=decide (o.c<=r.a) || decide (r.c<=o.a) || decide (o.d<=r.b) || decide (r.d<=o.b)
def Sq(H:Hp)(a:IB)(xs:IF V):Prop:=H a=↥xs\/H a= ~~~xs
theorem Sq.same{H H':Hp}{a:IB}{xs:IF V}(h:Sq H a xs)(s:Same H H'):Sq H' a xs:=h.imp (λ e=>s _ _ e) (λ e=>s _ _ e)
theorem ixS{K:C3}{H:Hp}{a:IB}{xs:IF V}{i:Int}{v:V}{R:VK}(h:Sq H a xs)(e:atI xs i=some v)(r:R v H):rIx K (.ref a) (.int i) H R :=
 h.elim (λ z=>.inl %[a,xs,i,v,Z,Z,GW z,e|r]) (λ z=>.inr (.inl %[a,xs,i,v,Z,Z,GV z,e|r]))
theorem cO{α β:Type}{R:α->β->Prop}:∀{xs:IF α}{ys:IF β}{xs':IF α}{ys':IF β},Paired R xs ys->Paired R xs' ys'->Paired R (xs ++ xs') (ys ++ ys')
 | _,_,_,_,.nil,h=>h
 | _,_,_,_,.cons a r,h=>.cons a (cO r h)
def ib(u:Int)(k:Kd):Prop:=Good k/\k.w<=6 * u/\k.h<=6 * u
section
variable{P:F5}{w:F7}{K:C3}{mg:Str->ID F8}{base:Heap}
inductive spShopC(vs:IF V)(H:Hp)(Q:VK)(E_:XK):Prop
|mk(p:IB)(u:Int)(_:vs=[.ref p,.int u])(_:PotC H p)(_:1<=u)(_:u < 2 * 10 ^ 56)(_:∀(t kl:IB)(b:Int)(ks:IF Kd)(H':Hp),LS H' t b ks kl->kl≠p->H kl=none->(∀k∈ks,ib u k)->1<=ks.length->ks.length<=8->0<=b->b<=2 * u->PotC H' p->But p H H'->Q (.ref t) H')
inductive spSidesC(vs:IF V)(H:Hp)(Q:VK)(E_:XK):Prop
|mk(t kl:IB)(b:Int)(ks:IF Kd)(i:Nat)(c:Bool)(k:Kd)(_:vs=[.ref t,.int i,.bl c])(_:LS H t b ks kl)(_:ks[i]?=some k)(_:∀(r:IB)(H':Hp),H' r= ~~~[.int (sd1 k c),.int (sd2 k c)]->Same H H'->Q (.ref r) H')
inductive spLyingsC(vs:IF V)(H:Hp)(Q:VK)(E_:XK):Prop
|mk(t kl:IB)(b:Int)(ks:IF Kd)(_:vs=[.ref t])(_:LS H t b ks kl)(_:ks.length<=8)(_:∀(l:IB)(ys:IF V)(H':Hp),H' l=↥ys->H l=none->Paired (LyC H') ys (lyK ks 0)->Same H H'->Q (.ref l) H')
inductive spBox(vs:IF V)(H:Hp)(Q:VK)(E_:XK):Prop
|mk(t kl a:IB)(b:Int)(ks:IF Kd)(p:Pq)(k:Kd)(_:vs=[.ref t,.ref a])(_:LS H t b ks kl)(_:Sq H a (pqV p))(_:ks[p.k]?=some k)(_:∀(r:IB)(H':Hp),H' r= ~~~(bxV (ky k p))->Same H H'->Q (.ref r) H')
inductive spApart(vs:IF V)(H:Hp)(Q:VK)(E_:XK):Prop
|mk(a1 a2:IB)(o r:Bx)(_:vs=[.ref a1,.ref a2])(_:H a1= ~~~(bxV o))(_:H a2= ~~~(bxV r))(_:Q (.bl (apB o r)) H)
theorem scshopc:FnScope ["_law_pot_here","_law_unit_here","_law_blade","_law_kinds","_law_k","_law_wide","_law_high"] ["_law_pot_here","_law_unit_here"] (defScope lS):=%[Z,Z,Z,∅,Z,∅|∅]
theorem pU{f:IB}{fd:F6}(F:Fun K "_law_shop" "_law_shop" lS f fd)(B:Blt mg)(DD:Dn P w K mg base "_law_take" ["_law_pot_here","_law_many"] 1 (spTake))(DSi:Dn P w K mg base "_law_side" ["_law_pot_here","_law_unit_here","_law_most"] 2 (spSideC))(DWo:Dn P w K mg base "_law_worth" ["_law_pot_here"] 2 (spWorthC)):FnOk P w K mg base CX0 3 f fd ["_law_pot_here","_law_unit_here"] (spShopC):=by
 apply F.ok scshopc (λ vs H Q E h=>?_) (λ cdv A outer s H vs Q E hr h=>?_)
 ·obtain⟨p,u,rfl,_⟩:=h
  rfl
 obtain⟨p,u,rfl,pt,u0,u1,q⟩:=h;have nd:=scshopc.nd;apply%[_,((2∣((@aS _ _ _ _ (ae^^^((pv 1)^^^((DD∩((pv 0)^^^(ae^^^ad)))^^^((DD∩((pv 0)^^^(((ae|||ce|||(pv 1))|||aK|||ae)^^^ad)))^^^ad)))))&&&ix_list&&&(DD∩((pv 0)^^^(ae^^^ad)))))<<<((3∣(@aS _ _ _ _ ad))<<<((@bp _ _ _ _ _ _ _ _ E2 Z (bY Z B.range ((ae|||aK|||(DD∩((pv 0)^^^(ae^^^ad))))^^^ad)) (aj (i:=4) nd Z (Or.inl Z)) ((5∣(DSi∪((pv 0)^^^((pv 1)^^^(ae^^^ad)))))<<<((6∣((@aS _ _ _ _ ((pv 5)^^^((DSi∪((pv 0)^^^((pv 1)^^^(ae^^^ad))))^^^ad)))&&&ix_list&&&(@bf _ _ _ _ _ _ _ _ _ cQ Z B.int IZ ((@aT _ _ _ _ _ _ _ _ fR (DD∩((pv 0)^^^(ae^^^ad))) ae (aF _))^^^ad) ∅ ∅ Z Z)))>>>(@bK _ _ _ _ (@dQ _ _ _ _ _ _ _ _ _ _ _ _ F3 PySem.F.slot_list_append PySem.F.type_list_append bM (pv 3) ((@aL _ _ _ _ _ ((pv 5)^^^((pv 6)^^^((DWo∪((pv 0)^^^ad))^^^((DWo∪((pv 0)^^^ad))^^^((@aT _ _ _ _ _ _ _ _ bF (DD∩((pv 0)^^^(ae^^^ad))) ae (aF _))^^^ad))))))^^^ad) Z Z Z Z Z) Z))) (by intro _;rfl))<<<((@aL _ _ _ _ _ ((pv 2)^^^((pv 3)^^^ad)))⁻¹))))|?_];have e60:(100:Int) < 10 ^ 60:=∅
 have e58:(10:Int) ^ 58 < 10 ^ 60:=∅
 have e57:2 * (2 * 10 ^ 56)+1 < (10:Int) ^ 60:=∅
 have sz:(100:Nat) < sizeLine:=∅
 apply ai (λ σ' H'=>∃b:Int,σ'=[↑p,⇑u,⇑b,none,none,none,none]/\0<=b/\b<=2 * u/\PotC H' p/\But p H H') (λ R hR=>?_) ?_
 ·apply%[_,Z,_,Z,p,3,Z,pt,∅,∅|λ r1 H1 r10 r11 pt1 b1=>%[_,Z,_,Z,_,_,Z,Z,.inl %[∅|∅],_,_,Z,Z,p,_,Z,pt1,⋯,⋯|λ r2 H2 r20 r21 pt2 b2=>%[zS4|λ l hl=>?_]]];obtain⟨H3,e3,k3,n3,s3,b3,pt3⟩:=bm (o:=.lst [.int 0,.int u,.int r1,.int r2]) (b1.trans b2) pt2 hl;rw[show upd H2 l _=H3 from e3];apply%[_,Z,p,4,Z,pt3,∅,∅|λ r H4 r0 r1' pt4 b4=>?_];have hl4:=b4 _ _ n3 k3;obtain⟨x,hx,x0,x1⟩:∃x:Int,atI [V.int 0,V.int u,V.int r1,V.int r2] r=⇑x/\0<=x/\x<=2 * u:=by
   have:r=0\/r=1\/r=2\/r=3:=⋯
   rcases this with rfl | rfl | rfl | rfl
   ·exact%[0,Z,∅|⋯]
   ·exact%[u,Z,⋯|⋯]
   ·exact%[r1,Z,r10|⋯]
   ·exact%[r2,Z,r20|⋯]
  exact%[l,_,_,_,Z,Z,GW hl4,hx|hR _ _ %[x,Z,x0,x1,pt4|b3.trans b4]]
 rintro _ H1 ⟨b,rfl,b0,b1',pt1,b1⟩;apply ai (λ σ' H'=>∃l:IB,σ'=[↑p,⇑u,⇑b,↑l,none,none,none]/\l≠p/\H1 l=none/\H' l=↥[]/\PotC H' p/\But p H H') (λ R hR=>?_) ?_
 ·apply%[∅|λ l hl=>?_];obtain⟨H2,e2,k2,n2,s2,b2,pt2⟩:=bm (o:=.lst []) b1 pt1 hl;rw[show upd H1 l _=H2 from e2];exact hR _ _ %[l,rfl,n2,hl,k2,pt2|b2]
 rintro _ H2 ⟨l,rfl,nlp,hl1,hl2,pt2,b2⟩;have hl0:H l=none:=(b1.freeC pt1 hl1).2;apply ai (λ σ' H'=>(∃(v4 v5 v6:ID V)(rs:IF V)(ks:IF Kd),σ'=[↑p,⇑u,⇑b,↑l,v4,v5,v6]/\H' l=↥rs/\Tups H' rs ks/\(∀k∈ks,ib u k)/\(1<=rs.length/\rs.length<=8)/\PotC H' p/\But p H H')) (λ R hR=>?_) ?_
 ·apply%[_,Z,p,8,Z,pt2,∅,∅|λ m H3 m0 m1 pt3 b3=>%[_,_,Z,Z,_,Z,⋯,⋯|?_]];apply cB (n:=(1+m).toNat) (λ i σ' H'=>(∃(v4 v5 v6:ID V)(rs:IF V)(ks:IF Kd),σ'=[↑p,⇑u,⇑b,↑l,v4,v5,v6]/\H' l=↥rs/\Tups H' rs ks/\(∀k∈ks,ib u k)/\rs.length=i/\PotC H' p/\But p H H')) %[_,_,_,[],[],rfl,b3 _ _ nlp hl2,.nil,λ k hk=>by simp at hk,rfl,pt3|b2.trans b3] ?_ ?_
  ·rintro i _ H4 hi ⟨v4,v5,v6,rs,ks,rfl,hl4,tp4,gk4,rl4,pt4,bt4⟩;apply%[_,Z,_,Z,p,u,6,Z,pt4,u0,u1,∅,∅|λ w1 H5 w0 wu w1' pt5 b5=>?_];apply%[_,Z,_,Z,_,Z,p,u,6,Z,pt5,u0,u1,∅,∅|λ h1 H6 h0 hu1 h1' pt6 b6=>%[zS2|λ l2 hl2'=>?_]];obtain⟨H7,e7,k7,n7,s7,b7,pt7⟩:=bm (o:=.lst [.int w1,.int h1]) (b5.trans b6) pt6 hl2';rw[show upd H6 l2 _=H7 from e7];apply%[_,Z,p,5,Z,pt7,∅,∅|λ z H8 z0 z1 pt8 b8=>%[_,_,Z,Z|.inr %[_,Z|?_]]];have l28:=b8 _ _ n7 k7;obtain⟨nn,hnn,nn0,nnu,nn1⟩:∃nn:Int,atI [V.int w1,V.int h1] (if decide (0 < z)=true then(1:Int)else 0)=⇑nn/\1<=nn/\nn<=6 * u/\nn < 10 ^ 58:=by
    by_cases c:(0:Int) < z
    ·exact%[h1,by rw[IL c];rfl,h0,hu1|h1']
    ·exact%[w1,by rw[IQ c];rfl,w0,wu|w1']
   apply%[l2,_,_,_,Z,Z,GW l28,hnn|?_];have b48:=b7.trans b8;have hl8:=b48 _ _ nlp hl4;apply%[_,Z,.inl %[Z,_|GW hl8],_,Z,_,Z,_,Z,p,Z,pt8|λ wo H9 wo0 wo1 pt9 b9=>?_];apply%[_,Z,p,Z,pt9|λ wa Ha wa0 wa1 pta ba=>?_];apply%[_,Z,p,2,Z,pta,∅,∅|λ tu Hb tu0 tu1 ptb bb=>%[Z,zS5|λ t ht=>?_]];have b4b:=b48.trans (b9.trans (ba.trans bb));obtain⟨H12,e12,k12,n12,s12,b12,pt12⟩:=bm (o:=.tup [.int w1,.int nn,.int wo,.int wa,.bl (decide (V.int tu=V.int 0))]) (bt4.trans b4b) ptb ht;rw[show upd Hb t _=H12 from e12];have k12:H12 t= ~~~(kdV %[w1,nn,wo,wa|decide (V.int tu=V.int 0)]):=k12;have hlc:=s12 _ _ (b4b _ _ nlp hl4);apply%[l,_,_,Z,Z,hlc,(by have:i < (1+m).toNat:=hi;omega)|?_];have kt:∀{c:IB}{xs:IF V},H12 c= ~~~xs->(upd H12 l (.lst (rs ++ [.ref t]))) c= ~~~xs:=λ {c xs} e=>by rw[aG (λ z=>by rw[z,hlc]at e;cases e)];exact e
   apply%[_,_,_,rs ++ [.ref t],ks ++ [%[w1,nn,wo,wa|decide (V.int tu=V.int 0)]],Z,upd_same,?_,λ k hk=>?_,by rw[G4,rl4];rfl,pt12.put (Ne.symm nlp)|λ c o n e=>?_]
   ·exact cO (Tups.keep (λ c xs e=>kt (s12 _ _ e)) (tG b4b pt4 tp4)) (.cons %[t,Z|kt k12] .nil)
   ·rcases C1.mp hk with hk | hk
    ·exact gk4 k hk
    ·rw[C9.mp hk];exact%[%[by show(1:Int)<=w1;omega,by show(1:Int)<=nn;omega,wo0,wa0,by show w1 < _;omega,by show nn < _;omega,wo1|wa1],wu|nnu]
   ·rw[aG (λ z=>by rw[z,hl0]at e;cases e)];exact b12 _ _ n e
  ·rintro _ H4 ⟨v4,v5,v6,rs,ks,rfl,hl4,tp4,gk4,rl4,pt4,bt4⟩;exact hR _ _ %[_,_,_,rs,ks,rfl,hl4,tp4,gk4,%[⋯|⋯],pt4|bt4]
 rintro _ H3 ⟨v4,v5,v6,rs,ks,rfl,hl3,tp3,gk3,⟨r1,r8⟩,pt3,bt3⟩;apply%[_,Z,_,Z,zS2|λ t ht=>?_];obtain⟨H6,e6,k6,n6,s6,b6,pt6⟩:=bm (o:=.tup [.int b,.ref l]) bt3 pt3 ht;rw[show upd H3 t _=H6 from e6];have rl:=E1 tp3;exact q t l b ks H6 %[rs,k6,s6 _ _ hl3|Tups.keep (λ c xs e=>s6 _ _ e) tp3] nlp hl0 gk3 ⋯ ⋯ b0 b1' pt6 b6
theorem scsidesc:FnScope ["_law_shop_here","_law_kind","_law_turned","_law_wide","_law_high"] ["_law_shop_here","_law_kind","_law_turned"] (defScope iI):=%[Z,Z,Z,∅,Z,∅|∅]
theorem mR{f:IB}{fd:F6}(F:Fun K "_law_sides" "_law_sides" iI f fd)(B:Blt mg):FnOk P w K mg base CX0 1 f fd ["_law_shop_here","_law_kind","_law_turned"] (spSidesC):=by
 apply F.ok scsidesc (λ vs H Q E h=>?_) (λ cdv A outer s H vs Q E hr h=>?_)
 ·obtain⟨t,kl,b,ks,i,c,k,rfl,_⟩:=h
  rfl
 obtain⟨t,kl,b,ks,i,c,k,rfl,sh,hi,q⟩:=h;have nd:=scsidesc.nd;apply%[_,((@bz _ _ _ _ _ _ (@cR _ _ _ _ _ _ _ _ _ _ oV (((pv 0)&&&ix_tup&&&ae)&&&ix_list&&&(pv 1)) ez (cX ae)) (bc Z (3•(4•aQ))) Z Z Z)<<<(((@aS _ _ _ _ ((@aL _ _ _ _ _ ((pv 3)^^^((pv 4)^^^ad)))^^^((@aL _ _ _ _ _ ((pv 4)^^^((pv 3)^^^ad)))^^^ad)))&&&ix_list&&&(@bf _ _ _ _ _ _ _ _ _ cQ Z B.int IZ ((pv 2)^^^ad) ∅ ∅ Z Z))⁻¹))|?_];have sz:(100:Nat) < sizeLine:=∅
 obtain⟨rs,h1,h2,h3⟩:=id sh;obtain⟨vv,hvv,ak,rfl,hak⟩:=Paired.getL h3 hi;have hak:H ak= ~~~[.int k.w,.int k.h,.int k.wo,.int k.wa,.bl k.tu]:=hak;have hat:atI rs (i:Int)=↑ak:=cy ⋯ (by rw[HN];exact hvv);apply ai (λ σ' H'=>σ'=[↑t,⇑i,some (.bl c),⇑k.w,⇑k.h]/\Same H H') (λ R hR=>?_) ?_
 ·apply%[_,Z,t,_,1,_,Z,Z,GV h1,Z,_,Z,kl,_,_,_,Z,Z,GW h2,hat,_,Z,ak,_,Z,GV hak,(λ z=>absurd z.2 (show¬ HT.sIx 5 5 (some 2)=5 by decide))|λ a ha=>?_];obtain⟨H1,e1,k1,s1⟩:∃H',upd H a (.tup (cr [.int k.w,.int k.h,.int k.wo,.int k.wa,.bl k.tu] none (some 2)))=H'/\H' a= ~~~(cr [.int k.w,.int k.h,.int k.wo,.int k.wa,.bl k.tu] none (some 2))/\Same H H':=%[_,Z,upd_same|F9 ha]
  rw[show upd H a _=H1 from e1];exact%[a,_,Z,GV (show H1 a= ~~~[.int k.w,.int k.h]from k1),Z,_,_,Z,_,_,Z,Z|hR _ _ %[Z|s1]]
 rintro _ H1 ⟨rfl,s1⟩;apply%[_,Z,_,Z,zS2|λ a ha=>?_];obtain⟨H2,e2,k2,s2⟩:∃H',upd H1 a (.tup [.int k.w,.int k.h])=H'/\H' a= ~~~[.int k.w,.int k.h]/\Same H1 H':=%[_,Z,upd_same|F9 ha]
 rw[show upd H1 a _=H2 from e2];apply%[_,Z,_,Z,zS2|λ a2 ha2=>?_];obtain⟨H3,e3,k3,s3⟩:∃H',upd H2 a2 (.tup [.int k.h,.int k.w])=H'/\H' a2= ~~~[.int k.h,.int k.w]/\Same H2 H':=%[_,Z,upd_same|F9 ha2]
 rw[show upd H2 a2 _=H3 from e3];apply%[zS2|λ l hl=>?_];obtain⟨H4,e4,k4,s4⟩:∃H',upd H3 l (.lst [.ref a,.ref a2])=H'/\H' l=↥[.ref a,.ref a2]/\Same H3 H':=%[_,Z,upd_same|F9 hl]
 rw[show upd H3 l _=H4 from e4];apply%[_,Z|.inr %[_,Z|?_]];cases c with
 | true=>exact%[l,_,_,_,Z,Z,GW k4,Z|q a2 H4 (s4 _ _ k3) (s1.trans (s2.trans (s3.trans s4)))]
 | false=>exact%[l,_,_,_,Z,Z,GW k4,Z|q a H4 (s4 _ _ (s3 _ _ k2)) (s1.trans (s2.trans (s3.trans s4)))]
theorem sclyingsc:FnScope ["_law_shop_here","_law_found","_law_k","_law_kind"] ["_law_shop_here"] (defScope fH):=%[Z,Z,Z,∅,Z,∅|∅]
theorem kA{f:IB}{fd:F6}(F:Fun K "_law_lyings" "_law_lyings" fH f fd)(B:Blt mg):FnOk P w K mg base CX0 1 f fd ["_law_shop_here"] (spLyingsC):=by
 apply F.ok sclyingsc (λ vs H Q E h=>?_) (λ cdv A outer s H vs Q E hr h=>?_)
 ·obtain⟨t,kl,b,ks,rfl,_⟩:=h
  rfl
 obtain⟨t,kl,b,ks,rfl,sh,k8,q⟩:=h;have nd:=sclyingsc.nd;apply%[_,((1∣(@aS _ _ _ _ ad))<<<((@bp _ _ _ _ _ _ _ _ E2 Z (lG Z B.enumerate (((pv 0)&&&ix_tup&&&ae)^^^ad)) (bc Z (2•(3•aQ))) ((@bK _ _ _ _ (@dQ _ _ _ _ _ _ _ _ _ _ _ _ F3 PySem.F.slot_list_append PySem.F.type_list_append bM (pv 1) ((@aL _ _ _ _ _ ((pv 2)^^^(bd^^^ad)))^^^ad) Z Z Z Z Z) Z)>>>((PW.pt (dX (@aN _ _ _ ((pv 3)&&&ix_tup&&&ae) (by intro _;rfl)) (cW (((pv 3)&&&ix_tup&&&ae)<*>fi<*>((pv 3)&&&ix_tup&&&ae)))))<|>(@ah _ _ _ (@bK _ _ _ _ (@dQ _ _ _ _ _ _ _ _ _ _ _ _ F3 PySem.F.slot_list_append PySem.F.type_list_append bM (pv 1) ((@aL _ _ _ _ _ ((pv 2)^^^(bd^^^ad)))^^^ad) Z Z Z Z Z) Z))<|>aE)) (by intro _;rfl))<<<((pv 1)⁻¹)))|?_];have sz:(100:Nat) < sizeLine:=∅
 obtain⟨rs,h1,h2,h3⟩:=id sh;have rl:=E1 h3;apply ai (λ σ' H'=>∃l:IB,σ'=[↑t,↑l,none,none]/\H l=none/\H' l=↥[]/\Same H H') (λ R hR=>?_) ?_
 ·apply%[∅|λ l hl=>?_];obtain⟨H1,e1,k1,s1⟩:∃H',upd H l (.lst [])=H'/\H' l=↥[]/\Same H H':=%[_,Z,upd_same|F9 hl]
  rw[show upd H l _=H1 from e1];exact hR _ _ %[l,rfl,hl,k1|s1]
 rintro _ H1 ⟨l,rfl,hl,hl1,s1⟩;have nkl:kl≠l:=aw h2 hl;apply ai (λ σ' H'=>(∃v2 v3:ID V,σ'=[↑t,↑l,v2,v3])/\(∃ys,H' l=↥ys/\Paired (LyC H') ys (lyK ks 0))/\But l H1 H') (λ R hR=>?_) ?_
 ·apply%[_,Z,t,_,1,_,Z,Z,GV (s1 _ _ h1),Z,kl,rs,Z|.inl %[s1 _ _ h2|jj (f:=.lst) (λ _ _ e=>by cases e;rfl) (l:=kl) (xs:=rs) (λ i σ' H'=>(∃(v2 v3:ID V)(ys:IF V),σ'=[↑t,↑l,v2,v3]/\H' l=↥ys/\Paired (LyC H') ys (lyK (ks.take i) 0)/\But l H1 H')) %[_,_,[],Z,hl1,.nil|λ _ _ _ e=>e] (λ i σ Hx ⟨v2,v3,ys,_,_,_,b⟩=>b _ _ nkl (s1 _ _ h2)) ?_ (λ σ Hx ⟨v2,v3,ys,e,hy,py,b⟩=>hR _ _ %[%[v2,v3|e],%[ys,hy|by rw[rl,HC]at py;exact py]|b])]];rintro i x pp σ H2 hx hp ⟨v2,v3,ys,rfl,l2,py,b2⟩;obtain⟨k,hk',ka,rfl,hka⟩:=GY h3 hx;have hin:i < rs.length:=(A5.mp hx).1;obtain⟨H3,e3,k3,s3⟩:∃H',upd H2 pp (.tup [.int i,.ref ka])=H'/\H' pp= ~~~[.int i,.ref ka]/\Same H2 H':=%[_,Z,upd_same|F9 hp]
  rw[show upd H2 pp _=H3 from e3];have nka:ka≠l:=aw hka hl;have ka3:H3 ka= ~~~[.int k.w,.int k.h,.int k.wo,.int k.wa,.bl k.tu]:=s3 _ _ (b2 _ _ nka (s1 _ _ hka));have yl:=E1 py;have yl2:=eF (ks.take i) 0;rw[G5]at yl2;have lt:lyK (ks.take (i+1)) 0=lyK (ks.take i) 0 ++ lyT i k:=by rw[HA,hk'];show lyK (ks.take i ++ [k]) 0=_;rw[jk,G5,Nat.zero_add,Hu ⋯]
  apply%[pp,_,Z,GV k3,Z,_,_,Z,_,_,Z,Z|?_];have app:∀(Hx:Hp)(a:IB)(zs:IF V)(q:Nat×Bool)(L:IF (Nat×Bool)),Hx l=↥zs->Paired (LyC Hx) zs L->Hx a= ~~~[.int q.1,.bl q.2]->But l H1 Hx->Paired (LyC (upd Hx l (.lst (zs ++ [.ref a])))) (zs ++ [.ref a]) (L ++ [q])/\But l H1 (upd Hx l (.lst (zs ++ [.ref a]))):=λ Hx a zs q L hx pz ha bx=>by
   have kt:∀c xs,Hx c= ~~~xs->(upd Hx l (.lst (zs ++ [.ref a]))) c= ~~~xs:=λ c xs e=>by rw[aG (λ z=>by rw[z,hx]at e;cases e)];exact e
   exact%[cO (GX pz λ v q h=>h.keep kt) (.cons %[a,Z|kt _ _ ha] .nil)|λ c o n e=>by rw[aG n];exact bx _ _ n e]
  apply ai (λ σ' H'=>σ'=[↑t,↑l,⇑i,↑ka]/\(∃ys,H' l=↥ys/\ys.length<=2 * i+1/\Paired (LyC H') ys (lyK (ks.take i) 0 ++ [(i,false)]))/\But l H1 H') (λ R hR=>?_) ?_
  ·apply%[_,Z,.inl %[Z,_|GW (s3 _ _ l2)],_,Z,zS2|λ a ha=>?_];obtain⟨H4,e4,k4,s4⟩:∃H',upd H3 a (.tup [.int i,.bl false])=H'/\H' a= ~~~[.int i,.bl false]/\Same H3 H':=%[_,Z,upd_same|F9 ha]
   rw[show upd H3 a _=H4 from e4];have l4:=s4 _ _ (s3 _ _ l2);obtain⟨a1,a2⟩:=app H4 a ys (i,false) _ l4 (GX py λ v q h=>h.keep λ c xs e=>s4 _ _ (s3 _ _ e)) k4 (λ c o n e=>s4 _ _ (s3 _ _ (b2 _ _ n e)));exact%[l,_,_,Z,Z,l4,⋯|hR _ _ %[Z,%[_,upd_same,by rw[G4];show ys.length+1<=_;omega|a1]|a2]]
  rintro _ H4 ⟨rfl,⟨zs,l4,zl,py4⟩,b4⟩;have ka4:H4 ka= ~~~[.int k.w,.int k.h,.int k.wo,.int k.wa,.bl k.tu]:=b4 _ _ nka (s1 _ _ hka);have no:aY k=false->(∃(v2 v3:ID V)(ys:IF V),([↑t,↑l,⇑i,↑ka]:St)=[↑t,↑l,v2,v3]/\H4 l=↥ys/\Paired (LyC H4) ys (lyK (ks.take (i+1)) 0)/\But l H1 H4):=λ ht=>%[_,_,zs,Z,l4,by rw[lt];unfold lyT;rw[ht];exact py4|b4]
  apply%[_,Z,ka,_,4,_,Z,Z,GV ka4,Z,_,Z|?_];cases htu:k.tu with
  | false=>exact aU (no (by unfold aY;rw[htu];rfl))
  | true=>
   apply br %[_,rfl,ka,_,0,_,rfl,rfl,GV ka4,rfl,_,rfl,ka,_,1,_,rfl,rfl,GV ka4,rfl,rfl,_,rfl|?_]
   by_cases hwh:k.w=k.h
   ·rw[show(!decide (V.int k.w=V.int k.h))=false by rw[IL (by rw[hwh])];rfl];exact aU (no (by unfold aY;rw[IL hwh];simp))
   ·rw[show(!decide (V.int k.w=V.int k.h))=true by rw[IQ (λ z=>hwh (V.int.inj z))];rfl];have ht:aY k=true:=by unfold aY;rw[htu,IQ hwh];rfl
    apply br %[_,rfl,.inl %[rfl,_|GW l4],_,rfl,zS2|λ a ha=>?_];obtain⟨H5,e5,k5,s5⟩:∃H',upd H4 a (.tup [.int i,.bl true])=H'/\H' a= ~~~[.int i,.bl true]/\Same H4 H':=%[_,Z,upd_same|F9 ha]
    rw[show upd H4 a _=H5 from e5];have l5:=s5 _ _ l4;obtain⟨a1,a2⟩:=app H5 a zs (i,true) _ l5 (GX py4 λ v q h=>h.keep λ c xs e=>s5 _ _ e) k5 (λ c o n e=>s5 _ _ (b4 _ _ n e));exact%[l,_,_,Z,Z,l5,⋯,_,_,_,Z,upd_same,by rw[lt];unfold lyT;rw[IP ht];rw[List.append_assoc]at a1;exact a1|a2]
 rintro _ H2 ⟨⟨v2,v3,rfl⟩,⟨ys,hy,py⟩,b2⟩;exact%[_,Z|q l ys H2 hy hl py (λ c o e=>b2 _ _ (aw e hl) (s1 _ _ e))]
theorem scbox:FnScope ["_law_shop_here","_law_piece","_law_own"] ["_law_shop_here","_law_piece"] (defScope rH):=%[Z,Z,Z,∅,Z,∅|∅]
theorem uz{f:IB}{fd:F6}(F:Fun K "_law_box" "_law_box" rH f fd)(B:Blt mg)(DSd:Dn P w K mg base "_law_sides" ["_law_shop_here","_law_kind","_law_turned"] 1 (spSidesC)):FnOk P w K mg base CX0 2 f fd ["_law_shop_here","_law_piece"] (spBox):=by
 apply F.ok scbox (λ vs H Q E h=>?_) (λ cdv A outer s H vs Q E hr h=>?_)
 ·obtain⟨t,kl,a,b,ks,p,k,rfl,_⟩:=h
  rfl
 obtain⟨t,kl,a,b,ks,p,k,rfl,sh,hp,hk,q⟩:=h;have nd:=scbox.nd;apply%[_,((2∣(DSd∪((pv 0)^^^(((pv 1)&&&cM&&&ae)^^^(((pv 1)&&&cM&&&ae)^^^ad)))))<<<((@aL _ _ _ _ _ (((pv 1)&&&cM&&&ae)^^^(((pv 1)&&&cM&&&ae)^^^((((pv 1)&&&cM&&&ae)|||aK|||((pv 2)&&&ix_tup&&&ae))^^^((((pv 1)&&&cM&&&ae)|||aK|||((pv 2)&&&ix_tup&&&ae))^^^ad)))))⁻¹))|?_];have SS:Sq H a (pqV p):=hp;apply ai (λ σ' H'=>∃o:IB,σ'=[↑t,↑a,↑o]/\H' o= ~~~[.int (sd1 k p.c),.int (sd2 k p.c)]/\Same H H') (λ R hR=>?_) ?_
 ·exact%[_,Z,_,Z|ixS SS rfl %[_,Z|ixS SS rfl %[t,kl,b,ks,p.k,p.c,k,Z,sh,hk|λ r H1 h1 s1=>hR _ _ %[r,Z,h1|s1]]]]
 rintro _ H1 ⟨o,rfl,ho,s1⟩;have S1:=SS.same s1;apply%[_,Z|ixS S1 rfl %[_,Z|ixS S1 rfl %[_,Z|ixS S1 rfl %[_,Z,o,_,0,_,Z,Z,GV ho,Z,_,_,Z,Z,_,Z|ixS S1 rfl %[_,Z,o,_,1,_,Z,Z,GV ho,Z,_,_,Z,Z,zS4|λ r hr'=>?_]]]]];obtain⟨H2,e2,k2,s2⟩:∃H',upd H1 r (.tup [.int p.x,.int p.y,.int (p.x+sd1 k p.c),.int (p.y+sd2 k p.c)])=H'/\H' r= ~~~[.int p.x,.int p.y,.int (p.x+sd1 k p.c),.int (p.y+sd2 k p.c)]/\Same H1 H':=%[_,Z,upd_same|F9 hr']
 rw[show upd H1 r _=H2 from e2];exact q r H2 k2 (s1.trans s2)
theorem scapart:FnScope ["_law_one","_law_other"] ["_law_one","_law_other"] (defScope iK):=%[Z,Z,Z,∅,Z,∅|∅]
theorem pV{f:IB}{fd:F6}(F:Fun K "_law_apart" "_law_apart" iK f fd) : FnOk P w K mg base CX0 1 f fd ["_law_one","_law_other"] (spApart):=by
 apply F.ok scapart (λ vs H Q E h=>?_) (λ cdv A outer s H vs Q E hr h=>?_)
 ·obtain⟨a1,a2,o,r,rfl,_⟩:=h
  rfl
 obtain⟨a1,a2,o,r,rfl,h1,h2,q⟩:=h;have nd:=scapart.nd;apply%[_,((li (@aT _ _ _ _ _ _ _ _ dj ((pv 0)&&&ix_tup&&&ae) ((pv 1)&&&ix_tup&&&ae) (aF _)) (li (@aT _ _ _ _ _ _ _ _ dj ((pv 1)&&&ix_tup&&&ae) ((pv 0)&&&ix_tup&&&ae) (aF _)) (li (@aT _ _ _ _ _ _ _ _ dj ((pv 0)&&&ix_tup&&&ae) ((pv 1)&&&ix_tup&&&ae) (aF _)) (bX (@aT _ _ _ _ _ _ _ _ dj ((pv 1)&&&ix_tup&&&ae) ((pv 0)&&&ix_tup&&&ae) (aF _))))))⁻¹)|?_];unfold apB at q;have tru:∀{z:Bool},z=true->z=true:=λ h=>h;apply%[_,Z,a1,_,2,_,Z,Z,GV h1,Z,_,Z,a2,_,0,_,Z,Z,GV h2,Z,_,_,Z,Z,_,Z|?_];apply bv (λ c1=>?_) (λ c1=>?_)
 ·rw[c1]at q;exact q
 rw[show decide (o.c<=r.a)=false by simpa using c1]at q;apply%[_,Z,a2,_,2,_,Z,Z,GV h2,Z,_,Z,a1,_,0,_,Z,Z,GV h1,Z,_,_,Z,Z,_,Z|?_];apply bv (λ c2=>?_) (λ c2=>?_)
 ·rw[c2]at q;exact q
 rw[show decide (r.c<=o.a)=false by simpa using c2]at q;apply%[_,Z,a1,_,3,_,Z,Z,GV h1,Z,_,Z,a2,_,1,_,Z,Z,GV h2,Z,_,_,Z,Z,_,Z|?_];apply bv (λ c3=>?_) (λ c3=>?_)
 ·rw[c3]at q;exact q
 rw[show decide (o.d<=r.b)=false by simpa using c3]at q;exact%[_,Z,a2,_,3,_,Z,Z,GV h2,Z,_,Z,a1,_,1,_,Z,Z,GV h1,Z,_,_,Z,Z|q]
end
def kB(ks:IF Kd)(w h:Int):PyData->PyData->PyData->PyData->Bool
 | .int i,.bool c,.int x,.int y=>eL ks w h (.int i) (.bl c) (.int x) (.int y)
 | _,_,_,_=>false
theorem Dts.one{p:IB}{H:Hp}{xs:IF V}{ds:IF PyData}{n:Nat}(h:Dts p H xs ds)(hl:ds.length=n+1):∃x d xs' ds',xs=x :: xs'/\ds=d :: ds'/\Dt p H x d/\Dts p H xs' ds'/\ds'.length=n:=by
 cases h with
 | nil=>cases hl
 | cons a r=>exact%[_,_,_,_,Z,Z,a,r|Nat.succ.inj hl]
theorem Dts.zero{p:IB}{H:Hp}{xs:IF V}{ds:IF PyData}(h:Dts p H xs ds)(hl:ds.length=0):xs=[]/\ds=[]:=by
 cases h with
 | nil=>exact%[Z|Z]
 | cons a r=>cases hl
theorem Dts.four{p:IB}{H:Hp}{xs:IF V}{ds:IF PyData}(h:Dts p H xs ds)(hl:ds.length=4):∃x1 x2 x3 x4 d1 d2 d3 d4,xs=[x1,x2,x3,x4]/\ds=[d1,d2,d3,d4]/\Dt p H x1 d1/\Dt p H x2 d2/\Dt p H x3 d3/\Dt p H x4 d4:=by obtain⟨x1,d1,xs,ds,rfl,rfl,h1,h,hl⟩:=h.one hl;obtain⟨x2,d2,xs,ds,rfl,rfl,h2,h,hl⟩:=h.one hl;obtain⟨x3,d3,xs,ds,rfl,rfl,h3,h,hl⟩:=h.one hl;obtain⟨x4,d4,xs,ds,rfl,rfl,h4,h,hl⟩:=h.one hl;obtain⟨rfl,rfl⟩:=h.zero hl;exact%[_,_,_,_,_,_,_,_,Z,Z,h1,h2,h3|h4]
theorem cV{C:IB}{H H':Hp}{s:IB}{b:Int}{ks:IF Kd}(k:Same H H')(h:ShopAt C H s b ks):ShopAt C H' s b ks:=h.keep (λ c o e=>k _ _ e) (λ c C' d fs e=>k _ _ e)
def aD(ks:IF Kd)(p:Pq):Bx:=match ks[p.k]? with
 | some k=>ky k p
 | none=>%[0,0,0|0]
theorem aW{ks:IF Kd}{p:Pq}{k:Kd}(h:ks[p.k]?=some k):aD ks p=ky k p:=by unfold aD;rw[h]
def onB(ks:IF Kd)(W h:Int)(p:Pq):Bool:=!(decide (W < (aD ks p).c) || decide (h < (aD ks p).d))
def dS(ks:IF Kd)(W h:Int)(ps:IF Pq)(p:Pq):Bool:=onB ks W h p && (ps.map λ o=>apB (aD ks p) (aD ks o)).all id
def PqS(ks:IF Kd)(H:Hp)(v:V)(q:Pq):Prop:=∃a k,v=.ref a/\Sq H a (pqV q)/\ks[q.k]?=some k
theorem PqS.same{ks:IF Kd}{H H':Hp}(s:Same H H'){v:V}{q:Pq}(h:PqS ks H v q):PqS ks H' v q:=by obtain⟨a,k,e,h1,h2⟩:=h;exact%[a,k,e,h1.same s|h2]
def cq(ks:IF Kd)(w h:Int)(d:PyData):Bool:=match bW d with
 | some [k,t,x,y]=>kB ks w h k t x y
 | _=>false
theorem uA(k:Kd)(c:Bool):iM k c=[V.int (sd1 k c),V.int (sd2 k c)]:=by unfold iM sd1 sd2;cases c <;> rfl
section
variable{P:F5}{w:F7}{K:C3}{mg:Str->ID F8}{base:Heap}
inductive spFitsC(vs:IF V)(H:Hp)(Q:VK)(E_:XK):Prop
|mk(t kl pl a:IB)(b W h:Int)(ks:IF Kd)(ys:IF V)(ps:IF Pq)(p:Pq)(k:Kd)(_:vs=[.ref t,.int W,.int h,.ref pl,.ref a])(_:LS H t b ks kl)(_:H pl=↥ys)(_:Paired (PqS ks H) ys ps)(_:ys.length<=100)(_:Sq H a (pqV p))(_:ks[p.k]?=some k)(_:∀H',Same H H'->Q (.bl (dS ks W h ps p)) H')
inductive spMeet(vs:IF V)(H:Hp)(Q:VK)(E_:XK):Prop
|mk(a1 a2:IB)(i j k l:Int)(_:vs=[.ref a1,.ref a2])(_:H a1= ~~~[.int i,.int j])(_:H a2= ~~~[.int k,.int l])(_:Q (.bl (decide (i < l) && decide (k < j))) H)
inductive spSpans(C:IB)(vs:IF V)(H:Hp)(Q:VK)(E_:XK):Prop
|mk(s a:IB)(b:Int)(ks:IF Kd)(p:Pq)(k:Kd)(_:vs=[.ref s,.ref a])(_:ShopAt C H s b ks)(_:Sq H a (pqV p))(_:cx ks (.int p.k) (.bl p.c)=true)(_:ks[p.k]?=some k)(_:∀(r r1 r2:IB)(H':Hp),H' r= ~~~[.ref r1,.ref r2]->H' r1= ~~~[.int p.x,.int (p.x+sd1 k p.c)]->H' r2= ~~~[.int p.y,.int (p.y+sd2 k p.c)]->Same H H'->Q (.ref r) H')
inductive spPlaced(C:IB)(vs:IF V)(H:Hp)(Q:VK)(E_:XK):Prop
|mk(pp s:IB)(b w h:Int)(ks:IF Kd)(v:V)(d:PyData)(_:vs=[.ref s,.int w,.int h,v])(_:ShopAt C H s b ks)(_:Dt pp H v d)(_:∀H',Same H H'->Q (.bl (cq ks w h d)) H')
theorem scfitsc:FnScope ["_law_shop_here","_law_wide","_law_high","_law_pieces_here","_law_piece","_law_box_here"] ["_law_shop_here","_law_wide","_law_high","_law_pieces_here","_law_piece"] (defScope ju):=%[Z,Z,Z,∅,Z,∅|∅]
theorem pW{f:IB}{fd:F6}(F:Fun K "_law_fits" "_law_fits" ju f fd)(B:Blt mg)(DBx:Dn P w K mg base "_law_box" ["_law_shop_here","_law_piece"] 2 (spBox))(DAp:Dn P w K mg base "_law_apart" ["_law_one","_law_other"] 1 (spApart)):FnOk P w K mg base CX0 3 f fd ["_law_shop_here","_law_wide","_law_high","_law_pieces_here","_law_piece"] (spFitsC):=by
 apply F.ok scfitsc (λ vs H Q E h=>?_) (λ cdv A outer s H vs Q E hr h=>?_)
 ·obtain⟨t,kl,pl,a,b,W,h1,ks,ys,ps,p,k,rfl,_⟩:=h
  rfl
 obtain⟨t,kl,pl,a,b,W,h1,ks,ys,ps,p,k,rfl,sh,hpl,py,y100,hp,hk,q⟩:=h;have nd:=scfitsc.nd;apply%[_,((@aI _ _ 5 _ _ _ _ nd Z (Or.inr Z) (DBx∪((pv 0)^^^((pv 4)^^^ad))) Z (Or.inl Z))<<<(((PW.pt (bC (((pv 5)&&&ix_tup&&&ae)<*>fR<*>(pv 1)) (bG (((pv 5)&&&ix_tup&&&ae)<*>fR<*>(pv 2)))))<|>(bd⁻¹)<|>aE)<<<((@aA _ _ _ _ _ _ _ _ _ (eZ Z) Z B.all PyProof.Rows.boot_all ((cu (own:=["_law_other"]) (cs:=["_law_shop_here","_law_box_here"]) (cap:=[0,5]) Z (bh (pv 3)) (aR (sc:=defScope ju) (N:=["_law_shop_here","_law_wide","_law_high","_law_pieces_here","_law_piece","_law_box_here"]) Z Z ∅) (λ _ _ _ _ _=>aj (i:=0) (by show List.Nodup (["_law_other","_law_shop_here","_law_box_here"]:IF Str) ;decide +kernel) Z (Or.inl Z) (Or.inr Z)) (λ _ _ _ _ _=>bi) (λ _ _ _ _ _=>(DAp∩((pv 2)^^^((DBx∪((pv 1)^^^((pv 0)^^^ad)))^^^ad)))))^^^ad) ∅ ∅ Z Z)⁻¹)))|?_];have sz:(1000:Nat) < sizeLine:=∅
 have eb:=aW hk;have yl:=E1 py;apply ai (λ σ' H'=>∃r:IB,σ'=[↑t,⇑W,⇑h1,↑pl,↑a,↑r]/\H' r= ~~~(bxV (aD ks p))/\Same H H') (λ R hR=>?_) ?_
 ·exact%[_,Z,_,Z,t,kl,a,b,ks,p,k,Z,sh,hp,hk|λ r H1 h1 s1=>hR _ _ %[r,Z,by rw[eb];exact h1|s1]]
 rintro _ H1 ⟨r,rfl,hr1,s1⟩;apply ai (λ σ' H'=>σ'=[↑t,⇑W,⇑h1,↑pl,↑a,↑r]/\H1=H'/\onB ks W h1 p=true) (λ R hR=>?_) ?_
 ·apply%[_,Z,r,_,2,_,Z,Z,GV hr1,Z,_,Z,_,_,Z,Z,_,Z|?_];apply bv (λ c1=>?_) (λ c1=>?_)
  ·have:=q H1 s1;rw[show dS ks W h1 ps p=false by unfold dS onB;rw[show decide (W < (aD ks p).c)=true from c1];rfl]at this;exact this
  ·apply%[_,Z,r,_,3,_,Z,Z,GV hr1,Z,_,Z,_,_,Z,Z,_,Z|?_];apply bv (λ c2=>?_) (λ c2=>?_)
   ·have:=q H1 s1;rw[show dS ks W h1 ps p=false by unfold dS onB;rw[show decide (h1 < (aD ks p).d)=true from c2,Bool.or_true];rfl]at this;exact this
   ·exact hR _ _ %[rfl,rfl|by unfold onB;rw[show decide (W < (aD ks p).c)=false by simpa using c1,show decide (h1 < (aD ks p).d)=false by simpa using c2];rfl]
 rintro _ _ ⟨rfl,rfl,on⟩;have hpl1:=s1 _ _ hpl;apply%[_,Z,pl,Z,%[_|GW hpl1]|(bJ (K:=K) (.inl hpl1) (λ i us Hx=>Same H1 Hx/\us=((ps.take i).map λ o=>apB (aD ks p) (aD ks o)).map V.bl) (λ i us Hx _ ⟨sx,_⟩ o e=>sx _ _ e) %[Same.refl _|Z] ?_ ?_).1 hpl1]
 ·rintro i x us Hx hi ⟨sx,rfl⟩;have hin:i < ys.length:=(A5.mp hi).1;obtain⟨o,ho,ao,ko,rfl,hao,hko⟩:=GY py hi;have s0x:=s1.trans sx;apply%[by rw[GZ,GZ,G5];omega,leS.set rfl|bj ?_];apply%[_,Z,_,Z,_,Z,t,kl,ao,b,ks,o,ko,Z,sh.same s0x,hao.same s0x,hko|λ r2 H3 h2 s3=>%[r,r2,_,_,Z,s3 _ _ (sx _ _ hr1),h2|Nx.of hin %[sx.trans s3|?_]]];rw[HA,ho,<- aW hko];simp only[HS,HB,G9,Hv]
 ·rintro us Hx ⟨sx,rfl⟩;rw[yl,HC];apply%[by rw[GZ,GZ];omega|λ l hl=>%[l,_,Z,GW upd_same|?_]];have:=q _ (s1.trans (sx.trans (F9 hl (o:=.lst ((ps.map λ o=>apB (aD ks p) (aD ks o)).map V.bl)))));unfold dS at this;rw[on,Bool.true_and]at this;exact this
theorem scmeet:FnScope ["one","other"] ["one","other"] (defScope lN):=%[Z,Z,Z,∅,Z,∅|∅]
theorem rR{f:IB}{fd:F6}(F:Fun K "meet" "meet" lN f fd) : FnOk P w K mg base CX0 1 f fd ["one","other"] (spMeet):=by
 apply F.ok scmeet (λ vs H Q E h=>?_) (λ cdv A outer s H vs Q E hr h=>?_)
 ·obtain⟨a1,a2,i,j,k,l,rfl,_⟩:=h
  rfl
 obtain⟨a1,a2,i,j,k,l,rfl,h1,h2,q⟩:=h;have nd:=scmeet.nd;apply%[_,((bH (@aT _ _ _ _ _ _ _ _ fQ ((pv 0)&&&ix_tup&&&ae) ((pv 1)&&&ix_tup&&&ae) (aF _)) (bX (@aT _ _ _ _ _ _ _ _ fQ ((pv 1)&&&ix_tup&&&ae) ((pv 0)&&&ix_tup&&&ae) (aF _))))⁻¹)|?_];apply%[_,Z,a1,_,0,_,Z,Z,GV h1,Z,_,Z,a2,_,1,_,Z,Z,GV h2,Z,_,_,Z,Z,_,Z|?_];apply bv (λ c=>?_) (λ c=>?_)
 ·rw[show decide (i < l)=true from c]at q;exact%[_,Z,a2,_,0,_,Z,Z,GV h2,Z,_,Z,a1,_,1,_,Z,Z,GV h1,Z,_,_,Z,Z|q]
 ·rw[show decide (i < l)=false by simpa using c]at q;exact q
theorem scspans:FnScope ["shop","piece","kind","turned","x","y","wide","high"] ["shop","piece"] (defScope eJ):=%[Z,Z,Z,∅,Z,∅|∅]
theorem pX{f C:IB}{fd:F6}(F:Fun K "spans_of" "spans_of" eJ f fd)(T:ShopTxt K C)(MS:Mn P w K mg base C "sides" ["self","kind","turned"] 3 (spSides K C)):FnOk P w K mg base CX0 4 f fd ["shop","piece"] (spSpans C):=by
 apply F.ok scspans (λ vs H Q E h=>?_) (λ cdv A outer s H vs Q E hr h=>?_)
 ·obtain⟨s,a,b,ks,p,k,rfl,_⟩:=h
  rfl
 obtain⟨s,a,b,ks,p,k,rfl,S0,hp,ly,hk,q⟩:=h;have nd:=scspans.nd;apply%[_,((@bz _ _ _ _ _ _ (pv 1) (jY Z (2•(3•(4•(5•aQ))))) Z Z Z)<<<((@bz _ _ _ _ _ _ (lH (pv 0) T.cl MS hr ((pv 2)^^^((pv 3)^^^ad))) (bc Z (6•(7•aQ))) Z Z Z)<<<((@aL _ _ _ _ _ ((@aL _ _ _ _ _ ((pv 4)^^^(((pv 4)|||aK|||(pv 6))^^^ad)))^^^((@aL _ _ _ _ _ ((pv 5)^^^(((pv 5)|||aK|||(pv 7))^^^ad)))^^^ad)))⁻¹)))|?_];apply ai (λ σ' H'=>σ'=[↑s,↑a,⇑p.k,some (.bl p.c),⇑p.x,⇑p.y,none,none]/\H=H') (λ R hR=>?_) ?_
 ·exact%[_,Z,a,_,Z,hp.imp (λ z=>GW z) (λ z=>GV z),Z,_,_,Z,_,_,Z,_,_,Z,_,_,Z,Z|hR _ _ %[Z|Z]]
 rintro _ _ ⟨rfl,rfl⟩;obtain⟨dx,r0,rs,h1,h2,h3⟩:=id S0;apply ai (λ σ' H'=>σ'=[↑s,↑a,⇑p.k,some (.bl p.c),⇑p.x,⇑p.y,⇑(sd1 k p.c),⇑(sd2 k p.c)]/\Same H H') (λ R hR=>?_) ?_
 ·apply%[_,Z,s,dx,_,Z,h1,dI _ _ ∅ ∅,_,Z,_,Z,s,b,ks,.int p.k,.bl p.c, "int", "bool",Z,S0,Ty.int,Ty.bl,ly|λ i' c' k' r e1 e2 hk' _ hr=>?_];cases e1;cases e2;rw[HN,hk]at hk';cases hk';rw[uA];exact%[r,_,Z,GV upd_same,Z,_,_,Z,_,_,Z,Z|hR _ _ %[Z|F9 hr]]
 rintro _ H1 ⟨rfl,s1⟩;apply%[_,Z,_,Z,_,Z,_,_,Z,Z,zS2|λ r1 hr1=>?_];obtain⟨H2,e2,k2,s2⟩:∃H',upd H1 r1 (.tup [.int p.x,.int (p.x+sd1 k p.c)])=H'/\H' r1= ~~~[.int p.x,.int (p.x+sd1 k p.c)]/\Same H1 H':=%[_,Z,upd_same|F9 hr1]
 rw[show upd H1 r1 _=H2 from e2];apply%[_,Z,_,Z,_,Z,_,_,Z,Z,zS2|λ r2 hr2=>?_];obtain⟨H3,e3,k3,s3⟩:∃H',upd H2 r2 (.tup [.int p.y,.int (p.y+sd2 k p.c)])=H'/\H' r2= ~~~[.int p.y,.int (p.y+sd2 k p.c)]/\Same H2 H':=%[_,Z,upd_same|F9 hr2]
 rw[show upd H2 r2 _=H3 from e3];apply%[zS2|λ r hr'=>?_];obtain⟨H4,e4,k4,s4⟩:∃H',upd H3 r (.tup [.ref r1,.ref r2])=H'/\H' r= ~~~[.ref r1,.ref r2]/\Same H3 H':=%[_,Z,upd_same|F9 hr']
 rw[show upd H3 r _=H4 from e4];exact q r r1 r2 H4 k4 (s4 _ _ (s3 _ _ k2)) (s4 _ _ k3) (s1.trans (s2.trans (s3.trans s4)))
theorem scplaced:FnScope ["shop","wide","high","thing"] ["shop","wide","high","thing"] (defScope dL):=%[Z,Z,Z,∅,Z,∅|∅]
theorem mS{f C:IB}{tn4:Tok}{fd:F6}(F:Fun K "is_placed" "is_placed" dL f fd)(B:Blt mg)(n4:mg "THINGS_OF_A_PIECE" = some (.int 4 tn4))(DR:Dn P w K mg base "is_row" ["thing"] 1 (jg K))(DL:Dn P w K mg base "lies_in" ["shop","wide","high","kind","turned","x","y"] 4 (spLiesG K C)):FnOk P w K mg base CX0 5 f fd ["shop","wide","high","thing"] (spPlaced C):=by
 apply F.ok scplaced (λ vs H Q E h=>?_) (λ cdv A outer s H vs Q E hr h=>?_)
 ·obtain⟨pp,s,b',w1,h1,ks,v,d,rfl,_⟩:=h
  rfl
 obtain⟨pp,s,b',w1,h1,ks,v,d,rfl,S,hd,q⟩:=h;have nd:=scplaced.nd;apply%[_,(((PW.pt (bC (@aO _ _ _ _ (@aN _ _ _ (DR∩((pv 3)^^^ad)) (by intro _;rfl))) (bG ((@aA _ _ _ _ _ _ _ _ _ aJ Z B.len IR ((pv 3)^^^ad) ∅ ∅ Z Z)<*>fi<*>(bE (v:=.int 4) Z n4 ⟨tn4,Z⟩)))))<|>(bd⁻¹)<|>aE)<<<((DL∪((pv 0)^^^((pv 1)^^^((pv 2)^^^(((pv 3)&&&cM&&&ae)^^^(((pv 3)&&&cM&&&ae)^^^(((pv 3)&&&cM&&&ae)^^^(((pv 3)&&&cM&&&ae)^^^ad))))))))⁻¹))|?_];apply ai (λ σ' H'=>σ'=[↑s,⇑w1,⇑h1,some v]/\Same H H'/\∃(a:IB)(xs:IF V)(ds:IF PyData),v=.ref a/\Sq H a xs/\Dts pp H xs ds/\bW d=some ds/\ds.length=4) (λ R hR=>?_) ?_
 ·have no:∀H',Same H H'->(∀a b c e,bW d≠some [a,b,c,e])->Q (.bl false) H':=λ H' s hn=>by
   have:=q H' s;rw[show cq ks w1 h1 d=false by
    unfold cq
    split
    ·exact absurd ‹_› (hn _ _ _ _)
    ·rfl]at this
   exact this
  rcases hd.row (K:=K)with⟨er,T1,t1,e1⟩ | ⟨a,xs,ds,T1,er,rfl,hx,dx,t1,e1⟩
  ·apply%[_,Z,v,T1,Z,t1|λ H1 s1=>%[_,Z|?_]];rw[e1];exact br (no H1 s1 (λ a b c e z=>by rw[er]at z;cases z))
  ·apply%[_,Z,.ref a,T1,Z,t1|λ H1 s1=>%[_,Z|?_]];rw[e1];apply aU %[_,rfl,a,_,rfl,(Sq.same hx s1).imp (λ z=>GW z) (λ z=>GV z),rfl,_,rfl|?_];have dl:=dx.length
   by_cases h4:ds.length=4
   ·rw[show(!decide (V.int (xs.length:Int)=V.int 4))=false by rw[IL (by rw[dl,h4];rfl)];rfl];exact aU (hR _ _ %[rfl,s1,a,xs,ds,rfl,hx,dx,er|h4])
   ·rw[show(!decide (V.int (xs.length:Int)=V.int 4))=true by rw[IQ (λ z=>h4 (by have:=V.int.inj z;omega))];rfl];exact br (no H1 s1 (λ a b c e z=>h4 (by rw[er]at z;cases z;rfl)))
 rintro _ H1 ⟨rfl,s1,a,xs,ds,rfl,hx,dx,er,h4⟩;obtain⟨x1,x2,x3,x4,d1,d2,d3,d4,rfl,rfl,hd1,hd2,hd3,hd4⟩:=dx.four h4;obtain⟨T2,t2⟩:=(hd1.same s1).ty (K:=K);obtain⟨T3,t3⟩:=(hd2.same s1).ty (K:=K);obtain⟨T4,t4⟩:=(hd3.same s1).ty (K:=K);obtain⟨T5,t5⟩:=(hd4.same s1).ty (K:=K);have hx1:Sq H1 a [x1,x2,x3,x4]:=Sq.same hx s1;apply%[_,Z,_,Z,_,Z,_,Z|ixS hx1 rfl %[_,Z|ixS hx1 rfl %[_,Z|ixS hx1 rfl %[_,Z|ixS hx1 rfl ?_]]]];apply%[s,b',ks,w1,h1,x1,x2,x3,x4,T2,T3,T4,T5,Z,cV s1 S,t2,t3,t4,t5|λ H2 s2=>?_];have q1:=q H2 (s1.trans s2);unfold cq at q1;rw[er]at q1;have e:kB ks w1 h1 d1 d2 d3 d4=eL ks w1 h1 x1 x2 x3 x4:=by
  cases hd1 with
  | int i=>cases hd2 with
   | bl c=>cases hd3 with
    | int x=>cases hd4 with
     | int y=>rfl
     | _=>simp[kB,eL,aX]
    | _=>simp[kB,eL,aX]
   | _=>simp[kB,eL,cx]
  | _=>simp[kB,eL,cx]
 rw[<- e];exact q1
end
def PqT(ks:IF Kd)(H:Hp)(v:V)(q:Pq):Prop:=∃a,v=.ref a/\H a= ~~~(pqV q)/\(q.k,q.c)∈lyK ks 0/\0<=q.x/\0<=q.y
theorem PqT.keep{ks:IF Kd}{H H':Hp}(k:∀a xs,H a= ~~~xs->H' a= ~~~xs){v:V}{q:Pq}(h:PqT ks H v q):PqT ks H' v q:=by obtain⟨a,e,h,r⟩:=h;exact%[a,e,k _ _ h|r]
theorem dD:∀{ks:IF Kd}{i:Nat}{q:Nat×Bool},q∈lyK ks i->i<=q.1/\∃k,ks[q.1 - i]?=some k/\(q.2=false\/aY k=true)
 | [],_,_,h=>by simp[lyK]at h
 | x :: ks,i,q,h=>by
  rcases C1.mp (show q∈lyT i x ++ lyK ks (i+1)from h)with h | h
  ·unfold lyT at h;rcases G0.mp h with rfl | h
   ·exact%[B2 _,x,by simp|.inl rfl]
   ·split at h
    ·rename_i ht
     rw[C9.mp h];exact%[B2 _,x,by simp|.inr ht]
    ·simp at h
  ·obtain⟨h1,k,h2,h3⟩:=dD h;exact%[⋯,k,by rw[show q.1 - i=(q.1 - (i+1))+1 by omega,List.getElem?_cons_succ];exact h2|h3]
theorem PqT.s{ks:IF Kd}{H:Hp}{v:V}{q:Pq}(h:PqT ks H v q):PqS ks H v q:=by obtain⟨a,e,h,r,_⟩:=h;obtain⟨_,k,hk,_⟩:=dD r;exact%[a,k,e,.inr h|by simpa using hk]
def Laid(ks:IF Kd)(W h:Int)(ps:IF Pq):Prop:=∀i p,ps[i]?=some p->dS ks W h (ps.take i) p=true
theorem Laid.snoc{ks:IF Kd}{W h:Int}{ps:IF Pq}{p:Pq}(x:Laid ks W h ps)(f:dS ks W h ps p=true):Laid ks W h (ps ++ [p]):=λ i q hq=>by
 by_cases hi:i < ps.length
 ·rw[List.getElem?_append_left hi]at hq;rw[List.take_append_of_le_length ⋯];exact x i q hq
 ·have:i=ps.length:=by have:=(A5.mp hq).1;rw[G4]at this;have e:[p].length=1:=rfl;omega
  subst this;rw[Hf (B2 _),Nat.sub_self]at hq;cases hq;rw[List.take_left']
  ·exact f
  ·rfl
theorem xq{K:C3}{ks:IF Kd}{H:Hp}:∀{ys:IF V}{ps:IF Pq},Paired (PqT ks H) ys ps->∃ds,DatVs K H ys ds/\ds.length=ys.length/\PyData.canLayAll0 ds=true/\PyData.depthAll ds<=1
 | _,_,.nil=>%[[],.nil,Z,Z|E6 _]
 | _,_,.cons ⟨a,e,ha,_⟩ r=>by
  subst e;obtain⟨ds,d1,d2,d3,d4⟩:=xq (K:=K) r;apply%[_ :: ds,.cons (.tup (GV ha) (.cons (.int _) (.cons (.bl _) (.cons (.int _) (.cons (.int _) .nil))))) d1,by rw[G1,G1,d2],?_|?_]
  ·simp[PyData.canLayAll0,PyData.canLay0,d3]
  ·simp only[PyData.depthAll,PyData.depth];omega
theorem pY{ds:IF PyData}(d3:PyData.canLayAll0 ds=true)(d4:PyData.depthAll ds<=1):SeqAt.shaped (.list ds)=true/\(ds=[]->PyData.eqv (.list ds) (.list [])=true)/\(ds≠[]->PyData.eqv (.list ds) (.list [])=false):=by
 apply%[?_,λ e=>by subst e;exact PySem.SeqAt.eqv_refl _ rfl|λ e=>?_]
 ·unfold SeqAt.shaped;rw[PyData.canLay0,d3,PyData.depth,IL (show PyData.depthAll ds+1<=64 by omega)];rfl
 ·cases ds with
  | nil=>exact absurd rfl e
  | cons d r=>rfl
theorem Paired.impS{α β:Type}{R S:α->β->Prop}(k:∀a b,R a b->S a b):∀{xs:IF α}{ys:IF β},Paired R xs ys->Paired S xs ys
 | _,_,.nil=>.nil
 | _,_,.cons a r=>.cons (k _ _ a) (Paired.impS k r)
section
variable{P:F5}{w:F7}{K:C3}{mg:Str->ID F8}{base:Heap}
inductive spScat(vs:IF V)(H:Hp)(Q:VK)(E_:XK):Prop
|mk(p t kl pl:IB)(b W h m:Int)(ks:IF Kd)(ys:IF V)(ps:IF Pq)(_:vs=[.ref p,.ref t,.int W,.int h,.ref pl,.int m])(_:PotC H p)(_:LS H t b ks kl)(_:kl≠p)(_:1<=ks.length)(_:ks.length<=8)(_:(∀k∈ks,Good k))(_:0<=b)(_:1<=W)(_:W < 10 ^ 58)(_:1<=h)(_:h < 10 ^ 58)(_:0<=m)(_:m<=20)(_:pl≠p)(_:H pl=↥ys)(_:Paired (PqT ks H) ys ps)(_:ys.length<=4)(_:Laid ks W h ps)(_:∀(l:IB)(zs:IF V)(qs:IF Pq)(H':Hp),H l=none->l≠p->H' l=↥zs->Paired (PqT ks H') zs qs->Laid ks W h qs->(zs.length:Int)<=ys.length+m->PotC H' p->But p H H'->Q (.ref l) H')
theorem scscat:FnScope ["_law_pot_here","_law_shop_here","_law_wide","_law_high","_law_pieces_here","_law_many","_law_some","_law_found","_law_k","_law_kind","_law_turned","_law_x","_law_y","_law_box_here"] ["_law_pot_here","_law_shop_here","_law_wide","_law_high","_law_pieces_here","_law_many"] (defScope dg):=%[Z,Z,Z,∅,Z,∅|∅]
theorem rS{f:IB}{fd:F6}(F:Fun K "_law_scattered" "_law_scattered" dg f fd)(B:Blt mg)(DD:Dn P w K mg base "_law_take" ["_law_pot_here","_law_many"] 1 (spTake))(DLy:Dn P w K mg base "_law_lyings" ["_law_shop_here"] 1 (spLyingsC))(DBx:Dn P w K mg base "_law_box" ["_law_shop_here","_law_piece"] 2 (spBox))(DFi:Dn P w K mg base "_law_fits" ["_law_shop_here","_law_wide","_law_high","_law_pieces_here","_law_piece"] 3 (spFitsC)):FnOk P w K mg base CX0 4 f fd ["_law_pot_here","_law_shop_here","_law_wide","_law_high","_law_pieces_here","_law_many"] (spScat):=by
 apply F.ok scscat (λ vs H Q E h=>?_) (λ cdv A outer s H vs Q E hr h=>?_)
 ·obtain⟨p,t,kl,pl,b,W,h1,m,ks,ys,ps,rfl,_⟩:=h
  rfl
 obtain⟨p,t,kl,pl,b,W,h1,m,ks,ys,ps,rfl,pt,sh,nkp,k1,k08,gk,b0,w1,w58,h0,h58,m0,m20,npl,hpl,py,y4,ld,q⟩:=h;have nd:=scscat.nd;have hu:=hr.units;apply%[_,((6∣(DLy∩((pv 1)^^^ad)))<<<((7∣(@bf _ _ _ _ _ _ _ _ _ cY Z B.list Ih ((pv 4)^^^ad) ∅ ∅ Z Z))<<<((@bp _ _ _ _ _ _ _ _ E2 Z (bY Z B.range ((pv 5)^^^ad)) (aj (i:=8) nd Z (Or.inl Z)) ((@bz _ _ _ _ _ _ ((pv 6)&&&ix_list&&&(DD∩((pv 0)^^^((@aA _ _ _ _ _ _ _ _ _ aJ Z B.len IR ((pv 6)^^^ad) ∅ ∅ Z Z)^^^ad)))) (bc Z (9•(10•aQ))) Z Z Z)<<<((11∣(DD∩((pv 0)^^^((pv 2)^^^ad))))<<<((12∣(DD∩((pv 0)^^^((pv 3)^^^ad))))<<<(((PW.pt (dX ((pv 7)<*>(jX hu)<*>(@aS _ _ _ _ ad)) (cW ((DD∩((pv 0)^^^(ae^^^ad)))<*>bF<*>ae))))<|>((13∣(DBx∩((pv 1)^^^(((pv 7)&&&ix_list&&&(DD∩((pv 0)^^^((@aA _ _ _ _ _ _ _ _ _ aJ Z B.len IR ((pv 7)^^^ad) ∅ ∅ Z Z)^^^ad))))^^^ad))))<<<((11∣((@aS _ _ _ _ (((pv 13)&&&ix_tup&&&ae)^^^(((pv 13)&&&ix_tup&&&ae)^^^((((pv 13)&&&ix_tup&&&ae)|||aK|||((pv 1)&&&ix_tup&&&ae))^^^ad))))&&&ix_list&&&(DD∩((pv 0)^^^(ae^^^ad)))))>>>(12∣((@aS _ _ _ _ (((pv 13)&&&ix_tup&&&ae)^^^(((pv 13)&&&ix_tup&&&ae)^^^((((pv 13)&&&ix_tup&&&ae)|||aK|||((pv 1)&&&ix_tup&&&ae))^^^ad))))&&&ix_list&&&(DD∩((pv 0)^^^(ae^^^ad)))))))<|>aE)>>>((@aN _ _ _ (DFi∪((pv 1)^^^((pv 2)^^^((pv 3)^^^((pv 7)^^^((@aL _ _ _ _ _ ((pv 9)^^^((pv 10)^^^((pv 11)^^^((pv 12)^^^ad)))))^^^ad)))))) (by intro _;rfl))<|>(@ah _ _ _ (@bK _ _ _ _ (@dQ _ _ _ _ _ _ _ _ _ _ _ _ F3 PySem.F.slot_list_append PySem.F.type_list_append bM (pv 7) ((@aL _ _ _ _ _ ((pv 9)^^^((pv 10)^^^((pv 11)^^^((pv 12)^^^ad)))))^^^ad) Z Z Z Z Z) Z))<|>aE))))) (by intro _;rfl))<<<((pv 7)⁻¹))))|?_];have sz:(1000:Nat) < sizeLine:=∅
 have e58:(10:Int) ^ 58 < 10 ^ 60:=∅
 have e3:(100:Int) < 10 ^ 60:=∅
 apply ai (λ σ' H'=>∃(so:IB)(ss:IF V),σ'=[↑p,↑t,⇑W,⇑h1,↑pl,⇑m,↑so,none,none,none,none,none,none,none]/\so≠p/\H' so=↥ss/\Paired (LyC H') ss (lyK ks 0)/\Same H H') (λ R hR=>?_) ?_
 ·exact%[_,Z,t,kl,b,ks,Z,sh,k08|λ l ss H1 hl hl0 pl1 s1=>hR _ _ %[l,ss,Z,Ne.symm (pt.ne hl0),hl,pl1|s1]]
 rintro _ H1 ⟨so,ss,rfl,nsp,hso,pso,s1⟩;have pt1:=pt.same s1;apply ai (λ σ' H'=>∃fo:IB,σ'=[↑p,↑t,⇑W,⇑h1,↑pl,⇑m,↑so,↑fo,none,none,none,none,none,none]/\H1 fo=none/\H' fo=↥ys/\Same H1 H') (λ R hR=>?_) ?_
 ·apply%[_,Z,pl,_,Z,.inl (GW (s1 _ _ hpl))|λ fo hfo=>?_];obtain⟨H2,e2,k2,s2⟩:∃H',upd H1 fo (.lst ys)=H'/\H' fo=↥ys/\Same H1 H':=%[_,Z,upd_same|F9 hfo]
  rw[show upd H1 fo _=H2 from e2];exact hR _ _ %[fo,rfl,hfo,k2|s2]
 rintro _ H2 ⟨fo,rfl,hfo1,hfo2,s12⟩;have s02:=s1.trans s12;have pt2:=pt.same s02;have hfo0:H fo=none:=s1.free hfo1;have nfp:fo≠p:=Ne.symm (pt1.ne hfo1);have nso:so≠fo:=aw hso hfo1;obtain⟨kr,lst1,lst2,lst3⟩:=id sh;have nkf:kl≠fo:=aw lst2 hfo0;have lyl:=E1 pso;have ly8:=eF ks 0;have ly1:1<=(lyK ks 0).length:=by
  cases ks with
  | nil=>exact absurd k1 (by simp)
  | cons k r=>exact Nat.succ_le_of_lt (Nat.zero_lt_succ _)
 obtain⟨_,hp2⟩:=kx pt2;have tk:∀{Hx:Hp},(∀c o,c≠p->c≠fo->H2 c=some o->Hx c=some o)->∀a xs,H2 a= ~~~xs->Hx a= ~~~xs:=λ bx a xs e=>bx _ _ (λ z=>by rw[z,hp2]at e;cases e) (λ z=>by rw[z,hfo2]at e;cases e) e;have bt:∀{Hx Hy:Hp},(∀c o,c≠p->c≠fo->H2 c=some o->Hx c=some o)->But p Hx Hy->∀c o,c≠p->c≠fo->H2 c=some o->Hy c=some o:=λ b1 b2 c o n1 n2 e=>b2 _ _ n1 (b1 _ _ n1 n2 e);have shx:∀{Hx:Hp},(∀c o,c≠p->c≠fo->H2 c=some o->Hx c=some o)->LS Hx t b ks kl:=λ bx=>%[kr,tk bx _ _ (s02 _ _ lst1),bx _ _ nkp nkf (s02 _ _ lst2)|Tups.keep (λ a xs e=>tk bx _ _ (s02 _ _ e)) lst3]
 apply ai (λ σ' H'=>(∃(v8 v9 v10 v11 v12 v13:ID V)(zs:IF V)(qs:IF Pq),σ'=[↑p,↑t,⇑W,⇑h1,↑pl,⇑m,↑so,↑fo,v8,v9,v10,v11,v12,v13]/\H' fo=↥zs/\Paired (PqT ks H') zs qs/\Laid ks W h1 qs/\zs.length<=ys.length+m.toNat/\PotC H' p/\∀c o,c≠p->c≠fo->H2 c=some o->H' c=some o)) (λ R hR=>?_) ?_
 ·apply%[_,Z,_,Z,⋯,⋯|?_];apply cB (n:=m.toNat) (λ i σ' H'=>(∃(v8 v9 v10 v11 v12 v13:ID V)(zs:IF V)(qs:IF Pq),σ'=[↑p,↑t,⇑W,⇑h1,↑pl,⇑m,↑so,↑fo,v8,v9,v10,v11,v12,v13]/\H' fo=↥zs/\Paired (PqT ks H') zs qs/\Laid ks W h1 qs/\zs.length<=ys.length+i/\PotC H' p/\∀c o,c≠p->c≠fo->H2 c=some o->H' c=some o)) %[_,_,_,_,_,_,ys,ps,rfl,hfo2,GX py λ v q h=>h.keep λ a xs e=>s02 _ _ e,ld,B2 _,pt2|λ _ _ _ _ e=>e] ?_ (λ σ Hx h=>hR _ _ h);rintro i _ H4 hi ⟨v8,v9,v10,v11,v12,v13,zs,qs,rfl,hz4,pz4,ld4,zl4,pt4,b4⟩;have zq:=E1 pz4;apply ai (λ σ' H'=>∃(lk:Nat)(lc:Bool),σ'=[↑p,↑t,⇑W,⇑h1,↑pl,⇑m,↑so,↑fo,⇑(0+(i:Int)),⇑lk,some (.bl lc),v11,v12,v13]/\(lk,lc)∈lyK ks 0/\PotC H' p/\But p H4 H') (λ R hR=>?_) ?_
  ·have hso4:=b4 _ _ nsp nso (s12 _ _ hso);apply%[_,Z,_,Z,_,Z,so,_,Z,.inl (GW hso4),p,_,Z,pt4,⋯,⋯|λ r H5 r0 r1 pt5 b5=>?_];obtain⟨v,hv⟩:∃v,ss[r.toNat]?=some v:=%[_|E9 (show r.toNat < ss.length by omega)]
   obtain⟨q0,hq0,aq,rfl,haq⟩:=GY pso hv;have haq5:=tk (bt b4 b5) _ _ (s12 _ _ haq);exact%[so,_,_,_,Z,Z,GW (b5 _ _ nsp hso4),cy r0 hv,aq,_,Z,GV haq5,Z,_,_,Z,_,_,Z,Z|hR _ _ %[q0.1,q0.2,Z,B4 hq0,pt5|b5]]
  rintro _ H5 ⟨lk,lc,rfl,hly,pt5,b45⟩;apply ai (λ σ' H'=>∃x:Int,σ'=[↑p,↑t,⇑W,⇑h1,↑pl,⇑m,↑so,↑fo,⇑(0+(i:Int)),⇑lk,some (.bl lc),⇑x,v12,v13]/\0<=x/\PotC H' p/\But p H4 H') (λ R hR=>?_) ?_
  ·exact%[_,Z,_,Z,p,W,Z,pt5,⋯,⋯|λ x H6 x0 x1 pt6 b6=>hR _ _ %[x,Z,x0,pt6|b45.trans b6]]
  rintro _ H6 ⟨x,rfl,x0,pt6,b46⟩;apply ai (λ σ' H'=>∃y:Int,σ'=[↑p,↑t,⇑W,⇑h1,↑pl,⇑m,↑so,↑fo,⇑(0+(i:Int)),⇑lk,some (.bl lc),⇑x,⇑y,v13]/\0<=y/\PotC H' p/\But p H4 H') (λ R hR=>?_) ?_
  ·exact%[_,Z,_,Z,p,h1,Z,pt6,⋯,⋯|λ y H7 y0 y1 pt7 b7=>hR _ _ %[y,Z,y0,pt7|b46.trans b7]]
  rintro _ H7 ⟨y,rfl,y0,pt7,b47⟩;apply ai (λ σ' H'=>∃(x y:Int)(v13:ID V),σ'=[↑p,↑t,⇑W,⇑h1,↑pl,⇑m,↑so,↑fo,⇑(0+(i:Int)),⇑lk,some (.bl lc),⇑x,⇑y,v13]/\0<=x/\0<=y/\PotC H' p/\But p H4 H') (λ R hR=>?_) ?_
  ·have hz7:=b47 _ _ nfp hz4;have pz7:Paired (PqT ks H7) zs qs:=GX pz4 λ v q h=>h.keep λ a xs e=>bI b47 pt4 e;apply%[_,Z,∅|λ e he=>?_];obtain⟨H8,e8,k8,n8,s8,b8,pt8⟩:=bm (o:=.lst []) b47 pt7 he;rw[show upd H7 e _=H8 from e8];obtain⟨ds,d1,d2,d3,d4⟩:=xq (K:=K) (GX pz7 λ v q h=>h.keep λ a xs e=>s8 _ _ e);obtain⟨sh1,sh2,sh3⟩:=pY d3 d4;apply%[.list ds,.list [],.lst (GW (s8 _ _ hz7)) d1,.lst (GW k8) .nil,sh1,∅,_,Z|?_]
   by_cases hz0:zs=[]
   ·rw[sh2 (by rw[hz0]at d2;exact HF d2)];exact aU (hR _ _ %[x,y,v13,rfl,x0,y0,pt8|b8])
   rw[sh3 (λ z=>hz0 (by rw[z]at d2;exact HF d2.symm))];have zpos:1<=zs.length:=Nat.pos_of_ne_zero (λ z=>hz0 (HF z));apply br %[_,rfl,p,2,rfl,pt8,∅,∅|λ z H9 z0 z1 pt9 b9=>%[rfl,_,rfl|?_]];apply bv (λ cc=>?_) (λ cc=>hR _ _ %[x,y,v13,rfl,x0,y0,pt9|b8.trans b9]);have b49:=b8.trans b9;have hz9:=b9 _ _ nfp (s8 _ _ hz7);apply ai (λ σ' H'=>∃(bx:IB)(g:Bx),σ'=[↑p,↑t,⇑W,⇑h1,↑pl,⇑m,↑so,↑fo,⇑(0+(i:Int)),⇑lk,some (.bl lc),⇑x,⇑y,↑bx]/\H' bx= ~~~(bxV g)/\0<=g.a/\0<=g.b/\0<=g.c/\0<=g.d/\PotC H' p/\But p H4 H') (λ R2 hR2=>?_) ?_
   ·apply%[_,Z,_,Z,_,Z,_,Z,fo,_,Z,.inl (GW hz9),p,_,Z,pt9,⋯,⋯|λ r H10 r0 r1 pt10 b10=>?_];obtain⟨v,hv⟩:∃v,zs[r.toNat]?=some v:=%[_|E9 (show r.toNat < zs.length by omega)]
    obtain⟨q0,hq0,aq,rfl,haq,hqly,q0x,q0y⟩:=GY pz4 hv;obtain⟨_,k0,hk0,_⟩:=dD hqly;have hk0:ks[q0.k]?=some k0:=by simpa using hk0
    have g0:=gk k0 (B4 hk0);have b410:=b49.trans b10;apply%[fo,_,_,_,Z,Z,GW (b10 _ _ nfp hz9),cy r0 hv,t,kl,aq,b,ks,q0,k0,Z,shx (bt b4 b410),.inr (bI b410 pt4 haq),hk0|λ bx H11 hbx s11=>hR2 _ _ %[bx,ky k0 q0,Z,hbx,q0x,q0y,?_,?_,pt10.same s11|λ c o n e=>s11 _ _ (b410 _ _ n e)]]
    ·show 0<=q0.x+sd1 k0 q0.c;have g1:=g0.w;have g2:=g0.h;unfold sd1;split <;> omega
    ·show 0<=q0.y+sd2 k0 q0.c;have g1:=g0.w;have g2:=g0.h;unfold sd2;split <;> omega
   rintro _ Hq ⟨bx,g,rfl,hb,ga,gb,gc,gd,ptq,bq⟩;have ht:Hq t= ~~~[.int b,.ref kl]:=(shx (bt b4 bq)).choose_spec.1;apply ai (λ σ' H'=>∃x:Int,σ'=[↑p,↑t,⇑W,⇑h1,↑pl,⇑m,↑so,↑fo,⇑(0+(i:Int)),⇑lk,some (.bl lc),⇑x,⇑y,↑bx]/\0<=x/\H' bx= ~~~(bxV g)/\PotC H' p/\But p H4 H') (λ R3 hR3=>?_) ?_
   ·skip
    apply%[_,Z,bx,_,0,_,Z,Z,GV hb,Z,_,Z,bx,_,2,_,Z,Z,GV hb,Z,_,Z,bx,_,2,_,Z,Z,GV hb,Z,_,Z,t,_,0,_,Z,Z,GV ht,Z,_,_,Z,Z,zS3|λ l3 hl3=>?_];obtain⟨H20,e20,k20,n20,s20,b20,pt20⟩:=bm (o:=.lst [.int g.a,.int g.c,.int (g.c+b)]) bq ptq hl3;rw[show upd Hq l3 _=H20 from e20];apply%[_,Z,p,3,Z,pt20,∅,∅|λ z H21 z0 z1 pt21 b21=>?_];obtain⟨xx,hxx,xx0⟩:∃xx:Int,atI [V.int g.a,V.int g.c,V.int (g.c+b)] z=⇑xx/\0<=xx:=by
     have:z=0\/z=1\/z=2:=⋯
     rcases this with rfl | rfl | rfl
     ·exact%[_,Z|⋯]
     ·exact%[_,Z|⋯]
     ·exact%[_,Z|⋯]
    exact%[l3,_,_,_,Z,Z,GW (b21 _ _ n20 k20),hxx|hR3 _ _ %[xx,Z,xx0,bI b21 pt20 (s20 _ _ hb),pt21|b20.trans b21]]
   clear hb ht ptq bq;clear Hq;rintro _ Hq ⟨x,rfl,x0,hb,ptq,bq⟩;have ht:Hq t= ~~~[.int b,.ref kl]:=(shx (bt b4 bq)).choose_spec.1;apply%[_,Z,bx,_,1,_,Z,Z,GV hb,Z,_,Z,bx,_,3,_,Z,Z,GV hb,Z,_,Z,bx,_,3,_,Z,Z,GV hb,Z,_,Z,t,_,0,_,Z,Z,GV ht,Z,_,_,Z,Z,zS3|λ l3 hl3=>?_];obtain⟨H20,e20,k20,n20,s20,b20,pt20⟩:=bm (o:=.lst [.int g.b,.int g.d,.int (g.d+b)]) bq ptq hl3;rw[show upd Hq l3 _=H20 from e20];apply%[_,Z,p,3,Z,pt20,∅,∅|λ z H21 z0 z1 pt21 b21=>?_];obtain⟨xx,hxx,xx0⟩:∃xx:Int,atI [V.int g.b,V.int g.d,V.int (g.d+b)] z=⇑xx/\0<=xx:=by
    have:z=0\/z=1\/z=2:=⋯
    rcases this with rfl | rfl | rfl
    ·exact%[_,Z|⋯]
    ·exact%[_,Z|⋯]
    ·exact%[_,Z|⋯]
   exact%[l3,_,_,_,Z,Z,GW (b21 _ _ n20 k20),hxx|hR _ _ %[x,xx,↑bx,Z,x0,xx0,pt21|b20.trans b21]]
  clear b45 b46 b47 pt5 pt6 pt7 x0 y0;clear H5 H6 H7 x y v13;rintro _ H7 ⟨x,y,v13,rfl,x0,y0,pt7,b47⟩;have hz7:=b47 _ _ nfp hz4;have pz7:Paired (PqT ks H7) zs qs:=GX pz4 λ v q h=>h.keep λ a xs e=>bI b47 pt4 e;obtain⟨_,kk,hkk,_⟩:=dD hly;have hkk:ks[lk]?=some kk:=by simpa using hkk
  apply%[_,Z,_,Z,_,Z,_,Z,_,Z,_,Z,_,Z,_,Z,zS4|λ a ha=>?_];obtain⟨H8,e8,k8,n8,s8,b8,pt8⟩:=bm (o:=.tup [.int lk,.bl lc,.int x,.int y]) b47 pt7 ha;rw[show upd H7 a _=H8 from e8];apply%[t,kl,fo,a,b,W,h1,ks,zs,qs,%[lk,lc,x|y],kk,Z,shx (bt b4 b8),s8 _ _ hz7,Paired.impS (λ v q h=>(PqT.keep (λ a xs e=>s8 _ _ e) h).s) pz7,⋯,.inr k8,hkk|λ H9 s9=>%[_,Z|?_]];have s79:=s8.trans s9;have b49:But p H4 H9:=λ c o n e=>s79 _ _ (b47 _ _ n e);apply bv (λ cc=>?_) (λ cc=>?_)
  ·have hz9:=s79 _ _ hz7;apply%[_,Z,.inl %[Z,_|GW hz9],_,Z,_,Z,_,Z,_,Z,zS4|λ a2 ha2=>?_];obtain⟨H10,e10,k10,n10,s10,b10,pt10⟩:=bm (o:=.tup [.int lk,.bl lc,.int x,.int y]) b49 (pt8.same s9) ha2;rw[show upd H9 a2 _=H10 from e10];have hz10:=s10 _ _ hz9;have kt:∀c xs,H10 c= ~~~xs->(upd H10 fo (.lst (zs ++ [.ref a2]))) c= ~~~xs:=λ c xs e=>by rw[aG (λ z=>by rw[z,hz10]at e;cases e)];exact e
   apply%[fo,_,_,Z,Z,hz10,⋯,_,_,_,_,_,_,zs ++ [.ref a2],qs ++ [%[lk,lc,x|y]],Z,upd_same,?_,ld4.snoc cc,by rw[G4];show zs.length+1<=_;omega,pt10.put (Ne.symm nfp)|λ c o n n2 e=>by rw[aG n2];exact b10 _ _ n (b4 _ _ n n2 e)];exact cO (GX pz7 λ v q h=>h.keep λ a xs e=>kt _ _ (s10 _ _ (s79 _ _ e))) (.cons %[a2,Z,kt _ _ k10,hly,x0|y0] .nil)
  ·exact%[_,_,_,_,_,_,zs,qs,Z,s79 _ _ hz7,GX pz7 λ v q h=>h.keep λ a xs e=>s79 _ _ e,ld4,⋯,pt8.same s9|bt b4 b49]
 rintro _ H3 ⟨v8,v9,v10,v11,v12,v13,zs,qs,rfl,hz3,pz3,ld3,zl3,pt3,b3⟩;exact%[_,Z|q fo zs qs H3 hfo0 nfp hz3 pz3 ld3 ⋯ pt3 (λ c o n e=>b3 _ _ n (aw e hfo0) (s02 _ _ e))]
end
theorem Dt.ref_row{p:IB}{H:Hp}{v:V}{d:PyData}{ds:IF PyData}(h:Dt p H v d)(e:bW d=some ds):∃a xs,v=.ref a/\(H a=↥xs\/H a= ~~~xs)/\Dts p H xs ds:=by
 cases h <;> simp only[bW,Option.some.injEq,reduceCtorEq]at e
 ·subst e;exact%[_,_,Z,.inl ‹_›|‹_›]
 ·subst e;exact%[_,_,Z,.inr ‹_›|‹_›]
theorem iN:∀ds:IF PyData,ds.length<=wts ds
 | []=>B2 _
 | d :: r=>by have:=iN r;have:=xo d;rw[G1,wts];omega
theorem Dts.get{p:IB}{H:Hp}:∀{vs:IF V}{ds:IF PyData}{i:Nat}{x:V},Dts p H vs ds->vs[i]?=some x->∃d,ds[i]?=some d/\Dt p H x d
 | _,_,0,_,.cons a _,e=>%[_,Z|by cases e;exact a]
 | _,_,i+1,_,.cons _ r,e=>by obtain⟨d,h1,h2⟩:=r.get (i:=i) (by simpa using e);exact%[d,by simpa using h1|h2]
theorem jw{d:PyData}{ds:IF PyData}(h:bW d=some ds):wt d=wts ds+1:=by
 cases d <;> simp only[bW,Option.some.injEq,reduceCtorEq]at h
 ·subst h;rw[wt]
 ·subst h;rw[wt]
def bU(o r:Bx):Bool:=(decide (o.a < r.c) && decide (r.a < o.c)) && (decide (o.b < r.d) && decide (r.b < o.d))
def PqD(d:PyData)(p:Pq):Prop:=bW d=some [.int p.k,.bool p.c,.int p.x,.int p.y]
def jx(ks:IF Kd)(ps:IF Pq):Prop:=∀i p,ps[i]?=some p->∀q∈ps.take i,bU (aD ks p) (aD ks q)=false
def mT(ks:IF Kd)(w h:Int)(d:PyData):Prop:=∃ds ps,bW d=some ds/\Paired PqD ds ps/\(∀x∈ds,cq ks w h x=true)/\jx ks ps
theorem Paired.uniq{α β:Type}{R:α->β->Prop}(u:∀a b c,R a b->R a c->b=c):∀{xs:IF α}{ys zs:IF β},Paired R xs ys->Paired R xs zs->ys=zs
 | _,_,_,.nil,.nil=>rfl
 | _,_,_,.cons a r,.cons b s=>by rw[u _ _ _ a b,Paired.uniq u r s]
theorem PqD.uniq(d:PyData)(p q:Pq)(h:PqD d p)(h':PqD d q):p=q:=by
 unfold PqD at h h';rw[h]at h';obtain⟨a,b,c,e⟩:=p;obtain⟨a',b',c',e'⟩:=q;simp only[Option.some.injEq,List.cons.injEq,PyData.int.injEq,PyData.bool.injEq,and_true]at h';obtain⟨h1,h2,h3,h4⟩:=h';have h1:(a:Int)=(a':Int):=h1;have h1:a=a':=⋯
 subst h1;have h2:b=b':=h2;have h3:c=c':=h3;have h4:e=e':=h4;subst h2;subst h3;subst h4
 rfl
theorem rT{ks:IF Kd}{w h:Int}{d:PyData}(x:cq ks w h d=true):∃p k,PqD d p/\cx ks (.int p.k) (.bl p.c)=true/\ks[p.k]?=some k/\0<=p.x/\0<=p.y/\p.x+sd1 k p.c<=w/\p.y+sd2 k p.c<=h:=by
 unfold cq at x
 split at x
 ·rename_i d1 d2 d3 d4 er
  unfold kB at x
  split at x
  ·rename_i i c xx yy
   unfold eL at x;simp only[HX]at x;obtain⟨⟨⟨x1,x2⟩,x3⟩,x4⟩:=x;obtain⟨i',c',k',e1,e2,i0,hk⟩:=fg x1;cases e1;cases e2;rw[hk]at x4;have ei:((i.toNat:Nat):Int)=i:=⋯
   have x4:=C7.mp x4;have w1:aX (.int xx) 0=decide (0<=xx):=rfl;have w2:aX (.int yy) 0=decide (0<=yy):=rfl;rw[w1]at x2;rw[w2]at x3;exact%[%[i.toNat,c,xx|yy],k',by unfold PqD;rw[er];show some [PyData.int i,_,_,_]=some [PyData.int ((i.toNat:Nat):Int),_,_,_];rw[ei],by show cx ks (.int ((i.toNat:Nat):Int)) _=true;rw[ei];exact x1,hk,Ip x2,Ip x3,Ip x4.1|Ip x4.2]
  ·cases x
 ·cases x
theorem jy{ks:IF Kd}{w h:Int}:∀{ds:IF PyData},(∀x∈ds,cq ks w h x=true)->∃ps,Paired PqD ds ps/\∀p∈ps,∃k,cx ks (.int p.k) (.bl p.c)=true/\ks[p.k]?=some k/\0<=p.x/\0<=p.y/\p.x+sd1 k p.c<=w/\p.y+sd2 k p.c<=h
 | [],_=>%[[],.nil|λ p hp=>by simp at hp]
 | d :: ds,hh=>by
  obtain⟨p,k,h1,h2⟩:=rT (hh d B6);obtain⟨ps,g1,g2⟩:=jy (λ x hx=>hh x (B3 _ hx));apply%[p :: ps,.cons h1 g1|λ q hq=>?_];rcases G0.mp hq with rfl | hq
  ·exact%[k|h2]
  ·exact g2 q hq
theorem Dt.pq{p:IB}{H:Hp}{v:V}{d:PyData}{q:Pq}(h:Dt p H v d)(e:PqD d q):∃a,v=.ref a/\Sq H a (pqV q):=by obtain⟨a,xs,rfl,hx,dx⟩:=h.ref_row e;obtain⟨x1,x2,x3,x4,d1,d2,d3,d4,rfl,e2,h1,h2,h3,h4⟩:=dx.four rfl;cases e2;cases h1;cases h2;cases h3;cases h4;exact%[a,Z|hx]
def SpAt(H:Hp)(v:V)(g:Bx):Prop:=∃r r1 r2,v=.ref r/\H r= ~~~[.ref r1,.ref r2]/\H r1= ~~~[.int g.a,.int g.c]/\H r2= ~~~[.int g.b,.int g.d]
theorem SpAt.same{H H':Hp}(s:Same H H'){v:V}{g:Bx}(h:SpAt H v g):SpAt H' v g:=by obtain⟨r,r1,r2,e,h1,h2,h3⟩:=h;exact%[r,r1,r2,e,s _ _ h1,s _ _ h2|s _ _ h3]
section
variable{P:F5}{w:F7}{K:C3}{mg:Str->ID F8}{base:Heap}
inductive spCP(vs:IF V)(H:Hp)(Q:VK)(E_:XK):Prop
|mk(w h:Int)(_:vs=[.int w,.int h])(_:1<=w)(_:1<=h)(_:Q .non H)
inductive spIsLay(C:IB)(vs:IF V)(H:Hp)(Q:VK)(E_:XK):Prop
|mk(pp s:IB)(b w h:Int)(ks:IF Kd)(v:V)(d:PyData)(_:vs=[.ref s,.int w,.int h,v])(_:ShopAt C H s b ks)(_:1<=w)(_:1<=h)(_:Dt pp H v d)(_:wt d<=30000)(_:∀(r:Bool)(H':Hp),(r=true↔mT ks w h d)->Same H H'->Q (.bl r) H')
theorem sccplate:FnScope ["wide","high"] ["wide","high"] (defScope cK):=%[Z,Z,Z,∅,Z,∅|∅]
theorem mU{f:IB}{fd:F6}(F:Fun K "check_plate" "check_plate" cK f fd)(DW:Dn P w K mg base "is_whole" ["thing","least"] 1 (dG K)):FnOk P w K mg base CX0 2 f fd ["wide","high"] (spCP):=by
 apply F.ok sccplate (λ vs H Q E h=>?_) (λ cdv A outer s H vs Q E hr h=>?_)
 ·obtain⟨w1,h1,rfl,_⟩:=h
  rfl
 obtain⟨w1,h1,rfl,w0,h0,q⟩:=h;have nd:=sccplate.nd;apply%[_,(@ah _ _ _ ((PW.pt (bC (@aO _ _ _ _ (@aN _ _ _ (DW∪((pv 0)^^^(ae^^^ad))) (by intro _;rfl))) (bG (@aO _ _ _ _ (@aN _ _ _ (DW∪((pv 1)^^^(ae^^^ad))) (by intro _;rfl))))))<|>(@ah _ _ _ fP)<|>aE))|?_];apply%[_,Z,.int w1,"int",1,Z,Ty.int,_,Z|?_];rw[show aX (.int w1) 1=true from IL w0];apply aU %[_,rfl,.int h1,"int",1,rfl,Ty.int,_,rfl|?_];rw[show aX (.int h1) 1=true from IL h0];exact aU q
theorem scislay:FnScope ["shop","wide","high","thing","spans","at","columns","rows","other_columns","other_rows"] ["shop","wide","high","thing"] (defScope cC):=%[Z,Z,Z,∅,Z,∅|∅]
theorem pZ{f C:IB}{fd:F6}(F:Fun K "is_laying" "is_laying" cC f fd)(B:Blt mg)(DCP:Dn P w K mg base "check_plate" ["wide","high"] 2 (spCP))(DR:Dn P w K mg base "is_row" ["thing"] 1 (jg K))(DPl:Dn P w K mg base "is_placed" ["shop","wide","high","thing"] 5 (spPlaced C))(DSn:Dn P w K mg base "spans_of" ["shop","piece"] 4 (spSpans C))(DM:Dn P w K mg base "meet" ["one","other"] 1 (spMeet)):FnOk P w K mg base CX0 6 f fd ["shop","wide","high","thing"] (spIsLay C):=by
 apply F.ok scislay (λ vs H Q E h=>?_) (λ cdv A outer s H vs Q E hr h=>?_)
 ·obtain⟨pp,s,b',w1,h1,ks,v,d,rfl,_⟩:=h
  rfl
 obtain⟨pp,s,b',w1,h1,ks,v,d,rfl,S,hw,hh,hd,wd,q⟩:=h;have nd:=scislay.nd;apply%[_,((@bK _ _ _ _ (DCP∩((pv 1)^^^((pv 2)^^^ad))) Z)<<<(((PW.pt (bC (@aO _ _ _ _ (@aN _ _ _ (DR∩((pv 3)^^^ad)) (by intro _;rfl))) (bG (@aO _ _ _ _ (@aN _ _ _ (@aA _ _ _ _ _ _ _ _ _ (eZ Z) Z B.all PyProof.Rows.boot_all ((cu (own:=["piece"]) (cs:=["shop","wide","high"]) (cap:=[0,1,2]) Z (fZ (pv 3)) (aR (sc:=defScope cC) (N:=["shop","wide","high","thing","spans","at","columns","rows","other_columns","other_rows"]) Z Z ∅) (λ _ _ _ _ _=>aj (i:=0) (by show List.Nodup (["piece","shop","wide","high"]:IF Str) ;decide +kernel) Z (Or.inl Z) (Or.inr Z)) (λ _ _ _ _ _=>bi) (λ _ _ _ _ _=>(DPl∪((pv 1)^^^((pv 2)^^^((pv 3)^^^((pv 0)^^^ad)))))))^^^ad) ∅ ∅ Z Z) (by intro _;rfl))))))<|>(bd⁻¹)<|>aE)<<<((cw (i:=4) (own:=["piece"]) (cs:=["shop"]) (cap:=[0]) Z nd Z Z Z (fZ (pv 3)) (aR (sc:=defScope cC) (N:=["shop","wide","high","thing","spans","at","columns","rows","other_columns","other_rows"]) Z Z ∅) (λ _ _ _ _ _=>aj (i:=0) (by show List.Nodup (["piece","shop"]:IF Str) ;decide +kernel) Z (Or.inl Z) (Or.inr Z)) (λ _ _ _ _ _=>bi) (λ _ _ _ _ _=>(DSn∩((pv 1)^^^((pv 0)^^^ad)))))<<<((@bp _ _ _ _ _ _ _ _ E2 Z (lG Z B.enumerate ((pv 4)^^^ad)) (bc Z (5•(au (bc Z (6•(7•aQ))) aQ))) (@ah _ _ _ (@bp _ _ _ _ _ _ _ _ E2 Z (bh (@cR _ _ _ _ _ _ _ _ _ _ fB (pv 4) ez (cX (pv 5)))) (bc Z (8•(9•aQ))) (@ah _ _ _ ((PW.pt (dX (@aN _ _ _ (DM∩((pv 6)^^^((pv 8)^^^ad))) (by intro _;rfl)) (cW (@aN _ _ _ (DM∩((pv 7)^^^((pv 9)^^^ad))) (by intro _;rfl)))))<|>(bd⁻¹)<|>aE)) (by intro _;rfl))) (by intro _;rfl))<<<(bd⁻¹)))))|?_];have sz:(40000:Nat) < sizeLine:=∅
 apply ai (λ σ' H'=>σ'=[↑s,⇑w1,⇑h1,some v,none,none,none,none,none,none]/\H=H') (λ R hR=>?_) ?_
 ·exact%[_,Z,_,Z,w1,h1,Z,hw,hh|hR _ _ %[Z|Z]]
 rintro _ _ ⟨rfl,rfl⟩;apply ai (λ σ' H'=>∃(a:IB)(xs:IF V)(ds:IF PyData)(ps:IF Pq),v=.ref a/\σ'=[↑s,⇑w1,⇑h1,↑a,none,none,none,none,none,none]/\Same H H'/\Sq H a xs/\Dts pp H xs ds/\bW d=some ds/\Paired PqD ds ps/\(∀x∈ds,cq ks w1 h1 x=true)/\∀p∈ps,∃k,cx ks (.int p.k) (.bl p.c)=true/\ks[p.k]?=some k/\0<=p.x/\0<=p.y/\p.x+sd1 k p.c<=w1/\p.y+sd2 k p.c<=h1) (λ R hR=>?_) ?_
 ·rcases hd.row (K:=K)with⟨er,T1,t1,e1⟩ | ⟨a,xs,ds,T1,er,rfl,hx,dx,t1,e1⟩
  ·apply%[_,Z,v,T1,Z,t1|λ H1 s1=>%[_,Z|?_]];rw[e1];exact br (q false H1 ⟨λ z=>(by cases z),λ⟨ds,_,e,_⟩=>by rw[er]at e;cases e⟩ s1)
  ·apply%[_,Z,.ref a,T1,Z,t1|λ H1 s1=>%[_,Z|?_]];rw[e1];have dl:=dx.length;have wl:=iN ds;have wd':wts ds+1=wt d:=(jw er).symm;apply aU ?_;dsimp only[wK,tB,tCB,lr,ms];apply dH (j:=3) (a:=a) (xs:=xs) rfl (Sq.same hx s1) (λ i us Hx=>Same H1 Hx/\us=((ds.take i).map (cq ks w1 h1)).map V.bl) (λ i us Hx _ ⟨sx,_⟩ o e=>sx _ _ e) %[Same.refl _|rfl] ?_ ?_
   ·rintro i x us Hx hi ⟨sx,rfl⟩;have hin:i < xs.length:=(A5.mp hi).1;obtain⟨dd,hdd,hxx⟩:=dx.get hi;apply%[by rw[GZ,GZ,G5];omega,leS.set rfl|bj ?_];apply%[_,Z,_,Z,_,Z,_,Z,pp,s,b',w1,h1,ks,x,dd,Z,cV (s1.trans sx) S,hxx.same (s1.trans sx)|λ H3 s3=>Nx.of hin %[sx.trans s3|?_]];rw[HA,hdd];simp only[HS,HB,G9,Hv]
   ·rintro us Hx ⟨sx,rfl⟩;rw[dl,HC];apply%[by rw[GZ,GZ];omega|λ l hl=>%[l,_,Z,GW upd_same,_,Z|?_]];have sl:=s1.trans (sx.trans (F9 hl (o:=.lst ((ds.map (cq ks w1 h1)).map V.bl))));cases ha:(ds.map (cq ks w1 h1)).all id with
    | false=>
     apply br (q false _ ⟨λ z=>(by cases z),λ⟨ds',_,e,_,hp,_⟩=>?_⟩ sl);rw[er]at e;cases e;rw[List.all_eq_false]at ha;obtain⟨z,hz,hz2⟩:=ha;obtain⟨x,hx,rfl⟩:=G7.mp hz;exact absurd (hp x hx) hz2
    | true=>
     have hall:∀x∈ds,cq ks w1 h1 x=true:=λ x hx=>(Hl.mp ha) _ (G7.mpr %[x,hx|Z]);obtain⟨ps,g1,g2⟩:=jy hall;exact aU (hR _ _ %[a,xs,ds,ps,rfl,rfl,sl,hx,dx,er,g1,hall|g2])
 rintro _ H1 ⟨a,xs,ds,ps,rfl,rfl,s1,hx,dx,er,pd,hall,hps⟩;have dl:=dx.length;have wl:=iN ds;have wd':wts ds+1=wt d:=(jw er).symm;have pl:=E1 pd;have lay_iff:mT ks w1 h1 d↔jx ks ps:=⟨λ⟨ds',ps',e,pd',_,ok⟩=>by
  rw[er]at e;cases e;rw[Paired.uniq PqD.uniq pd pd'];exact ok,λ ok=>%[ds,ps,er,pd,hall|ok]⟩
 apply ai (λ σ' H'=>∃(sl:IB)(ss:IF V),σ'=[↑s,⇑w1,⇑h1,↑a,↑sl,none,none,none,none,none]/\H' sl=↥ss/\Paired (SpAt H') ss (ps.map (aD ks))/\Same H H') (λ R hR=>?_) ?_
 ·apply dH (K:=K) (j:=3) rfl (Sq.same hx s1) (λ i us Hx=>Same H1 Hx/\Paired (SpAt Hx) us ((ps.take i).map (aD ks))) (λ i us Hx _ ⟨sx,_⟩ o e=>sx _ _ e) %[Same.refl _|.nil] ?_ ?_
  ·rintro i x us Hx hi ⟨sx,pu⟩;have hin:i < xs.length:=(A5.mp hi).1;obtain⟨dd,hdd,hxx⟩:=dx.get hi;obtain⟨p0,hp0,hpq⟩:=GY pd hdd;obtain⟨ap,rfl,hap⟩:=hxx.pq hpq;obtain⟨k0,g1,g2,g3⟩:=hps p0 (B4 hp0);have ul:=E1 pu;rw[GZ,G5]at ul;apply%[⋯,leS.set rfl|bj ?_];apply%[_,Z,_,Z,s,ap,b',ks,p0,k0,Z,cV (s1.trans sx) S,hap.same (s1.trans sx),g1,g2|λ r r1 r2 H3 e1 e2 e3 s3=>Nx.of hin %[sx.trans s3|?_]];rw[HA,hp0];simp only[HS,HB,G9,Hv];apply cO (GX pu λ v g h=>h.same s3) (.cons %[r,r1,r2,Z,e1,?_|?_] .nil)
   ·rw[aW g2];exact e2
   ·rw[aW g2];exact e3
  ·rintro us Hx ⟨sx,pu⟩;have ul:=E1 pu;rw[GZ,G5]at ul;rw[show xs.length=ps.length by omega,HC]at pu;apply%[⋯|λ l hl=>?_];obtain⟨Hy,e2,k2,s2⟩:∃H',upd Hx l (.lst us)=H'/\H' l=↥us/\Same Hx H':=%[_,Z,upd_same|F9 hl]
   rw[show upd Hx l _=Hy from e2];exact hR _ _ %[l,us,rfl,k2,GX pu λ v g h=>h.same s2|s1.trans (sx.trans s2)]
 rintro _ H2 ⟨sl,ss,rfl,hsl,pss,s02⟩;have ssl:=E1 pss;rw[GZ]at ssl;have z4:ss.length < sizeLine:=⋯
 apply ai (λ σ' H'=>∃v5 v6 v7 v8 v9:ID V,σ'=[↑s,⇑w1,⇑h1,↑a,↑sl,v5,v6,v7,v8,v9]/\Same H2 H'/\jx ks ps) (λ R hR=>?_) ?_
 ·apply%[_,Z,sl,ss,Z|.inl %[hsl|jj (f:=.lst) (λ _ _ e=>by cases e;rfl) (l:=sl) (xs:=ss) (λ i σ' H'=>∃v5 v6 v7 v8 v9:ID V,σ'=[↑s,⇑w1,⇑h1,↑a,↑sl,v5,v6,v7,v8,v9]/\Same H2 H'/\∀j p,j < i->ps[j]?=some p->∀q∈ps.take j,bU (aD ks p) (aD ks q)=false) %[_,_,_,_,_,Z,Same.refl _|λ j p hj=>absurd hj (E7 _)] (λ i σ Hx ⟨_,_,_,_,_,_,sx,_⟩=>sx _ _ hsl) ?_ (λ σ Hx ⟨v5,v6,v7,v8,v9,e,sx,ok⟩=>hR _ _ %[v5,v6,v7,v8,v9,e,sx|λ j p hp=>ok j p (by rw[ssl];exact(A5.mp hp).1) hp])]];rintro i x pt σ Hx hx' hp' ⟨v5,v6,v7,v8,v9,rfl,sx,okj⟩;obtain⟨g,hg,r,r1,r2,rfl,u1,u2,u3⟩:=GY pss hx';rw[G6]at hg;obtain⟨p0,hp0,rfl⟩:=HE.mp hg;obtain⟨Hy,e3,k3,s3⟩:∃H',upd Hx pt (.tup [.int i,.ref r])=H'/\H' pt= ~~~[.int i,.ref r]/\Same Hx H':=%[_,Z,upd_same|F9 hp']
  rw[show upd Hx pt _=Hy from e3];have s2y:=sx.trans s3;apply%[pt,_,Z,GV k3,Z,_,_,Z,_,_,Z,r,_,Z,GV (s2y _ _ u1),Z,_,_,Z,_,_,Z,Z,Z|?_];apply%[_,Z,_,Z,_,Z,sl,_,Z,GW (s2y _ _ hsl)|λ l hl=>?_];obtain⟨Hz,e4,k4,s4⟩:∃H',upd Hy l (.lst (cr ss none (some (i:Int))))=H'/\H' l=↥(cr ss none (some (i:Int)))/\Same Hy H':=%[_,Z,upd_same|F9 hl]
  rw[show upd Hy l _=Hz from e4];have ec:cr ss none (some (i:Int))=ss.take i:=mE ss i;have k4:Hz l=↥(ss.take i):=by rw[k4,ec]
  have s2z:=s2y.trans s4;apply%[l,Z,%[_|GW k4]|cj (xs:=ss.take i) (λ j σ' H'=>∃v8 v9:ID V,σ'=[↑s,⇑w1,⇑h1,↑a,↑sl,⇑i,↑r1,↑r2,v8,v9]/\Same Hz H'/\∀q∈ps.take j,bU (aD ks p0) (aD ks q)=false) %[_,_,Z,Same.refl _|λ q hq=>by simp at hq] (λ j σ Hw _ ⟨_,_,_,sw,_⟩=>GW (sw _ _ k4)) ?_ ?_]
  ·rintro j x σ Hw hj ⟨v8,v9,rfl,sw,okq⟩;have hjl:j < (ss.take i).length:=(A5.mp hj).1;rw[G5]at hjl;have hj':ss[j]?=some x:=by rw[Hj ⋯]at hj;exact hj
   obtain⟨g,hg,o,o1,o2,rfl,f1,f2,f3⟩:=GY pss hj';rw[G6]at hg;obtain⟨q0,hq0,rfl⟩:=HE.mp hg;have s2w:=s2z.trans sw;apply%[o,_,Z,GV (s2w _ _ f1),Z,_,_,Z,_,_,Z,Z|?_];have stepOk:bU (aD ks p0) (aD ks q0)=false->∀q∈ps.take (j+1),bU (aD ks p0) (aD ks q)=false:=λ hov q hq=>by
    rw[HA,hq0]at hq;rcases C1.mp hq with hq | hq
    ·exact okq q hq
    ·rw[C9.mp hq];exact hov
   apply%[_,Z,_,Z,r1,o1,_,_,_,_,Z,s2w _ _ u2,s2w _ _ f2,_,Z|?_];cases c1:(decide ((aD ks p0).a < (aD ks q0).c) && decide ((aD ks q0).a < (aD ks p0).c))with
   | false=>
    exact aU (aU %[_,_,rfl,sw|stepOk (by unfold bU;rw[c1];rfl)])
   | true=>
    apply br %[_,rfl,_,rfl,r2,o2,_,_,_,_,rfl,s2w _ _ u3,s2w _ _ f3,_,rfl|?_];cases c2:(decide ((aD ks p0).b < (aD ks q0).d) && decide ((aD ks q0).b < (aD ks p0).d))with
    | false=>exact aU %[_,_,rfl,sw|stepOk (by unfold bU;rw[c1,c2];rfl)]
    | true=>
     apply br (q false _ ⟨λ z=>(by cases z),λ ld=>?_⟩ (s02.trans s2w));have:=(lay_iff.mp ld) i p0 hp0 q0 (B4 (show(ps.take i)[j]?=some q0 by rw[Hj ⋯];exact hq0));unfold bU at this;rw[c1,c2]at this;cases this
  ·rintro σ Hw ⟨v8,v9,rfl,sw,okq⟩;apply%[_,_,_,_,_,Z,s2z.trans sw|λ j p hj hp=>?_];rcases Nat.lt_or_eq_of_le (Nat.le_of_lt_succ hj)with hj | rfl
   ·exact okj j p hj hp
   ·rw[hp0]at hp;cases hp;have:(ss.take j).length=j:=by rw[G5];have:=(A5.mp hx').1;omega
    rw[this]at okq;exact okq
 rintro _ H3 ⟨v5,v6,v7,v8,v9,rfl,s23,ok⟩;exact q true H3 %[λ _=>lay_iff.mpr ok|λ _=>rfl] (s02.trans s23)
end
inductive Tr where
 | rest
 | piece (i:Nat) (c:Bool) (x y:Int)
 | cut (dn:Bool) (p:Int) (l r:Tr)
def TrV(H:Hp):Tr->V->Prop
 | .rest,v=>∃a,v=.ref a/\H a=some (.tup [.str "rest"])
 | .piece i c x y,v=>∃a,v=.ref a/\H a=some (.tup [.str "piece",.int i,.bl c,.int x,.int y])
 | .cut dn p l r,v=>∃a x y,v=.ref a/\H a=some (.tup [.str (if dn=true then "down" else "across"),.int p,x,y])/\TrV H l x/\TrV H r y
theorem TrV.keep{H H':Hp}(k:∀a xs,H a= ~~~xs->H' a= ~~~xs):∀(t:Tr){v:V},TrV H t v->TrV H' t v
 | .rest,_,⟨a,e,h⟩=>%[a,e|k _ _ h]
 | .piece ..,_,⟨a,e,h⟩=>%[a,e|k _ _ h]
 | .cut _ _ l r,_,⟨a,x,y,e,h,h1,h2⟩=>%[a,x,y,e,k _ _ h,TrV.keep k l h1|TrV.keep k r h2]
def lvN:Tr->Nat
 | .cut _ _ l r=>lvN l+lvN r
 | _=>1
def dT:Tr->Nat
 | .cut _ _ l r=>max (dT l) (dT r)+1
 | _=>0
def okU(b:Int)(ks:IF Kd):Int->Int->Tr->Prop
 | _,_,.rest=>True
 | w,h,.piece i c x y=>∃k,ks[i]?=some k/\(i,c)∈lyK ks 0/\0<=x/\0<=y/\x+sd1 k c<=w/\y+sd2 k c<=h
 | w,h,.cut dn p l r=>1<=p/\(if dn=true then p+b < w/\okU b ks p h l/\okU b ks (w - p - b) h r else p+b < h/\okU b ks w p l/\okU b ks w (h - p - b) r)
def pcT(b:Int):Tr->Int->Int->IF Pq
 | .rest,_,_=>[]
 | .piece i c px py,x,y=>[%[i,c,x+px|y+py]]
 | .cut dn p l r,x,y=>pcT b l x y ++ (if dn=true then pcT b r (x+(p+b)) y else pcT b r x (y+(p+b)))
theorem lU{k:Kd}{c:Bool}(hc:c=false\/aY k=true):∀{ks:IF Kd}{i j:Nat},ks[i]?=some k->(j+i,c)∈lyK ks j
 | [],i,j,h=>by simp at h
 | x :: ks,0,j,h=>by
  cases h;apply C1.mpr (.inl ?_);unfold lyT;cases c with
  | false=>exact B6
  | true=>
   rw[IP (hc.resolve_left ∅)];exact B3 _ (C9.mpr rfl)
 | x :: ks,i+1,j,h=>by have:=lU hc (ks:=ks) (i:=i) (j:=j+1) (by simpa using h);rw[show j+(i+1)=j+1+i by omega];exact C1.mpr (.inr this)
theorem qa{ks:IF Kd}{i:Nat}{c:Bool}{k:Kd}(h:cx ks (.int i) (.bl c)=true)(hk:ks[i]?=some k):(i,c)∈lyK ks 0:=by
 have h:(decide (0<=(i:Int)) && match ks[(i:Int).toNat]? with
  | some k=>!c || aY k
  | none=>false)=true:=h
 rw[HN,hk]at h;have h:=(C7.mp h).2;have h:(!c || aY k)=true:=h;have:=lU (c:=c) (k:=k) (by cases c <;> simp_all) (ks:=ks) (i:=i) (j:=0) hk;simpa using this
theorem rV{p q:Pq}(h:pqV p=pqV q):p=q:=by
 obtain⟨a,b,c,d⟩:=p;obtain⟨a',b',c',d'⟩:=q;unfold pqV at h;simp only[List.cons.injEq,V.int.injEq,V.bl.injEq,and_true]at h;obtain⟨h1,h2,h3,h4⟩:=h;have h1:a=a':=⋯
 rw[h1,h2,h3,h4]
def PzP(ks:IF Kd)(H:Hp)(a:IB):Prop:=∃p k,H a= ~~~(pqV p)/\cx ks (.int p.k) (.bl p.c)=true/\ks[p.k]?=some k
theorem PzP.same{ks:IF Kd}{H H':Hp}{a:IB}(s:Same H H')(h:PzP ks H a):PzP ks H' a:=by obtain⟨p,k,h1,h2⟩:=h;exact%[p,k,s _ _ h1|h2]
def Pts{α:Type}(b:Int)(as:IF α)(g:α->Int×Int)(r:Int):Prop:=(∃a∈as,(g a).2<=r)/\(∃a∈as,r+b<=(g a).1)/\∀a∈as,(g a).2<=r\/r+b<=(g a).1
theorem dU{g:IB->Int×Int}:∀{as:IF IB},(as.map λ a=>[(g a).1,(g a).2]).Pairwise (λ x y=>cf y x=false)->as.Pairwise λ x y=>(g x).1<=(g y).1
 | [],_=>List.Pairwise.nil
 | a :: r,h=>by
  rw[G9,List.pairwise_cons]at h;rw[List.pairwise_cons];apply%[λ y hy=>?_|dU h.2];have:=h.1 _ (G7.mpr %[y,hy|Z]);have this:(if (g y).1=(g a).1 then cf [(g y).2] [(g a).2]else decide ((g y).1 < (g a).1))=false:=this
  split at this
  ·omega
  ·have:=of_decide_eq_false this;omega
theorem jz{b:Int}{g:IB->Int×Int}(b0:0<=b):∀(r0:IF IB)(z p:Int),(∀a∈r0,(g a).1 < (g a).2)->r0.Pairwise (λ x y=>(g x).1<=(g y).1)->z<=p->(∃a∈r0,p+b<=(g a).1)->(∀a∈r0,(g a).2<=p\/p+b<=(g a).1)->∃(i:Nat)(a:IB),r0[i]?=some a/\(∀c∈r0.take i,(g c).2<=p)/\p+b<=(g a).1
 | [],_,_,_,_,_,h,_=>by obtain⟨a,ha,_⟩:=h;simp at ha
 | a :: r,z,p,lt,so,hz,he,al=>by
  rcases al a B6 with h | h
  ·obtain⟨i,c,h1,h2,h3⟩:=jz b0 r z p (λ x hx=>lt x (B3 _ hx)) (List.pairwise_cons.mp so).2 hz (by
    obtain⟨x,hx,hp⟩:=he;rcases G0.mp hx with rfl | hx
    ·have:=lt x B6;omega
    ·exact%[x,hx|hp]) (λ x hx=>al x (B3 _ hx))
   apply%[i+1,c,by simpa using h1,λ x hx=>?_|h3];rw[List.take_succ_cons]at hx;rcases G0.mp hx with rfl | hx
   ·exact h
   ·exact h2 x hx
  ·exact%[0,a,Z,λ x hx=>by simp at hx|h]
section
variable{P:F5}{w:F7}{K:C3}{mg:Str->ID F8}{base:Heap}
inductive spPlace(vs:IF V)(H:Hp)(Q:VK)(E_:XK):Prop
|mk(b:Int)(l:IB)(as:IF IB)(g:IB->Int×Int)(_:vs=[.int b,.ref l])(_:0<=b)(_:H l=↥(as.map V.ref))(_:as≠[])(_:as.length < 64)(_:(∀a∈as,(g a).1 < (g a).2))(_:(∀a∈as,H a= ~~~[.int (g a).1,.int (g a).2]))(_:∀H',Same H H'->((∀r,¬ Pts b as g r)->Q .non H')/\∀r,Pts b as g r->(∀p,Pts b as g p->r<=p)->Q (.int r) H')
inductive spLeafOf(vs:IF V)(H:Hp)(Q:VK)(E_:XK):Prop
|mk(x y:Int)(l:IB)(as:IF IB)(_:vs=[.int x,.int y,.ref l])(_:H l=↥(as.map V.ref))(_:(∀a∈as,∃p,H a= ~~~(pqV p)))(_:∀(r:IB)(H':Hp),(as=[]->H' r=some (.tup [.str "rest"]))->(∀a0 r0 p,as=a0 :: r0->H a0= ~~~(pqV p)->H' r=some (.tup [.str "piece",.int p.k,.bl p.c,.int (p.x - x),.int (p.y - y)]))->Same H H'->Q (.ref r) H')
theorem scplace:FnScope ["blade","spans","ordered","reach","start","end"] ["blade","spans"] (defScope ci):=%[Z,Z,Z,∅,Z,∅|∅]
theorem qb{f:IB}{fd:F6}(F:Fun K "parting_place" "parting_place" ci f fd)(B:Blt mg):FnOk P w K mg base CX0 1 f fd ["blade","spans"] (spPlace):=by
 apply F.ok scplace (λ vs H Q E h=>?_) (λ cdv A outer s H vs Q E hr h=>?_)
 ·obtain⟨b,l,as,g,rfl,_⟩:=h
  rfl
 obtain⟨b,l,as,g,rfl,b0,hl,ne,l64,glt,hg,q⟩:=h;have nd:=scplace.nd;apply%[_,((2∣(@aA _ _ _ _ _ _ _ _ _ bT Z B.sorted Ie ((pv 1)^^^ad) ∅ ∅ Z Z))<<<((3∣(((pv 2)&&&ix_list&&&ae)&&&ix_tup&&&ae))<<<((@bp _ _ _ _ _ _ _ _ E2 Z (bh (@cR _ _ _ _ _ _ _ _ _ _ fB (pv 2) (cX ae) ez)) (bc Z (4•(5•aQ))) ((((pv 4)<*>gR<*>((pv 3)|||aK|||(pv 0)))<|>((pv 3)⁻¹)<|>aE)>>>(3∣(@aA _ _ _ _ _ _ _ _ _ (cP Z) Z B.max Ia ((pv 3)^^^((pv 5)^^^ad)) ∅ ∅ Z Z))) (by intro _;rfl))<<<(bL⁻¹))))|?_];have sz:(1000:Nat) < sizeLine:=∅
 apply ai (λ σ' H'=>∃(lo:IB)(as':IF IB),σ'=[⇑b,↑l,↑lo,none,none,none]/\H' lo=↥(as'.map V.ref)/\as'.Perm as/\as'.Pairwise (λ x y=>(g x).1<=(g y).1)/\Same H H') (λ R hR=>?_) ?_
 ·exact%[_,Z,l,as,[false,false],λ a=>[(g a).1,(g a).2],Z,GW hl,⋯,Z,λ a ha=>%[_,GV (hg a ha)|Z]|λ lo as' hlo pa so=>hR _ _ %[lo,as',Z,upd_same,pa,dU so|F9 hlo]]
 rintro _ H1 ⟨lo,as',rfl,hlo,pa,sor,s1⟩;obtain⟨a0,r0,rfl⟩:∃a0 r0,as'=a0 :: r0:=by
  cases as' with
  | nil=>exact absurd (List.nil_perm.mp pa) ne
  | cons a r=>exact%[a,r|Z]
 have mem:∀a∈a0 :: r0,a∈as:=λ a ha=>pa.mem_iff.mp ha;have hg1:∀a∈a0 :: r0,H1 a= ~~~[.int (g a).1,.int (g a).2]:=λ a ha=>s1 _ _ (hg a (mem a ha));apply ai (λ σ' H'=>σ'=[⇑b,↑l,↑lo,some (.int (g a0).2),none,none]/\H1=H') (λ R hR=>?_) ?_
 ·exact%[_,Z,lo,_,0,_,Z,Z,GW hlo,cy (E3 _) rfl,a0,_,1,_,Z,Z,GV (hg1 a0 B6),Z|hR _ _ %[Z|Z]]
 rintro _ _ ⟨rfl,rfl⟩;have pm:∀{r:Int},Pts b (a0 :: r0) g r↔Pts b as g r:=by intro r;unfold Pts;simp only[pa.mem_iff]
 obtain⟨so1,so2⟩:=List.pairwise_cons.mp sor;have key:∀p,Pts b as g p->(g a0).2<=p/\∃(i:Nat)(a:IB),r0[i]?=some a/\(∀c∈r0.take i,(g c).2<=p)/\p+b<=(g a).1:=λ p hp=>by
  obtain⟨⟨c,hc,hcp⟩,⟨d,hd,hdp⟩,al⟩:=pm.mpr hp;have glt':∀a∈a0 :: r0,(g a).1 < (g a).2:=λ a ha=>glt a (mem a ha);have a0p:(g a0).2<=p:=by
   rcases al a0 B6 with h | h
   ·exact h
   ·exfalso;have l1:=glt' c hc;rcases G0.mp hc with e | hc
    ·rw[e]at hcp l1;omega
    ·have:=so1 c hc;omega
  have dr:d∈r0:=by
   rcases G0.mp hd with e | hd
   ·exfalso;rw[e]at hdp;have:=glt' a0 B6;omega
   ·exact hd
  exact%[a0p|jz b0 r0 p p (λ x hx=>glt' x (B3 _ hx)) so2 (E3 _) %[d,dr|hdp] (λ x hx=>al x (B3 _ hx))]
 apply ai (λ σ' H'=>(∃(z:Int)(v4 v5:ID V),σ'=[⇑b,↑l,↑lo,⇑z,v4,v5])/\Same H H'/\∀r,¬ Pts b as g r) (λ R hR=>?_) ?_
 ·apply%[_,Z,_,Z,lo,_,Z,GW hlo|λ sl hsl=>?_];obtain⟨H2,e2,k2,s2⟩:∃H',upd H1 sl (.lst (cr ((a0 :: r0).map V.ref) (some 1) none))=H'/\H' sl=↥(cr ((a0 :: r0).map V.ref) (some 1) none)/\Same H1 H':=%[_,Z,upd_same|F9 hsl]
  rw[show upd H1 sl _=H2 from e2];have k2:H2 sl=↥(r0.map V.ref):=by rw[k2,show cr ((a0 :: r0).map V.ref) (some 1) none=r0.map V.ref from mF _ 1]
  apply%[sl,Z,%[_|GW k2]|cj (xs:=r0.map V.ref) (λ i σ' H'=>(∃(z:Int)(v4 v5:ID V),σ'=[⇑b,↑l,↑lo,⇑z,v4,v5]/\(g a0).2<=z/\(∀c∈r0.take i,(g c).2<=z)/\(z=(g a0).2\/∃c∈r0.take i,z=(g c).2)/\∀(j:Nat)(a:IB)(p:Int),j < i->r0[j]?=some a->(g a0).2<=p->(∀c∈r0.take j,(g c).2<=p)->(g a).1 < p+b)/\Same H2 H') %[%[_,_,_,Z,E3 _,λ c hc=>by simp at hc,.inl rfl|λ j a p hj=>absurd hj (E7 _)]|Same.refl _] (λ i σ Hx _ ⟨_,sx⟩=>GW (sx _ _ k2)) ?_ ?_]
  ·rintro i x σ Hx hi ⟨⟨z,v4,v5,rfl,hz,hzt,hze,hno⟩,sx⟩;rw[G6]at hi;obtain⟨a,ha,rfl⟩:=HE.mp hi;have am:a∈a0 :: r0:=B3 _ (B4 ha);have hil:i < r0.length:=(A5.mp ha).1;apply%[a,_,Z,GV (sx _ _ (s2 _ _ (hg1 a am))),Z,_,_,Z,_,_,Z,Z|?_];apply%[_,Z,_,Z,_,Z,_,_,Z,Z,_,_,Z,Z,_,Z|?_];apply bv (λ cc=>?_) (λ cc=>?_)
   ·have cc:z+b<=(g a).1:=B9 cc;have mn:∀p,Pts b as g p->z<=p:=λ p hp=>by
     obtain⟨h0,i',a',g1,g2,g3⟩:=key p hp;have hii:i<=i':=Nat.le_of_not_lt λ hlt=>by have:=hno i' a' p hlt g1 h0 g2;omega
     rcases hze with e | ⟨c,hc,e⟩
     ·omega
     ·rw[show r0.take i=(r0.take i').take i by rw[List.take_take,Hu hii]]at hc;have:=g2 c (List.mem_of_mem_take hc);omega
    apply%[_,Z|(q Hx (s1.trans (s2.trans sx))).2 z (pm.mp %[%[a0,B6|hz],%[a,am|cc]|λ c hc=>?_]) mn];rcases G0.mp hc with rfl | hc
    ·exact .inl hz
    obtain⟨j,hj⟩:=HD.mp hc
    by_cases hji:j < i
    ·exact .inl (hzt c (B4 (show(r0.take i)[j]?=some c by rw[Hj hji];exact hj)))
    ·apply .inr (Int.le_trans cc ?_)
     by_cases hje:j=i
     ·subst hje;rw[ha]at hj;cases hj;exact E3 _
     ·have hjl:=(A5.mp hj).1;have:=HQ.mp so2 i j hil hjl ⋯;rw[E9 hil]at ha;rw[E9 hjl]at hj;cases ha;cases hj;exact this
   ·have cc:¬ z+b<=(g a).1:=λ h=>cc (A9 h);have tk:r0.take (i+1)=r0.take i ++ [a]:=by rw[HA,ha];rfl
    have nw:∀z':Int,z<=z'->(g a).2<=z'->(z'=z\/z'=(g a).2)->(g a0).2<=z'/\(∀c∈r0.take (i+1),(g c).2<=z')/\(z'=(g a0).2\/∃c∈r0.take (i+1),z'=(g c).2)/\∀(j:Nat)(a:IB)(p:Int),j < i+1->r0[j]?=some a->(g a0).2<=p->(∀c∈r0.take j,(g c).2<=p)->(g a).1 < p+b:=λ z' h1 h2 h3=>by
     rw[tk];apply%[⋯,λ c hc=>?_,?_|λ j a' p hj hja h0p htp=>?_]
     ·rcases C1.mp hc with hc | hc
      ·have:=hzt c hc;omega
      ·rw[C9.mp hc];exact h2
     ·rcases h3 with h3 | h3
      ·rcases hze with e | ⟨c,hc,e⟩
       ·exact .inl ⋯
       ·exact .inr %[c,B5 _ hc|⋯]
      ·exact .inr %[a,A4 _ (C9.mpr rfl)|h3]
     ·by_cases hje:j=i
      ·subst hje;rw[ha]at hja;cases hja;have:z<=p:=by
        rcases hze with e | ⟨c,hc,e⟩
        ·omega
        ·have:=htp c hc;omega
       omega
      ·exact hno j a' p ⋯ hja h0p htp
    apply%[_,Z,_,Z,_,_,Z,%[_,_,_,Z|nw _ ?_ ?_ ?_]|sx]
    ·split <;> omega
    ·split <;> omega
    ·split
     ·exact .inr rfl
     ·exact .inl rfl
  ·rintro σ Hx ⟨⟨z,v4,v5,e,hz,hzt,hze,hno⟩,sx⟩;apply hR _ _ %[%[z,v4,v5|e],s1.trans (s2.trans sx)|λ p hp=>?_];obtain⟨a0p,i,a,h1,h2,h3⟩:=key p hp;have:=hno i a p (by rw[GZ];exact(A5.mp h1).1) h1 a0p h2;omega
 rintro _ H2 ⟨⟨z,v4,v5,rfl⟩,s2,no⟩;exact(q H2 s2).1 no
theorem scleafof:FnScope ["x","y","pieces","kind","turned","piece_x","piece_y"] ["x","y","pieces"] (defScope fE):=%[Z,Z,Z,∅,Z,∅|∅]
theorem mV{f:IB}{trs tpc:Tok}{fd:F6}(F:Fun K "leaf_of" "leaf_of" fE f fd)(hrs:mg "REST" = some (.str "rest" trs))(hpc:mg "PIECE" = some (.str "piece" tpc)):FnOk P w K mg base CX0 1 f fd ["x","y","pieces"] (spLeafOf):=by
 apply F.ok scleafof (λ vs H Q E h=>?_) (λ cdv A outer s H vs Q E hr h=>?_)
 ·obtain⟨x,y,l,as,rfl,_⟩:=h
  rfl
 obtain⟨x,y,l,as,rfl,hl,hp,q⟩:=h;have nd:=scleafof.nd;apply%[_,(((aO (oO (pv 2) (λ _=>Z)))<|>((@aL _ _ _ _ _ ((bE (v:=.str "rest") Z hrs %[trs|Z])^^^ad))⁻¹)<|>aE)<<<((@bz _ _ _ _ _ _ ((pv 2)&&&ix_list&&&ae) (bc Z (3•(4•(5•(6•aQ))))) Z Z Z)<<<((@aL _ _ _ _ _ ((bE (v:=.str "piece") Z hpc %[tpc|Z])^^^((pv 3)^^^((pv 4)^^^(((pv 5)|||bQ|||(pv 0))^^^(((pv 6)|||bQ|||(pv 1))^^^ad))))))⁻¹)))|?_];apply ai (λ σ' H'=>σ'=[⇑x,⇑y,↑l,none,none,none,none]/\H=H'/\as≠[]) (λ R hR=>?_) ?_
 ·apply%[_,Z,_,.inl %[_,GW hl|Z]|?_];cases as with
  | nil=>exact br %[zS1|λ r hr=>q r _ (λ _=>upd_same) (λ a0 r0 p e=>nomatch e) (F9 hr)]
  | cons a r=>exact aU (hR _ _ %[rfl,rfl|List.cons_ne_nil _ _])
 rintro _ _ ⟨rfl,rfl,ne⟩;obtain⟨a0,r0,rfl⟩:∃a0 r0,as=a0 :: r0:=by
  cases as with
  | nil=>exact absurd rfl ne
  | cons a r=>exact%[a,r|Z]
 obtain⟨p,ha⟩:=hp a0 B6;apply ai (λ σ' H'=>σ'=[⇑x,⇑y,↑l,⇑p.k,some (.bl p.c),⇑p.x,⇑p.y]/\H=H') (λ R hR=>?_) ?_
 ·exact%[_,Z,l,_,0,_,Z,Z,GW hl,cy (E3 _) rfl,a0,_,Z,GV ha,Z,_,_,Z,_,_,Z,_,_,Z,_,_,Z,Z|hR _ _ %[Z|Z]]
 rintro _ _ ⟨rfl,rfl⟩;apply%[_,Z,_,Z,_,Z,_,Z,_,_,Z,Z,_,Z,_,Z,_,_,Z,Z,zS5|λ r hr=>q r _ (λ e=>nomatch e) (λ a1 r1 p1 e e1=>?_) (F9 hr)];cases e;rw[ha]at e1;have e2:=rV (HO.tup.inj (B7 e1));subst e2;exact upd_same
end
def SpA(H:Hp)(r:IB)(g:Bx):Prop:=∃r1 r2,H r= ~~~[.ref r1,.ref r2]/\H r1= ~~~[.int g.a,.int g.c]/\H r2= ~~~[.int g.b,.int g.d]
theorem SpA.same{H H':Hp}(s:Same H H'){r:IB}{g:Bx}(h:SpA H r g):SpA H' r g:=by obtain⟨r1,r2,h1,h2,h3⟩:=h;exact%[r1,r2,s _ _ h1,s _ _ h2|s _ _ h3]
def axA(H:Hp)(i:Nat)(sp:IB):IB:=match H sp with
 | some (.tup [.ref r1,.ref r2])=>if i=0 then r1 else r2
 | _=>sp
def ivA(H:Hp)(a:IB):Int×Int:=match H a with
 | some (.tup [.int x,.int y])=>(x,y)
 | _=>(0,0)
theorem kC{H:Hp}{sp r1 r2:IB}(h:H sp= ~~~[.ref r1,.ref r2])(i:Nat):axA H i sp=if i=0 then r1 else r2:=by unfold axA;rw[h]
theorem iO{H:Hp}{a:IB}{x y:Int}(h:H a= ~~~[.int x,.int y]):ivA H a=(x,y):=by unfold ivA;rw[h]
theorem SpA.ax{H:Hp}{r:IB}{g:Bx}(h:SpA H r g)(hg:g.a < g.c/\g.b < g.d)(i:Nat):∃x y,H (axA H i r)= ~~~[.int x,.int y]/\ivA H (axA H i r)=(x,y)/\x < y:=by
 obtain⟨r1,r2,h1,h2,h3⟩:=h;rw[kC h1]
 split
 ·exact%[_,_,h2,iO h2|hg.1]
 ·exact%[_,_,h3,iO h3|hg.2]
theorem qc{a b c:St}(h1:leS a b)(h2:leS b c):leS a c:=%[h2.1.trans h1.1|λ i v e=>h2.2 i v (h1.2 i v e)]
theorem gy{α:Type}(f:α->Bool):∀l:IF α,(l.filter f).length+(l.filter λ x=>!f x).length=l.length
 | []=>rfl
 | x :: l=>by have:=gy f l;rw[List.filter_cons,List.filter_cons];cases f x <;> simp <;> omega
theorem gz{α:Type}{f:α->Bool}{l:IF α}{x:α}(hx:x∈l)(h:f x=true):1<=(l.filter f).length:=He (G8.mpr %[hx|h])
def gA(ks:IF Kd)(H:Hp)(i:Nat)(a:IB):Int×Int:=match H a with
 | some (.tup [.int k,.bl c,.int x,.int y])=>(match ks[k.toNat]? with
  | some kd=>if i=0 then(x,x+sd1 kd c)else(y,y+sd2 kd c)
  | none=>(0,1))
 | _=>(0,1)
theorem dE{ks:IF Kd}{H:Hp}{a:IB}{p:Pq}{k:Kd}(h:H a= ~~~(pqV p))(hk:ks[p.k]?=some k)(i:Nat):gA ks H i a=if i=0 then(p.x,p.x+sd1 k p.c)else(p.y,p.y+sd2 k p.c):=by
 unfold gA;rw[h];show(match ks[(p.k:Int).toNat]? with
  | some kd=>if i=0 then(p.x,p.x+sd1 kd p.c)else(p.y,p.y+sd2 kd p.c)
  | none=>(0,1))=_
 rw[HN,hk]
def rW(ks:IF Kd)(H:Hp)(a:IB):Bx:=%[(gA ks H 0 a).1,(gA ks H 1 a).1,(gA ks H 0 a).2|(gA ks H 1 a).2]
theorem rX{ks:IF Kd}{H:Hp}{a:IB}{p:Pq}{k:Kd}(h:H a= ~~~(pqV p))(hk:ks[p.k]?=some k):rW ks H a=ky k p:=by
 unfold rW;rw[dE h hk,dE h hk]
 rfl
theorem eg{f g:IB->Bool}:∀{as ss:IF IB},as.length=ss.length->(∀(j:Nat)(a s:IB),as[j]?=some a->ss[j]?=some s->g s=f a)->((as.zip ss).filter λ z=>g z.2).map (·.1)=as.filter f
 | [],_,_,_=>by simp
 | a :: as,[],h,_=>by cases h
 | a :: as,s :: ss,h,e=>by
  have ih:=eg (f:=f) (g:=g) (as:=as) (ss:=ss) (by simpa using h) λ j a s h1 h2=>e (j+1) a s (by simpa using h1) (by simpa using h2);have e0:=e 0 a s rfl rfl;rw[List.zip_cons_cons,List.filter_cons,List.filter_cons];show(if g s=true then _ else _:IF (IB×IB)).map (·.1)=_;rw[e0];cases f a
  ·exact ih
  ·show a :: _=a :: _;rw[ih]
section
variable{P:F5}{w:F7}{K:C3}{mg:Str->ID F8}{base:Heap}
inductive spPCut(C:IB)(vs:IF V)(H:Hp)(Q:VK)(E_:XK):Prop
|mk(s l:IB)(b:Int)(ks:IF Kd)(as:IF IB)(_:vs=[.ref s,.ref l])(_:ShopAt C H s b ks)(_:0<=b)(_:(∀k∈ks,Good k))(_:H l=↥(as.map V.ref))(_:(∀a∈as,PzP ks H a))(_:2<=as.length)(_:as.length < 64)(_:(∀H',Same H H'->(∀i < 2,∀r,¬ Pts b as (gA ks H i) r)->Q .non H'))(_:∀(t la lb:IB)(i:Nat)(r:Int)(H':Hp),i < 2->H' t=some (.tup [.str (if i=0 then "down" else "across"),.int r,.ref la,.ref lb])->H' la=↥((as.filter λ a=>decide ((gA ks H i a).2<=r)).map V.ref)->H' lb=↥((as.filter λ a=>decide (r < (gA ks H i a).2)).map V.ref)->Pts b as (gA ks H i) r->(∀p,Pts b as (gA ks H i) p->r<=p)->(∀i' < i,∀p,¬ Pts b as (gA ks H i') p)->Same H H'->Q (.ref t) H')
theorem scpcut:FnScope ["shop","pieces","spans","axis","way","place","ahead","behind"] ["shop","pieces"] (defScope bn):=%[Z,Z,Z,∅,Z,∅|∅]
theorem rY{f C wa:IB}{fd:F6}(F:Fun K "parting_cut" "parting_cut" bn f fd)(B:Blt mg)(T:ShopTxt K C)(wy:mg "WAYS" = ↑wa)(wq:∀H,SqT K H wa [.str "down",.str "across"])(MB:Mn P w K mg base C "blade" ["self"] 1 (eE C))(DSn:Dn P w K mg base "spans_of" ["shop","piece"] 4 (spSpans C))(DPp:Dn P w K mg base "parting_place" ["blade","spans"] 1 (spPlace)):FnOk P w K mg base CX0 5 f fd ["shop","pieces"] (spPCut C):=by
 apply F.ok scpcut (λ vs H Q E h=>?_) (λ cdv A outer s H vs Q E hr h=>?_)
 ·obtain⟨s,l,b,ks,as,rfl,_⟩:=h
  rfl
 obtain⟨s,l,b,ks,as,rfl,S0,b0,gk,hl,hp,l2,l64,q1',q2'⟩:=h;have nd:=scpcut.nd;apply%[_,((cw (i:=2) (own:=["piece"]) (cs:=["shop"]) (cap:=[0]) Z nd Z Z Z (bh (pv 1)) (aR (sc:=defScope bn) (N:=["shop","pieces","spans","axis","way","place","ahead","behind"]) Z Z ∅) (λ _ _ _ _ _=>aj (i:=0) (by show List.Nodup (["piece","shop"]:IF Str) ;decide +kernel) Z (Or.inl Z) (Or.inr Z)) (λ _ _ _ _ _=>bi) (λ _ _ _ _ _=>(DSn∪((pv 1)^^^((pv 0)^^^ad)))))<<<((@bp _ _ _ _ _ _ _ _ E2 Z (pK Z B.enumerate ((bE (v:=.ref wa) Z wy Z)^^^ad)) (bc Z (au (aj (i:=3) nd Z (Or.inr Z)) (4•aQ))) ((@aI _ _ 5 _ _ _ _ nd Z (Or.inr Z) (DPp∩((pE (pv 0) T.cl MB (hr.mono ∅))^^^((cu (own:=["both"]) (cs:=["axis"]) (cap:=[3]) Z (bh (pv 2)) (aR (sc:=defScope bn) (N:=["shop","pieces","spans","axis","way","place","ahead","behind"]) Z Z ∅) (λ _ _ _ _ _=>aj (i:=0) (by show List.Nodup (["both","axis"]:IF Str) ;decide +kernel) Z (Or.inl Z) (Or.inr Z)) (λ _ _ _ _ _=>bi) (λ _ _ _ _ _=>(ar (r:=rIxT K) ix_tup (pv 0) (pv 1) (λ _ _=>Z))))^^^ad))) Z (Or.inl Z))>>>(((pv 5)<*>iq<*>bL)<|>((cw (i:=6) (own:=["piece","both"]) (cs:=["axis","place"]) (cap:=[3,5]) Z nd Z Z Z (fY Z B.zip ((pv 1)^^^((pv 2)^^^ad))) (aR (sc:=defScope bn) (N:=["shop","pieces","spans","axis","way","place","ahead","behind"]) Z Z ∅) (λ _ _ _ _ _=>gm K Z Z (by show List.Nodup (["piece","both","axis","place"]:IF Str) ;decide +kernel) Z Z Z Z) (λ _ _ _ _ _=>(eA ((ar (r:=rIxT K) ix_tup (ar (r:=rIxT K) ix_tup (pv 1) (pv 2) (λ _ _=>Z)) ae (λ _ _=>Z))<*>dj<*>(pv 3)))) (λ _ _ _ _ _=>(pv 0)))<<<((cw (i:=7) (own:=["piece","both"]) (cs:=["axis","place"]) (cap:=[3,5]) Z nd Z Z Z (fY Z B.zip ((pv 1)^^^((pv 2)^^^ad))) (aR (sc:=defScope bn) (N:=["shop","pieces","spans","axis","way","place","ahead","behind"]) Z Z ∅) (λ _ _ _ _ _=>gm K Z Z (by show List.Nodup (["piece","both","axis","place"]:IF Str) ;decide +kernel) Z Z Z Z) (λ _ _ _ _ _=>(eA ((ar (r:=rIxT K) ix_tup (ar (r:=rIxT K) ix_tup (pv 1) (pv 2) (λ _ _=>Z)) ae (λ _ _=>Z))<*>fR<*>(pv 3)))) (λ _ _ _ _ _=>(pv 0)))<<<((@aL _ _ _ _ _ ((pv 4)^^^((pv 5)^^^((pv 6)^^^((pv 7)^^^ad)))))⁻¹)))<|>aE)) (by intro _;rfl))<<<(bL⁻¹)))|?_];have sz:(1000:Nat) < sizeLine:=∅
 obtain⟨dx,r0,rs,h1,h2,h3⟩:=id S0;apply ai (λ σ' H'=>∃(sl:IB)(ss:IF IB)(gs:IF Bx),σ'=[↑s,↑l,↑sl,none,none,none,none,none]/\H' sl=↥(ss.map V.ref)/\Paired (SpA H') ss gs/\(∀g∈gs,g.a < g.c/\g.b < g.d)/\gs=as.map (rW ks H)/\Same H H') (λ R hR=>?_) ?_
 ·apply%[_,Z,l,Z,%[_|GW hl]|(bJ (K:=K) (.inl hl) (λ i us Hx=>Same H Hx/\∃(ss:IF IB)(gs:IF Bx),us=ss.map V.ref/\Paired (SpA Hx) ss gs/\(∀g∈gs,g.a < g.c/\g.b < g.d)/\gs=(as.take i).map (rW ks H)) (λ i us Hx _ ⟨sx,_⟩ o e=>sx _ _ e) %[Same.refl _,[],[],Z,.nil,λ g hg=>by simp at hg|Z] ?_ ?_).1 hl]
  ·rintro i x us Hx hi ⟨sx,ss,gs,rfl,pg,hgs,gl⟩;have hin:i < (as.map V.ref).length:=(A5.mp hi).1;rw[G6]at hi;obtain⟨a,ha,rfl⟩:=HE.mp hi;obtain⟨p,k,e1,e2,e3⟩:=hp a (B4 ha);have g0:=gk k (B4 e3);have sl:=E1 pg;rw[GZ]at hin;have gll:gs.length=i:=by rw[gl,GZ,G5];omega
   apply%[by rw[GZ];omega,leS.set rfl|bj ?_];apply%[_,Z,_,Z,s,a,b,ks,p,k,Z,cV sx S0,.inr (sx _ _ e1),e2,e3|λ r r1 r2 H3 f1 f2 f3 s3=>Nx.of (by rw[GZ];exact hin) %[sx.trans s3,ss ++ [r],gs ++ [ky k p],by rw[HB];rfl,cO (GX pg λ v g h=>h.same s3) (.cons %[r1,r2,f1,f2|f3] .nil),λ g hg=>?_|by rw[gl,HA,ha,HB,<- rX e1 e3];rfl]];rcases C1.mp hg with hg | hg
   ·exact hgs g hg
   ·rw[C9.mp hg];have w1:=g0.w;have w2:=g0.h;constructor
    ·show p.x < p.x+sd1 k p.c;unfold sd1;split <;> omega
    ·show p.y < p.y+sd2 k p.c;unfold sd2;split <;> omega
  ·rintro us Hx ⟨sx,ss,gs,rfl,pg,hgs,gl⟩;have sl:=E1 pg;rw[GZ,HC]at gl;have gll:gs.length=as.length:=by rw[gl,GZ]
   apply%[by rw[GZ];omega|λ lo hlo=>?_];obtain⟨Hy,e1,k1,s1⟩:∃H',upd Hx lo (.lst (ss.map V.ref))=H'/\H' lo=↥(ss.map V.ref)/\Same Hx H':=%[_,Z,upd_same|F9 hlo]
   rw[show upd Hx lo _=Hy from e1];exact hR _ _ %[lo,ss,gs,rfl,k1,GX pg λ v g h=>h.same s1,hgs,gl|sx.trans s1]
 rintro _ H2 ⟨sl,ss,gs,rfl,hsl,pg,hgs,gl,s02⟩;have ssl:=E1 pg;have gll:gs.length=as.length:=by rw[gl,GZ]
 have asl:as.length=ss.length:=⋯
 have axf:∀(i:Nat)(sp:IB),sp∈ss->∃x y,H2 (axA H2 i sp)= ~~~[.int x,.int y]/\ivA H2 (axA H2 i sp)=(x,y)/\x < y:=λ i sp hsp=>by obtain⟨j,hj,e⟩:=List.getElem_of_mem hsp;obtain⟨g,hg,h⟩:=GY pg (show ss[j]?=some sp by rw[E9 hj,e]);exact h.ax (hgs g (B4 hg)) i
 have axt:∀(i:Nat)(sp:IB),i < 2->sp∈ss->∃r1 r2:IB,H2 sp= ~~~[.ref r1,.ref r2]/\atI [V.ref r1,V.ref r2] (i:Int)=↑(axA H2 i sp):=λ i sp hi hsp=>by
  obtain⟨j,hj,e⟩:=List.getElem_of_mem hsp;obtain⟨g,hg,r1,r2,f1,_⟩:=GY pg (show ss[j]?=some sp by rw[E9 hj,e]);apply%[r1,r2,f1|?_];rw[kC f1]
  match i,hi with
  | 0,_=>rfl
  | 1,_=>rfl
 have link:∀(i j:Nat)(a sp:IB),i < 2->as[j]?=some a->ss[j]?=some sp->ivA H2 (axA H2 i sp)=gA ks H i a:=λ i j a sp hi ha hsp=>by
  obtain⟨g,hg,r1,r2,f1,f2,f3⟩:=GY pg hsp;rw[gl,G6,ha]at hg;cases hg;rw[kC f1]
  match i,hi with
  | 0,_=>exact iO f2
  | 1,_=>exact iO f3
 have pif:∀(i:Nat)(r:Int),i < 2->(Pts b (ss.map (axA H2 i)) (ivA H2) r↔Pts b as (gA ks H i) r):=λ i r hi=>by
  have m1:∀a∈as,∃c∈ss.map (axA H2 i),ivA H2 c=gA ks H i a:=λ a ha=>by obtain⟨j,hj⟩:=HD.mp ha;have hjl:=(A5.mp hj).1;exact%[_,G7.mpr %[_,Hs (show j < ss.length by omega)|Z]|link i j a _ hi hj (E9 ⋯)]
  have m2:∀c∈ss.map (axA H2 i),∃a∈as,ivA H2 c=gA ks H i a:=λ c hc=>by obtain⟨sp,hsp,rfl⟩:=G7.mp hc;obtain⟨j,hj⟩:=HD.mp hsp;have hjl:=(A5.mp hj).1;exact%[_,Hs (show j < as.length by omega)|link i j _ sp hi (E9 ⋯) hj]
  constructor
  ·rintro⟨⟨c,hc,h1⟩,⟨d,hd,h2⟩,h3⟩;obtain⟨a,ha,e⟩:=m2 c hc;obtain⟨a',ha',e'⟩:=m2 d hd;apply%[%[a,ha|by rw[<- e];exact h1],%[a',ha'|by rw[<- e'];exact h2]|λ x hx=>?_];obtain⟨y,hy,e⟩:=m1 x hx;rw[<- e];exact h3 y hy
  ·rintro⟨⟨c,hc,h1⟩,⟨d,hd,h2⟩,h3⟩;obtain⟨a,ha,e⟩:=m1 c hc;obtain⟨a',ha',e'⟩:=m1 d hd;apply%[%[a,ha|by rw[e];exact h1],%[a',ha'|by rw[e'];exact h2]|λ x hx=>?_];obtain⟨y,hy,e⟩:=m2 x hx;rw[e];exact h3 y hy
 apply ai (λ σ' H'=>(∃v3 v4 v5 v6 v7:ID V,σ'=[↑s,↑l,↑sl,v3,v4,v5,v6,v7])/\Same H2 H'/\∀i < 2,∀r,¬ Pts b as (gA ks H i) r) (λ R hR=>?_) ?_
 ·apply%[wa,_,Z,wq _|mJ (K:=K) (l:=wa) (xs:=[.str "down",.str "across"]) (λ i σ' H'=>(∃v3 v4 v5 v6 v7:ID V,σ'=[↑s,↑l,↑sl,v3,v4,v5,v6,v7])/\Same H2 H'/\∀i' < i,∀r,¬ Pts b as (gA ks H i') r) %[%[_,_,_,_,_|Z],Same.refl _|λ i' h=>absurd h (E7 _)] (λ i σ Hx _=>wq Hx) ?_ (λ σ Hx h=>hR _ _ h)];rintro i x pt σ Hx hi hpt ⟨⟨v3,v4,v5,v6,v7,rfl⟩,sx,nop⟩;have i2:i < 2:=(A5.mp hi).1;obtain⟨wy,rfl,ewy⟩:∃wy:Str,x=.str wy/\wy=(if i=0 then("down" : Str)else("across" : Str)):=by
   match i,i2,hi with
   | 0,_,hi=>exact%[_,(B7 hi).symm|Z]
   | 1,_,hi=>exact%[_,(B7 hi).symm|Z]
  obtain⟨Hy,e3,k3,s3⟩:∃H',upd Hx pt (.tup [.int i,.str wy])=H'/\H' pt= ~~~[.int i,.str wy]/\Same Hx H':=%[_,Z,upd_same|F9 hpt]
  rw[show upd Hx pt _=Hy from e3];have s2y:=sx.trans s3;apply%[pt,_,Z,GV k3,Z,_,_,Z,_,_,Z,Z|?_];apply ai (λ σ' H'=>∃pv:V,σ'=[↑s,↑l,↑sl,⇑i,some (.str wy),some pv,v6,v7]/\((pv=.non/\∀r,¬ Pts b as (gA ks H i) r)\/∃r,pv=.int r/\Pts b as (gA ks H i) r/\∀p,Pts b as (gA ks H i) p->r<=p)/\Same H2 H') (λ R hR=>?_) ?_
  ·apply%[_,Z,s,dx,_,Z,s2y _ _ (s02 _ _ h1),dI _ _ ∅ ∅,s,b,ks,Z,cV (s02.trans s2y) S0,_,Z,sl,Z,%[_|GW (s2y _ _ hsl)]|(bJ (K:=K) (.inl (s2y _ _ hsl)) (λ j us Hz=>Same Hy Hz/\us=((ss.take j).map (axA H2 i)).map V.ref) (λ j us Hz _ ⟨sz,_⟩ o e=>sz _ _ e) %[Same.refl _|Z] ?_ ?_).1 (s2y _ _ hsl)]
   ·rintro j x us Hz hj ⟨syz,rfl⟩;have hjn:j < (ss.map V.ref).length:=(A5.mp hj).1;rw[G6]at hj;obtain⟨sp,hsp,rfl⟩:=HE.mp hj;obtain⟨r1,r2,f1,f2⟩:=axt i sp i2 (B4 hsp);rw[GZ]at hjn;apply%[by rw[GZ,GZ,G5];omega,leS.set rfl|bj ?_];apply%[_,Z,_,Z,sp,_,_,_,Z,Z,GV (syz _ _ (s2y _ _ f1)),f2|Nx.of (by rw[GZ];exact hjn) %[syz|?_]];rw[HA,hsp];simp only[HS,HB,G9,Hv]
   ·rintro us Hz ⟨syz,rfl⟩;rw[show(ss.map V.ref).length=ss.length from GZ _,HC];apply%[by rw[GZ,GZ];omega|λ lo hlo=>?_];obtain⟨Hw,e4,k4,s4⟩:∃H',upd Hz lo (.lst ((ss.map (axA H2 i)).map V.ref))=H'/\H' lo=↥((ss.map (axA H2 i)).map V.ref)/\Same Hz H':=%[_,Z,upd_same|F9 hlo]
    rw[show upd Hz lo _=Hw from e4];have s2w:=s2y.trans (syz.trans s4);apply%[b,lo,ss.map (axA H2 i),ivA H2,Z,b0,k4,λ z=>?_,by rw[GZ];omega,λ a ha=>?_,λ a ha=>?_|λ H' s'=>%[λ no=>hR _ _ %[.non,Z,.inl %[Z|λ r hr=>no r ((pif i r i2).mpr hr)]|s2w.trans s']|λ r hr mn=>hR _ _ %[.int r,Z,.inr %[r,Z,(pif i r i2).mp hr|λ p hp=>mn p ((pif i p i2).mpr hp)]|s2w.trans s']]]
    ·have z0:=Ii List.length z;rw[GZ]at z0;have z0:ss.length=0:=z0;omega
    ·obtain⟨sp,hsp,rfl⟩:=G7.mp ha;obtain⟨x,y,f1,f2,f3⟩:=axf i sp hsp;rw[f2];exact f3
    ·obtain⟨sp,hsp,rfl⟩:=G7.mp ha;obtain⟨x,y,f1,f2,_⟩:=axf i sp hsp;rw[f2];exact s2w _ _ f1
  rintro _ H4 ⟨pv,rfl,hpv,s24⟩;apply%[_,Z,Z,_,Z|?_];rcases hpv with⟨rfl,npi⟩ | ⟨r,rfl,hpts,mn⟩
  ·apply aU %[%[_,_,_,_,_|rfl],s24|λ i' hi'=>?_];rcases Nat.lt_or_eq_of_le (Nat.le_of_lt_succ hi')with h | rfl
   ·exact nop i' h
   ·exact npi
  apply br ?_;have s04:=s02.trans s24;apply ai (λ σ' H'=>∃la:IB,σ'=[↑s,↑l,↑sl,⇑i,some (.str wy),⇑r,↑la,v7]/\H' la=↥((((as.zip ss).filter λ z=>decide ((ivA H2 (axA H2 i z.2)).2<=r)).map (·.1)).map V.ref)/\Same H4 H') (λ R hR=>?_) ?_
  ·apply%[_,Z,_,Z,l,sl,_,_,Z,s04 _ _ hl,s24 _ _ hsl|eG (xs:=as.map V.ref) (ys:=ss.map V.ref) (λ j zs Hz=>Same H4 Hz/\zs=((((as.zip ss).take j).filter λ z=>decide ((ivA H2 (axA H2 i z.2)).2<=r)).map (·.1)).map V.ref) (by rw[GZ,GZ,asl]) (λ j zs Hz ⟨sz,_⟩=>%[sz _ _ (s04 _ _ hl)|sz _ _ (s24 _ _ hsl)]) %[Same.refl _|Z] (λ j zs Hz hj ⟨_,e⟩=>?_) ?_ ?_]
   ·rw[e,GZ,GZ];apply C5 (HM _ _) ?_;rw[G5,Ho];omega
   ·rintro j x y tz zs Hz hx hy htz ⟨sz,rfl⟩;rw[G6]at hx hy;obtain⟨a,ha,rfl⟩:=HE.mp hx;obtain⟨sp,hsp,rfl⟩:=HE.mp hy;have hjn:j < as.length:=(A5.mp ha).1;obtain⟨r1,r2,f1,f2⟩:=axt i sp i2 (B4 hsp);obtain⟨xx,yy,f3,f4,_⟩:=axf i sp (B4 hsp);obtain⟨Hw,e8,k8,s8⟩:∃H',upd Hz tz (.tup [.ref a,.ref sp])=H'/\H' tz= ~~~[.ref a,.ref sp]/\Same Hz H':=%[_,Z,upd_same|F9 htz]
    rw[show upd Hz tz _=Hw from e8];have szw:=sz.trans s8;apply%[tz,_,Z,GV k8,Z,_,_,Z,_,_,Z,Z,qc (leS.set rfl) (leS.set rfl)|?_];apply%[_,Z,_,Z,sp,_,_,_,Z,Z,GV (szw _ _ (s24 _ _ f1)),f2,_,_,1,_,Z,Z,GV (szw _ _ (s24 _ _ f3)),Z,_,Z,_,_,Z,Z,_,Z|?_];have hzz:(as.zip ss)[j]?=some (a,sp):=List.getElem?_zip_eq_some.mpr %[ha|hsp];have ey:(ivA H2 (axA H2 i sp)).2=yy:=by rw[f4]
    have nx:∀us:IF V,us=(((((as.zip ss).take (j+1)).filter λ z=>decide ((ivA H2 (axA H2 i z.2)).2<=r)).map (·.1)).map V.ref)->Nx (as.map V.ref).length (λ j zs Hz=>Same H4 Hz/\zs=((((as.zip ss).take j).filter λ z=>decide ((ivA H2 (axA H2 i z.2)).2<=r)).map (·.1)).map V.ref) j us Hw:=λ us e=>Nx.of (by rw[GZ];exact hjn) %[szw|e];rw[HA,hzz,HS,List.filter_append]at nx;apply bv (λ cc=>?_) (λ cc=>?_)
    ·apply%[_,Z|nx _ ?_];rw[show[(a,sp)].filter (λ z:IB×IB=>decide ((ivA H2 (axA H2 i z.2)).2<=r))=[(a,sp)]by rw[HV (by show decide _=true;rw[ey];exact cc)];rfl,HB,HB]
     rfl
    ·apply nx _ ?_;rw[show[(a,sp)].filter (λ z:IB×IB=>decide ((ivA H2 (axA H2 i z.2)).2<=r))=[]by rw[HJ (by show¬ decide _=true;rw[ey];exact cc)];rfl,HZ]
   ·rintro zs Hz ⟨sz,rfl⟩;rw[show(as.map V.ref).length=(as.zip ss).length by rw[GZ,Ho];omega,HC];apply%[by rw[GZ,GZ];exact C4 (HM _ _) (by rw[Ho];omega)|λ lo hlo=>?_];obtain⟨Hw,e9,k9,s9⟩:∃H',upd Hz lo (.lst ((((as.zip ss).filter λ z=>decide ((ivA H2 (axA H2 i z.2)).2<=r)).map (·.1)).map V.ref))=H'/\H' lo=↥((((as.zip ss).filter λ z=>decide ((ivA H2 (axA H2 i z.2)).2<=r)).map (·.1)).map V.ref)/\Same Hz H':=%[_,Z,upd_same|F9 hlo]
    rw[show upd Hz lo _=Hw from e9];exact hR _ _ %[lo,rfl,k9|sz.trans s9]
  rintro _ H5 ⟨la,rfl,hla,s45⟩;apply ai (λ σ' H'=>∃lb:IB,σ'=[↑s,↑l,↑sl,⇑i,some (.str wy),⇑r,↑la,↑lb]/\H' lb=↥((((as.zip ss).filter λ z=>decide (r < (ivA H2 (axA H2 i z.2)).2)).map (·.1)).map V.ref)/\Same H5 H') (λ R hR=>?_) ?_
  ·apply%[_,Z,_,Z,l,sl,_,_,Z,(s04.trans s45) _ _ hl,(s24.trans s45) _ _ hsl|eG (xs:=as.map V.ref) (ys:=ss.map V.ref) (λ j zs Hz=>Same H5 Hz/\zs=((((as.zip ss).take j).filter λ z=>decide (r < (ivA H2 (axA H2 i z.2)).2)).map (·.1)).map V.ref) (by rw[GZ,GZ,asl]) (λ j zs Hz ⟨sz,_⟩=>%[sz _ _ ((s04.trans s45) _ _ hl)|sz _ _ ((s24.trans s45) _ _ hsl)]) %[Same.refl _|Z] (λ j zs Hz hj ⟨_,e⟩=>?_) ?_ ?_]
   ·rw[e,GZ,GZ];apply C5 (HM _ _) ?_;rw[G5,Ho];omega
   ·rintro j x y tz zs Hz hx hy htz ⟨sz,rfl⟩;rw[G6]at hx hy;obtain⟨a,ha,rfl⟩:=HE.mp hx;obtain⟨sp,hsp,rfl⟩:=HE.mp hy;have hjn:j < as.length:=(A5.mp ha).1;obtain⟨r1,r2,f1,f2⟩:=axt i sp i2 (B4 hsp);obtain⟨xx,yy,f3,f4,_⟩:=axf i sp (B4 hsp);obtain⟨Hw,e8,k8,s8⟩:∃H',upd Hz tz (.tup [.ref a,.ref sp])=H'/\H' tz= ~~~[.ref a,.ref sp]/\Same Hz H':=%[_,Z,upd_same|F9 htz]
    rw[show upd Hz tz _=Hw from e8];have szw:=sz.trans s8;apply%[tz,_,Z,GV k8,Z,_,_,Z,_,_,Z,Z,qc (leS.set rfl) (leS.set rfl)|?_];apply%[_,Z,_,Z,sp,_,_,_,Z,Z,GV (szw _ _ ((s24.trans s45) _ _ f1)),f2,_,_,1,_,Z,Z,GV (szw _ _ ((s24.trans s45) _ _ f3)),Z,_,Z,_,_,Z,Z,_,Z|?_];have hzz:(as.zip ss)[j]?=some (a,sp):=List.getElem?_zip_eq_some.mpr %[ha|hsp];have ey:(ivA H2 (axA H2 i sp)).2=yy:=by rw[f4]
    have nx:∀us:IF V,us=(((((as.zip ss).take (j+1)).filter λ z=>decide (r < (ivA H2 (axA H2 i z.2)).2)).map (·.1)).map V.ref)->Nx (as.map V.ref).length (λ j zs Hz=>Same H5 Hz/\zs=((((as.zip ss).take j).filter λ z=>decide (r < (ivA H2 (axA H2 i z.2)).2)).map (·.1)).map V.ref) j us Hw:=λ us e=>Nx.of (by rw[GZ];exact hjn) %[szw|e];rw[HA,hzz,HS,List.filter_append]at nx;apply bv (λ cc=>?_) (λ cc=>?_)
    ·apply%[_,Z|nx _ ?_];rw[show[(a,sp)].filter (λ z:IB×IB=>decide (r < (ivA H2 (axA H2 i z.2)).2))=[(a,sp)]by rw[HV (by show decide _=true;rw[ey];exact cc)];rfl,HB,HB]
     rfl
    ·apply nx _ ?_;rw[show[(a,sp)].filter (λ z:IB×IB=>decide (r < (ivA H2 (axA H2 i z.2)).2))=[]by rw[HJ (by show¬ decide _=true;rw[ey];exact cc)];rfl,HZ]
   ·rintro zs Hz ⟨sz,rfl⟩;rw[show(as.map V.ref).length=(as.zip ss).length by rw[GZ,Ho];omega,HC];apply%[by rw[GZ,GZ];exact C4 (HM _ _) (by rw[Ho];omega)|λ lo hlo=>?_];obtain⟨Hw,e9,k9,s9⟩:∃H',upd Hz lo (.lst ((((as.zip ss).filter λ z=>decide (r < (ivA H2 (axA H2 i z.2)).2)).map (·.1)).map V.ref))=H'/\H' lo=↥((((as.zip ss).filter λ z=>decide (r < (ivA H2 (axA H2 i z.2)).2)).map (·.1)).map V.ref)/\Same Hz H':=%[_,Z,upd_same|F9 hlo]
    rw[show upd Hz lo _=Hw from e9];exact hR _ _ %[lo,rfl,k9|sz.trans s9]
  rintro _ H6 ⟨lb,rfl,hlb,s56⟩;apply%[_,Z,_,Z,_,Z,_,Z,zS4|λ t ht=>?_];obtain⟨H7,e7,k7,s7⟩:∃H',upd H6 t (.tup [.str wy,.int r,.ref la,.ref lb])=H'/\H' t= ~~~[.str wy,.int r,.ref la,.ref lb]/\Same H6 H':=%[_,Z,upd_same|F9 ht]
  rw[show upd H6 t _=H7 from e7];have f1:=eg (f:=λ a=>decide ((gA ks H i a).2<=r)) (g:=λ s=>decide ((ivA H2 (axA H2 i s)).2<=r)) asl λ j a s ha hs=>by show decide _=decide _;rw[link i j a s i2 ha hs]
  have f2:=eg (f:=λ a=>decide (r < (gA ks H i a).2)) (g:=λ s=>decide (r < (ivA H2 (axA H2 i s)).2)) asl λ j a s ha hs=>by show decide _=decide _;rw[link i j a s i2 ha hs]
  have hla':=s7 _ _ (s56 _ _ hla);have hlb':=s7 _ _ hlb;rw[f1]at hla';rw[f2]at hlb';rw[ewy]at k7;exact q2' t la lb i r H7 i2 k7 hla' hlb' hpts mn nop (s04.trans (s45.trans (s56.trans s7)))
 rintro _ H3 ⟨⟨v3,v4,v5,v6,v7,rfl⟩,s23,nop⟩;exact q1' H3 (s02.trans s23) nop
end
inductive Rs
 | tree (T:Tr)
 | knot (L:IF Pq)
def eM(p:Pq):IF Int:=[(p.k:Int),if p.c=true then 1 else 0,p.x,p.y]
theorem qd{p q:Pq}(h:eM p=eM q):p=q:=by
 obtain⟨k,c,x,y⟩:=p;obtain⟨k',c',x',y'⟩:=q;unfold eM at h;injection h with h1 h
 injection h with h2 h
 injection h with h3 h
 injection h with h4 _
 have e1:(k:Int)=k':=h1;have e1:k=k':=⋯
 have e3:x=x':=h3;have e4:y=y':=h4;have h2:(if c=true then(1:Int)else 0)=if c'=true then 1 else 0:=h2
 have e2:c=c':=by cases c <;> cases c' <;> first | rfl | (exact absurd h2 ∅)
 rw[e1,e2,e3,e4]
def Srt(L:IF Pq):Prop:=(L.map eM).Pairwise λ x y=>cf y x=false
theorem Srt.uniq{L L' M:IF Pq}(h1:L.Perm M)(s1:Srt L)(h2:L'.Perm M)(s2:Srt L'):L=L':=by
 have e:L.map eM=L'.map eM:=List.Perm.eq_of_pairwise (le:=λ x y=>cf y x=false) (λ a b _ _ a1 a2=>fe _ _ a2 a1) s1 s2 ((h1.trans h2.symm).map eM);have inj:∀{A B:IF Pq},A.map eM=B.map eM->A=B:=λ {A}=>by
  induction A with
  | nil=>intro B h;cases B with
   | nil=>rfl
   | cons _ _=>cases h
  | cons a A ih=>intro B h;cases B with
   | nil=>cases h
   | cons c B=>
    rw[G9,G9]at h;injection h with h1 h2
    rw[qd h1,ih h2]
 exact inj e
def CutAt{α:Type}(b:Int)(g:Nat->α->Int×Int)(qs:IF α)(i:Nat)(r:Int):Prop:=i < 2/\Pts b qs (g i) r/\(∀p,Pts b qs (g i) p->r<=p)/\∀i' < i,∀p,¬ Pts b qs (g i') p
theorem CutAt.uniq{α:Type}{b:Int}{g:Nat->α->Int×Int}{qs:IF α}{i j:Nat}{r s:Int}(h:CutAt b g qs i r)(h':CutAt b g qs j s):i=j/\r=s:=by
 obtain⟨_,p,m,n⟩:=h;obtain⟨_,p',m',n'⟩:=h';have e:i=j:=by
  rcases Nat.lt_trichotomy i j with c | c | c
  ·exact absurd p (n' i c r)
  ·exact c
  ·exact absurd p' (n j c s)
 subst e;exact%[Z|Int.le_antisymm (m s p') (m' r p)]
inductive PR{α:Type}(b:Int)(g:Nat->α->Int×Int)(pq:α->Pq):Int->Int->IF α->Rs->Prop
 | nil {x y:Int}:PR b g pq x y [] (.tree .rest)
 | one {x y:Int} {a:α}:PR b g pq x y [a] (.tree (.piece (pq a).k (pq a).c ((pq a).x - x) ((pq a).y - y)))
 | knot {x y:Int} {qs:IF α} {L:IF Pq}:2<=qs.length->(∀i < 2,∀r,¬ Pts b qs (g i) r)->L.Perm (qs.map pq)->Srt L->PR b g pq x y qs (.knot L)
 | left {x y r:Int} {qs:IF α} {i:Nat} {L:IF Pq}:2<=qs.length->CutAt b g qs i r->PR b g pq x y (qs.filter λ a=>decide ((g i a).2<=r)) (.knot L)->PR b g pq x y qs (.knot L)
 | right {x y r:Int} {qs:IF α} {i:Nat} {T:Tr} {L:IF Pq}:2<=qs.length->CutAt b g qs i r->PR b g pq x y (qs.filter λ a=>decide ((g i a).2<=r)) (.tree T)->PR b g pq (if i=0 then r+b else x) (if i=0 then y else r+b) (qs.filter λ a=>decide (r < (g i a).2)) (.knot L)->PR b g pq x y qs (.knot L)
 | cut {x y r:Int} {qs:IF α} {i:Nat} {T U:Tr}:2<=qs.length->CutAt b g qs i r->PR b g pq x y (qs.filter λ a=>decide ((g i a).2<=r)) (.tree T)->PR b g pq (if i=0 then r+b else x) (if i=0 then y else r+b) (qs.filter λ a=>decide (r < (g i a).2)) (.tree U)->PR b g pq x y qs (.tree (.cut (decide (i=0)) (if i=0 then r - x else r - y) T U))
theorem PR.uniq{α:Type}{b:Int}{g:Nat->α->Int×Int}{pq:α->Pq}{x y:Int}{qs:IF α}{o:Rs}(h:PR b g pq x y qs o):∀{o':Rs},PR b g pq x y qs o'->o=o':=by
 induction h with
 | nil=>
  intro o' h;cases h with
  | nil=>rfl
  | knot l=>simp at l
  | left l=>simp at l
  | right l=>simp at l
  | cut l=>simp at l
 | one=>
  intro o' h;cases h with
  | one=>rfl
  | knot l=>simp at l
  | left l=>simp at l
  | right l=>simp at l
  | cut l=>simp at l
 | knot l no pm so=>
  intro o' h;cases h with
  | nil=>simp at l
  | one=>simp at l
  | knot _ _ pm' so'=>rw[Srt.uniq pm so pm' so']
  | left _ c _=>exact absurd c.2.1 (no _ c.1 _)
  | right _ c _ _=>exact absurd c.2.1 (no _ c.1 _)
  | cut _ c _ _=>exact absurd c.2.1 (no _ c.1 _)
 | left l c _ ih=>
  intro o' h;cases h with
  | nil=>simp at l
  | one=>simp at l
  | knot _ no _ _=>exact absurd c.2.1 (no _ c.1 _)
  | left _ c' h'=>obtain⟨rfl,rfl⟩:=c.uniq c';exact ih h'
  | right _ c' h' _=>obtain⟨rfl,rfl⟩:=c.uniq c';cases ih h'
  | cut _ c' h' _=>obtain⟨rfl,rfl⟩:=c.uniq c';cases ih h'
 | right l c _ _ ih1 ih2=>
  intro o' h;cases h with
  | nil=>simp at l
  | one=>simp at l
  | knot _ no _ _=>exact absurd c.2.1 (no _ c.1 _)
  | left _ c' h'=>obtain⟨rfl,rfl⟩:=c.uniq c';cases ih1 h'
  | right _ c' _ h'=>obtain⟨rfl,rfl⟩:=c.uniq c';exact ih2 h'
  | cut _ c' _ h'=>obtain⟨rfl,rfl⟩:=c.uniq c';cases ih2 h'
 | cut l c _ _ ih1 ih2=>
  intro o' h;cases h with
  | knot _ no _ _=>exact absurd c.2.1 (no _ c.1 _)
  | left _ c' h'=>obtain⟨rfl,rfl⟩:=c.uniq c';cases ih1 h'
  | right _ c' _ h'=>obtain⟨rfl,rfl⟩:=c.uniq c';cases ih2 h'
  | cut _ c' h1 h2=>
   obtain⟨rfl,rfl⟩:=c.uniq c';have e1:=ih1 h1;have e2:=ih2 h2;injection e1 with e1
   injection e2 with e2
   rw[e1,e2]
  | nil=>simp at l
  | one=>simp at l
def gB(H:Hp)(a:IB):IF Int:=match H a with
 | some (.tup [.int i,.bl c,.int x,.int y])=>[i,if c=true then 1 else 0,x,y]
 | _=>[]
theorem cL{H:Hp}{a:IB}{p:Pq}(h:H a= ~~~(pqV p)):gB H a=[(p.k:Int),if p.c=true then 1 else 0,p.x,p.y]:=by
 unfold gB;rw[h]
 rfl
def Kn2(b:Int)(g:Nat->IB->Int×Int)(L:IF IB):Prop:=2<=L.length/\∀i < 2,∀r,¬ Pts b L (g i) r
def KT(b:Int)(g:Nat->IB->Int×Int)(as:IF IB)(z:Str):Prop:=(z = "knot" /\ ∃L,L.Sublist as/\Kn2 b g L)\/(z = "tree" /\ ∀L,L.Sublist as->¬ Kn2 b g L)
theorem Kn2.congr{b:Int}{g g':Nat->IB->Int×Int}{L:IF IB}(e:∀a∈L,∀i,g i a=g' i a)(h:Kn2 b g L):Kn2 b g' L:=by apply%[h.1|λ i hi r hp=>h.2 i hi r ?_];obtain⟨⟨a,ha,h1⟩,⟨c,hc,h2⟩,h3⟩:=hp;exact%[%[a,ha|by rw[e a ha];exact h1],%[c,hc|by rw[e c hc];exact h2]|λ x hx=>by rw[e x hx];exact h3 x hx]
theorem KT.congr{b:Int}{g g':Nat->IB->Int×Int}{as:IF IB}{z:Str}(e:∀a∈as,∀i,g i a=g' i a)(h:KT b g as z):KT b g' as z:=by
 rcases h with⟨hz,L,hL,hk⟩ | ⟨hz,hn⟩
 ·exact .inl %[hz,L,hL|hk.congr λ a ha=>e a (hL.subset ha)]
 ·exact .inr %[hz|λ L hL hk=>hn L hL (hk.congr λ a ha i=>(e a (hL.subset ha) i).symm)]
theorem KT.sub{b:Int}{g:Nat->IB->Int×Int}{as as1:IF IB}{z:Str}(s:as1.Sublist as)(hz:z = "knot")(h:KT b g as1 z):KT b g as z:=by
 rcases h with⟨_,L,hL,hk⟩ | ⟨hz',_⟩
 ·exact .inl %[hz,L,hL.trans s|hk]
 ·rw[hz]at hz';exact absurd hz' ∅
theorem KT.tree{b:Int}{g:Nat->IB->Int×Int}{as:IF IB}{z:Str}(hz:z ≠ "knot")(h:KT b g as z):∀L,L.Sublist as->¬ Kn2 b g L:=by
 rcases h with⟨h,_⟩ | ⟨_,h⟩
 ·exact absurd h hz
 ·exact h
theorem KT.cut{b:Int}{g:Nat->IB->Int×Int}{as:IF IB}{i:Nat}{r:Int}(hi:i < 2)(hp:Pts b as (g i) r)(h1:∀L,L.Sublist (as.filter λ a=>decide ((g i a).2<=r))->¬ Kn2 b g L)(h2:∀L,L.Sublist (as.filter λ a=>decide (r < (g i a).2))->¬ Kn2 b g L):∀L,L.Sublist as->¬ Kn2 b g L:=λ L hL hk=>by
 by_cases a1:∃a∈L,(g i a).2<=r
 ·by_cases a2:∃a∈L,r < (g i a).2
  ·obtain⟨c,hc,hcr⟩:=a2;apply hk.2 i hi r %[a1,%[c,hc|?_]|λ a ha=>hp.2.2 a (hL.subset ha)];rcases hp.2.2 c (hL.subset hc)with h | h
   ·omega
   ·exact h
  ·apply h1 L ?_ hk;have:=hL.filter (λ a=>decide ((g i a).2<=r));rwa [List.filter_eq_self.mpr (λ a ha=>IL (by
    by_cases h:(g i a).2<=r
    ·exact h
    ·exact absurd %[a,ha|⋯] a2))]at this
 ·apply h2 L ?_ hk;have:=hL.filter (λ a=>decide (r < (g i a).2));rwa [List.filter_eq_self.mpr (λ a ha=>IL (by
   by_cases h:(g i a).2<=r
   ·exact absurd %[a,ha|h] a1
   ·omega))]at this
theorem dM{ks:IF Kd}{H H':Hp}{a:IB}(s:Same H H')(h:PzP ks H a)(i:Nat):gA ks H' i a=gA ks H i a:=by obtain⟨p,k,h1,_,h3⟩:=h;rw[dE h1 h3,dE (s _ _ h1) h3]
theorem tH{ks:IF Kd}{H:Hp}{a:IB}(gk:∀k∈ks,Good k)(h:PzP ks H a)(i:Nat):(gA ks H i a).1 < (gA ks H i a).2:=by
 obtain⟨p,k,h1,_,h3⟩:=h;have g:=gk k (B4 h3);have g1:=g.w;have g2:=g.h;rw[dE h1 h3]
 split
 ·show p.x < p.x+sd1 k p.c;unfold sd1;split <;> omega
 ·show p.y < p.y+sd2 k p.c;unfold sd2;split <;> omega
def qA(H:Hp)(a:IB):Pq:=match H a with
 | some (.tup [.int k,.bl c,.int x,.int y])=>%[k.toNat,c,x|y]
 | _=>%[0,false,0|0]
theorem cH{H:Hp}{a:IB}{p:Pq}(h:H a= ~~~(pqV p)):qA H a=p:=by unfold qA;rw[h];show(%[(p.k:Int).toNat,p.c,p.x|p.y]:Pq)=p;rw[HN]
theorem fN{ks:IF Kd}{H H':Hp}{a:IB}(s:Same H H')(h:PzP ks H a):qA H' a=qA H a:=by obtain⟨p,k,h1,_⟩:=h;rw[cH h1,cH (s _ _ h1)]
def InB(ks:IF Kd)(H:Hp)(x y W h:Int)(a:IB):Prop:=x<=(gA ks H 0 a).1/\(gA ks H 0 a).2<=x+W/\y<=(gA ks H 1 a).1/\(gA ks H 1 a).2<=y+h
def PT(b:Int)(ks:IF Kd)(H:Hp)(x y:Int)(as:IF IB)(T:Tr):Prop:=dT T<=as.length/\lvN T<=max 1 as.length/\(pcT b T x y).Perm (as.map (qA H))/\∀W h,(∀a∈as,InB ks H x y W h a)->okU b ks W h T
theorem PT.congr{b x y:Int}{ks:IF Kd}{H H':Hp}{as:IF IB}{T:Tr}(s:Same H H')(hp:∀a∈as,PzP ks H a)(h:PT b ks H' x y as T):PT b ks H x y as T:=by
 obtain⟨h1,hl,h2,h3⟩:=h;apply%[h1,hl,?_|λ W h hin=>h3 W h λ a ha=>?_]
 ·rw[HR (λ a ha=>(fN s (hp a ha)).symm)];exact h2
 ·have:=hin a ha;unfold InB at *;rw[dM s (hp a ha),dM s (hp a ha)];exact this
theorem PT.leaf{b x y:Int}{ks:IF Kd}{H H1:Hp}{as:IF IB}{r:IB}(hl:as.length < 2)(hp:∀a∈as,PzP ks H a)(h0:as=[]->H1 r=some (.tup [.str "rest"]))(h1:∀a0 r0 p,as=a0 :: r0->H a0= ~~~(pqV p)->H1 r=some (.tup [.str "piece",.int p.k,.bl p.c,.int (p.x - x),.int (p.y - y)])):∃T,TrV H1 T (.ref r)/\PT b ks H x y as T/\PR b (gA ks H) (qA H) x y as (.tree T):=by
 cases as with
 | nil=>exact%[.rest,%[r,Z|h0 rfl],%[B2 _,B2 _,List.Perm.refl _|λ _ _ _=>trivial]|.nil]
 | cons a r0=>
  cases r0 with
  | cons c r1=>
   simp only[G1]at hl;omega
  | nil=>
   obtain⟨p,k,e1,ly,hk⟩:=hp a B6;apply%[.piece p.k p.c (p.x - x) (p.y - y),%[r,Z|h1 a [] p rfl e1],%[E6 _,B2 _,?_|λ W h hin=>?_]|by have:=PR.one (b:=b) (g:=gA ks H) (pq:=qA H) (x:=x) (y:=y) (a:=a);rw[cH e1]at this;exact this]
   ·show List.Perm [(%[p.k,p.c,x+(p.x - x)|y+(p.y - y)]:Pq)] [qA H a];rw[cH e1,show x+(p.x - x)=p.x by omega,show y+(p.y - y)=p.y by omega]
   ·obtain⟨i1,i2,i3,i4⟩:=hin a B6;rw[dE e1 hk]at i1 i2 i3 i4;have i1:x<=p.x:=i1;have i2:p.x+sd1 k p.c<=x+W:=i2;have i3:y<=p.y:=i3;have i4:p.y+sd2 k p.c<=y+h:=i4;exact%[k,hk,qa ly hk,⋯,⋯,⋯|⋯]
theorem PT.cut{b x y r:Int}{ks:IF Kd}{H:Hp}{as:IF IB}{T1 T2:Tr}{i:Nat}(hi:i < 2)(b0:0<=b)(lt:∀a∈as,∀i,(gA ks H i a).1 < (gA ks H i a).2)(hp:Pts b as (gA ks H i) r)(h1:PT b ks H x y (as.filter λ a=>decide ((gA ks H i a).2<=r)) T1)(h2:PT b ks H (if i=0 then r+b else x) (if i=0 then y else r+b) (as.filter λ a=>decide (r < (gA ks H i a).2)) T2):PT b ks H x y as (.cut (decide (i=0)) (if i=0 then r - x else r - y) T1 T2):=by
 have m1:∀a∈as,(gA ks H i a).2<=r->a∈as.filter λ a=>decide ((gA ks H i a).2<=r):=λ a ha h=>G8.mpr %[ha|A9 h];have m2:∀a∈as,r < (gA ks H i a).2->a∈as.filter λ a=>decide (r < (gA ks H i a).2):=λ a ha h=>G8.mpr %[ha|A9 h];obtain⟨⟨a1,ha1,q1⟩,⟨a2,ha2,q2⟩,q3⟩:=hp;have l1:=lt a1 ha1 i;have l2:=lt a2 ha2 i;have p1:=He (m1 a1 ha1 q1);have p2:=He (m2 a2 ha2 ⋯);have pm:((as.filter λ a=>decide ((gA ks H i a).2<=r)) ++ (as.filter λ a=>decide (r < (gA ks H i a).2))).Perm as:=by
  have:=List.filter_append_perm (λ a=>decide ((gA ks H i a).2<=r)) as;have e:(as.filter λ a=>!decide ((gA ks H i a).2<=r))=as.filter λ a=>decide (r < (gA ks H i a).2):=List.filter_congr λ a _=>by
   by_cases c:(gA ks H i a).2<=r
   ·rw[IL c,IQ ⋯];rfl
   ·rw[IQ c,IL ⋯];rfl
  rw[e]at this;exact this
 have ll:=pm.length_eq;rw[G4]at ll;obtain⟨d1,v1,e1,o1⟩:=h1;obtain⟨d2,v2,e2,o2⟩:=h2;apply%[by show max (dT T1) (dT T2)+1<=_;omega,by show lvN T1+lvN T2<=_;omega,?_|λ W h hin=>?_]
 ·apply List.Perm.trans ?_ (pm.map (qA H));rw[HB];apply List.Perm.append e1 ?_;have:i=0\/i=1:=⋯
  rcases this with rfl | rfl
  ·show List.Perm (pcT b T2 (x+(r - x+b)) y) _;rw[show x+(r - x+b)=r+b by omega];exact e2
  ·show List.Perm (pcT b T2 x (y+(r - y+b))) _;rw[show y+(r - y+b)=r+b by omega];exact e2
 ·have in1:=hin a1 ha1;have in2:=hin a2 ha2;have:i=0\/i=1:=⋯
  rcases this with rfl | rfl
  ·apply%[by have:=in1.1;show 1<=r - x;omega|?_];show r - x+b < W/\okU b ks (r - x) h T1/\okU b ks (W - (r - x) - b) h T2;apply%[by have:=in2.2.1;omega,o1 _ _ λ a ha=>?_|o2 _ _ λ a ha=>?_]
   ·obtain⟨ha,hr⟩:=G8.mp ha;have hr:=B9 hr;obtain⟨i1,i2,i3,i4⟩:=hin a ha;exact%[i1,⋯,i3|i4]
   ·obtain⟨ha,hr⟩:=G8.mp ha;have hr:=B9 hr;obtain⟨i1,i2,i3,i4⟩:=hin a ha;have:=(q3 a ha).resolve_left ⋯;exact%[this,by show _<=r+b+_;omega,i3|i4]
  ·apply%[by have:=in1.2.2.1;show 1<=r - y;omega|?_];show r - y+b < h/\okU b ks W (r - y) T1/\okU b ks W (h - (r - y) - b) T2;apply%[by have:=in2.2.2.2;omega,o1 _ _ λ a ha=>?_|o2 _ _ λ a ha=>?_]
   ·obtain⟨ha,hr⟩:=G8.mp ha;have hr:=B9 hr;obtain⟨i1,i2,i3,i4⟩:=hin a ha;exact%[i1,i2,i3|⋯]
   ·obtain⟨ha,hr⟩:=G8.mp ha;have hr:=B9 hr;obtain⟨i1,i2,i3,i4⟩:=hin a ha;have:=(q3 a ha).resolve_left ⋯;exact%[i1,i2,this|by show _<=r+b+_;omega]
theorem KT.word{b:Int}{g:Nat->IB->Int×Int}{as:IF IB}{z:Str}(h:KT b g as z)(n:z ≠ "knot"):z = "tree" := (h.resolve_left λ e=>n e.1).1
theorem PR.congr{α:Type}{b:Int}{g g':Nat->α->Int×Int}{pq pq':α->Pq}{x y:Int}{qs:IF α}{o:Rs}(h:PR b g pq x y qs o):(∀a∈qs,∀i,g i a=g' i a)->(∀a∈qs,pq a=pq' a)->PR b g' pq' x y qs o:=by
 have pts:∀{qs:IF α}{i:Nat}{r:Int},(∀a∈qs,∀i,g i a=g' i a)->(Pts b qs (g i) r↔Pts b qs (g' i) r):=λ {qs i r} e=>by unfold Pts;apply and_congr %[λ⟨a,ha,h⟩=>%[a,ha|e a ha i ▸ h]|λ⟨a,ha,h⟩=>%[a,ha|(e a ha i).symm ▸ h]] (and_congr %[λ⟨a,ha,h⟩=>%[a,ha|e a ha i ▸ h]|λ⟨a,ha,h⟩=>%[a,ha|(e a ha i).symm ▸ h]] %[λ h a ha=>e a ha i ▸ h a ha|λ h a ha=>(e a ha i).symm ▸ h a ha])
 have cut:∀{qs:IF α}{i:Nat}{r:Int},(∀a∈qs,∀i,g i a=g' i a)->CutAt b g qs i r->CutAt b g' qs i r:=λ e ⟨h1,h2,h3,h4⟩=>%[h1,(pts e).mp h2,λ p hp=>h3 p ((pts e).mpr hp)|λ i' hi p hp=>h4 i' hi p ((pts e).mpr hp)]
 have f1:∀{qs:IF α}{i:Nat}{r:Int},(∀a∈qs,∀i,g i a=g' i a)->(qs.filter λ a=>decide ((g i a).2<=r))=qs.filter λ a=>decide ((g' i a).2<=r):=λ e=>List.filter_congr λ a ha=>by rw[e a ha]
 have f2:∀{qs:IF α}{i:Nat}{r:Int},(∀a∈qs,∀i,g i a=g' i a)->(qs.filter λ a=>decide (r < (g i a).2))=qs.filter λ a=>decide (r < (g' i a).2):=λ e=>List.filter_congr λ a ha=>by rw[e a ha]
 induction h with
 | nil=>intro _ _;exact .nil
 | @one x y a=>intro _ ep;rw[ep a B6];exact .one
 | knot l no pm so=>intro e ep;exact .knot l (λ i hi r hr=>no i hi r ((pts e).mpr hr)) (by rw[HR λ a ha=>(ep a ha).symm];exact pm) so
 | left l c _ ih=>
  intro e ep;have:=ih (λ a ha=>e a (G8.mp ha).1) λ a ha=>ep a (G8.mp ha).1;rw[f1 e]at this;exact .left l (cut e c) this
 | right l c _ _ ih1 ih2=>
  intro e ep;have h1:=ih1 (λ a ha=>e a (G8.mp ha).1) λ a ha=>ep a (G8.mp ha).1;have h2:=ih2 (λ a ha=>e a (G8.mp ha).1) λ a ha=>ep a (G8.mp ha).1;rw[f1 e]at h1;rw[f2 e]at h2;exact .right l (cut e c) h1 h2
 | cut l c _ _ ih1 ih2=>
  intro e ep;have h1:=ih1 (λ a ha=>e a (G8.mp ha).1) λ a ha=>ep a (G8.mp ha).1;have h2:=ih2 (λ a ha=>e a (G8.mp ha).1) λ a ha=>ep a (G8.mp ha).1;rw[f1 e]at h1;rw[f2 e]at h2;exact .cut l (cut e c) h1 h2
theorem PR.back{b x y:Int}{ks:IF Kd}{H H':Hp}{as:IF IB}{o:Rs}(s:Same H H')(hp:∀a∈as,PzP ks H a)(h:PR b (gA ks H') (qA H') x y as o):PR b (gA ks H) (qA H) x y as o :=
 h.congr (λ a ha i=>dM s (hp a ha) i) λ a ha=>fN s (hp a ha)
def KnV(b:Int)(ks:IF Kd)(H:Hp)(x y:Int)(as:IF IB)(H':Hp)(u:V):Prop:=∃(kl:IB)(as':IF IB),u=.ref kl/\H kl=none/\H' kl=↥(as'.map V.ref)/\(∀a∈as',PzP ks H' a)/\PR b (gA ks H) (qA H) x y as (.knot (as'.map (qA H')))
theorem KnV.back{b x y:Int}{ks:IF Kd}{H H1 H':Hp}{as:IF IB}{u:V}(s:Same H H1)(hp:∀a∈as,PzP ks H a)(h:KnV b ks H1 x y as H' u):KnV b ks H x y as H' u:=by obtain⟨kl,as',e,f,k,p,r⟩:=h;exact%[kl,as',e,s.free f,k,p|r.back s hp]
theorem KnV.imp{b x y x' y':Int}{ks:IF Kd}{H H':Hp}{as as':IF IB}{u:V}(h:KnV b ks H x y as H' u)(f:∀L,PR b (gA ks H) (qA H) x y as (.knot L)->PR b (gA ks H) (qA H) x' y' as' (.knot L)):KnV b ks H x' y' as' H' u:=by obtain⟨kl,as',e,f',k,p,r⟩:=h;exact%[kl,as',e,f',k,p|f _ r]
theorem uB{ks:IF Kd}{H:Hp}{a:IB}(h:PzP ks H a):gB H a=eM (qA H a):=by obtain⟨p,k,e,_⟩:=h;rw[cL e,cH e];rfl
section
variable{P:F5}{w:F7}{K:C3}{mg:Str->ID F8}{base:Heap}
inductive spPart(C:IB)(n:Nat)(vs:IF V)(H:Hp)(Q:VK)(E_:XK):Prop
|mk(s l:IB)(x y b:Int)(ks:IF Kd)(as:IF IB)(_:vs=[.ref s,.int x,.int y,.ref l])(_:ShopAt C H s b ks)(_:0<=b)(_:(∀k∈ks,Good k))(_:H l=↥(as.map V.ref))(_:(∀a∈as,PzP ks H a))(_:as.length < 64)(_:as.length < n)(_:∀(t:IB)(z:Str)(u:V)(H':Hp),H' t= ~~~[.str z,u]->KT b (gA ks H) as z->(z = "tree" -> ∃T,TrV H' T u/\PT b ks H x y as T/\PR b (gA ks H) (qA H) x y as (.tree T))->(z = "knot" -> KnV b ks H x y as H' u)->Same H H'->Q (.ref t) H')
theorem scpart:FnScope ["shop","x","y","pieces","cut","way","place","ahead","behind","first","step","second"] ["shop","x","y","pieces"] (defScope bO):=%[Z,Z,Z,∅,Z,∅|∅]
theorem rZ{f C:IB}{ttr tkn tdn:Tok}{fd:F6}(F:Fun K "part_pieces" "part_pieces" bO f fd)(n:Nat)(B:Blt mg)(T:ShopTxt K C)(htr:mg "TREE" = some (.str "tree" ttr))(hkn:mg "KNOT" = some (.str "knot" tkn))(hdn:mg "DOWN" = some (.str "down" tdn))(MB:Mn P w K mg base C "blade" ["self"] 1 (eE C))(DLf:Dn P w K mg base "leaf_of" ["x","y","pieces"] 1 (spLeafOf))(DCu:Dn P w K mg base "parting_cut" ["shop","pieces"] 5 (spPCut C))(DPt:Dn P w K mg base "part_pieces" ["shop","x","y","pieces"] (5+n) (spPart C n)):FnOk P w K mg base CX0 (5+(n+1)) f fd ["shop","x","y","pieces"] (spPart C (n+1)):=by
 apply F.ok scpart (λ vs H Q E h=>?_) (λ cdv A outer s H vs Q E hr h=>?_)
 ·obtain⟨s,l,x,y,b,ks,as,rfl,_⟩:=h
  rfl
 obtain⟨s,l,x,y,b,ks,as,rfl,S0,b0,gk,hl,hp,l64,ln,q⟩:=h;have nd:=scpart.nd;apply%[_,((((@aA _ _ _ _ _ _ _ _ _ aJ Z B.len IR ((pv 3)^^^ad) ∅ ∅ Z Z)<*>fQ<*>ae)<|>((@aL _ _ _ _ _ ((bE (v:=.str "tree") Z htr %[ttr|Z])^^^((@ay _ _ _ _ _ _ _ _ _ _ DLf (hr.mono (show 1<=5+n by omega)) Z ((pv 1)^^^((pv 2)^^^((pv 3)^^^ad))) ∅ Z Z)^^^ad)))⁻¹)<|>aE)<<<((4∣(@ay _ _ _ _ _ _ _ _ _ _ DCu (hr.mono (show 5<=5+n by omega)) Z ((pv 0)^^^((pv 3)^^^ad)) ∅ Z Z))<<<((((pv 4)<*>ip<*>bL)<|>((@aL _ _ _ _ _ ((bE (v:=.str "knot") Z hkn %[tkn|Z])^^^((@aA _ _ _ _ _ _ _ _ _ bT Z B.sorted Ie ((pv 3)^^^ad) ∅ ∅ Z Z)^^^ad)))⁻¹)<|>aE)<<<((@bz _ _ _ _ _ _ (pv 4) (bc Z (5•(6•(7•(8•aQ))))) Z Z Z)<<<((9∣(DPt∪((pv 0)^^^((pv 1)^^^((pv 2)^^^((pv 7)^^^ad))))))<<<(((((pv 9)&&&ix_tup&&&ae)<*>bF<*>(bE (v:=.str "knot") Z hkn %[tkn|Z]))<|>((pv 9)⁻¹)<|>aE)<<<((10∣((pv 6)|||aK|||(pE (pv 0) T.cl MB (hr.mono (show 1<=5+n by omega)))))<<<((11∣(iY ((pv 5)<*>bF<*>(bE (v:=.str "down") Z hdn %[tdn|Z])) (DPt∪((pv 0)^^^((pv 10)^^^((pv 2)^^^((pv 8)^^^ad))))) (DPt∪((pv 0)^^^((pv 1)^^^((pv 10)^^^((pv 8)^^^ad)))))))<<<(((((pv 11)&&&ix_tup&&&ae)<*>bF<*>(bE (v:=.str "knot") Z hkn %[tkn|Z]))<|>((pv 11)⁻¹)<|>aE)<<<((@aL _ _ _ _ _ ((bE (v:=.str "tree") Z htr %[ttr|Z])^^^((@aL _ _ _ _ _ ((pv 5)^^^((iY ((pv 5)<*>bF<*>(bE (v:=.str "down") Z hdn %[tdn|Z])) ((pv 6)|||bQ|||(pv 1)) ((pv 6)|||bQ|||(pv 2)))^^^(((pv 9)&&&ix_tup&&&ae)^^^(((pv 11)&&&ix_tup&&&ae)^^^ad)))))^^^ad)))⁻¹))))))))))|?_];have sz:(1000:Nat) < sizeLine:=∅
 obtain⟨dx,r0,rs,h1,h2,h3⟩:=id S0;apply ai (λ σ' H'=>σ'=[↑s,⇑x,⇑y,↑l,none,none,none,none,none,none,none,none]/\H=H'/\2<=as.length) (λ R hR=>?_) ?_
 ·apply%[_,Z,l,_,Z,.inl (GW hl),_,_,Z,Z,_,Z|?_];apply bv (λ cc=>?_) (λ cc=>hR _ _ %[rfl,rfl|?_])
  ·apply%[_,Z,_,Z,_,Z,x,y,l,as,Z,hl,λ a ha=>let ⟨p,_,e,_⟩:=hp a ha;%[p|e]|λ r H1 hr0 hr1 s1=>%[zS2|λ t ht=>q t _ _ _ upd_same (.inr %[Z|λ L hL hk=>?_]) (λ _=>?_) (λ e=>absurd e ∅) (s1.trans (F9 ht))]]
   ·have cc:(((as.map V.ref).length:Int) < 2):=B9 cc;rw[GZ]at cc;have:=hL.length_le;have:=hk.1;omega
   ·have cc:(((as.map V.ref).length:Int) < 2):=B9 cc;rw[GZ]at cc;obtain⟨T,tv,pt⟩:=PT.leaf (b:=b) (x:=x) (y:=y) ⋯ hp hr0 hr1;exact%[T,TrV.keep (λ a xs e=>F9 ht _ _ e) T tv|pt]
  ·have cc:¬ (((as.map V.ref).length:Int) < 2):=λ z=>cc (A9 z);rw[GZ]at cc;omega
 rintro _ _ ⟨rfl,rfl,l2⟩;apply ai (λ σ' H'=>∃cv:V,σ'=[↑s,⇑x,⇑y,↑l,some cv,none,none,none,none,none,none,none]/\Same H H'/\((cv=.non/\∀i < 2,∀r,¬ Pts b as (gA ks H i) r)\/∃(t0 la lb:IB)(wy:Str)(r:Int)(as1 as2:IF IB)(i:Nat),wy=(if i=0 then("down" : Str)else "across")/\cv=.ref t0/\H' t0= ~~~[.str wy,.int r,.ref la,.ref lb]/\H' la=↥(as1.map V.ref)/\H' lb=↥(as2.map V.ref)/\i < 2/\CutAt b (gA ks H) as i r/\as1=as.filter (λ a=>decide ((gA ks H i a).2<=r))/\as2=as.filter (λ a=>decide (r < (gA ks H i a).2)))) (λ R hR=>?_) ?_
 ·exact%[_,Z,_,Z,s,l,b,ks,as,Z,S0,b0,gk,hl,hp,l2,l64,λ H1 s1 no=>hR _ _ %[.non,Z,s1|.inl %[Z|no]]|λ t la lb i r H1 hi e1 e2 e3 hp mn nop s1=>hR _ _ %[.ref t,Z,s1|.inr %[t,la,lb,_,r,_,_,i,Z,Z,e1,e2,e3,hi,%[hi,hp,mn|nop],Z|Z]]]
 rintro _ H1 ⟨cv,rfl,s1,hcv⟩;apply ai (λ σ' H'=>σ'=[↑s,⇑x,⇑y,↑l,some cv,none,none,none,none,none,none,none]/\H1=H'/\cv≠.non) (λ R hR=>?_) ?_
 ·apply%[_,Z,Z,_,Z|?_]
  by_cases hc:cv=.non
  ·have no:∀i < 2,∀r,¬ Pts b as (gA ks H i) r:=by
    rcases hcv with⟨_,no⟩ | ⟨t0,_,_,_,_,_,_,_,_,e,_⟩
    ·exact no
    ·rw[hc]at e;cases e
   have kno:∀(lo:IB)(as':IF IB),H1 lo=none->as'.Perm as->(as'.map (gB H1)).Pairwise (λ x y=>cf y x=false)->∀t,(upd H1 lo (.lst (as'.map V.ref))) t=none->KnV b ks H x y as (upd (upd H1 lo (.lst (as'.map V.ref))) t (.tup [.str "knot",.ref lo])) (.ref lo):=λ lo as' hlo pa so t ht=>by have sm:Same H1 (upd (upd H1 lo (.lst (as'.map V.ref))) t (.tup [.str "knot",.ref lo])):=(F9 hlo).trans (F9 ht);have ph:∀a∈as',PzP ks H a:=λ a ha=>hp a (pa.mem_iff.mp ha);have em:as'.map (qA (upd (upd H1 lo (.lst (as'.map V.ref))) t (.tup [.str "knot",.ref lo])))=as'.map (qA H):=HR λ a ha=>fN (s1.trans sm) (ph a ha);apply%[lo,as',Z,s1.free hlo,F9 ht _ _ upd_same,λ a ha=>(ph a ha).same (s1.trans sm)|?_];rw[em];apply .knot l2 no (pa.map _) ?_;unfold Srt;rw[IA];rw[HR (g:=eM∘qA H) (λ a ha=>by rw[uB ((ph a ha).same s1),fN s1 (ph a ha)];rfl)]at so;exact so
   rw[IL hc];apply br %[_,rfl,l,as,[false,true,false,false],gB H1,rfl,GW (s1 _ _ hl),l64,rfl,λ a ha=>?_|λ lo as' hlo pa so=>%[zS2|λ t ht=>q t _ _ _ upd_same (.inl %[rfl,as,List.Sublist.refl _,l2|no]) (λ e=>absurd e ∅) (λ _=>kno lo as' hlo pa so t ht) (s1.trans ((F9 hlo).trans (F9 ht)))]];obtain⟨p,k,e1,_⟩:=hp a ha;exact%[_,GV (s1 _ _ e1)|by rw[cL (s1 _ _ e1)];rfl]
  ·rw[IQ hc];exact aU (hR _ _ %[rfl,rfl|hc])
 rintro _ _ ⟨rfl,rfl,hc⟩;obtain⟨t0,la,lb,wy,r,as1,as2,ix,ewy,rfl,ht0,hla,hlb,ix2,cta,eas1,eas2⟩:=hcv.resolve_left λ z=>hc z.1;have hpts:=cta.2.1;have sb1:as1.Sublist as:=eas1 ▸ Hc;have sb2:as2.Sublist as:=eas2 ▸ Hc;have m1:∀a∈as1,a∈as:=λ a ha=>sb1.subset ha;have m2:∀a∈as2,a∈as:=λ a ha=>sb2.subset ha;have n1:1<=as1.length:=by obtain⟨a,ha,h⟩:=hpts.1;rw[eas1];exact gz ha (A9 h)
 have n2:1<=as2.length:=by obtain⟨a,ha,h⟩:=hpts.2.1;have:=tH gk (hp a ha) ix;rw[eas2];exact gz ha (A9 ⋯)
 have n12:as1.length+as2.length=as.length:=by
  have:=gy (λ a=>decide ((gA ks H ix a).2<=r)) as;rw[eas1,eas2,<- this];congr 2;apply List.filter_congr λ a _=>?_
  by_cases c:(gA ks H ix a).2<=r
  ·rw[IL c,IQ ⋯];rfl
  ·rw[IQ c,IL ⋯];rfl
 apply ai (λ σ' H'=>σ'=[↑s,⇑x,⇑y,↑l,↑t0,some (.str wy),⇑r,↑la,↑lb,none,none,none]/\H1=H') (λ R hR=>?_) ?_
 ·exact%[_,Z,t0,_,Z,GV ht0,Z,_,_,Z,_,_,Z,_,_,Z,_,_,Z,Z|hR _ _ %[Z|Z]]
 rintro _ _ ⟨rfl,rfl⟩;apply ai (λ σ' H'=>∃(t1:IB)(z:Str)(u:V),σ'=[↑s,⇑x,⇑y,↑l,↑t0,some (.str wy),⇑r,↑la,↑lb,↑t1,none,none]/\H' t1= ~~~[.str z,u]/\KT b (gA ks H) as1 z/\(z = "tree" -> ∃T,TrV H' T u/\PT b ks H x y as1 T/\PR b (gA ks H) (qA H) x y as1 (.tree T))/\(z = "knot" -> KnV b ks H x y as1 H' u)/\Same H1 H') (λ R hR=>?_) ?_
 ·exact%[_,Z,_,Z,_,Z,_,Z,s,la,x,y,b,ks,as1,Z,cV s1 S0,b0,gk,hla,λ a ha=>(hp a (m1 a ha)).same s1,⋯,⋯|λ t z u H2 ht kt tr kn s2=>hR _ _ ⟨t,z,u,Z,ht,kt.congr (λ a ha i=>dM s1 (hp a (m1 a ha)) i),λ e=>(by obtain⟨T,tv,pt,pr⟩:=tr e;exact%[T,tv,pt.congr s1 λ a ha=>hp a (m1 a ha)|pr.back s1 λ a ha=>hp a (m1 a ha)]),λ e=>(kn e).back s1 λ a ha=>hp a (m1 a ha),s2⟩]
 rintro _ H2 ⟨t1,z1,u1,rfl,ht1,kt1,tr1,kn1,s12⟩;have s02:=s1.trans s12;apply ai (λ σ' H'=>σ'=[↑s,⇑x,⇑y,↑l,↑t0,some (.str wy),⇑r,↑la,↑lb,↑t1,none,none]/\H2=H'/\z1 ≠ "knot") (λ R hR=>?_) ?_
 ·apply%[_,Z,t1,_,0,_,Z,Z,GV (ht1),Z,Z,_,Z|?_];exact bv (λ cc=>%[_,Z|q t1 z1 u1 H2 ht1 (kt1.sub sb1 (V.str.inj (B9 cc))) (λ e=>absurd (e ▸ V.str.inj (B9 cc):("tree" : Str) = "knot") ∅) (λ e=>(kn1 e).imp λ L h=>.left l2 cta (eas1 ▸ h)) s02]) (λ cc=>hR _ _ %[rfl,rfl|λ e=>cc (A9 (by rw[e]))])
 rintro _ _ ⟨rfl,rfl,nz1⟩;apply ai (λ σ' H'=>σ'=[↑s,⇑x,⇑y,↑l,↑t0,some (.str wy),⇑r,↑la,↑lb,↑t1,⇑(r+b),none]/\H2=H') (λ R hR=>?_) ?_
 ·exact%[_,Z,_,Z,s,dx,_,Z,s02 _ _ h1,dI _ _ ∅ ∅,s,b,ks,Z,cV s02 S0,_,_,Z,Z|hR _ _ %[Z|Z]]
 rintro _ _ ⟨rfl,rfl⟩;have hlb2:=s12 _ _ hlb;have ewD:decide (V.str wy=V.str "down")=true->ix=0:=λ c=>by
  have c:wy = "down" := V.str.inj (B9 c)
  by_cases h:ix=0
  ·exact h
  ·rw[ewy,IN h]at c;exact absurd c ∅
 have ewA:¬ decide (V.str wy=V.str "down")=true->ix≠0:=λ c h=>c (A9 (by rw[ewy,IP h]));apply ai (λ σ' H'=>∃(t2:IB)(z:Str)(u:V),σ'=[↑s,⇑x,⇑y,↑l,↑t0,some (.str wy),⇑r,↑la,↑lb,↑t1,⇑(r+b),↑t2]/\H' t2= ~~~[.str z,u]/\KT b (gA ks H) as2 z/\(z = "tree" -> ∃T,TrV H' T u/\PT b ks H (if ix=0 then r+b else x) (if ix=0 then y else r+b) as2 T/\PR b (gA ks H) (qA H) (if ix=0 then r+b else x) (if ix=0 then y else r+b) as2 (.tree T))/\(z = "knot" -> KnV b ks H (if ix=0 then r+b else x) (if ix=0 then y else r+b) as2 H' u)/\Same H2 H') (λ R hR=>?_) ?_
 ·apply%[_,Z,Z,_,Z|?_];apply bv (λ cc=>?_) (λ cc=>?_)
  ·exact%[_,Z,_,Z,_,Z,_,Z,s,lb,(r+b),y,b,ks,as2,Z,cV s02 S0,b0,gk,hlb2,λ a ha=>(hp a (m2 a ha)).same s02,⋯,⋯|λ t z u H3 ht kt tr kn s3=>hR _ _ ⟨t,z,u,Z,ht,kt.congr (λ a ha i=>dM s02 (hp a (m2 a ha)) i),λ e=>(by obtain⟨T,tv,pt,pr⟩:=tr e;rw[IP (ewD cc),IP (ewD cc)];exact%[T,tv,pt.congr s02 λ a ha=>hp a (m2 a ha)|pr.back s02 λ a ha=>hp a (m2 a ha)]),λ e=>(by rw[IP (ewD cc),IP (ewD cc)];exact(kn e).back s02 λ a ha=>hp a (m2 a ha)),s3⟩]
  ·exact%[_,Z,_,Z,_,Z,_,Z,s,lb,x,(r+b),b,ks,as2,Z,cV s02 S0,b0,gk,hlb2,λ a ha=>(hp a (m2 a ha)).same s02,⋯,⋯|λ t z u H3 ht kt tr kn s3=>hR _ _ ⟨t,z,u,Z,ht,kt.congr (λ a ha i=>dM s02 (hp a (m2 a ha)) i),λ e=>(by obtain⟨T,tv,pt,pr⟩:=tr e;rw[IN (ewA cc),IN (ewA cc)];exact%[T,tv,pt.congr s02 λ a ha=>hp a (m2 a ha)|pr.back s02 λ a ha=>hp a (m2 a ha)]),λ e=>(by rw[IN (ewA cc),IN (ewA cc)];exact(kn e).back s02 λ a ha=>hp a (m2 a ha)),s3⟩]
 rintro _ H3 ⟨t2,z2,u2,rfl,ht2,kt2,tr2,kn2,s23⟩;obtain⟨T1,tv1,pt1,pr1⟩:=tr1 (kt1.word nz1);have s03:=s02.trans s23;have ht13:=s23 _ _ ht1;apply ai (λ σ' H'=>σ'=[↑s,⇑x,⇑y,↑l,↑t0,some (.str wy),⇑r,↑la,↑lb,↑t1,⇑(r+b),↑t2]/\H3=H'/\z2 ≠ "knot") (λ R hR=>?_) ?_
 ·apply%[_,Z,t2,_,0,_,Z,Z,GV (ht2),Z,Z,_,Z|?_];exact bv (λ cc=>%[_,Z|q t2 z2 u2 H3 ht2 (kt2.sub sb2 (V.str.inj (B9 cc))) (λ e=>absurd (e ▸ V.str.inj (B9 cc):("tree" : Str) = "knot") ∅) (λ e=>(kn2 e).imp λ L h=>.right l2 cta (eas1 ▸ pr1) (eas2 ▸ h)) s03]) (λ cc=>hR _ _ %[rfl,rfl|λ e=>cc (A9 (by rw[e]))])
 rintro _ _ ⟨rfl,rfl,nz2⟩;have kt:KT b (gA ks H) as "tree" := .inr %[Z|KT.cut ix2 hpts (eas1 ▸ kt1.tree nz1) (eas2 ▸ kt2.tree nz2)];obtain⟨T2,tv2,pt2,pr2⟩:=tr2 (kt2.word nz2);have pr:=PR.cut l2 cta (eas1 ▸ pr1) (eas2 ▸ pr2);have pt:=PT.cut ix2 b0 (λ a ha i=>tH gk (hp a ha) i) hpts (eas1 ▸ pt1) (eas2 ▸ pt2);apply%[_,Z,_,Z,Z,_,Z|?_];apply bv (λ cc=>?_) (λ cc=>?_)
 ·exact%[_,Z,_,Z,_,_,Z,Z,_,Z,t1,_,1,_,Z,Z,GV (ht13),Z,_,Z,t2,_,1,_,Z,Z,GV (ht2),Z,zS4|λ a ha=>%[zS2|λ t ht=>q t _ _ _ upd_same kt (λ _=>%[.cut (decide (ix=0)) (if ix=0 then r - x else r - y) T1 T2,%[a,u1,u2,Z,(F9 ht _ _ (upd_same.trans (Ii (λ l=>some (HO.tup l)) (show[V.str wy,V.int (r - x),u1,u2]=[V.str (if decide (ix=0)=true then "down" else "across"),V.int (if ix=0 then r - x else r - y),u1,u2]by simp[ewy,ewD cc])))),TrV.keep (λ c xs e=>F9 ht _ _ (F9 ha _ _ (s23 _ _ e))) T1 tv1|TrV.keep (λ c xs e=>F9 ht _ _ (F9 ha _ _ e)) T2 tv2],pt|pr]) (λ e=>absurd e ∅) (s03.trans ((F9 ha).trans (F9 ht)))]]
 ·exact%[_,Z,_,Z,_,_,Z,Z,_,Z,t1,_,1,_,Z,Z,GV (ht13),Z,_,Z,t2,_,1,_,Z,Z,GV (ht2),Z,zS4|λ a ha=>%[zS2|λ t ht=>q t _ _ _ upd_same kt (λ _=>%[.cut (decide (ix=0)) (if ix=0 then r - x else r - y) T1 T2,%[a,u1,u2,Z,(F9 ht _ _ (upd_same.trans (Ii (λ l=>some (HO.tup l)) (show[V.str wy,V.int (r - y),u1,u2]=[V.str (if decide (ix=0)=true then "down" else "across"),V.int (if ix=0 then r - x else r - y),u1,u2]by simp[ewy,ewA cc])))),TrV.keep (λ c xs e=>F9 ht _ _ (F9 ha _ _ (s23 _ _ e))) T1 tv1|TrV.keep (λ c xs e=>F9 ht _ _ (F9 ha _ _ e)) T2 tv2],pt|pr]) (λ e=>absurd e ∅) (s03.trans ((F9 ha).trans (F9 ht)))]]
theorem qe{f C:IB}{fd:F6}(F:Fun K "part_pieces" "part_pieces" bO f fd):FnOk P w K mg base CX0 5 f fd ["shop","x","y","pieces"] (spPart C 0):=by
 apply F.ok scpart (λ vs H Q E h=>?_) (λ cdv A outer s H vs Q E hr h=>?_)
 ·obtain⟨s,l,x,y,b,ks,as,rfl,_⟩:=h
  rfl
 ·obtain⟨s,l,x,y,b,ks,as,_,_,_,_,_,_,_,z,_⟩:=h;exact absurd z (E7 _)
theorem jA{f C:IB}{ttr tkn tdn:Tok}{fd:F6}(F:Fun K "part_pieces" "part_pieces" bO f fd)(B:Blt mg)(T:ShopTxt K C)(htr:mg "TREE" = some (.str "tree" ttr))(hkn:mg "KNOT" = some (.str "knot" tkn))(hdn:mg "DOWN" = some (.str "down" tdn))(MB:Mn P w K mg base C "blade" ["self"] 1 (eE C))(DLf:Dn P w K mg base "leaf_of" ["x","y","pieces"] 1 (spLeafOf))(DCu:Dn P w K mg base "parting_cut" ["shop","pieces"] 5 (spPCut C))(mk:∀n,FnOk P w K mg base CX0 (5+n) f fd ["shop","x","y","pieces"] (spPart C n)->Dn P w K mg base "part_pieces" ["shop","x","y","pieces"] (5+n) (spPart C n)):∀n,FnOk P w K mg base CX0 (5+n) f fd ["shop","x","y","pieces"] (spPart C n)
 | 0=>qe F
 | n+1=>rZ F n B T htr hkn hdn MB DLf DCu (mk n (jA F B T htr hkn hdn MB DLf DCu mk n))
end
def loB(i:Nat)(x:Bx):Int:=if i=0 then x.a else x.b
def hiB(i:Nat)(x:Bx):Int:=if i=0 then x.c else x.d
def PtB(b:Int)(i:Nat)(bs:IF Bx)(r:Int):Prop:=(∃x∈bs,hiB i x<=r)/\(∃x∈bs,r+b<=loB i x)/\∀x∈bs,hiB i x<=r\/r+b<=loB i x
theorem gC(o r:Bx):apB o r=Bool.not (bU o r):=by
 unfold apB bU
 by_cases h1:o.c<=r.a <;> by_cases h2:r.c<=o.a <;> by_cases h3:o.d<=r.b <;> by_cases h4:r.d<=o.b <;> simp[h1,h2,h3,h4] <;> omega
theorem cA{ks:IF Kd}{i:Nat}{c:Bool}(h:(i,c)∈lyK ks 0):∃k,ks[i]?=some k/\cx ks (.int (i:Int)) (.bl c)=true:=by
 obtain⟨_,k,hk,hc⟩:=dD h;have hk:ks[i]?=some k:=by simpa using hk
 apply%[k,hk|?_];show(decide (0<=(i:Int)) && match ks[(i:Int).toNat]? with
  | some k=>!c || aY k
  | none=>false)=true
 rw[HN,hk,IL (HY i)];rcases hc with hc | hc
 ·have hc:c=false:=hc;rw[hc];rfl
 ·show(true && (!c || aY k))=true;rw[hc,Bool.or_true];rfl
theorem lV{ks:IF Kd}{W h:Int}{d:PyData}{p:Pq}{k:Kd}(pd:PqD d p)(ly:cx ks (.int p.k) (.bl p.c)=true)(hk:ks[p.k]?=some k)(x0:0<=p.x)(y0:0<=p.y)(on:onB ks W h p=true):cq ks W h d=true:=by
 unfold cq;rw[pd];show eL ks W h (.int p.k) (.bl p.c) (.int p.x) (.int p.y)=true;unfold onB at on;rw[aW hk]at on;simp only[Bool.not_eq_true',Bool.or_eq_false_iff,decide_eq_false_iff_not]at on;have e1:aX (.int p.x) 0=true:=A9 x0;have e2:aX (.int p.y) 0=true:=A9 y0;unfold eL;rw[ly,e1,e2];show(true && true && true && (match ks[(p.k:Int).toNat]? with
  | some k=>decide (p.x+sd1 k p.c<=W) && decide (p.y+sd2 k p.c<=h)
  | none=>false))=true
 rw[HN,hk];have a1:¬ W < p.x+sd1 k p.c:=on.1;have a2:¬ h < p.y+sd2 k p.c:=on.2;show(true && true && true && (decide (p.x+sd1 k p.c<=W) && decide (p.y+sd2 k p.c<=h)))=true;rw[IL (show p.x+sd1 k p.c<=W by omega),IL (show p.y+sd2 k p.c<=h by omega)]
 rfl
theorem ic{C x dx:IB}{H:Hp}(hx:H x=none)(hd:H dx=none):Same H (upd (upd H dx (.own x)) x (.ins C dx [])):=λ c o e=>by rw[aG (aw e hx),aG (aw e hd)];exact e
theorem tI{C p s:IB}{H H':Hp}{b:Int}{ks:IF Kd}(pt:PotC H p)(bt:But p H H')(S:ShopAt C H s b ks):ShopAt C H' s b ks:=by obtain⟨_,hp⟩:=kx pt;exact S.keep (λ c xs e=>bt _ _ (λ z=>by rw[z,hp]at e;cases e) e) (λ c C' d fs e=>bt _ _ (λ z=>by rw[z,hp]at e;cases e) e)
theorem Laid.at{ks:IF Kd}{W h:Int}{H:Hp}{ys:IF V}{ps:IF Pq}(pz:Paired (PqT ks H) ys ps)(ld:Laid ks W h ps){i:Nat}{q:Pq}(hq:ps[i]?=some q):∃k,(q.k,q.c)∈lyK ks 0/\ks[q.k]?=some k/\0<=q.x/\0<=q.y/\onB ks W h q=true/\q.x+sd1 k q.c<=W/\q.y+sd2 k q.c<=h/\∀o∈ps.take i,bU (aD ks q) (aD ks o)=false:=by have hl:=E1 pz;have hi:=(A5.mp hq).1;obtain⟨q',hq',a,_,_,hin,x0,y0⟩:=GY pz (E9 (show i < ys.length by omega));rw[hq]at hq';cases hq';obtain⟨k,hk,_⟩:=cA hin;have f:=ld i q hq;unfold dS at f;obtain⟨f1,f2⟩:=C7.mp f;have g:=f1;unfold onB at g;rw[aW hk]at g;simp only[Bool.not_eq_true',Bool.or_eq_false_iff,decide_eq_false_iff_not]at g;have a1:¬ W < q.x+sd1 k q.c:=g.1;have a2:¬ h < q.y+sd2 k q.c:=g.2;apply%[k,hin,hk,x0,y0,f1,⋯,⋯|λ o ho=>?_];have this:apB (aD ks q) (aD ks o)=true:=Hl.mp f2 _ (G7.mpr %[o,ho|Z]);rw[gC]at this;simpa using this
def bA(ks:IF Kd)(H:Hp)(a:IB):Bx:=%[(gA ks H 0 a).1,(gA ks H 1 a).1,(gA ks H 0 a).2|(gA ks H 1 a).2]
theorem xt{ks:IF Kd}{H:Hp}{a:IB}{p:Pq}{k:Kd}(h:H a= ~~~(pqV p))(hk:ks[p.k]?=some k):bA ks H a=aD ks p:=by
 rw[aW hk];unfold bA;rw[dE h hk,dE h hk]
 rfl
theorem qg{ks:IF Kd}{H:Hp}:∀{as:IF IB}{ps:IF Pq},Paired (PqT ks H) (as.map V.ref) ps->ps.map (aD ks)=as.map (bA ks H)
 | [],_,.nil=>rfl
 | a :: as,_,.cons ⟨c,e,h,hin,_⟩ r=>by cases e;obtain⟨k,hk,_⟩:=cA hin;rw[G9,G9,qg r,xt h hk]
theorem iP{ks:IF Kd}{H:Hp}:∀{ys:IF V}{ps:IF Pq},Paired (PqT ks H) ys ps->∃as:IF IB,ys=as.map V.ref/\∀a∈as,PzP ks H a
 | _,_,.nil=>%[[],Z|λ a h=>by simp at h]
 | _,_,.cons (b:=p) ⟨a,e,h,hin,_⟩ r=>by
  obtain⟨as,e2,h2⟩:=iP r;obtain⟨k,hk,ly⟩:=cA hin;apply%[a :: as,by rw[e,e2];rfl|λ c hc=>?_];rcases G0.mp hc with rfl | hc
  ·exact%[p,k,h,ly|hk]
  ·exact h2 c hc
theorem qh{ks:IF Kd}{H:Hp}{b r:Int}{L:IF IB}{i:Nat}(hi:i < 2):Pts b L (gA ks H i) r↔PtB b i (L.map (bA ks H)) r:=by
 have lo:∀a,loB i (bA ks H a)=(gA ks H i a).1:=λ a=>by
  have:i=0\/i=1:=⋯
  rcases this with rfl | rfl <;> rfl
 have hi:∀a,hiB i (bA ks H a)=(gA ks H i a).2:=λ a=>by
  have:i=0\/i=1:=⋯
  rcases this with rfl | rfl <;> rfl
 constructor
 ·rintro⟨⟨a,ha,h1⟩,⟨c,hc,h2⟩,h3⟩;apply%[%[_,HI ha|by rw[hi];exact h1],%[_,HI hc|by rw[lo];exact h2]|λ x hx=>?_];obtain⟨d,hd,rfl⟩:=G7.mp hx;rw[lo,hi];exact h3 d hd
 ·rintro⟨⟨x,hx,h1⟩,⟨y,hy,h2⟩,h3⟩;obtain⟨a,ha,rfl⟩:=G7.mp hx;obtain⟨c,hc,rfl⟩:=G7.mp hy;rw[hi]at h1;rw[lo]at h2;apply%[%[a,ha|h1],%[c,hc|h2]|λ d hd=>?_];have:=h3 _ (HI hd);rw[lo,hi]at this;exact this
def KnX(b:Int)(L:IF Bx):Prop:=2<=L.length/\∀i < 2,∀r,¬ PtB b i L r
def HasK(b:Int)(bs:IF Bx):Prop:=∃L,L.Sublist bs/\KnX b L
def KTB(b:Int)(bs:IF Bx)(z:Str):Prop:=(z = "knot" /\ HasK b bs)\/(z = "tree" /\ ¬ HasK b bs)
theorem KTB.word{b:Int}{bs:IF Bx}{z:Str}(h:KTB b bs z):z = "knot" \/ z = "tree" := h.imp (λ h=>h.1) (λ h=>h.1)
theorem uC{ks:IF Kd}{H:Hp}{b:Int}{as:IF IB}{z:Str}(h:KT b (gA ks H) as z):KTB b (as.map (bA ks H)) z:=by
 have e:∀L:IF IB,Kn2 b (gA ks H) L↔KnX b (L.map (bA ks H)):=λ L=>
  %[λ k=>%[by rw[GZ];exact k.1|λ i hi r p=>k.2 i hi r ((qh hi).mpr p)]|λ k=>%[by have:=k.1;rwa [GZ]at this|λ i hi r p=>k.2 i hi r ((qh hi).mp p)]]
 rcases h with⟨hz,L,hL,hk⟩ | ⟨hz,no⟩
 ·exact .inl %[hz,_,hL.map _|(e L).mp hk]
 ·apply .inr %[hz|λ⟨L,hL,hk⟩=>?_];obtain⟨L',hL',rfl⟩:=List.sublist_map_iff.mp hL;exact no L' hL' ((e L').mpr hk)
theorem lW{b:Int}{i:Nat}{L L':IF Bx}{r:Int}(h:∀x,x∈L↔x∈L')(p:PtB b i L r):PtB b i L' r:=by obtain⟨⟨x,hx,h1⟩,⟨y,hy,h2⟩,h3⟩:=p;exact%[%[x,(h x).mp hx|h1],%[y,(h y).mp hy|h2]|λ z hz=>h3 z ((h z).mpr hz)]
theorem HasK.perm{b:Int}{bs bs':IF Bx}(p:bs.Perm bs')(h:HasK b bs):HasK b bs':=by obtain⟨L,hL,l2,no⟩:=h;obtain⟨L',pL,sL⟩:=List.exists_perm_sublist hL p;exact%[L',sL,by rw[pL.length_eq];exact l2|λ i hi r q=>no i hi r (lW (λ x=>pL.mem_iff) q)]
theorem HasK.sub{b:Int}{bs bs':IF Bx}(s:bs'.Sublist bs)(h:HasK b bs'):HasK b bs:=by obtain⟨L,hL,k⟩:=h;exact%[L,hL.trans s|k]
def shB(x y:Int)(g:Bx):Bx:=%[g.a+x,g.b+y,g.c+x|g.d+y]
def exB(g:Bx):Bx:=%[g.b,g.a,g.d|g.c]
def enB(m:Int)(g:Bx):Bx:=%[g.a * m,g.b * m,g.c * m|g.d * m]
def OnP(ks:IF Kd)(W h:Int)(q:Pq):Prop:=(q.k,q.c)∈lyK ks 0/\0<=q.x/\0<=q.y/\(aD ks q).c<=W/\(aD ks q).d<=h
def Lay(ks:IF Kd)(W h:Int)(ps:IF Pq):Prop:=(∀q∈ps,OnP ks W h q)/\ps.Pairwise (λ o p=>apB (aD ks o) (aD ks p)=true)
theorem gD(o r:Bx):apB o r=apB r o:=by unfold apB;cases decide (o.c<=r.a) <;> cases decide (r.c<=o.a) <;> cases decide (o.d<=r.b) <;> cases decide (r.d<=o.b) <;> rfl
theorem Lay.perm{ks:IF Kd}{W h:Int}{ps qs:IF Pq}(p:ps.Perm qs)(l:Lay ks W h ps):Lay ks W h qs :=
 %[λ q hq=>l.1 q (p.mem_iff.mpr hq)|(List.Perm.pairwise_iff (λ {x y} e=>by rw[gD];exact e) p).mp l.2]
theorem Lay.map{ks ks':IF Kd}{W h W' h':Int}{ps:IF Pq}{f:Pq->Pq}(l:Lay ks W h ps)(h1:∀q,OnP ks W h q->OnP ks' W' h' (f q))(h2:∀o p,OnP ks W h o->OnP ks W h p->apB (aD ks o) (aD ks p)=true->apB (aD ks' (f o)) (aD ks' (f p))=true):Lay ks' W' h' (ps.map f):=by
 apply%[λ q hq=>?_|?_]
 ·obtain⟨p,hp,rfl⟩:=G7.mp hq;exact h1 p (l.1 p hp)
 ·rw[List.pairwise_map];exact(List.pairwise_iff_forall_sublist.mpr λ {a b} s=>h2 a b (l.1 a (s.subset (by simp))) (l.1 b (s.subset (by simp))) (List.pairwise_iff_forall_sublist.mp l.2 s))
theorem se{ks:IF Kd}{W h:Int}{ps:IF Pq}(ld:Laid ks W h ps):ps.Pairwise (λ o p=>apB (aD ks o) (aD ks p)=true):=by rw[HQ];intro i j hi hj hij;have f:=ld j ps[j] (E9 hj);unfold dS at f;have f2:=(C7.mp f).2;have:=Hl.mp f2 _ (G7.mpr %[ps[i],Hi.mpr %[i,⋯|Z]|Z]);rw[gD];exact this
theorem Laid.lay{ks:IF Kd}{W h:Int}{H:Hp}{ys:IF V}{ps:IF Pq}(pz:Paired (PqT ks H) ys ps)(ld:Laid ks W h ps):Lay ks W h ps:=by
 apply%[λ q hq=>?_|se ld];obtain⟨i,hi⟩:=HD.mp hq;obtain⟨k,hin,hk,x0,y0,_,h1,h2,_⟩:=ld.at pz hi;apply%[hin,x0,y0,?_|?_]
 ·rw[aW hk];exact h1
 ·rw[aW hk];exact h2
theorem OnP.kd{ks:IF Kd}{W h:Int}{q:Pq}(o:OnP ks W h q):∃k,ks[q.k]?=some k/\cx ks (.int q.k) (.bl q.c)=true:=cA o.1
theorem OnP.plac{ks:IF Kd}{W h:Int}{q:Pq}{d:PyData}(o:OnP ks W h q)(pd:PqD d q):cq ks W h d=true:=by
 obtain⟨k,hk,ly⟩:=o.kd;obtain⟨_,x0,y0,h1,h2⟩:=o;apply lV pd ly hk x0 y0 ?_;unfold onB;rw[IQ ⋯,IQ ⋯]
 rfl
theorem xu{ks:IF Kd}{W h:Int}{d:PyData}{ds:IF PyData}{ps:IF Pq}(l:Lay ks W h ps)(hd:bW d=some ds)(pd:Paired PqD ds ps):mT ks W h d:=by
 apply%[ds,ps,hd,pd,λ x hx=>?_|λ i p hp o ho=>?_]
 ·obtain⟨i,hi⟩:=HD.mp hx;obtain⟨q,hq,e⟩:=GY pd hi;exact(l.1 q (B4 hq)).plac e
 ·obtain⟨j,hj,rfl⟩:=Hi.mp ho;obtain⟨hi,rfl⟩:=A5.mp hp;have:=HQ.mp l.2 j i ⋯ hi ⋯;rw[gD,gC]at this;simpa using this
def mvQ(x y:Int)(q:Pq):Pq:=%[q.k,q.c,q.x+x|q.y+y]
def exQ(q:Pq):Pq:=%[q.k,q.c,q.y|q.x]
def enQ(m:Int)(q:Pq):Pq:=%[q.k,q.c,q.x * m|q.y * m]
def swK(k:Kd):Kd:=%[k.h,k.w,k.wo,k.wa|k.tu]
def tmK(m:Int)(k:Kd):Kd:=%[k.w * m,k.h * m,k.wo,k.wa|k.tu]
theorem kD{ks:IF Kd}{W h x y:Int}{q:Pq}(o:OnP ks W h q):aD ks (mvQ x y q)=shB x y (aD ks q):=by
 obtain⟨k,hk,_⟩:=o.kd;rw[aW hk,aW (p:=mvQ x y q) hk];show(%[q.x+x,q.y+y,q.x+x+sd1 k q.c|q.y+y+sd2 k q.c]:Bx)=%[q.x+x,q.y+y,q.x+sd1 k q.c+x|q.y+sd2 k q.c+y]
 rw[Int.add_right_comm q.x x,Int.add_right_comm q.y y]
theorem Lay.mv{ks:IF Kd}{W h x y:Int}{ps:IF Pq}(l:Lay ks W h ps)(x0:0<=x)(y0:0<=y):Lay ks (W+x) (h+y) (ps.map (mvQ x y)):=by
 apply l.map (λ q o=>?_) (λ o p h1 h2 a=>?_)
 ·have e:=kD (x:=x) (y:=y) o;obtain⟨a1,a2,a3,a4,a5⟩:=o;apply%[a1,by show 0<=q.x+x;omega,by show 0<=q.y+y;omega,?_|?_]
  ·rw[e];show(aD ks q).c+x<=_;omega
  ·rw[e];show(aD ks q).d+y<=_;omega
 ·rw[kD h1,kD h2];unfold apB shB at *;simp only[Bool.or_eq_true,decide_eq_true_eq]at *;omega
def PqU(H:Hp)(v:V)(q:Pq):Prop:=∃a,v=.ref a/\H a= ~~~(pqV q)
theorem PqU.keep{H H':Hp}(k:∀a xs,H a= ~~~xs->H' a= ~~~xs){v:V}{q:Pq}(h:PqU H v q):PqU H' v q:=by obtain⟨a,e,h⟩:=h;exact%[a,e|k _ _ h]
def PqI(p:IB)(H:Hp)(v:V)(q:Pq):Prop:=∃a,v=.ref a/\a≠p/\Sq H a (pqV q)
theorem PqI.same{p:IB}{H H':Hp}(s:Same H H'){v:V}{q:Pq}(h:PqI p H v q):PqI p H' v q:=by obtain⟨a,e,n,h⟩:=h;exact%[a,e,n|h.same s]
theorem lX{p:IB}{H:Hp}:∀{ys:IF V}{ps:IF Pq},Paired (PqI p H) ys ps->∃ds,Dts p H ys ds/\Paired PqD ds ps/\wts ds=5 * ps.length
 | _,_,.nil=>%[[],.nil,.nil|Z]
 | _,_,.cons (b:=q) ⟨a,e,n,h⟩ r=>by
  subst e;obtain⟨ds,d1,d2,d3⟩:=lX r;have it:Dts p H (pqV q) [.int q.k,.bool q.c,.int q.x,.int q.y]:=.cons (.int _) (.cons (.bl _) (.cons (.int _) (.cons (.int _) .nil)));rcases h with h | h
  ·exact%[_ :: ds,.cons (.lst n h it) d1,.cons rfl d2|by rw[wts,d3,G1];simp only[wt,wts];omega]
  ·exact%[_ :: ds,.cons (.tup h it) d1,.cons rfl d2|by rw[wts,d3,G1];simp only[wt,wts];omega]
theorem tJ{ks:IF Kd}{W h:Int}{H:Hp}:∀{ys:IF V}{ps:IF Pq},Paired (PqU H) ys ps->(∀q∈ps,OnP ks W h q)->Paired (PqT ks H) ys ps
 | _,_,.nil,_=>.nil
 | _,_,.cons ⟨a,e,h⟩ r,l=>by have o:=l _ B6;exact .cons %[a,e,h,o.1,o.2.1|o.2.2.1] (tJ r λ q hq=>l q (B3 _ hq))
theorem gE{ks:IF Kd}{H:Hp}:∀{as:IF IB}{ps:IF Pq},Paired (PqT ks H) (as.map V.ref) ps->as.map (qA H)=ps
 | [],_,.nil=>rfl
 | a :: as,_,.cons ⟨c,e,h,_⟩ r=>by cases e;rw[G9,gE r,cH h]
theorem tK{ks:IF Kd}{W h:Int}{H:Hp}:∀{as:IF IB}{ps:IF Pq},Paired (PqT ks H) (as.map V.ref) ps->(∀q∈ps,OnP ks W h q)->∀a∈as,InB ks H 0 0 W h a
 | [],_,_,_,a,ha=>by simp at ha
 | c :: as,_,.cons (b:=q) ⟨c',e,h1,hin,x0,y0⟩ r,l,a,ha=>by
  cases e;rcases G0.mp ha with rfl | ha
  ·obtain⟨k,hk,_⟩:=cA hin;obtain⟨_,_,_,o1,o2⟩:=l q B6;rw[aW hk]at o1 o2;have o1:q.x+sd1 k q.c<=W:=o1;have o2:q.y+sd2 k q.c<=h:=o2;unfold InB;rw[dE h1 hk,dE h1 hk];exact%[x0,by show q.x+sd1 k q.c<=0+W;omega,y0|by show q.y+sd2 k q.c<=0+h;omega]
  ·exact tK r (λ q hq=>l q (B3 _ hq)) a ha
def gQ(ks:IF Kd)(i:Nat)(q:Pq):Int×Int:=match ks[q.k]? with
 | some kd=>if i=0 then(q.x,q.x+sd1 kd q.c)else(q.y,q.y+sd2 kd q.c)
 | none=>(0,1)
theorem Ew{ks:IF Kd}{H:Hp}{a:IB}(h:PzP ks H a)(i:Nat):gA ks H i a=gQ ks i (qA H a):=by obtain⟨p,k,e,_,hk⟩:=h;unfold gQ;rw[dE e hk,cH e,hk]
theorem PR.map{α β:Type}{b:Int}{g':Nat->β->Int×Int}{pq':β->Pq}(f:α->β){x y:Int}{qs:IF α}{o:Rs}(h:PR b (λ i a=>g' i (f a)) (λ a=>pq' (f a)) x y qs o):PR b g' pq' x y (qs.map f) o:=by
 have pts:∀{qs:IF α}{i:Nat}{r:Int},Pts b qs (λ a=>g' i (f a)) r↔Pts b (qs.map f) (g' i) r:=λ {qs i r}=>by
  unfold Pts;apply and_congr %[λ⟨a,ha,h⟩=>%[f a,G7.mpr %[a,ha|rfl]|h]|λ⟨c,hc,h⟩=>?_] (and_congr %[λ⟨a,ha,h⟩=>%[f a,G7.mpr %[a,ha|rfl]|h]|λ⟨c,hc,h⟩=>?_] %[λ h c hc=>?_|λ h a ha=>h (f a) (G7.mpr %[a,ha|rfl])])
  ·obtain⟨a,ha,rfl⟩:=G7.mp hc;exact%[a,ha|h]
  ·obtain⟨a,ha,rfl⟩:=G7.mp hc;exact%[a,ha|h]
  ·obtain⟨a,ha,rfl⟩:=G7.mp hc;exact h a ha
 have cut:∀{qs:IF α}{i:Nat}{r:Int},CutAt b (λ i a=>g' i (f a)) qs i r->CutAt b g' (qs.map f) i r:=λ⟨h1,h2,h3,h4⟩=>%[h1,pts.mp h2,λ p hp=>h3 p (pts.mpr hp)|λ i' hi p hp=>h4 i' hi p (pts.mpr hp)]
 induction h with
 | nil=>exact .nil
 | one=>exact .one
 | knot l no pm so=>exact .knot (by rw[GZ];exact l) (λ i hi r hr=>no i hi r (pts.mpr hr)) (by rw[IA];exact pm) so
 | left l c _ ih=>exact .left (by rw[GZ];exact l) (cut c) (by rw[Hr];exact ih)
 | right l c _ _ ih1 ih2=>exact .right (by rw[GZ];exact l) (cut c) (by rw[Hr];exact ih1) (by rw[Hr];exact ih2)
 | cut l c _ _ ih1 ih2=>exact .cut (by rw[GZ];exact l) (cut c) (by rw[Hr];exact ih1) (by rw[Hr];exact ih2)
theorem PR.data{b x y:Int}{ks:IF Kd}{H:Hp}{as:IF IB}{o:Rs}(hp:∀a∈as,PzP ks H a)(h:PR b (gA ks H) (qA H) x y as o):PR b (gQ ks) id x y (as.map (qA H)) o :=
 PR.map (qA H) (h.congr (λ a ha i=>Ew (hp a ha) i) λ a _=>rfl)
def KnW(b:Int)(ks:IF Kd)(H:Hp)(ps:IF Pq)(H':Hp)(u:V):Prop:=∃(kl:IB)(as':IF IB),u=.ref kl/\H kl=none/\H' kl=↥(as'.map V.ref)/\(∀a∈as',PzP ks H' a)/\PR b (gQ ks) id 0 0 ps (.knot (as'.map (qA H')))
section
variable{P:F5}{w:F7}{K:C3}{mg:Str->ID F8}{base:Heap}
inductive spTKz(C:IB)(vs:IF V)(H:Hp)(Q:VK)(E_:XK):Prop
|mk(pp s l:IB)(b w h:Int)(ks:IF Kd)(ys:IF V)(ps:IF Pq)(_:vs=[.ref s,.int w,.int h,.ref l])(_:ShopAt C H s b ks)(_:0<=b)(_:(∀k∈ks,Good k))(_:1<=w)(_:1<=h)(_:l≠pp)(_:Sq H l ys)(_:Paired (PqI pp H) ys ps)(_:ys.length < 64)(_:Lay ks w h ps)(_:∀(t:IB)(z:Str)(u:V)(H':Hp),H' t= ~~~[.str z,u]->KTB b (ps.map (aD ks)) z->(z = "tree" -> ∃T,TrV H' T u/\okU b ks w h T/\(pcT b T 0 0).Perm ps/\dT T < 64/\lvN T < 64/\PR b (gQ ks) id 0 0 ps (.tree T))->(z = "knot" -> KnW b ks H ps H' u)->Same H H'->Q (.ref t) H')
theorem sctkz:FnScope ["shop","wide","high","laying"] ["shop","wide","high","laying"] (defScope ck):=%[Z,Z,Z,∅,Z,∅|∅]
theorem uD{f C:IB}{fd:F6}(F:Fun K "tree_or_knot" "tree_or_knot" ck f fd)(B:Blt mg)(DI:Dn P w K mg base "is_laying" ["shop","wide","high","thing"] 6 (spIsLay C))(DPt:Dn P w K mg base "part_pieces" ["shop","x","y","pieces"] 69 (spPart C 64)):FnOk P w K mg base CX0 70 f fd ["shop","wide","high","laying"] (spTKz C):=by
 apply F.ok sctkz (λ vs H Q E h=>?_) (λ cdv A outer s H vs Q E hr h=>?_)
 ·obtain⟨pp,s,l,b,w1,h1,ks,ys,ps,rfl,_⟩:=h
  rfl
 obtain⟨pp,s,l,b,w1,h1,ks,ys,ps,rfl,S0,b0,gk,w0,h0,nl,hl,pz,l32,la,q⟩:=h;have nd:=sctkz.nd;apply%[_,(((@aO _ _ _ _ (@aN _ _ _ (DI∩((pv 0)^^^((pv 1)^^^((pv 2)^^^((pv 3)^^^ad))))) (by intro _;rfl)))<|>(@ah _ _ _ fP)<|>aE)<<<((DPt∪((pv 0)^^^(ae^^^(ae^^^((cu (own:=["piece"]) (cs:=[]) (cap:=[]) Z (fZ (pv 3)) (aR (sc:=defScope ck) (N:=["shop","wide","high","laying"]) Z Z ∅) (λ _ _ _ _ _=>aj (i:=0) (by show List.Nodup (["piece"]:IF Str) ;decide +kernel) Z (Or.inl Z) (Or.inr Z)) (λ _ _ _ _ _=>bi) (λ _ _ _ _ _=>(bf (r:=jh K) cg Z B.tuple IW ((pv 0)^^^ad))))^^^ad)))))⁻¹))|?_];have sz:(40000:Nat) < sizeLine:=∅
 have yl:=E1 pz;obtain⟨ds,d1,d2,d3⟩:=lX pz;obtain⟨d,hdr,hd,hwt⟩:∃d,bW d=some ds/\Dt pp H (.ref l) d/\wt d=wts ds+1:=by
  rcases hl with z | z
  ·exact%[.list ds,Z,.lst nl z d1|by rw[wt]]
  ·exact%[.tuple ds,Z,.tup z d1|by rw[wt]]
 have ld:mT ks w1 h1 d:=xu la hdr d2;apply ai (λ σ' H'=>σ'=[↑s,⇑w1,⇑h1,↑l]/\Same H H') (λ R hR=>?_) ?_
 ·apply%[_,Z,_,Z,_,Z,_,Z,pp,s,b,w1,h1,ks,.ref l,d,Z,S0,w0,h0,hd,⋯|λ r H1 hri s1=>%[_,Z|?_]];obtain rfl:=hri.mpr ld;exact aU (hR _ _ %[rfl|s1])
 rintro _ H1 ⟨rfl,s1⟩;have hl1:=hl.same s1;apply%[_,Z|?_];dsimp only[lr,tC,ms];apply dH (K:=K) (j:=3) rfl hl1 (λ i us Hx=>Same H1 Hx/\Paired (PqU Hx) us (ps.take i)) (λ i us Hx _ e o h=>e.1 _ _ h) %[Same.refl _|.nil] ?_ ?_
 ·rintro i x us Hx hi ⟨sx,pu⟩;have hin:i < ys.length:=(A5.mp hi).1;obtain⟨q0,hq0,a,rfl,na,ha⟩:=GY pz hi;have ul:=E1 pu;rw[G5]at ul;apply%[⋯,leS.set rfl|bj ?_];apply%[_,Z,a,pqV q0,Z|?_];rcases(ha.same s1).same sx with z | z
  ·apply .inl %[GW z|λ l2 hl2=>Nx.of hin %[sx.trans (F9 hl2)|?_]];rw[HA,hq0];exact cO (GX pu λ v q h=>h.keep λ a xs e=>F9 hl2 _ _ e) (.cons %[l2,Z|upd_same] .nil)
  ·apply .inr %[GV z|Nx.of hin %[sx|?_]];rw[HA,hq0];exact cO pu (.cons %[a,Z|z] .nil)
 ·rintro us Hx ⟨sx,pu⟩;rw[yl,HC]at pu;have ul:=E1 pu;apply%[⋯|λ lo hlo=>?_];obtain⟨H2,e2,k2,s2⟩:∃H',upd Hx lo (.lst us)=H'/\H' lo=↥us/\Same Hx H':=%[_,Z,upd_same|F9 hlo]
  rw[show upd Hx lo _=H2 from e2];have s02:=(s1.trans sx).trans s2;have pt2:Paired (PqT ks H2) us ps:=tJ (GX pu λ v q h=>h.keep λ a xs e=>s2 _ _ e) la.1;obtain⟨as,rfl,hzp⟩:=iP pt2;rw[GZ]at ul;exact%[s,lo,0,0,b,ks,as,Z,cV s02 S0,b0,gk,k2,hzp,⋯,⋯|λ t z u H' ht kt tr kn s'=>q t z u H' ht (by rw[qg pt2];exact uC kt) (λ e=>(by obtain⟨T,tv,⟨d,lv,pm,ok⟩,pr⟩:=tr e;exact%[T,tv,ok _ _ (tK pt2 la.1),by rw[gE pt2]at pm;exact pm,⋯,⋯|by have:=pr.data hzp;rw[gE pt2]at this;exact this])) (λ e=>(by obtain⟨kl,as',e1,e2,e3,e4,pr⟩:=kn e;exact%[kl,as',e1,s02.free e2,e3,e4|by have:=pr.data hzp;rw[gE pt2]at this;exact this])) (s02.trans s')]
end
structure Lf where
 x:Int
 y:Int
 w:Int
 h:Int
 t:Tr
def lvT(b:Int):Tr->Int->Int->Int->Int->IF Lf
 | .cut dn p l r,x,y,w,h=>if dn=true then lvT b l x y p h ++ lvT b r (x+(p+b)) y (w - p - b) h else lvT b l x y w p ++ lvT b r x (y+(p+b)) w (h - p - b)
 | .rest,x,y,w,h=>[%[x,y,w,h|.rest]]
 | .piece i c px py,x,y,w,h=>[%[x,y,w,h|.piece i c px py]]
def lfQ(f:Lf):ID Pq:=match f.t with
 | .piece i c px py=>some %[i,c,f.x+px|f.y+py]
 | _=>none
theorem gF(b:Int):∀(t:Tr)(x y w h:Int),(lvT b t x y w h).filterMap lfQ=pcT b t x y
 | .rest,_,_,_,_=>rfl
 | .piece ..,_,_,_,_=>rfl
 | .cut true p l r,x,y,w,h=>by show(lvT b l x y p h ++ lvT b r (x+(p+b)) y (w - p - b) h).filterMap lfQ=pcT b l x y ++ pcT b r (x+(p+b)) y;rw[List.filterMap_append,gF b l,gF b r]
 | .cut false p l r,x,y,w,h=>by show(lvT b l x y w p ++ lvT b r x (y+(p+b)) w (h - p - b)).filterMap lfQ=pcT b l x y ++ pcT b r x (y+(p+b));rw[List.filterMap_append,gF b l,gF b r]
theorem dN(b:Int):∀(t:Tr)(x y w h:Int),(lvT b t x y w h).length=lvN t
 | .rest,_,_,_,_=>rfl
 | .piece ..,_,_,_,_=>rfl
 | .cut true p l r,x,y,w,h=>by show(lvT b l x y p h ++ lvT b r (x+(p+b)) y (w - p - b) h).length=lvN l+lvN r;rw[G4,dN b l,dN b r]
 | .cut false p l r,x,y,w,h=>by show(lvT b l x y w p ++ lvT b r x (y+(p+b)) w (h - p - b)).length=lvN l+lvN r;rw[G4,dN b l,dN b r]
def InP(ks:IF Kd)(x y w h:Int)(q:Pq):Prop:=(q.k,q.c)∈lyK ks 0/\x<=(aD ks q).a/\(aD ks q).c<=x+w/\y<=(aD ks q).b/\(aD ks q).d<=y+h
def Ex(p q:IB)(H H':Hp):Prop:=∀c o,c≠p->c≠q->H c=some o->H' c=some o
def wyS(dn:Bool):Str:=if dn=true then "down" else "across"
def FtL(ks:IF Kd)(W h:Int)(q:Nat×Bool):Prop:=q∈lyK ks 0/\∃k,ks[q.1]?=some k/\sd1 k q.2<=W/\sd2 k q.2<=h
theorem fu{c:Bool}{a b:Prop}(h:c=true)(x:a):if c=true then a else b:=by rw[IP h];exact x
theorem dk{c:Bool}{a b:Prop}(h:c=false)(x:b):if c=true then a else b:=by rw[IN (by rw[h];exact B1)];exact x
section
variable{P:F5}{w:F7}{K:C3}{mg:Str->ID F8}{base:Heap}
inductive spBeh(vs:IF V)(H:Hp)(Q:VK)(E_:XK):Prop
|mk(t kl:IB)(b W h p:Int)(ks:IF Kd)(dn:Bool)(_:vs=[.ref t,.int W,.int h,.str (wyS dn),.int p])(_:LS H t b ks kl)(_:∀(r r1 r2:IB)(H':Hp),H' r= ~~~[.ref r1,.ref r2]->H' r1= ~~~[.int (if dn=true then p else W),.int (if dn=true then h else p)]->H' r2= ~~~[.int (if dn=true then W - p - b else W),.int (if dn=true then h else h - p - b)]->Same H H'->Q (.ref r) H')
inductive spLeafC(vs:IF V)(H:Hp)(Q:VK)(E_:XK):Prop
|mk(p t kl:IB)(b W h:Int)(ks:IF Kd)(_:vs=[.ref p,.ref t,.int W,.int h])(_:PotC H p)(_:LS H t b ks kl)(_:kl≠p)(_:ks.length<=8)(_:(∀k∈ks,Good k))(_:W < 10 ^ 58)(_:h < 10 ^ 58)(_:∀(v:V)(T:Tr)(H':Hp),TrV H' T v->(∀b,okU b ks W h T)->lvN T=1->dT T=0->PotC H' p->But p H H'->Q v H')
inductive spTreeC(n:Nat)(vs:IF V)(H:Hp)(Q:VK)(E_:XK):Prop
|mk(p t kl rm:IB)(b W h r:Int)(ks:IF Kd)(deep:Nat)(_:vs=[.ref p,.ref t,.int W,.int h,.int deep,.ref rm])(_:PotC H p)(_:LS H t b ks kl)(_:kl≠p)(_:kl≠rm)(_:rm≠p)(_:ks.length<=8)(_:(∀k∈ks,Good k))(_:0<=b)(_:W < 10 ^ 58)(_:h < 10 ^ 58)(_:H rm=↥[.int r])(_:0<=r)(_:deep < n)(_:∀(v:V)(T:Tr)(r':Int)(H':Hp),TrV H' T v->okU b ks W h T->0<=r'->(lvN T:Int)<=r - r'+1->dT T<=deep->H' rm=↥[.int r']->PotC H' p->Ex p rm H H'->Q v H')
theorem scbeh:FnScope ["_law_shop_here","_law_wide","_law_high","_law_way","_law_p"] ["_law_shop_here","_law_wide","_law_high","_law_way","_law_p"] (defScope fI):=%[Z,Z,Z,∅,Z,∅|∅]
theorem uE{f:IB}{fd:F6}(F:Fun K "_law_behind" "_law_behind" fI f fd)(B:Blt mg):FnOk P w K mg base CX0 1 f fd ["_law_shop_here","_law_wide","_law_high","_law_way","_law_p"] (spBeh):=by
 apply F.ok scbeh (λ vs H Q E h=>?_) (λ cdv A outer s H vs Q E hr h=>?_)
 ·obtain⟨t,kl,b,W,h1,p,ks,dn,rfl,_⟩:=h
  rfl
 obtain⟨t,kl,b,W,h1,p,ks,dn,rfl,sh,q⟩:=h;have nd:=scbeh.nd;apply%[_,((((pv 3)<*>bF<*>cD)<|>((@aL _ _ _ _ _ ((@aL _ _ _ _ _ ((pv 4)^^^((pv 2)^^^ad)))^^^((@aL _ _ _ _ _ ((((pv 1)|||bQ|||(pv 4))|||bQ|||((pv 0)&&&ix_tup&&&ae))^^^((pv 2)^^^ad)))^^^ad)))⁻¹)<|>aE)<<<((@aL _ _ _ _ _ ((@aL _ _ _ _ _ ((pv 1)^^^((pv 4)^^^ad)))^^^((@aL _ _ _ _ _ ((pv 1)^^^((((pv 2)|||bQ|||(pv 4))|||bQ|||((pv 0)&&&ix_tup&&&ae))^^^ad)))^^^ad)))⁻¹))|?_];obtain⟨kr,ht,_⟩:=id sh;apply ai (λ σ' H'=>σ'=[↑t,⇑W,⇑h1,some (.str (wyS dn)),⇑p]/\H=H'/\dn=false) (λ R hR=>?_) ?_
 ·apply%[_,Z,Z,_,Z|?_];cases dn with
  | false=>exact dk ∅ (hR _ _ %[rfl,rfl|rfl])
  | true=>
   apply fu ∅ ?_;apply%[_,Z,_,Z,zS2|λ r1 hr1=>?_];obtain⟨H1,e1,k1,s1⟩:∃H',upd H r1 (.tup [.int p,.int h1])=H'/\H' r1= ~~~[.int p,.int h1]/\Same H H':=%[_,Z,upd_same|F9 hr1]
   rw[show upd H r1 _=H1 from e1];apply%[_,Z,_,Z,_,_,Z,Z,_,Z,t,_,0,_,Z,Z,GV (s1 _ _ ht),Z,_,_,Z,Z,_,Z,zS2|λ r2 hr2=>?_];obtain⟨H2,e2,k2,s2⟩:∃H',upd H1 r2 (.tup [.int (W - p - b),.int h1])=H'/\H' r2= ~~~[.int (W - p - b),.int h1]/\Same H1 H':=%[_,Z,upd_same|F9 hr2]
   rw[show upd H1 r2 _=H2 from e2];apply%[zS2|λ r hr=>?_];obtain⟨H3,e3,k3,s3⟩:∃H',upd H2 r (.tup [.ref r1,.ref r2])=H'/\H' r= ~~~[.ref r1,.ref r2]/\Same H2 H':=%[_,Z,upd_same|F9 hr]
   rw[show upd H2 r _=H3 from e3];exact q r r1 r2 H3 k3 (s3 _ _ (s2 _ _ k1)) (s3 _ _ k2) (s1.trans (s2.trans s3))
 rintro _ _ ⟨rfl,rfl,rfl⟩;apply%[_,Z,_,Z,zS2|λ r1 hr1=>?_];obtain⟨H1,e1,k1,s1⟩:∃H',upd H r1 (.tup [.int W,.int p])=H'/\H' r1= ~~~[.int W,.int p]/\Same H H':=%[_,Z,upd_same|F9 hr1]
 rw[show upd H r1 _=H1 from e1];apply%[_,Z,_,Z,_,Z,_,_,Z,Z,_,Z,t,_,0,_,Z,Z,GV (s1 _ _ ht),Z,_,_,Z,Z,zS2|λ r2 hr2=>?_];obtain⟨H2,e2,k2,s2⟩:∃H',upd H1 r2 (.tup [.int W,.int (h1 - p - b)])=H'/\H' r2= ~~~[.int W,.int (h1 - p - b)]/\Same H1 H':=%[_,Z,upd_same|F9 hr2]
 rw[show upd H1 r2 _=H2 from e2];apply%[zS2|λ r hr=>?_];obtain⟨H3,e3,k3,s3⟩:∃H',upd H2 r (.tup [.ref r1,.ref r2])=H'/\H' r= ~~~[.ref r1,.ref r2]/\Same H2 H':=%[_,Z,upd_same|F9 hr]
 rw[show upd H2 r _=H3 from e3];exact q r r1 r2 H3 k3 (s3 _ _ (s2 _ _ k1)) (s3 _ _ k2) (s1.trans (s2.trans s3))
end
def toD:Tr->PyData
 | .rest=>.tuple [.str "rest"]
 | .piece i c x y=>.tuple [.str "piece",.int i,.bool c,.int x,.int y]
 | .cut dn p l r=>.tuple [.str (wyS dn),.int p,toD l,toD r]
theorem TrV.dat{K:C3}{H:Hp}:∀(t:Tr){v:V},TrV H t v->DatV K H v (toD t)
 | .rest,_,⟨a,e,h⟩=>by subst e;exact .tup (GV h) (.cons (.str _) .nil)
 | .piece ..,_,⟨a,e,h⟩=>by subst e;exact .tup (GV h) (.cons (.str _) (.cons (.int _) (.cons (.bl _) (.cons (.int _) (.cons (.int _) .nil)))))
 | .cut _ _ l r,_,⟨a,x,y,e,h,h1,h2⟩=>by subst e;exact .tup (GV h) (.cons (.str _) (.cons (.int _) (.cons (TrV.dat l h1) (.cons (TrV.dat r h2) .nil))))
theorem iQ:∀t:Tr,(toD t).canLay0=true/\(toD t).depth=dT t+1
 | .rest=>%[∅|Z]
 | .piece ..=>%[by simp[toD,PyData.canLay0,PyData.canLayAll0];decide +kernel|Z]
 | .cut dn p l r=>by
  obtain⟨l1,l2⟩:=iQ l;obtain⟨r1,r2⟩:=iQ r;apply%[?_|?_]
  ·simp[toD,PyData.canLay0,PyData.canLayAll0,l1,r1];cases dn <;> decide +kernel
  ·simp only[toD,PyData.depth,PyData.depthAll,l2,r2,dT];omega
theorem kF{t:Tr}(h:dT t<=63):SeqAt.shaped (toD t)=true:=by
 obtain⟨h1,h2⟩:=iQ t;unfold SeqAt.shaped;rw[h1,h2,IL ⋯]
 rfl
def LfV(H:Hp)(v:V)(f:Lf):Prop:=∃a lv,v=.ref a/\H a= ~~~[.int f.x,.int f.y,.int f.w,.int f.h,lv]/\TrV H f.t lv/\dT f.t=0
theorem LfV.same{H H':Hp}(s:Same H H'){v:V}{f:Lf}(h:LfV H v f):LfV H' v f:=by obtain⟨a,lv,e,h,t,d⟩:=h;exact%[a,lv,e,s _ _ h,TrV.keep (λ a xs e=>s _ _ e) f.t t|d]
theorem qi{H:Hp}:∀{ys:IF V}{qs:IF (Nat×Bool)},Paired (LyC H) ys qs->Paired (PrB H) ys (qs.map λ q=>((q.1:Int),q.2))
 | _,_,.nil=>.nil
 | _,_,.cons h r=>.cons h (qi r)
section
variable{P:F5}{w:F7}{K:C3}{mg:Str->ID F8}{base:Heap}
inductive spPlain(vs:IF V)(H:Hp)(Q:VK)(E_:XK):Prop
|mk(i l:Int)(_:vs=[.int i,.int l])(_:Q (.bl (decide (l<=i))) H)
inductive spIsLf(vs:IF V)(H:Hp)(Q:VK)(E_:XK):Prop
|mk(t kl a:IB)(b W h x y:Int)(ks:IF Kd)(i:Nat)(c:Bool)(_:vs=[.ref t,.int W,.int h,.ref a])(_:LS H t b ks kl)(_:ks.length<=8)(_:H a=some (.tup [.str "piece",.int i,.bl c,.int x,.int y]))(_:okU b ks W h (.piece i c x y))(_:∀H',Same H H'->Q (.bl true) H')
inductive spWalk(n:Nat)(vs:IF V)(H:Hp)(Q:VK)(E_:XK):Prop
|mk(t kl pa:IB)(b x y W h:Int)(ks:IF Kd)(v:V)(T:Tr)(_:vs=[.ref t,.ref pa,v])(_:LS H t b ks kl)(_:ks.length<=8)(_:H pa= ~~~[.int x,.int y,.int W,.int h])(_:TrV H T v)(_:okU b ks W h T)(_:dT T<=63)(_:lvN T<=1000)(_:dT T < n)(_:∀(l:IB)(us:IF V)(H':Hp),H' l=↥us->Paired (LfV H') us (lvT b T x y W h)->Same H H'->Q (.ref l) H')
inductive spPcs(K:C3)(vs:IF V)(H:Hp)(Q:VK)(E_:XK):Prop
|mk(l:IB)(us:IF V)(fs:IF Lf)(_:vs=[.ref l])(_:H l=↥us)(_:Paired (LfV H) us fs)(_:fs.length < 64)(_:∀(r:IB)(ys:IF V)(qs:IF Pq)(H':Hp),H r=none->H' r=↥ys->Paired (PqU H') ys qs->qs.Perm (fs.filterMap lfQ)->((qs.map eM).Pairwise λ x y=>cf y x=false)->Same H H'->Q (.ref r) H')
theorem scplain:FnScope ["_law_thing","_law_least"] ["_law_thing","_law_least"] (defScope iJ):=%[Z,Z,Z,∅,Z,∅|∅]
theorem qj{f:IB}{fd:F6}(F:Fun K "_law_plain" "_law_plain" iJ f fd)(B:Blt mg):FnOk P w K mg base CX0 1 f fd ["_law_thing","_law_least"] (spPlain):=by
 apply F.ok scplain (λ vs H Q E h=>?_) (λ cdv A outer s H vs Q E hr h=>?_)
 ·obtain⟨i,l,rfl,_⟩:=h
  rfl
 obtain⟨i,l,rfl,q⟩:=h;have nd:=scplain.nd;apply%[_,((bH (@aA _ _ _ _ _ _ _ _ _ aV Z B.isi IM ((pv 0)^^^((bB (v:=.ty "int") Z B.int IZ Z)^^^ad)) ∅ ∅ Z Z) (bH (jI (@aA _ _ _ _ _ _ _ _ _ aV Z B.isi IM ((pv 0)^^^((bB (v:=.ty "bool") Z B.bool Ig Z)^^^ad)) ∅ ∅ Z Z)) (bX (@aT _ _ _ _ _ _ _ _ gR (pv 0) (pv 1) (aF _)))))⁻¹)|?_];have ty:TyOf K H (.int i) (.type "int"):=.int i;apply%[_,Z,.int i,_,_,_,_,Z,ty,Z,lD "int" ∅,_,Z|?_];apply br %[_,rfl,.int i,_,_,_,_,rfl,ty,rfl,dw "int" ∅,_,rfl,_,rfl|?_];exact br %[_,rfl,_,rfl,_,_,rfl,rfl|q]
theorem scislf:FnScope ["_law_shop_here","_law_wide","_law_high","_law_tree","_law_own"] ["_law_shop_here","_law_wide","_law_high","_law_tree"] (defScope fJ):=%[Z,Z,Z,∅,Z,∅|∅]
theorem sf{f:IB}{fd:F6}(F:Fun K "_law_is_leaf" "_law_is_leaf" fJ f fd)(B:Blt mg)(DPl:Dn P w K mg base "_law_plain" ["_law_thing","_law_least"] 1 (spPlain))(DSd:Dn P w K mg base "_law_sides" ["_law_shop_here","_law_kind","_law_turned"] 1 (spSidesC))(DLy:Dn P w K mg base "_law_lyings" ["_law_shop_here"] 1 (spLyingsC)):FnOk P w K mg base CX0 2 f fd ["_law_shop_here","_law_wide","_law_high","_law_tree"] (spIsLf):=by
 apply F.ok scislf (λ vs H Q E h=>?_) (λ cdv A outer s H vs Q E hr h=>?_)
 ·obtain⟨t,kl,a,b,W,h1,x,y,ks,i,c,rfl,_⟩:=h
  rfl
 obtain⟨t,kl,a,b,W,h1,x,y,ks,i,c,rfl,sh,k8,ha,okp,q⟩:=h;have nd:=scislf.nd;have hu65:=Nat.lt_of_succ_lt hr.units66;apply%[_,(((PW.pt (bC ((@aA _ _ _ _ _ _ _ _ _ aJ Z B.len IR ((pv 3)^^^ad) ∅ ∅ Z Z)<*>fi<*>ae) (bC (@aO _ _ _ _ (@aN _ _ _ (DPl∩(((pv 3)&&&ix_tup&&&ae)^^^(ae^^^ad))) (by intro _;rfl))) (bG (@aO _ _ _ _ (@aN _ _ _ (@aA _ _ _ _ _ _ _ _ _ aV Z B.isi IM (((pv 3)&&&ix_tup&&&ae)^^^((bB (v:=.ty "bool") Z B.bool Ig Z)^^^ad)) ∅ ∅ Z Z) (by intro _;rfl)))))))<|>(bd⁻¹)<|>aE)<<<(((PW.pt (bC (@aH _ _ _ _ _ _ _ _ (mK hu65) (@cR _ _ _ _ _ _ _ _ _ _ oV (pv 3) (cX ae) (cX ae)) (DLy∩((pv 0)^^^ad)) Z) (bC (@aO _ _ _ _ (@aN _ _ _ (DPl∩(((pv 3)&&&ix_tup&&&ae)^^^(ae^^^ad))) (by intro _;rfl))) (bG (@aO _ _ _ _ (@aN _ _ _ (DPl∩(((pv 3)&&&ix_tup&&&ae)^^^(ae^^^ad))) (by intro _;rfl)))))))<|>(bd⁻¹)<|>aE)<<<((4∣(DSd∩((pv 0)^^^(((pv 3)&&&ix_tup&&&ae)^^^(((pv 3)&&&ix_tup&&&ae)^^^ad)))))<<<((bH (@aT _ _ _ _ _ _ _ _ dj (((pv 3)&&&ix_tup&&&ae)|||aK|||((pv 4)&&&ix_tup&&&ae)) (pv 1) (aF _)) (bX (@aT _ _ _ _ _ _ _ _ dj (((pv 3)&&&ix_tup&&&ae)|||aK|||((pv 4)&&&ix_tup&&&ae)) (pv 2) (aF _))))⁻¹))))|?_];obtain⟨k,hk,hly,x0,y0,fx,fy⟩:=okp;apply ai (λ σ' H'=>σ'=[↑t,⇑W,⇑h1,↑a,none]/\H=H') (λ R hR=>?_) ?_
 ·apply%[_,Z,a,_,Z,.inr (GV ha),Z,_,Z|?_];apply aU %[_,rfl,a,_,1,_,rfl,rfl,GV ha,rfl,i,0,rfl,_,rfl|?_];rw[IL (show(0:Int)<=i by omega)];apply aU %[_,rfl,a,_,2,_,rfl,rfl,GV ha,rfl,.bl c,_,_,_,_,rfl,.bl c,rfl,dw "bool" ∅,_,rfl|?_];exact aU (hR _ _ %[rfl|rfl])
 rintro _ _ ⟨rfl,rfl⟩;apply ai (λ σ' H'=>σ'=[↑t,⇑W,⇑h1,↑a,none]/\Same H H') (λ R hR=>?_) ?_
 ·apply%[_,Z,_,Z,_,Z,a,_,Z,GV ha,(λ z=>absurd z.1 (show¬ HT.sIx 5 0 (some 1)=0 by decide))|λ s2 hs2=>?_];obtain⟨H1,e1,k1,s1⟩:∃H',upd H s2 (.tup (cr [.str "piece",.int i,.bl c,.int x,.int y] (some 1) (some 3)))=H'/\H' s2=some (.tup (cr [.str "piece",.int i,.bl c,.int x,.int y] (some 1) (some 3)))/\Same H H':=%[_,Z,upd_same|F9 hs2]
  rw[show upd H s2 _=H1 from e1];have k1:H1 s2= ~~~[.int i,.bl c]:=k1;apply%[_,Z,t,kl,b,ks,Z,sh.same s1,k8|λ l ys H2 hl hl0 pl s12=>?_];apply%[s2,l,.int i,.bl c,ys,_,Z,Z,s12 _ _ k1,(.inr (.inr (.inl %[i|Z]))),(.inr (.inl %[c|Z])),hl,qi pl,_,Z|?_];have ha2:=s12 _ _ (s1 _ _ ha);rw[show(!((lyK ks 0).map λ q=>((q.1:Int),q.2)).any λ q=>eI (.int i) q.1 && eB (.bl c) q.2)=false by
   rw[List.any_eq_true.mpr %[((i:Int),c),G7.mpr %[(i,c),hly|Z]|by rw[lL,lM];rfl]]
   rfl]
  apply aU %[_,rfl,a,_,3,_,rfl,rfl,GV ha2,rfl,x,0,rfl,_,rfl|?_];rw[IL x0];apply aU %[_,rfl,a,_,4,_,rfl,rfl,GV ha2,rfl,y,0,rfl,_,rfl|?_];rw[IL y0];exact aU (hR _ _ %[rfl|s1.trans s12])
 rintro _ H2 ⟨rfl,s2⟩;have ha2:=s2 _ _ ha;apply ai (λ σ' H'=>∃ow:IB,σ'=[↑t,⇑W,⇑h1,↑a,↑ow]/\H' ow= ~~~[.int (sd1 k c),.int (sd2 k c)]/\Same H2 H') (λ R hR=>?_) ?_
 ·exact%[_,Z,_,Z,a,_,1,_,Z,Z,GV ha2,Z,_,Z,a,_,2,_,Z,Z,GV ha2,Z,t,kl,b,ks,i,c,k,Z,sh.same s2,hk|λ r H3 hr s3=>hR _ _ %[r,Z,hr|s3]]
 rintro _ H3 ⟨ow,rfl,how,s23⟩;have ha3:=s23 _ _ ha2;apply%[_,Z,a,_,3,_,Z,Z,GV ha3,Z,_,Z,ow,_,0,_,Z,Z,GV how,Z,_,_,Z,Z,_,Z,_,_,Z,Z,_,Z|?_];rw[IL fx];apply br %[_,rfl,a,_,4,_,rfl,rfl,GV ha3,rfl,_,rfl,ow,_,1,_,rfl,rfl,GV how,rfl,_,_,rfl,rfl,_,rfl,_,_,rfl,rfl|?_];have:=q H3 (s2.trans s23);show Q (V.bl (decide (y+sd2 k c<=h1))) H3;rw[IL fy];exact this
end
theorem jB{t:Tr}(h:t≠.rest):PyData.eqv (toD t) (.tuple [.str "rest"])=false:=by
 cases t with
 | rest=>exact absurd rfl h
 | piece i c x y=>simp[toD,PyData.eqv,PyData.eqvAll]
 | cut dn p l r=>simp[toD,PyData.eqv,PyData.eqvAll]
theorem xw{H H':Hp}{a b m:IB}{o:HO}(h:(H'=H/\(m=a\/m=b))\/(H m=none/\H'=upd H m o)):Same H H':=by
 rcases h with⟨e,_⟩ | ⟨e1,e2⟩
 ·rw[e];exact Same.refl _
 ·rw[e2];exact F9 e1
section
variable{P:F5}{w:F7}{K:C3}{mg:Str->ID F8}{base:Heap}
theorem scwalk:FnScope ["_law_shop_here","_law_part","_law_tree","_law_x","_law_y","_law_wide","_law_high","_law_way","_law_p","_law_first","_law_second","_law_one","_law_other","_law_far","_law_start","_law_left","_law_right_here"] ["_law_shop_here","_law_part","_law_tree"] (defScope ia):=%[Z,Z,Z,∅,Z,∅|∅]
theorem sg{f:IB}{fd:F6}(F:Fun K "_law_walk" "_law_walk" ia f fd)(n:Nat)(B:Blt mg)(hst:mg "str" = none)(DPl:Dn P w K mg base "_law_plain" ["_law_thing","_law_least"] 1 (spPlain))(DIL:Dn P w K mg base "_law_is_leaf" ["_law_shop_here","_law_wide","_law_high","_law_tree"] 2 (spIsLf))(DBh:Dn P w K mg base "_law_behind" ["_law_shop_here","_law_wide","_law_high","_law_way","_law_p"] 1 (spBeh))(DWk:Dn P w K mg base "_law_walk" ["_law_shop_here","_law_part","_law_tree"] (3+n) (spWalk n)):FnOk P w K mg base CX0 (3+(n+1)) f fd ["_law_shop_here","_law_part","_law_tree"] (spWalk (n+1)):=by
 apply F.ok scwalk (λ vs H Q E h=>?_) (λ cdv A outer s H vs Q E hr h=>?_)
 ·obtain⟨t,kl,pa,b,x,y,W,h1,ks,v,T,rfl,_⟩:=h
  rfl
 obtain⟨t,kl,pa,b,x,y,W,h1,ks,v,T,rfl,sh,k8,hpa,tv,okT,d40,l1000,dn0,q⟩:=h;have nd:=scwalk.nd;have hu:=hr.units;apply%[_,((@bz _ _ _ _ _ _ (pv 1) (bc Z (3•(4•(5•(6•aQ))))) Z Z Z)<<<(((PW.pt (bC (@aO _ _ _ _ (@aN _ _ _ (@aA _ _ _ _ _ _ _ _ _ aV Z B.isi IM ((pv 2)^^^((bB (v:=.ty "tuple") Z B.tuple IW Z)^^^ad)) ∅ ∅ Z Z) (by intro _;rfl))) (bC ((pv 2)<*>(pj hu)<*>(@aL _ _ _ _ _ ad)) (bG (@aO _ _ _ _ (@aN _ _ _ (@aA _ _ _ _ _ _ _ _ _ aV Z B.isi IM (((pv 2)&&&ix_tup&&&ae)^^^((bB (v:=.ty "str") Z hst PyProof.Rows.boot_str Z)^^^ad)) ∅ ∅ Z Z) (by intro _;rfl)))))))<|>(bL⁻¹)<|>aE)<<<((((pv 2)<*>(pj hu)<*>(@aL _ _ _ _ _ (cD^^^ad)))<|>((@aS _ _ _ _ ((@aL _ _ _ _ _ ((pv 3)^^^((pv 4)^^^((pv 5)^^^((pv 6)^^^((pv 2)^^^ad))))))^^^ad))⁻¹)<|>aE)<<<(((((pv 2)&&&ix_tup&&&ae)<*>bF<*>cD)<|>(((@aS _ _ _ _ (bL^^^((@aS _ _ _ _ ((@aL _ _ _ _ _ ((pv 3)^^^((pv 4)^^^((pv 5)^^^((pv 6)^^^((pv 2)^^^ad))))))^^^ad))^^^ad)))&&&ix_list&&&(@bf _ _ _ _ _ _ _ _ _ cQ Z B.int IZ ((@ay _ _ _ _ _ _ _ _ _ _ DIL (hr.mono (show 2<=3+n by omega)) Z ((pv 0)^^^((pv 5)^^^((pv 6)^^^((pv 2)^^^ad)))) ∅ Z Z)^^^ad) ∅ ∅ Z Z))⁻¹)<|>aE)<<<(((PW.pt (bC (@aH _ _ _ _ _ _ _ _ iz ((pv 2)&&&ix_tup&&&ae) (@aL _ _ _ _ _ (cD^^^(cD^^^ad))) Z) (bC ((@aA _ _ _ _ _ _ _ _ _ aJ Z B.len IR ((pv 2)^^^ad) ∅ ∅ Z Z)<*>fi<*>ae) (bG (@aO _ _ _ _ (@aN _ _ _ (@ay _ _ _ _ _ _ _ _ _ _ DPl (hr.mono (show 1<=3+n by omega)) Z (((pv 2)&&&ix_tup&&&ae)^^^(ae^^^ad)) ∅ Z Z) (by intro _;rfl)))))))<|>(bL⁻¹)<|>aE)<<<((@bz _ _ _ _ _ _ (pv 2) (bc Z (7•(8•(9•(10•aQ))))) Z Z Z)<<<(((((pv 8)|||aK|||((pv 0)&&&ix_tup&&&ae))<*>gR<*>((@aS _ _ _ _ ((pv 5)^^^((pv 6)^^^ad)))&&&ix_list&&&(@bf _ _ _ _ _ _ _ _ _ cQ Z B.int IZ ((@aT _ _ _ _ _ _ _ _ bF (pv 7) cD (aF _))^^^ad) ∅ ∅ Z Z)))<|>(bL⁻¹)<|>aE)<<<((@bz _ _ _ _ _ _ (@ay _ _ _ _ _ _ _ _ _ _ DBh (hr.mono (show 1<=3+n by omega)) Z ((pv 0)^^^((pv 5)^^^((pv 6)^^^((pv 7)^^^((pv 8)^^^ad))))) ∅ Z Z) (bc Z (11•(12•aQ))) Z Z Z)<<<((13∣((pv 8)|||aK|||((pv 0)&&&ix_tup&&&ae)))<<<((14∣((@aS _ _ _ _ ((@aL _ _ _ _ _ (((pv 3)|||aK|||(pv 13))^^^((pv 4)^^^ad)))^^^((@aL _ _ _ _ _ ((pv 3)^^^(((pv 4)|||aK|||(pv 13))^^^ad)))^^^ad)))&&&ix_list&&&(@bf _ _ _ _ _ _ _ _ _ cQ Z B.int IZ ((@aT _ _ _ _ _ _ _ _ bF (pv 7) cD (aF _))^^^ad) ∅ ∅ Z Z)))<<<((15∣(DWk∪((pv 0)^^^(((@aL _ _ _ _ _ ((pv 3)^^^((pv 4)^^^ad)))|||fC|||(pv 11))^^^((pv 9)^^^ad)))))<<<((16∣(DWk∪((pv 0)^^^(((pv 14)|||fC|||(pv 12))^^^((pv 10)^^^ad)))))<<<(((PW.pt (bC ((pv 15)<*>ip<*>bL) (bG ((pv 16)<*>ip<*>bL))))<|>(bL⁻¹)<|>aE)<<<(((pv 15)|||jV|||(pv 16))⁻¹))))))))))))))|?_]
 have sz:(5000:Nat) < sizeLine:=∅
 have shT:=kF d40;have dat:=TrV.dat (K:=K) T tv;obtain⟨av,xs,rfl,hav,y0,rest',exs⟩:∃av xs,v=.ref av/\H av= ~~~xs/\∃(y0:Str)(r:IF V),xs=.str y0 :: r:=by
  cases T with
  | rest=>obtain⟨a,e,h⟩:=tv;exact%[a,_,e,h,_,_|Z]
  | piece i c px py=>obtain⟨a,e,h⟩:=tv;exact%[a,_,e,h,_,_|Z]
  | cut dn p l r=>obtain⟨a,x',y',e,h,_⟩:=tv;exact%[a,_,e,h,_,_|Z]
 apply ai (λ σ' H'=>σ'=[↑t,↑pa,↑av,⇑x,⇑y,⇑W,⇑h1,none,none,none,none,none,none,none,none,none,none]/\H=H') (λ R hR=>?_) ?_
 ·exact%[_,Z,pa,_,Z,GV hpa,Z,_,_,Z,_,_,Z,_,_,Z,_,_,Z,Z|hR _ _ %[Z|Z]]
 rintro _ _ ⟨rfl,rfl⟩;apply ai (λ σ' H'=>σ'=[↑t,↑pa,↑av,⇑x,⇑y,⇑W,⇑h1,none,none,none,none,none,none,none,none,none,none]/\Same H H') (λ R hR=>?_) ?_
 ·subst exs;apply%[_,Z,.ref av,_,_,_,_,Z,.tup hav,Z,dF "tuple" ∅,_,Z|?_];apply aU %[_,rfl,zS0|λ e he=>?_];obtain⟨H1,e1,k1,s1⟩:∃H',upd H e (.tup [])=H'/\H' e= ~~~[]/\Same H H':=%[_,Z,upd_same|F9 he]
  rw[show upd H e _=H1 from e1];apply%[toD T,.tuple [],TrV.dat (K:=K) T (TrV.keep (λ a xs e=>s1 _ _ e) T tv),.tup (GV k1) .nil,shT,∅,_,Z|?_];rw[show PyData.eqv (toD T) (.tuple [])=false by cases T <;> rfl];apply aU %[_,rfl,av,_,0,_,rfl,rfl,GV (s1 _ _ hav),cy (E3 _) rfl,.str y0,_,_,_,_,rfl,.str y0,rfl,rn "str" ∅,_,rfl|aU (hR _ _ %[rfl|s1])]
 rintro _ H1 ⟨rfl,s1⟩;have ret:∀{Hx:Hp}{a l:IB},Same H Hx->dT T=0->lvT b T x y W h1=[%[x,y,W,h1|T]]->Hx a= ~~~[.int x,.int y,.int W,.int h1,.ref av]->Hx l=↥[.ref a]->Q (.ref l) Hx:=λ sx d0 e ha hl=>by apply q _ [.ref _] _ hl ?_ sx;rw[e];exact .cons %[_,.ref av,Z,ha,TrV.keep (λ a xs e=>sx _ _ e) T tv|d0] .nil
 apply ai (λ σ' H'=>σ'=[↑t,↑pa,↑av,⇑x,⇑y,⇑W,⇑h1,none,none,none,none,none,none,none,none,none,none]/\Same H H'/\T≠.rest) (λ R hR=>?_) ?_
 ·apply%[_,Z,zS1|λ e he=>?_];obtain⟨H2,e2,k2,s2⟩:∃H',upd H1 e (.tup [.str "rest"])=H'/\H' e=some (.tup [.str "rest"])/\Same H1 H':=%[_,Z,upd_same|F9 he]
  rw[show upd H1 e _=H2 from e2];have s02:=s1.trans s2;apply%[toD T,.tuple [.str "rest"],TrV.dat (K:=K) T (TrV.keep (λ a xs e=>s02 _ _ e) T tv),.tup (GV k2) (.cons (.str _) .nil),shT,∅,_,Z|?_];cases T with
  | rest=>
   rw[show PyData.eqv (toD .rest) (.tuple [.str "rest"])=true by decide +kernel];apply br %[_,rfl,_,rfl,_,rfl,_,rfl,_,rfl,zS5|λ a ha=>?_];obtain⟨H3,e3,k3,s3⟩:∃H',upd H2 a (.tup [.int x,.int y,.int W,.int h1,.ref av])=H'/\H' a= ~~~[.int x,.int y,.int W,.int h1,.ref av]/\Same H2 H':=%[_,Z,upd_same|F9 ha]
   rw[show upd H2 a _=H3 from e3];apply%[zS1|λ l hl=>?_];obtain⟨H4,e4,k4,s4⟩:∃H',upd H3 l (.lst [.ref a])=H'/\H' l=↥[.ref a]/\Same H3 H':=%[_,Z,upd_same|F9 hl]
   rw[show upd H3 l _=H4 from e4];exact ret (s02.trans (s3.trans s4)) rfl rfl (s4 _ _ k3) k4
  | piece i c px py=>
   rw[jB (t:=.piece i c px py) (λ z=>nomatch z)];exact aU (hR _ _ %[rfl,s02|λ z=>nomatch z])
  | cut dn p l r=>
   rw[jB (t:=.cut dn p l r) (λ z=>nomatch z)];exact aU (hR _ _ %[rfl,s02|λ z=>nomatch z])
 clear s1;clear H1;rintro _ H1 ⟨rfl,s1,nr⟩;apply ai (λ σ' H'=>σ'=[↑t,↑pa,↑av,⇑x,⇑y,⇑W,⇑h1,none,none,none,none,none,none,none,none,none,none]/\Same H H'/\∃dn p l r,T=.cut dn p l r) (λ R hR=>?_) ?_
 ·cases T with
  | rest=>exact absurd rfl nr
  | piece i c px py=>
   obtain⟨a0,e0,h0⟩:=id tv;cases e0;rw[hav]at h0;cases h0;apply%[_,Z,av,_,0,_,Z,Z,GV (s1 _ _ hav),Z,Z,_,Z|?_];apply fu ∅ %[_,rfl,_,rfl,_,rfl,_,rfl,_,rfl,zS5|λ a ha=>?_];obtain⟨H3,e3,k3,s3⟩:∃H',upd H1 a (.tup [.int x,.int y,.int W,.int h1,.ref av])=H'/\H' a= ~~~[.int x,.int y,.int W,.int h1,.ref av]/\Same H1 H':=%[_,Z,upd_same|F9 ha]
   rw[show upd H1 a _=H3 from e3];apply%[zS1|λ l hl=>?_];obtain⟨H4,e4,k4,s4⟩:∃H',upd H3 l (.lst [.ref a])=H'/\H' l=↥[.ref a]/\Same H3 H':=%[_,Z,upd_same|F9 hl]
   rw[show upd H3 l _=H4 from e4];apply%[zS2|λ l2 hl2=>?_];obtain⟨H5,e5,k5,s5⟩:∃H',upd H4 l2 (.lst [.non,.ref l])=H'/\H' l2=↥[.non,.ref l]/\Same H4 H':=%[_,Z,upd_same|F9 hl2]
   rw[show upd H4 l2 _=H5 from e5];have s05:=s1.trans (s3.trans (s4.trans s5));apply%[_,Z,_,Z,_,Z,_,Z,t,kl,av,b,W,h1,px,py,ks,i,c,Z,sh.same s05,k8,s05 _ _ hav,okT|λ H6 s6=>.inr %[true,Z,l2,_,_,.ref l,Z,Z,GW (s6 _ _ k5),Z|ret (s05.trans s6) rfl rfl (s6 _ _ (s5 _ _ (s4 _ _ k3))) (s6 _ _ (s5 _ _ k4))]]
  | cut dn p l r=>
   obtain⟨a0,x',y',e0,h0,_⟩:=id tv;cases e0;rw[hav]at h0;cases h0;apply%[_,Z,av,_,0,_,Z,Z,GV (s1 _ _ hav),Z,Z,_,Z|?_];exact dk (by cases dn <;> decide +kernel) (hR _ _ %[rfl,s1,dn,p,l,r|rfl])
 clear s1 ret;clear H1;rintro _ H1 ⟨rfl,s1,dn,p,l,r,rfl⟩;obtain⟨a0,fv,sv,e0,h0,tl,tr⟩:=id tv;cases e0;have h0:H av= ~~~[.str (wyS dn),.int p,fv,sv]:=h0;rw[hav]at h0;obtain rfl:=HO.tup.inj (B7 h0);clear h0;obtain⟨p1,okc⟩:=id okT;apply ai (λ σ' H'=>σ'=[↑t,↑pa,↑av,⇑x,⇑y,⇑W,⇑h1,none,none,none,none,none,none,none,none,none,none]/\Same H H') (λ R hR=>?_) ?_
 ·apply%[_,Z,av,_,0,_,Z,Z,GV (s1 _ _ hav),Z,zS2|λ tt htt=>?_];obtain⟨H2,e2,k2,s2⟩:∃H',upd H1 tt (.tup [.str "down",.str "across"])=H'/\H' tt=some (.tup [.str "down",.str "across"])/\Same H1 H':=%[_,Z,upd_same|F9 htt]
  rw[show upd H1 tt _=H2 from e2];have hav2:=s2 _ _ (s1 _ _ hav);apply%[tt,_,Z,.inr (GV k2),Z,Z,_,Z|?_];rw[show inV (V.str (wyS dn)) [V.str "down",V.str "across"]=true by cases dn <;> decide +kernel];apply aU %[_,rfl,av,_,rfl,.inr (GV hav2),rfl,_,rfl|?_];apply aU %[_,rfl,av,_,1,_,rfl,rfl,GV hav2,rfl,p,1,rfl,_,rfl|?_];rw[IL p1];exact aU (hR _ _ %[rfl|s1.trans s2])
 clear s1;clear H1;rintro _ H1 ⟨rfl,s1⟩;apply ai (λ σ' H'=>σ'=[↑t,↑pa,↑av,⇑x,⇑y,⇑W,⇑h1,some (.str (wyS dn)),⇑p,some fv,some sv,none,none,none,none,none,none]/\H1=H') (λ R hR=>?_) ?_
 ·exact%[_,Z,av,_,Z,GV (s1 _ _ hav),Z,_,_,Z,_,_,Z,_,_,Z,_,_,Z,Z|hR _ _ %[Z|Z]]
 rintro _ _ ⟨rfl,rfl⟩;obtain⟨kr,ht0,_⟩:=id sh;have hix:∀{Hx:Hp}{rl:IB}{u1 u2:V},Hx rl=↥[u1,u2]->atI [u1,u2] (if decide (V.str (wyS dn)=V.str "across")=true then 1 else 0)=some (if dn=true then u1 else u2):=λ _=>by
  cases dn with
  | true=>
   rw[show decide (V.str (wyS true)=V.str "across")=false by decide +kernel]
   rfl
  | false=>
   rw[show decide (V.str (wyS false)=V.str "across")=true by decide +kernel]
   rfl
 apply ai (λ σ' H'=>σ'=[↑t,↑pa,↑av,⇑x,⇑y,⇑W,⇑h1,some (.str (wyS dn)),⇑p,some fv,some sv,none,none,none,none,none,none]/\Same H H') (λ R hR=>?_) ?_
 ·apply%[_,Z,_,Z,t,_,0,_,Z,Z,GV (s1 _ _ ht0),Z,_,_,Z,Z,_,Z,_,Z,zS2|λ rl hrl=>?_];obtain⟨H2,e2,k2,s2⟩:∃H',upd H1 rl (.lst [.int W,.int h1])=H'/\H' rl=↥[.int W,.int h1]/\Same H1 H':=%[_,Z,upd_same|F9 hrl]
  rw[show upd H1 rl _=H2 from e2];apply%[_,Z,Z|.inr %[_,Z,rl,_,_,.int (if dn=true then W else h1),Z,Z,GW k2,?_,_,_,Z,Z,_,Z|?_]]
  ·rw[hix k2];cases dn <;> rfl
  ·apply dk (B0 ?_) (hR _ _ %[rfl|s1.trans s2]);cases dn with
   | true=>
    have:p+b < W:=okc.1;show¬ W<=p+b;omega
   | false=>
    have:p+b < h1:=okc.1;show¬ h1<=p+b;omega
 clear s1;clear H1;rintro _ H1 ⟨rfl,s1⟩;apply ai (λ σ' H'=>∃(o1 o2:IB),σ'=[↑t,↑pa,↑av,⇑x,⇑y,⇑W,⇑h1,some (.str (wyS dn)),⇑p,some fv,some sv,↑o1,↑o2,none,none,none,none]/\H' o1= ~~~[.int (if dn=true then p else W),.int (if dn=true then h1 else p)]/\H' o2= ~~~[.int (if dn=true then W - p - b else W),.int (if dn=true then h1 else h1 - p - b)]/\Same H H') (λ R hR=>?_) ?_
 ·exact%[_,Z,_,Z,_,Z,_,Z,_,Z,t,kl,b,W,h1,p,ks,dn,Z,sh.same s1|λ rr r1 r2 H6 e1 e2 e3 s6=>%[rr,_,Z,GV e1,Z,_,_,Z,_,_,Z,Z|hR _ _ %[r1,r2,Z,e2,e3|s1.trans s6]]]
 clear s1;clear H1;rintro _ H1 ⟨o1,o2,rfl,ho1,ho2,s1⟩;apply ai (λ σ' H'=>σ'=[↑t,↑pa,↑av,⇑x,⇑y,⇑W,⇑h1,some (.str (wyS dn)),⇑p,some fv,some sv,↑o1,↑o2,⇑(p+b),none,none,none]/\H1=H') (λ R hR=>?_) ?_
 ·exact%[_,Z,_,Z,t,_,0,_,Z,Z,GV (s1 _ _ ht0),Z,_,_,Z,Z|hR _ _ %[Z|Z]]
 rintro _ _ ⟨rfl,rfl⟩;apply ai (λ σ' H'=>∃st:IB,σ'=[↑t,↑pa,↑av,⇑x,⇑y,⇑W,⇑h1,some (.str (wyS dn)),⇑p,some fv,some sv,↑o1,↑o2,⇑(p+b),↑st,none,none]/\H' st= ~~~[.int (if dn=true then x+(p+b)else x),.int (if dn=true then y else y+(p+b))]/\Same H1 H') (λ R hR=>?_) ?_
 ·apply%[_,Z,_,Z,_,_,Z,Z,_,Z,zS2|λ a1 ha1=>?_];obtain⟨H2,e2,k2,s2⟩:∃H',upd H1 a1 (.tup [.int (x+(p+b)),.int y])=H'/\H' a1= ~~~[.int (x+(p+b)),.int y]/\Same H1 H':=%[_,Z,upd_same|F9 ha1]
  rw[show upd H1 a1 _=H2 from e2];apply%[_,Z,_,Z,_,Z,_,_,Z,Z,zS2|λ a2 ha2=>?_];obtain⟨H3,e3,k3,s3⟩:∃H',upd H2 a2 (.tup [.int x,.int (y+(p+b))])=H'/\H' a2= ~~~[.int x,.int (y+(p+b))]/\Same H2 H':=%[_,Z,upd_same|F9 ha2]
  rw[show upd H2 a2 _=H3 from e3];apply%[zS2|λ l3 hl3=>?_];obtain⟨H4,e4,k4,s4⟩:∃H',upd H3 l3 (.lst [.ref a1,.ref a2])=H'/\H' l3=↥[.ref a1,.ref a2]/\Same H3 H':=%[_,Z,upd_same|F9 hl3]
  rw[show upd H3 l3 _=H4 from e4];apply%[_,Z,Z|.inr %[_,Z,l3,_,_,_,Z,Z,GW k4,hix k4|?_]];cases dn with
  | true=>exact hR _ _ %[a1,rfl,s4 _ _ (s3 _ _ k2)|s2.trans (s3.trans s4)]
  | false=>exact hR _ _ %[a2,rfl,s4 _ _ k3|s2.trans (s3.trans s4)]
 rintro _ H2 ⟨st,rfl,hst,s12⟩;have s02:=s1.trans s12;have ok1:okU b ks (if dn=true then p else W) (if dn=true then h1 else p) l:=by
  cases dn with
  | true=>exact okc.2.1
  | false=>exact okc.2.1
 have ok2:okU b ks (if dn=true then W - p - b else W) (if dn=true then h1 else h1 - p - b) r:=by
  cases dn with
  | true=>exact okc.2.2
  | false=>exact okc.2.2
 have dd:max (dT l) (dT r)+1<=63:=d40;have dn1:max (dT l) (dT r)+1 < n+1:=dn0;have ll:lvN l+lvN r<=1000:=l1000;apply ai (λ σ' H'=>∃(ll:IB)(lu:IF V),σ'=[↑t,↑pa,↑av,⇑x,⇑y,⇑W,⇑h1,some (.str (wyS dn)),⇑p,some fv,some sv,↑o1,↑o2,⇑(p+b),↑st,↑ll,none]/\H' ll=↥lu/\Paired (LfV H') lu (lvT b l x y (if dn=true then p else W) (if dn=true then h1 else p))/\Same H2 H') (λ R hR=>?_) ?_
 ·apply%[_,Z,_,Z,_,Z,zS2|λ a1 ha1=>?_];obtain⟨H3,e3,k3,s3⟩:∃H',upd H2 a1 (.tup [.int x,.int y])=H'/\H' a1= ~~~[.int x,.int y]/\Same H2 H':=%[_,Z,upd_same|F9 ha1]
  rw[show upd H2 a1 _=H3 from e3];apply%[_,Z,a1,o1,_,_,Z,Z,k3,s3 _ _ (s12 _ _ ho1),(by show 2+2<=sizeLine;decide)|λ mm Hm hm hm'=>?_];have sm:Same H2 Hm:=s3.trans (xw hm);have s0m:=s02.trans sm;exact%[_,Z,t,kl,mm,b,x,y,_,_,ks,fv,l,Z,sh.same s0m,k8,hm',TrV.keep (λ a xs e=>s0m _ _ e) l tl,ok1,⋯,⋯,⋯|λ la us H' hl pl s'=>hR _ _ %[la,us,Z,hl,pl|sm.trans s']]
 rintro _ H3 ⟨la,lu,rfl,hla,plu,s23⟩;have s03:=s02.trans s23;apply ai (λ σ' H'=>∃(lb:IB)(lw:IF V),σ'=[↑t,↑pa,↑av,⇑x,⇑y,⇑W,⇑h1,some (.str (wyS dn)),⇑p,some fv,some sv,↑o1,↑o2,⇑(p+b),↑st,↑la,↑lb]/\H' lb=↥lw/\Paired (LfV H') lw (lvT b r (if dn=true then x+(p+b)else x) (if dn=true then y else y+(p+b)) (if dn=true then W - p - b else W) (if dn=true then h1 else h1 - p - b))/\Same H3 H') (λ R hR=>?_) ?_
 ·apply%[_,Z,_,Z,_,Z,st,o2,_,_,Z,Z,s23 _ _ hst,s23 _ _ (s12 _ _ ho2),(by show 2+2<=sizeLine;decide)|λ mm Hm hm hm'=>?_];have sm:Same H3 Hm:=xw hm;have s0m:=s03.trans sm;exact%[_,Z,t,kl,mm,b,_,_,_,_,ks,sv,r,Z,sh.same s0m,k8,hm',TrV.keep (λ a xs e=>s0m _ _ e) r tr,ok2,⋯,⋯,⋯|λ lb us H' hl pl s'=>hR _ _ %[lb,us,Z,hl,pl|sm.trans s']]
 rintro _ H4 ⟨lb,lw,rfl,hlb,plw,s34⟩;apply ai (λ σ' H'=>σ'=[↑t,↑pa,↑av,⇑x,⇑y,⇑W,⇑h1,some (.str (wyS dn)),⇑p,some fv,some sv,↑o1,↑o2,⇑(p+b),↑st,↑la,↑lb]/\H4=H') (λ R hR=>?_) ?_
 ·exact%[_,Z,Z,_,Z|dk rfl %[_,Z,Z,_,Z|dk rfl (hR _ _ %[Z|Z])]]
 rintro _ _ ⟨rfl,rfl⟩;have le1:=E1 plu;have le2:=E1 plw;rw[dN]at le1 le2;apply%[_,Z,_,Z,la,lb,lu,lw,Z,Z,s34 _ _ hla,hlb,⋯|λ lo hlo=>?_];obtain⟨H5,e5,k5,s5⟩:∃H',upd H4 lo (.lst (lu ++ lw))=H'/\H' lo=↥(lu ++ lw)/\Same H4 H':=%[_,Z,upd_same|F9 hlo]
 rw[show upd H4 lo _=H5 from e5];apply q lo _ H5 k5 ?_ (s03.trans (s34.trans s5));have pa:=cO (GX plu λ v f h=>h.same (s34.trans s5)) (GX plw λ v f h=>h.same s5);cases dn with
 | true=>exact pa
 | false=>exact pa
theorem qk{f:IB}{fd:F6}(F:Fun K "_law_walk" "_law_walk" ia f fd):FnOk P w K mg base CX0 3 f fd ["_law_shop_here","_law_part","_law_tree"] (spWalk 0):=by
 apply F.ok scwalk (λ vs H Q E h=>?_) (λ cdv A outer s H vs Q E hr h=>?_)
 ·obtain⟨t,kl,pa,b,x,y,W,h1,ks,v,T,rfl,_⟩:=h
  rfl
 ·obtain⟨t,kl,pa,b,x,y,W,h1,ks,v,T,_,_,_,_,_,_,_,_,z,_⟩:=h;exact absurd z (E7 _)
theorem jC{f:IB}{fd:F6}(F:Fun K "_law_walk" "_law_walk" ia f fd)(B:Blt mg)(hst:mg "str" = none)(DPl:Dn P w K mg base "_law_plain" ["_law_thing","_law_least"] 1 (spPlain))(DIL:Dn P w K mg base "_law_is_leaf" ["_law_shop_here","_law_wide","_law_high","_law_tree"] 2 (spIsLf))(DBh:Dn P w K mg base "_law_behind" ["_law_shop_here","_law_wide","_law_high","_law_way","_law_p"] 1 (spBeh))(mk:∀n,FnOk P w K mg base CX0 (3+n) f fd ["_law_shop_here","_law_part","_law_tree"] (spWalk n)->Dn P w K mg base "_law_walk" ["_law_shop_here","_law_part","_law_tree"] (3+n) (spWalk n)):∀n,FnOk P w K mg base CX0 (3+n) f fd ["_law_shop_here","_law_part","_law_tree"] (spWalk n)
 | 0=>qk F
 | n+1=>sg F n B hst DPl DIL DBh (mk n (jC F B hst DPl DIL DBh mk n))
theorem scpcs:FnScope ["_law_leaves","_law_found","_law_x","_law_y","_law_wide","_law_high","_law_leaf"] ["_law_leaves"] (defScope fK):=%[Z,Z,Z,∅,Z,∅|∅]
theorem uF{f:IB}{fd:F6}(F:Fun K "_law_pieces" "_law_pieces" fK f fd)(B:Blt mg):FnOk P w K mg base CX0 1 f fd ["_law_leaves"] (spPcs K):=by
 apply F.ok scpcs (λ vs H Q E h=>?_) (λ cdv A outer s H vs Q E hr h=>?_)
 ·obtain⟨l,us,fs,rfl,_⟩:=h
  rfl
 obtain⟨l,us,fs,rfl,hl,pf,f64,q⟩:=h;have nd:=scpcs.nd;apply%[_,((1∣(@aS _ _ _ _ ad))<<<((@bp _ _ _ _ _ _ _ _ E2 Z (bh (pv 0)) (bc Z (2•(3•(4•(5•(6•aQ)))))) (@ah _ _ _ ((((pv 6)&&&ix_tup&&&ae)<*>bF<*>cD)<|>(@ah _ _ _ (@bK _ _ _ _ (@dQ _ _ _ _ _ _ _ _ _ _ _ _ F3 PySem.F.slot_list_append PySem.F.type_list_append bM (pv 1) ((@aL _ _ _ _ _ (((pv 6)&&&ix_tup&&&ae)^^^(((pv 6)&&&ix_tup&&&ae)^^^(((pv 2)|||aK|||((pv 6)&&&ix_tup&&&ae))^^^(((pv 3)|||aK|||((pv 6)&&&ix_tup&&&ae))^^^ad)))))^^^ad) Z Z Z Z Z) Z))<|>aE)) (by intro _;rfl))<<<((@aA _ _ _ _ _ _ _ _ _ bT Z B.sorted PyProof.Rows.boot_sorted ((pv 1)^^^ad) ∅ ∅ Z Z)⁻¹)))|?_];have sz:(2000:Nat) < sizeLine:=∅
 have ul:=E1 pf;apply ai (λ σ' H'=>∃fo:IB,σ'=[↑l,↑fo,none,none,none,none,none]/\H fo=none/\H' fo=↥[]/\Same H H') (λ R hR=>?_) ?_
 ·apply%[∅|λ fo hfo=>?_];obtain⟨H1,e1,k1,s1⟩:∃H',upd H fo (.lst [])=H'/\H' fo=↥[]/\Same H H':=%[_,Z,upd_same|F9 hfo]
  rw[show upd H fo _=H1 from e1];exact hR _ _ %[fo,rfl,hfo,k1|s1]
 rintro _ H1 ⟨fo,rfl,hfo0,hfo1,s1⟩;have nlf:l≠fo:=aw hl hfo0;have hl1:=s1 _ _ hl;have pf1:Paired (LfV H1) us fs:=GX pf λ v f h=>h.same s1;have tk:∀{Ha Hb:Hp}{xs:IF V},Ha fo=↥xs->But fo Ha Hb->∀a zs,Ha a= ~~~zs->Hb a= ~~~zs:=λ e bb a zs e'=>bb _ _ (λ z=>by rw[z,e]at e';cases e') e';apply ai (λ σ' H'=>∃(v2 v3 v4 v5 v6:ID V)(as:IF IB)(qs:IF Pq),σ'=[↑l,↑fo,v2,v3,v4,v5,v6]/\H' fo=↥(as.map V.ref)/\Paired (λ a q=>H' a= ~~~(pqV q)) as qs/\qs=(fs.take fs.length).filterMap lfQ/\But fo H1 H') (λ R hR=>?_) ?_
 ·apply%[_,Z,l,Z,%[_|GW hl1]|cj (xs:=us) (λ i σ' H'=>∃(v2 v3 v4 v5 v6:ID V)(as:IF IB)(qs:IF Pq),σ'=[↑l,↑fo,v2,v3,v4,v5,v6]/\H' fo=↥(as.map V.ref)/\Paired (λ a q=>H' a= ~~~(pqV q)) as qs/\qs=(fs.take i).filterMap lfQ/\But fo H1 H') %[_,_,_,_,_,[],[],Z,hfo1,.nil,Z|But.refl'] (λ i σ H' _ ⟨_,_,_,_,_,_,_,_,_,_,_,bx⟩=>GW (bx _ _ nlf hl1)) ?_ (λ σ H' h=>hR _ _ (by rw[ul]at h;exact h))];rintro i x _ H2 hi ⟨v2,v3,v4,v5,v6,as,qs,rfl,hf2,pa2,eq2,b12⟩;have hin:i < us.length:=(A5.mp hi).1;obtain⟨f,hf,a,lv,rfl,ha,tv,d0⟩:=GY pf1 hi;have ha2:=tk hfo1 b12 _ _ ha;have tv2:=TrV.keep (tk hfo1 b12) f.t tv;have al:=E1 pa2;have ql:qs.length<=fs.length:=by rw[eq2];apply C4 (List.length_filterMap_le _ _) ?_;rw[G5];omega
  have etk:(fs.take (i+1)).filterMap lfQ=qs ++ (lfQ f).toList:=by rw[HA,hf,List.filterMap_append,<- eq2];cases e:lfQ f <;> simp[e]
  apply%[a,_,Z,GV ha2,Z,_,_,Z,_,_,Z,_,_,Z,_,_,Z,_,_,Z,Z|?_];cases et:f.t with
  | cut dn p l r=>rw[et]at d0;cases d0
  | rest=>
   rw[et]at tv2;obtain⟨la,rfl,hla⟩:=tv2;apply%[_,Z,la,_,0,_,Z,Z,GV hla,Z,Z,_,Z|dk ∅ ?_];apply%[_,_,_,_,_,as,qs,Z,hf2,pa2,?_|b12];rw[etk,show lfQ f=none by unfold lfQ;rw[et]];simp
  | piece k c px py=>
   rw[et]at tv2;obtain⟨la,rfl,hla⟩:=tv2;apply%[_,Z,la,_,0,_,Z,Z,GV hla,Z,Z,_,Z|fu ∅ ?_];apply%[_,Z,.inl %[Z,_|GW hf2],_,Z,la,_,1,_,Z,Z,GV hla,Z,_,Z,la,_,2,_,Z,Z,GV hla,Z,_,Z,_,Z,la,_,3,_,Z,Z,GV hla,Z,_,_,Z,Z,_,Z,_,Z,la,_,4,_,Z,Z,GV hla,Z,_,_,Z,Z,zS4|λ tp htp=>?_];obtain⟨H3,e3,k3,s3⟩:∃H',upd H2 tp (.tup [.int k,.bl c,.int (f.x+px),.int (f.y+py)])=H'/\H' tp= ~~~[.int k,.bl c,.int (f.x+px),.int (f.y+py)]/\Same H2 H':=%[_,Z,upd_same|F9 htp]
   rw[show upd H2 tp _=H3 from e3];have hf3:=s3 _ _ hf2;have bu:But fo H3 (upd H3 fo (.lst (as.map V.ref ++ [.ref tp]))):=λ c o n e=>by rw[aG n];exact e
   apply%[fo,_,_,Z,Z,hf3,by rw[GZ];omega,_,_,_,_,_,as ++ [tp],qs ++ [%[k,c,f.x+px|f.y+py]],Z,by rw[HB];exact upd_same,?_,?_|λ c o n e=>bu _ _ n (s3 _ _ (b12 _ _ n e))]
   ·exact cO (GX pa2 λ a q h=>tk hf3 bu _ _ (s3 _ _ h)) (.cons (tk hf3 bu _ _ k3) .nil)
   ·rw[etk,show lfQ f=some %[k,c,f.x+px|f.y+py]by unfold lfQ;rw[et]]
    rfl
 rintro _ H2 ⟨v2,v3,v4,v5,v6,as,qs,rfl,hf2,pa2,eq2,b12⟩;rw[HC]at eq2;have al:=E1 pa2;have ql:qs.length<=fs.length:=by rw[eq2];exact List.length_filterMap_le _ _
 apply%[_,Z,fo,as,[false,true,false,false],gB H2,Z,GW hf2,⋯,Z,λ a ha=>?_|λ r as' hr pm so=>?_]
 ·obtain⟨i,hi⟩:=HD.mp ha;obtain⟨q0,hq0,h0⟩:=GY pa2 hi;exact%[_,GV h0|by rw[cL h0];rfl]
 have qm:∀{xs:IF IB}{zs:IF Pq},Paired (λ a q=>H2 a= ~~~(pqV q)) xs zs->zs=xs.map (qA H2):=λ {xs zs} h=>by
  induction h with
  | nil=>rfl
  | cons h r ih=>rw[G9,cH h,<- ih]
 have hm:∀a∈as',H2 a= ~~~(pqV (qA H2 a)):=λ a ha=>by obtain⟨i,hi⟩:=HD.mp (pm.mem_iff.mp ha);obtain⟨q0,hq0,h0⟩:=GY pa2 hi;rw[cH h0];exact h0
 have mkP:∀{xs:IF IB},(∀a∈xs,H2 a= ~~~(pqV (qA H2 a)))->Paired (PqU (upd H2 r (.lst (as'.map V.ref)))) (xs.map V.ref) (xs.map (qA H2)):=λ {xs} h=>by
  induction xs with
  | nil=>exact .nil
  | cons a xs ih=>exact .cons %[a,Z|F9 hr _ _ (h a B6)] (ih λ c hc=>h c (B3 _ hc))
 have hr0:H r=none:=by
  cases e:H r with
  | none=>rfl
  | some o=>rw[b12 _ _ (aw e hfo0) (s1 _ _ e)]at hr;cases hr
 apply q r _ (as'.map (qA H2)) _ hr0 upd_same (mkP hm) ?_ ?_ (λ c o e=>F9 hr _ _ (b12 _ _ (aw e hfo0) (s1 _ _ e)))
 ·rw[<- eq2,qm pa2];exact pm.map _
 ·rw[IA,HR (g:=gB H2) (λ a ha=>by rw[cL (hm a ha)];rfl)];exact so
end
theorem tL{α β:Type}{R:α->β->Prop}:∀(n:Nat){xs:IF α}{ys:IF β},Paired R xs ys->Paired R (xs.take n) (ys.take n)
 | 0,_,_,_=>.nil
 | _+1,_,_,.nil=>.nil
 | n+1,_,_,.cons a r=>.cons a (tL n r)
theorem lY{α β:Type}{R:α->β->Prop}:∀(n:Nat){xs:IF α}{ys:IF β},Paired R xs ys->Paired R (xs.drop n) (ys.drop n)
 | 0,_,_,h=>h
 | _+1,_,_,.nil=>.nil
 | n+1,_,_,.cons _ r=>lY n r
def PqJ(p fo:IB)(H:Hp)(v:V)(q:Pq):Prop:=∃a,v=.ref a/\a≠p/\a≠fo/\Sq H a (pqV q)
theorem PqJ.keep{p fo:IB}{H H':Hp}(k:∀c o,c≠p->c≠fo->H c=some o->H' c=some o){v:V}{q:Pq}(h:PqJ p fo H v q):PqJ p fo H' v q:=by obtain⟨a,e,n1,n2,h⟩:=h;exact%[a,e,n1,n2|h.imp (k _ _ n1 n2) (k _ _ n1 n2)]
section
variable{P:F5}{w:F7}{K:C3}{mg:Str->ID F8}{base:Heap}
inductive spHand(vs:IF V)(H:Hp)(Q:VK)(E_:XK):Prop
|mk(p pl:IB)(ys:IF V)(ps:IF Pq)(_:vs=[.ref p,.ref pl])(_:PotC H p)(_:pl≠p)(_:H pl=↥ys)(_:Paired (PqU H) ys ps)(_:ys.length<=100)(_:∀(l:IB)(zs:IF V)(qs:IF Pq)(H':Hp),l≠p->Sq H' l zs->Paired (PqI p H') zs qs->qs.Perm ps->PotC H' p->But p H H'->Q (.ref l) H')
theorem schand:FnScope ["_law_pot_here","_law_pieces_here","_law_found","_law_piece"] ["_law_pot_here","_law_pieces_here"] (defScope fL):=%[Z,Z,Z,∅,Z,∅|∅]
theorem si{f:IB}{fd:F6}(F:Fun K "_law_handed" "_law_handed" fL f fd)(B:Blt mg)(DD:Dn P w K mg base "_law_take" ["_law_pot_here","_law_many"] 1 (spTake)):FnOk P w K mg base CX0 2 f fd ["_law_pot_here","_law_pieces_here"] (spHand):=by
 apply F.ok schand (λ vs H Q E h=>?_) (λ cdv A outer s H vs Q E hr h=>?_)
 ·obtain⟨p,pl,ys,ps,rfl,_⟩:=h
  rfl
 obtain⟨p,pl,ys,ps,rfl,pt,npl,hpl,pz,y100,q⟩:=h;have nd:=schand.nd;apply%[_,((2∣(@aS _ _ _ _ ad))<<<((@bp _ _ _ _ _ _ _ _ E2 Z (bh (pv 1)) (aj (i:=3) nd Z (Or.inl Z)) (@ah _ _ _ (@bK _ _ _ _ (@dQ _ _ _ _ _ _ _ _ _ _ _ _ F3 PySem.F.slot_list_insert PySem.F.type_list_insert mL (pv 2) ((DD∩((pv 0)^^^(((@aA _ _ _ _ _ _ _ _ _ aJ Z B.len IR ((pv 2)^^^ad) ∅ ∅ Z Z)|||aK|||ae)^^^ad)))^^^(((@aS _ _ _ _ ((pv 3)^^^((@bf _ _ _ _ _ _ _ _ _ cY Z B.list Ih ((pv 3)^^^ad) ∅ ∅ Z Z)^^^ad)))&&&ix_list&&&(DD∩((pv 0)^^^(ae^^^ad))))^^^ad)) Z Z Z Z Z) Z)) (by intro _;rfl))<<<(((@aS _ _ _ _ ((pv 2)^^^((@bf _ _ _ _ _ _ _ _ _ cg Z B.tuple IW ((pv 2)^^^ad) ∅ ∅ Z Z)^^^ad)))&&&ix_list&&&(DD∩((pv 0)^^^(ae^^^ad))))⁻¹)))|?_];have sz:(2000:Nat) < sizeLine:=∅
 have e60:(1000:Int) < 10 ^ 60:=∅
 have yl:=E1 pz;apply ai (λ σ' H'=>∃fo:IB,σ'=[↑p,↑pl,↑fo,none]/\fo≠p/\H fo=none/\H' fo=↥[]/\PotC H' p/\Same H H') (λ R hR=>?_) ?_
 ·apply%[∅|λ fo hfo=>?_];obtain⟨H2,e2,k2,n2,s2,b2,pt2⟩:=bm (o:=.lst []) But.refl' pt hfo;rw[show upd H fo _=H2 from e2];exact hR _ _ %[fo,rfl,n2,hfo,k2,pt2|s2]
 rintro _ H2 ⟨fo,rfl,nfp,hfo0,hfo2,pt2,s2⟩;have npf:pl≠fo:=aw hpl hfo0;apply ai (λ σ' H'=>(∃v3,σ'=[↑p,↑pl,↑fo,v3])/\∃(zs:IF V)(qs:IF Pq),H' fo=↥zs/\Paired (PqJ p fo H') zs qs/\qs.Perm (ps)/\PotC H' p/\∀c o,c≠p->c≠fo->H2 c=some o->H' c=some o) (λ R hR=>?_) ?_
 ·apply%[_,Z,pl,Z,%[_|GW (s2 _ _ hpl)]|cj (xs:=ys) (λ i σ' H'=>(∃v3,σ'=[↑p,↑pl,↑fo,v3])/\∃(zs:IF V)(qs:IF Pq),H' fo=↥zs/\Paired (PqJ p fo H') zs qs/\qs.Perm (ps.take i)/\PotC H' p/\∀c o,c≠p->c≠fo->H2 c=some o->H' c=some o) %[%[_|Z],[],[],hfo2,.nil,List.Perm.refl _,pt2|λ _ _ _ _ e=>e] (λ i σ H' _ ⟨_,_,_,_,_,_,_,bx⟩=>GW (bx _ _ npl npf (s2 _ _ hpl))) ?_ (λ σ H' h=>hR _ _ (by rw[yl,HC]at h;exact h))];rintro i x _ H4 hi ⟨⟨v3,rfl⟩,zs,qs,hz4,pz4,pm4,pt4,b24⟩;have hin:i < ys.length:=(A5.mp hi).1;obtain⟨q0,hq0,aq,rfl,haq⟩:=GY pz hi;have zl:=E1 pz4;have ql:=pm4.length_eq;rw[G5]at ql;obtain⟨_,hp2⟩:=kx pt2;have haq4:H4 aq= ~~~(pqV q0):=b24 _ _ (λ z=>by have:=s2 _ _ haq;rw[z,hp2]at this;cases this) (λ z=>by have:=s2 _ _ haq;rw[z,hfo2]at this;cases this) (s2 _ _ haq);apply%[_,Z,.inl %[Z,_|GW hz4],_,Z,_,Z,fo,_,Z,.inl (GW hz4),_,_,Z,Z,p,_,Z,pt4,⋯,⋯|λ r H5 r0 r1 pt5 b5=>?_];have haq5:=bI b5 pt4 haq4;have hz5:=b5 _ _ nfp hz4;apply%[_,Z,_,Z,aq,_,Z,.inr (GV haq5)|λ l2 hl2=>?_];obtain⟨H6,e6,k6,n6,s6,b6,pt6⟩:=bm (o:=.lst (pqV q0)) But.refl' pt5 hl2;rw[show upd H5 l2 _=H6 from e6];apply%[zS2|λ l3 hl3=>?_];obtain⟨H7,e7,k7,n7,s7,b7,pt7⟩:=bm (o:=.lst [.ref aq,.ref l2]) But.refl' pt6 hl3;rw[show upd H6 l3 _=H7 from e7];have s57:=s6.trans s7;apply%[_,Z,p,2,Z,pt7,∅,∅|λ r2 H8 r20 r21 pt8 b8=>?_];have nl2f:l2≠fo:=λ z=>by rw[z,hz5]at hl2;cases hl2
  have k48:∀c o,c≠p->H4 c=some o->H8 c=some o:=λ c o n e=>b8 _ _ n (s57 _ _ (b5 _ _ n e));have hz8:=k48 _ _ nfp hz4;obtain⟨y,hy,hyJ⟩:∃y,atI [V.ref aq,V.ref l2] r2=some y/\PqJ p fo H8 y q0:=by
   have:r2=0\/r2=1:=⋯
   rcases this with rfl | rfl
   ·apply%[_,Z,aq,Z,λ z=>?_,λ z=>?_|.inr (bI b8 pt7 (s57 _ _ haq5))]
    ·obtain⟨_,e⟩:=kx pt5;rw[z,e]at haq5;cases haq5
    ·rw[z,hz5]at haq5;cases haq5
   ·exact%[_,Z,l2,Z,n6,nl2f|.inl (b8 _ _ n6 (s7 _ _ k6))]
  have keep:∀c o,c≠fo->H8 c=some o->(upd H8 fo (.lst (zs.take r.toNat ++ y :: zs.drop r.toNat))) c=some o:=λ c o n e=>by rw[aG n];exact e
  apply%[l3,_,_,_,Z,Z,GW (b8 _ _ n7 k7),hy,fo,zs,r,y,Z,Z,hz8,r0,⋯,⋯,%[_|Z],zs.take r.toNat ++ y :: zs.drop r.toNat,qs.take r.toNat ++ q0 :: qs.drop r.toNat,upd_same,?_,?_,pt8.put (Ne.symm nfp)|λ c o n1 n2 e=>keep _ _ n2 (k48 _ _ n1 (b24 _ _ n1 n2 e))]
  ·have kz:Paired (PqJ p fo (upd H8 fo (.lst (zs.take r.toNat ++ y :: zs.drop r.toNat)))) zs qs:=GX pz4 λ v q h=>h.keep λ c o n1 n2 e=>keep _ _ n2 (k48 _ _ n1 e);exact cO (tL _ kz) (.cons (hyJ.keep λ c o n1 n2 e=>keep _ _ n2 e) (lY _ kz))
  ·rw[HA,hq0];apply List.perm_middle.trans ?_;rw[List.take_append_drop];exact(List.Perm.cons q0 pm4).trans (List.perm_append_singleton q0 _).symm
 rintro _ H3 ⟨⟨v3,rfl⟩,zs,qs,hz3,pz3,pm,pt3,b23⟩;have b03:But p H H3:=λ c o n e=>b23 _ _ n (aw e hfo0) (s2 _ _ e);have zl:=E1 pz3;have ql:=pm.length_eq;apply%[_,Z,_,Z,fo,_,Z|.inl %[GW hz3|λ tt htt=>?_]];obtain⟨H4,e4,k4,n4,s4,b4,pt4⟩:=bm (o:=.tup zs) b03 pt3 htt;rw[show upd H3 tt _=H4 from e4];apply%[zS2|λ l3 hl3=>?_];obtain⟨H5,e5,k5,n5,s5,b5,pt5⟩:=bm (o:=.lst [.ref fo,.ref tt]) b4 pt4 hl3;rw[show upd H4 l3 _=H5 from e5];apply%[_,Z,p,2,Z,pt5,∅,∅|λ r H6 r0 r1 pt6 b6=>?_];have s35:=s4.trans s5;have pq:Paired (PqI p H6) zs qs:=Paired.impS (λ v q ⟨a,e,n1,_,h⟩=>%[a,e,n1|h.imp (λ z=>b6 _ _ n1 (s35 _ _ z)) (λ z=>b6 _ _ n1 (s35 _ _ z))]) pz3;have b06:=b5.trans b6;have:r=0\/r=1:=⋯
 rcases this with rfl | rfl
 ·exact%[l3,_,_,_,Z,Z,GW (b6 _ _ n5 k5),Z|q fo zs qs H6 nfp (.inl (b6 _ _ nfp (s35 _ _ hz3))) pq pm pt6 b06]
 ·exact%[l3,_,_,_,Z,Z,GW (b6 _ _ n5 k5),Z|q tt zs qs H6 n4 (.inr (bI b6 pt5 (s5 _ _ k4))) pq pm pt6 b06]
end
def SdV(H:Hp)(v:V)(g:Int×Int):Prop:=∃r,v=.ref r/\H r= ~~~[.int g.1,.int g.2]/\0<=g.1/\0<=g.2
theorem SdV.keep{H H':Hp}(k:∀a xs,H a= ~~~xs->H' a= ~~~xs){v:V}{g:Int×Int}(h:SdV H v g):SdV H' v g:=by obtain⟨r,e,h,q⟩:=h;exact%[r,e,k _ _ h|q]
theorem xy{α β:Type}{R:α->β->Prop}{xs:IF α}{ys:IF β}(h:Paired R xs ys)(hl:xs.length=4):∃a b c d a' b' c' d',xs=[a,b,c,d]/\ys=[a',b',c',d']/\R a a'/\R b b'/\R c c'/\R d d':=by
 obtain _ | ⟨h1,h⟩:=h
 ·cases hl
 obtain _ | ⟨h2,h⟩:=h
 ·cases hl
 obtain _ | ⟨h3,h⟩:=h
 ·cases hl
 obtain _ | ⟨h4,h⟩:=h
 ·cases hl
 obtain _ | ⟨h5,h⟩:=h
 ·exact%[_,_,_,_,_,_,_,_,Z,Z,h1,h2,h3|h4]
 ·simp at hl
theorem xz{a b:Int}(h1:0<=a)(h2:a < 3)(h3:0<=b)(h4:b < 2):a * b<=2:=by
 have:b=0\/b=1:=⋯
 rcases this with rfl | rfl <;> omega
section
variable{P:F5}{w:F7}{K:C3}{mg:Str->ID F8}{base:Heap}
inductive spWheel(vs:IF V)(H:Hp)(Q:VK)(E_:XK):Prop
|mk(p t kl:IB)(b W h:Int)(ks:IF Kd)(_:vs=[.ref p,.ref t,.int W,.int h])(_:PotC H p)(_:LS H t b ks kl)(_:kl≠p)(_:1<=ks.length)(_:ks.length<=8)(_:(∀k∈ks,Good k))(_:0<=b)(_:∀(l:IB)(zs:IF V)(qs:IF Pq)(H':Hp),H l=none->l≠p->H' l=↥zs->Paired (PqT ks H') zs qs->Laid ks W h qs->zs.length<=4->((∀k∈ks,k.w+2<=W/\k.h+2<=W/\k.w<=h/\k.h<=h)->qs≠[])->PotC H' p->But p H H'->Q (.ref l) H')
theorem scwheel:FnScope ["_law_pot_here","_law_shop_here","_law_wide","_law_high","_law_wheel_here","_law_a","_law_b","_law_c","_law_d","_law_gap","_law_x","_law_spots","_law_found","_law_lying","_law_spot"] ["_law_pot_here","_law_shop_here","_law_wide","_law_high"] (defScope ff):=%[Z,Z,Z,∅,Z,∅|∅]
theorem qo{f:IB}{fd:F6}(F:Fun K "_law_wheel" "_law_wheel" ff f fd)(B:Blt mg)(DD:Dn P w K mg base "_law_take" ["_law_pot_here","_law_many"] 1 (spTake))(DLy:Dn P w K mg base "_law_lyings" ["_law_shop_here"] 1 (spLyingsC))(DSd:Dn P w K mg base "_law_sides" ["_law_shop_here","_law_kind","_law_turned"] 1 (spSidesC))(DFi:Dn P w K mg base "_law_fits" ["_law_shop_here","_law_wide","_law_high","_law_pieces_here","_law_piece"] 3 (spFitsC)):FnOk P w K mg base CX0 4 f fd ["_law_pot_here","_law_shop_here","_law_wide","_law_high"] (spWheel):=by
 apply F.ok scwheel (λ vs H Q E h=>?_) (λ cdv A outer s H vs Q E hr h=>?_)
 ·obtain⟨p,t,kl,b,W,h1,ks,rfl,_⟩:=h
  rfl
 obtain⟨p,t,kl,b,W,h1,ks,rfl,pt,sh,nkp,k1,k08,gk,b0,q⟩:=h;have nd:=scwheel.nd;apply%[_,((cw (i:=4) (own:=["_law_k"]) (cs:=["_law_pot_here","_law_shop_here"]) (cap:=[0,1]) Z nd Z Z Z (bY Z B.range (ae^^^ad)) (aR (sc:=defScope ff) (N:=["_law_pot_here","_law_shop_here","_law_wide","_law_high","_law_wheel_here","_law_a","_law_b","_law_c","_law_d","_law_gap","_law_x","_law_spots","_law_found","_law_lying","_law_spot"]) Z Z ∅) (λ _ _ _ _ _=>aj (i:=0) (by show List.Nodup (["_law_k","_law_pot_here","_law_shop_here"]:IF Str) ;decide +kernel) Z (Or.inl Z) (Or.inr Z)) (λ _ _ _ _ _=>bi) (λ _ _ _ _ _=>(ar (r:=rIxL K) ix_list (DLy∩((pv 2)^^^ad)) (DD∩((pv 1)^^^((aA (r:=xl K) aJ Z B.len IR ((DLy∩((pv 2)^^^ad))^^^ad))^^^ad))) (λ _ _=>Z))))<<<((@bz _ _ _ _ _ _ (cu (own:=["_law_kind","_law_turned"]) (cs:=["_law_shop_here"]) (cap:=[1]) Z (bh (pv 4)) (aR (sc:=defScope ff) (N:=["_law_pot_here","_law_shop_here","_law_wide","_law_high","_law_wheel_here","_law_a","_law_b","_law_c","_law_d","_law_gap","_law_x","_law_spots","_law_found","_law_lying","_law_spot"]) Z Z ∅) (λ _ _ _ _ _=>gm K Z Z (by show List.Nodup (["_law_kind","_law_turned","_law_shop_here"]:IF Str) ;decide +kernel) Z Z Z Z) (λ _ _ _ _ _=>bi) (λ _ _ _ _ _=>(DSd∩((pv 2)^^^((pv 0)^^^((pv 1)^^^ad)))))) (jY Z (5•(6•(7•(8•aQ))))) Z Z Z)<<<((9∣((@aS _ _ _ _ (((pv 1)&&&ix_tup&&&ae)^^^((((pv 1)&&&ix_tup&&&ae)|||aK|||ae)^^^((@aA _ _ _ _ _ _ _ _ _ (cP Z) Z B.max Ia (ae^^^((((pv 1)&&&ix_tup&&&ae)|||bQ|||ae)^^^ad)) ∅ ∅ Z Z)^^^ad))))&&&ix_list&&&(DD∩((pv 0)^^^(ae^^^ad)))))<<<((10∣((DD∩((pv 0)^^^(ae^^^ad)))|||ce|||(DD∩((pv 0)^^^(ae^^^ad)))))<<<((11∣(@aS _ _ _ _ ((@aL _ _ _ _ _ ((pv 10)^^^(ae^^^ad)))^^^((@aL _ _ _ _ _ ((((pv 10)|||aK|||((pv 5)&&&ix_tup&&&ae))|||aK|||(pv 9))^^^(ae^^^ad)))^^^((@aL _ _ _ _ _ ((((pv 10)|||aK|||((pv 8)&&&ix_tup&&&ae))|||aK|||(pv 9))^^^(((@aA _ _ _ _ _ _ _ _ _ (cP Z) Z B.max Ia (((pv 6)&&&ix_tup&&&ae)^^^(((pv 5)&&&ix_tup&&&ae)^^^ad)) ∅ ∅ Z Z)|||aK|||(pv 9))^^^ad)))^^^((@aL _ _ _ _ _ ((pv 10)^^^((((pv 5)&&&ix_tup&&&ae)|||aK|||(pv 9))^^^ad)))^^^ad))))))<<<((12∣(@aS _ _ _ _ ad))<<<((@bp _ _ _ _ _ _ _ _ E2 Z (fY Z B.zip ((pv 4)^^^((pv 11)^^^ad))) (bc Z (13•(14•aQ))) (@ah _ _ _ ((@aN _ _ _ (DFi∪((pv 1)^^^((pv 2)^^^((pv 3)^^^((pv 12)^^^(((pv 13)|||fC|||(pv 14))^^^ad)))))) (by intro _;rfl))<|>(@ah _ _ _ (@bK _ _ _ _ (@dQ _ _ _ _ _ _ _ _ _ _ _ _ F3 PySem.F.slot_list_append PySem.F.type_list_append bM (pv 12) (((pv 13)|||fC|||(pv 14))^^^ad) Z Z Z Z Z) Z))<|>aE)) (by intro _;rfl))<<<((pv 12)⁻¹))))))))|?_];have sz:(1000:Nat) < sizeLine:=∅
 have ly8:=eF ks 0;have ly1:1<=(lyK ks 0).length:=by
  cases ks with
  | nil=>exact absurd k1 (by simp)
  | cons k r=>exact Nat.succ_le_of_lt (Nat.zero_lt_succ _)
 have e3:(100:Int) < 10 ^ 60:=∅
 apply ai (λ σ' H'=>∃(wo:IB)(us:IF V)(ls:IF (Nat×Bool)),σ'=[↑p,↑t,⇑W,⇑h1,↑wo,none,none,none,none,none,none,none,none,none,none]/\wo≠p/\H wo=none/\H' wo=↥us/\Paired (LyC H') us ls/\(∀q∈ls,q∈lyK ks 0)/\us.length=4/\PotC H' p/\But p H H') (λ R hR=>?_) ?_
 ·apply%[4,Z,∅,∅|pI (lo:=0) (n:=4) (λ i us Hx=>∃ls,Paired (LyC Hx) us ls/\(∀q∈ls,q∈lyK ks 0)/\us.length=i/\PotC Hx p/\But p H Hx) %[[],.nil,(λ q hq=>by simp at hq),Z,pt|But.refl'] ?_ ?_]
  ·rintro i us Hx hi ⟨ls,pl,ml,ul,px,bx⟩;have shx:=sh.but nkp pt bx;apply%[⋯,leS.set rfl|bj ?_];apply%[_,Z,t,kl,b,ks,Z,shx,k08|λ l1 u1 H1 hl1 hl10 pl1 s1=>%[_,Z,_,Z,t,kl,b,ks,Z,shx.same s1,k08|λ l2 u2 H2 hl2 hl20 pl2 s2=>?_]];have px2:=(px.same s1).same s2;have en1:=E1 pl1;have en2:=E1 pl2;apply%[l2,_,Z,.inl (GW hl2),p,_,Z,px2,⋯,⋯|λ r H3 r0 r1 px3 b3=>?_];obtain⟨v,hv⟩:∃v,u1[r.toNat]?=some v:=%[_|E9 (show r.toNat < u1.length by omega)]
   obtain⟨q0,hq0,aq,rfl,haq⟩:=GY pl1 hv;have n1:l1≠p:=Ne.symm (px.ne hl10);have s12:=s1.trans s2;apply%[l1,_,_,_,Z,Z,GW (b3 _ _ n1 (s2 _ _ hl1)),cy r0 hv|Nx.of hi %[ls ++ [q0],cO (GX pl λ v q h=>h.keep λ a xs e=>bI b3 px2 (s12 _ _ e)) (.cons %[aq,Z|bI b3 px2 (s2 _ _ haq)] .nil),λ q hq=>?_,by rw[G4,ul];rfl,px3|λ c o n e=>b3 _ _ n (s12 _ _ (bx _ _ n e))]];rcases C1.mp hq with hq | hq
   ·exact ml q hq
   ·rw[C9.mp hq];exact B4 hq0
  ·rintro us Hx ⟨ls,pl,ml,ul,px,bx⟩;apply%[⋯|λ wo hwo=>?_];obtain⟨H1,e1,k1,n1,s1,b1,pt1⟩:=bm (o:=.lst us) bx px hwo;rw[show upd Hx wo _=H1 from e1];exact hR _ _ %[wo,us,ls,rfl,n1,(bx.freeC px hwo).2,k1,GX pl λ v q h=>h.keep λ a xs e=>s1 _ _ e,ml,ul,pt1|b1]
 rintro _ H1 ⟨wo,us,ls,rfl,nwp,hwo0,hwo1,pl1,ml,ul4,pt1,b1⟩;have sh1:=sh.but nkp pt b1;apply ai (λ σ' H'=>∃(ra rb rc rd:IB)(ga gb gc gd:Int×Int),σ'=[↑p,↑t,⇑W,⇑h1,↑wo,↑ra,↑rb,↑rc,↑rd,none,none,none,none,none,none]/\SdV H' (.ref ra) ga/\SdV H' (.ref rb) gb/\SdV H' (.ref rc) gc/\SdV H' (.ref rd) gd/\Same H1 H') (λ R hR=>?_) ?_
 ·apply%[_,Z,wo,Z,%[_|GW hwo1]|(bJ (K:=K) (.inl hwo1) (λ i vs Hx=>Same H1 Hx/\vs.length=i/\∃gs,Paired (SdV Hx) vs gs) (λ i us Hx _ ⟨sx,_⟩ o e=>sx _ _ e) %[Same.refl _,Z,[]|.nil] ?_ ?_).1 hwo1]
  ·rintro i x vs Hx hi ⟨sx,vl,gs,pg⟩;have hin:i < us.length:=(A5.mp hi).1;obtain⟨q0,hq0,aq,rfl,haq⟩:=GY pl1 hi;obtain⟨_,kk,hkk,_⟩:=dD (ml q0 (B4 hq0));have hkk:ks[q0.1]?=some kk:=by simpa using hkk
   have g0:=gk kk (B4 hkk);have g1:=g0.w;have g2:=g0.h;apply%[⋯,aq,_,Z,GV (sx _ _ haq),Z,_,_,Z,_,_,Z,Z,qc (leS.set rfl) (leS.set rfl)|bj ?_];apply%[_,Z,_,Z,_,Z,t,kl,b,ks,q0.1,q0.2,kk,Z,sh1.same sx,hkk|λ r H3 h3 s3=>Nx.of hin %[sx.trans s3,by rw[G4,vl];rfl,gs ++ [(sd1 kk q0.2,sd2 kk q0.2)]|cO (GX pg λ v q h=>h.keep λ a xs e=>s3 _ _ e) (.cons %[r,Z,h3,?_|?_] .nil)]]
   ·show 0<=sd1 kk q0.2;unfold sd1;split <;> omega
   ·show 0<=sd2 kk q0.2;unfold sd2;split <;> omega
  ·rintro vs Hx ⟨sx,vl,gs,pg⟩;apply%[⋯|λ l hl=>?_];obtain⟨_,_,_,_,ga,gb,gc,gd,rfl,rfl,⟨ra,rfl,ha⟩,⟨rb,rfl,hb⟩,⟨rc,rfl,hc⟩,⟨rd,rfl,hd⟩⟩:=xy pg ⋯;obtain⟨H2,e2,k2,s2⟩:∃H',upd Hx l (.lst [.ref ra,.ref rb,.ref rc,.ref rd])=H'/\H' l=↥[.ref ra,.ref rb,.ref rc,.ref rd]/\Same Hx H':=%[_,Z,upd_same|F9 hl]
   rw[show upd Hx l _=H2 from e2];exact%[l,_,Z,.inl (GW k2),Z,_,_,Z,_,_,Z,_,_,Z,_,_,Z,Z|hR _ _ %[ra,rb,rc,rd,ga,gb,gc,gd,Z,SdV.keep (λ a xs e=>s2 _ _ e) %[ra,Z|ha],SdV.keep (λ a xs e=>s2 _ _ e) %[rb,Z|hb],SdV.keep (λ a xs e=>s2 _ _ e) %[rc,Z|hc],SdV.keep (λ a xs e=>s2 _ _ e) %[rd,Z|hd]|sx.trans s2]]
 rintro _ H2 ⟨ra,rb,rc,rd,ga,gb,gc,gd,rfl,sa,sb,sc,sd,s12⟩;have pt2:=pt1.same s12;have b2:But p H H2:=λ c o n e=>s12 _ _ (b1 _ _ n e);have hwo2:=s12 _ _ hwo1;apply ai (λ σ' H'=>∃gp:Int,σ'=[↑p,↑t,⇑W,⇑h1,↑wo,↑ra,↑rb,↑rc,↑rd,⇑gp,none,none,none,none,none]/\0<=gp/\PotC H' p/\But p H2 H') (λ R hR=>?_) ?_
 ·obtain⟨kr,ht0,_⟩:=id sh1;have ht:=s12 _ _ ht0;apply%[_,Z,t,_,0,_,Z,Z,GV ht,Z,_,Z,t,_,0,_,Z,Z,GV ht,Z,_,_,Z,Z,_,Z,t,_,0,_,Z,Z,GV ht,Z,_,_,Z,Z,_,_,Z,zS3|λ l3 hl3=>?_];obtain⟨H3,e3,k3,n3,s3,b3,pt3⟩:=bm (o:=.lst [.int b,.int (b+1),.int (if b - 1 > 0 then b - 1 else 0)]) But.refl' pt2 hl3;rw[show upd H2 l3 _=H3 from e3];apply%[_,Z,p,3,Z,pt3,∅,∅|λ z H4 z0 z1 pt4 b4=>?_];obtain⟨xx,hxx,xx0⟩:∃xx:Int,atI [V.int b,V.int (b+1),V.int (if b - 1 > 0 then b - 1 else 0)] z=⇑xx/\0<=xx:=by
   have:z=0\/z=1\/z=2:=⋯
   rcases this with rfl | rfl | rfl
   ·exact%[_,Z|⋯]
   ·exact%[_,Z|⋯]
   ·exact%[_,Z|by split <;> omega]
  exact%[l3,_,_,_,Z,Z,GW (b4 _ _ n3 k3),hxx|hR _ _ %[xx,Z,xx0,pt4|b3.trans b4]]
 rintro _ Hg ⟨gp,rfl,gp0,ptg,b2g⟩;apply ai (λ σ' H'=>∃ex:Int,σ'=[↑p,↑t,⇑W,⇑h1,↑wo,↑ra,↑rb,↑rc,↑rd,⇑gp,⇑ex,none,none,none,none]/\0<=ex/\ex<=2/\PotC H' p/\But p H2 H') (λ R hR=>?_) ?_
 ·exact%[_,Z,p,3,Z,ptg,∅,∅|λ z1 H4 z10 z11 pt4 b4=>%[_,Z,p,2,Z,pt4,∅,∅|λ z2 H5 z20 z21 pt5 b5=>%[_,_,Z,Z,.inl %[⋯|⋯]|hR _ _ %[z1 * z2,Z,Int.mul_nonneg z10 z20,xz z10 z11 z20 z21,pt5|b2g.trans (b4.trans b5)]]]]
 rintro _ H3 ⟨ex,rfl,ex0,ex2,pt3,b23⟩;clear b2g ptg;clear Hg;have hwo3:=b23 _ _ nwp hwo2;have b3:=b2.trans b23;have k12:∀a xs,H1 a= ~~~xs->H3 a= ~~~xs:=λ a xs e=>bI b23 pt2 (s12 _ _ e);have pl3:Paired (LyC H3) us ls:=GX pl1 λ v q h=>h.keep k12;obtain⟨_,ea,ha,ga1,ga2⟩:=SdV.keep (λ a xs e=>bI b23 pt2 e) sa;cases ea;obtain⟨_,eb,hb,gb1,gb2⟩:=SdV.keep (λ a xs e=>bI b23 pt2 e) sb;cases eb;obtain⟨_,ed,hd,gd1,gd2⟩:=SdV.keep (λ a xs e=>bI b23 pt2 e) sd;cases ed;clear sa sb sc sd hwo2 b23 pt2 s12 hwo1 pl1 k12 b2;clear H2;apply ai (λ σ' H'=>∃(so:IB)(ss:IF V)(gs:IF (Int×Int)),σ'=[↑p,↑t,⇑W,⇑h1,↑wo,↑ra,↑rb,↑rc,↑rd,⇑gp,⇑ex,↑so,none,none,none]/\so≠p/\ss.length=4/\gs[0]?=some (ex,0)/\H' so=↥ss/\Paired (SdV H') ss gs/\PotC H' p/\But p H3 H') (λ R hR=>?_) ?_
 ·apply%[_,Z,zS2|λ t1 ht1=>?_];obtain⟨H4,e4,k4,n4,s4,b4,pt4⟩:=bm (o:=.tup [.int ex,.int 0]) But.refl' pt3 ht1;rw[show upd H3 t1 _=H4 from e4];have ha4:=s4 _ _ ha;apply%[_,Z,_,Z,ra,_,0,_,Z,Z,GV ha4,Z,_,_,Z,Z,_,Z,_,_,Z,Z,zS2|λ t2 ht2=>?_];obtain⟨H5,e5,k5,n5,s5,b5,pt5⟩:=bm (o:=.tup [.int (ex+ga.1+gp),.int 0]) b4 pt4 ht2;rw[show upd H4 t2 _=H5 from e5];have s35:=s4.trans s5;apply%[_,Z,_,Z,rd,_,0,_,Z,Z,GV (s35 _ _ hd),Z,_,_,Z,Z,_,Z,_,_,Z,Z,_,Z,rb,_,1,_,Z,Z,GV (s35 _ _ hb),Z,_,Z,ra,_,1,_,Z,Z,GV (s35 _ _ ha),Z,_,_,Z,_,Z,_,_,Z,Z,zS2|λ t3 ht3=>?_];obtain⟨H6,e6,k6,n6,s6,b6,pt6⟩:=bm (o:=.tup [.int (ex+gd.1+gp),.int ((if ga.2 > gb.2 then ga.2 else gb.2)+gp)]) b5 pt5 ht3;rw[show upd H5 t3 _=H6 from e6];have s36:=s35.trans s6;apply%[_,Z,_,Z,ra,_,1,_,Z,Z,GV (s36 _ _ ha),Z,_,Z,_,_,Z,Z,zS2|λ t4 ht4=>?_];obtain⟨H7,e7,k7,n7,s7,b7,pt7⟩:=bm (o:=.tup [.int ex,.int (ga.2+gp)]) b6 pt6 ht4;rw[show upd H6 t4 _=H7 from e7];apply%[zS4|λ so hso=>?_];obtain⟨H8,e8,k8,n8,s8,b8,pt8⟩:=bm (o:=.lst [.ref t1,.ref t2,.ref t3,.ref t4]) b7 pt7 hso;rw[show upd H7 so _=H8 from e8];apply hR _ _ %[so,_,[(ex,0),(ex+ga.1+gp,0),(ex+gd.1+gp,(if ga.2 > gb.2 then ga.2 else gb.2)+gp),(ex,ga.2+gp)],rfl,n8,rfl,rfl,k8,?_,pt8|b8];apply .cons %[t1,Z,s8 _ _ (s7 _ _ (s6 _ _ (s5 _ _ k4))),ex0|(by show(0:Int)<=0;decide)] (.cons %[t2,Z,s8 _ _ (s7 _ _ (s6 _ _ k5)),?_|(by show(0:Int)<=0;decide)] (.cons %[t3,Z,s8 _ _ (s7 _ _ k6),?_|?_] (.cons %[t4,Z,s8 _ _ k7,ex0|?_] .nil)))
  ·show 0<=ex+ga.1+gp;omega
  ·show 0<=ex+gd.1+gp;omega
  ·show 0<=(if ga.2 > gb.2 then ga.2 else gb.2)+gp
   split <;> omega
  ·show 0<=ga.2+gp;omega
 rintro _ H4 ⟨so,ss,gs,rfl,nsp,sl4,gs0,hso4,pg4,pt4,b34⟩;have b04:=b3.trans b34;apply ai (λ σ' H'=>∃fo:IB,σ'=[↑p,↑t,⇑W,⇑h1,↑wo,↑ra,↑rb,↑rc,↑rd,⇑gp,⇑ex,↑so,↑fo,none,none]/\fo≠p/\H4 fo=none/\H' fo=↥[]/\PotC H' p/\But p H4 H') (λ R hR=>?_) ?_
 ·apply%[∅|λ fo hfo=>?_];obtain⟨H5,e5,k5,n5,s5,b5,pt5⟩:=bm (o:=.lst []) But.refl' pt4 hfo;rw[show upd H4 fo _=H5 from e5];exact hR _ _ %[fo,rfl,n5,hfo,k5,pt5|b5]
 rintro _ H5 ⟨fo,rfl,nfp,hfo4,hfo5,pt5,b45⟩;have hwo4:=b34 _ _ nwp hwo3;have hfo0:H fo=none:=(b04.freeC pt4 hfo4).2;have nwf:wo≠fo:=aw hwo4 hfo4;have nsf:so≠fo:=aw hso4 hfo4;have hwo5:=b45 _ _ nwp hwo4;have hso5:=b45 _ _ nsp hso4;have pl5:Paired (LyC H5) us ls:=GX pl3 λ v q h=>h.keep λ a xs e=>bI b45 pt4 (bI b34 pt3 e);have pg5:Paired (SdV H5) ss gs:=GX pg4 λ v q h=>h.keep λ a xs e=>bI b45 pt4 e;obtain⟨kr,lst1,lst2,lst3⟩:=id sh;have nkf:kl≠fo:=aw lst2 hfo0;have b05:=b04.trans b45;obtain⟨_,hp5⟩:=kx pt5;have tk:∀{Hx:Hp},(∀c o,c≠p->c≠fo->H5 c=some o->Hx c=some o)->∀a xs,H5 a= ~~~xs->Hx a= ~~~xs:=λ bx a xs e=>bx _ _ (λ z=>by rw[z,hp5]at e;cases e) (λ z=>by rw[z,hfo5]at e;cases e) e;have shx:∀{Hx:Hp},(∀c o,c≠p->c≠fo->H5 c=some o->Hx c=some o)->LS Hx t b ks kl:=λ bx=>%[kr,tk bx _ _ (bI b05 pt lst1),bx _ _ nkp nkf (b05 _ _ nkp lst2)|Tups.keep (λ a xs e=>tk bx _ _ (bI b05 pt e)) lst3]
 apply ai (λ σ' H'=>∃(zs:IF V)(qs:IF Pq),(∃v12 v13,σ'=[↑p,↑t,⇑W,⇑h1,↑wo,↑ra,↑rb,↑rc,↑rd,⇑gp,⇑ex,↑so,↑fo,v12,v13])/\H' fo=↥zs/\Paired (PqT ks H') zs qs/\Laid ks W h1 qs/\zs.length<=us.length/\((∀k∈ks,k.w+2<=W/\k.h+2<=W/\k.w<=h1/\k.h<=h1)->1<=us.length->qs≠[])/\PotC H' p/\(∀c o,c≠p->c≠fo->H5 c=some o->H' c=some o)) (λ R hR=>?_) ?_
 ·apply%[_,Z,_,Z,wo,so,us,ss,Z,hwo5,hso5|rq (xs:=us) (ys:=ss) (λ i σ' H'=>∃(zs:IF V)(qs:IF Pq),(∃v12 v13,σ'=[↑p,↑t,⇑W,⇑h1,↑wo,↑ra,↑rb,↑rc,↑rd,⇑gp,⇑ex,↑so,↑fo,v12,v13])/\H' fo=↥zs/\Paired (PqT ks H') zs qs/\Laid ks W h1 qs/\zs.length<=i/\((∀k∈ks,k.w+2<=W/\k.h+2<=W/\k.w<=h1/\k.h<=h1)->1<=i->qs≠[])/\PotC H' p/\(∀c o,c≠p->c≠fo->H5 c=some o->H' c=some o)) ⋯ %[[],[],%[_,_|Z],hfo5,.nil,λ i p hp=>by simp at hp,B2 _,(λ _ h=>absurd h ∅),pt5|λ _ _ _ _ e=>e] (λ i σ Hx ⟨_,_,_,_,_,_,_,_,_,bx⟩=>%[bx _ _ nwp nwf hwo5|bx _ _ nsp nsf hso5]) ?_ (λ σ Hx e=>hR _ _ e)];rintro i v1 v2 tz _ H6 hv1 hv2 htz ⟨zs,qs,⟨v12,v13,rfl⟩,hz6,pz6,ld6,zl6,ne6,pt6,b56⟩;have hin:i < us.length:=(A5.mp hv1).1;obtain⟨q0,hq0,aq,rfl,haq⟩:=GY pl5 hv1;obtain⟨g0,hg0,ag,rfl,hag,g01,g02⟩:=GY pg5 hv2;have hly:=ml q0 (B4 hq0);obtain⟨_,kk,hkk,_⟩:=dD hly;have hkk:ks[q0.1]?=some kk:=by simpa using hkk
  obtain⟨H7,e7,k7,n7,s7,b7,pt7⟩:=bm (o:=.tup [.ref aq,.ref ag]) But.refl' pt6 htz;rw[show upd H6 tz _=H7 from e7];have haq7:=s7 _ _ (tk b56 _ _ haq);have hag7:=s7 _ _ (tk b56 _ _ hag);apply%[tz,_,Z,GV k7,Z,_,_,Z,_,_,Z,Z|?_];apply%[_,Z,_,Z,_,Z,_,Z,_,Z,_,Z,aq,ag,_,_,Z,Z,haq7,hag7,(by show 2+2<=sizeLine;decide)|λ m H8 hm hm8=>?_];have s78:Same H7 H8:=by
   rcases hm with⟨e,_⟩ | ⟨e1,e2⟩
   ·rw[e];exact Same.refl _
   ·rw[e2];exact F9 e1
  have hm8:H8 m= ~~~(pqV %[q0.1,q0.2,g0.1|g0.2]):=hm8;have s68:=s7.trans s78;have pz8:Paired (PqT ks H8) zs qs:=GX pz6 λ v q h=>h.keep λ a xs e=>s68 _ _ e;have bx8:∀c o,c≠p->c≠fo->H5 c=some o->H8 c=some o:=λ c o n1 n2 e=>s68 _ _ (b56 _ _ n1 n2 e);apply%[t,kl,fo,m,b,W,h1,ks,zs,qs,%[q0.1,q0.2,g0.1|g0.2],kk,Z,shx bx8,s68 _ _ hz6,Paired.impS (λ v q h=>h.s) pz8,⋯,.inr hm8,hkk|λ H9 s9=>%[_,Z|?_]];have s69:=s68.trans s9;apply bv (λ cc=>?_) (λ cc=>?_)
  ·have hz9:=s69 _ _ hz6;apply%[_,Z,.inl %[Z,_|GW hz9],_,Z,_,Z,aq,ag,_,_,Z,Z,s9 _ _ (s78 _ _ haq7),s9 _ _ (s78 _ _ hag7),(by show 2+2<=sizeLine;decide)|λ m2 H10 hm' hm10=>?_];have s9x:Same H9 H10:=by
    rcases hm' with⟨e,_⟩ | ⟨e1,e2⟩
    ·rw[e];exact Same.refl _
    ·rw[e2];exact F9 e1
   have hm10:H10 m2= ~~~(pqV %[q0.1,q0.2,g0.1|g0.2]):=hm10;have s6x:=s69.trans s9x;have hz10:=s6x _ _ hz6;have kt:∀c xs,H10 c= ~~~xs->(upd H10 fo (.lst (zs ++ [.ref m2]))) c= ~~~xs:=λ c xs e=>by rw[aG (λ z=>by rw[z,hz10]at e;cases e)];exact e
   apply%[fo,_,_,Z,Z,hz10,⋯,zs ++ [.ref m2],qs ++ [%[q0.1,q0.2,g0.1|g0.2]],%[_,_|Z],upd_same,?_,ld6.snoc cc,by rw[G4];show zs.length+1<=_;omega,(λ _ _ z=>by simp at z),(pt6.same s6x).put (Ne.symm nfp)|λ c o n n2 e=>by rw[aG n2];exact s6x _ _ (b56 _ _ n n2 e)];exact cO (GX pz6 λ v q h=>h.keep λ a xs e=>kt _ _ (s6x _ _ e)) (.cons %[m2,Z,kt _ _ hm10,hly,g01|g02] .nil)
  ·have ne7:(∀k∈ks,k.w+2<=W/\k.h+2<=W/\k.w<=h1/\k.h<=h1)->1<=i+1->qs≠[]:=λ big _=>by
    by_cases i0:1<=i
    ·exact ne6 big i0
    ·have:i=0:=⋯
     subst this;apply absurd ?_ cc;have z0:qs=[]:=by have:=E1 pz6;exact HF ⋯
     have:g0=(ex,0):=by rw[gs0]at hg0;exact(B7 hg0).symm
     subst this;subst z0;obtain⟨a1,a2,a3,a4⟩:=big kk (B4 hkk);show(onB ks W h1 %[q0.1,q0.2,ex|0] && true)=true;unfold onB;rw[aW hkk];have s1:ex+sd1 kk q0.2<=W:=by unfold sd1;split <;> omega
     have s2:0+sd2 kk q0.2<=h1:=by unfold sd2;split <;> omega
     show(!(decide (W < ex+sd1 kk q0.2) || decide (h1 < 0+sd2 kk q0.2)) && true)=true;rw[IQ ⋯,IQ ⋯]
     rfl
   exact%[zs,qs,%[_,_|Z],s69 _ _ hz6,GX pz6 λ v q h=>h.keep λ a xs e=>s69 _ _ e,ld6,⋯,ne7,pt6.same s69|λ c o n1 n2 e=>s69 _ _ (b56 _ _ n1 n2 e)]
 rintro _ H6 ⟨zs,qs,⟨v12,v13,rfl⟩,hz6,pz6,ld6,zl6,ne6,pt6,b56⟩;exact%[_,Z|q fo zs qs H6 hfo0 nfp hz6 pz6 ld6 ⋯ (λ big=>ne6 big ⋯) pt6 (λ c o n e=>b56 _ _ n (aw e hfo0) (b05 _ _ n e))]
end
def BxAt(H:Hp)(v:V)(x:Bx):Prop:=∃a,v=.ref a/\H a= ~~~(bxV x)
theorem BxAt.keep{H H':Hp}(k:∀a xs,H a= ~~~xs->H' a= ~~~xs){v:V}{x:Bx}(h:BxAt H v x):BxAt H' v x:=by obtain⟨a,e,h⟩:=h;exact%[a,e|k _ _ h]
theorem Ey{K:C3}{H:Hp}:∀{ys:IF V}{bs:IF Bx},Paired (BxAt H) ys bs->∃ds,DatVs K H ys ds/\ds.length=ys.length/\PyData.canLayAll0 ds=true/\PyData.depthAll ds<=1
 | _,_,.nil=>%[[],.nil,Z,Z|E6 _]
 | _,_,.cons ⟨a,e,ha⟩ r=>by
  subst e;obtain⟨ds,d1,d2,d3,d4⟩:=Ey (K:=K) r;apply%[_ :: ds,.cons (.tup (GV ha) (.cons (.int _) (.cons (.int _) (.cons (.int _) (.cons (.int _) .nil))))) d1,by rw[G1,G1,d2],?_|?_]
  ·simp[PyData.canLayAll0,PyData.canLay0,d3]
  ·simp only[PyData.depthAll,PyData.depth];omega
theorem xA{H:Hp}{a:IB}{x:Bx}{i:Nat}(hi:i < 2):atI (bxV x) (i:Int)=⇑(loB i x)/\atI (bxV x) ((i:Int)+2)=⇑(hiB i x):=by
 have:i=0\/i=1:=⋯
 rcases this with rfl | rfl
 ·exact%[Z|Z]
 ·exact%[Z|Z]
def eN(ks:IF Kd)(i:Nat)(p:Int)(q:Pq):Bool:=decide (hiB i (aD ks q)<=p)
def dP(b:Int)(ks:IF Kd)(i:Nat)(p:Int)(q:Pq):Bool:=decide (p+b<=loB i (aD ks q))
theorem iR{α:Type}(p q:α->Bool):∀bs:IF α,(∀x∈bs,p x=true->q x=false)->(bs.filter p).length+(bs.filter q).length<=bs.length/\((bs.filter p).length+(bs.filter q).length=bs.length↔∀x∈bs,p x=true\/q x=true)
 | [],_=>%[B2 _,λ _ x hx=>by simp at hx|λ _=>rfl]
 | x :: bs,h=>by
  obtain⟨h1,h2⟩:=iR p q bs λ y hy=>h y (B3 _ hy);have hx:=h x B6;cases ep:p x <;> cases eq:q x
  ·rw[HJ (by simp[ep]),HJ (by simp[eq]),G1];apply%[⋯,λ e=>⋯|λ e=>?_];have:=e x B6;rw[ep,eq]at this;simp at this
  ·rw[HJ (by simp[ep]),HV eq,G1,G1];apply%[⋯,λ e y hy=>?_|λ e=>?_]
   ·rcases G0.mp hy with rfl | hy
    ·exact .inr eq
    ·exact h2.mp ⋯ y hy
   ·have:=h2.mpr λ y hy=>e y (B3 _ hy);omega
  ·rw[HV ep,HJ (by simp[eq]),G1,G1];apply%[⋯,λ e y hy=>?_|λ e=>?_]
   ·rcases G0.mp hy with rfl | hy
    ·exact .inl ep
    ·exact h2.mp ⋯ y hy
   ·have:=h2.mpr λ y hy=>e y (B3 _ hy);omega
  ·rw[hx ep]at eq;cases eq
theorem fil_ne{α:Type}{p:α->Bool}{bs:IF α}:bs.filter p≠[]↔∃x∈bs,p x=true:=by
 constructor
 ·intro h;obtain⟨x,r,e⟩:=List.exists_cons_of_ne_nil h;have:x∈bs.filter p:=by rw[e];exact B6
  exact%[x,(G8.mp this).1|(G8.mp this).2]
 ·rintro⟨x,hx,h⟩ e;have:x∈bs.filter p:=G8.mpr %[hx|h];rw[e]at this;simp at this
theorem qp{α:Type}(f:α->Int):∀(bs:IF α),bs≠[]->∃x∈bs,∀y∈bs,f y<=f x
 | [],h=>absurd rfl h
 | [x],_=>%[x,B6|λ y hy=>by rw[C9.mp hy];exact E3 _]
 | x :: y :: r,_=>by
  obtain⟨z,hz,h⟩:=qp f (y :: r) (by simp)
  by_cases c:f z<=f x
  ·apply%[x,B6|λ u hu=>?_];rcases G0.mp hu with rfl | hu
   ·exact E3 _
   ·have:=h u hu;omega
  ·apply%[z,B3 _ hz|λ u hu=>?_];rcases G0.mp hu with rfl | hu
   ·omega
   ·exact h u hu
theorem sj{b r:Int}{i:Nat}{bs:IF Bx}(h:PtB b i bs r):∃x∈bs,PtB b i bs (hiB i x):=by
 obtain⟨⟨x,hx,h1⟩,⟨y,hy,h2⟩,h3⟩:=h;obtain⟨z,hz,mx⟩:=qp (hiB i) (bs.filter λ x=>decide (hiB i x<=r)) (fil_ne.mpr %[x,hx|A9 h1]);have hz1:=(G8.mp hz).1;have hz2:hiB i z<=r:=B9 (G8.mp hz).2;apply%[z,hz1,%[z,hz1|E3 _],%[y,hy|⋯]|λ u hu=>?_];rcases h3 u hu with h | h
 ·exact .inl (mx u (G8.mpr %[hu|A9 h]))
 ·exact .inr ⋯
theorem kG{b r:Int}{i:Nat}{bs:IF Bx}(hi:i < 2)(p:PtB b i bs r):HasK b bs↔HasK b (bs.filter λ x=>decide (hiB i x<=r))\/HasK b (bs.filter λ x=>decide (r+b<=loB i x)):=by
 constructor
 ·rintro⟨L,hL,l2,no⟩
  by_cases a1:∀x∈L,hiB i x<=r
  ·have:=hL.filter (λ x=>decide (hiB i x<=r));rw[List.filter_eq_self.mpr (λ x hx=>IL (a1 x hx))]at this;exact .inl %[L,this,l2|no]
  by_cases a2:∀x∈L,r+b<=loB i x
  ·have:=hL.filter (λ x=>decide (r+b<=loB i x));rw[List.filter_eq_self.mpr (λ x hx=>IL (a2 x hx))]at this;exact .inr %[L,this,l2|no]
  apply absurd ?_ (no i hi r);have e1:∃x∈L,¬ hiB i x<=r:=IY λ h=>a1 λ x hx=>IY λ c=>h %[x,hx|c];have e2:∃x∈L,¬ r+b<=loB i x:=IY λ h=>a2 λ x hx=>IY λ c=>h %[x,hx|c];obtain⟨x,hx,nx⟩:=e1;obtain⟨y,hy,ny⟩:=e2;exact%[%[y,hy|(p.2.2 y (hL.subset hy)).resolve_right ny],%[x,hx|(p.2.2 x (hL.subset hx)).resolve_left nx]|λ z hz=>p.2.2 z (hL.subset hz)]
 ·rintro(h | h)
  ·exact h.sub Hc
  ·exact h.sub Hc
theorem lZ{ks:IF Kd}{qs:IF Pq}{f:Bx->Bool}:(qs.map (aD ks)).filter f=(qs.filter λ q=>f (aD ks q)).map (aD ks):=by rw[Hr];rfl
theorem dO{ks:IF Kd}{q:Pq}{k:Kd}(gk:∀k∈ks,Good k)(hk:ks[q.k]?=some k)(i:Nat):loB i (aD ks q) < hiB i (aD ks q):=by
 rw[aW hk];have g:=gk k (B4 hk);have g1:=g.w;have g2:=g.h;have s1:1<=sd1 k q.c:=by unfold sd1;cases q.c <;> assumption
 have s2:1<=sd2 k q.c:=by unfold sd2;cases q.c <;> assumption
 unfold loB hiB ky
 split
 ·show q.x < q.x+sd1 k q.c;omega
 ·show q.y < q.y+sd2 k q.c;omega
theorem kH{x:Bx}{i:Nat}(hi:i < 2):atI (bxV x) (0+(i:Int))=⇑(loB i x)/\atI (bxV x) (0+(i:Int)+2)=⇑(hiB i x):=by rw[Int.zero_add];exact xA (H:=λ _=>none) (a:=0) hi
theorem xB{K:C3}{ks:IF Kd}{H:Hp}:∀{ys:IF V}{ps:IF Pq},Paired (PqS ks H) ys ps->∃ds,DatVs K H ys ds/\ds.length=ys.length/\PyData.canLayAll0 ds=true/\PyData.depthAll ds<=1
 | _,_,.nil=>%[[],.nil,Z,Z|E6 _]
 | _,_,.cons ⟨a,k,e,ha,_⟩ r=>by
  subst e;obtain⟨ds,d1,d2,d3,d4⟩:=xB (K:=K) r;rcases ha with ha | ha
  ·apply%[_ :: ds,.cons (.lst (GW ha) (.cons (.int _) (.cons (.bl _) (.cons (.int _) (.cons (.int _) .nil))))) d1,by rw[G1,G1,d2],?_|?_]
   ·simp[PyData.canLayAll0,PyData.canLay0,d3]
   ·simp only[PyData.depthAll,PyData.depth];omega
  ·apply%[_ :: ds,.cons (.tup (GV ha) (.cons (.int _) (.cons (.bl _) (.cons (.int _) (.cons (.int _) .nil))))) d1,by rw[G1,G1,d2],?_|?_]
   ·simp[PyData.canLayAll0,PyData.canLay0,d3]
   ·simp only[PyData.depthAll,PyData.depth];omega
section
variable{P:F5}{w:F7}{K:C3}{mg:Str->ID F8}{base:Heap}
inductive spLots(vs:IF V)(H:Hp)(Q:VK)(E_:XK):Prop
|mk(t kl pl:IB)(b:Int)(ks:IF Kd)(ys:IF V)(qs:IF Pq)(_:vs=[.ref t,.ref pl])(_:LS H t b ks kl)(_:0<=b)(_:(∀k∈ks,Good k))(_:H pl=↥ys)(_:Paired (PqS ks H) ys qs)(_:ys.length < 64)(_:((∀i < 2,∀r,¬ PtB b i (qs.map (aD ks)) r)->∀H',Same H H'->Q .non H'))(_:∀(tp la lb:IB)(i:Nat)(r:Int)(us ws:IF V)(H':Hp),i < 2->PtB b i (qs.map (aD ks)) r->H' tp= ~~~[.ref la,.ref lb]->H' la=↥us->H' lb=↥ws->Paired (PqS ks H') us (qs.filter (eN ks i r))->Paired (PqS ks H') ws (qs.filter (dP b ks i r))->Same H H'->Q (.ref tp) H')
inductive spHasT(n:Nat)(vs:IF V)(H:Hp)(Q:VK)(E_:XK):Prop
|mk(t kl pl:IB)(b:Int)(ks:IF Kd)(ys:IF V)(qs:IF Pq)(_:vs=[.ref t,.ref pl])(_:LS H t b ks kl)(_:0<=b)(_:(∀k∈ks,Good k))(_:H pl=↥ys)(_:Paired (PqS ks H) ys qs)(_:ys.length < 64)(_:qs.length < n)(_:∀(r:Bool)(H':Hp),(r=true↔¬ HasK b (qs.map (aD ks)))->Same H H'->Q (.bl r) H')
theorem sclots:FnScope ["_law_shop_here","_law_pieces_here","_law_boxes","_law_side_here","_law_box_here","_law_p","_law_left","_law_right_here"] ["_law_shop_here","_law_pieces_here"] (defScope gx):=%[Z,Z,Z,∅,Z,∅|∅]
theorem sk{f:IB}{fd:F6}(F:Fun K "_law_lots" "_law_lots" gx f fd)(B:Blt mg)(DBx:Dn P w K mg base "_law_box" ["_law_shop_here","_law_piece"] 2 (spBox)):FnOk P w K mg base CX0 3 f fd ["_law_shop_here","_law_pieces_here"] (spLots):=by
 apply F.ok sclots (λ vs H Q E h=>?_) (λ cdv A outer s H vs Q E hr h=>?_)
 ·obtain⟨t,kl,pl,b,ks,ys,qs,rfl,_⟩:=h
  rfl
 obtain⟨t,kl,pl,b,ks,ys,qs,rfl,sh,b0,gk,hpl,pz,y64,q0,q1⟩:=h;have nd:=sclots.nd;have hu:=hr.units;apply%[_,((cw (i:=2) (own:=["_law_piece"]) (cs:=["_law_shop_here"]) (cap:=[0]) Z nd Z Z Z (bh (pv 1)) (aR (sc:=defScope gx) (N:=["_law_shop_here","_law_pieces_here","_law_boxes","_law_side_here","_law_box_here","_law_p","_law_left","_law_right_here"]) Z Z ∅) (λ _ _ _ _ _=>aj (i:=0) (by show List.Nodup (["_law_piece","_law_shop_here"]:IF Str) ;decide +kernel) Z (Or.inl Z) (Or.inr Z)) (λ _ _ _ _ _=>bi) (λ _ _ _ _ _=>(DBx∪((pv 1)^^^((pv 0)^^^ad)))))<<<((@bp _ _ _ _ _ _ _ _ E2 Z (bY Z B.range (ae^^^ad)) (aj (i:=3) nd Z (Or.inr Z)) (@ah _ _ _ (@bp _ _ _ _ _ _ _ _ E2 Z (bh (pv 2)) (aj (i:=4) nd Z (Or.inl Z)) ((@aI _ _ 5 _ _ _ _ nd Z (Or.inr Z) ((pv 4)&&&ix_tup&&&((pv 3)|||aK|||ae)) Z (Or.inl Z))<<<((cw (i:=6) (own:=["_law_one","_law_own"]) (cs:=["_law_side_here","_law_p"]) (cap:=[3,5]) Z nd Z Z Z (fY Z B.zip ((pv 1)^^^((pv 2)^^^ad))) (aR (sc:=defScope gx) (N:=["_law_shop_here","_law_pieces_here","_law_boxes","_law_side_here","_law_box_here","_law_p","_law_left","_law_right_here"]) Z Z ∅) (λ _ _ _ _ _=>gm K Z Z (by show List.Nodup (["_law_one","_law_own","_law_side_here","_law_p"]:IF Str) ;decide +kernel) Z Z Z Z) (λ _ _ _ _ _=>(eA ((ar (r:=rIxT K) ix_tup (pv 1) ((pv 2)|||aK|||ae) (λ _ _=>Z))<*>dj<*>(pv 3)))) (λ _ _ _ _ _=>(pv 0)))<<<((cw (i:=7) (own:=["_law_one","_law_own"]) (cs:=["_law_shop_here","_law_side_here","_law_p"]) (cap:=[0,3,5]) Z nd Z Z Z (fY Z B.zip ((pv 1)^^^((pv 2)^^^ad))) (aR (sc:=defScope gx) (N:=["_law_shop_here","_law_pieces_here","_law_boxes","_law_side_here","_law_box_here","_law_p","_law_left","_law_right_here"]) Z Z ∅) (λ _ _ _ _ _=>gm K Z Z (by show List.Nodup (["_law_one","_law_own","_law_shop_here","_law_side_here","_law_p"]:IF Str) ;decide +kernel) Z Z Z Z) (λ _ _ _ _ _=>(eA ((ar (r:=rIxT K) ix_tup (pv 1) (pv 3) (λ _ _=>Z))<*>gR<*>((pv 4)|||aK|||(ar (r:=rIxT K) ix_tup (pv 2) ae (λ _ _=>Z)))))) (λ _ _ _ _ _=>(pv 0)))>>>((PW.pt (dX ((pv 7)<*>(jX hu)<*>(@aS _ _ _ _ ad)) (cW (((@aA _ _ _ _ _ _ _ _ _ aJ Z B.len IR ((pv 6)^^^ad) ∅ ∅ Z Z)|||aK|||(@aA _ _ _ _ _ _ _ _ _ aJ Z B.len IR ((pv 7)^^^ad) ∅ ∅ Z Z))<*>bF<*>(@aA _ _ _ _ _ _ _ _ _ aJ Z B.len IR ((pv 1)^^^ad) ∅ ∅ Z Z)))))<|>((@aL _ _ _ _ _ ((pv 6)^^^((pv 7)^^^ad)))⁻¹)<|>aE)))) (by intro _;rfl))) (by intro _;rfl))<<<(bL⁻¹)))|?_];have sz:(2000:Nat) < sizeLine:=∅
 have yl:=E1 pz;obtain⟨kr,ht0,_⟩:=id sh;apply ai (λ σ' H'=>∃(bo:IB)(us:IF V),σ'=[↑t,↑pl,↑bo,none,none,none,none,none]/\H' bo=↥us/\Paired (BxAt H') us (qs.map (aD ks))/\Same H H') (λ R hR=>?_) ?_
 ·apply%[_,Z,pl,Z,%[_|GW hpl]|(bJ (K:=K) (.inl hpl) (λ n us Hx=>Same H Hx/\Paired (BxAt Hx) us ((qs.map (aD ks)).take n)) (λ n us Hx _ e o h=>e.1 _ _ h) %[Same.refl _|.nil] ?_ ?_).1 hpl]
  ·rintro n v us Hx hn ⟨sx,pu⟩;have hin:n < ys.length:=(A5.mp hn).1;obtain⟨q0,hq0,a,k,rfl,ha,hk⟩:=GY pz hn;have ul:=E1 pu;rw[G5]at ul;apply%[⋯,leS.set rfl|bj ?_];apply%[_,Z,_,Z,t,kl,a,b,ks,q0,k,Z,sh.same sx,ha.same sx,hk|λ r H2 hr2 s2=>Nx.of hin %[sx.trans s2|?_]];rw[HA,G6,hq0];exact cO (GX pu λ v x h=>h.keep λ a xs e=>s2 _ _ e) (.cons %[r,Z|by rw[aW hk];exact hr2] .nil)
  ·rintro us Hx ⟨sx,pu⟩;rw[show ys.length=(qs.map (aD ks)).length by rw[GZ];exact yl,HC]at pu;have ul:=E1 pu;rw[GZ]at ul;apply%[⋯|λ bo hbo=>?_];obtain⟨H2,e2,k2,s2⟩:∃H',upd Hx bo (.lst us)=H'/\H' bo=↥us/\Same Hx H':=%[_,Z,upd_same|F9 hbo]
   rw[show upd Hx bo _=H2 from e2];exact hR _ _ %[bo,us,rfl,k2,GX pu (λ v x h=>h.keep λ a xs e=>s2 _ _ e)|sx.trans s2]
 rintro _ H1 ⟨bo,us,rfl,hbo,pb,s1⟩;have ul:=E1 pb;rw[GZ]at ul;apply ai (λ σ' H'=>Same H1 H'/\∀i < 2,∀r,¬ PtB b i (qs.map (aD ks)) r) (λ R hR=>?_) ?_
 ·apply%[_,Z,∅,∅|?_];apply cB (n:=2) (λ i σ' H'=>(∃v3 v4 v5 v6 v7,σ'=[↑t,↑pl,↑bo,v3,v4,v5,v6,v7])/\Same H1 H'/\∀i' < i,∀r,¬ PtB b i' (qs.map (aD ks)) r) %[%[_,_,_,_,_|rfl],Same.refl _|λ n h=>absurd h (E7 _)] ?_ (λ σ Hx ⟨_,sx,no⟩=>hR _ _ %[sx|no]);rintro ax _ H2 hax ⟨⟨v3,v4,v5,v6,v7,rfl⟩,s12,no⟩;apply%[_,Z,bo,Z,%[_|GW (s12 _ _ hbo)]|cj (xs:=us) (λ j σ' H'=>(∃v4 v5 v6 v7,σ'=[↑t,↑pl,↑bo,⇑(0+(ax:Int)),v4,v5,v6,v7])/\Same H1 H'/\∀j' < j,∀x,(qs.map (aD ks))[j']?=some x->¬ PtB b ax (qs.map (aD ks)) (hiB ax x)) %[%[_,_,_,_|Z],s12|λ j h=>absurd h (E7 _)] (λ j σ H' _ h=>GW (h.2.1 _ _ hbo)) ?_ ?_]
  ·rintro j x0 _ H3 hj ⟨⟨v4,v5,v6,v7,rfl⟩,s13,noj⟩;obtain⟨x,hx,a,rfl,ha⟩:=GY pb hj;obtain⟨q7,hq7,exq⟩:=HE.mp (G6 ▸ hx);generalize hp:hiB ax x=p at *;apply ai (λ σ' H'=>σ'=[↑t,↑pl,↑bo,⇑(0+(ax:Int)),↑a,⇑p,v6,v7]/\H3=H') (λ R hR=>?_) ?_
   ·apply%[_,Z,_,Z,_,_,Z,Z,a,_,_,_,Z,Z,GV (s13 _ _ ha),(kH hax).2|hR _ _ %[by rw[<- hp];rfl|Z]]
   rintro _ _ ⟨rfl,rfl⟩;apply ai (λ σ' H'=>∃(la:IB)(ula:IF V),σ'=[↑t,↑pl,↑bo,⇑(0+(ax:Int)),↑a,⇑p,↑la,v7]/\H' la=↥ula/\Paired (PqS ks H') ula (qs.filter (eN ks ax p))/\Same H3 H') (λ R hR=>?_) ?_
   ·apply%[_,Z,_,Z,pl,bo,_,_,Z,s13 _ _ (s1 _ _ hpl),s13 _ _ hbo|eG (xs:=ys) (ys:=us) (λ n zs Hz=>Same H3 Hz/\Paired (PqS ks Hz) zs ((qs.take n).filter (eN ks ax p))) ⋯ (λ n zs Hz ⟨sz,_⟩=>%[sz _ _ (s13 _ _ (s1 _ _ hpl))|sz _ _ (s13 _ _ hbo)]) %[Same.refl _|.nil] (λ n zs Hz hn ⟨_,pz'⟩=>?_) ?_ ?_]
    ·have zl:=E1 pz';have fl:=HM (eN ks ax p) (qs.take n);rw[G5]at fl;omega
    ·rintro n v1 v2 tz zs Hz hv1 hv2 htz ⟨sz,pz'⟩;have hin:n < ys.length:=(A5.mp hv1).1;obtain⟨q0,hq0,hps⟩:=GY pz hv1;obtain⟨x,hx,a,rfl,ha⟩:=GY pb hv2;rw[G6,hq0]at hx;cases hx;obtain⟨Hw,e8,k8,s8⟩:∃H',upd Hz tz (.tup [v1,.ref a])=H'/\H' tz= ~~~[v1,.ref a]/\Same Hz H':=%[_,Z,upd_same|F9 htz]
     rw[show upd Hz tz _=Hw from e8];have szw:=sz.trans s8;have sall:=(s1.trans s13).trans szw;apply%[tz,_,Z,GV k8,Z,_,_,Z,_,_,Z,Z,qc (leS.set rfl) (leS.set rfl)|?_];apply%[_,Z,_,Z,_,_,Z,Z,a,_,_,_,Z,Z,GV (szw _ _ (s13 _ _ ha)),(kH hax).2,_,Z,_,_,Z,Z,_,Z|?_];have nx:∀us':IF V,Paired (PqS ks Hw) us' ((qs.take (n+1)).filter (eN ks ax p))->Nx ys.length (λ n zs Hz=>Same H3 Hz/\Paired (PqS ks Hz) zs ((qs.take n).filter (eN ks ax p))) n us' Hw:=λ us' e=>Nx.of hin %[szw|e];have pz'':Paired (PqS ks Hw) zs ((qs.take n).filter (eN ks ax p)):=GX pz' λ v q h=>h.same s8;rw[HA,hq0,HS,List.filter_append]at nx;apply bv (λ cc=>?_) (λ cc=>?_)
     ·apply%[_,Z|nx _ (cO pz'' ?_)];rw[HV (by exact cc)];exact .cons (hps.same sall) .nil
     ·apply nx _ ?_;rw[HJ (by exact cc),List.filter_nil,HZ];exact pz''
    ·rintro zs Hz ⟨sz,pz'⟩;rw[yl,HC]at pz';have zl:=E1 pz';have fl:=HM (eN ks ax p) qs;apply%[⋯|λ lo hlo=>?_];obtain⟨Hw,e9,k9,s9⟩:∃H',upd Hz lo (.lst zs)=H'/\H' lo=↥zs/\Same Hz H':=%[_,Z,upd_same|F9 hlo]
     rw[show upd Hz lo _=Hw from e9];exact hR _ _ %[lo,zs,rfl,k9,GX pz' (λ v q h=>h.same s9)|sz.trans s9]
   rintro _ H4 ⟨la,ula,rfl,hla,pla,s34⟩;have s14:=s13.trans s34;apply ai (λ σ' H'=>∃(lb:IB)(ulb:IF V),σ'=[↑t,↑pl,↑bo,⇑(0+(ax:Int)),↑a,⇑p,↑la,↑lb]/\H' lb=↥ulb/\Paired (PqS ks H') ulb (qs.filter (dP b ks ax p))/\Same H4 H') (λ R hR=>?_) ?_
   ·apply%[_,Z,_,Z,pl,bo,_,_,Z,s14 _ _ (s1 _ _ hpl),s14 _ _ hbo|eG (xs:=ys) (ys:=us) (λ n zs Hz=>Same H4 Hz/\Paired (PqS ks Hz) zs ((qs.take n).filter (dP b ks ax p))) ⋯ (λ n zs Hz ⟨sz,_⟩=>%[sz _ _ (s14 _ _ (s1 _ _ hpl))|sz _ _ (s14 _ _ hbo)]) %[Same.refl _|.nil] (λ n zs Hz hn ⟨_,pz'⟩=>?_) ?_ ?_]
    ·have zl:=E1 pz';have fl:=HM (dP b ks ax p) (qs.take n);rw[G5]at fl;omega
    ·rintro n v1 v2 tz zs Hz hv1 hv2 htz ⟨sz,pz'⟩;have hin:n < ys.length:=(A5.mp hv1).1;obtain⟨q0,hq0,hps⟩:=GY pz hv1;obtain⟨x,hx,a,rfl,ha⟩:=GY pb hv2;rw[G6,hq0]at hx;cases hx;obtain⟨Hw,e8,k8,s8⟩:∃H',upd Hz tz (.tup [v1,.ref a])=H'/\H' tz= ~~~[v1,.ref a]/\Same Hz H':=%[_,Z,upd_same|F9 htz]
     rw[show upd Hz tz _=Hw from e8];have szw:=sz.trans s8;have sall:=(s1.trans s14).trans szw;apply%[tz,_,Z,GV k8,Z,_,_,Z,_,_,Z,Z,qc (leS.set rfl) (leS.set rfl)|?_];apply%[_,Z,_,Z,a,_,_,_,Z,Z,GV (szw _ _ (s14 _ _ ha)),(kH hax).1,_,Z,_,Z,t,_,0,_,Z,Z,GV (sall _ _ ht0),Z,_,_,Z,Z,_,_,Z,Z,_,Z|?_];have nx:∀us':IF V,Paired (PqS ks Hw) us' ((qs.take (n+1)).filter (dP b ks ax p))->Nx ys.length (λ n zs Hz=>Same H4 Hz/\Paired (PqS ks Hz) zs ((qs.take n).filter (dP b ks ax p))) n us' Hw:=λ us' e=>Nx.of hin %[szw|e];have pz'':Paired (PqS ks Hw) zs ((qs.take n).filter (dP b ks ax p)):=GX pz' λ v q h=>h.same s8;rw[HA,hq0,HS,List.filter_append]at nx;apply bv (λ cc=>?_) (λ cc=>?_)
     ·apply%[_,Z|nx _ (cO pz'' ?_)];rw[HV (by exact cc)];exact .cons (hps.same sall) .nil
     ·apply nx _ ?_;rw[HJ (by exact cc),List.filter_nil,HZ];exact pz''
    ·rintro zs Hz ⟨sz,pz'⟩;rw[yl,HC]at pz';have zl:=E1 pz';have fl:=HM (dP b ks ax p) qs;apply%[⋯|λ lo hlo=>?_];obtain⟨Hw,e9,k9,s9⟩:∃H',upd Hz lo (.lst zs)=H'/\H' lo=↥zs/\Same Hz H':=%[_,Z,upd_same|F9 hlo]
     rw[show upd Hz lo _=Hw from e9];exact hR _ _ %[lo,zs,rfl,k9,GX pz' (λ v q h=>h.same s9)|sz.trans s9]
   rintro _ H5 ⟨lb,ulb,rfl,hlb,plb,s45⟩;have s15:=s14.trans s45;have la':=E1 pla;have lb':=E1 plb;have nxt:¬ PtB b ax (qs.map (aD ks)) p->∀j' < j+1,∀x,(qs.map (aD ks))[j']?=some x->¬ PtB b ax (qs.map (aD ks)) (hiB ax x):=λ h j' hj' x' hx'=>by
    by_cases e:j'=j
    ·rw[e,hx]at hx';cases hx';rw[hp];exact h
    ·exact noj j' ⋯ x' hx'
   apply%[_,Z,∅|λ e he=>?_];obtain⟨H6,e6,k6,s6⟩:∃H',upd H5 e (.lst [])=H'/\H' e=↥[]/\Same H5 H':=%[_,Z,upd_same|F9 he]
   rw[show upd H5 e _=H6 from e6];obtain⟨ds,d1,d2,d3,d4⟩:=xB (K:=K) (GX plb λ v x h=>h.same s6);obtain⟨sh1,sh2,sh3⟩:=pY d3 d4;apply%[.list ds,.list [],.lst (GW (s6 _ _ hlb)) d1,.lst (GW k6) .nil,sh1,∅,_,Z|?_];have ptq:∀{f:Bx->Bool}{g:Pq->Bool},(∀q,f (aD ks q)=g q)->((∃x∈qs.map (aD ks),f x=true)↔qs.filter g≠[]):=λ {f g} h=>by
    rw[fil_ne];constructor
    ·rintro⟨x,hx,hh⟩;obtain⟨q,hq,rfl⟩:=G7.mp hx;exact%[q,hq|(h q) ▸ hh]
    ·rintro⟨q,hq,hh⟩;exact%[_,HI hq|(h q).symm ▸ hh]
   by_cases z1:ulb=[]
   ·rw[sh2 (by rw[z1]at d2;exact HF d2)];apply aU %[%[_,_,_,_|rfl],s15.trans s6|nxt λ h=>?_];obtain⟨x,hx,hh⟩:=h.2.1;have:=(ptq (f:=λ x=>decide (p+b<=loB ax x)) (g:=dP b ks ax p) (λ _=>rfl)).mp %[x,hx|A9 hh];rw[z1]at lb';exact this (HF lb'.symm)
   rw[sh3 (λ z=>z1 (by rw[z]at d2;exact HF d2.symm))];apply br %[_,rfl,la,_,rfl,.inl (GW (s6 _ _ (s45 _ _ hla))),_,rfl,lb,_,rfl,.inl (GW (s6 _ _ hlb)),_,_,rfl,rfl,_,rfl,pl,_,rfl,.inl (GW (s6 _ _ (s15 _ _ (s1 _ _ hpl)))),rfl,_,rfl|?_];have pos:∀q∈qs,loB ax (aD ks q) < hiB ax (aD ks q):=λ q hq=>by obtain⟨i,hi⟩:=HD.mp hq;obtain⟨v,hv,_,k,_,_,hk⟩:=Paired.getL pz hi;exact dO gk hk ax
   obtain⟨_,tf⟩:=iR (eN ks ax p) (dP b ks ax p) qs λ q hq h=>by have h:hiB ax (aD ks q)<=p:=B9 h;have:=pos q hq;exact B0 ⋯
   have self:∃x∈qs.map (aD ks),hiB ax x<=p:=%[x,B4 hx|by rw[hp];exact E3 _]
   apply bv (λ cc=>?_) (λ cc=>?_)
   ·have cc:(ula.length:Int)+ulb.length=ys.length:=V.int.inj (B9 cc);have ptb:PtB b ax (qs.map (aD ks)) p:=by
     apply%[self,?_|λ x hx=>?_]
     ·obtain⟨x,hx,hh⟩:=(ptq (f:=λ x=>decide (p+b<=loB ax x)) (g:=dP b ks ax p) (λ _=>rfl)).mpr (λ z=>z1 (by rw[z]at lb';exact HF lb'));exact%[x,hx|B9 hh]
     ·obtain⟨q,hq,rfl⟩:=G7.mp hx;rcases tf.mp ⋯ q hq with h | h
      ·exact .inl (B9 h)
      ·exact .inr (B9 h)
    apply%[_,Z,_,Z,zS2|λ tp htp=>?_];obtain⟨H7,e7,k7,s7⟩:∃H',upd H6 tp (.tup [.ref la,.ref lb])=H'/\H' tp= ~~~[.ref la,.ref lb]/\Same H6 H':=%[_,Z,upd_same|F9 htp]
    rw[show upd H6 tp _=H7 from e7];have s57:=s6.trans s7;have s47:=s45.trans s57;exact q1 tp la lb ax p ula ulb H7 hax ptb k7 (s47 _ _ hla) (s57 _ _ hlb) (GX pla λ v x h=>h.same s47) (GX plb λ v x h=>h.same s57) (s1.trans (s15.trans s57))
   ·apply%[%[_,_,_,_|Z],s15.trans s6|nxt λ h=>cc (A9 ?_)];have:=tf.mpr λ q hq=>(h.2.2 _ (HI hq)).imp (λ h=>A9 h) (λ h=>A9 h);show V.int ((ula.length:Int)+ulb.length)=V.int ys.length;congr 1;omega
  ·rintro _ H3 ⟨⟨v4,v5,v6,v7,rfl⟩,s13,noj⟩;apply%[%[_,_,_,_,_|Z],s13|λ i' hi' r h=>?_]
   by_cases e:i'=ax
   ·subst e;obtain⟨x,hx,hh⟩:=sj h;obtain⟨j,hj⟩:=HD.mp hx;have:=(A5.mp hj).1;rw[GZ]at this;exact noj j ⋯ x hj hh
   ·exact no i' ⋯ r h
 rintro _ H2 ⟨s12,no⟩;exact q0 no H2 (s1.trans s12)
end
theorem Ez{b:Int}{bs:IF Bx}(h:bs.length < 2):¬ HasK b bs:=λ⟨L,hL,l2,_⟩=>by have:=hL.length_le;omega
theorem mW{b r:Int}{ks:IF Kd}{i:Nat}{qs:IF Pq}(hi:i < 2)(p:PtB b i (qs.map (aD ks)) r):HasK b (qs.map (aD ks))↔HasK b ((qs.filter (eN ks i r)).map (aD ks))\/HasK b ((qs.filter (dP b ks i r)).map (aD ks)):=by
 rw[kG hi p,lZ,lZ]
 rfl
theorem mX{b r:Int}{ks:IF Kd}{i:Nat}{qs:IF Pq}(p:PtB b i (qs.map (aD ks)) r)(pos:∀q∈qs,loB i (aD ks q) < hiB i (aD ks q))(b0:0<=b):(qs.filter (eN ks i r)).length < qs.length/\(qs.filter (dP b ks i r)).length < qs.length:=by
 obtain⟨⟨x,hx,h1⟩,⟨y,hy,h2⟩,_⟩:=p;obtain⟨q,hq,rfl⟩:=G7.mp hx;obtain⟨q',hq',rfl⟩:=G7.mp hy;have a1:q∈qs.filter (eN ks i r):=G8.mpr %[hq|A9 h1];have a2:q'∈qs.filter (dP b ks i r):=G8.mpr %[hq'|A9 h2];have:=He a1;have:=He a2;have:=(iR (eN ks i r) (dP b ks i r) qs λ q hq h=>by
  have h:hiB i (aD ks q)<=r:=B9 h;have:=pos q hq;exact B0 ⋯).1
 omega
theorem PqS.pos{ks:IF Kd}{H:Hp}{ys:IF V}{qs:IF Pq}(gk:∀k∈ks,Good k)(pz:Paired (PqS ks H) ys qs)(i:Nat):∀q∈qs,loB i (aD ks q) < hiB i (aD ks q):=λ q hq=>by obtain⟨j,hj⟩:=HD.mp hq;obtain⟨v,hv,_,k,_,_,hk⟩:=Paired.getL pz hj;exact dO gk hk i
section
variable{P:F5}{w:F7}{K:C3}{mg:Str->ID F8}{base:Heap}
theorem schast:FnScope ["_law_shop_here","_law_pieces_here","_law_lots_here"] ["_law_shop_here","_law_pieces_here"] (defScope cU):=%[Z,Z,Z,∅,Z,∅|∅]
theorem sn{f:IB}{fd:F6}(F:Fun K "_law_has_tree" "_law_has_tree" cU f fd)(n:Nat)(B:Blt mg)(DLo:Dn P w K mg base "_law_lots" ["_law_shop_here","_law_pieces_here"] 3 (spLots))(DHT:Dn P w K mg base "_law_has_tree" ["_law_shop_here","_law_pieces_here"] (4+n) (spHasT n)):FnOk P w K mg base CX0 (4+(n+1)) f fd ["_law_shop_here","_law_pieces_here"] (spHasT (n+1)):=by
 apply F.ok schast (λ vs H Q E h=>?_) (λ cdv A outer s H vs Q E hr h=>?_)
 ·obtain⟨t,kl,pl,b,ks,ys,qs,rfl,_⟩:=h
  rfl
 obtain⟨t,kl,pl,b,ks,ys,qs,rfl,sh,b0,gk,hpl,pz,y64,dn0,q⟩:=h;have nd:=schast.nd;apply%[_,((((@aA _ _ _ _ _ _ _ _ _ aJ Z B.len IR ((pv 1)^^^ad) ∅ ∅ Z Z)<*>fQ<*>ae)<|>(bd⁻¹)<|>aE)<<<((2∣(@ay _ _ _ _ _ _ _ _ _ _ DLo (hr.mono (show 3<=4+n by omega)) Z ((pv 0)^^^((pv 1)^^^ad)) ∅ Z Z))<<<((bH (@aT _ _ _ _ _ _ _ _ iq (pv 2) bL (aF _)) (bH (DHT∪((pv 0)^^^(((pv 2)&&&ix_tup&&&ae)^^^ad))) (bX (DHT∪((pv 0)^^^(((pv 2)&&&ix_tup&&&ae)^^^ad))))))⁻¹)))|?_];have yl:=E1 pz;apply ai (λ σ' H'=>σ'=[↑t,↑pl,none]/\H=H'/\2<=qs.length) (λ R hR=>?_) ?_
 ·apply%[_,Z,pl,_,Z,.inl (GW hpl),_,_,Z,Z,_,Z|?_];apply bv (λ cc=>?_) (λ cc=>?_)
  ·have cc:(ys.length:Int) < 2:=B9 cc;exact q true H %[λ _=>Ez (by rw[GZ];omega)|λ _=>rfl] (Same.refl _)
  ·exact hR _ _ %[rfl,rfl|IY λ c=>cc (A9 (show(ys.length:Int) < 2 by omega))]
 rintro _ _ ⟨rfl,rfl,l2⟩;have sz:(2000:Nat) < sizeLine:=∅
 apply ai (λ σ' H'=>∃v,σ'=[↑t,↑pl,some v]/\Same H H'/\((v=.non/\HasK b (qs.map (aD ks)))\/∃(tp la lb:IB)(i:Nat)(r:Int)(us ws:IF V),v=.ref tp/\i < 2/\PtB b i (qs.map (aD ks)) r/\H' tp= ~~~[.ref la,.ref lb]/\H' la=↥us/\H' lb=↥ws/\Paired (PqS ks H') us (qs.filter (eN ks i r))/\Paired (PqS ks H') ws (qs.filter (dP b ks i r)))) (λ R hR=>?_) ?_
 ·apply%[_,Z,_,Z,t,kl,pl,b,ks,ys,qs,Z,sh,b0,gk,hpl,pz,y64,λ no H' s'=>hR _ _ %[.non,Z,s'|.inl %[Z,_,List.Sublist.refl _,by rw[GZ];exact l2|no]]|λ tp la lb i r us ws H' hi pt h1 h2 h3 p1 p2 s'=>hR _ _ %[.ref tp,Z,s'|.inr %[tp,la,lb,i,r,us,ws,Z,hi,pt,h1,h2,h3,p1|p2]]]
 rintro _ H1 ⟨v,rfl,s1,hv⟩;rcases hv with⟨rfl,hk⟩ | ⟨tp,la,lb,i,r,us,ws,rfl,hi,pt,h1,h2,h3,p1,p2⟩
 ·exact%[_,Z,Z,_,Z|dk rfl (q false H1 ⟨λ z=>(by cases z),λ z=>absurd hk z⟩ s1)]
 have u1:=E1 p1;have u2:=E1 p2;obtain⟨l1,l2'⟩:=mX pt (PqS.pos gk pz i) b0;have sp:=mW hi pt;apply%[_,Z,Z,_,Z|fu rfl ?_];apply%[_,Z,_,Z,tp,_,0,_,Z,Z,GV h1,Z,t,kl,la,b,ks,us,_,Z,sh.same s1,b0,gk,h2,p1,⋯,⋯|λ r1 H2 e1 s2=>%[_,Z|?_]];cases r1 with
 | false=>exact aU (q false H2 ⟨λ z=>(by cases z),λ z=>absurd (λ h=>z (sp.mpr (.inl h))) (λ h=>by cases e1.mpr h)⟩ (s1.trans s2))
 | true=>
  apply br %[_,rfl,_,rfl,tp,_,1,_,rfl,rfl,GV (s2 _ _ h1),rfl,t,kl,lb,b,ks,ws,_,rfl,(sh.same s1).same s2,b0,gk,s2 _ _ h3,GX p2 (λ v q h=>h.same s2),⋯,⋯|λ r2 H3 e2 s3=>q r2 H3 ?_ (s1.trans (s2.trans s3))];rw[e2,sp];exact%[λ h z=>z.elim (e1.mp rfl) h|λ h z=>h (.inr z)]
theorem qq{f:IB}{fd:F6}(F:Fun K "_law_has_tree" "_law_has_tree" cU f fd):FnOk P w K mg base CX0 4 f fd ["_law_shop_here","_law_pieces_here"] (spHasT 0):=by
 apply F.ok schast (λ vs H Q E h=>?_) (λ cdv A outer s H vs Q E hr h=>?_)
 ·obtain⟨t,kl,pl,b,ks,ys,qs,rfl,_⟩:=h
  rfl
 ·obtain⟨t,kl,pl,b,ks,ys,qs,_,_,_,_,_,_,_,z,_⟩:=h;exact absurd z (E7 _)
theorem jD{f:IB}{fd:F6}(F:Fun K "_law_has_tree" "_law_has_tree" cU f fd)(B:Blt mg)(DLo:Dn P w K mg base "_law_lots" ["_law_shop_here","_law_pieces_here"] 3 (spLots))(mk:∀n,FnOk P w K mg base CX0 (4+n) f fd ["_law_shop_here","_law_pieces_here"] (spHasT n)->Dn P w K mg base "_law_has_tree" ["_law_shop_here","_law_pieces_here"] (4+n) (spHasT n)):∀n,FnOk P w K mg base CX0 (4+n) f fd ["_law_shop_here","_law_pieces_here"] (spHasT n)
 | 0=>qq F
 | n+1=>sn F n B DLo (mk n (jD F B DLo mk n))
end
def pqd(q:Pq):PyData:=.tuple [.int q.k,.bool q.c,.int q.x,.int q.y]
theorem iS(p q:Pq):PyData.eqv (pqd p) (pqd q)=true↔p=q:=by
 obtain⟨k,c,x,y⟩:=p;obtain⟨k',c',x',y'⟩:=q;have hI:∀a b:Int,PyData.eqv (.int a) (.int b)=decide (a=b):=λ a b=>by by_cases h:a=b <;> simp[PyData.eqv,h]
 have hB:∀a b:Bool,PyData.eqv (.bool a) (.bool b)=decide (a=b):=λ a b=>by cases a <;> cases b <;> simp[PyData.eqv]
 show PyData.eqvAll [.int (k:Int),.bool c,.int x,.int y] [.int (k':Int),.bool c',.int x',.int y']=true↔_;rw[PyData.eqvAll,PyData.eqvAll,PyData.eqvAll,PyData.eqvAll,PyData.eqvAll,hI,hB,hI,hI];simp only[Bool.and_true,HX,decide_eq_true_eq,Pq.mk.injEq];rw[Int.ofNat_inj]
theorem ma(p:Pq):SeqAt.shaped (pqd p)=true:=rfl
theorem eO:∀L:IF Pq,PyData.canLayAll0 (L.map pqd)=true
 | []=>rfl
 | q :: r=>by have:=eO r;simp[PyData.canLayAll0,pqd,PyData.canLay0,this]
theorem iT:∀L:IF Pq,PyData.depthAll (L.map pqd)<=1
 | []=>E6 _
 | q :: r=>by have:=iT r;simp only[G9,PyData.depthAll,pqd,PyData.depth]at *;omega
theorem jE(L:IF Pq):SeqAt.shaped (.list (L.map pqd))=true:=by have h:=iT L;have l:=eO L;unfold SeqAt.shaped;simp only[PyData.canLay0,PyData.depth,l];simp;omega
def KnF(ks:IF Kd)(H:Hp)(as:IF IB)(L:IF Pq):Prop:=(∀a∈as,PzP ks H a)/\L=as.map (qA H)
theorem KnF.dat{K:C3}{ks:IF Kd}{H:Hp}:∀{as:IF IB},(∀a∈as,PzP ks H a)->DatVs K H (as.map V.ref) ((as.map (qA H)).map pqd)
 | [],_=>.nil
 | a :: as,h=>by obtain⟨p,k,e,_⟩:=h a B6;rw[G9,G9,G9,cH e];exact .cons (.tup (GV e) (.cons (.int _) (.cons (.bl _) (.cons (.int _) (.cons (.int _) .nil))))) (KnF.dat λ c hc=>h c (B3 _ hc))
theorem KnF.pqs{ks:IF Kd}{H:Hp}:∀{as:IF IB},(∀a∈as,PzP ks H a)->Paired (PqS ks H) (as.map V.ref) (as.map (qA H))
 | [],_=>.nil
 | a :: as,h=>by obtain⟨p,k,e,_,hk⟩:=h a B6;rw[G9,G9,cH e];exact .cons %[a,k,Z,.inr e|hk] (KnF.pqs λ c hc=>h c (B3 _ hc))
theorem PzP.keep{ks:IF Kd}{H H':Hp}(k:∀a xs,H a= ~~~xs->H' a= ~~~xs){a:IB}(h:PzP ks H a):PzP ks H' a:=by obtain⟨p,q,e,h⟩:=h;exact%[p,q,k _ _ e|h]
theorem fO{ks:IF Kd}{H H':Hp}(k:∀a xs,H a= ~~~xs->H' a= ~~~xs){as:IF IB}(h:∀a∈as,PzP ks H a):as.map (qA H')=as.map (qA H):=HR λ a ha=>by obtain⟨p,q,e,_⟩:=h a ha;rw[cH e,cH (k _ _ e)]
theorem iU{K:C3}{H:Hp}:∀{ys:IF V}{ps:IF Pq},Paired (PqU H) ys ps->DatVs K H ys (ps.map pqd)
 | _,_,.nil=>.nil
 | _,_,.cons ⟨a,e,h⟩ r=>by subst e;exact .cons (.tup (GV h) (.cons (.int _) (.cons (.bl _) (.cons (.int _) (.cons (.int _) .nil))))) (iU r)
theorem qr{α β:Type}{R:α->β->Prop}:∀{xs:IF α}{ys:IF β}(j:Nat),Paired R xs ys->Paired R (xs.eraseIdx j) (ys.eraseIdx j)
 | _,_,_,.nil=>.nil
 | _,_,0,.cons _ r=>r
 | _,_,j+1,.cons a r=>.cons a (qr j r)
theorem gG{α:Type}:∀{l:IF α}{j:Nat}{x:α},(l[j]? : ID α)=some x->l.Perm (x :: l.eraseIdx j)
 | [],_,_,h=>by simp at h
 | a :: l,0,x,h=>by
  have:a=x:=by simpa using h
  rw[this];exact List.Perm.refl _
 | a :: l,j+1,x,h=>by
  have h:l[j]?=some x:=by simpa using h
  exact((gG (l:=l) h).cons a).trans (List.Perm.swap x a _)
theorem jF{α:Type}{x:α}:∀{l:IF α},x∈l->∃j:Nat,(l[j]? : ID α)=some x/\∀m:Nat,m < j->(l[m]? : ID α)≠some x
 | [],h=>by simp at h
 | a :: l,h=>by
  by_cases e:a=x
  ·exact%[0,by rw[e];rfl|λ m hm=>absurd hm (E7 _)]
  ·obtain⟨j,h1,h2⟩:=jF ((G0.mp h).resolve_left (λ z=>e z.symm));apply%[j+1,by simpa using h1|λ m hm=>?_];cases m with
   | zero=>simpa using e
   | succ m=>simpa using h2 m ⋯
section
variable{P:F5}{w:F7}{K:C3}{mg:Str->ID F8}{base:Heap}
inductive spIsKn(vs:IF V)(H:Hp)(Q:VK)(E_:XK):Prop
|mk(t kl pl fl:IB)(b:Int)(ks:IF Kd)(ys:IF V)(qs:IF Pq)(as:IF IB)(_:vs=[.ref t,.ref pl,.ref fl])(_:LS H t b ks kl)(_:0<=b)(_:(∀k∈ks,Good k))(_:H pl=↥ys)(_:Paired (PqU H) ys qs)(_:ys.length < 64)(_:H fl=↥(as.map V.ref))(_:(∀a∈as,PzP ks H a))(_:as.length < 64)(_:2<=as.length)(_:Srt (as.map (qA H)))(_:(∃rest,qs.Perm (as.map (qA H) ++ rest)))(_:(∀i < 2,∀r,¬ PtB b i ((as.map (qA H)).map (aD ks)) r))(_:∀H',Same H H'->Q (.bl true) H')
theorem sciskn:FnScope ["_law_shop_here","_law_pieces_here","_law_found","_law_left","_law_one"] ["_law_shop_here","_law_pieces_here","_law_found"] (defScope eK):=%[Z,Z,Z,∅,Z,∅|∅]
theorem sr{f:IB}{fd:F6}(F:Fun K "_law_is_knot" "_law_is_knot" eK f fd)(B:Blt mg)(DLo:Dn P w K mg base "_law_lots" ["_law_shop_here","_law_pieces_here"] 3 (spLots)):FnOk P w K mg base CX0 4 f fd ["_law_shop_here","_law_pieces_here","_law_found"] (spIsKn):=by
 apply F.ok sciskn (λ vs H Q E h=>?_) (λ cdv A outer s H vs Q E hr h=>?_)
 ·obtain⟨t,kl,pl,fl,b,ks,ys,qs,as,rfl,_⟩:=h
  rfl
 obtain⟨t,kl,pl,fl,b,ks,ys,qs,as,rfl,sh,b0,gk,hpl,pz,y64,hfl,hp,a64,a2,srt,sub,no,q⟩:=h;have nd:=sciskn.nd;have hu:=hr.units;have hu6:=hr.units66;apply%[_,(((PW.pt (bC (@aO _ _ _ _ (@aN _ _ _ (@aA _ _ _ _ _ _ _ _ _ aV Z B.isi IM ((pv 2)^^^((bB (v:=.ty "list") Z B.list Ih Z)^^^ad)) ∅ ∅ Z Z) (by intro _;rfl))) (bC ((@aA _ _ _ _ _ _ _ _ _ aJ Z B.len IR ((pv 2)^^^ad) ∅ ∅ Z Z)<*>fQ<*>ae) (bG ((pv 2)<*>(jX hu)<*>(@aA _ _ _ _ _ _ _ _ _ bT Z B.sorted Ie ((pv 2)^^^ad) ∅ ∅ Z Z))))))<|>(bd⁻¹)<|>aE)<<<(((@aO _ _ _ _ (@aN _ _ _ (@aA _ _ _ _ _ _ _ _ _ (eZ Z) Z B.all PyProof.Rows.boot_all ((cu (own:=["_law_one"]) (cs:=[]) (cap:=[]) Z (bh (pv 2)) (aR (sc:=defScope eK) (N:=["_law_shop_here","_law_pieces_here","_law_found","_law_left","_law_one"]) Z Z ∅) (λ _ _ _ _ _=>aj (i:=0) (by show List.Nodup (["_law_one"]:IF Str) ;decide +kernel) Z (Or.inl Z) (Or.inr Z)) (λ _ _ _ _ _=>bi) (λ _ _ _ _ _=>(bH (aA (r:=xi K) aV Z B.isi IM ((pv 0)^^^((bB (v:=.ty "tuple") Z B.tuple IW Z)^^^ad))) (bX (aA (r:=xi K) aV Z B.isi IM ((ar (r:=rIxT K) ix_tup (pv 0) ae (λ _ _=>Z))^^^((bB (v:=.ty "bool") Z B.bool Ig Z)^^^ad)))))))^^^ad) ∅ ∅ Z Z) (by intro _;rfl)))<|>(bd⁻¹)<|>aE)<<<((3∣(@bf _ _ _ _ _ _ _ _ _ cY Z B.list Ih ((pv 1)^^^ad) ∅ ∅ Z Z))<<<((@bp _ _ _ _ _ _ _ _ E2 Z (bh (pv 2)) (aj (i:=4) nd Z (Or.inl Z)) (((@aH _ _ _ _ _ _ _ _ (rE (Nat.lt_of_succ_lt hu6)) (pv 4) (pv 3) Z)<|>(bd⁻¹)<|>aE)>>>(@bK _ _ _ _ (@dQ _ _ _ _ _ _ _ _ _ _ _ _ F3 PySem.F.slot_list_remove PySem.F.type_list_remove (rD (Nat.lt_of_succ_lt hu6)) (pv 3) ((pv 4)^^^ad) Z Z Z Z Z) Z)) (by intro _;rfl))<<<((@aT _ _ _ _ _ _ _ _ ip (DLo∩((pv 0)^^^((pv 2)^^^ad))) bL (aF _))⁻¹)))))|?_];have sz:(2000:Nat) < sizeLine:=∅
 have yl:=E1 pz;have hm:∀a∈as,H a= ~~~(pqV (qA H a)):=λ a ha=>by obtain⟨p,k,e,_⟩:=hp a ha;rw[cH e];exact e
 apply ai (λ σ' H'=>σ'=[↑t,↑pl,↑fl,none,none]/\Same H H') (λ R hR=>?_) ?_
 ·apply%[_,Z,.ref fl,_,_,_,_,Z,.lst hfl,Z,jf "list" ∅,_,Z|?_];apply aU %[_,rfl,fl,_,rfl,.inl (GW hfl),_,_,rfl,rfl,_,rfl|?_];apply dk (B0 (by rw[GZ];omega)) %[_,rfl,_,rfl,fl,as,[false,true,false,false],gB H,rfl,GW hfl,⋯,rfl,λ a ha=>%[_,GV (hm a ha)|by rw[cL (hm a ha)];rfl]|λ r as' hr pm so=>?_];have eqm:as'.map (qA H)=as.map (qA H):=by apply Srt.uniq (pm.map _) ?_ (List.Perm.refl _) srt;unfold Srt;rw[IA,HR (g:=gB H) (λ a ha=>by show eM (qA H a)=_;rw[cL (hm a (pm.mem_iff.mp ha))];rfl)];exact so
  have hp':∀a∈as',PzP ks H a:=λ a ha=>hp a (pm.mem_iff.mp ha);obtain⟨H1,e1,k1,s1⟩:∃H',upd H r (.lst (as'.map V.ref))=H'/\H' r=↥(as'.map V.ref)/\Same H H':=%[_,Z,upd_same|F9 hr]
  rw[show upd H r _=H1 from e1];have tk:∀a xs,H a= ~~~xs->H1 a= ~~~xs:=λ a xs e=>s1 _ _ e;have d1:=KnF.dat (K:=K) (λ a ha=>PzP.keep tk (hp a ha));have d2:=KnF.dat (K:=K) (λ a ha=>PzP.keep tk (hp' a ha));rw[fO tk hp]at d1;rw[fO tk hp',eqm]at d2;apply%[.list ((as.map (qA H)).map pqd),.list ((as.map (qA H)).map pqd),.lst (GW (s1 _ _ hfl)) d1,.lst (GW k1) d2,jE _,jE _,_,Z|?_];rw[SeqAt.eqv_refl _ (by simp only[PyData.canLay0,eO])];exact aU (hR _ _ %[rfl|s1])
 rintro _ H1 ⟨rfl,s1⟩;have tk1:∀a xs,H a= ~~~xs->H1 a= ~~~xs:=λ a xs e=>s1 _ _ e;apply ai (λ σ' H'=>σ'=[↑t,↑pl,↑fl,none,none]/\Same H H') (λ R hR=>?_) ?_
 ·have hfl1:=s1 _ _ hfl;apply%[_,Z,fl,Z,%[_|GW hfl1]|(bJ (K:=K) (.inl hfl1) (λ n us Hx=>H1=Hx/\us=(List.replicate n true).map V.bl) (λ n us Hx _ e o h=>by rw[<- e.1];exact h) %[Z|Z] ?_ ?_).1 hfl1]
  ·rintro n v us Hx hn ⟨rfl,rfl⟩;have hin:n < (as.map V.ref).length:=(A5.mp hn).1;rw[G6]at hn;obtain⟨a,ha,rfl⟩:=HE.mp hn;have ha1:=tk1 _ _ (hm a (B4 ha));rw[GZ]at hin;apply%[by rw[GZ,Hh];omega,leS.set rfl|bj ?_];apply%[_,Z,.ref a,_,_,_,_,Z,.tup ha1,Z,dF "tuple" ∅,_,Z|br ?_];apply%[_,Z,a,_,1,_,Z,Z,GV ha1,Z,.bl (qA H a).c,_,_,_,_,Z,.bl _,Z,dw "bool" ∅|Nx.of (by rw[GZ];exact hin) %[Z|?_]];rw[List.replicate_succ',HB];rfl
  ·rintro us Hx ⟨rfl,eu⟩;rw[GZ]at eu;subst eu;apply%[by rw[GZ,Hh];omega|λ lo hlo=>?_];obtain⟨H2,e2,k2,s2⟩:∃H',upd H1 lo (.lst ((List.replicate as.length true).map V.bl))=H'/\H' lo=↥((List.replicate as.length true).map V.bl)/\Same H1 H':=%[_,Z,upd_same|F9 hlo]
   rw[show upd H1 lo _=H2 from e2];apply%[lo,_,Z,GW k2,_,Z|?_];exact dk (by simp) (hR _ _ %[rfl|s1.trans s2])
 clear s1 tk1;clear H1;rintro _ H1 ⟨rfl,s1⟩;apply ai (λ σ' H'=>∃le:IB,σ'=[↑t,↑pl,↑fl,↑le,none]/\H1 le=none/\H' le=↥ys/\Same H1 H') (λ R hR=>?_) ?_
 ·apply%[_,Z,pl,ys,Z,.inl (GW (s1 _ _ hpl))|λ le hle=>?_];obtain⟨H2,e2,k2,s2⟩:∃H',upd H1 le (.lst ys)=H'/\H' le=↥ys/\Same H1 H':=%[_,Z,upd_same|F9 hle]
  rw[show upd H1 le _=H2 from e2];exact hR _ _ %[le,rfl,hle,k2|s2]
 rintro _ H2 ⟨le,rfl,hle0,hle,s12⟩;have hle00:H le=none:=s1.free hle0;have nfl:fl≠le:=aw hfl hle00;have s02:=s1.trans s12;apply ai (λ σ' H'=>(∃v4,σ'=[↑t,↑pl,↑fl,↑le,v4])/\Same H H') (λ R hR=>?_) ?_
 ·apply%[_,Z,fl,Z,%[_|GW (s02 _ _ hfl)]|cj (xs:=as.map V.ref) (λ j σ' H'=>(∃v4,σ'=[↑t,↑pl,↑fl,↑le,v4])/\But le H2 H'/\∃zs ps,H' le=↥zs/\Paired (PqU H') zs ps/\zs.length<=ys.length/\∃rest,ps.Perm ((as.map (qA H)).drop j ++ rest)) %[%[_|Z],But.refl',ys,qs,hle,GX pz (λ v q h=>h.keep λ a xs e=>s02 _ _ e),B2 _|sub] (λ j σ H' _ h=>GW (h.2.1 _ _ nfl (s02 _ _ hfl))) ?_ (λ σ H' h=>hR _ _ %[h.1|λ c o e=>h.2.1 _ _ (aw e hle00) (s02 _ _ e)])];rintro j x _ H3 hj ⟨⟨v4,rfl⟩,b23,zs,ps,hz,pzs,zl,rest,sb⟩;rw[G6]at hj;obtain⟨a,ha,rfl⟩:=HE.mp hj;have am:=B4 ha;have tk3:∀a xs,H a= ~~~xs->H3 a= ~~~xs:=λ a xs e=>b23 _ _ (aw e hle00) (s02 _ _ e);have ha3:=tk3 _ _ (hm a am);have dz:=iU (K:=K) pzs;have pl':=E1 pzs;have dr:(as.map (qA H)).drop j=qA H a :: (as.map (qA H)).drop (j+1):=by
   have:(as.map (qA H))[j]?=some (qA H a):=by rw[G6,ha];rfl
   obtain⟨h1,h2⟩:=A5.mp this;rw[List.drop_eq_getElem_cons h1,h2]
  rw[dr]at sb;have mem:qA H a∈ps:=sb.symm.subset B6;obtain⟨i,hi,no⟩:=jF mem;have il:=(A5.mp hi).1;have dq:DatV K H3 (.ref a) (pqd (qA H a)):=.tup (GV ha3) (.cons (.int _) (.cons (.bl _) (.cons (.int _) (.cons (.int _) .nil))));have gd:∀m,m < ps.length->∃q,ps[m]?=some q/\(ps.map pqd).getD m .none=pqd q:=λ m hm=>%[ps[m],E9 hm|by rw[HW,G6,E9 hm];rfl]
  apply%[_,Z,_,Z,le,zs,ps.map pqd,pqd (qA H a),Z,hz,dz,dq,eO _,ma _,_,Z|?_];apply dk (by rw[Bool.not_eq_false'];exact List.any_eq_true.mpr %[_,HI mem|(iS _ _).mpr rfl]) ?_;apply%[_,Z,.inl %[Z,_|GW hz],_,Z,le,zs,.ref a,ps.map pqd,pqd (qA H a),i,Z,Z,hz,dz,dq,eO _,ma _,by rw[GZ];exact il,?_,λ m hm=>?_|?_]
  ·obtain⟨q0,e1,e2⟩:=gd i il;rw[hi]at e1;cases e1;rw[e2];exact(iS _ _).mpr rfl
  ·obtain⟨q0,e1,e2⟩:=gd m ⋯;rw[e2];cases ee:PyData.eqv (pqd q0) (pqd (qA H a))with
   | false=>rfl
   | true=>exact absurd (by rw[e1,(iS _ _).mp ee]) (no m hm)
  ·have bu:But le H3 (upd H3 le (.lst (zs.eraseIdx i))):=λ c o n e=>by rw[aG n];exact e
   apply⟨%[_|Z],b23.trans bu,zs.eraseIdx i,ps.eraseIdx i,upd_same,qr i (GX pzs λ v q h=>h.keep λ c xs e=>bu _ _ (λ z=>by rw[z,hz]at e;cases e) e),C4 (List.eraseIdx_sublist zs i).length_le zl,?_⟩;exact%[rest|(((gG hi).symm.trans sb).cons_inv)]
 rintro _ H3 ⟨⟨v4,rfl⟩,s3⟩;have tk3:∀a xs,H a= ~~~xs->H3 a= ~~~xs:=λ a xs e=>s3 _ _ e;have pk:=KnF.pqs (λ a ha=>PzP.keep tk3 (hp a ha));rw[fO tk3 hp]at pk;apply%[_,Z,_,Z,t,kl,fl,b,ks,_,_,Z,sh.same s3,b0,gk,s3 _ _ hfl,pk,by rw[GZ];omega,λ _ H4 s4=>%[Z|q H4 (s3.trans s4)]|λ tp la lb i r us ws H' hi pt _ _ _ _ _ _=>absurd pt (no i hi r)]
end
def ShD(k n:Nat)(d:PyData):Prop:=d.showable=true/\d.depth<=k/\d.shown.length<=n
theorem kI{k n:Nat}:∀{ds:IF PyData},(∀d∈ds,ShD k n d)->PyData.showableAll ds=true/\PyData.depthAll ds<=k/\((PyData.shownAll ds).map (·.length)).sum<=n * ds.length/\(PyData.shownAll ds).length=ds.length
 | [],_=>%[Z,E6 _,E6 _|Z]
 | d :: r,h=>by obtain⟨d1,d2,d3⟩:=h d B6;obtain⟨e1,e2,e3,e4⟩:=kI (ds:=r) λ x hx=>h x (B3 _ hx);apply%[by simp only[PyData.showableAll,d1,e1,Bool.and_self],by simp only[PyData.depthAll];omega,?_|by simp only[PyData.shownAll,G1];omega];simp only[PyData.shownAll,G9,List.sum_cons,G1,Nat.mul_succ];omega
def Pin(q:Pq):Prop:=q.k < 100/\0<=q.x/\0<=q.y/\q.x < 10 ^ 61/\q.y < 10 ^ 61
theorem uG{i:Int}(h0:0<=i)(h1:i < 10 ^ 61):ShD 1 63 (.int i):=by
 have hs:Short i:=by
  have:(10:Int) ^ 61 < 10 ^ 62:=∅
  have e:((10 ^ 62:Nat):Int)=10 ^ 62:=∅
  unfold Short;omega
 exact%[by simp[PyData.showable,hs.log],by simp[PyData.depth]|hs.len]
theorem EA(b:Bool):ShD 1 63 (.bool b):=by cases b <;> exact%[∅,∅|∅]
theorem qt{q:Pq}(h:Pin q):∀e∈[PyData.int q.k,.bool q.c,.int q.x,.int q.y],ShD 1 63 e:=by
 obtain⟨h1,h2,h3,h4,h5⟩:=h;have:(100:Int) < 10 ^ 61:=∅
 intro e he;simp only[G0,G3,IS]at he;rcases he with rfl | rfl | rfl | rfl
 ·exact uG ⋯ ⋯
 ·exact EA _
 ·exact uG h2 h4
 ·exact uG h3 h5
theorem su{q:Pq}(h:Pin q):ShD 2 400 (pqd q):=by obtain⟨e1,e2,e3,e4⟩:=kI (qt h);apply%[by simp only[pqd,PyData.showable,e1],by simp only[pqd,PyData.depth];omega|?_];have:=tupleText_len_le (PyData.shownAll [PyData.int q.k,.bool q.c,.int q.x,.int q.y]);have l4:[PyData.int q.k,.bool q.c,.int q.x,.int q.y].length=4:=rfl;simp only[pqd,PyData.shown];omega
theorem sy{ds:IF PyData}(h:∀d∈ds,ShD 2 400 d)(l:ds.length<=64):(PyData.list ds).showable=true/\(PyData.list ds).depth<=64/\(PyData.list ds).shown.length<=sizeLine:=by
 obtain⟨e1,e2,e3,e4⟩:=kI h;apply%[by simp only[PyData.showable,e1],by simp only[PyData.depth];omega|?_];have:=listText_len_le (PyData.shownAll ds);have:(40000:Nat) < sizeLine:=∅
 simp only[PyData.shown];omega
theorem sC(f:Pq->PyData)(hf:∀q,(f q).hasDict=false):∀qs:IF Pq,(PyData.list (qs.map f)).hasDict=false:=λ qs=>by
 have:∀qs:IF Pq,PyData.hasDictAll (qs.map f)=false:=λ qs=>by
  induction qs with
  | nil=>rfl
  | cons q r ih=>simp only[G9,PyData.hasDictAll,hf,ih,Bool.or_self]
 simp only[PyData.hasDict,this]
theorem uH{ks:IF Kd}{W h:Int}{q:Pq}(k8:ks.length<=8)(gk:∀k∈ks,Good k)(hW:W < 10 ^ 61)(hh:h < 10 ^ 61)(o:OnP ks W h q):Pin q:=by
 obtain⟨k,hk,_⟩:=o.kd;obtain⟨_,x0,y0,h1,h2⟩:=o;rw[aW hk]at h1 h2;have h1:q.x+sd1 k q.c<=W:=h1;have h2:q.y+sd2 k q.c<=h:=h2;have g:=gk k (B4 hk);have g1:=g.w;have g2:=g.h;have s1:1<=sd1 k q.c:=by unfold sd1;cases q.c <;> assumption
 have s2:1<=sd2 k q.c:=by unfold sd2;cases q.c <;> assumption
 have kl:=(A5.mp hk).1;exact%[⋯,x0,y0,⋯|⋯]
theorem PR.knot_of{α:Type}{b:Int}{g:Nat->α->Int×Int}{pq:α->Pq}{x y:Int}{qs:IF α}{o:Rs}(h:PR b g pq x y qs o):∀{L:IF Pq},o=.knot L->2<=L.length/\Srt L/\∃M:IF α,M.Sublist qs/\L.Perm (M.map pq)/\∀i < 2,∀r,¬ Pts b M (g i) r:=by
 induction h with
 | nil=>intro L e;cases e
 | one=>intro L e;cases e
 | knot l no pm so=>
  intro L e;cases e;exact%[by rw[pm.length_eq,GZ];exact l,so,_,List.Sublist.refl _,pm|no]
 | left l c _ ih=>
  intro L e;obtain⟨a1,a2,M,s,r⟩:=ih e;exact%[a1,a2,M,s.trans Hc|r]
 | right l c _ _ _ ih=>
  intro L e;obtain⟨a1,a2,M,s,r⟩:=ih e;exact%[a1,a2,M,s.trans Hc|r]
 | cut l c _ _ _ _=>intro L e;cases e
theorem qu{α:Type}{M qs:IF α}(h:M.Sublist qs):∃rest,qs.Perm (M ++ rest):=by
 induction h with
 | slnil=>exact%[[]|List.Perm.refl _]
 | cons a _ ih=>
  obtain⟨r,p⟩:=ih;exact%[a :: r|(p.cons a).trans List.perm_middle.symm]
 | cons_cons a _ ih=>
  obtain⟨r,p⟩:=ih;exact%[r|p.cons a]
theorem sD{b r:Int}{ks:IF Kd}{M:IF Pq}{i:Nat}(hi:i < 2)(hk:∀q∈M,∃k,ks[q.k]?=some k)(p:PtB b i (M.map (aD ks)) r):Pts b M (gQ ks i) r:=by
 have e:∀q∈M,(gQ ks i q).1=loB i (aD ks q)/\(gQ ks i q).2=hiB i (aD ks q):=λ q hq=>by
  obtain⟨k,h⟩:=hk q hq;rw[aW h];unfold gQ;rw[h];have:i=0\/i=1:=⋯
  rcases this with rfl | rfl <;> exact%[Z|Z]
 obtain⟨⟨x,hx,h1⟩,⟨y,hy,h2⟩,h3⟩:=p;obtain⟨a,ha,rfl⟩:=G7.mp hx;obtain⟨c,hc,rfl⟩:=G7.mp hy;apply%[%[a,ha|by rw[(e a ha).2];exact h1],%[c,hc|by rw[(e c hc).1];exact h2]|λ d hd=>?_];rw[(e d hd).1,(e d hd).2];exact h3 _ (HI hd)
def KnO(b:Int)(ks:IF Kd)(H:Hp)(qs:IF Pq)(u:V):Prop:=∃(fl:IB)(as':IF IB),u=.ref fl/\H fl=↥(as'.map V.ref)/\(∀a∈as',PzP ks H a)/\as'.length < 64/\2<=as'.length/\Srt (as'.map (qA H))/\(∃rest,qs.Perm (as'.map (qA H) ++ rest))/\∀i < 2,∀r,¬ PtB b i ((as'.map (qA H)).map (aD ks)) r
theorem KnW.kno{b:Int}{ks:IF Kd}{H H':Hp}{ps qs:IF Pq}{u:V}(h:KnW b ks H ps H' u)(pm:ps.Perm qs)(l:qs.length < 64)(hk:∀q∈qs,∃k,ks[q.k]?=some k):KnO b ks H' qs u:=by obtain⟨kl,as',e,_,hl,hz,pr⟩:=h;obtain⟨l2,so,M,sM,pL,no⟩:=pr.knot_of rfl;obtain⟨rest,pr'⟩:=qu sM;rw[List.map_id]at pL;rw[GZ]at l2;have pq:qs.Perm (as'.map (qA H') ++ rest):=pm.symm.trans (pr'.trans (pL.symm.append_right rest));have ll:=pq.length_eq;rw[G4,GZ]at ll;apply%[kl,as',e,hl,hz,⋯,l2,so,%[rest|pq]|λ i hi r p=>no i hi r ?_];exact sD hi (λ q hq=>hk q (pm.mem_iff.mp (sM.subset hq))) (lW (λ x=>(pL.map _).mem_iff) p)
section
variable{P:F5}{w:F7}{K:C3}{mg:Str->ID F8}{base:Heap}
inductive spRightK(vs:IF V)(H:Hp)(Q:VK)(E_:XK):Prop
|mk(t kl pl fo:IB)(b W h:Int)(ks:IF Kd)(as:IF IB)(qs:IF Pq)(z:Str)(u:V)(_:vs=[.ref t,.int W,.int h,.ref pl,.ref fo])(_:LS H t b ks kl)(_:ks.length<=8)(_:0<=b)(_:(∀k∈ks,Good k))(_:H pl=↥(as.map V.ref))(_:Paired (PqT ks H) (as.map V.ref) qs)(_:as.length<=40)(_:(∀q∈qs,Pin q))(_:H fo= ~~~[.str z,u])(_:KTB b (qs.map (aD ks)) z)(_:(z = "tree" -> ∃T,TrV H T u/\okU b ks W h T/\dT T < 64/\lvN T < 64/\(pcT b T 0 0).Perm qs))(_:(z = "knot" -> KnO b ks H qs u))(_:∀H',Same H H'->Q (.bl true) H')
theorem scright:FnScope ["_law_shop_here","_law_wide","_law_high","_law_pieces_here","_law_found","_law_leaves"] ["_law_shop_here","_law_wide","_law_high","_law_pieces_here","_law_found"] (defScope iL):=%[Z,Z,Z,∅,Z,∅|∅]
theorem qv{f:IB}{fd:F6}(F:Fun K "_law_right" "_law_right" iL f fd)(B:Blt mg)(DHT:Dn P w K mg base "_law_has_tree" ["_law_shop_here","_law_pieces_here"] 68 (spHasT 64))(DKn:Dn P w K mg base "_law_is_knot" ["_law_shop_here","_law_pieces_here","_law_found"] 4 (spIsKn))(DWk:Dn P w K mg base "_law_walk" ["_law_shop_here","_law_part","_law_tree"] 67 (spWalk 64))(DPc:Dn P w K mg base "_law_pieces" ["_law_leaves"] 1 (spPcs K)):FnOk P w K mg base CX0 69 f fd ["_law_shop_here","_law_wide","_law_high","_law_pieces_here","_law_found"] (spRightK):=by
 apply F.ok scright (λ vs H Q E h=>?_) (λ cdv A outer s H vs Q E hr h=>?_)
 ·obtain⟨t,kl,pl,fo,b,W,h1,ks,as,qs,z,u,rfl,_⟩:=h
  rfl
 obtain⟨t,kl,pl,fo,b,W,h1,ks,as,qs,z,u,rfl,sh,k8,b0,gk,hpl,pz,a40,pin,hfo,kt,tr,kn,q⟩:=h;have nd:=scright.nd;have hg:=hr.gd;have hu6:=hr.units66;apply%[_,(((PW.pt (bC (@aO _ _ _ _ (@aN _ _ _ (@aA _ _ _ _ _ _ _ _ _ aV Z B.isi IM ((pv 4)^^^((bB (v:=.ty "tuple") Z B.tuple IW Z)^^^ad)) ∅ ∅ Z Z) (by intro _;rfl))) (bG ((@aA _ _ _ _ _ _ _ _ _ aJ Z B.len IR ((pv 4)^^^ad) ∅ ∅ Z Z)<*>fi<*>ae))))<|>(bd⁻¹)<|>aE)<<<(((@aO _ _ _ _ (@aN _ _ _ (DHT∩((pv 0)^^^((pv 3)^^^ad))) (by intro _;rfl)))<|>((bH (@aT _ _ _ _ _ _ _ _ bF ((pv 4)&&&ix_tup&&&ae) cD (aF _)) (bX (DKn∩((pv 0)^^^((pv 3)^^^(((pv 4)&&&ix_tup&&&ae)^^^ad))))))⁻¹)<|>aE)<<<((5∣(DWk∩((pv 0)^^^((@aL _ _ _ _ _ (ae^^^(ae^^^((pv 1)^^^((pv 2)^^^ad)))))^^^(((pv 4)&&&ix_tup&&&ae)^^^ad)))))<<<((bH (@aT _ _ _ _ _ _ _ _ bF ((pv 4)&&&ix_tup&&&ae) cD (aF _)) (bH (@aT _ _ _ _ _ _ _ _ iq (pv 5) bL (aF _)) (bX (@aT _ _ _ _ _ _ _ _ bF (@aA _ _ _ _ _ _ _ _ _ (hJ hg hu6) Z B.repr PyProof.Rows.boot_repr ((DPc∩((pv 5)^^^ad))^^^ad) ∅ ∅ Z Z) (@aA _ _ _ _ _ _ _ _ _ (hJ hg hu6) Z B.repr PyProof.Rows.boot_repr ((@aA _ _ _ _ _ _ _ _ _ bT Z B.sorted Ie ((pv 3)^^^ad) ∅ ∅ Z Z)^^^ad) ∅ ∅ Z Z) (aF _)))))⁻¹))))|?_];have al:=E1 pz;rw[GZ]at al;apply ai (λ σ' H'=>σ'=[↑t,⇑W,⇑h1,↑pl,↑fo,none]/\H=H') (λ R hR=>?_) ?_
 ·apply%[_,Z,.ref fo,_,_,_,_,Z,.tup hfo,Z,dF "tuple" ∅,_,Z|?_];exact aU %[_,rfl,fo,_,rfl,.inr (GV hfo),rfl,_,rfl|aU (hR _ _ %[rfl|rfl])]
 rintro _ _ ⟨rfl,rfl⟩;apply ai (λ σ' H'=>σ'=[↑t,⇑W,⇑h1,↑pl,↑fo,none]/\Same H H'/\z = "tree") (λ R hR=>?_) ?_
 ·apply%[_,Z,_,Z,t,kl,pl,b,ks,_,qs,Z,sh,b0,gk,hpl,Paired.impS (λ v q h=>h.s) pz,by rw[GZ];omega,⋯|λ r H1 e1 s1=>%[_,Z|?_]];rcases kt with⟨hz,hk⟩ | ⟨hz,hk⟩
  ·cases r with
   | true=>exact absurd hk (e1.mp rfl)
   | false=>
    subst hz;obtain⟨fl,as',rfl,hfl,hz',a64,a2,srt,sub,no⟩:=kn rfl;have tk:∀a xs,H a= ~~~xs->H1 a= ~~~xs:=λ a xs e=>s1 _ _ e;have eq:=fO tk hz';apply br %[_,rfl,fo,_,0,_,rfl,rfl,GV (s1 _ _ hfo),rfl,rfl,_,rfl|fu ∅ ?_];exact%[_,Z,_,Z,_,Z,fo,_,1,_,Z,Z,GV (s1 _ _ hfo),Z,t,kl,pl,fl,b,ks,_,qs,as',Z,sh.same s1,b0,gk,s1 _ _ hpl,GX pz (λ v q ⟨a,e,h,_⟩=>%[a,e|s1 _ _ h]),by rw[GZ];omega,s1 _ _ hfl,(λ a ha=>PzP.keep tk (hz' a ha)),a64,a2,by rw[eq];exact srt,by rw[eq];exact sub,by rw[eq];exact no|λ H2 s2=>q H2 (s1.trans s2)]
  ·cases r with
   | false=>exact absurd (e1.mpr hk) ∅
   | true=>exact aU (hR _ _ %[rfl,s1|hz])
 rintro _ H1 ⟨rfl,s1,rfl⟩;obtain⟨T,tv,okT,d64,l64,perm⟩:=tr rfl;apply ai (λ σ' H'=>∃(l:IB)(us:IF V),σ'=[↑t,⇑W,⇑h1,↑pl,↑fo,↑l]/\H' l=↥us/\Paired (LfV H') us (lvT b T 0 0 W h1)/\Same H H') (λ R hR=>?_) ?_
 ·apply%[_,Z,_,Z,_,Z,zS4|λ a ha=>?_];obtain⟨H2,e2,k2,s2⟩:∃H',upd H1 a (.tup [.int 0,.int 0,.int W,.int h1])=H'/\H' a= ~~~[.int 0,.int 0,.int W,.int h1]/\Same H1 H':=%[_,Z,upd_same|F9 ha]
  rw[show upd H1 a _=H2 from e2];have s02:=s1.trans s2;exact%[_,Z,fo,_,1,_,Z,Z,GV (s02 _ _ hfo),Z,t,kl,a,b,0,0,W,h1,ks,u,T,Z,sh.same s02,k8,k2,TrV.keep (λ a xs e=>s02 _ _ e) T tv,okT,⋯,⋯,d64|λ l us H' hl pl s'=>hR _ _ %[l,us,Z,hl,pl|s02.trans s']]
 clear s1;clear H1;rintro _ H1 ⟨l,us,rfl,hl1,pf1,s1⟩;apply%[_,Z,fo,_,0,_,Z,Z,GV (s1 _ _ hfo),Z,Z,_,Z|fu ∅ ?_];apply%[_,Z,Z,_,Z|?_];apply fu rfl %[_,rfl,l,us,_,rfl,hl1,pf1,by rw[dN];omega|λ r ys' qs' H2 hr0 hr2 pq2 pm so s2=>?_];rw[gF]at pm;have pmq:qs'.Perm qs:=pm.trans perm;have pl2:=pmq.length_eq;have s02:=s1.trans s2;have pin':∀q'∈qs',Pin q':=λ q' h=>pin q' (pmq.mem_iff.mp h);obtain⟨sh1,sh2,sh3⟩:=sy (ds:=qs'.map pqd) (λ d hd=>by obtain⟨q',hq,rfl⟩:=G7.mp hd;exact su (pin' q' hq)) (by rw[GZ];omega);have nd:=sC pqd (λ _=>rfl) qs';have hm:∀a∈as,H2 a= ~~~(pqV (qA H2 a)):=λ a ha=>by obtain⟨i,hi⟩:=HD.mp ha;obtain⟨q0,_,c,e,h,_⟩:=GY pz (show(as.map V.ref)[i]? = ↑a by rw[G6,hi];rfl);cases e;rw[cH (s02 _ _ h)];exact s02 _ _ h
 have eas:as.map (qA H2)=qs:=gE (GX pz λ v q h=>h.keep λ a xs e=>s02 _ _ e);apply%[r,.list (qs'.map pqd),Z,.lst (GW hr2) (iU pq2),sh1,nd,sh2,sh3,_,Z,pl,as,[false,true,false,false],gB H2,Z,GW (s02 _ _ hpl),⋯,Z,λ a ha=>%[_,GV (hm a ha)|by rw[cL (hm a ha)];rfl]|λ r3 as3 hr3 pm3 so3=>?_];have e3:as3.map (qA H2)=qs':=by
  apply Srt.uniq (M:=qs) ?_ ?_ pmq so
  ·have:=pm3.map (qA H2);rw[eas]at this;exact this
  ·unfold Srt;rw[IA,HR (g:=gB H2) (λ a ha=>by show eM (qA H2 a)=_;rw[cL (hm a (pm3.mem_iff.mp ha))];rfl)];exact so3
 obtain⟨H4,e4,k4,s4⟩:∃H',upd H2 r3 (.lst (as3.map V.ref))=H'/\H' r3=↥(as3.map V.ref)/\Same H2 H':=%[_,Z,upd_same|F9 hr3]
 rw[show upd H2 r3 _=H4 from e4];have d3:DatVs K H4 (as3.map V.ref) (qs'.map pqd):=by
  rw[<- e3];have:∀xs:IF IB,(∀a∈xs,H4 a= ~~~(pqV (qA H2 a)))->DatVs K H4 (xs.map V.ref) ((xs.map (qA H2)).map pqd):=λ xs=>by
   induction xs with
   | nil=>exactλ _=>.nil
   | cons a xs ih=>exactλ h=>.cons (.tup (GV (h a B6)) (.cons (.int _) (.cons (.bl _) (.cons (.int _) (.cons (.int _) .nil))))) (ih λ c hc=>h c (B3 _ hc))
  exact this as3 λ a ha=>s4 _ _ (hm a (pm3.mem_iff.mp ha))
 apply%[r3,.list (qs'.map pqd),Z,.lst (GW k4) d3,sh1,nd,sh2,sh3,Z|?_];have:=q H4 (s02.trans s4);rw[show(V.bl true)=V.bl (decide (V.str (PyData.list (qs'.map pqd)).shown=V.str (PyData.list (qs'.map pqd)).shown))by rw[IL rfl]]at this;exact this
end
theorem eh(o r:Bx):bU o r=bU r o:=by unfold bU;rw[Bool.and_comm (decide (o.a < r.c)),Bool.and_comm (decide (o.b < r.d))]
theorem qw{ks:IF Kd}{ps:IF Pq}(h:jx ks ps):ps.Pairwise λ o p=>bU (aD ks o) (aD ks p)=false:=by rw[HQ];intro i j hi hj ij;rw[eh];exact h j ps[j] (E9 hj) ps[i] (Hi.mpr %[i,⋯|Z])
theorem mY{ks:IF Kd}{ps A B:IF Pq}{x:Pq}(pm:ps.Perm (A ++ B))(hA:x∈A)(hB:x∈B)(o:bU (aD ks x) (aD ks x)=true):¬ jx ks ps:=λ h=>by have:=(List.Perm.pairwise_iff (λ {x y} e=>by rw[eh];exact e) pm).mp (qw h);have:=(List.pairwise_append.mp this).2.2 x hA x hB;rw[o]at this;cases this
theorem qx{p:IB}{H:Hp}:∀{ys:IF V}{ps:IF Pq},Paired (PqI p H) ys ps->∃ds,Dts p H ys ds/\Paired PqD ds ps/\wts ds=5 * ps.length
 | _,_,.nil=>%[[],.nil,.nil|Z]
 | _,_,.cons (b:=q) ⟨a,e,n,h⟩ r=>by
  subst e;obtain⟨ds,h1,h2,h3⟩:=qx r;have it:Dts p H (pqV q) [.int q.k,.bool q.c,.int q.x,.int q.y]:=.cons (.int _) (.cons (.bl _) (.cons (.int _) (.cons (.int _) .nil)));rcases h with h | h
  ·apply%[_ :: ds,.cons (.lst n h it) h1,.cons rfl h2|?_];rw[wts,h3,G1];simp only[wt,wts];omega
  ·apply%[_ :: ds,.cons (.tup h it) h1,.cons rfl h2|?_];rw[wts,h3,G1];simp only[wt,wts];omega
theorem tM{p l:IB}{H:Hp}{ys:IF V}{ps:IF Pq}(n:l≠p)(h:Sq H l ys)(pz:Paired (PqI p H) ys ps):∃d ds,Dt p H (.ref l) d/\bW d=some ds/\Paired PqD ds ps/\wt d<=5 * ps.length+5:=by
 obtain⟨ds,h1,h2,h3⟩:=qx pz;rcases h with h | h
 ·exact%[.list ds,ds,.lst n h h1,Z,h2|by simp only[wt];omega]
 ·exact%[.tuple ds,ds,.tup h h1,Z,h2|by simp only[wt];omega]
theorem sE{ks:IF Kd}{W h:Int}{d:PyData}{ds:IF PyData}{ps:IF Pq}(hd:bW d=some ds)(pp:Paired PqD ds ps)(l:Lay ks W h ps):mT ks W h d:=by
 apply%[ds,ps,hd,pp,λ x hx=>?_|λ i p hp q hq=>?_]
 ·obtain⟨i,hi⟩:=HD.mp hx;obtain⟨q,hq,pd⟩:=GY pp hi;obtain⟨ly,x0,y0,c1,c2⟩:=l.1 q (B4 hq);obtain⟨k,hk,il⟩:=cA ly;apply lV pd il hk x0 y0 ?_;unfold onB;rw[IQ ⋯,IQ ⋯]
  rfl
 ·obtain⟨j,hj,rfl⟩:=Hi.mp hq;obtain⟨hi,rfl⟩:=A5.mp hp;have:=HQ.mp l.2 j i ⋯ hi ⋯;rw[gC,eh]at this;simpa using this
theorem qy{ks:IF Kd}{W h:Int}{d:PyData}{ds:IF PyData}{ps A B:IF Pq}{x:Pq}(hd:bW d=some ds)(pp:Paired PqD ds ps)(pm:ps.Perm (A ++ B))(hA:x∈A)(hB:x∈B)(o:bU (aD ks x) (aD ks x)=true):¬ mT ks W h d:=by rintro⟨ds',ps',h1,h2,_,h4⟩;rw[hd]at h1;cases h1;rw[Paired.uniq PqD.uniq h2 pp]at h4;exact mY pm hA hB o h4
theorem mZ{ks:IF Kd}{q:Pq}{k:Kd}(gk:∀k∈ks,Good k)(hk:ks[q.k]?=some k):bU (aD ks q) (aD ks q)=true:=by
 have h0:=dO gk hk 0;have h1:=dO gk hk 1;have h0:(aD ks q).a < (aD ks q).c:=h0;have h1:(aD ks q).b < (aD ks q).d:=h1;unfold bU;rw[IL h0,IL h1]
 rfl
theorem EB{xs:IF V}:cr xs (some 1) none=xs.drop 1:=by
 unfold cr;rw[show HT.sIx xs.length xs.length none=xs.length from rfl];cases xs with
 | nil=>rfl
 | cons x r=>
  rw[show HT.sIx (x :: r).length 0 (some 1)=1 by unfold HT.sIx;simp <;> omega];rw[HP (by rw[HG];omega)]
theorem EC{xs:IF V}(h:1<=xs.length):cr xs (some (-1)) none=xs.drop (xs.length - 1):=by unfold cr;rw[show HT.sIx xs.length xs.length none=xs.length from rfl,show HT.sIx xs.length 0 (some (-1))=xs.length - 1 by unfold HT.sIx;simp <;> omega];rw[HP (by rw[HG];omega)]
section
variable{P:F5}{w:F7}{K:C3}{mg:Str->ID F8}{base:Heap}
inductive spJudK(vs:IF V)(H:Hp)(Q:VK)(E_:XK):Prop
|mk(p t kl pl:IB)(b W h:Int)(ks:IF Kd)(ys:IF V)(qs:IF Pq)(_:vs=[.ref p,.ref t,.int W,.int h,.ref pl])(_:PotC H p)(_:LS H t b ks kl)(_:kl≠p)(_:1<=ks.length)(_:ks.length<=8)(_:0<=b)(_:(∀k∈ks,Good k))(_:1<=W)(_:1<=h)(_:pl≠p)(_:H pl=↥ys)(_:Paired (PqT ks H) ys qs)(_:ys.length<=40)(_:Lay ks W h qs)(_:∀H',PotC H' p->But p H H'->Q (.bl true) H')
theorem scjudk:FnScope ["_law_pot_here","_law_shop_here","_law_wide","_law_high","_law_pieces_here","_law_made","_law_twice"] ["_law_pot_here","_law_shop_here","_law_wide","_law_high","_law_pieces_here"] (defScope fM):=%[Z,Z,Z,∅,Z,∅|∅]
theorem sG{f C:IB}{fd:F6}(F:Fun K "_law_judged" "_law_judged" fM f fd)(B:Blt mg)(DHa:Dn P w K mg base "_law_handed" ["_law_pot_here","_law_pieces_here"] 2 (spHand))(DIs:Dn P w K mg base "is_laying" ["shop","wide","high","thing"] 6 (spIsLay C))(DSh:Kn P w K mg base "Shop" C ["self","blade","kinds"] 3 (iD C)):FnOk P w K mg base CX0 7 f fd ["_law_pot_here","_law_shop_here","_law_wide","_law_high","_law_pieces_here"] (spJudK):=by
 apply F.ok scjudk (λ vs H Q E h=>?_) (λ cdv A outer s H vs Q E hr h=>?_)
 ·obtain⟨p,t,kl,pl,b,W,h1,ks,ys,qs,rfl,_⟩:=h
  rfl
 obtain⟨p,t,kl,pl,b,W,h1,ks,ys,qs,rfl,pt,sh,nk,k1,k8,b0,gk,w1,h1',npl,hpl,pz,y40,lay,q⟩:=h;have nd:=scjudk.nd;apply%[_,((5∣(tE DSh (hr.mono ∅) Z (((pv 1)&&&ix_tup&&&ae)^^^(((pv 1)&&&ix_tup&&&ae)^^^ad))))<<<((((DIs∩((pv 5)^^^((pv 2)^^^((pv 3)^^^((DHa∩((pv 0)^^^((pv 4)^^^ad)))^^^ad)))))<*>pJ<*>bd)<|>(bd⁻¹)<|>aE)<<<((((@aA _ _ _ _ _ _ _ _ _ aJ Z B.len IR ((pv 4)^^^ad) ∅ ∅ Z Z)<*>fQ<*>ae)<|>(bd⁻¹)<|>aE)<<<((6∣(DHa∩((pv 0)^^^(((@cR _ _ _ _ _ _ _ _ _ _ fB (pv 4) (cX ae) ez)|||jV|||(@cR _ _ _ _ _ _ _ _ _ _ fB (pv 4) (cX (@wV _ _ _ _ _ _ tZ ae)) ez))^^^ad))))<<<((@aT _ _ _ _ _ _ _ _ uw (DIs∩((pv 5)^^^((pv 2)^^^((pv 3)^^^((pv 6)^^^ad))))) bd (aF _))⁻¹)))))|?_];have sz:(2000:Nat) < sizeLine:=∅
 have yl:=E1 pz;apply ai (λ σ' H'=>∃x:IB,σ'=[↑p,↑t,⇑W,⇑h1,↑pl,↑x,none]/\ShopAt C H' x b ks/\Same H H') (λ R hR=>?_) ?_
 ·obtain⟨rs,q1,q2,q3⟩:=id sh;have rl:=E1 q3;apply%[_,Z,t,_,0,_,Z,Z,GV q1,Z,_,Z,t,_,1,_,Z,Z,GV q1,Z|λ x dx hx hdx ne0=>?_];have sm:Same H (upd (upd H dx (.own x)) x (.ins C dx [])):=ic hx hdx;apply%[x,dx,kl,b,rs,ks,Z,upd_same,b0,.inl (sm _ _ q2),GX (Tups.keep (λ c xs e=>sm _ _ e) q3) (λ v k h=>.inl h),gk,⋯,⋯|λ Hb Sb kb=>%[Z|?_]];exact hR _ _ %[x,rfl,Sb|λ c o e=>kb c o (aw e hx) (sm _ _ e)]
 rintro _ H1 ⟨x,rfl,S1,s1⟩;have pu:∀{Hx:Hp},(∀c xs,H c= ~~~xs->Hx c= ~~~xs)->Paired (PqU Hx) ys qs:=λ k=>GX pz λ v q %[a,e,h|_]=>%[a,e|k _ _ h]
 apply ai (λ σ' H'=>σ'=[↑p,↑t,⇑W,⇑h1,↑pl,↑x,none]/\ShopAt C H' x b ks/\PotC H' p/\But p H H') (λ R hR=>?_) ?_
 ·apply%[_,Z,_,Z,_,Z,_,Z,_,Z,p,pl,ys,qs,Z,pt.same s1,npl,s1 _ _ hpl,pu (λ c xs e=>s1 _ _ e),⋯|λ l zs qs' H2 nl hz pq pm pt2 b2=>?_];obtain⟨d,ds,dd,hd,pp,wd⟩:=tM nl hz pq;have ql:=pm.length_eq;have S2:=tI (pt.same s1) b2 S1;apply%[p,x,b,W,h1,ks,.ref l,d,Z,S2,w1,h1',dd,⋯|λ r H3 er s3=>?_];have:r=true:=er.mpr (sE hd pp (lay.perm pm.symm));subst this;exact%[Z,_,Z,_,Z|aU (hR _ _ %[Z,cV s3 S2,pt2.same s3|λ c o n e=>s3 _ _ (b2 _ _ n (s1 _ _ e))])]
 clear S1 s1;clear H1;rintro _ H1 ⟨rfl,S1,pt1,b1⟩;have hpl1:=b1 _ _ npl hpl;apply ai (λ σ' H'=>σ'=[↑p,↑t,⇑W,⇑h1,↑pl,↑x,none]/\H1=H'/\2<=ys.length) (λ R hR=>?_) ?_
 ·apply%[_,Z,pl,_,Z,.inl (GW hpl1),_,_,Z,Z,_,Z|?_];apply bv (λ cc=>q H1 pt1 b1) (λ cc=>hR _ _ %[rfl,rfl|IY λ c=>cc (A9 (show(ys.length:Int) < 2 by omega))])
 rintro _ _ ⟨rfl,rfl,l2⟩;apply ai (λ σ' H'=>∃(l:IB)(zs:IF V)(ps:IF Pq),σ'=[↑p,↑t,⇑W,⇑h1,↑pl,↑x,↑l]/\l≠p/\Sq H' l zs/\Paired (PqI p H') zs ps/\ps.Perm (qs.drop 1 ++ qs.drop (qs.length - 1))/\ShopAt C H' x b ks/\PotC H' p/\But p H H') (λ R hR=>?_) ?_
 ·apply%[_,Z,_,Z,_,Z,pl,ys,Z,GW hpl1|λ a1 ha1=>?_];rw[EB];obtain⟨H2,e2,k2,n2,s2,b2,pt2⟩:=bm (o:=.lst (ys.drop 1)) b1 pt1 ha1;rw[show upd H1 a1 _=H2 from e2];apply%[_,Z,_,Z,_,Z,pl,ys,Z,GW (s2 _ _ hpl1)|λ a2 ha2=>?_];rw[EC ⋯];obtain⟨H3,e3,k3,n3,s3,b3,pt3⟩:=bm (o:=.lst (ys.drop (ys.length - 1))) b2 pt2 ha2;rw[show upd H2 a2 _=H3 from e3];apply%[a1,a2,_,_,Z,Z,s3 _ _ k2,k3,by rw[HG,HG];omega|λ a3 ha3=>?_];obtain⟨H4,e4,k4,n4,s4,b4,pt4⟩:=bm (o:=.lst (ys.drop 1 ++ ys.drop (ys.length - 1))) b3 pt3 ha3;rw[show upd H3 a3 _=H4 from e4];have s14:=s2.trans (s3.trans s4);have pu4:=pu (Hx:=H4) (λ c xs e=>bI b4 pt e);have S4:=cV s14 S1;apply%[p,a3,_,qs.drop 1 ++ qs.drop (ys.length - 1),Z,pt4,n4,k4,cO (lY 1 pu4) (lY _ pu4),by rw[G4,HG,HG];omega|λ l zs ps H5 nl hz pq pm pt5 b5=>?_];rw[yl]at pm;exact hR _ _ %[l,zs,ps,rfl,nl,hz,pq,pm,tI pt4 b5 S4,pt5|b4.trans b5]
 clear hpl1 S1 pt1 b1;clear H1;rintro _ H1 ⟨l,zs,ps,rfl,nl,hz,pq,pm,S1,pt1,b1⟩;obtain⟨d,ds,dd,hd,pp,wd⟩:=tM nl hz pq;have ql:=pm.length_eq;rw[G4,HG,HG]at ql;apply%[_,Z,_,Z,_,Z,_,Z,p,x,b,W,h1,ks,.ref l,d,Z,S1,w1,h1',dd,⋯|λ r H3 er s3=>?_];have hl:qs.length - 1 < qs.length:=⋯
 have:r=false:=by
  cases r with
  | false=>rfl
  | true=>
   apply absurd (er.mp rfl) (qy (x:=qs[qs.length - 1]) hd pp pm ?_ ?_ ?_)
   ·exact List.mem_iff_getElem.mpr %[qs.length - 2,by rw[HG];omega|by rw[List.getElem_drop];congr 1;omega]
   ·exact List.mem_iff_getElem.mpr %[0,by rw[HG];omega|by rw[List.getElem_drop];congr 1]
   ·obtain⟨k,hk,_⟩:=cA (lay.1 _ (Hs hl)).1;exact mZ gk hk
 subst this;exact%[Z,_,Z|q H3 (pt1.same s3) (λ c o n e=>s3 _ _ (b1 _ _ n e))]
end
theorem Room.units220{k:Nat}{A:Around}(r:Room k A)(h:2<=k):A.units+220 < cLine:=by have:=r.un;omega
def Sm(i:Int):Prop:=0<=i/\i < 10 ^ 61
mutual
inductive Fit:PyData->Prop
 | bool (b:Bool):Fit (.bool b)
 | int {i:Int}:Sm i->Fit (.int i)
 | str {z:Str}:(PyData.str z).showable=true->(PyData.str z).shown.length<=90->Fit (.str z)
 | list {ds:IF PyData}:Fits ds->Fit (.list ds)
 | tuple {ds:IF PyData}:Fits ds->Fit (.tuple ds)
inductive Fits:IF PyData->Prop
 | nil:Fits []
 | cons {d:PyData} {ds:IF PyData}:Fit d->Fits ds->Fits (d :: ds)
end
theorem tN(dn:Bool):Fit (.str (wyS dn)):=by cases dn <;> exact .str ∅ ∅
theorem qz:Fit (.str "rest"):=.str ∅ ∅
theorem ng:Fit (.str "piece"):=.str ∅ ∅
mutual
theorem Fit.sh:∀{d:PyData},Fit d->d.showable=true/\d.hasDict=false/\d.shown.length+2<=100 * wt d
 | _,.bool b=>by cases b <;> exact%[∅,∅|∅]
 | _,.int (i:=i) ⟨h0,h1⟩=>by
  have hs:Short i:=by
   have:(10:Int) ^ 61 < 10 ^ 62:=∅
   have e:((10 ^ 62:Nat):Int)=10 ^ 62:=∅
   unfold Short;omega
  have:=hs.len;exact%[by simp[PyData.showable,hs.log],by simp[PyData.hasDict]|by show _<=100 * 1;omega]
 | _,.str (z:=z) h1 h2=>⟨h1,by simp[PyData.hasDict],by
  show _<=100 * (z.length+1);omega⟩
 | _,.list (ds:=ds) h=>by obtain⟨h1,h2,h3,h4⟩:=h.sh;have:=listText_len_le (PyData.shownAll ds);apply%[by simp only[PyData.showable,h1],by simp only[PyData.hasDict,h2]|?_];show(PyData.list ds).shown.length+2<=100 * (wts ds+1);simp only[PyData.shown];omega
 | _,.tuple (ds:=ds) h=>by obtain⟨h1,h2,h3,h4⟩:=h.sh;have:=tupleText_len_le (PyData.shownAll ds);apply%[by simp only[PyData.showable,h1],by simp only[PyData.hasDict,h2]|?_];show(PyData.tuple ds).shown.length+2<=100 * (wts ds+1);simp only[PyData.shown];omega
theorem Fits.sh:∀{ds:IF PyData},Fits ds->PyData.showableAll ds=true/\PyData.hasDictAll ds=false/\((PyData.shownAll ds).map (·.length)).sum+2 * ds.length<=100 * wts ds/\(PyData.shownAll ds).length=ds.length
 | _,.nil=>%[Z,Z,B2 _|Z]
 | _,.cons (d:=d) (ds:=ds) a r=>by obtain⟨d1,d2,d3⟩:=a.sh;obtain⟨e1,e2,e3,e4⟩:=r.sh;apply%[by simp only[PyData.showableAll,d1,e1,Bool.and_self],by simp only[PyData.hasDictAll,d2,e2,Bool.or_self],?_|by simp only[PyData.shownAll,G1];omega];show _<=100 * (wt d+wts ds);simp only[PyData.shownAll,G9,List.sum_cons,G1];omega
end
theorem Fit.ok{d:PyData}(h:Fit d)(z:wt d<=100000):d.showable=true/\d.hasDict=false/\d.shown.length<=sizeLine:=by
 obtain⟨h1,h2,h3⟩:=h.sh;have:(10000000:Nat)<=sizeLine:=∅
 exact%[h1,h2|⋯]
theorem eQ{b:Int}{ks:IF Kd}(b0:0<=b)(gk:∀k∈ks,Good k)(k8:ks.length<=8):∀(t:Tr){w h:Int},okU b ks w h t->w < 10 ^ 60->h < 10 ^ 60->Fit (toD t)
 | .rest,_,_,_,_,_=>.tuple (.cons qz .nil)
 | .piece i c x y,w,h,⟨k,hk,_,x0,y0,hx,hy⟩,w6,h6=>by
  have e:(10:Int) ^ 60 < 10 ^ 61:=∅
  have e2:(100:Int) < 10 ^ 61:=∅
  have hg:=gk k (B4 hk);have hi:=(A5.mp hk).1;have s1:1<=sd1 k c/\1<=sd2 k c:=by
   obtain⟨g1,g2,_⟩:=hg;cases c
   ·exact%[g1|g2]
   ·exact%[g2|g1]
  exact .tuple (.cons ng (.cons (.int %[⋯|⋯]) (.cons (.bool c) (.cons (.int %[x0|⋯]) (.cons (.int %[y0|⋯]) .nil)))))
 | .cut true p l r,w,h,⟨p1,hp,hl,hr⟩,w6,h6=>by
  have e:(10:Int) ^ 60 < 10 ^ 61:=∅
  exact .tuple (.cons (tN true) (.cons (.int %[⋯|⋯]) (.cons (eQ b0 gk k8 l hl ⋯ h6) (.cons (eQ b0 gk k8 r hr ⋯ h6) .nil))))
 | .cut false p l r,w,h,⟨p1,hp,hl,hr⟩,w6,h6=>by
  have e:(10:Int) ^ 60 < 10 ^ 61:=∅
  exact .tuple (.cons (tN false) (.cons (.int %[⋯|⋯]) (.cons (eQ b0 gk k8 l hl w6 ⋯) (.cons (eQ b0 gk k8 r hr w6 ⋯) .nil))))
def szT:Tr->Nat
 | .cut _ _ l r=>szT l+szT r+1
 | _=>1
theorem kJ:∀t:Tr,szT t+1<=2 * lvN t
 | .rest=>B2 _
 | .piece ..=>B2 _
 | .cut _ _ l r=>by have h1:=kJ l;have h2:=kJ r;show szT l+szT r+1+1<=2 * (lvN l+lvN r);omega
theorem kL:∀t:Tr,wt (toD t)<=11 * szT t
 | .rest=>∅
 | .piece ..=>by
  have:wt (.str "piece")=6:=∅
  show wt (.str "piece")+(1+(1+(1+(1+0))))+1<=11 * 1;omega
 | .cut dn p l r=>by
  have h1:=kL l;have h2:=kL r;have h3:wt (.str (wyS dn))<=7:=by cases dn <;> decide +kernel
  show wt (.str (wyS dn))+(1+(wt (toD l)+(wt (toD r)+0)))+1<=11 * (szT l+szT r+1);omega
theorem me:∀{qs:IF Pq},(∀q∈qs,Sm q.k/\Sm q.x/\Sm q.y)->Fits (qs.map pqd)/\wts (qs.map pqd)=5 * qs.length
 | [],_=>%[.nil|Z]
 | q :: qs,h=>by obtain⟨h1,h2,h3⟩:=h q B6;obtain⟨g1,g2⟩:=me (qs:=qs) λ y hy=>h y (B3 _ hy);apply%[.cons (.tuple (.cons (.int h1) (.cons (.bool _) (.cons (.int h2) (.cons (.int h3) .nil))))) g1|?_];show 1+(1+(1+(1+0)))+1+wts (qs.map pqd)=5 * (qs.length+1);omega
mutual
theorem _root_.L2.DatV.sm{K:C3}{H H':Hp}(s:Same H H'):∀{v:V}{d:PyData},DatV K H v d->DatV K H' v d
 | _,_,.non=>.non
 | _,_,.bl b=>.bl b
 | _,_,.int i=>.int i
 | _,_,.str x=>.str x
 | _,_,.lst h r=>.lst (s.seq h) (r.sm s)
 | _,_,.tup h r=>.tup (h.imp (λ e=>e.imp (λ e=>s _ _ e) (λ⟨o,e⟩=>%[o|s _ _ e])) id) (r.sm s)
theorem _root_.L2.DatVs.sm{K:C3}{H H':Hp}(s:Same H H'):∀{v:IF V}{d:IF PyData},DatVs K H v d->DatVs K H' v d
 | _,_,.nil=>.nil
 | _,_,.cons a r=>.cons (a.sm s) (r.sm s)
end
def RsD:Rs->PyData
 | .tree T=>.tuple [.str "tree",toD T]
 | .knot L=>.tuple [.str "knot",.list (L.map pqd)]
def uI(K:C3)(H:Hp)(t:IB)(o:Rs):Prop:=DatV K H (.ref t) (RsD o)/\(RsD o).showable=true/\(RsD o).hasDict=false/\(RsD o).depth<=200/\(RsD o).shown.length<=sizeLine
theorem sH{K:C3}{H:Hp}{t:IB}{u:V}{b W h:Int}{ks:IF Kd}{T:Tr}(ht:H t=some (.tup [.str "tree",u]))(tv:TrV H T u)(b0:0<=b)(gk:∀k∈ks,Good k)(k8:ks.length<=8)(ok:okU b ks W h T)(W6:W < 10 ^ 60)(h6:h < 10 ^ 60)(d:dT T < 64)(l:lvN T < 64):uI K H t (.tree T):=by
 have ft:Fit (RsD (.tree T)):=.tuple (.cons (.str ∅ ∅) (.cons (eQ b0 gk k8 T ok W6 h6) .nil));have w1:=kL T;have w2:=kJ T;obtain⟨f1,f2,f3⟩:=ft.ok (by
  have w3:wt (.str "tree")=5:=∅
  show wt (.str "tree")+(wt (toD T)+0)+1<=100000;omega)
 apply%[.tup (GV ht) (.cons (.str _) (.cons (TrV.dat T tv) .nil)),f1,f2,?_|f3];show max 0 (max (toD T).depth 0)+1<=200;rw[(iQ T).2];omega
theorem sI{K:C3}{H:Hp}{t kl:IB}{ks:IF Kd}{as:IF IB}(ht:H t=some (.tup [.str "knot",.ref kl]))(hl:H kl=↥(as.map V.ref))(hz:∀a∈as,PzP ks H a)(l:as.length < 64)(pin:∀q∈as.map (qA H),Pin q):uI K H t (.knot (as.map (qA H))):=by
 have e2:(100:Int) < 10 ^ 61:=∅
 obtain⟨g1,g2⟩:=me (qs:=as.map (qA H)) λ q hq=>by obtain⟨h1,h2,h3,h4,h5⟩:=pin q hq;exact%[%[⋯|⋯],%[h2|h4]|%[h3|h5]]
 have ft:Fit (RsD (.knot (as.map (qA H)))):=.tuple (.cons (.str ∅ ∅) (.cons (.list g1) .nil));rw[GZ]at g2;obtain⟨f1,f2,f3⟩:=ft.ok (by
  have w3:wt (.str "knot")=5:=∅
  show wt (.str "knot")+(wts ((as.map (qA H)).map pqd)+1+0)+1<=100000;omega)
 apply%[.tup (GV ht) (.cons (.str _) (.cons (.lst (GW hl) (KnF.dat hz)) .nil)),f1,f2,?_|f3];have:=iT (as.map (qA H));show max 0 (max (PyData.depthAll ((as.map (qA H)).map pqd)+1) 0)+1<=200;omega
structure TkO(K:C3)(b:Int)(ks:IF Kd)(W h:Int)(H0 H:Hp)(t:IB)(z:Str)(u:V)(ps:IF Pq)(o:Rs):Prop where
 ht:H t= ~~~[.str z,u]
 kt:KTB b (ps.map (aD ks)) z
 tr:z = "tree" -> ∃T,o=.tree T/\TrV H T u/\okU b ks W h T/\(pcT b T 0 0).Perm ps/\dT T < 64/\lvN T < 64
 kn:z = "knot" -> KnW b ks H0 ps H u
 pr:PR b (gQ ks) id 0 0 ps o
 ok:uI K H t o
theorem tO{K:C3}{b W h:Int}{ks:IF Kd}{H0 H:Hp}{t:IB}{z:Str}{u:V}{ps:IF Pq}(b0:0<=b)(gk:∀k∈ks,Good k)(k8:ks.length<=8)(W6:W < 10 ^ 60)(h6:h < 10 ^ 60)(l40:ps.length<=40)(pin:∀q∈ps,Pin q)(hk:∀q∈ps,∃k,ks[q.k]?=some k)
  (ht:H t= ~~~[.str z,u]) (kt:KTB b (ps.map (aD ks)) z) (tr:z = "tree" -> ∃T,TrV H T u/\okU b ks W h T/\(pcT b T 0 0).Perm ps/\dT T < 64/\lvN T < 64/\PR b (gQ ks) id 0 0 ps (.tree T)) (kn:z = "knot" -> KnW b ks H0 ps H u):∃o,TkO K b ks W h H0 H t z u ps o:=by
 rcases kt.word with hz | hz
 ·subst hz;obtain⟨kl,as',e,n,hl,hp,pr⟩:=id (kn rfl);subst e;have ll:=pr.knot_of rfl;obtain⟨_,_,M,sM,pL,_⟩:=ll;have ll:=pL.length_eq;have sl:=sM.length_le;rw[GZ,GZ]at ll;exact%[.knot (as'.map (qA H)),ht,kt,λ e=>absurd e ∅,kn,pr|sI ht hl hp ⋯ λ q hq=>pin q (sM.subset (by have:=pL.mem_iff.mp hq;rwa [List.map_id]at this))]
 ·subst hz;obtain⟨T,tv,ok,pm,d,l,pr⟩:=tr rfl;exact%[.tree T,ht,kt,λ _=>%[T,Z,tv,ok,pm,d|l],λ e=>absurd e ∅,pr|sH ht tv b0 gk k8 ok W6 h6 d l]
section
variable{P:F5}{w:F7}{K:C3}{mg:Str->ID F8}{base:Heap}
inductive spBothK(vs:IF V)(H:Hp)(Q:VK)(E_:XK):Prop
|mk(p t kl pl:IB)(b W h:Int)(ks:IF Kd)(as:IF IB)(qs:IF Pq)(_:vs=[.ref p,.ref t,.int W,.int h,.ref pl])(_:PotC H p)(_:LS H t b ks kl)(_:kl≠p)(_:1<=ks.length)(_:ks.length<=8)(_:0<=b)(_:b < 10 ^ 58)(_:(∀k∈ks,Good k))(_:1<=W)(_:W < 10 ^ 60)(_:1<=h)(_:h < 10 ^ 60)(_:pl≠p)(_:H pl=↥(as.map V.ref))(_:Paired (PqT ks H) (as.map V.ref) qs)(_:as.length<=40)(_:Lay ks W h qs)(_:∀H',PotC H' p->But p H H'->Q (.bl true) H')
theorem scboth:FnScope ["_law_pot_here","_law_shop_here","_law_wide","_law_high","_law_pieces_here","_law_other","_law_one","_law_handed_here","_law_made","_law_found","_law_kept"] ["_law_pot_here","_law_shop_here","_law_wide","_law_high","_law_pieces_here"] (defScope di):=%[Z,Z,Z,∅,Z,∅|∅]
theorem sJ{f C:IB}{fd:F6}(F:Fun K "_law_both_right" "_law_both_right" di f fd)(B:Blt mg)(DJ:Dn P w K mg base "_law_judged" ["_law_pot_here","_law_shop_here","_law_wide","_law_high","_law_pieces_here"] 7 (spJudK))(DD:Dn P w K mg base "_law_take" ["_law_pot_here","_law_many"] 1 (spTake))(DHa:Dn P w K mg base "_law_handed" ["_law_pot_here","_law_pieces_here"] 2 (spHand))(DTK:Dn P w K mg base "tree_or_knot" ["shop","wide","high","laying"] 70 (spTKz C))(DRi:Dn P w K mg base "_law_right" ["_law_shop_here","_law_wide","_law_high","_law_pieces_here","_law_found"] 69 (spRightK))(DSh:Kn P w K mg base "Shop" C ["self","blade","kinds"] 3 (iD C)):FnOk P w K mg base CX0 71 f fd ["_law_pot_here","_law_shop_here","_law_wide","_law_high","_law_pieces_here"] (spBothK):=by
 apply F.ok scboth (λ vs H Q E h=>?_) (λ cdv A outer s H vs Q E hr h=>?_)
 ·obtain⟨p,t,kl,pl,b,W,h1,ks,as,qs,rfl,_⟩:=h
  rfl
 obtain⟨p,t,kl,pl,b,W,h1,ks,as,qs,rfl,pt,sh,nk,k1,k8,b0,b58,gk,w1,w60,h1',h60,npl,hpl,pz,a40,lay,q⟩:=h;have nd:=scboth.nd;have hg:=hr.gd;have hu2:=Pc.Room.units220 hr ∅;apply%[_,(((@aO _ _ _ _ (@aN _ _ _ (DJ∩((pv 0)^^^((pv 1)^^^((pv 2)^^^((pv 3)^^^((pv 4)^^^ad)))))) (by intro _;rfl)))<|>(bd⁻¹)<|>aE)<<<((5∣(@aL _ _ _ _ _ (((@aS _ _ _ _ (ae^^^((((pv 1)&&&ix_tup&&&ae)|||aK|||ae)^^^((DD∩((pv 0)^^^((((pv 1)&&&ix_tup&&&ae)|||aK|||ae)^^^ad)))^^^ad))))&&&ix_list&&&(DD∩((pv 0)^^^(ae^^^ad))))^^^(((pv 1)&&&ix_tup&&&ae)^^^ad))))<<<((@bp _ _ _ _ _ _ _ _ E2 Z (oJ (@aL _ _ _ _ _ ((pv 1)^^^((pv 5)^^^((pv 1)^^^ad))))) (aj (i:=6) nd Z (Or.inl Z)) ((7∣(DHa∩((pv 0)^^^((pv 4)^^^ad))))<<<((8∣(tE DSh (hr.mono ∅) Z (((pv 6)&&&ix_tup&&&ae)^^^(((pv 6)&&&ix_tup&&&ae)^^^ad))))<<<((9∣(DTK∩((pv 8)^^^((pv 2)^^^((pv 3)^^^((pv 7)^^^ad))))))<<<(((@aO _ _ _ _ (@aN _ _ _ (DRi∩((pv 6)^^^((pv 2)^^^((pv 3)^^^((pv 4)^^^((pv 9)^^^ad)))))) (by intro _;rfl)))<|>(bd⁻¹)<|>aE)<<<((10∣(@aA _ _ _ _ _ _ _ _ _ (gv hg hu2) Z B.repr PyProof.Rows.boot_repr ((pv 9)^^^ad) ∅ ∅ Z Z))<<<(((((pv 9)&&&ix_tup&&&ae)<*>bF<*>cD)<|>(@ah _ _ _ (@bK _ _ _ _ (uo F3 PySem.F.slot_list_clear PySem.F.type_list_clear oZ ((pv 9)&&&ix_tup&&&ae)) Z))<|>aE)>>>(((@aA _ _ _ _ _ _ _ _ _ (gv hg hu2) Z B.repr PyProof.Rows.boot_repr ((DTK∩((pv 8)^^^((pv 2)^^^((pv 3)^^^((pv 7)^^^ad)))))^^^ad) ∅ ∅ Z Z)<*>fi<*>(pv 10))<|>(bd⁻¹)<|>aE))))))) (by intro _;rfl))<<<(bd⁻¹))))|?_];have sz:(2000:Nat) < sizeLine:=∅
 have e58:(10:Int) ^ 58+2 < 10 ^ 60:=∅
 have e61:(10:Int) ^ 60 < 10 ^ 61:=∅
 have al:=E1 pz;have al0:=al;rw[GZ]at al;have hk:∀q∈qs,∃k,ks[q.k]?=some k:=λ q hq=>by obtain⟨k,hk,_⟩:=cA (lay.1 q hq).1;exact%[k|hk]
 have pin:∀q∈qs,Pin q:=λ q hq=>uH k8 gk ⋯ ⋯ (lay.1 q hq);apply ai (λ σ' H'=>σ'=[↑p,↑t,⇑W,⇑h1,↑pl,none,none,none,none,none,none]/\PotC H' p/\But p H H') (λ R hR=>?_) ?_
 ·exact%[_,Z,_,Z,_,Z,_,Z,_,Z,p,t,kl,pl,b,W,h1,ks,_,qs,Z,pt,sh,nk,k1,k8,b0,gk,w1,h1',npl,hpl,pz,by rw[GZ];omega,lay|λ H1 pt1 b1=>%[_,Z|aU (hR _ _ %[Z,pt1|b1])]]
 rintro _ H1 ⟨rfl,pt1,b1⟩;apply ai (λ σ' H'=>∃(t2:IB)(b2:Int),σ'=[↑p,↑t,⇑W,⇑h1,↑pl,↑t2,none,none,none,none,none]/\LS H' t2 b2 ks kl/\0<=b2/\PotC H' p/\But p H H') (λ R hR=>?_) ?_
 ·obtain⟨rs,q1,q2,q3⟩:=id (sh.but nk pt b1);apply%[_,Z,t,_,0,_,Z,Z,GV q1,Z,_,_,Z,Z,_,Z,_,Z,t,_,0,_,Z,Z,GV q1,Z,_,_,Z,Z,p,b+1,Z,pt1,⋯,⋯|λ r1 H2 r10 r11 pt2 b2=>%[zS3|λ l hl=>?_]];obtain⟨H3,e3,k3,n3,s3,b3,pt3⟩:=bm (o:=.lst [.int 0,.int (b+1),.int r1]) (b1.trans b2) pt2 hl;rw[show upd H2 l _=H3 from e3];apply%[_,Z,p,3,Z,pt3,∅,∅|λ r H4 r0 r1' pt4 b4=>?_];have hl4:=b4 _ _ n3 k3;obtain⟨x,hx,x0⟩:∃x:Int,atI [V.int 0,V.int (b+1),V.int r1] r=⇑x/\0<=x:=by
   have:r=0\/r=1\/r=2:=⋯
   rcases this with rfl | rfl | rfl
   ·exact%[0,Z|∅]
   ·exact%[b+1,Z|⋯]
   ·exact%[r1,Z|r10]
  have b4':=b3.trans b4;have q14:=bI (b2.trans ((Same.but s3).trans b4)) pt1 q1;apply%[l,_,_,_,Z,Z,GW hl4,hx,_,Z,t,_,1,_,Z,Z,GV q14,Z,zS2|λ t2 ht2=>?_];obtain⟨H5,e5,k5,n5,s5,b5,pt5⟩:=bm (o:=.tup [.int x,.ref kl]) b4' pt4 ht2;rw[show upd H4 t2 _=H5 from e5];obtain⟨rs',q1',q2',q3'⟩:=sh.but nk pt b5;exact hR _ _ %[t2,x,rfl,%[rs',k5,q2'|q3'],x0,pt5|b5]
 clear pt1 b1;clear H1;rintro _ H1 ⟨t2,b2,rfl,sh2,b20,pt1,b1⟩;apply ai (λ σ' H'=>PotC H' p/\But p H H') (λ R hR=>?_) (λ _ H' h=>q H' h.1 h.2);apply%[_,Z,_,Z,_,Z,zS3|λ tt htt=>?_];obtain⟨H2,e2,k2,n2,s2,b2,pt2⟩:=bm (o:=.tup [.ref t,.ref t2,.ref t]) b1 pt1 htt;rw[show upd H1 tt _=H2 from e2];apply%[tt,Z,%[_|GV k2]|lj (xs:=[.ref t,.ref t2,.ref t]) (λ j σ' H'=>(∃v6 v7 v8 v9 v10,σ'=[↑p,↑t,⇑W,⇑h1,↑pl,↑t2,v6,v7,v8,v9,v10])/\PotC H' p/\But p H2 H') %[%[_,_,_,_,_|Z],pt2|But.refl'] (λ j σ H' _ h=>GV (bI h.2.2 pt2 k2)) ?_ (λ σ H' h=>hR _ _ %[h.2.1|b2.trans h.2.2])];rintro j v _ H3 hj ⟨⟨v6,v7,v8,v9,v10,rfl⟩,pt3,b23⟩;have b03:=b2.trans b23;obtain⟨t3,b3,rfl,sh3,b30⟩:∃(t3:IB)(b3:Int),v=.ref t3/\LS H3 t3 b3 ks kl/\0<=b3:=by
  have a1:=sh.but nk pt b03;have a2:=(sh2.same s2).but nk pt2 b23
  match j,hj with
  | 0,hj=>cases hj;exact%[t,b,Z,a1|b0]
  | 1,hj=>cases hj;exact%[t2,_,Z,a2|b20]
  | 2,hj=>cases hj;exact%[t,b,Z,a1|b0]
  | j+3,hj=>simp at hj
 have keepP:∀{Hx:Hp},But p H Hx->Paired (PqT ks Hx) (as.map V.ref) qs:=λ bx=>GX pz λ v q h=>h.keep λ a xs e=>bI bx pt e;apply ai (λ σ' H'=>∃(hd:IB)(zs:IF V)(ps:IF Pq),σ'=[↑p,↑t,⇑W,⇑h1,↑pl,↑t2,↑t3,↑hd,v8,v9,v10]/\hd≠p/\Sq H' hd zs/\Paired (PqI p H') zs ps/\ps.Perm qs/\LS H' t3 b3 ks kl/\PotC H' p/\But p H3 H') (λ R hR=>?_) ?_
 ·apply%[_,Z,_,Z,p,pl,_,qs,Z,pt3,npl,b03 _ _ npl hpl,GX (keepP b03) (λ v q ⟨a,e,h,_⟩=>%[a,e|h]),by rw[GZ];omega|λ hd zs ps H4 nh hz pq pm pt4 b4=>hR _ _ %[hd,zs,ps,Z,nh,hz,pq,pm,sh3.but nk pt3 b4,pt4|b4]]
 rintro _ H4 ⟨hd,zs,ps,rfl,nh,hz,pq,pm,sh4,pt4,b34⟩;apply ai (λ σ' H'=>∃x:IB,σ'=[↑p,↑t,⇑W,⇑h1,↑pl,↑t2,↑t3,↑hd,↑x,v9,v10]/\ShopAt C H' x b3 ks/\Same H4 H') (λ R hR=>?_) ?_
 ·obtain⟨rs,q1,q2,q3⟩:=id sh4;have rl:=E1 q3;apply%[_,Z,t3,_,0,_,Z,Z,GV q1,Z,_,Z,t3,_,1,_,Z,Z,GV q1,Z|λ x dx hx hdx ne0=>?_];have sm:Same H4 (upd (upd H4 dx (.own x)) x (.ins C dx [])):=ic hx hdx;apply%[x,dx,kl,b3,rs,ks,Z,upd_same,b30,.inl (sm _ _ q2),GX (Tups.keep (λ c xs e=>sm _ _ e) q3) (λ v k h=>.inl h),gk,⋯,⋯|λ Hb Sb kb=>%[Z|?_]];exact hR _ _ %[x,rfl,Sb|λ c o e=>kb c o (aw e hx) (sm _ _ e)]
 rintro _ H5 ⟨x,rfl,S5,s45⟩;have pl':=pm.length_eq;have zl:=E1 pq;have layp:=lay.perm pm.symm;have pinp:∀q∈ps,Pin q:=λ q hq=>pin q (pm.mem_iff.mp hq);have hkp:∀q∈ps,∃k,ks[q.k]?=some k:=λ q hq=>hk q (pm.mem_iff.mp hq);have pq5:Paired (PqI p H5) zs ps:=GX pq λ v q h=>h.same s45;apply ai (λ σ' H'=>∃(fo:IB)(z:Str)(u:V)(o:Rs),σ'=[↑p,↑t,⇑W,⇑h1,↑pl,↑t2,↑t3,↑hd,↑x,↑fo,v10]/\TkO K b3 ks W h1 H5 H' fo z u ps o/\Same H5 H') (λ R hR=>?_) ?_
 ·apply%[_,Z,_,Z,_,Z,_,Z,p,x,hd,b3,W,h1,ks,zs,ps,Z,S5,b30,gk,w1,h1',nh,hz.same s45,pq5,⋯,layp|λ fo z u H6 hfo kt tr kn s6=>?_];obtain⟨o,ho⟩:=tO (K:=K) b30 gk k8 w60 h60 ⋯ pinp hkp hfo kt tr kn;exact hR _ _ %[fo,z,u,o,rfl,ho|s6]
 rintro _ H6 ⟨fo,z,u,o,rfl,ho,s56⟩;have s46:=s45.trans s56;have b36:But p H3 H6:=λ c o n e=>s46 _ _ (b34 _ _ n e);have b06:=b03.trans b36;apply ai (λ σ' H'=>σ'=[↑p,↑t,⇑W,⇑h1,↑pl,↑t2,↑t3,↑hd,↑x,↑fo,v10]/\Same H6 H') (λ R hR=>?_) ?_
 ·apply%[_,Z,_,Z,_,Z,_,Z,_,Z,t3,kl,pl,fo,b3,W,h1,ks,as,qs,z,u,Z,sh4.same s46,k8,b30,gk,b06 _ _ npl hpl,keepP b06,⋯,pin,ho.ht,?_,?_,?_|λ H7 s7=>%[_,Z|aU (hR _ _ %[Z|s7])]]
  ·exact ho.kt.imp (λ h=>%[h.1|h.2.perm (pm.map _)]) (λ h=>%[h.1|λ k=>h.2 (k.perm (pm.symm.map _))])
  ·intro e;obtain⟨T,_,tv,ok,pmT,d,l⟩:=ho.tr e;exact%[T,tv,ok,d,l|pmT.trans pm]
  ·exactλ e=>(ho.kn e).kno pm ⋯ hk
 rintro _ H7 ⟨rfl,s67⟩;obtain⟨d1,d2,d3,d4,d5⟩:=id ho.ok;apply ai (λ σ' H'=>σ'=[↑p,↑t,⇑W,⇑h1,↑pl,↑t2,↑t3,↑hd,↑x,↑fo,some (.str (RsD o).shown)]/\H7=H') (λ R hR=>?_) ?_
 ·exact%[_,Z,fo,RsD o,Z,d1.sm s67,d2,d3,d4,d5|hR _ _ %[Z|Z]]
 rintro _ _ ⟨rfl,rfl⟩;have hfo7:=s67 _ _ ho.ht;have s57:=s56.trans s67;apply ai (λ σ' H'=>σ'=[↑p,↑t,⇑W,⇑h1,↑pl,↑t2,↑t3,↑hd,↑x,↑fo,some (.str (RsD o).shown)]/\Same H5 H') (λ R hR=>?_) ?_
 ·apply%[_,Z,fo,_,0,_,Z,Z,GV hfo7,Z,Z,_,Z|?_];rcases ho.kt.word with hz' | hz'
  ·obtain⟨kl',as',e,n,hl,_⟩:=ho.kn hz';subst hz';subst e;have hl7:=s67 _ _ hl;apply fu ∅ %[_,rfl,fo,_,1,_,rfl,rfl,GV hfo7,rfl,.inl %[rfl,_|GW hl7],kl',_,rfl,rfl,hl7|hR _ _ %[rfl|λ c oo e=>?_]];rw[aG (aw e n)];exact s57 _ _ e
  ·subst hz';exact dk ∅ (hR _ _ %[rfl|s57])
 rintro _ H8 ⟨rfl,s58⟩;have s48:=s45.trans s58;apply%[_,Z,_,Z,_,Z,_,Z,p,x,hd,b3,W,h1,ks,zs,ps,Z,cV s58 S5,b30,gk,w1,h1',nh,hz.same s48,GX pq (λ v q h=>h.same s48),⋯,layp|λ fo2 z2 u2 H9 hfo2 kt2 tr2 kn2 s89=>?_];obtain⟨o2,ho2⟩:=tO (K:=K) b30 gk k8 w60 h60 ⋯ pinp hkp hfo2 kt2 tr2 kn2;have eo:o2=o:=ho2.pr.uniq ho.pr;subst eo;obtain⟨g1,g2,g3,g4,g5⟩:=ho2.ok;have s49:=s48.trans s89;apply%[fo2,RsD o2,Z,g1,g2,g3,g4,g5,_,Z,Z,_,Z|?_];apply dk (by rw[IL rfl];rfl) %[%[_,_,_,_,_|rfl],pt4.same s49|λ c oo n e=>s49 _ _ (b34 _ _ n (b23 _ _ n e))]
end
def sK(i:Nat)(c:Bool)(f g:Int)(m:Nat)(j:Nat):Pq:=%[i,c,f * ((j % m:Nat):Int)|g * ((j / m:Nat):Int)]
theorem fh{a b:Int}(h1:0<=a)(h2:0<=b):0<=a * b:=Int.mul_nonneg h1 h2
theorem iV{a:Int}{x y:Nat}(h1:0<=a)(h:x < y):a * (x:Int)+a<=a * (y:Int):=by have:a * ((x:Int)+1)<=a * (y:Int):=Int.mul_le_mul_of_nonneg_left ⋯ h1;rw[Int.mul_add,Int.mul_one]at this;exact this
theorem sN{ks:IF Kd}{i:Nat}{c:Bool}{k:Kd}{f g:Int}{m n:Nat}(hl:(i,c)∈lyK ks 0)(hk:ks[i]?=some k)(f0:0<=f)(g0:0<=g)(h1:sd1 k c<=f)(h2:sd2 k c<=g)(s1:0<=sd1 k c)(s2:0<=sd2 k c)(m1:1<=m)(hn:n<=40):Lay ks (f * (m:Int)+sd1 k c) (g * ((1+40 / m:Nat):Int)+sd2 k c) ((List.range n).map (sK i c f g m)):=by
 have bx:∀j,aD ks (sK i c f g m j)=%[f * ((j % m:Nat):Int),g * ((j / m:Nat):Int),f * ((j % m:Nat):Int)+sd1 k c|g * ((j / m:Nat):Int)+sd2 k c]:=λ j=>by rw[aW (k:=k) hk];rfl
 apply%[λ q hq=>?_|?_]
 ·obtain⟨j,hj,rfl⟩:=G7.mp hq;have hj:=List.mem_range.mp hj;have a1:j % m < m:=Nat.mod_lt _ m1;have a2:j / m < 1+40 / m:=by have:=Nat.div_le_div_right (c:=m) (show j<=40 by omega);omega
  apply%[hl,fh f0 (HY _),fh g0 (HY _),?_|?_]
  ·rw[bx];have:=iV f0 a1;show f * ((j % m:Nat):Int)+sd1 k c<=_;omega
  ·rw[bx];have:=iV g0 a2;show g * ((j / m:Nat):Int)+sd2 k c<=_;omega
 ·rw[List.pairwise_map];apply List.pairwise_lt_range.imp λ {a b} ab=>?_;rw[bx,bx];have da:=Nat.div_add_mod a m;have db:=Nat.div_add_mod b m;have hd:a / m<=b / m:=Nat.div_le_div_right (C6 ab);unfold apB
  by_cases e:a / m=b / m
  ·have:a % m < b % m:=by rw[e]at da;omega
   have:=iV f0 this;rw[IL (show f * ((a % m:Nat):Int)+sd1 k c<=f * ((b % m:Nat):Int)by omega)]
   rfl
  ·have:=iV g0 (show a / m < b / m by omega);rw[IL (show g * ((a / m:Nat):Int)+sd2 k c<=g * ((b / m:Nat):Int)by omega)];simp
section
variable{P:F5}{w:F7}{K:C3}{mg:Str->ID F8}{base:Heap}
inductive spRows(vs:IF V)(H:Hp)(Q:VK)(E_:XK):Prop
|mk(p t kl:IB)(b u:Int)(ks:IF Kd)(_:vs=[.ref p,.ref t])(_:PotC H p)(_:LS H t b ks kl)(_:kl≠p)(_:1<=ks.length)(_:ks.length<=8)(_:(∀k∈ks,ib u k))(_:1<=u)(_:u < 2 * 10 ^ 56)(_:0<=b)(_:b<=2 * u)(_:∀(r l:IB)(W h:Int)(as:IF IB)(qs:IF Pq)(H':Hp),l≠p->H' r= ~~~[.int W,.int h,.ref l]->H' l=↥(as.map V.ref)->Paired (PqT ks H') (as.map V.ref) qs->as.length<=40->Lay ks W h qs->1<=W->W < 10 ^ 60->1<=h->h < 10 ^ 60->PotC H' p->But p H H'->Q (.ref r) H')
theorem scrows:FnScope ["_law_pot_here","_law_shop_here","_law_kind","_law_turned","_law_own","_law_many","_law_far","_law_found","_law_k"] ["_law_pot_here","_law_shop_here"] (defScope lT):=%[Z,Z,Z,∅,Z,∅|∅]
theorem sO{f:IB}{fd:F6}(F:Fun K "_law_rows" "_law_rows" lT f fd)(B:Blt mg)(DD:Dn P w K mg base "_law_take" ["_law_pot_here","_law_many"] 1 (spTake))(DLy:Dn P w K mg base "_law_lyings" ["_law_shop_here"] 1 (spLyingsC))(DSd:Dn P w K mg base "_law_sides" ["_law_shop_here","_law_kind","_law_turned"] 1 (spSidesC)):FnOk P w K mg base CX0 4 f fd ["_law_pot_here","_law_shop_here"] (spRows):=by
 apply F.ok scrows (λ vs H Q E h=>?_) (λ cdv A outer s H vs Q E hr h=>?_)
 ·obtain⟨p,t,kl,b,u,ks,rfl,_⟩:=h
  rfl
 obtain⟨p,t,kl,b,u,ks,rfl,pt,sh,nk,k1,k8,gk,u1,u2,b0,b1u,q⟩:=h;have nd:=scrows.nd;apply%[_,((@bz _ _ _ _ _ _ ((DLy∩((pv 1)^^^ad))&&&ix_list&&&(DD∩((pv 0)^^^((@aA _ _ _ _ _ _ _ _ _ aJ Z B.len IR ((DLy∩((pv 1)^^^ad))^^^ad) ∅ ∅ Z Z)^^^ad)))) (bc Z (2•(3•aQ))) Z Z Z)<<<((4∣(DSd∩((pv 1)^^^((pv 2)^^^((pv 3)^^^ad)))))<<<((5∣(ae|||aK|||(DD∩((pv 0)^^^(ae^^^ad)))))<<<((6∣(@aS _ _ _ _ ((((pv 4)&&&ix_tup&&&ae)|||aK|||((pv 1)&&&ix_tup&&&ae))^^^(((((pv 4)&&&ix_tup&&&ae)|||aK|||((pv 1)&&&ix_tup&&&ae))|||aK|||((@aS _ _ _ _ (ae^^^(ae^^^(ae^^^ad))))&&&ix_list&&&(DD∩((pv 0)^^^(ae^^^ad)))))^^^ad))))<<<(((PW.pt (dX ((DD∩((pv 0)^^^(ae^^^ad)))<*>bF<*>ae) (cW (((pv 1)&&&ix_tup&&&ae)<*>fR<*>ae))))<|>(@ah _ _ _ (6∣(@aS _ _ _ _ ((((pv 6)&&&ix_list&&&ae)|||bQ|||ae)^^^((((pv 6)&&&ix_list&&&ae)|||bQ|||ae)^^^ad)))))<|>aE)<<<((7∣(@aS _ _ _ _ ad))<<<((@bp _ _ _ _ _ _ _ _ E2 Z (bY Z B.range ((ae|||aK|||(DD∩((pv 0)^^^(ae^^^ad))))^^^ad)) (aj (i:=8) nd Z (Or.inl Z)) (@ah _ _ _ (@bK _ _ _ _ (@dQ _ _ _ _ _ _ _ _ _ _ _ _ F3 PySem.F.slot_list_append PySem.F.type_list_append bM (pv 7) ((@aL _ _ _ _ _ ((pv 2)^^^((pv 3)^^^((((pv 6)&&&ix_list&&&ae)|||ce|||((pv 8)|||eS|||(pv 5)))^^^((((pv 6)&&&ix_list&&&ae)|||ce|||((pv 8)|||eC|||(pv 5)))^^^ad)))))^^^ad) Z Z Z Z Z) Z)) (by intro _;rfl))<<<((@aL _ _ _ _ _ (((((pv 6)&&&ix_list&&&ae)|||ce|||(pv 5))|||aK|||((pv 4)&&&ix_tup&&&ae))^^^(((((pv 6)&&&ix_list&&&ae)|||ce|||(ae|||aK|||(ae|||eC|||(pv 5))))|||aK|||((pv 4)&&&ix_tup&&&ae))^^^((pv 7)^^^ad))))⁻¹))))))))|?_];have sz:(2000:Nat) < sizeLine:=∅
 have e60:10 ^ 58+10 < (10:Int) ^ 60:=∅
 have e61:100 * (20 * (2 * 10 ^ 56)) < (10:Int) ^ 60:=∅
 have ly1:1<=(lyK ks 0).length:=by
  cases ks with
  | nil=>exact absurd k1 (by simp)
  | cons k r=>exact Nat.succ_le_of_lt (Nat.zero_lt_succ _)
 have ly16:(lyK ks 0).length<=16:=by have:=eF ks 0;omega
 have gk':∀k∈ks,Good k:=λ k hk=>(gk k hk).1;apply ai (λ σ' H'=>∃q0:Nat×Bool,σ'=[↑p,↑t,⇑q0.1,some (.bl q0.2),none,none,none,none,none]/\q0∈lyK ks 0/\PotC H' p/\But p H H') (λ R hR=>?_) ?_
 ·apply%[_,Z,t,kl,b,ks,Z,sh,k8|λ l1 u1 H1 hl1 hl10 pl1 s1=>%[_,Z,_,Z,t,kl,b,ks,Z,sh.same s1,k8|λ l2 u2 H2 hl2 hl20 pl2 s2=>?_]];have px2:=(pt.same s1).same s2;have en1:=E1 pl1;have en2:=E1 pl2;apply%[l2,_,Z,.inl (GW hl2),p,_,Z,px2,⋯,⋯|λ r H3 r0 r1 px3 b3=>?_];obtain⟨v,hv⟩:∃v,u1[r.toNat]?=some v:=%[_|E9 (show r.toNat < u1.length by omega)]
  obtain⟨q0,hq0,aq,rfl,haq⟩:=GY pl1 hv;have n1:l1≠p:=Ne.symm (pt.ne hl10);have s12:=s1.trans s2;exact%[l1,_,_,_,Z,Z,GW (b3 _ _ n1 (s2 _ _ hl1)),cy r0 hv,aq,_,Z,GV (bI b3 px2 (s2 _ _ haq)),Z,_,_,Z,_,_,Z,Z|hR _ _ %[q0,Z,B4 hq0,px3|λ c o n e=>b3 _ _ n (s12 _ _ e)]]
 rintro _ H1 ⟨q0,rfl,hly,pt1,b1⟩;obtain⟨_,kk,hkk,_⟩:=dD hly;have hkk:ks[q0.1]?=some kk:=by simpa using hkk
 obtain⟨gg,gw,gh⟩:=gk kk (B4 hkk);have g1:=gg.w;have g2:=gg.h;obtain⟨x1,hx1⟩:∃x,x=sd1 kk q0.2:=%[_|Z]
 obtain⟨x2,hx2⟩:∃x,x=sd2 kk q0.2:=%[_|Z]
 have s1b:1<=x1/\x1<=6 * u:=by rw[hx1];unfold sd1;split <;> omega
 have s2b:1<=x2/\x2<=6 * u:=by rw[hx2];unfold sd2;split <;> omega
 have sh1:=sh.but nk pt b1;apply ai (λ σ' H'=>∃ow:IB,σ'=[↑p,↑t,⇑q0.1,some (.bl q0.2),↑ow,none,none,none,none]/\H' ow= ~~~[.int x1,.int x2]/\PotC H' p/\But p H H') (λ R hR=>?_) ?_
 ·exact%[_,Z,_,Z,_,Z,t,kl,b,ks,q0.1,q0.2,kk,Z,sh1,hkk|λ r H3 h3 s3=>hR _ _ %[r,Z,by rw[hx1,hx2];exact h3,pt1.same s3|λ c o n e=>s3 _ _ (b1 _ _ n e)]]
 clear pt1 b1 sh1;clear H1;rintro _ H1 ⟨ow,rfl,how,pt1,b1⟩;apply ai (λ σ' H'=>∃m:Nat,σ'=[↑p,↑t,⇑q0.1,some (.bl q0.2),↑ow,⇑(m:Int),none,none,none]/\3<=m/\m<=8/\H' ow= ~~~[.int x1,.int x2]/\PotC H' p/\But p H H') (λ R hR=>?_) ?_
 ·exact%[_,Z,p,6,Z,pt1,∅,∅|λ r H2 r0 r1 pt2 b2=>%[_,_,Z,Z|hR _ _ %[(3+r).toNat,by rw[Int.toNat_of_nonneg ⋯];rfl,⋯,⋯,bI b2 pt1 how,pt2|b1.trans b2]]]
 clear pt1 b1 how;clear H1;rintro _ H1 ⟨m,rfl,m3,m8,how,pt1,b1⟩;apply ai (λ σ' H'=>∃(fa:IB)(f g:Int),σ'=[↑p,↑t,⇑q0.1,some (.bl q0.2),↑ow,⇑(m:Int),↑fa,none,none]/\fa≠p/\H' fa=↥[.int f,.int g]/\x1+b<=f/\f<=x1+b/\x2+b<=g/\g<=x2+b+1/\H' ow= ~~~[.int x1,.int x2]/\PotC H' p/\But p H H') (λ R hR=>?_) ?_
 ·obtain⟨rs,q1,_⟩:=sh.but nk pt b1;apply%[_,Z,ow,_,0,_,Z,Z,GV how,Z,_,Z,t,_,0,_,Z,Z,GV q1,Z,_,_,Z,Z,_,Z,ow,_,1,_,Z,Z,GV how,Z,_,Z,t,_,0,_,Z,Z,GV q1,Z,_,_,Z,Z,zS3|λ l hl=>?_];obtain⟨H2,e2,k2,n2,s2,b2,pt2⟩:=bm (o:=.lst [.int 0,.int 1,.int 0]) b1 pt1 hl;rw[show upd H1 l _=H2 from e2];apply%[_,Z,p,3,Z,pt2,∅,∅|λ r H3 r0 r1 pt3 b3=>?_];have hl3:=b3 _ _ n2 k2;obtain⟨x,hx,y0,y1⟩:∃x:Int,atI [V.int 0,V.int 1,V.int 0] r=⇑x/\0<=x/\x<=1:=by
   have:r=0\/r=1\/r=2:=⋯
   rcases this with rfl | rfl | rfl
   ·exact%[0,Z,∅|∅]
   ·exact%[1,Z,∅|∅]
   ·exact%[0,Z,∅|∅]
  apply%[l,_,_,_,Z,Z,GW hl3,hx,_,_,Z,Z,zS2|λ fa hfa=>?_];obtain⟨H4,e4,k4,n4,s4,b4,pt4⟩:=bm (o:=.lst [.int (x1+b),.int (x2+b+x)]) (b2.trans b3) pt3 hfa;rw[show upd H3 fa _=H4 from e4];exact hR _ _ %[fa,_,_,rfl,n4,k4,E3 _,E3 _,⋯,⋯,s4 _ _ (bI b3 pt2 (s2 _ _ how)),pt4|b4]
 clear pt1 b1 how;clear H1;rintro _ H1 ⟨fa,f,g,rfl,nfa,hfa,f1,f2,g1',g2',how,pt1,b1⟩;apply ai (λ σ' H'=>∃(fa:IB)(f g:Int),σ'=[↑p,↑t,⇑q0.1,some (.bl q0.2),↑ow,⇑(m:Int),↑fa,none,none]/\fa≠p/\H' fa=↥[.int f,.int g]/\x1<=f/\f<=x1+b/\x2<=g/\g<=x2+b+1/\H' ow= ~~~[.int x1,.int x2]/\PotC H' p/\But p H H') (λ R hR=>?_) ?_
 ·apply%[_,Z,p,4,Z,pt1,∅,∅|λ r H2 r0 r1 pt2 b2=>%[Z,_,Z|?_]];have hfa2:=b2 _ _ nfa hfa;have how2:=bI b2 pt1 how;have b12:=b1.trans b2;have keep:R [↑p,↑t,⇑q0.1,some (.bl q0.2),↑ow,⇑(m:Int),↑fa,none,none] H2:=hR _ _ %[fa,f,g,rfl,nfa,hfa2,⋯,⋯,⋯,⋯,how2,pt2|b12];apply bv (λ c1=>?_) (λ c1=>keep);obtain⟨rs,q1,_⟩:=sh.but nk pt b12;apply%[_,Z,t,_,0,_,Z,Z,GV q1,Z,_,_,Z,Z,_,Z|?_];apply bv (λ c2=>?_) (λ c2=>keep);have c2:0 < b:=B9 c2;apply%[_,Z,fa,_,0,_,Z,Z,GW hfa2,Z,_,_,Z,Z,_,Z,fa,_,1,_,Z,Z,GW hfa2,Z,_,_,Z,Z,zS2|λ fb hfb=>?_];obtain⟨H3,e3,k3,n3,s3,b3,pt3⟩:=bm (o:=.lst [.int (f - 1),.int (g - 1)]) b12 pt2 hfb;rw[show upd H2 fb _=H3 from e3];exact hR _ _ %[fb,_,_,rfl,n3,k3,⋯,⋯,⋯,⋯,s3 _ _ how2,pt3|b3]
 clear pt1 b1 how hfa;clear H1;rintro _ H1 ⟨fa2,f3,g3,rfl,nfa2,hfa,f4,f5,g4,g5,how,pt1,b1⟩;apply ai (λ σ' H'=>∃fo:IB,σ'=[↑p,↑t,⇑q0.1,some (.bl q0.2),↑ow,⇑(m:Int),↑fa2,↑fo,none]/\fo≠p/\H1 fo=none/\H' fo=↥[]/\PotC H' p/\But p H1 H') (λ R hR=>?_) ?_
 ·apply%[∅|λ fo hfo=>?_];obtain⟨H2,e2,k2,n2,s2,b2,pt2⟩:=bm (o:=.lst []) But.refl' pt1 hfo;rw[show upd H1 fo _=H2 from e2];exact hR _ _ %[fo,rfl,n2,hfo,k2,pt2|b2]
 rintro _ H2 ⟨fo,rfl,nfo,hfo1,hfo2,pt2,b12⟩;have hfo0:H fo=none:=(b1.freeC pt1 hfo1).2;have hfa2:=b12 _ _ nfa2 hfa;have how2:=bI b12 pt1 how;have nff:fa2≠fo:=aw hfa hfo1;apply ai (λ σ' H'=>(∃v8,σ'=[↑p,↑t,⇑q0.1,some (.bl q0.2),↑ow,⇑(m:Int),↑fa2,↑fo,v8])/\∃(as:IF IB)(n:Nat),n<=40/\H' fo=↥(as.map V.ref)/\Paired (PqT ks H') (as.map V.ref) ((List.range n).map (sK q0.1 q0.2 f3 g3 m))/\H' fa2=↥[.int f3,.int g3]/\H' ow= ~~~[.int x1,.int x2]/\PotC H' p/\But p H H') (λ R hR=>?_) ?_
 ·apply%[_,Z,p,8,Z,pt2,∅,∅|λ r H3 r0 r1 pt3 b3=>%[_,_,Z,Z,_,Z,⋯,⋯|?_]];have hn:(33+r).toNat<=40:=⋯
  generalize(33+r).toNat=n at hn;have b13:=b12.trans b3;apply cB (n:=n) (λ i σ' H'=>(∃v8,σ'=[↑p,↑t,⇑q0.1,some (.bl q0.2),↑ow,⇑(m:Int),↑fa2,↑fo,v8])/\∃as:IF IB,H' fo=↥(as.map V.ref)/\Paired (PqT ks H') (as.map V.ref) ((List.range i).map (sK q0.1 q0.2 f3 g3 m))/\But fo H3 H') %[%[_|rfl],[],b3 _ _ nfo hfo2,.nil|But.refl'] ?_ ?_
  ·rintro i _ H4 hi ⟨⟨v8,rfl⟩,as,hf4,pz4,b34⟩;have al:=E1 pz4;rw[GZ,GZ,List.length_range]at al;have hfa4:=b34 _ _ nff (b3 _ _ nfa2 hfa2);have mm0:(0:Int) < (m:Int):=⋯
   have e1:(0+(i:Int)) % (m:Int)=((i % m:Nat):Int):=by rw[Int.zero_add];exact(Int.natCast_emod i m).symm
   have e2:(0+(i:Int)) / (m:Int)=((i / m:Nat):Int):=by rw[Int.zero_add];exact(Int.natCast_ediv i m).symm
   have a1:i % m < m:=Nat.mod_lt _ ⋯;have a2:((i / m:Nat):Int)<=(i:Int):=Int.ofNat_le.mpr (Nat.div_le_self _ _);have a3:(0:Int)<=((i / m:Nat):Int):=HY _;have a1:((i % m:Nat):Int) < (m:Int):=Int.ofNat_lt.mpr a1;have a4:(0:Int)<=((i % m:Nat):Int):=HY _;obtain⟨id',eid⟩:∃z,z=((i / m:Nat):Int):=%[_|Z]
   obtain⟨im,eim⟩:∃z,z=((i % m:Nat):Int):=%[_|Z]
   rw[<- eid]at a2 a3 e2;rw[<- eim]at a1 a4 e1;apply%[_,Z,.inl %[Z,_|GW hf4],_,Z,_,Z,_,Z,fa2,_,0,_,Z,Z,GW hfa4,Z,_,Z,_,Z,_,_,Z,Z,mm0,_,_,Z,Z,.inr %[by rw[e1];omega|by rw[e1];omega],_,Z,fa2,_,1,_,Z,Z,GW hfa4,Z,_,Z,_,Z,_,_,Z,Z,%[mm0|⋯],_,_,Z,Z,.inr %[by rw[e2];omega|by rw[e2];omega],zS4|λ tp htp=>?_];rw[e1,e2];obtain⟨H5,e5,k5,s5⟩:∃H',upd H4 tp (.tup [.int q0.1,.bl q0.2,.int (f3 * im),.int (g3 * id')])=H'/\H' tp= ~~~[.int q0.1,.bl q0.2,.int (f3 * im),.int (g3 * id')]/\Same H4 H':=%[_,Z,upd_same|F9 htp]
   rw[show upd H4 tp _=H5 from e5];have hf5:=s5 _ _ hf4;have bu:But fo H5 (upd H5 fo (.lst (as.map V.ref ++ [.ref tp]))):=λ c o n e=>by rw[aG n];exact e
   have tk:∀c xs,H5 c= ~~~xs->(upd H5 fo (.lst (as.map V.ref ++ [.ref tp]))) c= ~~~xs:=λ c xs e=>bu _ _ (λ z=>by rw[z,hf5]at e;cases e) e;apply%[fo,_,_,Z,Z,hf5,by rw[GZ];omega,%[_|Z],as ++ [tp],by rw[HB];exact upd_same,?_|λ c o n e=>bu _ _ n (s5 _ _ (b34 _ _ n e))];rw[eid,eim]at k5;rw[List.range_succ,HB,HB];exact cO (GX pz4 λ v q h=>h.keep λ c xs e=>tk _ _ (s5 _ _ e)) (.cons %[tp,Z,tk _ _ k5,hly,fh ⋯ (HY _)|fh ⋯ (HY _)] .nil)
  ·rintro _ H4 ⟨⟨v8,rfl⟩,as,hf4,pz4,b34⟩;obtain⟨_,hp3⟩:=kx pt3;have npf:p≠fo:=Ne.symm nfo;exact hR _ _ ⟨%[_|rfl],as,n,hn,hf4,pz4,b34 _ _ nff (b3 _ _ nfa2 hfa2),b34 _ _ (λ z=>by rw[z,hfo2]at how2;cases how2) (bI b3 pt2 how2),(by obtain⟨a,c,h1,h2,h3,e⟩:=pt3;exact%[a,c,h1,h2,h3|b34 _ _ npf e]),λ c o n e=>b34 _ _ (aw e hfo0) (b13 _ _ n (b1 _ _ n e))⟩
 clear pt2 how2 hfa2 hfo2 b12;clear H2;rintro _ H2 ⟨⟨v8,rfl⟩,as,n,hn,hf2,pz2,hfa2,how2,pt2,b2⟩;have al:=E1 pz2;rw[GZ,GZ,List.length_range]at al;have mm0:(0:Int) < (m:Int):=⋯
 have d1:40 / m<=13:=by have:=Nat.div_le_div_left (a:=40) m3 ∅;omega
 have e1:(1:Int)+40 / (m:Int)=((1+40 / m:Nat):Int):=by rw[Int.natCast_add,Int.natCast_ediv];rfl
 have d2:1<=1+40 / m:=Nat.le_add_right _ _;have d3:1+40 / m<=14:=Nat.add_le_add_left d1 1;have lay:=sN (n:=n) (f:=f3) (g:=g3) (m:=m) hly hkk ⋯ ⋯ (by rw[<- hx1];omega) (by rw[<- hx2];omega) (by rw[<- hx1];omega) (by rw[<- hx2];omega) ⋯ hn;rw[<- hx1,<- hx2]at lay;generalize 1+40 / m=N at lay e1 d2 d3;clear d1;have p1:f3 * (m:Int)<=(9 * u) * 8:=Int.mul_le_mul ⋯ ⋯ ⋯ ⋯;have p2:g3 * (N:Int)<=(9 * u) * 14:=Int.mul_le_mul ⋯ ⋯ ⋯ ⋯;have p3:0<=f3 * (m:Int):=fh ⋯ ⋯;have p4:0<=g3 * (N:Int):=fh ⋯ ⋯;apply%[_,Z,fa2,_,0,_,Z,Z,GW hfa2,Z,_,Z,_,_,Z,Z,.inr %[⋯|⋯],_,Z,ow,_,0,_,Z,Z,GV how2,Z,_,_,Z,Z,_,Z,fa2,_,1,_,Z,Z,GW hfa2,Z,_,Z,_,_,Z,Z,%[mm0|⋯],_,_,Z,Z,_,_,Z,Z,.inr %[by rw[e1];omega|by rw[e1];omega],_,Z,ow,_,1,_,Z,Z,GV how2,Z,_,_,Z,Z,_,Z,zS3|λ r hr=>?_];rw[e1];obtain⟨H3,e3,k3,n3,s3,b3,pt3⟩:=bm (o:=.tup [.int (f3 * (m:Int)+x1),.int (g3 * (N:Int)+x2),.ref fo]) b2 pt2 hr;rw[show upd H2 r _=H3 from e3];exact q r fo _ _ as _ H3 nfo k3 (s3 _ _ hf2) (GX pz2 λ v q h=>h.keep λ c xs e=>s3 _ _ e) ⋯ lay ⋯ ⋯ ⋯ ⋯ pt3 b3
end
theorem sP{ks:IF Kd}{W h W' h' x:Int}{ps qs:IF Pq}(l1:Lay ks W h ps)(l2:Lay ks W' h' (qs.map (mvQ W 0)))(x0:W<=x)(hx:W'<=x){y:Int}(hy:h<=y)(hy':h'<=y)(nn:∀q∈qs,0<=q.x)(hk:∀q∈qs,∃k,ks[q.k]?=some k):Lay ks x y (ps ++ qs.map (mvQ W 0)):=by
 apply%[λ q hq=>?_|?_]
 ·rcases C1.mp hq with hq | hq
  ·obtain⟨a1,a2,a3,a4,a5⟩:=l1.1 q hq;exact%[a1,a2,a3,⋯|⋯]
  ·obtain⟨a1,a2,a3,a4,a5⟩:=l2.1 q hq;exact%[a1,a2,a3,⋯|⋯]
 ·rw[List.pairwise_append];apply%[l1.2,l2.2|λ o ho r hr=>?_];obtain⟨_,_,_,c1,_⟩:=l1.1 o ho;obtain⟨q,hq,rfl⟩:=G7.mp hr;obtain⟨k,hk⟩:=hk q hq;have:=nn q hq;have e:(aD ks (mvQ W 0 q)).a=q.x+W:=by rw[aW (show ks[(mvQ W 0 q).k]?=some k from hk)];rfl
  unfold apB;rw[IL (show(aD ks o).c<=(aD ks (mvQ W 0 q)).a by omega)]
  rfl
section
variable{P:F5}{w:F7}{K:C3}{mg:Str->ID F8}{base:Heap}
inductive spWheels(vs:IF V)(H:Hp)(Q:VK)(E_:XK):Prop
|mk(p t kl:IB)(b u:Int)(ks:IF Kd)(_:vs=[.ref p,.ref t,.int u])(_:PotC H p)(_:LS H t b ks kl)(_:kl≠p)(_:1<=ks.length)(_:ks.length<=8)(_:(∀k∈ks,ib u k))(_:1<=u)(_:u < 2 * 10 ^ 56)(_:0<=b)(_:b<=2 * u)(_:∀(r l:IB)(W h:Int)(as:IF IB)(qs:IF Pq)(H':Hp),l≠p->H' r= ~~~[.int W,.int h,.ref l]->H' l=↥(as.map V.ref)->Paired (PqT ks H') (as.map V.ref) qs->as.length<=40->Lay ks W h qs->1<=W->W < 10 ^ 60->1<=h->h < 10 ^ 60->PotC H' p->But p H H'->Q (.ref r) H')
theorem scwheels:FnScope ["_law_pot_here","_law_shop_here","_law_unit_here","_law_found","_law_wide","_law_high","_law_k","_law_own","_law_kind","_law_turned","_law_x","_law_y","_law_boxes"] ["_law_pot_here","_law_shop_here","_law_unit_here"] (defScope dh):=%[Z,Z,Z,∅,Z,∅|∅]
theorem ni{f:IB}{fd:F6}(F:Fun K "_law_wheels" "_law_wheels" dh f fd)(B:Blt mg)(DD:Dn P w K mg base "_law_take" ["_law_pot_here","_law_many"] 1 (spTake))(DWh:Dn P w K mg base "_law_wheel" ["_law_pot_here","_law_shop_here","_law_wide","_law_high"] 4 (spWheel))(DBx:Dn P w K mg base "_law_box" ["_law_shop_here","_law_piece"] 2 (spBox)):FnOk P w K mg base CX0 5 f fd ["_law_pot_here","_law_shop_here","_law_unit_here"] (spWheels):=by
 apply F.ok scwheels (λ vs H Q E h=>?_) (λ cdv A outer s H vs Q E hr h=>?_)
 ·obtain⟨p,t,kl,b,u,ks,rfl,_⟩:=h
  rfl
 obtain⟨p,t,kl,b,u,ks,rfl,pt,sh,nk,k1,k8,gk,u1,u2,b0,b1u,q⟩:=h;have nd:=scwheels.nd;apply%[_,((3∣(@aS _ _ _ _ ad))<<<((@bz _ _ _ _ _ _ (@aL _ _ _ _ _ (ae^^^(ae^^^ad))) (bc Z (4•(5•aQ))) Z Z Z)<<<((@bp _ _ _ _ _ _ _ _ E2 Z (bY Z B.range ((ae|||aK|||(DD∩((pv 0)^^^(ae^^^ad))))^^^ad)) (aj (i:=6) nd Z (Or.inl Z)) ((7∣(DWh∩((pv 0)^^^((pv 1)^^^((ae|||ce|||(pv 2))^^^((ae|||ce|||(pv 2))^^^ad))))))<<<((@bp _ _ _ _ _ _ _ _ E2 Z (bh (pv 7)) (bc Z (8•(9•(10•(11•aQ))))) (@ah _ _ _ (@bK _ _ _ _ (@dQ _ _ _ _ _ _ _ _ _ _ _ _ F3 PySem.F.slot_list_append PySem.F.type_list_append bM (pv 3) ((@aL _ _ _ _ _ ((pv 8)^^^((pv 9)^^^(((pv 4)|||aK|||(pv 10))^^^((pv 11)^^^ad)))))^^^ad) Z Z Z Z Z) Z)) (by intro _;rfl))<<<((cw (i:=12) (own:=["_law_piece"]) (cs:=["_law_shop_here"]) (cap:=[1]) Z nd Z Z Z (bh (pv 7)) (aR (sc:=defScope dh) (N:=["_law_pot_here","_law_shop_here","_law_unit_here","_law_found","_law_wide","_law_high","_law_k","_law_own","_law_kind","_law_turned","_law_x","_law_y","_law_boxes"]) Z Z ∅) (λ _ _ _ _ _=>aj (i:=0) (by show List.Nodup (["_law_piece","_law_shop_here"]:IF Str) ;decide +kernel) Z (Or.inl Z) (Or.inr Z)) (λ _ _ _ _ _=>bi) (λ _ _ _ _ _=>(DBx∩((pv 1)^^^((pv 0)^^^ad)))))<<<((5∣(@aA _ _ _ _ _ _ _ _ _ (hU Z) Z B.max Ia (((@aS _ _ _ _ ((pv 5)^^^ad))|||jV|||(cu (own:=["_law_box_here"]) (cs:=[]) (cap:=[]) Z (bh (pv 12)) (aR (sc:=defScope dh) (N:=["_law_pot_here","_law_shop_here","_law_unit_here","_law_found","_law_wide","_law_high","_law_k","_law_own","_law_kind","_law_turned","_law_x","_law_y","_law_boxes"]) Z Z ∅) (λ _ _ _ _ _=>aj (i:=0) (by show List.Nodup (["_law_box_here"]:IF Str) ;decide +kernel) Z (Or.inl Z) (Or.inr Z)) (λ _ _ _ _ _=>bi) (λ _ _ _ _ _=>(ar (r:=rIxT K) ix_tup (pv 0) ae (λ _ _=>Z)))))^^^ad) ∅ ∅ Z Z))>>>(4∣(((pv 4)|||aK|||(@aA _ _ _ _ _ _ _ _ _ (hU Z) Z B.max Ia ((cu (own:=["_law_box_here"]) (cs:=[]) (cap:=[]) Z (bh (pv 12)) (aR (sc:=defScope dh) (N:=["_law_pot_here","_law_shop_here","_law_unit_here","_law_found","_law_wide","_law_high","_law_k","_law_own","_law_kind","_law_turned","_law_x","_law_y","_law_boxes"]) Z Z ∅) (λ _ _ _ _ _=>aj (i:=0) (by show List.Nodup (["_law_box_here"]:IF Str) ;decide +kernel) Z (Or.inl Z) (Or.inr Z)) (λ _ _ _ _ _=>bi) (λ _ _ _ _ _=>(ar (r:=rIxT K) ix_tup (pv 0) ae (λ _ _=>Z))))^^^ad) ∅ ∅ Z Z))|||aK|||((pv 1)&&&ix_tup&&&ae))))))) (by intro _;rfl))<<<((@aL _ _ _ _ _ ((pv 4)^^^((pv 5)^^^((pv 3)^^^ad))))⁻¹))))|?_];have sz:(2000:Nat) < sizeLine:=∅
 have e61:10 * (102 * (2 * 10 ^ 56)) < (10:Int) ^ 60:=∅
 have gk':∀k∈ks,Good k:=λ k hk=>(gk k hk).1;have big:∀k∈ks,k.w+2<=100 * u/\k.h+2<=100 * u/\k.w<=100 * u/\k.h<=100 * u:=λ k hk=>by obtain⟨_,h1,h2⟩:=gk k hk;omega
 apply ai (λ σ' H'=>∃fo:IB,σ'=[↑p,↑t,⇑u,↑fo,none,none,none,none,none,none,none,none,none]/\fo≠p/\H fo=none/\H' fo=↥[]/\PotC H' p/\But p H H') (λ R hR=>?_) ?_
 ·apply%[∅|λ fo hfo=>?_];obtain⟨H1,e1,k1',n1,s1,b1,pt1⟩:=bm (o:=.lst []) But.refl' pt hfo;rw[show upd H fo _=H1 from e1];exact hR _ _ %[fo,rfl,n1,hfo,k1',pt1|b1]
 rintro _ H1 ⟨fo,rfl,nfo,hfo0,hfo1,pt1,b1⟩;apply ai (λ σ' H'=>σ'=[↑p,↑t,⇑u,↑fo,⇑0,⇑0,none,none,none,none,none,none,none]/\H' fo=↥[]/\PotC H' p/\But p H H') (λ R hR=>?_) ?_
 ·apply%[zS2|λ a0 ha0=>?_];obtain⟨H2,e2,k2,n2,s2,b2,pt2⟩:=bm (o:=.tup [.int 0,.int 0]) b1 pt1 ha0;rw[show upd H1 a0 _=H2 from e2];exact%[a0,_,Z,GV k2,Z,_,_,Z,_,_,Z,Z|hR _ _ %[Z,s2 _ _ hfo1,pt2|b2]]
 clear hfo1 pt1 b1;clear H1;rintro _ H1 ⟨rfl,hfo1,pt1,b1⟩;apply ai (λ σ' H'=>∃(v6 v7 v8 v9 v10 v11 v12:ID V)(wd hi:Int)(as:IF IB)(qs:IF Pq),σ'=[↑p,↑t,⇑u,↑fo,⇑wd,⇑hi,v6,v7,v8,v9,v10,v11,v12]/\H' fo=↥(as.map V.ref)/\Paired (PqT ks H') (as.map V.ref) qs/\as.length<=40/\1<=wd/\wd<=9 * (102 * u)/\1<=hi/\hi<=100 * u/\Lay ks wd hi qs/\PotC H' p/\But p H H') (λ R hR=>?_) ?_
 ·apply%[_,Z,p,5,Z,pt1,∅,∅|λ r H2 r0 r1 pt2 b2=>%[_,_,Z,Z,_,Z,⋯,⋯|?_]];have hn:(5+r).toNat<=9/\5<=(5+r).toNat:=⋯
  generalize(5+r).toNat=n at hn;apply cB (n:=n) (λ i σ' H'=>∃(v6 v7 v8 v9 v10 v11 v12:ID V)(wd hi:Int)(as:IF IB)(qs:IF Pq),σ'=[↑p,↑t,⇑u,↑fo,⇑wd,⇑hi,v6,v7,v8,v9,v10,v11,v12]/\H' fo=↥(as.map V.ref)/\Paired (PqT ks H') (as.map V.ref) qs/\as.length<=4 * i/\0<=wd/\wd<=(i:Int) * (102 * u)/\0<=hi/\hi<=100 * u/\(1<=i->1<=wd/\1<=hi)/\Lay ks wd hi qs/\PotC H' p/\(∀c o,c≠p->c≠fo->H2 c=some o->H' c=some o)) %[_,_,_,_,_,_,_,0,0,[],[],rfl,b2 _ _ nfo hfo1,.nil,E6 _,E3 _,by rw[show(((0:Nat)):Int)=0 from rfl,Int.zero_mul];exact E3 _,E3 _,⋯,(λ h=>absurd h ∅),%[λ q hq=>by simp at hq|.nil],pt2|λ _ _ _ _ e=>e] ?_ ?_
  ·rintro i _ H3 hi' ⟨v6,v7,v8,v9,v10,v11,v12,wd,hi,as,qs,rfl,hf3,pz3,al3,wd0,wdi,hi0,hi1,_,lay3,pt3,b23⟩;have i9:i < 9:=by have:i < n:=hi';omega
   have b23':But p H H3:=λ c o n e=>b23 _ _ n (aw e hfo0) (b2 _ _ n (b1 _ _ n e));have tk03:∀c xs,H c= ~~~xs->H3 c= ~~~xs:=λ c xs e=>bI b23' pt e;have sh3:=sh.but nk pt b23';have nkf:kl≠fo:=by obtain⟨_,_,e,_⟩:=sh;exact aw e hfo0
   apply ai (λ σ' H'=>∃(ow:IB)(zs:IF V)(qs0:IF Pq),σ'=[↑p,↑t,⇑u,↑fo,⇑wd,⇑hi,⇑(0+(i:Int)),↑ow,v8,v9,v10,v11,v12]/\ow≠p/\H3 ow=none/\H' ow=↥zs/\Paired (PqT ks H') zs qs0/\Lay ks (100 * u) (100 * u) qs0/\zs.length<=4/\qs0≠[]/\PotC H' p/\But p H3 H') (λ R hR=>?_) ?_
   ·exact%[_,Z,_,Z,_,Z,_,_,Z,Z,.inl %[∅|∅],_,Z,_,_,Z,Z,.inl %[∅|∅],p,t,kl,b,100 * u,100 * u,ks,Z,pt3,sh3,nk,k1,k8,gk',b0|λ l zs qs0 H4 hl nl hz pz ld z4 ne pt4 b4=>hR _ _ %[l,zs,qs0,Z,nl,hl,hz,pz,ld.lay pz,z4,ne big,pt4|b4]]
   rintro _ H4 ⟨ow,zs,qs0,rfl,now,how3,how4,pz4,ly0,z4,ne0,pt4,b34⟩;have nof:ow≠fo:=λ z=>by rw[z,hf3]at how3;cases how3
   have zl:=E1 pz4;have hf4:=b34 _ _ nfo hf3;have hk0:∀q∈qs0,∃k,ks[q.k]?=some k:=λ q hq=>by obtain⟨k,hk,_⟩:=cA (ly0.1 q hq).1;exact%[k|hk]
   apply ai (λ σ' H'=>∃(v8 v9 v10 v11:ID V)(as1:IF IB),σ'=[↑p,↑t,⇑u,↑fo,⇑wd,⇑hi,⇑(0+(i:Int)),↑ow,v8,v9,v10,v11,v12]/\H' fo=↥(as1.map V.ref)/\Paired (PqT ks H') (as1.map V.ref) (qs ++ qs0.map (mvQ wd 0))/\But fo H4 H') (λ R hR=>?_) ?_
   ·apply%[_,Z,ow,Z,%[_|GW how4]|cj (xs:=zs) (λ j σ' H'=>∃(v8 v9 v10 v11:ID V)(as1:IF IB),σ'=[↑p,↑t,⇑u,↑fo,⇑wd,⇑hi,⇑(0+(i:Int)),↑ow,v8,v9,v10,v11,v12]/\H' fo=↥(as1.map V.ref)/\Paired (PqT ks H') (as1.map V.ref) (qs ++ (qs0.take j).map (mvQ wd 0))/\But fo H4 H') %[_,_,_,_,as,Z,hf4,by rw[List.take_zero,Hv,HZ];exact GX pz3 (λ v q h=>h.keep λ c xs e=>bI b34 pt3 e)|But.refl'] (λ j σ H' _ ⟨_,_,_,_,_,_,_,_,bx⟩=>GW (bx _ _ nof how4)) ?_ ?_]
    ·rintro j v _ H5 hj ⟨v8,v9,v10,v11,as1,rfl,hf5,pz5,b45⟩;have hin:j < zs.length:=(A5.mp hj).1;obtain⟨q0,hq0,aq,rfl,haq,hly,x0,y0⟩:=GY pz4 hj;have haq5:=b45 _ _ (λ z=>by rw[z,hf4]at haq;cases haq) haq;have l5:=E1 pz5;rw[GZ,G4,GZ,G5]at l5;have ql:=E1 pz3;rw[GZ]at ql;apply%[aq,_,Z,GV haq5,Z,_,_,Z,_,_,Z,_,_,Z,_,_,Z,Z|?_];apply%[_,Z,.inl %[Z,_|GW hf5],_,Z,_,Z,_,Z,_,Z,_,_,Z,Z,_,Z,zS4|λ tp htp=>?_];obtain⟨H6,e6,k6,s6⟩:∃H',upd H5 tp (.tup [.int q0.k,.bl q0.c,.int (wd+q0.x),.int q0.y])=H'/\H' tp= ~~~[.int q0.k,.bl q0.c,.int (wd+q0.x),.int q0.y]/\Same H5 H':=%[_,Z,upd_same|F9 htp]
     rw[show upd H5 tp _=H6 from e6];have hf6:=s6 _ _ hf5;have bu:But fo H6 (upd H6 fo (.lst (as1.map V.ref ++ [.ref tp]))):=λ c o n e=>by rw[aG n];exact e
     have tk:∀c xs,H6 c= ~~~xs->(upd H6 fo (.lst (as1.map V.ref ++ [.ref tp]))) c= ~~~xs:=λ c xs e=>bu _ _ (λ z=>by rw[z,hf6]at e;cases e) e;apply%[fo,_,_,Z,Z,hf6,by rw[GZ];omega,_,_,_,_,as1 ++ [tp],Z,by rw[HB];exact upd_same,?_|λ c o n e=>bu _ _ n (s6 _ _ (b45 _ _ n e))];rw[HA,hq0,HB (f:=mvQ wd 0),<- List.append_assoc,HB (f:=V.ref)];apply cO (GX pz5 λ v q h=>h.keep λ c xs e=>tk _ _ (s6 _ _ e)) (.cons %[tp,Z,tk _ _ ?_,hly,?_|?_] .nil)
     ·show H6 tp= ~~~[.int q0.k,.bl q0.c,.int (q0.x+wd),.int (q0.y+0)];rw[Int.add_comm q0.x,Int.add_zero];exact k6
     ·show 0<=q0.x+wd;omega
     ·show 0<=q0.y+0;omega
    ·rintro _ H5 ⟨v8,v9,v10,v11,as1,rfl,hf5,pz5,b45⟩;rw[zl,HC]at pz5;exact hR _ _ %[_,_,_,_,as1,rfl,hf5,pz5|b45]
   rintro _ H5 ⟨v8',v9',v10',v11',as1,rfl,hf5,pz5,b45⟩;have l5:=E1 pz5;rw[GZ,G4,GZ]at l5;have ql:=E1 pz3;rw[GZ]at ql;have how5:=b45 _ _ nof how4;have tk45:∀c xs,H4 c= ~~~xs->H5 c= ~~~xs:=λ c xs e=>b45 _ _ (λ z=>by rw[z,hf4]at e;cases e) e;have pz45:Paired (PqT ks H5) zs qs0:=GX pz4 λ v q h=>h.keep tk45;have sh4:=sh3.but nk pt3 b34;have sh5:LS H5 t b ks kl:=by obtain⟨rs,q1,q2,q3⟩:=sh4;exact%[rs,tk45 _ _ q1,b45 _ _ nkf q2|Tups.keep tk45 q3]
   have pt5:PotC H5 p:=by obtain⟨a,c,h1,h2,h3,e⟩:=pt4;exact%[a,c,h1,h2,h3|b45 _ _ (Ne.symm nfo) e]
   have b45':=b45;clear b45 tk45 sh4 pz4 how4 hf4;apply ai (λ σ' H'=>∃(bo:IB)(us:IF V),σ'=[↑p,↑t,⇑u,↑fo,⇑wd,⇑hi,⇑(0+(i:Int)),↑ow,v8',v9',v10',v11',↑bo]/\H' bo=↥us/\Paired (BxAt H') us (qs0.map (aD ks))/\Same H5 H') (λ R hR=>?_) ?_
   ·apply%[_,Z,ow,Z,%[_|GW how5]|(bJ (K:=K) (.inl how5) (λ n us Hx=>Same H5 Hx/\Paired (BxAt Hx) us ((qs0.map (aD ks)).take n)) (λ n us Hx _ e o h=>e.1 _ _ h) %[Same.refl _|.nil] ?_ ?_).1 how5]
    ·rintro n v us Hx hn ⟨sx,pu⟩;have hin:n < zs.length:=(A5.mp hn).1;obtain⟨q0,hq0,hps⟩:=GY pz45 hn;obtain⟨a,k,rfl,ha,hk⟩:=hps.s;have ul:=E1 pu;rw[G5]at ul;apply%[⋯,leS.set rfl|bj ?_];apply%[_,Z,_,Z,t,kl,a,b,ks,q0,k,Z,sh5.same sx,ha.same sx,hk|λ r H2 hr2 s2=>Nx.of hin %[sx.trans s2|?_]];rw[HA,G6,hq0];exact cO (GX pu λ v x h=>h.keep λ a xs e=>s2 _ _ e) (.cons %[r,Z|by rw[aW hk];exact hr2] .nil)
    ·rintro us Hx ⟨sx,pu⟩;rw[show zs.length=(qs0.map (aD ks)).length by rw[GZ];exact zl,HC]at pu;have ul:=E1 pu;rw[GZ]at ul;apply%[⋯|λ bo hbo=>?_];obtain⟨H7,e7,k7,s7⟩:∃H',upd Hx bo (.lst us)=H'/\H' bo=↥us/\Same Hx H':=%[_,Z,upd_same|F9 hbo]
     rw[show upd Hx bo _=H7 from e7];exact hR _ _ %[bo,us,rfl,k7,GX pu (λ v x h=>h.keep λ a xs e=>s7 _ _ e)|sx.trans s7]
   rintro _ H6 ⟨bo,us,rfl,hbo,pb,s56⟩;have ul:=E1 pb;rw[GZ]at ul;have bxs:∀x∈qs0.map (aD ks),0<=x.a/\x.a < x.c/\x.c<=100 * u/\0<=x.b/\x.b < x.d/\x.d<=100 * u:=λ x hx=>by
    obtain⟨q0,hq,rfl⟩:=G7.mp hx;obtain⟨k,hk⟩:=hk0 q0 hq;obtain⟨_,x0,y0,c1,c2⟩:=ly0.1 q0 hq;have h0:(aD ks q0).a < (aD ks q0).c:=dO gk' hk 0;have h1:(aD ks q0).b < (aD ks q0).d:=dO gk' hk 1;have ea:(aD ks q0).a=q0.x:=by rw[aW hk];rfl
    have eb:(aD ks q0).b=q0.y:=by rw[aW hk];rfl
    omega
   apply ai (λ σ' H'=>∃hi2:Int,σ'=[↑p,↑t,⇑u,↑fo,⇑wd,⇑hi2,⇑(0+(i:Int)),↑ow,v8',v9',v10',v11',↑bo]/\hi<=hi2/\hi2<=100 * u/\1<=hi2/\(∀x∈qs0.map (aD ks),x.d<=hi2)/\Same H6 H') (λ R hR=>?_) ?_
   ·apply%[_,Z,zS1|λ l1 hl1=>?_];obtain⟨H7,e7,k7,s7⟩:∃H',upd H6 l1 (.lst [.int hi])=H'/\H' l1=↥[.int hi]/\Same H6 H':=%[_,Z,upd_same|F9 hl1]
    rw[show upd H6 l1 _=H7 from e7];have hbo7:=s7 _ _ hbo;have pb7:Paired (BxAt H7) us (qs0.map (aD ks)):=GX pb λ v x h=>h.keep λ a xs e=>s7 _ _ e;apply%[_,Z,bo,Z,%[_|GW hbo7]|(bJ (K:=K) (.inl hbo7) (λ n ws Hx=>H7=Hx/\ws=((((qs0.map (aD ks)).take n).map (λ x:Bx=>x.d)).map V.int)) (λ n ws Hx _ e o h=>by rw[<- e.1];exact h) %[Z|Z] ?_ ?_).1 hbo7]
    ·rintro n v ws Hx hn ⟨rfl,rfl⟩;have hin:n < us.length:=(A5.mp hn).1;obtain⟨x,hx,a,rfl,ha⟩:=GY pb7 hn;apply%[by rw[GZ,GZ,G5];omega,leS.set rfl|bj ?_];apply%[_,Z,a,_,3,_,Z,Z,GV ha,Z|Nx.of hin %[Z|?_]];rw[HA,hx,HB,HB];rfl
    ·rintro ws Hx ⟨rfl,ews⟩;rw[show us.length=(qs0.map (aD ks)).length by rw[GZ];exact ul,HC]at ews;subst ews;apply%[by rw[GZ,GZ,GZ];omega|λ l2 hl2=>?_];obtain⟨H8,e8,k8',s8⟩:∃H',upd H7 l2 (.lst (((qs0.map (aD ks)).map (λ x:Bx=>x.d)).map V.int))=H'/\H' l2=↥(((qs0.map (aD ks)).map (λ x:Bx=>x.d)).map V.int)/\Same H7 H':=%[_,Z,upd_same|F9 hl2]
     rw[show upd H7 l2 _=H8 from e8];apply%[l1,l2,_,_,Z,Z,s8 _ _ k7,k8',by rw[GZ,GZ,GZ];show 1+qs0.length<=_;omega|λ l3 hl3=>?_];obtain⟨H9,e9,k9,s9⟩:∃H',upd H8 l3 (.lst ([.int hi] ++ ((qs0.map (aD ks)).map (λ x:Bx=>x.d)).map V.int))=H'/\H' l3=↥([.int hi] ++ ((qs0.map (aD ks)).map (λ x:Bx=>x.d)).map V.int)/\Same H8 H':=%[_,Z,upd_same|F9 hl3]
     rw[show upd H8 l3 _=H9 from e9];apply⟨l3,hi :: (qs0.map (aD ks)).map (λ x:Bx=>x.d),Z,GW k9,(λ z=>by cases z),λ m hm mx=>?_⟩;have md:∀x∈qs0.map (aD ks),x.d<=m:=λ x hx=>mx _ (B3 _ (HI hx));apply hR _ _ %[m,rfl,mx _ B6,?_,?_,md|s7.trans (s8.trans s9)]
     ·rcases G0.mp hm with rfl | hm
      ·exact hi1
      ·obtain⟨x,hx,rfl⟩:=G7.mp hm;exact(bxs x hx).2.2.2.2.2
     ·obtain⟨q0,r0,e⟩:=List.exists_cons_of_ne_nil ne0;have hx:aD ks q0∈qs0.map (aD ks):=HI (by rw[e];exact B6);have:=md _ hx;have:=bxs _ hx;omega
   rintro _ H7 ⟨hi2,rfl,h12,h21,h22,md,s67⟩;have s57:=s56.trans s67;have hbo7:=s67 _ _ hbo;have pb7:Paired (BxAt H7) us (qs0.map (aD ks)):=GX pb λ v x h=>h.keep λ a xs e=>s67 _ _ e;obtain⟨rs,q1,_⟩:=id (sh5.same s57);apply%[_,Z,_,Z,bo,Z,%[_|GW hbo7]|(bJ (K:=K) (.inl hbo7) (λ n ws Hx=>H7=Hx/\ws=((((qs0.map (aD ks)).take n).map (λ x:Bx=>x.c)).map V.int)) (λ n ws Hx _ e o h=>by rw[<- e.1];exact h) %[Z|Z] ?_ ?_).1 hbo7]
   ·rintro n v ws Hx hn ⟨rfl,rfl⟩;have hin:n < us.length:=(A5.mp hn).1;obtain⟨x,hx,a,rfl,ha⟩:=GY pb7 hn;apply%[by rw[GZ,GZ,G5];omega,leS.set rfl|bj ?_];apply%[_,Z,a,_,2,_,Z,Z,GV ha,Z|Nx.of hin %[Z|?_]];rw[HA,hx,HB,HB];rfl
   ·rintro ws Hx ⟨rfl,ews⟩;rw[show us.length=(qs0.map (aD ks)).length by rw[GZ];exact ul,HC]at ews;subst ews;apply%[by rw[GZ,GZ,GZ];omega|λ l2 hl2=>?_];obtain⟨H8,e8,k8',s8⟩:∃H',upd H7 l2 (.lst (((qs0.map (aD ks)).map (λ x:Bx=>x.c)).map V.int))=H'/\H' l2=↥(((qs0.map (aD ks)).map (λ x:Bx=>x.c)).map V.int)/\Same H7 H':=%[_,Z,upd_same|F9 hl2]
    rw[show upd H7 l2 _=H8 from e8];apply%[l2,(qs0.map (aD ks)).map (λ x:Bx=>x.c),Z,GW k8',?_|λ m hm mx=>?_]
    ·intro z;have:=List.map_eq_nil_iff.mp z;exact ne0 (List.map_eq_nil_iff.mp this)
    have mc:∀x∈qs0.map (aD ks),x.c<=m:=λ x hx=>mx _ (HI hx);obtain⟨x9,hx9,ex9⟩:=G7.mp hm;have b9:=bxs x9 hx9;apply%[_,_,Z,Z,_,Z,t,_,0,_,Z,Z,GV (s8 _ _ q1),Z,_,_,Z,Z|?_];have s58:=s57.trans s8;have mm:(((i+1:Nat)):Int) * (102 * u)=(i:Int) * (102 * u)+102 * u:=by rw[show(((i+1:Nat)):Int)=(i:Int)+1 from rfl,Int.add_mul,Int.one_mul]
    apply%[_,_,_,_,_,_,_,wd+m+b,hi2,as1,qs ++ qs0.map (mvQ wd 0),Z,s58 _ _ hf5,GX pz5 (λ v q h=>h.keep λ c xs e=>s58 _ _ e),⋯,⋯,by rw[mm];omega,⋯,h21,(λ _=>%[⋯|h22]),?_,pt5.same s58|λ c o n1 n2 e=>?_]
    ·apply sP lay3 (W':=wd+m) (h':=hi2) ?_ ⋯ ⋯ h12 (E3 _) (λ q hq=>(ly0.1 q hq).2.1) hk0;have:Lay ks m hi2 qs0:=⟨λ q hq=>by
      obtain⟨a1,a2,a3,_,_⟩:=ly0.1 q hq;exact%[a1,a2,a3,mc _ (HI hq)|md _ (HI hq)],ly0.2⟩
     have:=this.mv wd0 (E3 0);rw[Int.add_zero,Int.add_comm m]at this;exact this
    ·exact s58 _ _ (b45' _ _ n2 (b34 _ _ n1 (b23 _ _ n1 n2 e)))
  ·rintro _ H3 ⟨v6,v7,v8,v9,v10,v11,v12,wd,hi,as,qs,rfl,hf3,pz3,al3,wd0,wdi,hi0,hi1,ge,lay3,pt3,b23⟩;obtain⟨g1,g2⟩:=ge ⋯;have:(n:Int) * (102 * u)<=9 * (102 * u):=Int.mul_le_mul_of_nonneg_right ⋯ ⋯;exact hR _ _ %[_,_,_,_,_,_,_,wd,hi,as,qs,rfl,hf3,pz3,⋯,g1,⋯,g2,hi1,lay3,pt3|λ c o n e=>b23 _ _ n (aw e hfo0) (b2 _ _ n (b1 _ _ n e))]
 rintro _ H2 ⟨v6,v7,v8,v9,v10,v11,v12,wd,hi,as,qs,rfl,hf2,pz2,al2,wd1,wd9,hi1,hi9,lay2,pt2,b2⟩;apply%[_,Z,_,Z,_,Z,zS3|λ r hr=>?_];obtain⟨H3,e3,k3,n3,s3,b3,pt3⟩:=bm (o:=.tup [.int wd,.int hi,.ref fo]) b2 pt2 hr;rw[show upd H2 r _=H3 from e3];exact q r fo wd hi as qs H3 nfo k3 (s3 _ _ hf2) (GX pz2 λ v q h=>h.keep λ c xs e=>s3 _ _ e) al2 lay2 wd1 ⋯ hi1 ⋯ pt3 b3
inductive spLaw(K:C3)(vs:IF V)(H:Hp)(Q:VK)(E_:XK):Prop
|mk(a:IB)(ns:IF Int)(_:vs=[.ref a])(_:SqL K H a (ns.map V.int))(_:ns.length<=63)(_:∀H',Q (.bl true) H')
theorem sclaw:FnScope ["_law_script","_law_k","_law_pot_here","_law_unit_here","_law_shop_here","_law_wide","_law_high","_law_begun","_law_pieces_here"] ["_law_script"] (defScope jv):=%[Z,Z,Z,∅,Z,∅|∅]
theorem uJ{f:IB}{fd:F6}(F:Fun K "law" "law" jv f fd)(B:Blt mg)(DC:Dn P w K mg base "_law_cell" ["_law_script","_law_k"] 1 (pG K))(DP:Dn P w K mg base "_law_pot" ["_law_cell_here","_law_k"] 1 (spPotC))(DD:Dn P w K mg base "_law_take" ["_law_pot_here","_law_many"] 1 (spTake))(DU:Dn P w K mg base "_law_unit" ["_law_pot_here"] 2 (spUnit))(DSp:Dn P w K mg base "_law_shop" ["_law_pot_here","_law_unit_here"] 3 (spShopC))(DSi:Dn P w K mg base "_law_side" ["_law_pot_here","_law_unit_here","_law_most"] 2 (spSideC))(DWh:Dn P w K mg base "_law_wheel" ["_law_pot_here","_law_shop_here","_law_wide","_law_high"] 4 (spWheel))(DSc:Dn P w K mg base "_law_scattered" ["_law_pot_here","_law_shop_here","_law_wide","_law_high","_law_pieces_here","_law_many"] 4 (spScat))(DBo:Dn P w K mg base "_law_both_right" ["_law_pot_here","_law_shop_here","_law_wide","_law_high","_law_pieces_here"] 71 (spBothK))(DRo:Dn P w K mg base "_law_rows" ["_law_pot_here","_law_shop_here"] 4 (spRows))(DWs:Dn P w K mg base "_law_wheels" ["_law_pot_here","_law_shop_here","_law_unit_here"] 5 (spWheels)):FnOk P w K mg base CX0 72 f fd ["_law_script"] (spLaw K):=by
 apply F.ok sclaw (λ vs H Q E h=>?_) (λ cdv A outer s H vs Q E hr h=>?_)
 ·obtain⟨a,ns,rfl,_⟩:=h
  rfl
 obtain⟨a,ns,rfl,hS,n63,q⟩:=h;have nd:=sclaw.nd;apply%[_,((@bp _ _ _ _ _ _ _ _ E2 Z (bY Z B.range ((@aA _ _ _ _ _ _ _ _ _ (cP Z) Z B.max Ia (ae^^^((@aA _ _ _ _ _ _ _ _ _ (mj Z) Z B.min PyProof.Rows.boot_min (ae^^^((@aA _ _ _ _ _ _ _ _ _ aJ Z B.len IR ((pv 0)^^^ad) ∅ ∅ Z Z)^^^ad)) ∅ ∅ Z Z)^^^ad)) ∅ ∅ Z Z)^^^ad)) (aj (i:=1) nd Z (Or.inl Z)) ((2∣(DP∩((DC∩((pv 0)^^^((pv 1)^^^ad)))^^^((pv 1)^^^ad))))<<<((3∣(DU∩((pv 2)^^^ad)))<<<((4∣(DSp∩((pv 2)^^^((pv 3)^^^ad))))<<<((tX Z nd Z Z (i:=5) (j:=6) ∅ Z Z ((DSi∩((pv 2)^^^((pv 3)^^^(ae^^^ad))))^^^((DSi∩((pv 2)^^^((pv 3)^^^(ae^^^ad))))^^^ad)) Z)<<<((7∣(@aS _ _ _ _ ad))<<<((((DD∩((pv 2)^^^(ae^^^ad)))<*>fR<*>ae)<|>(@ah _ _ _ (7∣(DWh∩((pv 2)^^^((pv 4)^^^((pv 5)^^^((pv 6)^^^ad)))))))<|>aE)<<<((8∣(DSc∩((pv 2)^^^((pv 4)^^^((pv 5)^^^((pv 6)^^^((pv 7)^^^((DD∩((pv 2)^^^(ae^^^ad)))^^^ad))))))))<<<(((@aO _ _ _ _ (@aN _ _ _ (DBo∩((pv 2)^^^((pv 4)^^^((pv 5)^^^((pv 6)^^^((pv 8)^^^ad)))))) (by intro _;rfl)))<|>(bd⁻¹)<|>aE)<<<(((PW.pt (dX ((pv 1)<*>bF<*>ae) (cW ((DD∩((pv 2)^^^(ae^^^ad)))<*>bF<*>ae))))<|>((@bz _ _ _ _ _ _ (DRo∩((pv 2)^^^((pv 4)^^^ad))) (bc Z (5•(6•(8•aQ)))) Z Z Z)>>>((@aO _ _ _ _ (@aN _ _ _ (DBo∩((pv 2)^^^((pv 4)^^^((pv 5)^^^((pv 6)^^^((pv 8)^^^ad)))))) (by intro _;rfl)))<|>(bd⁻¹)<|>aE))<|>aE)>>>((PW.pt (dX ((pv 1)<*>bF<*>ae) (cW ((DD∩((pv 2)^^^(ae^^^ad)))<*>bF<*>ae))))<|>((@bz _ _ _ _ _ _ (DWs∩((pv 2)^^^((pv 4)^^^((pv 3)^^^ad)))) (bc Z (5•(6•(8•aQ)))) Z Z Z)>>>((@aO _ _ _ _ (@aN _ _ _ (DBo∩((pv 2)^^^((pv 4)^^^((pv 5)^^^((pv 6)^^^((pv 8)^^^ad)))))) (by intro _;rfl)))<|>(bd⁻¹)<|>aE))<|>aE)))))))))) (by intro _;rfl))<<<(bd⁻¹))|?_];have sz:(10000:Nat) < sizeLine:=∅
 have e58:(10000:Int) < 10 ^ 58:=∅
 have e60:(10:Int) ^ 58 < 10 ^ 60:=∅
 have e56:2 * (2 * 10 ^ 56) < (10:Int) ^ 58:=∅
 have ln:(ns.map V.int).length=ns.length:=GZ _;apply ai (λ σ' H'=>True) (λ R hR=>?_) ?_
 ·apply%[_,Z,a,_,Z,.inl hS,_,_,Z,_,_,Z,_,Z,?_,?_|?_]
  ·rw[ln];split <;> omega
  ·rw[ln];split <;> omega
  generalize hn:(Int.toNat _)=n;have n8:n<=8:=by
   rw[<- hn]
   split <;> (try split) <;> omega
  apply cB (n:=n) (λ i σ H'=>∃v1 v2 v3 v4 v5 v6 v7 v8:ID V,σ=[↑a,v1,v2,v3,v4,v5,v6,v7,v8]/\Same H H') %[_,_,_,_,_,_,_,_,rfl|Same.refl _] ?_ (λ σ Hx _=>hR _ _ trivial);rintro i σ Hx hi ⟨v1,v2,v3,v4,v5,v6,v7,v8,rfl,sx⟩;apply ai (λ σ' H'=>∃p,σ'=[↑a,⇑(0+(i:Int)),↑p,v3,v4,v5,v6,v7,v8]/\Hx p=none/\PotC H' p/\But p Hx H') (λ R hR=>?_) ?_
  ·exact%[_,Z,_,Z,a,ns,_,Z,sx.seq hS,⋯|λ c=>%[_,Z,c,_,Z,⋯,⋯|λ p Hb hp ptb sb=>hR _ _ %[p,Z,hp,ptb|Pc.Same.but sb]]]
  rintro _ H1 ⟨p,rfl,hp,pt1,b1⟩;apply ai (λ σ' H'=>∃u:Int,σ'=[↑a,⇑(0+(i:Int)),↑p,⇑u,v4,v5,v6,v7,v8]/\1<=u/\u < 2 * 10 ^ 56/\PotC H' p/\But p Hx H') (λ R hR=>?_) ?_
  ·exact%[_,Z,p,Z,pt1|λ u H2 u1 u2 pt2 b2=>hR _ _ %[u,Z,u1,u2,pt2|b1.trans b2]]
  rintro _ H2 ⟨u,rfl,u1,u2,pt2,b2⟩;apply ai (λ σ' H'=>∃(t kl:IB)(b:Int)(ks:IF Kd),σ'=[↑a,⇑(0+(i:Int)),↑p,⇑u,↑t,v5,v6,v7,v8]/\LS H' t b ks kl/\kl≠p/\(∀k∈ks,ib u k)/\1<=ks.length/\ks.length<=8/\0<=b/\b<=2 * u/\PotC H' p/\But p Hx H') (λ R hR=>?_) ?_
  ·exact%[_,Z,_,Z,p,u,Z,pt2,u1,u2|λ t kl b ks H3 ls nk _ gk k1 k8 b0 b2u pt3 b3=>hR _ _ %[t,kl,b,ks,Z,ls,nk,gk,k1,k8,b0,b2u,pt3|b2.trans b3]]
  rintro _ H3 ⟨t,kl,b,ks,rfl,ls3,nk,gk,k1,kn8,b0,b2u,pt3,b3⟩;have gk':∀k∈ks,Good k:=λ k hk=>(gk k hk).1;apply ai (λ σ' H'=>∃W h1:Int,σ'=[↑a,⇑(0+(i:Int)),↑p,⇑u,↑t,⇑W,⇑h1,v7,v8]/\1<=W/\W < 10 ^ 58/\1<=h1/\h1 < 10 ^ 58/\LS H' t b ks kl/\PotC H' p/\But p Hx H') (λ R hR=>?_) ?_
  ·exact%[_,Z,_,Z,p,u,24,Z,pt3,u1,u2,∅,∅|λ W H5 w0 _ w58 pt5 b5=>%[_,Z,_,Z,p,u,24,Z,pt5,u1,u2,∅,∅|λ h1 H6 h0 _ h58 pt6 b6=>%[_,_,Z|hR _ _ %[W,h1,Z,w0,w58,h0,h58,(ls3.but nk pt3 b5).but nk pt5 b6,pt6|b3.trans (b5.trans b6)]]]]
  rintro _ H5 ⟨W,h1,rfl,w0,w58,h0,h58,ls5,pt5,b5⟩;clear b1 pt1 b2 pt2 b3 pt3 ls3;clear H1 H2 H3;apply ai (λ σ' H'=>∃be:IB,σ'=[↑a,⇑(0+(i:Int)),↑p,⇑u,↑t,⇑W,⇑h1,↑be,v8]/\be≠p/\H' be=↥[]/\LS H' t b ks kl/\PotC H' p/\But p Hx H') (λ R hR=>?_) ?_
  ·apply%[∅|λ be hbe=>?_];obtain⟨H6,e6,k6,n6,s6,b6,pt6⟩:=bm (o:=.lst []) b5 pt5 hbe;rw[show upd H5 be _=H6 from e6];exact hR _ _ %[be,rfl,n6,k6,ls5.same s6,pt6|b6]
  rintro _ H6 ⟨be,rfl,nbe,hbe,ls6,pt6,b6⟩;apply ai (λ σ' H'=>∃(be:IB)(ys:IF V)(ps:IF Pq),σ'=[↑a,⇑(0+(i:Int)),↑p,⇑u,↑t,⇑W,⇑h1,↑be,v8]/\be≠p/\H' be=↥ys/\Paired (PqT ks H') ys ps/\Laid ks W h1 ps/\ys.length<=4/\LS H' t b ks kl/\PotC H' p/\But p Hx H') (λ R hR=>?_) ?_
  ·apply%[_,Z,p,3,Z,pt6,∅,∅|λ z H7 z0 z1 pt7 b7=>%[_,_,Z,Z,_,Z|?_]];have ls7:=ls6.but nk pt6 b7;apply bv (λ cc=>?_) (λ cc=>hR _ _ %[be,[],[],rfl,nbe,b7 _ _ nbe hbe,.nil,λ i p hp=>by simp at hp,E6 _,ls7,pt7|b6.trans b7]);exact%[_,Z,_,Z,_,Z,_,Z,p,t,kl,b,W,h1,ks,Z,pt7,ls7,nk,k1,kn8,gk',b0|λ l zs qs H8 _ nl hl pz ld zl _ pt8 b8=>hR _ _ %[l,zs,qs,Z,nl,hl,pz,ld,zl,ls7.but nk pt7 b8,pt8|(b6.trans b7).trans b8]]
  clear hbe nbe b6 pt6 ls6;clear H6 be;rintro _ H6 ⟨be,ys0,ps0,rfl,nbe,hbe,pz0,ld0,y04,ls6,pt6,b6⟩;apply ai (λ σ' H'=>∃(l:IB)(as:IF IB)(qs:IF Pq),σ'=[↑a,⇑(0+(i:Int)),↑p,⇑u,↑t,⇑W,⇑h1,↑be,↑l]/\l≠p/\H' l=↥(as.map V.ref)/\Paired (PqT ks H') (as.map V.ref) qs/\Lay ks W h1 qs/\as.length<=40/\LS H' t b ks kl/\PotC H' p/\But p Hx H') (λ R hR=>?_) ?_
  ·apply%[_,Z,_,Z,_,Z,_,Z,_,Z,_,Z,p,17,Z,pt6,∅,∅|λ mm H7 m0 m1 pt7 b7=>?_];have ls7:=ls6.but nk pt6 b7;apply%[p,t,kl,be,b,W,h1,mm,ks,ys0,ps0,Z,pt7,ls7,nk,k1,kn8,gk',b0,w0,w58,h0,h58,m0,⋯,nbe,b7 _ _ nbe hbe,GX pz0 λ v q h=>h.keep λ a xs e=>bI b7 pt6 e,y04,ld0|λ l zs qs H8 hl0 nl hl pz ld zl pt8 b8=>?_];obtain⟨as,rfl,_⟩:=iP pz;rw[GZ]at zl;exact hR _ _ %[l,as,qs,rfl,nl,hl,pz,ld.lay pz,⋯,ls7.but nk pt7 b8,pt8|(b6.trans b7).trans b8]
  rintro _ H7 ⟨l,as,qs,rfl,nl,hl7,pz7,lay,al,ls7,pt7,b7⟩;clear pz0 hbe ls6 pt6 b6 ls5 pt5 b5 ld0;clear H6 H5;apply ai (λ σ' H'=>(∃v5 v6 v7 v8,σ'=[↑a,⇑(0+(i:Int)),↑p,⇑u,↑t,v5,v6,v7,v8])/\LS H' t b ks kl/\PotC H' p/\But p Hx H') (λ R hR=>?_) ?_
  ·exact%[_,Z,_,Z,_,Z,_,Z,_,Z,p,t,kl,l,b,W,h1,ks,as,qs,Z,pt7,ls7,nk,k1,kn8,b0,⋯,gk',w0,⋯,h0,⋯,nl,hl7,pz7,al,lay|λ Ha pta ba=>%[_,Z|aU (hR _ _ %[%[_,_,_,_|Z],ls7.but nk pt7 ba,pta|b7.trans ba])]]
  clear hl7 pz7 lay al ls7 pt7 b7 w58 h58 w0 h0;clear H7;rintro _ H7 ⟨⟨v5,v6,v7,v8,rfl⟩,ls7,pt7,b7⟩;apply ai (λ σ' H'=>(∃v5 v6 v7 v8,σ'=[↑a,⇑(0+(i:Int)),↑p,⇑u,↑t,v5,v6,v7,v8])/\LS H' t b ks kl/\PotC H' p/\But p Hx H') (λ R hR=>?_) ?_
  ·apply%[_,Z,Z,_,Z|?_];apply bv (λ c1=>?_) (λ c1=>hR _ _ %[%[_,_,_,_|rfl],ls7,pt7|b7]);apply%[_,Z,p,4,Z,pt7,∅,∅|λ z H8 z0 z1 pt8 b8=>%[Z,_,Z|?_]];have ls8:=ls7.but nk pt7 b8;have b08:=b7.trans b8;apply bv (λ c2=>?_) (λ c2=>hR _ _ %[%[_,_,_,_|rfl],ls8,pt8|b08]);apply%[_,Z,_,Z,p,t,kl,b,u,ks,Z,pt8,ls8,nk,k1,kn8,gk,u1,u2,b0,b2u|λ r l W h1 as qs H9 nl hr hl pz al lay w1 w60 h1' h60 pt9 b9=>%[r,_,Z,GV hr,Z,_,_,Z,_,_,Z,_,_,Z,Z|?_]];have ls9:=ls8.but nk pt8 b9;exact%[_,Z,_,Z,_,Z,_,Z,_,Z,p,t,kl,l,b,W,h1,ks,as,qs,Z,pt9,ls9,nk,k1,kn8,b0,⋯,gk',w1,w60,h1',h60,nl,hl,pz,al,lay|λ Ha pta ba=>%[_,Z|aU (hR _ _ %[%[_,_,_,_|Z],ls9.but nk pt9 ba,pta|b08.trans (b9.trans ba)])]]
  clear ls7 pt7 b7;clear H7;rintro _ H7 ⟨⟨v5,v6,v7,v8,rfl⟩,ls7,pt7,b7⟩;have fin:∀(σ':St)(H':Hp),((∃v5 v6 v7 v8,σ'=[↑a,⇑(0+(i:Int)),↑p,⇑u,↑t,v5,v6,v7,v8])/\LS H' t b ks kl/\PotC H' p/\But p Hx H')->(∃v1 v2 v3 v4 v5 v6 v7 v8:ID V,σ'=[↑a,v1,v2,v3,v4,v5,v6,v7,v8]/\Same H H'):=by rintro _ H' ⟨⟨v5,v6,v7,v8,rfl⟩,_,_,bb⟩;exact%[_,_,_,_,_,_,_,_,Z|λ c o e=>bb _ _ (aw (sx _ _ e) hp) (sx _ _ e)]
  apply%[_,Z,Z,_,Z|?_];apply bv (λ c1=>?_) (λ c1=>fin _ _ %[%[_,_,_,_|rfl],ls7,pt7|b7]);apply%[_,Z,p,4,Z,pt7,∅,∅|λ z H8 z0 z1 pt8 b8=>%[Z,_,Z|?_]];have ls8:=ls7.but nk pt7 b8;have b08:=b7.trans b8;apply bv (λ c2=>?_) (λ c2=>fin _ _ %[%[_,_,_,_|rfl],ls8,pt8|b08]);apply%[_,Z,_,Z,_,Z,p,t,kl,b,u,ks,Z,pt8,ls8,nk,k1,kn8,gk,u1,u2,b0,b2u|λ r l W h1 as qs H9 nl hr hl pz al lay w1 w60 h1' h60 pt9 b9=>%[r,_,Z,GV hr,Z,_,_,Z,_,_,Z,_,_,Z,Z|?_]];have ls9:=ls8.but nk pt8 b9;exact%[_,Z,_,Z,_,Z,_,Z,_,Z,p,t,kl,l,b,W,h1,ks,as,qs,Z,pt9,ls9,nk,k1,kn8,b0,⋯,gk',w1,w60,h1',h60,nl,hl,pz,al,lay|λ Ha pta ba=>%[_,Z|aU (fin _ _ %[%[_,_,_,_|Z],ls9.but nk pt9 ba,pta|b08.trans (b9.trans ba)])]]
 rintro _ H1 _;exact q H1
end
theorem ED{α:Type}{us:IF α}(h:us.length=1):∃a,us=[a]:=by
 match us,h with
 | [a],_=>exact%[a|Z]
theorem uK{α:Type}{us:IF α}(h:us.length=2):∃a b,us=[a,b]:=by
 match us,h with
 | [a,b],_=>exact%[a,b|Z]
theorem uL{α:Type}{us:IF α}(h:us.length=3):∃a b c,us=[a,b,c]:=by
 match us,h with
 | [a,b,c],_=>exact%[a,b,c|Z]
theorem EE{α:Type}{us:IF α}(h:us.length=4):∃a b c d,us=[a,b,c,d]:=by
 match us,h with
 | [a,b,c,d],_=>exact%[a,b,c,d|Z]
theorem EF{α:Type}{us:IF α}(h:us.length=5):∃a b c d e,us=[a,b,c,d,e]:=by
 match us,h with
 | [a,b,c,d,e],_=>exact%[a,b,c,d,e|Z]
abbrev DI(K:C3)(n:Str)(st:Stmt)(f:IB):Prop:=∃(od an:ID IB)(sl:IE (ID F8))(oc kV dc pm cd ct:F8),PySem.W.nsIn K IG n=some (↑f)/\K.lookup f=some %[oc,od,.func (E4 n n (defArgs st) (defBody st) (defScope st) .none kV dc pm an cd ct)|sl]/\PySem.W.codeIn K cd n=true/\PySem.W.keepIn K (.ref f)=true
abbrev MI(K:C3)(C:IB)(n q:Str)(st:Stmt)(f:IB):Prop:=∃(od an:ID IB)(sl:IE (ID F8))(oc kV dc pm cd ct:F8),PySem.W.findIn K (.ref C) n=some (↑f)/\PySem.W.isFn K (.ref f)=true/\K.lookup f=some %[oc,od,.func (E4 n q (defArgs st) (defBody st) (defScope st) .none kV dc pm an cd ct)|sl]/\PySem.W.codeIn K cd q=true/\PySem.W.keepIn K (.ref f)=true
theorem diM{K:C3}{n:Str}{st:Stmt}{f:IB}{od an:ID IB}{sl:IE (ID F8)}{oc kV dc pm cd ct:F8}(a:PySem.W.nsIn K IG n=some (↑f))(l:K.lookup f=some %[oc,od,.func (E4 n n (defArgs st) (defBody st) (defScope st) .none kV dc pm an cd ct)|sl])(c:PySem.W.codeIn K cd n=true)(k:PySem.W.keepIn K (.ref f)=true):DI K n st f:=%[_,_,_,_,_,_,_,_,_,a,l,c|k]
theorem miM{K:C3}{C:IB}{n q:Str}{st:Stmt}{f:IB}{od an:ID IB}{sl:IE (ID F8)}{oc kV dc pm cd ct:F8}(a:PySem.W.findIn K (.ref C) n=some (↑f))(i:PySem.W.isFn K (.ref f)=true)(l:K.lookup f=some %[oc,od,.func (E4 n q (defArgs st) (defBody st) (defScope st) .none kV dc pm an cd ct)|sl])(c:PySem.W.codeIn K cd q=true)(k:PySem.W.keepIn K (.ref f)=true):MI K C n q st f:=%[_,_,_,_,_,_,_,_,_,a,i,l,c|k]
abbrev fnS(n q:Str)(st:Stmt)(kV dc pm:F8)(an:ID IB)(cd ct:F8):F6:=E4 n q (defArgs st) (defBody st) (defScope st) .none kV dc pm an cd ct
abbrev HBd(n q:Str)(st:Stmt)(ps:IF Str):Prop:=∀(kV dc pm:F8)(an:ID IB)(cd ct:F8)(us:IF F8),us.length=ps.length->bindArgs (fnS n q st kV dc pm an cd ct) %[us|[]]=pure (ps.zip us)
inductive DE(K:C3)(mg:Str->ID Value)(n:Str)(st:Stmt)(f:IB)(ps:IF Str):Prop
|mk(fd:F6)(F:Fun K n n st f fd)(b:Binds K fd ps [])(k:PySem.W.keepIn K (.ref f)=true)(q:mg n=↑f)
theorem diE{K:C3}{h:Heap}{mg:Str->ID F8}{n:Str}{st:Stmt}{f:IB}(X:K.In h)(G:h.Ns IG mg)(d:DI K n st f)(ps:IF Str)(hb:HBd n n st ps):DE K mg n st f ps:=by obtain⟨_,_,_,_,_,_,_,_,_,a,l,c,k⟩:=d;have F:=jW (st:=st) l c k;exact%[_,F,F.binds hb,k|PySem.W.mg_of X G a]
inductive ME(K:C3)(C:IB)(n q:Str)(st:Stmt)(f:IB)(ps:IF Str):Prop
|mk(fd:F6)(F:Fun K n q st f fd)(b:Binds K fd ps [])(k:PySem.W.keepIn K (.ref f)=true)(a:PySem.W.findIn K (.ref C) n=some (↑f))(i:PySem.W.isFn K (.ref f)=true)
theorem miE{K:C3}{C:IB}{n q:Str}{st:Stmt}{f:IB}(d:MI K C n q st f)(ps:IF Str)(hb:HBd n q st ps):ME K C n q st f ps:=by obtain⟨_,_,_,_,_,_,_,_,_,a,i,l,c,k⟩:=d;have F:=jW (st:=st) l c k;exact%[_,F,F.binds hb,k,a|i]
theorem dnA{P:F5}{w:F7}{K:C3}{h:Heap}{mg:Str->ID F8}{base:Heap}(X:K.In h)(G:h.Ns IG mg){n:Str}{st:Stmt}{f:IB}(d:DI K n st f)(ps:IF Str)(hb:HBd n n st ps){k:Nat}{sp:Sp}(ok:∀fd:F6,Fun K n n st f fd->(∀ {k:Nat} {sp:Sp},FnOk P w K mg base CX0 k f fd ps sp->Dn P w K mg base n ps k sp)->FnOk P w K mg base CX0 k f fd ps sp):Dn P w K mg base n ps k sp:=by obtain⟨_,F,b,k,q⟩:=diE X G d ps hb;exact%[_,_,ok _ F λ h=>%[_,_,h,b,k|q],b,k|q]
theorem bd1{n q:Str}{st:Stmt}{a:Str}(h:∀ (kV dc pm:F8) (an:ID IB) (cd ct ua:F8),bindArgs (fnS n q st kV dc pm an cd ct) %[[ua]|[]]=pure [(a,ua)]:=by intros;rfl):HBd n q st [a]:=by intro _ _ _ _ _ _ us hl;obtain⟨_,rfl⟩:=ED hl;exact h _ _ _ _ _ _ _
theorem bd2{n q:Str}{st:Stmt}{a b:Str}(h:∀ (kV dc pm:F8) (an:ID IB) (cd ct ua ub:F8),bindArgs (fnS n q st kV dc pm an cd ct) %[[ua,ub]|[]]=pure [(a,ua),(b,ub)]:=by intros;rfl):HBd n q st [a,b]:=by intro _ _ _ _ _ _ us hl;obtain⟨_,_,rfl⟩:=uK hl;exact h _ _ _ _ _ _ _ _
theorem bd3{n q:Str}{st:Stmt}{a b c:Str}(h:∀ (kV dc pm:F8) (an:ID IB) (cd ct ua ub uc:F8),bindArgs (fnS n q st kV dc pm an cd ct) %[[ua,ub,uc]|[]]=pure [(a,ua),(b,ub),(c,uc)]:=by intros;rfl):HBd n q st [a,b,c]:=by intro _ _ _ _ _ _ us hl;obtain⟨_,_,_,rfl⟩:=uL hl;exact h _ _ _ _ _ _ _ _ _
theorem bd4{n q:Str}{st:Stmt}{a b c d:Str}(h:∀ (kV dc pm:F8) (an:ID IB) (cd ct ua ub uc ud:F8),bindArgs (fnS n q st kV dc pm an cd ct) %[[ua,ub,uc,ud]|[]]=pure [(a,ua),(b,ub),(c,uc),(d,ud)]:=by intros;rfl):HBd n q st [a,b,c,d]:=by intro _ _ _ _ _ _ us hl;obtain⟨_,_,_,_,rfl⟩:=EE hl;exact h _ _ _ _ _ _ _ _ _ _
theorem bd5{n q:Str}{st:Stmt}{a b c d e:Str}(h:∀ (kV dc pm:F8) (an:ID IB) (cd ct ua ub uc ud ue:F8),bindArgs (fnS n q st kV dc pm an cd ct) %[[ua,ub,uc,ud,ue]|[]]=pure [(a,ua),(b,ub),(c,uc),(d,ud),(e,ue)]:=by intros;rfl):HBd n q st [a,b,c,d,e]:=by intro _ _ _ _ _ _ us hl;obtain⟨_,_,_,_,_,rfl⟩:=EF hl;exact h _ _ _ _ _ _ _ _ _ _ _
theorem lx6{α:Type}{us:IF α}(h:us.length=6):∃a b c d e f,us=[a,b,c,d,e,f]:=by
 match us,h with
 | [a,b,c,d,e,f],_=>exact%[a,b,c,d,e,f|Z]
theorem bd6{n q:Str}{st:Stmt}{a b c d e f:Str}(h:∀ (kV dc pm:F8) (an:ID IB) (cd ct ua ub uc ud ue uf:F8),bindArgs (fnS n q st kV dc pm an cd ct) %[[ua,ub,uc,ud,ue,uf]|[]]=pure [(a,ua),(b,ub),(c,uc),(d,ud),(e,ue),(f,uf)]:=by intros;rfl):HBd n q st [a,b,c,d,e,f]:=by intro _ _ _ _ _ _ us hl;obtain⟨_,_,_,_,_,_,rfl⟩:=lx6 hl;exact h _ _ _ _ _ _ _ _ _ _ _ _
theorem lx7{α:Type}{us:IF α}(h:us.length=7):∃a b c d e f g,us=[a,b,c,d,e,f,g]:=by
 match us,h with
 | [a,b,c,d,e,f,g],_=>exact%[a,b,c,d,e,f,g|Z]
theorem bd7{n q:Str}{st:Stmt}{a b c d e f g:Str}(h:∀ (kV dc pm:F8) (an:ID IB) (cd ct ua ub uc ud ue uf ug:F8),bindArgs (fnS n q st kV dc pm an cd ct) %[[ua,ub,uc,ud,ue,uf,ug]|[]]=pure [(a,ua),(b,ub),(c,uc),(d,ud),(e,ue),(f,uf),(g,ug)]:=by intros;rfl):HBd n q st [a,b,c,d,e,f,g]:=by intro _ _ _ _ _ _ us hl;obtain⟨_,_,_,_,_,_,_,rfl⟩:=lx7 hl;exact h _ _ _ _ _ _ _ _ _ _ _ _ _
open PySem.W in
theorem all_mk{l:OpenLaw}{w:F7}{K:Frag}{h:Heap}{mg:Str->ID F8}{fa f0 f1 f2 f3 f4 f5 f6 f7 f8 f9 f10 f11 f12 f13 f14 f15 f16 f17 f18 f19 f20 f21 f22 f23 f24 f25 f26 f27 f28 f29 f30 f31 f32 f33 f34 f35 f36 f37 f38 f39 f40 f41 f42 f43 f44 C fm0 fm1 fm2 fm3 xWAYS:IB}(X:K.In h)(G:h.Ns IG mg)(hfa:mg "law" = ↑fa)
  {tc0:Tok} {tc1:Tok} {tc2:Tok} {tc3:Tok} {tc4:Tok} {tc5:Tok} {tc6:Tok} {tc7:Tok}
  (d0:DI K "is_whole" iF f0)
  (d1:DI K "is_truth" iG f1)
  (d2:DI K "is_row" rF f2)
  (d3:DI K "is_kind" fF f3)
  (d4:DI K "can_lie_turned" fG f4)
  (d5:DI K "check_plate" cK f5)
  (d6:DI K "lies_in" fD f6)
  (d7:DI K "meet" lN f7)
  (d8:DI K "spans_of" eJ f8)
  (d9:DI K "is_placed" dL f9)
  (d10:DI K "is_laying" cC f10)
  (d11:DI K "parting_place" ci f11)
  (d12:DI K "leaf_of" fE f12)
  (d13:DI K "parting_cut" bn f13)
  (d14:DI K "part_pieces" bO f14)
  (d15:DI K "tree_or_knot" ck f15)
  (d16:DI K "_law_cell" lO f16)
  (d17:DI K "_law_pot" rG f17)
  (d18:DI K "_law_take" lP f18)
  (d19:DI K "_law_unit" lQ f19)
  (d20:DI K "_law_side" lR f20)
  (d21:DI K "_law_worth" iH f21)
  (d22:DI K "_law_shop" lS f22)
  (d23:DI K "_law_sides" iI f23)
  (d24:DI K "_law_lyings" fH f24)
  (d25:DI K "_law_box" rH f25)
  (d26:DI K "_law_apart" iK f26)
  (d27:DI K "_law_fits" ju f27)
  (d28:DI K "_law_scattered" dg f28)
  (d29:DI K "_law_wheel" ff f29)
  (d30:DI K "_law_behind" fI f30)
  (d31:DI K "_law_plain" iJ f31)
  (d32:DI K "_law_is_leaf" fJ f32)
  (d33:DI K "_law_walk" ia f33)
  (d34:DI K "_law_pieces" fK f34)
  (d35:DI K "_law_handed" fL f35)
  (d36:DI K "_law_lots" gx f36)
  (d37:DI K "_law_has_tree" cU f37)
  (d38:DI K "_law_is_knot" eK f38)
  (d39:DI K "_law_right" iL f39)
  (d40:DI K "_law_judged" fM f40)
  (d41:DI K "_law_both_right" di f41)
  (d42:DI K "_law_rows" lT f42)
  (d43:DI K "_law_wheels" dh f43)
  (d44:DI K "law" jv f44)
  (aC:nsIn K IG "Shop" = some (↑C))
  (dm0:MI K C "__init__" "Shop.__init__" cT fm0)
  (dm1:MI K C "blade" "Shop.blade" de fm1)
  (dm2:MI K C "is_lying" "Shop.is_lying" cz fm2)
  (dm3:MI K C "sides" "Shop.sides" df fm3)
  (pg:plainGet K C Str.empty=true)
  (hd:hasDictIn K C=true)
  (po:plainOver K C=true)
  (sa:findIn K (.ref C) "__setattr__" = some (some (.builtin "object.__setattr__")))
  (mk:makesIn K C=true)
  (kc:keepIn K (.ref C)=true)
  (n0:findIn K (.ref C) "blade_width" = some none)
  (n1:findIn K (.ref C) "kind_rows" = some none)
  (eWAYS:nsIn K IG "WAYS" = some (↑xWAYS))
  (lWAYS:∃(o:Obj)(its:IE F8)(n:Nat),K.lookup xWAYS=some o/\o.cls=.type "tuple" /\ o.data=.seq its n/\its.size<=sizeLine/\Vals [.str "down",.str "across"] its.toList)
  (z0:nsIn K IG "isinstance" = some none)
  (z1:nsIn K IG "int" = some none)
  (z2:nsIn K IG "bool" = some none)
  (z3:nsIn K IG "list" = some none)
  (z4:nsIn K IG "tuple" = some none)
  (z5:nsIn K IG "len" = some none)
  (z6:nsIn K IG "range" = some none)
  (z7:nsIn K IG "max" = some none)
  (z8:nsIn K IG "min" = some none)
  (z9:nsIn K IG "abs" = some none)
  (z10:nsIn K IG "divmod" = some none)
  (z11:nsIn K IG "sum" = some none)
  (z12:nsIn K IG "sorted" = some none)
  (z13:nsIn K IG "all" = some none)
  (z14:nsIn K IG "repr" = some none)
  (z15:nsIn K IG "zip" = some none)
  (z16:nsIn K IG "enumerate" = some none)
  (z17:nsIn K IG "str" = some none)
  (uc0:nsIn K IG "MOST_KINDS" = some (some (.int 8 tc0)))
  (uc1:nsIn K IG "THINGS_OF_A_KIND" = some (some (.int 5 tc1)))
  (uc2:nsIn K IG "DOWN" = some (some (.str "down" tc2)))
  (uc3:nsIn K IG "REST" = some (some (.str "rest" tc3)))
  (uc4:nsIn K IG "PIECE" = some (some (.str "piece" tc4)))
  (uc5:nsIn K IG "THINGS_OF_A_PIECE" = some (some (.int 4 tc5)))
  (uc6:nsIn K IG "TREE" = some (some (.str "tree" tc6)))
  (uc7:nsIn K IG "KNOT" = some (some (.str "knot" tc7))) :
  ∃fd:F6,(∀(s:F4)(v:F8),BindsTo s fd %[[v]|[]] [("_law_script",v)])/\∀base:Heap,K.In base->base.Ns IG mg->FnOk l.prog w K mg base CX0 72 fa fd ["_law_script"] (spLaw K):=by
 obtain⟨_,an,_,_,kV,dc,pm,cd,ct,a44,l44,c44,k44⟩:=d44;have F44:=jW (st:=jv) l44 c44 k44;obtain⟨_,Fm0,bm0,km0,am0,im0⟩:=miE dm0 ["self","blade","kinds"] (bd3 λ _ _ _ _ _ _ _ _ _=>rfl);obtain⟨_,Fm1,bm1,km1,am1,im1⟩:=miE dm1 ["self"] (bd1 λ _ _ _ _ _ _ _=>rfl);obtain⟨_,Fm2,bm2,km2,am2,im2⟩:=miE dm2 ["self","kind","turned"] (bd3 λ _ _ _ _ _ _ _ _ _=>rfl);obtain⟨_,Fm3,bm3,km3,am3,im3⟩:=miE dm3 ["self","kind","turned"] (bd3 λ _ _ _ _ _ _ _ _ _=>rfl);have e:=hfa.symm.trans (mg_of X G a44);cases e;have y0:=mg_none_of X G z0;have y1:=mg_none_of X G z1;have y2:=mg_none_of X G z2;have y3:=mg_none_of X G z3;have y4:=mg_none_of X G z4;have y5:=mg_none_of X G z5;have y6:=mg_none_of X G z6;have y7:=mg_none_of X G z7;have y8:=mg_none_of X G z8;have y9:=mg_none_of X G z9;have y10:=mg_none_of X G z10;have y11:=mg_none_of X G z11;have y12:=mg_none_of X G z12;have y13:=mg_none_of X G z13;have y14:=mg_none_of X G z14;have y15:=mg_none_of X G z15;have y16:=mg_none_of X G z16;have y17:=mg_none_of X G z17;have gWAYS:=mg_of X G eWAYS;have u0:=mg_of X G uc0;have u1:=mg_of X G uc1;have u2:=mg_of X G uc2;have u3:=mg_of X G uc3;have u4:=mg_of X G uc4;have u5:=mg_of X G uc5;have u6:=mg_of X G uc6;have u7:=mg_of X G uc7;have qC:=mg_of X G aC;apply%[fnOf "law" "law" (defArgs jv) (defBody jv) (defScope jv) .none kV dc pm an cd ct,λ s v=>.of_eq rfl|λ base _ _=>?_];have dA:=@dnA l.prog w K h mg base X G;have B:Blt mg:=%[y0,y1,y2,y3,y4,y5,y6,y7,y8,y9,y10,y11,y12,y13,y14,y15,y16,%[_|u0]|%[_|u1]]
 have T:ShopTxt K C:=%[%[pg,hd,po|sa],n0|n1]
 have D0:=dA d0 ["thing","least"] bd2 λ _ F _=>pN F B;have D1:=dA d1 ["thing"] bd1 λ _ F _=>pO F B;have D2:=dA d2 ["thing"] bd1 λ _ F _=>ux F B;have D3:=dA d3 ["thing"] bd1 λ _ F _=>mM F B D0 D1 D2;have D4:=dA d4 ["kind"] bd1 λ _ F _=>mN F;have MB:Mn l.prog w K mg base C "blade" ["self"] 1 (eE C):=%[_,_,pP Fm1 T,bm1|%[am1,im1|km1]]
 have MI:Mn l.prog w K mg base C "is_lying" ["self","kind","turned"] 2 (dJ K C):=%[_,_,ku Fm2 B T D0 D1 D4,bm2|%[am2,im2|km2]]
 have MS:Mn l.prog w K mg base C "sides" ["self","kind","turned"] 3 (spSides K C):=%[_,_,pR Fm3 T MI,bm3|%[am3,im3|km3]]
 have DS:Kn l.prog w K mg base "Shop" C ["self","blade","kinds"] 3 (iD C):=%[_,_,%[mk,am0,im0|kc],rL Fm0 B T D0 D2 D3,bm0|qC]
 have D5:=dA d5 ["wide","high"] bd2 λ _ F _=>mU F D0;have D6:=dA d6 ["shop","wide","high","kind","turned","x","y"] bd7 λ _ F _=>pT F T D0 MI MS;have D7:=dA d7 ["one","other"] bd2 λ _ F _=>rR F;have D8:=dA d8 ["shop","piece"] bd2 λ _ F _=>pX F T MS;have D9:=dA d9 ["shop","wide","high","thing"] bd4 λ _ F _=>mS F B u5 D2 D6;have D10:=dA d10 ["shop","wide","high","thing"] bd4 λ _ F _=>pZ F B D5 D2 D9 D8 D7;have D11:=dA d11 ["blade","spans"] bd2 λ _ F _=>qb F B;have D12:=dA d12 ["x","y","pieces"] bd3 λ _ F _=>mV F u3 u4;have D13:=dA d13 ["shop","pieces"] bd2 λ _ F _=>rY F B T gWAYS (λ H=>.inr lWAYS) MB D8 D11;have D14:=dA d14 ["shop","x","y","pieces"] bd4 λ _ F m=>jA F B T u6 u7 u2 MB D12 D13 (λ n h=>m h) 64;have D15:=dA d15 ["shop","wide","high","laying"] bd4 λ _ F _=>uD F B D10 D14;have D16:=dA d16 ["_law_script","_law_k"] bd2 λ _ F _=>rN F B;have D17:=dA d17 ["_law_cell_here","_law_k"] bd2 λ _ F _=>rO F B;have D18:=dA d18 ["_law_pot_here","_law_many"] bd2 λ _ F _=>rP F B;have D19:=dA d19 ["_law_pot_here"] bd1 λ _ F _=>rQ F B D18;have D20:=dA d20 ["_law_pot_here","_law_unit_here","_law_most"] bd3 λ _ F _=>mP F B D18;have D21:=dA d21 ["_law_pot_here"] bd1 λ _ F _=>mQ F B D18;have D22:=dA d22 ["_law_pot_here","_law_unit_here"] bd2 λ _ F _=>pU F B D18 D20 D21;have D23:=dA d23 ["_law_shop_here","_law_kind","_law_turned"] bd3 λ _ F _=>mR F B;have D24:=dA d24 ["_law_shop_here"] bd1 λ _ F _=>kA F B;have D25:=dA d25 ["_law_shop_here","_law_piece"] bd2 λ _ F _=>uz F B D23;have D26:=dA d26 ["_law_one","_law_other"] bd2 λ _ F _=>pV F;have D27:=dA d27 ["_law_shop_here","_law_wide","_law_high","_law_pieces_here","_law_piece"] bd5 λ _ F _=>pW F B D25 D26;have D28:=dA d28 ["_law_pot_here","_law_shop_here","_law_wide","_law_high","_law_pieces_here","_law_many"] bd6 λ _ F _=>rS F B D18 D24 D25 D27;have D29:=dA d29 ["_law_pot_here","_law_shop_here","_law_wide","_law_high"] bd4 λ _ F _=>qo F B D18 D24 D23 D27;have D30:=dA d30 ["_law_shop_here","_law_wide","_law_high","_law_way","_law_p"] bd5 λ _ F _=>uE F B;have D31:=dA d31 ["_law_thing","_law_least"] bd2 λ _ F _=>qj F B;have D32:=dA d32 ["_law_shop_here","_law_wide","_law_high","_law_tree"] bd4 λ _ F _=>sf F B D31 D23 D24;have D33:=dA d33 ["_law_shop_here","_law_part","_law_tree"] bd3 λ _ F m=>jC F B y17 D31 D32 D30 (λ n h=>m h) 64;have D34:=dA d34 ["_law_leaves"] bd1 λ _ F _=>uF F B;have D35:=dA d35 ["_law_pot_here","_law_pieces_here"] bd2 λ _ F _=>si F B D18;have D36:=dA d36 ["_law_shop_here","_law_pieces_here"] bd2 λ _ F _=>sk F B D25;have D37:=dA d37 ["_law_shop_here","_law_pieces_here"] bd2 λ _ F m=>jD F B D36 (λ n h=>m h) 64;have D38:=dA d38 ["_law_shop_here","_law_pieces_here","_law_found"] bd3 λ _ F _=>sr F B D36;have D39:=dA d39 ["_law_shop_here","_law_wide","_law_high","_law_pieces_here","_law_found"] bd5 λ _ F _=>qv F B D37 D38 D33 D34;have D40:=dA d40 ["_law_pot_here","_law_shop_here","_law_wide","_law_high","_law_pieces_here"] bd5 λ _ F _=>sG F B D35 D10 DS;have D41:=dA d41 ["_law_pot_here","_law_shop_here","_law_wide","_law_high","_law_pieces_here"] bd5 λ _ F _=>sJ F B D40 D18 D35 D15 D39 DS;have D42:=dA d42 ["_law_pot_here","_law_shop_here"] bd2 λ _ F _=>sO F B D18 D24 D23;have D43:=dA d43 ["_law_pot_here","_law_shop_here","_law_unit_here"] bd3 λ _ F _=>ni F B D18 D29 D25;exact uJ F44 B D16 D17 D18 D19 D22 D20 D29 D28 D41 D42 D43
theorem walk{l:PySem.W.OpenLaw}{q:F5}{loose:IF Str}{XP:(Str->ID F8)->Heap->Prop}{YP:F7->Heap->Prop}{d:DefRec}{K:Params->C3}(hn:l.most=some 63)(hdf:d.params.defaults=[])
  (hY:∀(w:F7)(h:Heap),YP w h->(K w.params).In h)
  (F:∀(w:F7)(mg:Str->ID F8)(fa:IB)(h:Heap),(K w.params).In h->h.Ns IG mg->mg d.name=↑fa ->
   ∃fd:F6,(∀(s:F4)(u:F8),BindsTo s fd %[[u]|[]] [("_law_script",u)])/\∀base:Heap,(K w.params).In base->base.Ns IG mg->FnOk l.prog w (K w.params) mg base CX0 72 fa fd ["_law_script"] (spLaw (K w.params))) :
  PySem.W.WalkO q loose XP YP l.row.toRowW d [] (λ f vs=>PySem.call f vs) :=
 L2.walk_of (n:=63) (k:=72) (x := "_law_script") (CX:=λ _=>CX0) (sp:=λ w=>spLaw (K w.params)) hn ∅ hdf %[rfl,∅,∅|rfl] hY F (λ _ _ a ns hl _ hS=>%[a,ns,Z,hS,hl|λ _=>rfl]) λ _ _ _ _ _ z=>z
end Pc
namespace Pc
open PySem L2
section
open PySem.W
def kE(P:Params)(n:Str)(t:Nat)(v:F8):DictEntry:=%[PyData.keyHash P n,.str n t|v]
def kO3(P:Params):Obj:=%[(.type "dict"),none,(.dict #[kE P "__name__" 165 (.str "law_platecuts_k33_whole_a_tree_or_a_knot" 570),kE P "__doc__" 166 .none,kE P "__package__" 167 .none,kE P "__loader__" 168 (.builtin "__main__.__loader__#opaque"),kE P "__spec__" 169 .none,kE P "__annotations__" 170 (.ref 6),kE P "__builtins__" 171 (.ref 4),kE P "__file__" 173 (.str "/claim/cut.py" 172),kE P "__cached__" 174 .none,kE P "_wall" 193 (.ref 21),kE P "PlateError" 213 (.ref 31),kE P "NoBlade" 229 (.ref 44),kE P "NoKinds" 245 (.ref 56),kE P "NoKind" 261 (.ref 68),kE P "NoLying" 277 (.ref 80),kE P "NoPlate" 293 (.ref 92),kE P "NoLaying" 309 (.ref 104),kE P "is_whole" 319 (.ref 113),kE P "is_truth" 326 (.ref 120),kE P "is_row" 333 (.ref 127),kE P "check_plate" 341 (.ref 134),kE P "DOWN" 345 (.str "down" 344),kE P "ACROSS" 347 (.str "across" 346),kE P "WAYS" 348 (.ref 135),kE P "lies_in" 363 (.ref 142),kE P "THINGS_OF_A_PIECE" 367 (.int 4 366),kE P "is_placed" 377 (.ref 149),kE P "spans_of" 391 (.ref 156),kE P "meet" 399 (.ref 163),kE P "is_laying" 405 (.ref 168),kE P "REST" 407 (.str "rest" 406),kE P "PIECE" 409 (.str "piece" 408),kE P "TREE" 413 (.str "tree" 412),kE P "KNOT" 415 (.str "knot" 414),kE P "parting_place" 427 (.ref 175),kE P "parting_cut" 433 (.ref 180),kE P "leaf_of" 446 (.ref 187),kE P "part_pieces" 464 (.ref 194),kE P "tree_or_knot" 470 (.ref 199),kE P "MOST_KINDS" 474 (.int 8 473),kE P "THINGS_OF_A_KIND" 476 (.int 5 475),kE P "is_kind" 488 (.ref 206),kE P "can_lie_turned" 495 (.ref 213),kE P "Shop" 569 (.ref 268),kE P "_law_cell" 579 (.ref 279),kE P "_law_pot" 587 (.ref 286),kE P "_law_take" 596 (.ref 293),kE P "_law_unit" 604 (.ref 300),kE P "_law_side" 613 (.ref 307),kE P "_law_worth" 621 (.ref 314),kE P "_law_shop" 634 (.ref 321),kE P "_law_sides" 645 (.ref 328),kE P "_law_lyings" 655 (.ref 335),kE P "_law_behind" 666 (.ref 342),kE P "_law_plain" 674 (.ref 349),kE P "_law_is_leaf" 685 (.ref 356),kE P "_law_walk" 708 (.ref 363),kE P "_law_pieces" 721 (.ref 370),kE P "_law_box" 730 (.ref 377),kE P "_law_apart" 738 (.ref 384),kE P "_law_fits" 744 (.ref 389),kE P "_law_scattered" 764 (.ref 396),kE P "_law_wheel" 770 (.ref 401),kE P "_law_wheels" 776 (.ref 406),kE P "_law_rows" 791 (.ref 413),kE P "_law_lots" 797 (.ref 418),kE P "_law_has_tree" 806 (.ref 425),kE P "_law_handed" 816 (.ref 432),kE P "_law_is_knot" 822 (.ref 437),kE P "_law_right" 834 (.ref 444),kE P "_law_judged" 847 (.ref 451),kE P "_law_both_right" 864 (.ref 458),kE P "law" 879 (.ref 465)] 73)|#[]]
def gk0(x0:Str)(x1:Nat)(x2:Str)(x3 x4 x5 x6 x7 x8 x9 x10 x11 x12 x13:Nat)(P:Params):Obj:=%[(.type "code"),none,(.fields #[.str x0 x1,.str x2 x3,.str "/claim/cut.py" x4,.int x5 0,.int x6 0,.int 0 0,.int 0 0,.int 3 0,.ref x7,.bool true,.int 181 0,.ref x8,.none,.ref x9,.ref x10,.ref x11,.int x12 0,.int x5 0,.str "/claim/cut.py" x13])|#[]]
def EG:=gk0 "_wall" 187 "_wall" 188 189 1 1 15 16 17 18 19 191 192
def gk1(x0 x1:Str)(x2:Stmt)(x3:Str)(x4 x5:Nat)(P:Params):Obj:=%[(.type "function"),none,(.func (fnOf x0 x1 (defArgs x2) (defBody x2) (defScope x2) .none .none .none (.str x3 x4) none (.ref x5) .none))|#[]]
def EH:=gk1 "_wall" "_wall" xm "__main__" 164 20
def EI(P:Params):Obj:=%[(.type "dict"),none,(.dict #[kE P "__module__" 203 (.str "platecuts.errors" 194),kE P "__firstlineno__" 207 (.int 5 206),kE P "__static_attributes__" 208 (.ref 29),kE P "__weakref__" 210 (.ref 32),kE P "__doc__" 211 .none] 3)|#[]]
def EJ(P:Params):Obj:=%[(.type "type"),none,(.cls %["PlateError",[.type "ValueError"],[.ref 31,.type "ValueError",.type "Exception",.type "BaseException",.type "object"],30,"PlateError",true,[],[.ref 44,.ref 56,.ref 68,.ref 80,.ref 92,.ref 104],false,none|false])|#[↑22,none,some (.str "PlateError" 196),some (.str "PlateError" 204),some (.builtin "ValueError.__new__"),some (.bool true)]]
def gk2(x0 x1 x2 x3 x4 x5 x6:Nat)(P:Params):Obj:=%[(.type "dict"),none,(.dict #[kE P "__module__" x0 (.str "platecuts.errors" 194),kE P "__firstlineno__" x1 (.int x2 x3),kE P "__static_attributes__" x4 (.ref x5),kE P "__doc__" x6 .none] 2)|#[]]
def EK:=gk2 221 225 7 224 226 42 227
def gk3(x0:Str)(x1 x2 x3 x4 x5:Nat)(P:Params):Obj:=%[(.type "type"),none,(.cls %[x0,[.ref 31],[.ref x1,.ref 31,.type "ValueError",.type "Exception",.type "BaseException",.type "object"],x2,x0,true,[],[],false,none|false])|#[↑x3,none,some (.str x0 x4),some (.str x0 x5),some (.builtin "ValueError.__new__"),some (.bool true)]]
def EL:=gk3 "NoBlade" 44 43 35 214 222
def EM:=gk2 237 241 9 240 242 54 243
def EN:=gk3 "NoKinds" 56 55 47 230 238
def EO:=gk2 253 257 11 256 258 66 259
def EQ:=gk3 "NoKind" 68 67 59 246 254
def ER:=gk2 269 273 13 272 274 78 275
def ES:=gk3 "NoLying" 80 79 71 262 270
def ET:=gk2 285 289 15 288 290 90 291
def EU:=gk3 "NoPlate" 92 91 83 278 286
def xC:=gk2 301 305 17 304 306 102 307
def xD:=gk3 "NoLaying" 104 103 95 294 302
def xE:=gk0 "is_whole" 312 "is_whole" 313 314 20 2 107 108 109 110 111 317 318
def xF:=gk1 "is_whole" "is_whole" iF "platecuts.checks" 310 112
def xG:=gk0 "is_truth" 320 "is_truth" 321 322 22 1 114 115 116 117 118 324 325
def xH:=gk1 "is_truth" "is_truth" iG "platecuts.checks" 310 119
def xI:=gk0 "is_row" 327 "is_row" 328 329 24 1 121 122 123 124 125 331 332
def xJ:=gk1 "is_row" "is_row" rF "platecuts.checks" 310 126
def xK:=gk0 "check_plate" 334 "check_plate" 335 336 26 2 128 129 130 131 132 339 340
def xL:=gk1 "check_plate" "check_plate" cK "platecuts.checks" 310 133
def xM(P:Params):Obj:=%[(.type "tuple"),none,(.seq #[.str "down" 344,.str "across" 346] 0)|#[]]
def xN:=gk0 "lies_in" 349 "lies_in" 350 351 33 7 136 137 138 139 140 361 362
def xO:=gk1 "lies_in" "lies_in" fD "platecuts.parts" 342 141
def xP:=gk0 "is_placed" 368 "is_placed" 369 370 40 4 143 144 145 146 147 375 376
def xQ:=gk1 "is_placed" "is_placed" dL "platecuts.layings" 364 148
def xR:=gk0 "spans_of" 378 "spans_of" 379 380 44 2 150 151 152 153 154 389 390
def xS:=gk1 "spans_of" "spans_of" eJ "platecuts.layings" 364 155
def xT:=gk0 "meet" 392 "meet" 393 394 48 2 157 158 159 160 161 397 398
def xU:=gk1 "meet" "meet" lN "platecuts.layings" 364 162
def gk4(x0:Str)(x1:Nat)(x2:Str)(x3 x4 x5 x6 x7 x8 x9 x10 x11:Nat)(P:Params):Obj:=%[(.type "code"),none,(.fields #[.str x0 x1,.str x2 x3,.str "/claim/cut.py" x4,.int x5 0,.int x6 0,.int 0 0,.int 0 0,.int 3 0,.ref x7,.bool true,.int 181 0,.ref x8,.none,.none,.none,.ref x9,.int x10 0,.int x5 0,.str "/claim/cut.py" x11])|#[]]
def xV:=gk4 "is_laying" 400 "is_laying" 401 402 50 4 164 165 166 403 404
def xW:=gk1 "is_laying" "is_laying" cC "platecuts.layings" 364 167
def xX:=gk0 "parting_place" 416 "parting_place" 417 418 65 2 169 170 171 172 173 425 426
def xY:=gk1 "parting_place" "parting_place" ci "platecuts.parting" 410 174
def xZ:=gk4 "parting_cut" 428 "parting_cut" 429 430 73 2 176 177 178 431 432
def ya:=gk1 "parting_cut" "parting_cut" bn "platecuts.parting" 410 179
def yb:=gk0 "leaf_of" 434 "leaf_of" 435 436 82 3 181 182 183 184 185 444 445
def yc:=gk1 "leaf_of" "leaf_of" fE "platecuts.parting" 410 186
def yd:=gk0 "part_pieces" 447 "part_pieces" 448 449 87 4 188 189 190 191 192 462 463
def ye:=gk1 "part_pieces" "part_pieces" bO "platecuts.parting" 410 193
def yf:=gk4 "tree_or_knot" 465 "tree_or_knot" 466 467 102 4 195 196 197 468 469
def yg:=gk1 "tree_or_knot" "tree_or_knot" ck "platecuts.parting" 410 198
def yh:=gk0 "is_kind" 477 "is_kind" 478 479 109 1 200 201 202 203 204 486 487
def yi:=gk1 "is_kind" "is_kind" fF "platecuts.shops" 471 205
def yj:=gk0 "can_lie_turned" 489 "can_lie_turned" 490 491 116 1 207 208 209 210 211 493 494
def yk:=gk1 "can_lie_turned" "can_lie_turned" fG "platecuts.shops" 471 212
def ym:=gk4 "__init__" 508 "Shop.__init__" 509 510 120 3 221 222 223 511 512
def yn:=gk1 "__init__" "Shop.__init__" cT "platecuts.shops" 471 224
def yo:=gk0 "blade" 514 "Shop.blade" 515 516 131 1 226 227 228 229 230 518 519
def yp:=gk1 "blade" "Shop.blade" de "platecuts.shops" 471 231
def yq:=gk0 "kinds" 521 "Shop.kinds" 522 523 134 1 233 234 235 236 237 525 526
def yr:=gk1 "kinds" "Shop.kinds" kq "platecuts.shops" 471 238
def yt:=gk4 "wanted" 528 "Shop.wanted" 529 530 137 1 240 241 242 531 532
def yu:=gk1 "wanted" "Shop.wanted" js "platecuts.shops" 471 243
def yw:=gk0 "lyings" 534 "Shop.lyings" 535 536 140 1 245 246 247 248 249 538 539
def yx:=gk1 "lyings" "Shop.lyings" jt "platecuts.shops" 471 250
def yz:=gk0 "is_lying" 541 "Shop.is_lying" 542 543 143 3 252 253 254 255 256 547 548
def yA:=gk1 "is_lying" "Shop.is_lying" cz "platecuts.shops" 471 257
def yB:=gk0 "sides" 550 "Shop.sides" 551 552 148 3 259 260 261 262 263 557 558
def yC:=gk1 "sides" "Shop.sides" df "platecuts.shops" 471 264
def yD(P:Params):Obj:=%[(.type "dict"),none,(.dict #[kE P "__module__" 503 (.str "platecuts.shops" 471),kE P "__firstlineno__" 507 (.int 118 506),kE P "__init__" 513 (.ref 225),kE P "blade" 520 (.ref 232),kE P "kinds" 527 (.ref 239),kE P "wanted" 533 (.ref 244),kE P "lyings" 540 (.ref 251),kE P "is_lying" 549 (.ref 258),kE P "sides" 559 (.ref 265),kE P "__static_attributes__" 562 (.ref 266),kE P "__dict__" 564 (.ref 269),kE P "__weakref__" 566 (.ref 270),kE P "__doc__" 567 .none] 4)|#[]]
def yE(P:Params):Obj:=%[(.type "type"),none,(.cls %["Shop",[.type "object"],[.ref 268,.type "object"],267,"Shop",true,[],[],false,none|false])|#[none,none,some (.str "Shop" 496),some (.str "Shop" 504),some (.builtin "object.__new__"),some (.bool true)]]
def yF:=gk0 "_law_cell" 572 "_law_cell" 573 574 156 2 273 274 275 276 277 577 578
def yG:=gk1 "_law_cell" "_law_cell" lO "law_platecuts_k33_whole_a_tree_or_a_knot" 570 278
def yH:=gk0 "_law_pot" 580 "_law_pot" 581 582 160 2 280 281 282 283 284 585 586
def yI:=gk1 "_law_pot" "_law_pot" rG "law_platecuts_k33_whole_a_tree_or_a_knot" 570 285
def yJ:=gk0 "_law_take" 588 "_law_take" 589 590 162 2 287 288 289 290 291 594 595
def yK:=gk1 "_law_take" "_law_take" lP "law_platecuts_k33_whole_a_tree_or_a_knot" 570 292
def yL:=gk0 "_law_unit" 597 "_law_unit" 598 599 169 1 294 295 296 297 298 602 603
def yM:=gk1 "_law_unit" "_law_unit" lQ "law_platecuts_k33_whole_a_tree_or_a_knot" 570 299
def yN:=gk0 "_law_side" 605 "_law_side" 606 607 172 3 301 302 303 304 305 611 612
def yO:=gk1 "_law_side" "_law_side" lR "law_platecuts_k33_whole_a_tree_or_a_knot" 570 306
def yP:=gk0 "_law_worth" 614 "_law_worth" 615 616 176 1 308 309 310 311 312 619 620
def yQ:=gk1 "_law_worth" "_law_worth" iH "law_platecuts_k33_whole_a_tree_or_a_knot" 570 313
def yR:=gk0 "_law_shop" 622 "_law_shop" 623 624 179 2 315 316 317 318 319 632 633
def yS:=gk1 "_law_shop" "_law_shop" lS "law_platecuts_k33_whole_a_tree_or_a_knot" 570 320
def yT:=gk0 "_law_sides" 635 "_law_sides" 636 637 187 3 322 323 324 325 326 643 644
def yU:=gk1 "_law_sides" "_law_sides" iI "law_platecuts_k33_whole_a_tree_or_a_knot" 570 327
def yV:=gk0 "_law_lyings" 646 "_law_lyings" 647 648 190 1 329 330 331 332 333 653 654
def yW:=gk1 "_law_lyings" "_law_lyings" fH "law_platecuts_k33_whole_a_tree_or_a_knot" 570 334
def yX:=gk0 "_law_behind" 656 "_law_behind" 657 658 197 5 336 337 338 339 340 664 665
def yY:=gk1 "_law_behind" "_law_behind" fI "law_platecuts_k33_whole_a_tree_or_a_knot" 570 341
def yZ:=gk0 "_law_plain" 667 "_law_plain" 668 669 201 2 343 344 345 346 347 672 673
def za:=gk1 "_law_plain" "_law_plain" iJ "law_platecuts_k33_whole_a_tree_or_a_knot" 570 348
def zb:=gk0 "_law_is_leaf" 675 "_law_is_leaf" 676 677 203 4 350 351 352 353 354 683 684
def zc:=gk1 "_law_is_leaf" "_law_is_leaf" fJ "law_platecuts_k33_whole_a_tree_or_a_knot" 570 355
def zd:=gk0 "_law_walk" 686 "_law_walk" 687 688 210 3 357 358 359 360 361 706 707
def ze:=gk1 "_law_walk" "_law_walk" ia "law_platecuts_k33_whole_a_tree_or_a_knot" 570 362
def zf:=gk0 "_law_pieces" 709 "_law_pieces" 710 711 231 1 364 365 366 367 368 719 720
def zg:=gk1 "_law_pieces" "_law_pieces" fK "law_platecuts_k33_whole_a_tree_or_a_knot" 570 369
def zh:=gk0 "_law_box" 722 "_law_box" 723 724 237 2 371 372 373 374 375 728 729
def zi:=gk1 "_law_box" "_law_box" rH "law_platecuts_k33_whole_a_tree_or_a_knot" 570 376
def zj:=gk0 "_law_apart" 731 "_law_apart" 732 733 240 2 378 379 380 381 382 736 737
def zk:=gk1 "_law_apart" "_law_apart" iK "law_platecuts_k33_whole_a_tree_or_a_knot" 570 383
def zm:=gk4 "_law_fits" 739 "_law_fits" 740 741 242 5 385 386 387 742 743
def zn:=gk1 "_law_fits" "_law_fits" ju "law_platecuts_k33_whole_a_tree_or_a_knot" 570 388
def zo:=gk0 "_law_scattered" 745 "_law_scattered" 746 747 247 6 390 391 392 393 394 762 763
def zp:=gk1 "_law_scattered" "_law_scattered" dg "law_platecuts_k33_whole_a_tree_or_a_knot" 570 395
def zr:=gk4 "_law_wheel" 765 "_law_wheel" 766 767 261 4 397 398 399 768 769
def zt:=gk1 "_law_wheel" "_law_wheel" ff "law_platecuts_k33_whole_a_tree_or_a_knot" 570 400
def zu:=gk4 "_law_wheels" 771 "_law_wheels" 772 773 272 3 402 403 404 774 775
def zv:=gk1 "_law_wheels" "_law_wheels" dh "law_platecuts_k33_whole_a_tree_or_a_knot" 570 405
def zw:=gk0 "_law_rows" 777 "_law_rows" 778 779 283 2 407 408 409 410 411 789 790
def zx:=gk1 "_law_rows" "_law_rows" lT "law_platecuts_k33_whole_a_tree_or_a_knot" 570 412
def zy:=gk4 "_law_lots" 792 "_law_lots" 793 794 294 2 414 415 416 795 796
def zA:=gk1 "_law_lots" "_law_lots" gx "law_platecuts_k33_whole_a_tree_or_a_knot" 570 417
def zB:=gk0 "_law_has_tree" 798 "_law_has_tree" 799 800 304 2 419 420 421 422 423 804 805
def zC:=gk1 "_law_has_tree" "_law_has_tree" cU "law_platecuts_k33_whole_a_tree_or_a_knot" 570 424
def zD:=gk0 "_law_handed" 807 "_law_handed" 808 809 309 2 426 427 428 429 430 814 815
def zE:=gk1 "_law_handed" "_law_handed" fL "law_platecuts_k33_whole_a_tree_or_a_knot" 570 431
def zF:=gk4 "_law_is_knot" 817 "_law_is_knot" 818 819 314 3 433 434 435 820 821
def zG:=gk1 "_law_is_knot" "_law_is_knot" eK "law_platecuts_k33_whole_a_tree_or_a_knot" 570 436
def zH:=gk0 "_law_right" 823 "_law_right" 824 825 325 5 438 439 440 441 442 832 833
def zI:=gk1 "_law_right" "_law_right" iL "law_platecuts_k33_whole_a_tree_or_a_knot" 570 443
def zJ:=gk0 "_law_judged" 835 "_law_judged" 836 837 332 5 445 446 447 448 449 845 846
def zK:=gk1 "_law_judged" "_law_judged" fM "law_platecuts_k33_whole_a_tree_or_a_knot" 570 450
def zL:=gk0 "_law_both_right" 848 "_law_both_right" 849 850 340 5 452 453 454 455 456 862 863
def zM:=gk1 "_law_both_right" "_law_both_right" di "law_platecuts_k33_whole_a_tree_or_a_knot" 570 457
def zN:=gk0 "law" 865 "law" 866 867 356 1 459 460 461 462 463 877 878
def zO:=gk1 "law" "law" jv "law_platecuts_k33_whole_a_tree_or_a_knot" 570 464
def kK:Params->Frag:=λ P=>(nat_lit 3,kO3 P) :: (nat_lit 20,EG P) :: (nat_lit 21,EH P) :: (nat_lit 30,EI P) :: (nat_lit 31,EJ P) :: (nat_lit 43,EK P) :: (nat_lit 44,EL P) :: (nat_lit 55,EM P) :: (nat_lit 56,EN P) :: (nat_lit 67,EO P) :: (nat_lit 68,EQ P) :: (nat_lit 79,ER P) :: (nat_lit 80,ES P) :: (nat_lit 91,ET P) :: (nat_lit 92,EU P) :: (nat_lit 103,xC P) :: (nat_lit 104,xD P) :: (nat_lit 112,xE P) :: (nat_lit 113,xF P) :: (nat_lit 119,xG P) :: (nat_lit 120,xH P) :: (nat_lit 126,xI P) :: (nat_lit 127,xJ P) :: (nat_lit 133,xK P) :: (nat_lit 134,xL P) :: (nat_lit 135,xM P) :: (nat_lit 141,xN P) :: (nat_lit 142,xO P) :: (nat_lit 148,xP P) :: (nat_lit 149,xQ P) :: (nat_lit 155,xR P) :: (nat_lit 156,xS P) :: (nat_lit 162,xT P) :: (nat_lit 163,xU P) :: (nat_lit 167,xV P) :: (nat_lit 168,xW P) :: (nat_lit 174,xX P) :: (nat_lit 175,xY P) :: (nat_lit 179,xZ P) :: (nat_lit 180,ya P) :: (nat_lit 186,yb P) :: (nat_lit 187,yc P) :: (nat_lit 193,yd P) :: (nat_lit 194,ye P) :: (nat_lit 198,yf P) :: (nat_lit 199,yg P) :: (nat_lit 205,yh P) :: (nat_lit 206,yi P) :: (nat_lit 212,yj P) :: (nat_lit 213,yk P) :: (nat_lit 224,ym P) :: (nat_lit 225,yn P) :: (nat_lit 231,yo P) :: (nat_lit 232,yp P) :: (nat_lit 238,yq P) :: (nat_lit 239,yr P) :: (nat_lit 243,yt P) :: (nat_lit 244,yu P) :: (nat_lit 250,yw P) :: (nat_lit 251,yx P) :: (nat_lit 257,yz P) :: (nat_lit 258,yA P) :: (nat_lit 264,yB P) :: (nat_lit 265,yC P) :: (nat_lit 267,yD P) :: (nat_lit 268,yE P) :: (nat_lit 278,yF P) :: (nat_lit 279,yG P) :: (nat_lit 285,yH P) :: (nat_lit 286,yI P) :: (nat_lit 292,yJ P) :: (nat_lit 293,yK P) :: (nat_lit 299,yL P) :: (nat_lit 300,yM P) :: (nat_lit 306,yN P) :: (nat_lit 307,yO P) :: (nat_lit 313,yP P) :: (nat_lit 314,yQ P) :: (nat_lit 320,yR P) :: (nat_lit 321,yS P) :: (nat_lit 327,yT P) :: (nat_lit 328,yU P) :: (nat_lit 334,yV P) :: (nat_lit 335,yW P) :: (nat_lit 341,yX P) :: (nat_lit 342,yY P) :: (nat_lit 348,yZ P) :: (nat_lit 349,za P) :: (nat_lit 355,zb P) :: (nat_lit 356,zc P) :: (nat_lit 362,zd P) :: (nat_lit 363,ze P) :: (nat_lit 369,zf P) :: (nat_lit 370,zg P) :: (nat_lit 376,zh P) :: (nat_lit 377,zi P) :: (nat_lit 383,zj P) :: (nat_lit 384,zk P) :: (nat_lit 388,zm P) :: (nat_lit 389,zn P) :: (nat_lit 395,zo P) :: (nat_lit 396,zp P) :: (nat_lit 400,zr P) :: (nat_lit 401,zt P) :: (nat_lit 405,zu P) :: (nat_lit 406,zv P) :: (nat_lit 412,zw P) :: (nat_lit 413,zx P) :: (nat_lit 417,zy P) :: (nat_lit 418,zA P) :: (nat_lit 424,zB P) :: (nat_lit 425,zC P) :: (nat_lit 431,zD P) :: (nat_lit 432,zE P) :: (nat_lit 436,zF P) :: (nat_lit 437,zG P) :: (nat_lit 443,zH P) :: (nat_lit 444,zI P) :: (nat_lit 450,zJ P) :: (nat_lit 451,zK P) :: (nat_lit 457,zL P) :: (nat_lit 458,zM P) :: (nat_lit 464,zN P) :: (nat_lit 465,zO P) :: []
end
end Pc
abbrev PySem.W.Fast.tw385010549117182801:PySem.Program:=PySem.Challenge.pw_platecuts_k33_whole_a_tree_or_a_knot
theorem PySem.W.Fast.te385010549117182801:PySem.Challenge.pw_platecuts_k33_whole_a_tree_or_a_knot=PySem.W.Fast.tw385010549117182801:=rfl
namespace Hd
open PySem PySem.W
def S0:Str:="__name__"
def S2:Str:="__doc__"
def S3:Str:="__package__"
def S4:Str:="__loader__"
def S5:Str:="__spec__"
def zP:Str:="__main__"
def zQ:Str:="__annotations__"
def zR:Str:="__builtins__"
def zS:Str:="__file__"
def jG:Str:=%[|%[|[47,99,108,97,105,109,47,99,117,116,46,112,121]]]
def zT:Str:="__cached__"
def EV:Str:="<module>"
def nj:Str:="platecuts.parting"
def kM:Str:="_wall"
def iW:Str:="PlateError"
def nq:Str:="NoBlade"
def nu:Str:="NoKinds"
def nv:Str:="NoKind"
def nz:Str:="NoLying"
def nA:Str:="NoPlate"
def nC:Str:="NoLaying"
def kN:Str:="is_whole"
def kO:Str:="is_truth"
def kP:Str:="is_row"
def kQ:Str:="check_plate"
def uM:Str:="DOWN"
def uN:Str:="down"
def uO:Str:="ACROSS"
def uP:Str:="across"
def uQ:Str:="WAYS"
def kR:Str:="lies_in"
def uR:Str:="THINGS_OF_A_PIECE"
def kS:Str:="is_placed"
def kT:Str:="spans_of"
def kU:Str:="meet"
def kW:Str:="is_laying"
def uS:Str:="REST"
def zU:Str:="rest"
def uT:Str:="PIECE"
def uU:Str:="piece"
def uV:Str:="TREE"
def zV:Str:="tree"
def uW:Str:="KNOT"
def zW:Str:="knot"
def kX:Str:="parting_place"
def kY:Str:="parting_cut"
def kZ:Str:="leaf_of"
def EW:Str:="k"
def qB:Str:="__module__"
def gO:Str:="platecuts.errors"
def zX:Str:="__qualname__"
def qD:Str:="__firstlineno__"
def qE:Str:="__static_attributes__"
def uX:Str:="__weakref__"
def qF:Str:="thing"
def EX:Str:="least"
def sQ:Str:="platecuts.checks"
def qG:Str:="wide"
def qH:Str:="high"
def sR:Str:="shop"
def nD:Str:="kind"
def qI:Str:="turned"
def sS:Str:="x"
def sT:Str:="y"
def EY:Str:="piece_wide"
def EZ:Str:="piece_high"
def Fa:Str:="platecuts.parts"
def sU:Str:="platecuts.layings"
def Fb:Str:="one"
def Fc:Str:="other"
def nE:Str:="blade"
def Fd:Str:="spans"
def Fe:Str:="ordered"
def Ff:Str:="reach"
def Fg:Str:="start"
def Fh:Str:="end"
def zY:Str:="pieces"
def Fi:Str:="piece_x"
def Fj:Str:="piece_y"
def bP:Str:="law_platecuts_k33_whole_a_tree_or_a_knot"
def nF:Str:="part_pieces"
def nG:Str:="tree_or_knot"
def zZ:Str:="MOST_KINDS"
def Aa:Str:="THINGS_OF_A_KIND"
def nH:Str:="is_kind"
def nI:Str:="can_lie_turned"
def jH:Str:="Shop"
def nJ:Str:="_law_cell"
def nL:Str:="_law_pot"
def nM:Str:="_law_take"
def nN:Str:="_law_unit"
def nO:Str:="_law_side"
def nP:Str:="_law_worth"
def nQ:Str:="_law_shop"
def nR:Str:="_law_sides"
def nS:Str:="_law_lyings"
def nT:Str:="_law_behind"
def nU:Str:="_law_plain"
def nV:Str:="_law_is_leaf"
def nW:Str:="_law_walk"
def nX:Str:="_law_pieces"
def nY:Str:="_law_box"
def nZ:Str:="_law_apart"
def oe:Str:="_law_fits"
def og:Str:="_law_scattered"
def oh:Str:="_law_wheel"
def oi:Str:="_law_wheels"
def oj:Str:="_law_rows"
def om:Str:="_law_lots"
def oq:Str:="_law_has_tree"
def ot:Str:="_law_handed"
def ou:Str:="_law_is_knot"
def oz:Str:="_law_right"
def oA:Str:="_law_judged"
def oB:Str:="_law_both_right"
def qJ:Str:="law"
def Fk:Str:="cut"
def Fl:Str:="way"
def Fm:Str:="place"
def Fn:Str:="ahead"
def Fo:Str:="behind"
def Fp:Str:="first"
def Fq:Str:="step"
def Fs:Str:="second"
def Ft:Str:="worth"
def oC:Str:="wanted"
def Fu:Str:="turns"
def oE:Str:="platecuts.shops"
def qK:Str:="__init__"
def qL:Str:="kinds"
def qM:Str:="lyings"
def qN:Str:="is_lying"
def qO:Str:="sides"
def uY:Str:="Shop.__init__"
def qQ:Str:="self"
def uZ:Str:="Shop.blade"
def va:Str:="Shop.kinds"
def vb:Str:="Shop.wanted"
def vc:Str:="Shop.lyings"
def vd:Str:="Shop.is_lying"
def Fv:Str:="row"
def ve:Str:="Shop.sides"
def Fw:Str:="blade_width"
def Fx:Str:="kind_rows"
def Ab:Str:="__dict__"
def Ac:Str:="_law_script"
def lf:Str:="_law_k"
def Fy:Str:="_law_cell_here"
def gH:Str:="_law_pot_here"
def vf:Str:="_law_many"
def Fz:Str:="_law_digit"
def vg:Str:="_law_some"
def vh:Str:="_law_unit_here"
def FA:Str:="_law_most"
def FB:Str:="_law_blade"
def FC:Str:="_law_kinds"
def gI:Str:="_law_wide"
def gJ:Str:="_law_high"
def gK:Str:="_law_shop_here"
def sV:Str:="_law_kind"
def vi:Str:="_law_turned"
def lg:Str:="_law_found"
def Ad:Str:="_law_way"
def Ae:Str:="_law_p"
def FD:Str:="_law_thing"
def FE:Str:="_law_least"
def Af:Str:="_law_tree"
def vj:Str:="_law_own"
def FF:Str:="_law_part"
def vk:Str:="_law_x"
def vm:Str:="_law_y"
def FG:Str:="_law_first"
def FH:Str:="_law_second"
def vn:Str:="_law_one"
def vo:Str:="_law_other"
def Ag:Str:="_law_far"
def FI:Str:="_law_start"
def FJ:Str:="_law_left"
def FK:Str:="_law_right_here"
def Ah:Str:="_law_leaves"
def FL:Str:="_law_leaf"
def Ai:Str:="_law_piece"
def lh:Str:="_law_pieces_here"
def FM:Str:="_law_box_here"
def FN:Str:="_law_lots_here"
def Aj:Str:="_law_made"
def FO:Str:="_law_twice"
def FP:Str:="_law_handed_here"
def FQ:Str:="_law_kept"
def FR:Str:="_law_begun"
abbrev HK:Hook:=kHook Pc.kK [nat_lit 3,nat_lit 20,nat_lit 21,nat_lit 30,nat_lit 31,nat_lit 43,nat_lit 44,nat_lit 55,nat_lit 56,nat_lit 67,nat_lit 68,nat_lit 79,nat_lit 80,nat_lit 91,nat_lit 92,nat_lit 103,nat_lit 104,nat_lit 112,nat_lit 113,nat_lit 119,nat_lit 120,nat_lit 126,nat_lit 127,nat_lit 133,nat_lit 134,nat_lit 135,nat_lit 141,nat_lit 142,nat_lit 148,nat_lit 149,nat_lit 155,nat_lit 156,nat_lit 162,nat_lit 163,nat_lit 167,nat_lit 168,nat_lit 174,nat_lit 175,nat_lit 179,nat_lit 180,nat_lit 186,nat_lit 187,nat_lit 193,nat_lit 194,nat_lit 198,nat_lit 199,nat_lit 205,nat_lit 206,nat_lit 212,nat_lit 213,nat_lit 224,nat_lit 225,nat_lit 231,nat_lit 232,nat_lit 238,nat_lit 239,nat_lit 243,nat_lit 244,nat_lit 250,nat_lit 251,nat_lit 257,nat_lit 258,nat_lit 264,nat_lit 265,nat_lit 267,nat_lit 268,nat_lit 278,nat_lit 279,nat_lit 285,nat_lit 286,nat_lit 292,nat_lit 293,nat_lit 299,nat_lit 300,nat_lit 306,nat_lit 307,nat_lit 313,nat_lit 314,nat_lit 320,nat_lit 321,nat_lit 327,nat_lit 328,nat_lit 334,nat_lit 335,nat_lit 341,nat_lit 342,nat_lit 348,nat_lit 349,nat_lit 355,nat_lit 356,nat_lit 362,nat_lit 363,nat_lit 369,nat_lit 370,nat_lit 376,nat_lit 377,nat_lit 383,nat_lit 384,nat_lit 388,nat_lit 389,nat_lit 395,nat_lit 396,nat_lit 400,nat_lit 401,nat_lit 405,nat_lit 406,nat_lit 412,nat_lit 413,nat_lit 417,nat_lit 418,nat_lit 424,nat_lit 425,nat_lit 431,nat_lit 432,nat_lit 436,nat_lit 437,nat_lit 443,nat_lit 444,nat_lit 450,nat_lit 451,nat_lit 457,nat_lit 458,nat_lit 464,nat_lit 465] (λ _=>by kernel_rfl)
abbrev pt:F5:=PySem.W.Fast.tw385010549117182801
theorem pt_eq:PySem.Challenge.pw_platecuts_k33_whole_a_tree_or_a_knot=pt:=PySem.W.Fast.te385010549117182801
def tp(i:Nat):Stmt:=pt.main.body.getD i (.Pass %[0,0,0|0])
abbrev f(o:Params->Obj)(l r:Params->BT):Params->BT:=λ P=>.node (o P) (l P) (r P)
abbrev z:Params->BT:=λ _=>.nil
abbrev e(P:Params)(n:Str)(t:Nat)(v:F8):DictEntry:=%[PyData.keyHash P n,.str n t|v]
abbrev m0:Nat:=nat_lit 11
abbrev an:ID F8:=(↑6)
abbrev en:Env:={ scope:=pt.main.scope,locals:=mainNs,globals:=mainNs,cells:=[],code:=(.ref 13),frame:=some 14 }
abbrev cE:Code:=.body (behindTheImports pt) en
abbrev qP:Pos:=%[0,0,0|0]
abbrev B:IF Frame:=[topFrame qP]
abbrev L0:=SL.s14018661285674007319x4
abbrev L1:=SL.s11665532747177232413x24
abbrev L2:=SL.s15183661809925369436x15
abbrev L3:=SL.s13915890719876406383x10
abbrev L4:=SL.s13459172003223722735x3
abbrev L5:=SL.s10557405761357834076x3
abbrev L6:=SL.s4233737765568776869x3
abbrev L7:=SL.s2508922471967985374x5
abbrev L8:=SL.s15574269061696679450x3
abbrev L9:=SL.s6016482663378992977x10
abbrev L10:=SL.s5596568736180474577x8
abbrev L11:=SL.s2839554839881490554x3
abbrev L12:=SL.s725004073602090463x7
abbrev L13:=SL.s9436932552931045734x7
abbrev L14:=SL.s2754603736356183583x3
abbrev L15:=SL.s15185746759980889043x6
abbrev L16:=SL.s8192189862530294059x4
abbrev L17:=SL.s7038307821325472102x4
abbrev L18:=SL.s5662562618415449548x6
abbrev L19:=SL.s15281542589158584767x7
abbrev L20:=SL.s17651547275483570877x7
abbrev L21:=SL.s4036449017235975746x7
abbrev L22:=SL.s8879979712987360175x4
abbrev L23:=SL.s1801250619170735830x3
abbrev L24:=SL.s17659931425627118568x2
abbrev L25:=SL.s6063217899685152688x5
abbrev L26:=SL.s8008927332132565319x10
abbrev L27:=SL.s3544116645089599534x10
abbrev L28:=SL.s13761710972054866084x4
abbrev L29:=SL.s12896375587409280029x5
abbrev L30:=SL.s13014049009108672802x3
abbrev L31:=SL.s13935586738268321596x6
abbrev L32:=SL.s8200498257699607233x3
abbrev L33:=SL.s14114244577727609259x3
abbrev L34:=SL.s1499430450269397089x4
abbrev L35:=SL.s8755793994789770505x5
abbrev L36:=SL.s15725212667919936108x3
abbrev L37:=SL.s15791221867095933363x3
abbrev L38:=SL.s81309575031448614x3
abbrev L39:=SL.s8069831620301644142x5
abbrev L40:=SL.s10061844253413749634x4
abbrev L41:=SL.s9496514870978017513x5
abbrev L42:=SL.s8899691144933366716x7
abbrev L43:=SL.s15201008993051130160x6
abbrev L44:=SL.s741896355592496720x3
abbrev L45:=SL.s17925004256654032244x4
abbrev L46:=SL.s11695548795398191787x4
abbrev L47:=SL.s4156966113859768872x10
abbrev L48:=SL.s9501651726347032510x9
abbrev L49:=SL.s15722918466584999320x5
abbrev L50:=SL.s591115383303110208x11
abbrev L51:=SL.s15721156781594690315x7
abbrev L52:=SL.s14340494229221121180x9
abbrev L53:=SL.s13429844117177748173x6
abbrev L54:=SL.s16463266125957815391x5
abbrev L55:=SL.s4922535414793169389x9
abbrev L56:=SL.s8101838861749082086x8
abbrev L57:=SL.s7066276694103001551x3
abbrev L58:=SL.s9222952809800978799x4
abbrev L59:=SL.s462964344163437139x3
abbrev L60:=SL.s2742458400755230247x6
abbrev L61:=SL.s1438033511350832697x5
abbrev L62:=SL.s14365286008749172514x8
abbrev L63:=SL.s3642769012341782148x3
abbrev L64:=SL.s4674234679698826739x5
abbrev L65:=SL.s16656946322747308186x12
abbrev L66:=SL.s10796804682411823810x3
abbrev L67:=SL.s4290257624100764138x5
abbrev L68:=SL.s2766695959194262286x5
abbrev L69:=SL.s17162191345867700912x4
abbrev L70:=SL.s14339709457334898076x3
abbrev L71:=SL.s4278001404047624695x13
abbrev L72:=SL.s6585700554429387442x18
abbrev L73:=SL.s5946037652744460706x9
abbrev L74:=SL.s7410770068591931388x13
abbrev L75:=SL.s11817881795495490833x17
abbrev L76:=SL.s15679963881808890155x10
abbrev L77:=SL.s3871700062485845797x15
abbrev L78:=SL.s7689518266570723881x14
abbrev L79:=SL.s9001593270443806431x14
abbrev L80:=SL.s6882542574934516792x11
abbrev L81:=SL.s14403400214490484960x8
abbrev L82:=SL.s14457978657717015782x11
abbrev L83:=SL.s1753610191782819921x11
abbrev L84:=SL.s14119380538032626715x11
abbrev L85:=SL.s11437920000406562045x9
abbrev L86:=SL.s10852414792293593619x7
abbrev L87:=SL.s14816307405966870543x14
abbrev L88:=SL.s8682627914449686677x12
abbrev L89:=SL.s4428170145600203450x18
abbrev L90:=SL.s5991306692159431302x13
abbrev L91:=SL.s16067994140765818257x11
abbrev L92:=SL.s2327743974964600596x11
abbrev L93:=SL.s2804747833354056582x9
abbrev L94:=SL.s6070975301684473832x10
abbrev L95:=SL.s14270485950484850486x7
abbrev L96:=SL.s12041534306414923332x18
abbrev L97:=SL.s2531307568338490285x13
abbrev L98:=SL.s631175304937289666x17
abbrev L99:=SL.s5144983644357021410x12
abbrev Ga:=SL.s18039099521571816885x18
abbrev Gb:=SL.s6011586214260557989x15
abbrev Gc:=SL.s5430567037509283100x13
abbrev Gd:=SL.s8117915138073963741x13
abbrev Ge:=SL.s3423317712779056401x25
abbrev Gf:=SL.s2007317383269046180x15
abbrev Gg:=SL.s17481586968713580700x14
abbrev Gh:=SL.s2450899226349176912x13
abbrev Gi:=SL.s16626165730633575011x14
abbrev Gj:=SL.s14288496050688921416x11
abbrev Gk:=SL.s5735081916595925998x15
abbrev Gm:=SL.s3865607918536308442x17
abbrev Gn:=SL.s13337502604062700212x15
abbrev Go:=SL.s13114017843053701147x15
abbrev Gp:=SL.s17467278006356818441x17
abbrev Gq:=SL.s17722149559621369488x16
abbrev Gr:=SL.s7855274175708717672x17
abbrev Gs:=SL.s13351283678309829046x18
abbrev Gu:=SL.s6668348653404991179x15
abbrev Gv:=SL.s12913350958174193794x18
abbrev Gw:=SL.s16115879512475548326x12
abbrev Gx:=SL.s15920661018069861047x16
abbrev Gy:=SL.s10779130036587390575x21
abbrev Gz:=SL.s7801419657504700863x10
abbrev GA:=SL.s1688129525768580628x8
abbrev GB:=SL.s1031832959479892071x19
abbrev GC:=SL.s8991790508128307865x19
abbrev GD:=SL.s14539662485746970245x23
abbrev GE:=SL.s11643622729373238714x14
abbrev GF:=SL.s3386828779285465597x17
abbrev GG:=SL.s13042696260734638735x12
abbrev GH:=SL.s18239426817015966623x15
abbrev GI:=SL.s1270395311379034370x22
abbrev GJ:=SL.s10696252587037064777x22
abbrev GK:=SL.s7852717498200857586x20
abbrev GL:=SL.s6377248116197321094x8
abbrev GM:=SL.s3834378056692298002x18
abbrev GN:=SL.s17586630440231065808x18
abbrev GO:=SL.s15234114252648025395x21
abbrev GP:=SL.s8496462677383758984x14
abbrev GQ:=SL.s16789243406116112673x4
abbrev GR:=SL.s14400166428656793546x20
abbrev GS:=SL.s5857708277339239366x20
abbrev GT:=SL.s7804999707787243718x20
abbrev Ak:=SL.s7097527257260152453x26
abbrev GU:=SL.s6658869562736209489x6
abbrev vp:=SL.s5856160107412720595x4
abbrev FS:=SL.s658472552662922059x5
abbrev sZ(w:F7)(os:OsState):F4:=%[boot_heap w.params,Array.mk [],boot_drawn,boot_toks|os]
def o11(P:Params):Obj:=%[(.type L68),none,(.seq #[] 0)|#[]]
def o12(P:Params):Obj:=%[.none,none,(.fields #[])|#[]]
def g0(x0:Str)(x1 x2 x3:Nat)(P:Params):Obj:=%[(.type vp),none,(.fields #[.str x0 x1,.str x0 (x1+1),.str jG (x1+2),.int x2 0,.int 0 0,.int 0 0,.int 0 0,.int 0 0,.ref x3,.bool false,.int 181 0,.ref (x3+1),.none,.none,.none,.none,.int (x1+3) 0,.int x2 0,.str jG (x1+4)])|#[]]
def o13:=g0 EV 182 1 11
def g1(x0 x1:Nat)(x2:Str)(x3:Nat)(P:Params):Obj:=%[(.type FS),none,.plain|#[↑x0,↑3,↑x1,none,some (.str x2 x3),none,↑0]]
def o14:=g1 13 3 zP 164
def hA(P:Params):Heap:=%[%[|[boot_o_0 P,boot_o_1 P,boot_o_2 P,boot_o_3 P,boot_o_4 P,boot_o_5 P,boot_o_6 P,boot_o_7 P,boot_o_8 P,boot_o_9 P,boot_o_10 P,o11 P,o12 P,o13 P,o14 P]]|{ }]
abbrev sA(w:F7)(os:OsState):F4:=%[hA w.params,(Array.mk []),%[0,0,0|0],187|os]
abbrev pA:Pos:=%[0,0,0|0]
theorem pre(w:F7):(λ os=>topGo treeTable pt w m0 an 12 (sZ w os) (topStub pt))=λ os=>some (sA w os,(%[denote treeTable cE,cE,pA|B]:Thread)):=by rw[PySem.W.Fast.te15667345088766844465,PySem.W.Fast.te14364793385576792824,PySem.W.Fast.te11892475500146522536];kernel_rfl
def tB:Params->BT:=(f boot_o_0 (f boot_o_1 (f boot_o_3 (f boot_o_7 z z) (f o11 z z)) (f boot_o_5 (f boot_o_9 z z) (f o13 z z))) (f boot_o_2 (f boot_o_4 (f boot_o_8 z z) (f o12 z z)) (f boot_o_6 (f boot_o_10 z z) (f o14 z z))))
abbrev sB(w:F7)(os:OsState):SharedT:=%[tB w.params,15,{ },(Array.mk []),%[0,0,0|0],187|os]
abbrev pB:Pos:=%[0,0,0|0]
theorem blk(w:F7):(λ os=>segRun treeTable pt w m0 an 1 1 (sA w os) ⟨(blockStart (behindTheImports pt) en).wrap (λ _=>doneF .next) deadEnd id id,cE,pA,B⟩)=λ os=>some (.next,(sB w os).abs,cE,pB):=by rw[PySem.W.Fast.te14374325043358763698,PySem.W.Fast.te14364793385576792824,PySem.W.Fast.te1066825118222455980];kernel_rfl
def FT(P:Params):Obj:=%[(.type L0),none,(.dict #[e P S0 165 (.str nj 410),e P S2 166 .none,e P S3 167 .none,e P S4 168 (.builtin Ak),e P S5 169 .none,e P zQ 170 (.ref 6),e P zR 171 (.ref 4),e P zS 173 (.str jG 172),e P zT 174 .none,e P kM 193 (.ref 21),e P iW 213 (.ref 31),e P nq 229 (.ref 44),e P nu 245 (.ref 56),e P nv 261 (.ref 68),e P nz 277 (.ref 80),e P nA 293 (.ref 92),e P nC 309 (.ref 104),e P kN 319 (.ref 113),e P kO 326 (.ref 120),e P kP 333 (.ref 127),e P kQ 341 (.ref 134),e P uM 345 (.str uN 344),e P uO 347 (.str uP 346),e P uQ 348 (.ref 135),e P kR 363 (.ref 142),e P uR 367 (.int 4 366),e P kS 377 (.ref 149),e P kT 391 (.ref 156),e P kU 399 (.ref 163),e P kW 405 (.ref 168),e P uS 407 (.str zU 406),e P uT 409 (.str uU 408),e P uV 413 (.str zV 412),e P uW 415 (.str zW 414),e P kX 427 (.ref 175),e P kY 433 (.ref 180),e P kZ 446 (.ref 187)] 37)|#[]]
def Al(P:Params):Obj:=%[.none,none,(.fields #[.int 1 0,.int 0 0,.ref 20,.int 5 0,.int 0 0,.ref 27,.int 7 0,.int 0 0,.ref 40,.int 9 0,.int 0 0,.ref 52,.int 11 0,.int 0 0,.ref 64,.int 13 0,.int 0 0,.ref 76,.int 15 0,.int 0 0,.ref 88,.int 17 0,.int 0 0,.ref 100,.int 20 0,.int 0 0,.ref 112,.int 22 0,.int 0 0,.ref 119,.int 24 0,.int 0 0,.ref 126,.int 26 0,.int 0 0,.ref 133,.int 33 0,.int 0 0,.ref 141,.int 40 0,.int 0 0,.ref 148,.int 44 0,.int 0 0,.ref 155,.int 48 0,.int 0 0,.ref 162,.int 50 0,.int 0 0,.ref 167,.int 65 0,.int 0 0,.ref 174,.int 73 0,.int 0 0,.ref 179,.int 82 0,.int 0 0,.ref 186])|#[]]
def g2(x0:Str)(x1:Nat)(P:Params):Obj:=%[(.type L68),none,(.seq #[.str x0 x1] 0)|#[]]
def o17:=g2 EW 190
def g3(x0:Str)(x1:Nat)(P:Params):Obj:=%[.none,none,(.func %[x0,x0,L2.defArgs (tp x1),(.stmts (L2.defBody (tp x1))),L2.defScope (tp x1),0,[],.none,.none,.none,.none,none,.none,.none|0])|#[]]
def o19:=g3 kM 0
def g4(x0:Str)(x1:Nat)(x2:Str)(x3 x4 x5 x6:Nat)(P:Params):Obj:=%[(.type vp),none,(.fields #[.str x0 x1,.str x2 (x1+1),.str jG (x1+2),.int x3 0,.int x4 0,.int 0 0,.int 0 0,.int 3 0,.ref x5,.bool true,.int 181 0,.ref (x5+1),.none,.ref (x5+2),.ref (x5+3),.ref (x5+4),.int x6 0,.int x3 0,.str jG (x6+1)])|#[]]
def o20:=g4 kM 187 kM 1 1 15 191
abbrev Am:=SL.s7174869446012820540x8
def g5(x0:Str)(x1:Nat)(x2:Str)(x3 x4:Nat)(P:Params):Obj:=%[(.type Am),none,(.func %[x0,x0,L2.defArgs (tp x1),(.stmts (L2.defBody (tp x1))),L2.defScope (tp x1),3,[],.none,.none,.none,.str x2 x3,none,.ref x4,.none|0])|#[]]
def o21:=g5 kM 0 zP 164 20
def o22(P:Params):Obj:=%[(.type L68),none,(.seq #[.type L94] 0)|#[]]
abbrev An:=SL.s11030030927630378310x26
abbrev FU:=SL.s10062305145149207511x16
def o23(P:Params):Obj:=%[(.type An),none,(.fields #[.builtin FU,.type L69])|#[]]
def g6(x0:Nat)(x1:Str)(x2 x3:Nat)(P:Params):Obj:=%[(.type L0),none,(.dict #[e P qB x0 (.str gO 194),e P zX (x0+2) (.str x1 (x0+1)),e P qD (x0+4) (.int x2 (x0+3)),e P qE (x0+5) (.ref x3)] 4)|#[]]
def o24:=g6 203 iW 5 29
def o27:=g0 iW 198 5 25
def o28:=g1 27 24 gO 194
def o30(P:Params):Obj:=%[(.type L0),none,(.dict #[e P qB 203 (.str gO 194),e P qD 207 (.int 5 206),e P qE 208 (.ref 29),e P uX 210 (.ref 32),e P S2 211 .none] 3)|#[]]
abbrev Ao:=SL.s4209523147560561109x18
def o31(P:Params):Obj:=%[(.type L69),none,(.cls %[iW,[.type L94],[.ref 31,.type L94,.type L73,.type L71,.type L60],30,iW,true,[],[.ref 44,.ref 56,.ref 68,.ref 80,.ref 92,.ref 104],false,none|false])|#[↑22,none,some (.str iW 196),some (.str iW 204),some (.builtin Ao),some (.bool true)]]
abbrev Ap:=SL.s14755015743595814543x17
abbrev FV:=SL.s10220274742760427390x26
def g7(x0 x1:Nat)(P:Params):Obj:=%[(.type Ap),none,(.fields #[.str uX x0,.ref x1,.builtin FV,.none])|#[]]
def o32:=g7 209 31
def g8(x0:Nat)(P:Params):Obj:=%[(.type L67),none,(.fields #[.ref x0,.ref x0,.ref x0])|#[]]
def o33:=g8 31
abbrev FW:=SL.s4860613602091757760x24
def g9(x0:Nat)(P:Params):Obj:=%[(.type An),none,(.fields #[.builtin FW,.ref x0])|#[]]
def o34:=g9 31
def o35(P:Params):Obj:=%[(.type L68),none,(.seq #[.ref 31] 0)|#[]]
def o37:=g6 221 nq 7 42
def o40:=g0 nq 216 7 38
def o41:=g1 40 37 gO 194
def g10(x0 x1 x2:Nat)(P:Params):Obj:=%[(.type L0),none,(.dict #[e P qB x0 (.str gO 194),e P qD (x0+4) (.int x1 (x0+3)),e P qE (x0+5) (.ref x2),e P S2 (x0+6) .none] 2)|#[]]
def o43:=g10 221 7 42
def g11(x0:Str)(x1 x2 x3 x4:Nat)(P:Params):Obj:=%[(.type L69),none,(.cls %[x0,[.ref 31],[.ref x1,.ref 31,.type L94,.type L73,.type L71,.type L60],x2,x0,true,[],[],false,none|false])|#[↑x3,none,some (.str x0 x4),some (.str x0 (x4+8)),some (.builtin Ao),some (.bool true)]]
def o44:=g11 nq 44 43 35 214
def o45:=g8 44
def o46:=g9 44
def o49:=g6 237 nu 9 54
def o52:=g0 nu 232 9 50
def o53:=g1 52 49 gO 194
def o55:=g10 237 9 54
def o56:=g11 nu 56 55 47 230
def o57:=g8 56
def o58:=g9 56
def o61:=g6 253 nv 11 66
def o64:=g0 nv 248 11 62
def o65:=g1 64 61 gO 194
def o67:=g10 253 11 66
def o68:=g11 nv 68 67 59 246
def o69:=g8 68
def o70:=g9 68
def o73:=g6 269 nz 13 78
def o76:=g0 nz 264 13 74
def o77:=g1 76 73 gO 194
def o79:=g10 269 13 78
def o80:=g11 nz 80 79 71 262
def o81:=g8 80
def o82:=g9 80
def o85:=g6 285 nA 15 90
def o88:=g0 nA 280 15 86
def o89:=g1 88 85 gO 194
def o91:=g10 285 15 90
def o92:=g11 nA 92 91 83 278
def o93:=g8 92
def o94:=g9 92
def o97:=g6 301 nC 17 102
def vq:=g0 nC 296 17 98
def vt:=g1 100 97 gO 194
def vw:=g10 301 17 102
def vx:=g11 nC 104 103 95 294
def vy:=g8 104
def vz:=g9 104
def g12(x0:Str)(x1:Nat)(x2:Str)(x3:Nat)(P:Params):Obj:=%[(.type L68),none,(.seq #[.str x0 x1,.str x2 x3] 0)|#[]]
def vA:=g12 qF 315 EX 316
def vB:=g3 kN 10
def vC:=g4 kN 312 kN 20 2 107 317
def vD:=g5 kN 10 sQ 310 112
def vE:=g2 qF 323
def vF:=g3 kO 11
def vG:=g4 kO 320 kO 22 1 114 324
def vH:=g5 kO 11 sQ 310 119
def vI:=g2 qF 330
def vJ:=g3 kP 12
def vK:=g4 kP 327 kP 24 1 121 331
def vL:=g5 kP 12 sQ 310 126
def vM:=g12 qG 337 qH 338
def vN:=g3 kQ 13
def vO:=g4 kQ 334 kQ 26 2 128 339
def vP:=g5 kQ 13 sQ 310 133
def vQ:=g12 uN 344 uP 346
def g13(x0:Str)(x1:Nat)(x2 x3 x4 x5 x6 x7 x8 x9:Str)(P:Params):Obj:=%[(.type L68),none,(.seq #[.str x0 x1,.str x2 (x1+1),.str x3 (x1+2),.str x4 (x1+3),.str x5 (x1+4),.str x6 (x1+5),.str x7 (x1+6),.str x8 (x1+7),.str x9 (x1+8)] 0)|#[]]
def vR:=g13 sR 352 qG qH nD qI sS sT EY EZ
def vS:=g3 kR 18
def vT:=g4 kR 349 kR 33 7 136 361
def vU:=g5 kR 18 Fa 342 141
def g14(x0:Str)(x1:Nat)(x2 x3 x4:Str)(P:Params):Obj:=%[(.type L68),none,(.seq #[.str x0 x1,.str x2 (x1+1),.str x3 (x1+2),.str x4 (x1+3)] 0)|#[]]
def vV:=g14 sR 371 qG qH qF
def vW:=g3 kS 21
def vX:=g4 kS 368 kS 40 4 143 375
def vY:=g5 kS 21 sU 364 148
def vZ(P:Params):Obj:=%[(.type L68),none,(.seq #[.str sR 381,.str uU 382,.str nD 383,.str qI 384,.str sS 385,.str sT 386,.str qG 387,.str qH 388] 0)|#[]]
def wc:=g3 kT 22
def we:=g4 kT 378 kT 44 2 150 389
def wf:=g5 kT 22 sU 364 155
def wg:=g12 Fb 395 Fc 396
def wj:=g3 kU 23
def wk:=g4 kU 392 kU 48 2 157 397
def wm:=g5 kU 23 sU 364 162
def wn:=g3 kW 24
def g15(x0:Str)(x1:Nat)(x2:Str)(x3 x4 x5:Nat)(P:Params):Obj:=%[(.type vp),none,(.fields #[.str x0 x1,.str x2 (x1+1),.str jG (x1+2),.int x3 0,.int x4 0,.int 0 0,.int 0 0,.int 3 0,.ref x5,.bool true,.int 181 0,.ref (x5+1),.none,.none,.none,.ref (x5+2),.int (x1+3) 0,.int x3 0,.str jG (x1+4)])|#[]]
def wr:=g15 kW 400 kW 50 4 164
def wv:=g5 kW 24 sU 364 167
def g16(x0:Str)(x1:Nat)(x2 x3 x4 x5 x6:Str)(P:Params):Obj:=%[(.type L68),none,(.seq #[.str x0 x1,.str x2 (x1+1),.str x3 (x1+2),.str x4 (x1+3),.str x5 (x1+4),.str x6 (x1+5)] 0)|#[]]
def ww:=g16 nE 419 Fd Fe Ff Fg Fh
def wx:=g3 kX 30
def wz:=g4 kX 416 kX 65 2 169 425
def wA:=g5 kX 30 nj 410 174
def wB:=g3 kY 31
def wC:=g15 kY 428 kY 73 2 176
def wD:=g5 kY 31 nj 410 179
def g17(x0:Str)(x1:Nat)(x2 x3 x4 x5 x6 x7:Str)(P:Params):Obj:=%[(.type L68),none,(.seq #[.str x0 x1,.str x2 (x1+1),.str x3 (x1+2),.str x4 (x1+3),.str x5 (x1+4),.str x6 (x1+5),.str x7 (x1+6)] 0)|#[]]
def wE:=g17 sS 437 sT zY nD qI Fi Fj
def wF:=g3 kZ 32
def wG:=g4 kZ 434 kZ 82 3 181 444
def wH:=g5 kZ 32 nj 410 186
def t0:Params->BT:=(f boot_o_0 (f boot_o_1 (f FT (f boot_o_7 (f o11 (f o31 (f o12 (f vL z z) z) (f o35 (f wg z z) z)) (f o35 (f o79 (f o11 z z) z) (f vB (f wA z z) z))) (f o23 (f o12 (f o35 (f vQ z z) z) (f vw (f wr z z) z)) (f o55 (f o12 (f o12 z z) z) (f vG (f wE z z) z)))) (f o11 (f o19 (f o35 (f o67 (f o11 z z) z) (f o12 (f wm z z) z)) (f o12 (f o35 (f vW z z) z) (f o12 (f wC z z) z))) (f o27 (f o43 (f o12 (f o11 z z) z) (f o11 (f ww z z) z)) (f o35 (f o91 (f we z z) z) (f vI (f wH z z) z))))) (f boot_o_5 (f boot_o_9 (f o17 (f o33 (f o65 (f o12 z z) z) (f o97 (f wj z z) z)) (f o49 (f o81 (f vV z z) z) (f vD (f o12 z z) z))) (f o11 (f o41 (f o73 (f o12 z z) z) (f vy (f o11 z z) z)) (f o57 (f o89 (f o11 z z) z) (f o11 (f wF z z) z)))) (f o13 (f o21 (f o37 (f o69 (f vO z z) z) (f vt (f o12 z z) z)) (f o53 (f o85 (f vY z z) z) (f o11 (f o11 z z) z))) (f o11 (f o45 (f o77 (f vT z z) z) (f vA (f wx z z) z)) (f o61 (f o93 (f o11 z z) z) (f vJ z z)))))) (f boot_o_2 (f boot_o_4 (f boot_o_8 (f o12 (f o32 (f o64 (f o11 z z) z) (f o23 (f o11 z z) z)) (f o23 (f o80 (f o12 z z) z) (f vC (f o11 z z) z))) (f o24 (f o40 (f o23 (f o11 z z) z) (f vx (f wv z z) z)) (f o56 (f o88 (f vZ z z) z) (f vH (f o11 z z) z)))) (f Al (f o20 (f o23 (f o68 (f vN z z) z) (f vq (f o11 z z) z)) (f o52 (f o23 (f vX z z) z) (f vE (f wD z z) z))) (f o28 (f o44 (f o76 (f vS z z) z) (f o12 (f o11 z z) z)) (f o23 (f o92 (f wf z z) z) (f o11 z z))))) (f boot_o_6 (f boot_o_10 (f o11 (f o34 (f o11 (f vM z z) z) (f o11 (f wk z z) z)) (f o11 (f o82 (f o11 z z) z) (f o11 (f wB z z) z))) (f o12 (f o11 (f o11 (f vR z z) z) (f vz (f o12 z z) z)) (f o58 (f o11 (f wc z z) z) (f o12 (f wG z z) z)))) (f o14 (f o22 (f o11 (f o70 (f vP z z) z) (f o11 (f wn z z) z)) (f o11 (f o11 (f o11 z z) z) (f vF (f o12 z z) z))) (f o30 (f o46 (f o11 (f vU z z) z) (f o11 (f wz z z) z)) (f o11 (f o94 (f o12 z z) z) (f vK z z)))))))
abbrev s0(w:F7)(os:OsState):SharedT:=%[t0 w.params,188,{ },(Array.mk []),%[0,0,0|0],447|os]
abbrev p0:Pos:=%[82,0,86|58]
abbrev st0:IF Stmt:=(pt.main.body.drop 0).take 33
theorem q0(w:F7):(λ os=>segRunT treeTable pt w m0 an 1 1990 (sB w os) %[(execs st0 en).wrap doneF deadEnd id id,cE,pB|B])=λ os=>some (.next,s0 w os,cE,p0):=by rw[PySem.W.Fast.te10110043849684766642,PySem.W.Fast.te14364793385576792824,PySem.W.Fast.te12563942051412417395];kernel_rfl
def Aq(P:Params):Obj:=%[(.type L0),none,(.dict #[e P S0 165 (.str bP 570),e P S2 166 .none,e P S3 167 .none,e P S4 168 (.builtin Ak),e P S5 169 .none,e P zQ 170 (.ref 6),e P zR 171 (.ref 4),e P zS 173 (.str jG 172),e P zT 174 .none,e P kM 193 (.ref 21),e P iW 213 (.ref 31),e P nq 229 (.ref 44),e P nu 245 (.ref 56),e P nv 261 (.ref 68),e P nz 277 (.ref 80),e P nA 293 (.ref 92),e P nC 309 (.ref 104),e P kN 319 (.ref 113),e P kO 326 (.ref 120),e P kP 333 (.ref 127),e P kQ 341 (.ref 134),e P uM 345 (.str uN 344),e P uO 347 (.str uP 346),e P uQ 348 (.ref 135),e P kR 363 (.ref 142),e P uR 367 (.int 4 366),e P kS 377 (.ref 149),e P kT 391 (.ref 156),e P kU 399 (.ref 163),e P kW 405 (.ref 168),e P uS 407 (.str zU 406),e P uT 409 (.str uU 408),e P uV 413 (.str zV 412),e P uW 415 (.str zW 414),e P kX 427 (.ref 175),e P kY 433 (.ref 180),e P kZ 446 (.ref 187),e P nF 464 (.ref 194),e P nG 470 (.ref 199),e P zZ 474 (.int 8 473),e P Aa 476 (.int 5 475),e P nH 488 (.ref 206),e P nI 495 (.ref 213),e P jH 569 (.ref 268),e P nJ 579 (.ref 279),e P nL 587 (.ref 286),e P nM 596 (.ref 293),e P nN 604 (.ref 300),e P nO 613 (.ref 307),e P nP 621 (.ref 314),e P nQ 634 (.ref 321),e P nR 645 (.ref 328),e P nS 655 (.ref 335),e P nT 666 (.ref 342),e P nU 674 (.ref 349),e P nV 685 (.ref 356),e P nW 708 (.ref 363),e P nX 721 (.ref 370),e P nY 730 (.ref 377),e P nZ 738 (.ref 384),e P oe 744 (.ref 389),e P og 764 (.ref 396),e P oh 770 (.ref 401),e P oi 776 (.ref 406),e P oj 791 (.ref 413),e P om 797 (.ref 418),e P oq 806 (.ref 425),e P ot 816 (.ref 432),e P ou 822 (.ref 437),e P oz 834 (.ref 444),e P oA 847 (.ref 451),e P oB 864 (.ref 458),e P qJ 879 (.ref 465)] 73)|#[]]
def tP(P:Params):Obj:=%[.none,none,(.fields #[.int 1 0,.int 0 0,.ref 20,.int 5 0,.int 0 0,.ref 27,.int 7 0,.int 0 0,.ref 40,.int 9 0,.int 0 0,.ref 52,.int 11 0,.int 0 0,.ref 64,.int 13 0,.int 0 0,.ref 76,.int 15 0,.int 0 0,.ref 88,.int 17 0,.int 0 0,.ref 100,.int 20 0,.int 0 0,.ref 112,.int 22 0,.int 0 0,.ref 119,.int 24 0,.int 0 0,.ref 126,.int 26 0,.int 0 0,.ref 133,.int 33 0,.int 0 0,.ref 141,.int 40 0,.int 0 0,.ref 148,.int 44 0,.int 0 0,.ref 155,.int 48 0,.int 0 0,.ref 162,.int 50 0,.int 0 0,.ref 167,.int 65 0,.int 0 0,.ref 174,.int 73 0,.int 0 0,.ref 179,.int 82 0,.int 0 0,.ref 186,.int 87 0,.int 0 0,.ref 193,.int 102 0,.int 0 0,.ref 198,.int 109 0,.int 0 0,.ref 205,.int 116 0,.int 0 0,.ref 212,.int 118 0,.int 0 0,.ref 219,.int 156 0,.int 0 0,.ref 278,.int 160 0,.int 0 0,.ref 285,.int 162 0,.int 0 0,.ref 292,.int 169 0,.int 0 0,.ref 299,.int 172 0,.int 0 0,.ref 306,.int 176 0,.int 0 0,.ref 313,.int 179 0,.int 0 0,.ref 320,.int 187 0,.int 0 0,.ref 327,.int 190 0,.int 0 0,.ref 334,.int 197 0,.int 0 0,.ref 341,.int 201 0,.int 0 0,.ref 348,.int 203 0,.int 0 0,.ref 355,.int 210 0,.int 0 0,.ref 362,.int 231 0,.int 0 0,.ref 369,.int 237 0,.int 0 0,.ref 376,.int 240 0,.int 0 0,.ref 383,.int 242 0,.int 0 0,.ref 388,.int 247 0,.int 0 0,.ref 395,.int 261 0,.int 0 0,.ref 400,.int 272 0,.int 0 0,.ref 405,.int 283 0,.int 0 0,.ref 412,.int 294 0,.int 0 0,.ref 417,.int 304 0,.int 0 0,.ref 424,.int 309 0,.int 0 0,.ref 431,.int 314 0,.int 0 0,.ref 436,.int 325 0,.int 0 0,.ref 443,.int 332 0,.int 0 0,.ref 450,.int 340 0,.int 0 0,.ref 457,.int 356 0,.int 0 0,.ref 464])|#[]]
def Ar(P:Params):Obj:=%[(.type L68),none,(.seq #[.str sR 450,.str sS 451,.str sT 452,.str zY 453,.str Fk 454,.str Fl 455,.str Fm 456,.str Fn 457,.str Fo 458,.str Fp 459,.str Fq 460,.str Fs 461] 0)|#[]]
def As:=g3 nF 33
def At:=g4 nF 447 nF 87 4 188 462
def Au:=g5 nF 33 nj 410 193
def Av:=g3 nG 34
def Aw:=g15 nG 465 nG 102 4 195
def Ax:=g5 nG 34 nj 410 198
def Ay:=g16 qF 480 qG qH Ft oC Fu
def Az:=g3 nH 38
def AA:=g4 nH 477 nH 109 1 200 486
def AB:=g5 nH 38 oE 471 205
def AC:=g2 nD 492
def AD:=g3 nI 39
def AE:=g4 nI 489 nI 116 1 207 493
def AF:=g5 nI 39 oE 471 212
def AG(P:Params):Obj:=%[(.type L0),none,(.dict #[e P qB 503 (.str oE 471),e P zX 505 (.str jH 504),e P qD 507 (.int 118 506),e P qK 513 (.ref 225),e P nE 520 (.ref 232),e P qL 527 (.ref 239),e P oC 533 (.ref 244),e P qM 540 (.ref 251),e P qN 549 (.ref 258),e P qO 559 (.ref 265),e P qE 562 (.ref 266)] 11)|#[]]
def AH(P:Params):Obj:=%[.none,none,(.fields #[.int 120 0,.int 4 0,.ref 224,.int 131 0,.int 4 0,.ref 231,.int 134 0,.int 4 0,.ref 238,.int 137 0,.int 4 0,.ref 243,.int 140 0,.int 4 0,.ref 250,.int 143 0,.int 4 0,.ref 257,.int 148 0,.int 4 0,.ref 264])|#[]]
def AI:=g0 jH 498 118 217
def AJ:=g1 219 216 oE 471
def g18(x0 x1:Str)(x2:Nat)(P:Params):Obj:=%[.none,none,(.func %[x0,x1,L2.defArgs (L2.inClass (tp 40) x2),(.stmts (L2.defBody (L2.inClass (tp 40) x2))),L2.defScope (L2.inClass (tp 40) x2),0,[],.none,.none,.none,.none,none,.none,.none|0])|#[]]
def AK:=g18 qK uY 0
def AL:=g15 qK 508 uY 120 3 221
def g19(x0 x1:Str)(x2 x3:Nat)(P:Params):Obj:=%[(.type Am),none,(.func %[x0,x1,L2.defArgs (L2.inClass (tp 40) x2),(.stmts (L2.defBody (L2.inClass (tp 40) x2))),L2.defScope (L2.inClass (tp 40) x2),3,[],.none,.none,.none,.str oE 471,none,.ref x3,.none|0])|#[]]
def AM:=g19 qK uY 0 224
def AN:=g2 qQ 517
def AO:=g18 nE uZ 1
def AQ:=g4 nE 514 uZ 131 1 226 518
def AR:=g19 nE uZ 1 231
def AS:=g2 qQ 524
def AT:=g18 qL va 2
def AU:=g4 qL 521 va 134 1 233 525
def AV:=g19 qL va 2 238
def AW:=g18 oC vb 3
def AX:=g15 oC 528 vb 137 1 240
def AY:=g19 oC vb 3 243
def AZ:=g2 qQ 537
def Ba:=g18 qM vc 4
def Bb:=g4 qM 534 vc 140 1 245 538
def Bc:=g19 qM vc 4 250
def g20(x0:Str)(x1:Nat)(x2 x3:Str)(P:Params):Obj:=%[(.type L68),none,(.seq #[.str x0 x1,.str x2 (x1+1),.str x3 (x1+2)] 0)|#[]]
def Bd:=g20 qQ 544 nD qI
def Be:=g18 qN vd 5
def Bf:=g4 qN 541 vd 143 3 252 547
def Bg:=g19 qN vd 5 257
def Bh:=g14 qQ 553 nD qI Fv
def Bi:=g18 qO ve 6
def Bj:=g4 qO 550 ve 148 3 259 557
def Bk:=g19 qO ve 6 264
def Bl:=g12 Fw 560 Fx 561
def Bm(P:Params):Obj:=%[(.type L0),none,(.dict #[e P qB 503 (.str oE 471),e P qD 507 (.int 118 506),e P qK 513 (.ref 225),e P nE 520 (.ref 232),e P qL 527 (.ref 239),e P oC 533 (.ref 244),e P qM 540 (.ref 251),e P qN 549 (.ref 258),e P qO 559 (.ref 265),e P qE 562 (.ref 266),e P Ab 564 (.ref 269),e P uX 566 (.ref 270),e P S2 567 .none] 4)|#[]]
abbrev FX:=SL.s11443829558043349243x14
def Bn(P:Params):Obj:=%[(.type L69),none,(.cls %[jH,[.type L60],[.ref 268,.type L60],267,jH,true,[],[],false,none|false])|#[none,none,some (.str jH 496),some (.str jH 504),some (.builtin FX),some (.bool true)]]
abbrev FY:=SL.s6511155373996960695x17
abbrev FZ:=SL.s12411053484034534018x21
def Bo(P:Params):Obj:=%[(.type Ap),none,(.fields #[.str Ab 563,.ref 268,.builtin FY,.builtin FZ])|#[]]
def Bp:=g7 565 268
def Bq:=g8 268
def Br:=g9 268
def Bs:=g12 Ac 575 lf 576
def Bt:=g3 nJ 42
def Bu:=g4 nJ 572 nJ 156 2 273 577
def Bv:=g5 nJ 42 bP 570 278
def Bw:=g12 Fy 583 lf 584
def By:=g3 nL 43
def Bz:=g4 nL 580 nL 160 2 280 585
def BA:=g5 nL 43 bP 570 285
def BB:=g20 gH 591 vf Fz
def BC:=g3 nM 44
def BD:=g4 nM 588 nM 162 2 287 594
def BE:=g5 nM 44 bP 570 292
def BF:=g12 gH 600 vg 601
def BG:=g3 nN 45
def BH:=g4 nN 597 nN 169 1 294 602
def BI:=g5 nN 45 bP 570 299
def BJ:=g20 gH 608 vh FA
def BK:=g3 nO 46
def BL:=g4 nO 605 nO 172 3 301 611
def BM:=g5 nO 46 bP 570 306
def BN:=g12 gH 617 vg 618
def BO:=g3 nP 47
def BP:=g4 nP 614 nP 176 1 308 619
def BQ:=g5 nP 47 bP 570 313
def BR:=g17 gH 625 vh FB FC lf gI gJ
def BS:=g3 nQ 48
def BU:=g4 nQ 622 nQ 179 2 315 632
def BV:=g5 nQ 48 bP 570 320
def g21(x0:Nat)(x1 x2 x3 x4:Str)(P:Params):Obj:=%[(.type L68),none,(.seq #[.str gK x0,.str x1 (x0+1),.str x2 (x0+2),.str x3 (x0+3),.str x4 (x0+4)] 0)|#[]]
def BW:=g21 638 sV vi gI gJ
def BX:=g3 nR 49
def BY:=g4 nR 635 nR 187 3 322 643
def BZ:=g5 nR 49 bP 570 327
def Ca:=g14 gK 649 lg lf sV
def Cb:=g3 nS 50
def Cc:=g4 nS 646 nS 190 1 329 653
def Cd:=g5 nS 50 bP 570 334
def Ce:=g21 659 gI gJ Ad Ae
def Cf:=g3 nT 51
def Cg:=g4 nT 656 nT 197 5 336 664
def Ch:=g5 nT 51 bP 570 341
def Ci:=g12 FD 670 FE 671
def Cj:=g3 nU 52
def Ck:=g4 nU 667 nU 201 2 343 672
def Cl:=g5 nU 52 bP 570 348
def Cm:=g21 678 gI gJ Af vj
def Cn:=g3 nV 53
def Co:=g4 nV 675 nV 203 4 350 683
def Cp:=g5 nV 53 bP 570 355
def Cq(P:Params):Obj:=%[(.type L68),none,(.seq #[.str gK 689,.str FF 690,.str Af 691,.str vk 692,.str vm 693,.str gI 694,.str gJ 695,.str Ad 696,.str Ae 697,.str FG 698,.str FH 699,.str vn 700,.str vo 701,.str Ag 702,.str FI 703,.str FJ 704,.str FK 705] 0)|#[]]
def Cr:=g3 nW 54
def Cs:=g4 nW 686 nW 210 3 357 706
def Ct:=g5 nW 54 bP 570 362
def Cu:=g17 Ah 712 lg vk vm gI gJ FL
def Cv:=g3 nX 55
def Cw:=g4 nX 709 nX 231 1 364 719
def Cy:=g5 nX 55 bP 570 369
def Cz:=g20 gK 725 Ai vj
def CA:=g3 nY 56
def CB:=g4 nY 722 nY 237 2 371 728
def CC:=g5 nY 56 bP 570 376
def CD:=g12 vn 734 vo 735
def CF:=g3 nZ 57
def CG:=g4 nZ 731 nZ 240 2 378 736
def CI:=g5 nZ 57 bP 570 383
def CJ:=g3 oe 58
def CK:=g15 oe 739 oe 242 5 385
def CL:=g5 oe 58 bP 570 388
def CM(P:Params):Obj:=%[(.type L68),none,(.seq #[.str gH 748,.str gK 749,.str gI 750,.str gJ 751,.str lh 752,.str vf 753,.str vg 754,.str lg 755,.str lf 756,.str sV 757,.str vi 758,.str vk 759,.str vm 760,.str FM 761] 0)|#[]]
def CN:=g3 og 59
def CO:=g4 og 745 og 247 6 390 762
def CP:=g5 og 59 bP 570 395
def CQ:=g3 oh 60
def CS:=g15 oh 765 oh 261 4 397
def CT:=g5 oh 60 bP 570 400
def CU:=g3 oi 61
def CV:=g15 oi 771 oi 272 3 402
def CW:=g5 oi 61 bP 570 405
def CY:=g13 gH 780 gK sV vi vj vf Ag lg lf
def CZ:=g3 oj 62
def Da:=g4 oj 777 oj 283 2 407 789
def Db:=g5 oj 62 bP 570 412
def Dc:=g3 om 63
def Dd:=g15 om 792 om 294 2 414
def De:=g5 om 63 bP 570 417
def Df:=g20 gK 801 lh FN
def Dg:=g3 oq 64
def Dh:=g4 oq 798 oq 304 2 419 804
def Di:=g5 oq 64 bP 570 424
def Dj:=g14 gH 810 lh lg Ai
def Dk:=g3 ot 65
def Dl:=g4 ot 807 ot 309 2 426 814
def Dm:=g5 ot 65 bP 570 431
def Do:=g3 ou 66
def Dp:=g15 ou 817 ou 314 3 433
def Dq:=g5 ou 66 bP 570 436
def Dr:=g16 gK 826 gI gJ lh lg Ah
def Ds:=g3 oz 67
def Du:=g4 oz 823 oz 325 5 438 832
def Dv:=g5 oz 67 bP 570 443
def Dw:=g17 gH 838 gK gI gJ lh Aj FO
def Dx:=g3 oA 68
def Dy:=g4 oA 835 oA 332 5 445 845
def Dz:=g5 oA 68 bP 570 450
def DA(P:Params):Obj:=%[(.type L68),none,(.seq #[.str gH 851,.str gK 852,.str gI 853,.str gJ 854,.str lh 855,.str vo 856,.str vn 857,.str FP 858,.str Aj 859,.str lg 860,.str FQ 861] 0)|#[]]
def DB:=g3 oB 69
def DF:=g4 oB 848 oB 340 5 452 862
def DG:=g5 oB 69 bP 570 457
def DH:=g13 Ac 868 lf gH vh gK gI gJ FR lh
def DN:=g3 qJ 70
def DO:=g4 qJ 865 qJ 356 1 459 877
def DQ:=g5 qJ 70 bP 570 464
def t1:Params->BT:=(f boot_o_0 (f boot_o_1 (f Aq (f boot_o_7 (f o11 (f o31 (f o12 (f vL (f o11 z z) (f CG z z)) (f o11 (f BS z z) (f Dw z z))) (f o35 (f wg (f o11 z z) (f o12 z z)) (f AK (f o12 z z) z))) (f o35 (f o79 (f o11 (f Bq z z) (f CQ z z)) (f o11 (f Cd z z) (f DN z z))) (f vB (f wA (f BJ z z) (f Dl z z)) (f AV (f o11 z z) z)))) (f o23 (f o12 (f o35 (f vQ (f Bi z z) (f o12 z z)) (f Ax (f BY z z) (f o11 z z))) (f vw (f wr (f o12 z z) (f Dg z z)) (f AQ (f Cq z z) z))) (f o55 (f o12 (f o12 (f Bv z z) (f o11 z z)) (f o23 (f o11 z z) z)) (f vG (f wE (f o11 z z) (f o12 z z)) (f AZ (f CA z z) z))))) (f o11 (f o19 (f o35 (f o67 (f o11 (f o11 z z) (f CJ z z)) (f o11 (f o12 z z) (f Dz z z))) (f o12 (f wm (f BC z z) (f o11 z z)) (f o12 (f Co z z) z))) (f o12 (f o35 (f vW (f Bs z z) (f o12 z z)) (f AD (f o11 z z) z)) (f o12 (f wC (f BM z z) (f Do z z)) (f AX (f o11 z z) z)))) (f o27 (f o43 (f o12 (f o11 (f Bm z z) (f CO z z)) (f o11 (f Ca z z) (f o11 z z))) (f o11 (f ww (f BH z z) (f o12 z z)) (f AS (f Ct z z) z))) (f o35 (f o91 (f we (f o11 z z) (f CZ z z)) (f AI (f Cj z z) z)) (f vI (f wH (f o11 z z) (f Du z z)) (f Bc (f o12 z z) z)))))) (f boot_o_5 (f boot_o_9 (f o17 (f o33 (f o65 (f o12 (f Bf z z) (f o11 z z)) (f At (f BV z z) (f Dx z z))) (f o97 (f wj (f BB z z) (f Dd z z)) (f AM (f o11 z z) z))) (f o49 (f o81 (f vV (f o11 z z) (f CT z z)) (f AC (f o12 z z) (f DQ z z))) (f vD (f o12 (f BK z z) (f o11 z z)) (f o12 (f Cw z z) z)))) (f o11 (f o41 (f o73 (f o12 (f Bk z z) (f o11 z z)) (f o12 (f o11 z z) (f DF z z))) (f vy (f o11 (f o11 z z) (f Di z z)) (f o11 (f Cr z z) z))) (f o57 (f o89 (f o11 (f o12 z z) (f CY z z)) (f o11 (f Ci z z) z)) (f o11 (f wF (f BP z z) (f o11 z z)) (f Ba (f CC z z) z))))) (f o13 (f o21 (f o37 (f o69 (f vO (f Bh z z) (f CL z z)) (f Av (f o11 z z) (f o12 z z))) (f vt (f o12 (f BE z z) (f Df z z)) (f o11 (f o11 z z) z))) (f o53 (f o85 (f vY (f Bt z z) (f CV z z)) (f AF (f Cg z z) z)) (f o11 (f o11 (f o12 z z) (f Dq z z)) (f o11 (f Cz z z) z)))) (f o11 (f o45 (f o77 (f vT (f Bo z z) (f o11 z z)) (f AA (f Cb z z) (f DH z z))) (f vA (f wx (f o11 z z) (f o11 z z)) (f AT (f o12 z z) z))) (f o61 (f o93 (f o11 (f Bz z z) (f Db z z)) (f o11 (f Cl z z) z)) (f vJ (f o12 (f BR z z) (f o11 z z)) (f o12 (f o11 z z) z))))))) (f boot_o_2 (f boot_o_4 (f boot_o_8 (f o12 (f o32 (f o64 (f o11 (f Be z z) (f CI z z)) (f As (f BU z z) (f o11 z z))) (f o23 (f o11 (f o12 z z) (f Dc z z)) (f AL (f Cm z z) z))) (f o23 (f o80 (f o12 (f Br z z) (f CS z z)) (f o12 (f o11 z z) (f DO z z))) (f vC (f o11 (f o11 z z) (f Dm z z)) (f o11 (f Cv z z) z)))) (f o24 (f o40 (f o23 (f o11 (f Bj z z) (f CM z z)) (f o11 (f BZ z z) (f DB z z))) (f vx (f wv (f BF z z) (f Dh z z)) (f AR (f o11 z z) z))) (f o56 (f o88 (f vZ (f o11 z z) (f o12 z z)) (f AG (f o12 z z) z)) (f vH (f o11 (f BO z z) (f Dr z z)) (f o11 (f CB z z) z))))) (f tP (f o20 (f o23 (f o68 (f vN (f o12 z z) (f CK z z)) (f o12 (f BW z z) (f o11 z z))) (f vq (f o11 (f BD z z) (f o12 z z)) (f AN (f Cp z z) z))) (f o52 (f o23 (f vX (f o11 z z) (f CU z z)) (f AE (f Cf z z) z)) (f vE (f wD (f o11 z z) (f Dp z z)) (f AY (f o12 z z) z)))) (f o28 (f o44 (f o76 (f vS (f Bn z z) (f CP z z)) (f Az (f o11 z z) (f o12 z z))) (f o12 (f o11 (f BI z z) (f Dj z z)) (f o11 (f o11 z z) z))) (f o23 (f o92 (f wf (f By z z) (f Da z z)) (f AJ (f Ck z z) z)) (f o11 (f o11 (f o12 z z) (f Dv z z)) (f o11 (f CD z z) z)))))) (f boot_o_6 (f boot_o_10 (f o11 (f o34 (f o11 (f vM (f Bg z z) (f o12 z z)) (f Au (f o11 z z) (f Dy z z))) (f o11 (f wk (f o11 z z) (f De z z)) (f o11 (f Cn z z) z))) (f o11 (f o82 (f o11 (f o12 z z) (f o11 z z)) (f o11 (f Ce z z) z)) (f o11 (f wB (f BL z z) (f o12 z z)) (f AW (f Cy z z) z)))) (f o12 (f o11 (f o11 (f vR (f Bl z z) (f CN z z)) (f Ay (f o12 z z) (f DG z z))) (f vz (f o12 (f BG z z) (f o11 z z)) (f o12 (f Cs z z) z))) (f o58 (f o11 (f wc (f Bw z z) (f o11 z z)) (f AH (f o11 z z) z)) (f o12 (f wG (f BQ z z) (f Ds z z)) (f Bb (f o11 z z) z))))) (f o14 (f o22 (f o11 (f o70 (f vP (f o11 z z) (f o11 z z)) (f Aw (f BX z z) (f DA z z))) (f o11 (f wn (f o11 z z) (f o11 z z)) (f AO (f o12 z z) z))) (f o11 (f o11 (f o11 (f Bu z z) (f CW z z)) (f o11 (f Ch z z) z)) (f vF (f o12 (f BN z z) (f o11 z z)) (f o12 (f o11 z z) z)))) (f o30 (f o46 (f o11 (f vU (f Bp z z) (f o12 z z)) (f AB (f Cc z z) (f o11 z z))) (f o11 (f wz (f o12 z z) (f Dk z z)) (f AU (f Cu z z) z))) (f o11 (f o94 (f o12 (f BA z z) (f o11 z z)) (f o12 (f o11 z z) z)) (f vK (f Ar (f o11 z z) (f o12 z z)) (f Bd (f CF z z) z))))))))
abbrev s1(w:F7)(os:OsState):SharedT:=%[t1 w.params,466,{ },(Array.mk []),%[0,0,0|0],880|os]
abbrev p1:Pos:=%[356,0,376|15]
abbrev st1:IF Stmt:=(pt.main.body.drop 33).take 38
theorem q1(w:F7):(λ os=>segRunT treeTable pt w m0 an 1 1509 (s0 w os) %[(execs st1 en).wrap doneF deadEnd id id,cE,p0|B])=λ os=>some (.next,s1 w os,cE,p1):=by rw[PySem.W.Fast.te10110043849684766642,PySem.W.Fast.te14364793385576792824,PySem.W.Fast.te12563942051412417395];kernel_rfl
def hF(P:Params):Heap:=%[%[|[boot_o_0 P,boot_o_1 P,boot_o_2 P,Aq P,boot_o_4 P,boot_o_5 P,boot_o_6 P,boot_o_7 P,boot_o_8 P,boot_o_9 P,boot_o_10 P,o11 P,tP P,o13 P,o14 P,o11 P,o12 P,o17 P,o11 P,o19 P,o20 P,o21 P,o22 P,o23 P,o24 P,o11 P,o12 P,o27 P,o28 P,o11 P,o30 P,o31 P,o32 P,o33 P,o34 P,o35 P,o23 P,o37 P,o11 P,o12 P,o40 P,o41 P,o11 P,o43 P,o44 P,o45 P,o46 P,o35 P,o23 P,o49 P,o11 P,o12 P,o52 P,o53 P,o11 P,o55 P,o56 P,o57 P,o58 P,o35 P,o23 P,o61 P,o11 P,o12 P,o64 P,o65 P,o11 P,o67 P,o68 P,o69 P,o70 P,o35 P,o23 P,o73 P,o11 P,o12 P,o76 P,o77 P,o11 P,o79 P,o80 P,o81 P,o82 P,o35 P,o23 P,o85 P,o11 P,o12 P,o88 P,o89 P,o11 P,o91 P,o92 P,o93 P,o94 P,o35 P,o23 P,o97 P,o11 P,o12 P,vq P,vt P,o11 P,vw P,vx P,vy P,vz P,o11 P,o12 P,vA P,o11 P,vB P,vC P,vD P,o11 P,o12 P,vE P,o11 P,vF P,vG P,vH P,o11 P,o12 P,vI P,o11 P,vJ P,vK P,vL P,o11 P,o12 P,vM P,o11 P,vN P,vO P,vP P,vQ P,o11 P,o12 P,vR P,o11 P,vS P,vT P,vU P,o11 P,o12 P,vV P,o11 P,vW P,vX P,vY P,o11 P,o12 P,vZ P,o11 P,wc P,we P,wf P,o11 P,o12 P,wg P,o11 P,wj P,wk P,wm P,o11 P,o12 P,wn P,wr P,wv P,o11 P,o12 P,ww P,o11 P,wx P,wz P,wA P,o11 P,o12 P,wB P,wC P,wD P,o11 P,o12 P,wE P,o11 P,wF P,wG P,wH P,o11 P,o12 P,Ar P,o11 P,As P,At P,Au P,o11 P,o12 P,Av P,Aw P,Ax P,o11 P,o12 P,Ay P,o11 P,Az P,AA P,AB P,o11 P,o12 P,AC P,o11 P,AD P,AE P,AF P,o11 P,o23 P,AG P,o11 P,AH P,AI P,AJ P,o11 P,o12 P,AK P,AL P,AM P,o11 P,o12 P,AN P,o11 P,AO P,AQ P,AR P,o11 P,o12 P,AS P,o11 P,AT P,AU P,AV P,o11 P,o12 P,AW P,AX P,AY P,o11 P,o12 P,AZ P,o11 P,Ba P,Bb P,Bc P,o11 P,o12 P,Bd P,o11 P,Be P,Bf P,Bg P,o11 P,o12 P,Bh P,o11 P,Bi P,Bj P,Bk P,Bl P,Bm P,Bn P,Bo P,Bp P,Bq P,Br P,o11 P,o12 P,Bs P,o11 P,Bt P,Bu P,Bv P,o11 P,o12 P,Bw P,o11 P,By P,Bz P,BA P,o11 P,o12 P,BB P,o11 P,BC P,BD P,BE P,o11 P,o12 P,BF P,o11 P,BG P,BH P,BI P,o11 P,o12 P,BJ P,o11 P,BK P,BL P,BM P,o11 P,o12 P,BN P,o11 P,BO P,BP P,BQ P,o11 P,o12 P,BR P,o11 P,BS P,BU P,BV P,o11 P,o12 P,BW P,o11 P,BX P,BY P,BZ P,o11 P,o12 P,Ca P,o11 P,Cb P,Cc P,Cd P,o11 P,o12 P,Ce P,o11 P,Cf P,Cg P,Ch P,o11 P,o12 P,Ci P,o11 P,Cj P,Ck P,Cl P,o11 P,o12 P,Cm P,o11 P,Cn P,Co P,Cp P,o11 P,o12 P,Cq P,o11 P,Cr P,Cs P,Ct P,o11 P,o12 P,Cu P,o11 P,Cv P,Cw P,Cy P,o11 P,o12 P,Cz P,o11 P,CA P,CB P,CC P,o11 P,o12 P,CD P,o11 P,CF P,CG P,CI P,o11 P,o12 P,CJ P,CK P,CL P,o11 P,o12 P,CM P,o11 P,CN P,CO P,CP P,o11 P,o12 P,CQ P,CS P,CT P,o11 P,o12 P,CU P,CV P,CW P,o11 P,o12 P,CY P,o11 P,CZ P,Da P,Db P,o11 P,o12 P,Dc P,Dd P,De P,o11 P,o12 P,Df P,o11 P,Dg P,Dh P,Di P,o11 P,o12 P,Dj P,o11 P,Dk P,Dl P,Dm P,o11 P,o12 P,Do P,Dp P,Dq P,o11 P,o12 P,Dr P,o11 P,Ds P,Du P,Dv P,o11 P,o12 P,Dw P,o11 P,Dx P,Dy P,Dz P,o11 P,o12 P,DA P,o11 P,DB P,DF P,DG P,o11 P,o12 P,DH P,o11 P,DN P,DO P,DQ P]]|{ }]
abbrev sF(w:F7)(os:OsState):F4:=%[hF w.params,(Array.mk []),%[0,0,0|0],880|os]
theorem fin(w:F7):(λ os=>topRun treeTable pt w m0 an 2 (s1 w os).abs ⟨doneF .next,cE,p1,B⟩)=λ os=>some (sF w os):=by rw[PySem.W.Fast.te14082659384304107361,PySem.W.Fast.te14364793385576792824];kernel_rfl
theorem sW:behindTheImports pt=st0 ++ (st1 ++ ([])):=by kernel_rfl
abbrev MM:Nat:=12+(1+(1990+(1509+2)))
theorem wI(w:F7)(os:OsState):topRun treeTable pt w m0 an MM (sZ w os) (topStub pt)=some (sF w os) :=
 go_top (congrFun (pre w) os) (piece_block (congrFun (blk w) os) (sW ▸ (piece_app (l:=st0) (segRun_of (congrFun (q0 w) os)) (piece_app (l:=st1) (segRun_of (congrFun (q1 w) os)) (piece_nil (congrFun (fin w) os))))))
def loose:IF Str:=[kM,iW,nq,nu,nv,nz,nA,nC,kN,kO,kP,kQ,uM,uO,uQ,kR,uR,kS,kT,kU,kW,uS,uT,uV,uW,kX,kY,kZ,nF,nG,zZ,Aa,nH,nI,jH,nJ,nL,nM,nN,nO,nP,nQ,nR,nS,nT,nU,nV,nW,nX,nY,nZ,oe,og,oh,oi,oj,om,oq,ot,ou,oz,oA,oB]
abbrev NN:Nat:=7120
abbrev q:F5:=view pt [70]
abbrev Xt:F4->Bool:=λ s=>xlAt q [] s && recOk [] s
theorem size(w:F7):((boot_heap w.params).isNs IG && (Array.mk []:IE GenState).size == 0,(boot_heap w.params).objs.size,(boot_heap w.params).nsMap IG "__annotations__")=(true,m0,an):=by rw[PySem.W.Fast.te8920871248978507458];kernel_rfl
theorem DV(w:F7):(λ os=>((staticsOk (importedModules pt.main.body) (boot_heap w.params) (hF w.params) && namesBound pt (hF w.params) && gensDone (sF w os) && laidKept (boot_heap w.params) (hF w.params)),openSeen q loose (importedModules pt.main.body) Xt true (sF w os),HK.obs (sF w os)))=λ _=>(true,openGood q loose,HK.val w):=by rw[PySem.W.Fast.te4187177175401517315,PySem.W.Fast.te5923862056798008813];kernel_rfl
theorem left:LeftO pt q loose Xt HK.obs HK.val NN true:=LeftO.of_pieces (boot_open (by kernel_rfl) ∅ (λ s=>rfl)) size wI ∅ DV
end Hd
open PySem PySem.W PyProof.Rows
set_option maxRecDepth 100000 in
set_option maxHeartbeats 0 in
theorem PySem.Challenge.cw_platecuts_k33_whole_a_tree_or_a_knot_holds : PySem.Challenge.rw_platecuts_k33_whole_a_tree_or_a_knot.Holds := by
 w_on;o_law
 refine holds_open (q:=view PySem.Challenge.pw_platecuts_k33_whole_a_tree_or_a_knot [70]) (loose:=Hd.loose) (Xt:=λ s=>xlAt (view PySem.Challenge.pw_platecuts_k33_whole_a_tree_or_a_knot [70]) [] s && recOk [] s) (XP:=XL (view PySem.Challenge.pw_platecuts_k33_whole_a_tree_or_a_knot [70]) []) (Yf:=Hook.obs Hd.HK) (Ya:=Hook.val Hd.HK) (YP:=InK Pc.kK) (N:=Hd.NN) ?hl (Hook.of Hd.HK) (Hook.keeps Hd.HK) (λ s e=>xl_of s (C7.mp e).1) XL.keeps (by rfl) (by rfl) (by rfl) (λ s e=>recFacts_of (C7.mp e).2) (by rfl) (by first | assumption | decide +kernel) (by decide +kernel) ⟨rfl,rfl,rfl,rfl,rfl,by decide +kernel⟩ ?hw ?hc
 case hl=>exact Hd.pt_eq ▸ Hd.left
 case hw=>w_witness2
 k_fill
 refine Pc.walk (l:=PySem.Challenge.rw_platecuts_k33_whole_a_tree_or_a_knot) rfl rfl (λ w h Y=>Y) ?F
 case F=>
  intro w mg fa h KX G hmg;refine' Pc.all_mk KX G hmg ?d0 ?d1 ?d2 ?d3 ?d4 ?d5 ?d6 ?d7 ?d8 ?d9 ?d10 ?d11 ?d12 ?d13 ?d14 ?d15 ?d16 ?d17 ?d18 ?d19 ?d20 ?d21 ?d22 ?d23 ?d24 ?d25 ?d26 ?d27 ?d28 ?d29 ?d30 ?d31 ?d32 ?d33 ?d34 ?d35 ?d36 ?d37 ?d38 ?d39 ?d40 ?d41 ?d42 ?d43 ?d44 ?aC ?dm0 ?dm1 ?dm2 ?dm3 ?pg ?hd ?po ?sa ?mk ?kc ?n0 ?n1 ?eWAYS ?lWAYS ?z0 ?z1 ?z2 ?z3 ?z4 ?z5 ?z6 ?z7 ?z8 ?z9 ?z10 ?z11 ?z12 ?z13 ?z14 ?z15 ?z16 ?z17 ?uc0 ?uc1 ?uc2 ?uc3 ?uc4 ?uc5 ?uc6 ?uc7
  (case d0 | d1 | d2 | d3 | d4 | d5 | d6 | d7 | d8 | d9 | d10 | d11 | d12 | d13 | d14 | d15 | d16 | d17 | d18 | d19 | d20 | d21 | d22 | d23 | d24 | d25 | d26 | d27 | d28 | d29 | d30 | d31 | d32 | d33 | d34 | d35 | d36 | d37 | d38 | d39 | d40 | d41 | d42 | d43 | d44=>refine' Pc.diM ?a ?l ?c ?k;(case a=>k_is);(case l=>k_is);(case c=>k_is);(case k=>k_is))
  (case aC=>k_is)
  (case dm0 | dm1 | dm2 | dm3=>refine' Pc.miM ?a ?i ?l ?c ?k;(case a=>k_is);(case i=>k_is);(case l=>k_is);(case c=>k_is);(case k=>k_is))
  (case pg | hd | po | sa | mk | kc | n0 | n1 | eWAYS=>k_is)
  (case lWAYS=>exact⟨_,_,_,Z,Z,Z,by decide,.cons ⟨_,Z⟩ (.cons ⟨_,Z⟩ .nil)⟩)
  (case z0 | z1 | z2 | z3 | z4 | z5 | z6 | z7 | z8 | z9 | z10 | z11 | z12 | z13 | z14 | z15 | z16 | z17 | uc0 | uc1 | uc2 | uc3 | uc4 | uc5 | uc6 | uc7=>k_is)